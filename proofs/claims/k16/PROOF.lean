import PyProof.Rows.All
import Wide.All
import OpenK.AllK
import Wide.FinOn
import HandS.ForMost
import HandS.Wide
import HandS.Gcd
import HandS.IsInst
import HandS.TupAny
import HandS.Style
import PyProof.ReprBulk
import PyProof.ReprRoads
import PyProof.ReprLen
import PyProof.Rows.SumAny
import PyProof.WalksMore
import HandS.SetFor
import HandS.Strs
import HandS.TupMul
import HandS.Text
import HandS.Codes
import HandS.FStr
import PyProof.Rows.Digits
import KE.KExcInit
import HandS.ExcInit
import HandS.ExcValue
import HandS.ExcField
import HandS.ExcIs
import HandS.ClsMeth
import KE.KExcIs
import KE.KTryMore
import HandS.TryMany
import HandS.Lambda
import KE.KDflt
import HandS.EndTab
import KE.KExcLine
import HandS.ExcOwn
import KE.KMathG
import HandS.Deep
import PyProof.Rows.InDataRows
import HandS.Property
import HandS.Star
import HandS.MakeKwOnly
import HandS.WordsExc
import KE.RegKIsAll
import PySem.Challenge.RW_wheelnines_k16_dials_refused
set_option Elab.async false
set_option linter.all false
set_option maxRecDepth 100000
set_option maxHeartbeats 4000000
namespace Wn
open PySem PySem.Spec PyProof.Rows L2
/-! a def of the text as it stands: where, its facts, its name -/
structure Dn (K : PySem.W.Frag) (mg : Str → Option Value) (x : Str) (st : Stmt) (ps : List Str) where
  f : Addr
  fd : FuncData
  F : Fun K x x st f fd
  e : ∀ us : List Value, us.length = ps.length → bindArgs fd ⟨us, []⟩ = pure (ps.zip us)
  m : mg x = some (.ref f)
theorem Dn.b {K : PySem.W.Frag} {mg : Str → Option Value} {x : Str} {st : Stmt} {ps : List Str} (D : Dn K mg x st ps) : Binds K D.fd ps [] := .all D.e
def Dn.of {K : PySem.W.Frag} {h : Heap} {mg : Str → Option Value} {x : Str} {st : Stmt} {ps : List Str} {f : Addr} {oc kV doc pm cdv ct : Value} {od an : Option Addr} {osl : Array (Option Value)} (X : K.In h) (G : h.Ns mainGlobals mg)
    (hb : ∀ us : List Value, us.length = ps.length → bindArgs (PySem.W.fnOf x x (defArgs st) (defBody st) (defScope st) .none kV doc pm an cdv ct) ⟨us, []⟩ = pure (ps.zip us))
    (a : PySem.W.nsIn K mainGlobals x = some (some (.ref f))) (l : K.lookup f = some ⟨oc, od, .func (PySem.W.fnOf x x (defArgs st) (defBody st) (defScope st) .none kV doc pm an cdv ct), osl⟩)
    (c : PySem.W.codeIn K cdv x = true) (k : PySem.W.keepIn K (.ref f) = true) : Dn K mg x st ps := ⟨f, _, fun_mk l c k, hb, PySem.W.mg_of X G a⟩
/-! all that stood stands, but what is at W -/
def Gr (W : List Addr) (H H' : Hp) : Prop := ∀ a o, a ∉ W → H a = some o → H' a = some o
theorem Gr.refl (W : List Addr) (H : Hp) : Gr W H H := fun _ _ _ h => h
theorem Gr.trans {W : List Addr} {H H1 H2 : Hp} (a : Gr W H H1) (b : Gr W H1 H2) : Gr W H H2 := fun x o n h => b x o n (a x o n h)
theorem Gr.new {W : List Addr} {H : Hp} {p : Addr} {o : HO} (h : H p = none) : Gr W H (upd H p o) := fun a u _ e => by
  rw [upd_ne (ne_of_none e h)]
  exact e
theorem Gr.wr {W : List Addr} {H : Hp} {p : Addr} {o : HO} (h : p ∈ W) : Gr W H (upd H p o) := fun a u n e => by
  have z : a ≠ p := fun z => by
    subst z
    exact n h
  rw [upd_ne z]
  exact e
theorem Gr.mono {W W' : List Addr} {H H' : Hp} (h : ∀ a, a ∈ W → a ∈ W') (g : Gr W H H') : Gr W' H H' := fun a o n e => g a o (fun z => n (h a z)) e
end Wn
/-! the mathematics: powers, remainders, pure parts, periods, heads -/
namespace Wn
theorem cop_pow {a b : Nat} (h : Nat.gcd a b = 1) (k : Nat) : Nat.gcd (a ^ k) b = 1 := Nat.Coprime.pow_left k h
theorem mod_iff {p a c : Nat} (h : a ≤ c) : a % p = c % p ↔ p ∣ c - a := by
  constructor
  · intro e
    exact Nat.dvd_of_mod_eq_zero (Nat.sub_mod_eq_zero_of_mod_eq e.symm)
  · rintro ⟨t, e⟩
    have : c = a + p * t := by omega
    rw [this, Nat.add_mul_mod_self_left]
/-! a pigeonhole -/
theorem nodup_le : ∀ (n : Nat) (l : List Nat), l.Nodup → (∀ x ∈ l, x < n) → l.length ≤ n := by
  intro n
  induction n with
  | zero =>
    intro l _ h
    cases l with
    | nil => exact Nat.le_refl _
    | cons x r => exact absurd (h x (List.mem_cons_self ..)) (Nat.not_lt_zero _)
  | succ n ih =>
    intro l nd h
    have h1 := ih (l.erase n) (nd.erase n) (fun x hx => by
      have hm := List.mem_of_mem_erase hx
      have hlt := h x hm
      have hne : x ≠ n := fun e => by
        subst e
        exact (List.Nodup.not_mem_erase nd) hx
      omega)
    by_cases hn : n ∈ l
    · rw [List.length_erase_of_mem hn] at h1
      omega
    · rw [List.erase_of_not_mem hn] at h1
      omega
/-- among n + 1 numbers below n two are the same -/
theorem pigeon (n : Nat) (f : Nat → Nat) (h : ∀ i, i ≤ n → f i < n) : ∃ i j, i < j ∧ j ≤ n ∧ f i = f j := by
  by_cases nd : ((List.range (n + 1)).map f).Nodup
  · have := nodup_le n _ nd (fun x hx => by
      obtain ⟨i, hi, e⟩ := List.mem_map.mp hx
      rw [← e]
      exact h i (by have := List.mem_range.mp hi; omega))
    rw [List.length_map, List.length_range] at this
    omega
  · rw [List.nodup_iff_pairwise_ne, List.pairwise_map] at nd
    apply Classical.byContradiction
    intro hc
    apply nd
    rw [List.pairwise_iff_getElem]
    intro i j hi hj hij e
    rw [List.getElem_range, List.getElem_range] at e
    rw [List.length_range] at hj
    exact hc ⟨i, j, hij, by omega, e⟩
/-! pure parts -/
def IsPure (b n p : Nat) : Prop := Nat.gcd b p = 1 ∧ ∃ q k, n = p * q ∧ q ∣ b ^ k
theorem cop_of_dvd_pow {b p q k : Nat} (h : Nat.gcd b p = 1) (hq : q ∣ b ^ k) : Nat.gcd p q = 1 := by
  have h1 : Nat.gcd (b ^ k) p = 1 := cop_pow h k
  have h2 : Nat.gcd p q ∣ Nat.gcd (b ^ k) p := Nat.dvd_gcd (Nat.dvd_trans (Nat.gcd_dvd_right p q) hq) (Nat.gcd_dvd_left p q)
  rw [h1] at h2
  exact Nat.dvd_one.mp h2
theorem IsPure.dvd {b n p p' : Nat} (h : IsPure b n p) (h' : IsPure b n p') : p ∣ p' := by
  obtain ⟨g, q, k, e, hq⟩ := h
  obtain ⟨g', q', k', e', hq'⟩ := h'
  have c : Nat.Coprime p q' := cop_of_dvd_pow g hq'
  refine c.dvd_of_dvd_mul_right ?_
  rw [← e', e]
  exact Nat.dvd_mul_right p q
theorem IsPure.uniq {b n p p' : Nat} (h : IsPure b n p) (h' : IsPure b n p') : p = p' := Nat.dvd_antisymm (h.dvd h') (h'.dvd h)
theorem IsPure.self {b n : Nat} (h : Nat.gcd b n = 1) : IsPure b n n := ⟨h, 1, 0, by simp, by simp⟩
/-! periods -/
def IsPer (b p d : Nat) : Prop := 1 ≤ d ∧ b ^ d % p = 1 % p ∧ ∀ j, 1 ≤ j → j < d → b ^ j % p ≠ 1 % p
theorem IsPer.uniq {b p d d' : Nat} (h : IsPer b p d) (h' : IsPer b p d') : d = d' := by
  obtain ⟨h1, h2, h3⟩ := h
  obtain ⟨g1, g2, g3⟩ := h'
  apply Nat.le_antisymm
  · apply Nat.le_of_not_lt
    intro l
    exact h3 d' g1 l g2
  · apply Nat.le_of_not_lt
    intro l
    exact g3 d h1 l h2
theorem least (P : Nat → Prop) [DecidablePred P] : ∀ n, P n → ∃ m, m ≤ n ∧ P m ∧ ∀ j, j < m → ¬ P j := by
  intro n
  induction n using Nat.strongRecOn with
  | _ n ih =>
    intro hn
    by_cases h : ∃ j, j < n ∧ P j
    · obtain ⟨j, hj, pj⟩ := h
      obtain ⟨m, hm, pm, q⟩ := ih j hj pj
      exact ⟨m, by omega, pm, q⟩
    · exact ⟨n, Nat.le_refl _, hn, fun j hj pj => h ⟨j, hj, pj⟩⟩
/-- a common factor that is pure may go: b ^ i * c ≡ b ^ i * d -/
theorem mod_cancel {p a c d : Nat} (g : Nat.gcd a p = 1) (h : a * c % p = a * d % p) : c % p = d % p := by
  have key : ∀ {c d : Nat}, c ≤ d → a * c % p = a * d % p → c % p = d % p := by
    intro c d hcd h
    have h1 : p ∣ a * (d - c) := by
      rw [Nat.mul_sub]
      exact (mod_iff (Nat.mul_le_mul_left a hcd)).mp h
    have h2 : p ∣ d - c := Nat.Coprime.dvd_of_dvd_mul_left (Nat.Coprime.symm g) h1
    exact (mod_iff hcd).mpr h2
  rcases Nat.le_total c d with l | l
  · exact key l h
  · exact (key l h.symm).symm
theorem per_exists {b p : Nat} (hp : 1 ≤ p) (g : Nat.gcd b p = 1) : ∃ d, d ≤ p ∧ IsPer b p d := by
  obtain ⟨i, j, hij, hj, e⟩ := pigeon p (fun k => b ^ k % p) (fun i _ => Nat.mod_lt _ hp)
  have e1 : b ^ (j - i) % p = 1 % p := by
    have e' : b ^ i * b ^ (j - i) % p = b ^ i * 1 % p := by
      rw [← Nat.pow_add, show i + (j - i) = j by omega, Nat.mul_one]
      exact e.symm
    exact mod_cancel (cop_pow g i) e'
  obtain ⟨m, hm, ⟨pm1, pm⟩, q⟩ := least (fun k => 1 ≤ k ∧ b ^ k % p = 1 % p) (j - i) ⟨by omega, e1⟩
  exact ⟨m, by omega, pm1, pm, fun k k1 kl z => q k kl ⟨k1, z⟩⟩
theorem pow_mod_step (b p k : Nat) : b ^ k % p * b % p = b ^ (k + 1) % p := by
  rw [Nat.mod_mul_mod, Nat.pow_succ]
theorem IsPer.mul {b p d : Nat} (h : IsPer b p d) (k : Nat) : b ^ (d * k) % p = 1 % p := by
  induction k with
  | zero => simp
  | succ k ih =>
    rw [Nat.mul_succ, Nat.pow_add, Nat.mul_mod, ih, h.2.1, ← Nat.mul_mod, Nat.mul_one]
theorem IsPer.iff {b p d : Nat} (h : IsPer b p d) (k : Nat) : b ^ k % p = 1 % p ↔ d ∣ k := by
  have e : b ^ k % p = b ^ (k % d) % p := by
    have := Nat.div_add_mod k d
    rw [show b ^ k = b ^ (d * (k / d) + k % d) by rw [this], Nat.pow_add, Nat.mul_mod, h.mul, ← Nat.mul_mod, Nat.one_mul]
  constructor
  · intro hk
    rw [e] at hk
    apply Nat.dvd_of_mod_eq_zero
    apply Classical.byContradiction
    intro hz
    exact h.2.2 (k % d) (by omega) (Nat.mod_lt _ h.1) hk
  · rintro ⟨m, rfl⟩
    exact h.mul m
/-! heads -/
def IsHead (b q h : Nat) : Prop := b ^ h % q = 0 ∧ ∀ j, j < h → b ^ j % q ≠ 0
theorem IsHead.uniq {b q h h' : Nat} (a : IsHead b q h) (c : IsHead b q h') : h = h' := by
  apply Nat.le_antisymm
  · apply Nat.le_of_not_lt
    intro l
    exact a.2 h' l c.1
  · apply Nat.le_of_not_lt
    intro l
    exact c.2 h l a.1
theorem head_exists {b q k : Nat} (h : q ∣ b ^ k) : ∃ m, m ≤ k ∧ IsHead b q m := by
  obtain ⟨m, hm, pm, r⟩ := least (fun j => b ^ j % q = 0) k (Nat.mod_eq_zero_of_dvd h)
  exact ⟨m, hm, pm, r⟩
theorem IsHead.iff {b q h : Nat} (a : IsHead b q h) (k : Nat) : q ∣ b ^ k ↔ h ≤ k := by
  constructor
  · intro d
    apply Nat.le_of_not_lt
    intro l
    exact a.2 k l (Nat.mod_eq_zero_of_dvd d)
  · intro l
    have d : q ∣ b ^ h := Nat.dvd_of_mod_eq_zero a.1
    rw [show k = h + (k - h) by omega, Nat.pow_add]
    exact Nat.dvd_trans d (Nat.dvd_mul_right _ _)
theorem head_le {b q h : Nat} (hq : 1 ≤ q) (a : IsHead b q h) : h ≤ q := by
  apply Nat.le_of_not_lt
  intro l
  -- among the first q + 1 remainders two are the same: then none is nought behind
  obtain ⟨i, j, hij, hj, e⟩ := pigeon q (fun k => b ^ k % q) (fun i _ => Nat.mod_lt _ hq)
  have key : ∀ k, b ^ (i + k) % q = b ^ (j + k) % q := by
    intro k
    rw [Nat.pow_add, Nat.pow_add, Nat.mul_mod, e, ← Nat.mul_mod]
  have hz : b ^ (j + (h - j)) % q = 0 := by
    rw [show j + (h - j) = h by omega]
    exact a.1
  rw [← key] at hz
  exact a.2 (i + (h - j)) (by omega) hz
/-! remainders -/
def rem (b n x i : Nat) : Nat := x * b ^ i % n
theorem rem_lt {b n x i : Nat} (h : 1 ≤ n) : rem b n x i < n := Nat.mod_lt _ h
theorem rem_succ (b n x i : Nat) : rem b n x i * b % n = rem b n x (i + 1) := by
  unfold rem
  rw [Nat.mod_mul_mod, Nat.pow_succ, Nat.mul_assoc]
theorem rem_zero {b n x : Nat} (h : x < n) : rem b n x 0 = x := by
  unfold rem
  rw [Nat.pow_zero, Nat.mul_one, Nat.mod_eq_of_lt h]
/-- THE RING: when remainders come again -/
theorem rem_eq {b n x p q h L i j : Nat} (gx : Nat.gcd x n = 1) (e : n = p * q) (gp : Nat.gcd b p = 1) (gq : Nat.gcd p q = 1) (hh : IsHead b q h) (hL : IsPer b p L) (hij : i < j) :
    rem b n x i = rem b n x j ↔ h ≤ i ∧ L ∣ j - i := by
  have hle : b ^ i ≤ b ^ j ∨ b = 0 := by
    rcases Nat.eq_zero_or_pos b with z | z
    · exact .inr z
    · exact .inl (Nat.pow_le_pow_right z (Nat.le_of_lt hij))
  have hs : b ^ j = b ^ i * b ^ (j - i) := by rw [← Nat.pow_add, show i + (j - i) = j by omega]
  unfold rem
  constructor
  · intro hr
    have h1 : b ^ i % n = b ^ j % n := mod_cancel gx hr
    have hp : b ^ i % p = b ^ j % p := by
      have := congrArg (· % p) h1
      rw [e, Nat.mod_mul_right_mod, Nat.mod_mul_right_mod] at this
      exact this
    have hq : b ^ i % q = b ^ j % q := by
      have := congrArg (· % q) h1
      rw [e, Nat.mod_mul_left_mod, Nat.mod_mul_left_mod] at this
      exact this
    have dL : L ∣ j - i := by
      rw [← hL.iff]
      refine mod_cancel (cop_pow gp i) ?_
      rw [← hs, Nat.mul_one]
      exact hp.symm
    refine ⟨?_, dL⟩
    rw [← hh.iff]
    -- q divides b ^ i * (b ^ (j - i) - 1), and b ^ (j - i) is a multiple that goes on: take many turns
    have key : ∀ k, b ^ i % q = b ^ (i + (j - i) * k) % q := by
      intro k
      induction k with
      | zero => simp
      | succ k ih =>
        rw [show i + (j - i) * (k + 1) = (j - i) + (i + (j - i) * k) by rw [Nat.mul_succ]; omega, Nat.pow_add, Nat.mul_mod, ← ih, ← Nat.mul_mod, ← Nat.pow_add, show (j - i) + i = j by omega]
        exact hq
    have hz : b ^ (i + (j - i) * h) % q = 0 := by
      apply Nat.mod_eq_zero_of_dvd
      rw [hh.iff]
      have : h ≤ (j - i) * h := Nat.le_mul_of_pos_left h (by omega)
      omega
    exact Nat.dvd_of_mod_eq_zero ((key h).trans hz)
  · rintro ⟨h1, h2⟩
    have hp : b ^ (j - i) % p = 1 % p := (hL.iff _).mpr h2
    have hqd : q ∣ b ^ i := (hh.iff i).mpr h1
    have hpd : b ^ i % p = b ^ j % p := by
      rw [hs, Nat.mul_mod, hp, ← Nat.mul_mod, Nat.mul_one]
    have both : b ^ i % n = b ^ j % n := by
      rcases hle with hle | hb
      · apply (mod_iff hle).mpr
        rw [e]
        refine Nat.Coprime.mul_dvd_of_dvd_of_dvd gq ?_ ?_
        · exact (mod_iff hle).mp hpd
        · rw [hs, ← Nat.mul_sub_one]
          exact Nat.dvd_trans hqd (Nat.dvd_mul_right _ _)
      · subst hb
        have hp1 : p = 1 := by rw [Nat.gcd_zero_left] at gp; exact gp
        subst hp1
        rw [Nat.one_mul] at e
        subst e
        rw [Nat.mod_eq_zero_of_dvd hqd, Nat.mod_eq_zero_of_dvd (by rw [hs]; exact Nat.dvd_trans hqd (Nat.dvd_mul_right _ _))]
    rw [Nat.mul_mod, both, ← Nat.mul_mod]
/-! all of a denominator in a base -/
structure Par (b n p q h L : Nat) : Prop where
  hp : IsPure b n p
  e : n = p * q
  hh : IsHead b q h
  hL : IsPer b p L
theorem pure_exists (b : Nat) : ∀ n, 1 ≤ n → ∃ p, IsPure b n p := by
  intro n
  induction n using Nat.strongRecOn with
  | _ n ih =>
    intro hn
    by_cases g : Nat.gcd b n = 1
    · exact ⟨n, IsPure.self g⟩
    · obtain ⟨c, hc⟩ := Nat.gcd_dvd_right b n
      have hg : 1 ≤ Nat.gcd b n := Nat.gcd_pos_of_pos_right b hn
      have hc1 : 1 ≤ c := by
        rcases Nat.eq_zero_or_pos c with z | z
        · rw [z] at hc
          omega
        · exact z
      have hcn : c < n := by
        have hg2 : 2 ≤ Nat.gcd b n := by omega
        have : 2 * c ≤ Nat.gcd b n * c := Nat.mul_le_mul_right c hg2
        omega
      obtain ⟨p, hp, q, k, e, d⟩ := ih c hcn hc1
      refine ⟨p, hp, Nat.gcd b n * q, k + 1, ?_, ?_⟩
      · conv => lhs; rw [hc, e]
        rw [Nat.mul_left_comm]
      · rw [Nat.pow_succ, Nat.mul_comm (b ^ k) b]
        exact Nat.mul_dvd_mul (Nat.gcd_dvd_left b n) d
theorem par_exists {b n : Nat} (hn : 1 ≤ n) : ∃ p q h L, Par b n p q h L := by
  obtain ⟨p, hp⟩ := pure_exists b n hn
  obtain ⟨g, q, k, e, d⟩ := id hp
  obtain ⟨h, _, hh⟩ := head_exists d
  have hp1 : 1 ≤ p := by
    rcases Nat.eq_zero_or_pos p with z | z
    · rw [z] at e
      omega
    · exact z
  obtain ⟨L, _, hL⟩ := per_exists hp1 g
  exact ⟨p, q, h, L, hp, e, hh, hL⟩
section
variable {b n p q h L : Nat}
theorem Par.p1 (P : Par b n p q h L) (hn : 1 ≤ n) : 1 ≤ p := by
  rcases Nat.eq_zero_or_pos p with z | z
  · have := P.e
    rw [z] at this
    omega
  · exact z
theorem Par.q1 (P : Par b n p q h L) (hn : 1 ≤ n) : 1 ≤ q := by
  rcases Nat.eq_zero_or_pos q with z | z
  · have := P.e
    rw [z] at this
    omega
  · exact z
theorem Par.pn (P : Par b n p q h L) (hn : 1 ≤ n) : p ≤ n := Nat.le_of_dvd hn ⟨q, P.e⟩
theorem Par.qn (P : Par b n p q h L) (hn : 1 ≤ n) : q ≤ n := Nat.le_of_dvd hn ⟨p, by rw [P.e, Nat.mul_comm]⟩
theorem Par.Ln (P : Par b n p q h L) (hn : 1 ≤ n) : L ≤ n := by
  obtain ⟨d, hd, hd'⟩ := per_exists (P.p1 hn) P.hp.1
  have := hd'.uniq P.hL
  have := P.pn hn
  omega
theorem Par.hn (P : Par b n p q h L) (hn : 1 ≤ n) : h ≤ n := Nat.le_trans (head_le (P.q1 hn) P.hh) (P.qn hn)
theorem Par.gq (P : Par b n p q h L) (hn : 1 ≤ n) : Nat.gcd p q = 1 := by
  obtain ⟨g, q', k, e, d⟩ := P.hp
  have : q' = q := by
    have := P.e
    rw [e] at this
    exact Nat.eq_of_mul_eq_mul_left (P.p1 hn) this
  subst this
  exact cop_of_dvd_pow g d
/-- the end of a row of remainders -/
theorem ring_end {x i j : Nat} (P : Par b n p q h L) (hn : 1 ≤ n) (gx : Nat.gcd x n = 1) (hd : ∀ u v, u < v → v < i → rem b n x u ≠ rem b n x v) (hj : j < i) (e : rem b n x j = rem b n x i) : i = h + L ∧ j = h := by
  have F := fun {u v : Nat} (l : u < v) => rem_eq (x := x) gx P.e P.hp.1 (P.gq hn) P.hh P.hL l
  obtain ⟨h1, h2⟩ := (F hj).mp e
  have hL1 := P.hL.1
  have hle := Nat.le_of_dvd (by omega) h2
  have hi : i ≤ h + L := by
    apply Nat.le_of_not_lt
    intro l
    exact hd h (h + L) (by omega) l ((F (by omega)).mpr ⟨Nat.le_refl _, by rw [show h + L - h = L by omega]; exact Nat.dvd_refl _⟩)
  omega
end
end Wn
namespace Wn
open PySem PySem.Spec PyProof.Rows L2
theorem CallR.imp {X : Cx} {f : Value} {r r' : List V → Hp → VK → Prop} (h : CallR X f r) (i : ∀ vs H Q, r' vs H Q → r vs H Q) : CallR X f r' :=
  fun pins s σ H vs us Q I rv x => h pins s σ H vs us Q I rv (i _ _ _ x)
/-! the built-in type of a value -/
def isB (T n : String) : Bool := T == n || (T == "bool" && n == "int")
def tyNames : List String := ["NoneType", "bool", "int", "str", "list", "tuple", "dict"]
def qyNames : List String := ["bool", "int", "str", "list", "tuple", "dict"]
theorem isB_ok : ∀ T ∈ tyNames, ∀ n ∈ qyNames, kitB T n = some (isB T n) := by decide +kernel
def rIs (K : PySem.W.Frag) : List V → Hp → VK → Prop := fun xs H Q => ∃ (x : V) (n : String), xs = [x, .ty n] ∧ ∃ T : String, (TyX K H x (.type T) ∧ T ∈ tyNames ∧ n ∈ qyNames) ∧ Q (.bl (isB T n)) H
theorem call_is {X : Cx} : CallR X (.builtin "isinstance") (rIs X.K) := CallR.imp call_isi fun vs H Q h => by
  obtain ⟨x, n, e, T, ⟨h1, h2, h3⟩, q⟩ := h
  exact ⟨x, .ty n, .type T, .type n, isB T n, e, .ty n, h1, kit_ty (isB_ok T h2 n h3), q⟩
theorem ty_int {K : PySem.W.Frag} {H : Hp} {i : Int} : TyX K H (.int i) (.type "int") := .base (.int i)
theorem ty_tup {K : PySem.W.Frag} {H : Hp} {a : Addr} {xs : List V} (h : H a = some (.tup xs)) : TyX K H (.ref a) (.type "tuple") := .base (.tup h)
theorem cxK {CX : CXT} {P : Program} {w : World} {K : PySem.W.Frag} {mg : Str → Option Value} {base : Heap} {N : List Str} {q : Str} {sc : Scope} {f : Addr} {cdv : Value} {A : Around} {outer : List Env} {s : Shared} {H : Hp} {E : XK} :
    (cxOf CX P w K mg base N q sc f cdv A outer s H E).nox.K = K := rfl
theorem cxK2 {CX : CXT} {P : Program} {w : World} {K : PySem.W.Frag} {mg : Str → Option Value} {base : Heap} {N : List Str} {q : Str} {sc : Scope} {f : Addr} {cdv : Value} {A : Around} {outer : List Env} {s : Shared} {H : Hp} {E : XK} :
    (cxOf CX P w K mg base N q sc f cdv A outer s H E).K = K := rfl
theorem start1 (x : Str) (N : List Str) (v : V) (vs : List V) : L2.start (x :: N) (v :: vs) = some v :: L2.start N vs := by
  unfold L2.start
  simp
theorem start2 (x : Str) (N : List Str) : L2.start (x :: N) [] = none :: L2.start N [] := by
  unfold L2.start
  simp [List.replicate_succ]
theorem start3 : L2.start [] [] = [] := rfl
theorem sq_tup {K : PySem.W.Frag} {H : Hp} {a : Addr} {xs : List V} (h : H a = some (.tup xs)) : SqT K H a xs := .inl (.inl h)
theorem sq_lst {K : PySem.W.Frag} {H : Hp} {a : Addr} {xs : List V} (h : H a = some (.lst xs)) : SqL K H a xs := .inl (.inl h)
theorem slA_of {K : PySem.W.Frag} {H : Hp} {a : Addr} {xs : List V} {lo hi : Option Int} {Q : VK} (h : H a = some (.tup xs)) (q : ∀ p H', Gr [] H H' → H' p = some (.tup (cutV xs lo hi)) → Q (.ref p) H') : rSlA K (.ref a) lo hi H Q := by
  refine ⟨a, xs, rfl, sq_tup h, ?_, ?_⟩
  · intro e
    refine q a H (Gr.refl _ _) ?_
    have z : cutV xs lo hi = xs := by
      unfold cutV
      rw [e.1, e.2, List.drop_zero, Nat.sub_zero, List.take_length]
    rw [z]
    exact h
  · intro _ p np
    exact q p _ (Gr.new np) upd_same
def rLn (K : PySem.W.Frag) : List V → Hp → VK → Prop := fun xs H Q => ∃ p ys, xs = [.ref p] ∧ (SqL K H p ys ∨ SqT K H p ys) ∧ Q (.int ys.length) H
theorem call_ln {X : Cx} : CallR X (.builtin "len") (rLn X.K) := call_len_seq
def rLsO (K : PySem.W.Frag) : List V → Hp → VK → Prop := fun xs H Q => ∃ p ys, xs = [.ref p] ∧ (SqL K H p ys ∨ SqT K H p ys) ∧ ∀ l, H l = none → Q (.ref l) (upd H l (.lst ys))
theorem call_lsO {X : Cx} : CallR X (.type "list") (rLsO X.K) := call_list_of
def rTpO (K : PySem.W.Frag) : List V → Hp → VK → Prop := fun xs H Q => ∃ p ys, xs = [.ref p] ∧ ((SqL K H p ys ∧ ∀ l, H l = none → Q (.ref l) (upd H l (.tup ys))) ∨ (SqT K H p ys ∧ Q (.ref p) H))
theorem call_tpO {X : Cx} : CallR X (.type "tuple") (rTpO X.K) := call_tuple_of
theorem cut_lo {xs : List V} {k : Nat} (h : k ≤ xs.length) : cutV xs none (some (k : Int)) = xs.take k := by
  unfold cutV
  rw [HT.sIx_nat, HT.sIx_none, List.drop_zero, Nat.sub_zero, Nat.min_eq_left h]
theorem cut_hi {xs : List V} {k : Nat} (h : k ≤ xs.length) : cutV xs (some (k : Int)) none = xs.drop k := by
  unfold cutV
  rw [HT.sIx_nat, HT.sIx_none, Nat.min_eq_left h]
  exact List.take_of_length_le (by rw [List.length_drop]; omega)
theorem icm (a b n : Nat) : (a : Int) * (b : Int) % (n : Int) = ((a * b % n : Nat) : Int) := by
  rw [← Int.natCast_mul, ← Int.natCast_emod]
theorem icd (a b n : Nat) : (a : Int) * (b : Int) / (n : Int) = ((a * b / n : Nat) : Int) := by
  rw [← Int.natCast_mul, ← Int.natCast_ediv]
local macro_rules | `(tactic| walk_at "vc") => `(tactic| simp only [cxK, cxK2, start1, start2, start3, tRet, tRetN, tSeq, tNext, tIfS, tAsg, gName, tDrop, tVar, tC, tOp, tUn, tTest, tB, tNot, tAnd, tOr, tAndV, tOrV, tNotV, tIf, tCons, tNil, tCB, tCall, tChain, tAug, ipI, rI, rI0, rU, rIs, rGcd, rEq, rNe, scal,
  List.getElem?_cons_zero, List.getElem?_cons_succ, List.set_cons_zero, List.set_cons_succ, Option.some.injEq, List.cons.injEq, V.int.injEq, V.bl.injEq, V.ref.injEq, V.str.injEq, and_true, true_and, exists_eq_left, exists_eq_left', exists_and_left, exists_and_right, List.append_nil, List.nil_append, List.cons_append, exists_eq_right, exists_eq_right', and_assoc, exists_const, V.ty.injEq, ↓reduceIte, Bool.false_eq_true, Bool.not_true, Bool.not_false, decide_eq_true_eq])
end Wn
/-! contracts where nothing is being shown (no repr runs around): for defs that ask repr of lists, tuples, dicts -/
namespace Wn
open PySem PySem.Spec PyProof.Rows L2
structure FnG (P : Program) (w : World) (K : PySem.W.Frag) (mg : Str → Option Value) (base : Heap) (CX : CXT) (k : Nat) (f : Addr) (fd : FuncData) (ps : List Str) (sp : Sp) : Prop where
  sz : ∀ vs H Q E, sp vs H Q E → vs.length = ps.length
  go : ∀ (A : Around), A.guards = some [] → Room k A → ∀ (outer : List Env) (s : Shared) (H : Hp) (args : Args) (us : List Value) (vs : List V) (Q : VK) (E : XK),
    Env0 P w K mg base A outer s H → BindsTo s fd args (ps.zip us) → Vals vs us → sp vs H Q E → codeAny (model P w) A (.call (.ref f) args) (CR CX outer P w H s Q E) s
section
variable {P : Program} {w : World} {K : PySem.W.Frag} {mg : Str → Option Value} {base : Heap} {CX : CXT} {k : Nat} {f : Addr} {fd : FuncData} {ps : List Str} {sp : Sp}
theorem FnG.of (F : FnOk P w K mg base CX k f fd ps sp) : FnG P w K mg base CX k f fd ps sp :=
  ⟨F.len, fun A _ hr outer s H args us vs Q E e b v h => F.run A outer s H args us vs Q E hr e b v h⟩
theorem FnG.up {j : Nat} (F : FnG P w K mg base CX j f fd ps sp) (h : j ≤ k) : FnG P w K mg base CX k f fd ps sp :=
  ⟨F.sz, fun A hg hr => F.go A hg (hr.mono h)⟩
/-- a def by its body -/
theorem fnG {x qual : Str} {st : Stmt} {N : List Str} (F : Fun K x qual st f fd) (S : FnScope N ps (defScope st)) (sz : ∀ vs H Q E, sp vs H Q E → vs.length = ps.length)
    (body : ∀ (cdv : Value) (A : Around) (outer : List Env) (s : Shared) (H : Hp) (vs : List V) (Q : VK) (E : XK), (A.deeper (envOfC qual (defScope st) s.heap.objs.size f cdv)).guards = some [] →
      Room k (A.deeper (envOfC qual (defScope st) s.heap.objs.size f cdv)) → sp vs H Q E →
      ∃ t, PSs (cxOf CX P w K mg base N qual (defScope st) f cdv A outer s H E) (defBody st) t ∧ t { nx := fun _ H' => Q .non H', rt := Q } (L2.start N vs) H) : FnG P w K mg base CX (k + 1) f fd ps sp := by
  obtain ⟨oc, od, kV, doc, pm, an, cdv, ct, osl, rfl, lk, hcd⟩ := F.ex
  refine ⟨sz, fun A hgd hr outer s H args us vs Q E e0 hb r h => ?_⟩
  have KI : K.In s.heap := e0.mod.kin.keeps fun b o e => (e0.bs b o e).1
  have NL : s.heap.NoLimit := e0.mod.nolimit.keeps fun b o e => (e0.bs b o e).1
  refine codeAny_call_function hr.depth (KI _ _ lk) rfl S.co S.gen rfl (PySem.W.codeRec_of KI hcd) (hb _ _ _ _ ?_)
  refine wpAny_newFunctionEnv_cells S.kind (fun y hy => ?_) fun env he s1 x => ?_
  · obtain ⟨n, v⟩ := y
    rcases S.par n (List.of_mem_zip hy).1 with q | q
    · exact .inl q
    · exact .inr ⟨q, PySem.W.cellsFrom_some _ _ _ (.inl q)⟩
  · subst he
    refine ⟨NL.keeps x.toInCall.keep, codeAny_func ?_⟩
    obtain ⟨t, ht, hq⟩ := body cdv A outer s H vs Q E hgd (hr.deeper _) h
    refine wpAny_mono (ht.run [] s1 _ H _ (inv_start S hr.hd e0 (sz _ _ _ _ h) r x) hq) (fun fl s' z => ?_) fun e s' z => z
    cases fl with
    | ret u =>
      obtain ⟨v, σ', H', J, rv, q⟩ := z
      exact ⟨v, H', J.os, J.bare, J.base, J.hok, rv, q⟩
    | next =>
      obtain ⟨σ', H', J, q⟩ := z
      exact ⟨.non, H', J.os, J.bare, J.base, J.hok, rfl, q⟩
    | brk =>
      obtain ⟨_, _, _, q⟩ := z
      exact q.elim
    | cont =>
      obtain ⟨_, _, _, q⟩ := z
      exact q.elim
/-- no exception leaves it -/
theorem fnG0 {x qual : Str} {st : Stmt} {N : List Str} (F : Fun K x qual st f fd) (S : FnScope N ps (defScope st)) (sz : ∀ vs H Q E, sp vs H Q E → vs.length = ps.length)
    (body : ∀ (cdv : Value) (A : Around) (outer : List Env) (s : Shared) (H : Hp) (vs : List V) (Q : VK) (E : XK), (A.deeper (envOfC qual (defScope st) s.heap.objs.size f cdv)).guards = some [] →
      Room k (A.deeper (envOfC qual (defScope st) s.heap.objs.size f cdv)) → sp vs H Q E →
      ∃ t, PSs (cxOf CX0 P w K mg base N qual (defScope st) f cdv A outer s H E).nox (defBody st) t ∧ t { nx := fun _ H' => Q .non H', rt := Q } (L2.start N vs) H) : FnG P w K mg base CX0 (k + 1) f fd ps sp :=
  fnG F S sz fun cdv A outer s H vs Q E g r h => let ⟨t, ht, q⟩ := body cdv A outer s H vs Q E g r h; ⟨t, ht.nox, q⟩
end
section
variable {X : Cx} {CX : CXT} {k : Nat} {f : Addr} {fd : FuncData} {ps : List Str} {sp : Sp} {dvs : List V} {ds : List Value} {E : XK} {x : Str} {p pos : Pos} {e : Expr} {es : List Expr} {t : TA}
theorem runG {pins : List (Addr × Obj)} {σ : L2.St} {H : Hp} {s : Shared} {Q : VK} {us : List Value} {vs : List V} (F : FnG X.prog X.w X.K X.mg X.base CX k f fd ps sp) (hgd : X.A.guards = some []) (hr : Room k X.A) (hb : Binds X.K fd ps ds) (hd : Vals dvs ds)
    (hx : Passes CX X E) (I : Inv X pins σ H s) (r : Vals vs us) (h : sp (vs ++ dvs) H Q E) : wpAny (model X.prog X.w) X.A (call (.ref f) us) (EP X pins σ Q) X.xe s := by
  have rr := r.append hd
  refine wpAny_call (codeAny_mono (F.go X.A hgd hr X.stack s H ⟨us, []⟩ (us ++ ds) (vs ++ dvs) Q E I.env0 (hb s us I.kIn (rr.length ▸ F.sz _ _ _ _ h)) rr h) fun z s' q => ?_)
  match z, q with
  | .error e, q => exact hx pins σ H s e s' I q
  | .ok (.ret u), q => exact I.after q
  | .ok .next, q => exact q.elim
  | .ok .brk, q => exact q.elim
  | .ok .cont, q => exact q.elim
theorem pe_callG (hgd : X.A.guards = some []) (F : FnG X.prog X.w X.K X.mg X.base CX k f fd ps sp) (hr : Room k X.A) (hg : Gl X x) (hm : X.mg x = some (.ref f)) (hk : PySem.W.keepIn X.K (.ref f) = true) (hb : Binds X.K fd ps ds) (hd : Vals dvs ds) (hx : Passes CX X E)
    (ha : PA X (e :: es) t) (hdb : (x == ("__debug__" : Str)) = false := by decide) (he : starEach (e :: es) X.env = (false, eval e X.env) :: starEach es X.env := by rfl) (hpl : (backTo pos (starEach es X.env)).any (·.1) = false := by rfl) :
    PE X (.Call (.Name x p) (e :: es) [] pos) (tCall sp dvs E t) :=
  ⟨fun pins s σ H Q I h => wpAny_Call_Name_kw (ld_glob I hg hm (PySem.W.callWith_K (h₀ := X.base) I.ok.mod.kin hk (thn (ha.run pos pins s σ H _ I h) fun us s1 ⟨vs, H1, I1, r, q⟩ => ⟨I1.kIn, runG F hgd hr hb hd hx I1 r q⟩) he hpl) hdb)⟩
theorem pe_callG0 (hgd : X.A.guards = some []) (F : FnG X.prog X.w X.K X.mg X.base CX k f fd ps sp) (hr : Room k X.A) (hg : Gl X x) (hm : X.mg x = some (.ref f)) (hk : PySem.W.keepIn X.K (.ref f) = true) (hb : Binds X.K fd ps ds) (hd : Vals dvs ds) (hx : Passes CX X E)
    (hdb : (x == ("__debug__" : Str)) = false := by decide) : PE X (.Call (.Name x p) [] [] pos) (tCall sp dvs E tNil) :=
  ⟨fun pins s σ H Q I h => wpAny_Call_Name_kw (ld_glob I hg hm (PySem.W.callWith_K0 I.kIn hk (runG (us := []) F hgd hr hb hd hx I .nil h)) hdb)⟩
end
/-! the law's own head -/
theorem law_callG {P : Program} {w : World} {K : PySem.W.Frag} {mg mb : Str → Option Value} {CX : CXT} {k : Nat} {fa a : Addr} {fd : FuncData} {x : Str} {sp : Sp} {s1 : Shared} {vs : List Value} {ns : List Int}
    (KX : K.In s1.heap) (hns : s1.heap.Ns mainGlobals mg) (hb : s1.heap.Ns builtinsNs mb) (hbb : ∀ x : Str, x ≠ "__name__" → mb x = bootBuiltins x) (hlim : s1.heap.NoLimit) (hg : s1.gens = #[])
    (ha : s1.heap.get? a = some { cls := .type "list", data := .seq vs.toArray }) (hi : IntsAre vs ns) (hl : ns.length ≤ sizeLine) (hr : Room k callerA)
    (F : ∀ base : Heap, K.In base → base.Ns mainGlobals mg → FnG P w K mg base CX k fa fd [x] sp) (hbind : ∀ (s : Shared) (u : Value), BindsTo s fd ⟨[u], []⟩ [(x, u)])
    (hsp : ∀ H : Hp, Only H → SqL K H a (ns.map V.int) → sp [.ref a] H (fun v _ => v = .bl true) fun _ _ _ => False)
    (hCX : ∀ H e s', CX [] H s1 (fun _ _ _ => False) e s' → False) :
    codeAny (model P w) callerA (.call (.ref fa) ⟨[.ref a], []⟩) (fun r s' => r = .ok (.ret (.bool true)) ∧ OldK s1.heap s'.heap ∧ s'.os = s1.os ∧ AllBare s'.gens) s1 := by
  -- the script is tracked, unless it is one of the text's own objects
  obtain ⟨H, hH⟩ : ∃ H : Hp, H = fun b => if b = a ∧ K.lookup a = none then some (.frz { cls := .type "list", data := .seq vs.toArray } (.lst (ns.map V.int))) else none := ⟨_, rfl⟩
  have at_ : ∀ b u, H b = some u → b = a ∧ K.lookup a = none ∧ u = .frz { cls := .type "list", data := .seq vs.toArray } (.lst (ns.map V.int)) := fun b u z => by
    rw [hH] at z
    dsimp only at z
    split at z
    · rename_i c
      exact ⟨c.1, c.2, (Option.some.inj z).symm⟩
    · cases z
  have off : ∀ b o, s1.heap.get? b = some o → (∀ q, K.lookup b = some q → True) → (∀ n, o.data ≠ .seq vs.toArray n) → H b = none := fun b o e _ d => by
    cases z : H b with
    | none => rfl
    | some u =>
      obtain ⟨rfl, _, _⟩ := at_ b u z
      rw [ha] at e
      cases e
      exact absurd rfl (d _)
  have kb : ∀ b o, K.lookup b = some o → H b = none := fun b o e => by
    cases z : H b with
    | none => rfl
    | some u =>
      obtain ⟨rfl, z2, _⟩ := at_ b u z
      rw [z2] at e
      cases e
  have ok : HOk P w H s1.heap := fun b u z => by
    obtain ⟨rfl, _, rfl⟩ := at_ b u z
    exact ⟨ha, by rw [List.length_map]; exact hl, vs, _, vals_ints hi, ha⟩
  have sq : SqL K H a (ns.map V.int) := by
    cases z : K.lookup a with
    | none =>
      refine .inl (.inr ⟨{ cls := .type "list", data := .seq vs.toArray }, ?_⟩)
      rw [hH]
      exact if_pos ⟨rfl, z⟩
    | some o =>
      have e := KX a o z
      rw [ha] at e
      cases e
      exact .inr ⟨_, vs.toArray, _, z, rfl, rfl, rfl, by rw [List.size_toArray, hi.length]; exact hl, by simpa using vals_ints hi⟩
  have only : Only H := fun b => by
    cases z : H b with
    | none => exact .inl rfl
    | some u =>
      obtain ⟨_, _, rfl⟩ := at_ b u z
      exact .inr ⟨_, _, rfl⟩
  have nsB : ∀ {b : Addr} {m : Str → Option Value}, s1.heap.Ns b m → (hidT s1.heap H).Ns b m := fun {b m} ⟨o, es, ep, e, d, r⟩ => ⟨o, es, ep, hidT_get e (off b o e (fun _ _ => trivial) fun n z => by rw [d] at z; cases z), d, r⟩
  have KB : K.In (hidT s1.heap H) := fun b o e => hidT_get (KX b o e) (kb b o e)
  have M : Mod K mg (hidT s1.heap H) := ⟨KB, nsB hns, ⟨mb, nsB hb, hbb⟩, let ⟨mc, h1, h2⟩ := hlim; ⟨mc, nsB h1, h2⟩⟩
  have E0' : Env0 P w K mg (hidT s1.heap H) callerA [] s1 H := ⟨rfl, M, fun b o e => of_hidT e, Nat.le_of_eq (hidT_size _ _), trivial, fun b z => absurd (show b ∈ ([] : List Addr) from z) (by simp), ok, .of_eq hg⟩
  refine codeAny_mono ((F _ KB (nsB hns)).go callerA rfl hr [] s1 H ⟨[.ref a], []⟩ [.ref a] [.ref a] _ _ E0' (hbind s1 (.ref a)) (.cons rfl .nil) (hsp H only sq)) fun r s' z => ?_
  match r, z with
  | .error e, z => exact (hCX H e s' z).elim
  | .ok .next, z => exact z.elim
  | .ok .brk, z => exact z.elim
  | .ok .cont, z => exact z.elim
  | .ok (.ret u), z =>
    obtain ⟨v, H', os, bare, un, ok', rv, q⟩ := z
    obtain rfl : v = .bl true := q
    obtain rfl : u = Value.bool true := rv
    refine ⟨rfl, OldK.of_keep fun b o e => ?_, os, bare⟩
    cases y : H b with
    | none => exact un.keep b o e y (fun c => absurd (show b ∈ ([] : List Addr) from c) (by simp)) (by simp)
    | some u =>
      obtain ⟨rfl, _, rfl⟩ := at_ b u y
      rw [ha] at e
      cases e
      exact (ok' _ _ (un.frzs _ _ _ y)).1
theorem walkG {l : PySem.W.OpenLaw} {n k : Nat} {q : Program} {loose : List Str} {XP : (Str → Option Value) → Heap → Prop} {YP : World → Heap → Prop} {d : DefRec} {K : Params → PySem.W.Frag} {sp : World → Sp} {x : Str}
    (hn : l.most = some n) (hn2 : n ≤ sizeLine) (hdf : d.params.defaults = []) (hr : Room k callerA) (hY : ∀ (w : World) (h : Heap), YP w h → (K w.params).In h)
    (F : ∀ (w : World) (mg : Str → Option Value) (fa : Addr) (h : Heap), (K w.params).In h → h.Ns mainGlobals mg → mg d.name = some (.ref fa) →
      ∃ fd : FuncData, (∀ (s : Shared) (u : Value), BindsTo s fd ⟨[u], []⟩ [(x, u)]) ∧ ∀ base : Heap, (K w.params).In base → base.Ns mainGlobals mg → FnG l.prog w (K w.params) mg base CX0 k fa fd [x] (sp w))
    (hsp : ∀ (w : World) (H : Hp) (a : Addr) (ns : List Int), ns.length ≤ n → Only H → SqL (K w.params) H a (ns.map V.int) → sp w [.ref a] H (fun v _ => v = .bl true) fun _ _ _ => False) :
    PySem.W.WalkO q loose XP YP l.row.toRowW d [] (fun f vs => PySem.call f vs) :=
  Att.attach_call hn hdf fun w s0 s1 mg mb fa o pm cd doc a vs ns G Y ho hd hcd hmg hobj hints hlen hg => by
    obtain ⟨fd, hb, hF⟩ := F w mg fa _ (hY w _ Y) G.T.g hmg
    exact law_callG (hY w _ Y) G.T.g G.T.b G.T.builtins G.T.nolimit hg hobj hints (Nat.le_trans hlen hn2) hr hF hb (fun H hO hS => hsp w H a ns hlen hO hS) fun H e s' z => z
end Wn
/-! repr of data -/
namespace Wn
open PySem PySem.Spec PyProof.Rows L2
/-- data that repr takes: leaves of at most B signs, weight at most W, depth at most D -/
structure Sm (d : PyData) (B D W : Nat) : Prop where
  show_ : d.showable = true
  leaf : d.leavesShort B = true
  nod : d.hasDict = false
  lay : d.canLay0 = true
  dep : d.depth ≤ D
  wei : d.bulk ≤ W
theorem Sm.all : ∀ {xs : List PyData} {B D W : Nat}, (∀ x ∈ xs, Sm x B D W) → PyData.showableAll xs = true ∧ PyData.leavesShortAll B xs = true ∧ PyData.hasDictAll xs = false ∧ PyData.canLayAll0 xs = true ∧ PyData.depthAll xs ≤ D ∧ PyData.bulkAll xs ≤ xs.length * (W + 1)
  | [], _, _, _, _ => ⟨rfl, rfl, rfl, rfl, Nat.zero_le _, Nat.zero_le _⟩
  | x :: xs, B, D, W, h => by
    obtain ⟨h1, h2, h3, h6, h4, h5⟩ := Sm.all (xs := xs) fun y hy => h y (List.mem_cons_of_mem _ hy)
    have hx := h x (List.mem_cons_self ..)
    refine ⟨?_, ?_, ?_, ?_, ?_, ?_⟩
    · show (x.showable && PyData.showableAll xs) = true
      rw [hx.show_, h1]
      rfl
    · show (x.leavesShort B && PyData.leavesShortAll B xs) = true
      rw [hx.leaf, h2]
      rfl
    · show (x.hasDict || PyData.hasDictAll xs) = false
      rw [hx.nod, h3]
      rfl
    · show (x.canLay0 && PyData.canLayAll0 xs) = true
      rw [hx.lay, h6]
      rfl
    · show max x.depth (PyData.depthAll xs) ≤ D
      exact Nat.max_le.mpr ⟨hx.dep, h4⟩
    · show x.bulk + 1 + PyData.bulkAll xs ≤ (xs.length + 1) * (W + 1)
      rw [Nat.succ_mul]
      have := hx.wei
      omega
theorem Sm.lst {xs : List PyData} {B D W : Nat} (n : Nat) (h : ∀ x ∈ xs, Sm x B D W) (hn : xs.length ≤ n) : Sm (.list xs) B (D + 1) (n * (W + 1)) := by
  obtain ⟨h1, h2, h3, h6, h4, h5⟩ := Sm.all h
  exact ⟨h1, h2, h3, h6, Nat.succ_le_succ h4, Nat.le_trans h5 (Nat.mul_le_mul_right _ hn)⟩
theorem Sm.tup {xs : List PyData} {B D W : Nat} (n : Nat) (h : ∀ x ∈ xs, Sm x B D W) (hn : xs.length ≤ n) : Sm (.tuple xs) B (D + 1) (n * (W + 1)) := by
  obtain ⟨h1, h2, h3, h6, h4, h5⟩ := Sm.all h
  exact ⟨h1, h2, h3, h6, Nat.succ_le_succ h4, Nat.le_trans h5 (Nat.mul_le_mul_right _ hn)⟩
theorem Sm.mono {d : PyData} {B D W D' W' : Nat} (h : Sm d B D W) (h1 : D ≤ D') (h2 : W ≤ W') : Sm d B D' W' := ⟨h.show_, h.leaf, h.nod, h.lay, Nat.le_trans h.dep h1, Nat.le_trans h.wei h2⟩
theorem log2_lt {a k : Nat} (hk : 1 ≤ k) (h : a < 2 ^ k) : a.log2 < k := by
  rcases Nat.eq_zero_or_pos a with z | z
  · rw [z, Nat.log2_zero]
    exact hk
  · exact (Nat.log2_lt (by omega)).mpr h
/-- a whole number below 10 ^ 12 and below 2 ^ k -/
theorem Sm.int {i : Int} {k : Nat} (hk : 1 ≤ k) (h : i.natAbs < 2 ^ k) (hk2 : k ≤ 39) : Sm (.int i) 13 0 k := by
  have hl := log2_lt hk h
  have h12 : i.natAbs < 10 ^ 12 := Nat.lt_of_lt_of_le h (Nat.le_trans (Nat.pow_le_pow_right (by decide) hk2) (by decide))
  refine ⟨?_, ?_, rfl, rfl, Nat.le_refl _, ?_⟩
  · show decide (i.natAbs.log2 < 1920) = true
    exact decide_eq_true (by omega)
  · show decide ((PyData.shown (.int i)).length ≤ 13) = true
    exact decide_eq_true (PyData.shown_int_le h12)
  · show 0 ≤ k
    omega
def Fits (d : PyData) : Prop := ∃ B D W, Sm d B D W ∧ 8 ≤ B ∧ D ≤ 100 ∧ (B + 2) * W + B ≤ 16777216
theorem Fits.len {d : PyData} (h : Fits d) : d.shown.length ≤ sizeLine := by
  obtain ⟨B, D, W, s, h1, h2, h3⟩ := h
  have := PyData.shown_le_bulk B h1 d s.leaf
  rw [sizeLine_eq]
  have : (B + 2) * d.bulk ≤ (B + 2) * W := Nat.mul_le_mul_left _ s.wei
  omega
theorem Fits.shaped {d : PyData} (h : d.canLay0 = true) (h2 : d.depth ≤ 64) : SeqAt.shaped d = true := by
  unfold SeqAt.shaped
  rw [h, decide_eq_true h2]
  rfl
theorem Sm.fits {d : PyData} {D W : Nat} (h : Sm d 13 D W) (h1 : D ≤ 64 := by decide) (h2 : W ≤ 1100000 := by decide) : Fits d := ⟨13, D, W, h, by decide, by omega, by omega⟩
theorem Sm.fitsB {d : PyData} {B D W : Nat} (h : Sm d B D W) (h0 : 8 ≤ B := by decide) (h1 : D ≤ 64 := by decide) (h2 : (B + 2) * W + B ≤ 16777216 := by decide) : Fits d := ⟨B, D, W, h, h0, by omega, h2⟩
theorem Sm.shaped {d : PyData} {B D W : Nat} (h : Sm d B D W) (h1 : D ≤ 64 := by decide) : SeqAt.shaped d = true := Fits.shaped h.lay (Nat.le_trans h.dep h1)
/-! data stands while lists and tuples stand -/
def Kp (H H' : Hp) : Prop := (∀ a xs, H a = some (.lst xs) → H' a = some (.lst xs)) ∧ (∀ a xs, H a = some (.tup xs) → H' a = some (.tup xs)) ∧ ∀ a o u, H a = some (.frz o u) → H' a = some (.frz o u)
theorem Kp.of {H H' : Hp} (g : Gr [] H H') : Kp H H' := ⟨fun a _ e => g a _ (by simp) e, fun a _ e => g a _ (by simp) e, fun a _ _ e => g a _ (by simp) e⟩
theorem Kp.ofM {H H' : Hp} {d : Addr} (g : Gr [d] H H') (h : ∃ kvs, H d = some (.dK kvs)) : Kp H H' := by
  obtain ⟨kvs, h⟩ := h
  have ne : ∀ {a o}, H a = some o → (∀ k, o ≠ .dK k) → a ∉ [d] := fun {a o} e k z => by
    rw [List.mem_singleton] at z
    subst z
    rw [h] at e
    exact k _ (Option.some.inj e).symm
  exact ⟨fun a _ e => g a _ (ne e fun _ z => by cases z) e, fun a _ e => g a _ (ne e fun _ z => by cases z) e, fun a _ _ e => g a _ (ne e fun _ z => by cases z) e⟩
theorem Kp.trans {H H1 H2 : Hp} (a : Kp H H1) (b : Kp H1 H2) : Kp H H2 := ⟨fun x _ e => b.1 x _ (a.1 x _ e), fun x _ e => b.2.1 x _ (a.2.1 x _ e), fun x _ _ e => b.2.2 x _ _ (a.2.2 x _ _ e)⟩
theorem Kp.sqL {K : PySem.W.Frag} {H H' : Hp} {a : Addr} {xs : List V} (k : Kp H H') (h : SqL K H a xs) : SqL K H' a xs := by
  rcases h with (h | ⟨o, h⟩) | h
  · exact .inl (.inl (k.1 _ _ h))
  · exact .inl (.inr ⟨o, k.2.2 _ _ _ h⟩)
  · exact .inr h
theorem Kp.sqT {K : PySem.W.Frag} {H H' : Hp} {a : Addr} {xs : List V} (k : Kp H H') (h : SqT K H a xs) : SqT K H' a xs := by
  rcases h with (h | ⟨o, h⟩) | h
  · exact .inl (.inl (k.2.1 _ _ h))
  · exact .inl (.inr ⟨o, k.2.2 _ _ _ h⟩)
  · exact .inr h
mutual
theorem Dp.kp {K : PySem.W.Frag} {H H' : Hp} (k : Kp H H') : ∀ {v : V} {d : PyData}, Dp K H v d → Dp K H' v d
  | _, _, .non => .non
  | _, _, .bl b => .bl b
  | _, _, .int i => .int i
  | _, _, .str x => .str x
  | _, _, .lst h1 h2 => .lst (k.sqL h1) (DpAll.kp k h2)
  | _, _, .tup h1 h2 => .tup (k.sqT h1) (DpAll.kp k h2)
theorem DpAll.kp {K : PySem.W.Frag} {H H' : Hp} (k : Kp H H') : ∀ {vs : List V} {ds : List PyData}, DpAll K H vs ds → DpAll K H' vs ds
  | _, _, .nil => .nil
  | _, _, .cons h1 h2 => .cons (Dp.kp k h1) (DpAll.kp k h2)
end
theorem dpAll_ints {K : PySem.W.Frag} {H : Hp} : ∀ ns : List Int, DpAll K H (ns.map V.int) (ns.map PyData.int)
  | [] => .nil
  | n :: r => .cons (.int n) (dpAll_ints r)
theorem dp_lst {K : PySem.W.Frag} {H : Hp} {a : Addr} {xs : List V} {ds : List PyData} (h : H a = some (.lst xs)) (h2 : DpAll K H xs ds) : Dp K H (.ref a) (.list ds) := .lst (sq_lst h) h2
theorem dp_tup {K : PySem.W.Frag} {H : Hp} {a : Addr} {xs : List V} {ds : List PyData} (h : H a = some (.tup xs)) (h2 : DpAll K H xs ds) : Dp K H (.ref a) (.tuple ds) := .tup (sq_tup h) h2
def rRepr (K : PySem.W.Frag) : List V → Hp → VK → Prop := fun xs H Q => ∃ (x : V) (d : PyData), xs = [x] ∧ Dp K H x d ∧ Fits d ∧ Q (.str d.shown) H
theorem call_repr {X : Cx} (hg : X.A.guards = some []) (hu : X.A.units + 200 < cLine) : CallR X (.builtin "repr") (rRepr X.K) := by
  intro pins s σ H xs us Q I r h
  obtain ⟨x, d, rfl, hd, hf, q⟩ := h
  obtain ⟨u, rfl, rx⟩ := vals1 r
  have fin : ∀ tk' tk, EP X pins σ Q (.str d.shown tk) { s with toks := tk' } := fun tk' tk => ⟨.str _, H, I.tok _, ⟨_, rfl⟩, q⟩
  have hl := hf.len
  cases hd with
  | non =>
    obtain rfl : u = Value.none := rx
    exact PySem.P.repr_of_none (fin _ _)
  | bl b =>
    obtain rfl : u = Value.bool b := rx
    exact PySem.P.repr_of_bool (fin _ _)
  | int i =>
    obtain ⟨t, rfl⟩ := rx
    obtain ⟨B, D, W, sm, _⟩ := hf
    exact PySem.P.repr_of_int (of_decide_eq_true sm.show_) (fin _ _)
  | str y =>
    obtain ⟨t, rfl⟩ := rx
    exact PySem.P.repr_of_str (fin _ _) hl
  | lst h1 h2 =>
    rename_i a xs ds
    obtain rfl : u = Value.ref a := rx
    obtain ⟨as, rd⟩ := Dp.reads I (.list ds) (.ref a) (.ref a) (.lst h1 h2) rfl
    obtain ⟨B, D, W, sm, _, hD, _⟩ := hf
    have := sm.dep
    refine repr_of_reads' rd sm.show_ (fun z => absurd (sm.nod.symm.trans z) (by decide)) hg (by omega) (fun _ _ e => e) (fun h' u tk k => ⟨.str _, H, I.un (Un.kept k) (I.hok.kept k), ⟨_, rfl⟩, q⟩) hl
  | tup h1 h2 =>
    rename_i a xs ds
    obtain rfl : u = Value.ref a := rx
    obtain ⟨as, rd⟩ := Dp.reads I (.tuple ds) (.ref a) (.ref a) (.tup h1 h2) rfl
    obtain ⟨B, D, W, sm, _, hD, _⟩ := hf
    have := sm.dep
    refine repr_of_reads' rd sm.show_ (fun z => absurd (sm.nod.symm.trans z) (by decide)) hg (by omega) (fun _ _ e => e) (fun h' u tk k => ⟨.str _, H, I.un (Un.kept k) (I.hok.kept k), ⟨_, rfl⟩, q⟩) hl
theorem gu_of {A : Around} {k : Nat} (hr : Room k A) : A.units + 200 < cLine := by
  have := hr.un
  omega
end Wn
/-! expressions that give data and leave all as it was -/
namespace Wn
open PySem PySem.Spec PyProof.Rows L2
section
variable {K : PySem.W.Frag} {σ : L2.St} {H : Hp}
def EvD (K : PySem.W.Frag) (te : TE) (σ : L2.St) (H : Hp) (d : PyData) : Prop := ∀ H1, Gr [] H H1 → ∀ Q : VK, (∀ v H2, Gr [] H1 H2 → Dp K H2 v d → Q v H2) → te σ H1 Q
def EvS (K : PySem.W.Frag) (ta : TA) (σ : L2.St) (H : Hp) (ds : List PyData) : Prop := ∀ H1, Gr [] H H1 → ∀ Q : List V → Hp → Prop, (∀ vs H2, Gr [] H1 H2 → DpAll K H2 vs ds → Q vs H2) → ta σ H1 Q
/-- a list that stands as such -/
def EvL (K : PySem.W.Frag) (te : TE) (σ : L2.St) (H : Hp) (ds : List PyData) : Prop := ∀ H1, Gr [] H H1 → ∀ Q : VK, (∀ p xs H2, Gr [] H1 H2 → H2 p = some (.lst xs) → DpAll K H2 xs ds → Q (.ref p) H2) → te σ H1 Q
theorem EvD.on {te : TE} {d : PyData} {H' : Hp} (h : EvD K te σ H d) (g : Gr [] H H') : EvD K te σ H' d := fun H1 g1 Q q => h H1 (g.trans g1) Q q
theorem EvL.d {te : TE} {ds : List PyData} (h : EvL K te σ H ds) : EvD K te σ H (.list ds) := fun H1 g Q q => h H1 g Q fun p xs H2 g2 e a => q _ H2 g2 (dp_lst e a)
theorem ev_var {i : Nat} {v : V} {d : PyData} (e : σ[i]? = some (some v)) (h : Dp K H v d) : EvD K (tVar i) σ H d := fun H1 g Q q => ⟨v, e, q v H1 (Gr.refl _ _) (Dp.kp (Kp.of g) h)⟩
theorem ev_varL {i : Nat} {p : Addr} {xs : List V} {ds : List PyData} (e : σ[i]? = some (some (.ref p))) (h : H p = some (.lst xs)) (a : DpAll K H xs ds) : EvL K (tVar i) σ H ds :=
  fun H1 g Q q => ⟨_, e, q p xs H1 (Gr.refl _ _) (g _ _ (by simp) h) (DpAll.kp (Kp.of g) a)⟩
theorem ev_int {i : Int} : EvD K (tC (.int i)) σ H (.int i) := fun H1 _ Q q => q _ H1 (Gr.refl _ _) (.int i)
theorem ev_bl {i : Bool} : EvD K (tC (.bl i)) σ H (.bool i) := fun H1 _ Q q => q _ H1 (Gr.refl _ _) (.bl i)
theorem ev_str {i : Str} : EvD K (tC (.str i)) σ H (.str i) := fun H1 _ Q q => q _ H1 (Gr.refl _ _) (.str i)
theorem ev_non : EvD K (tC .non) σ H .none := fun H1 _ Q q => q _ H1 (Gr.refl _ _) .non
theorem es_nil : EvS K tNil σ H [] := fun H1 _ Q q => q _ H1 (Gr.refl _ _) .nil
theorem es_cons {te : TE} {ta : TA} {d : PyData} {ds : List PyData} (h : EvD K te σ H d) (r : EvS K ta σ H ds) : EvS K (tCons te ta) σ H (d :: ds) := fun H1 g Q q =>
  h H1 g _ fun v H2 g2 dv => r H2 (g.trans g2) _ fun vs H3 g3 dvs => q _ H3 (g2.trans g3) (.cons (Dp.kp (Kp.of g3) dv) dvs)
theorem dpAll_len {H : Hp} : ∀ {vs : List V} {ds : List PyData}, DpAll K H vs ds → vs.length = ds.length
  | _, _, .nil => rfl
  | _, _, .cons _ t => congrArg (· + 1) (dpAll_len t)
theorem ev_tup {ta : TA} {ds : List PyData} (h : EvS K ta σ H ds) (hz : ds.length ≤ 1000 := by exact Nat.le_of_ble_eq_true rfl) : EvD K (tTup ta) σ H (.tuple ds) := fun H1 g Q q =>
  h H1 g _ fun vs H2 g2 a => ⟨by rw [dpAll_len a]; exact Nat.le_of_lt (small1000 hz), fun p np => q _ _ (g2.trans (Gr.new np)) (dp_tup upd_same (DpAll.kp (Kp.of (Gr.new np)) a))⟩
theorem el_lst {ta : TA} {ds : List PyData} (h : EvS K ta σ H ds) (hz : ds.length ≤ 1000 := by exact Nat.le_of_ble_eq_true rfl) : EvL K (tLst ta) σ H ds := fun H1 g Q q =>
  h H1 g _ fun vs H2 g2 a => ⟨by rw [dpAll_len a]; exact Nat.le_of_lt (small1000 hz), fun p np => q _ _ _ (g2.trans (Gr.new np)) upd_same (DpAll.kp (Kp.of (Gr.new np)) a)⟩
theorem ev_lst {ta : TA} {ds : List PyData} (h : EvS K ta σ H ds) (hz : ds.length ≤ 1000 := by exact Nat.le_of_ble_eq_true rfl) : EvD K (tLst ta) σ H (.list ds) := (el_lst h hz).d
theorem dpAll_append {H : Hp} : ∀ {vs ws : List V} {ds es : List PyData}, DpAll K H vs ds → DpAll K H ws es → DpAll K H (vs ++ ws) (ds ++ es)
  | _, _, _, _, .nil, b => b
  | _, _, _, _, .cons h t, b => .cons h (dpAll_append t b)
theorem el_cat {ta tb : TE} {ds es : List PyData} (h1 : EvL K ta σ H ds) (h2 : EvL K tb σ H es) (hz : ds.length + es.length ≤ 1000 := by exact Nat.le_of_ble_eq_true rfl) : EvL K (tOp rCat ta tb) σ H (ds ++ es) := fun H1 g Q q =>
  h1 H1 g _ fun p xs H2 g2 e2 a2 => h2 H2 (g.trans g2) _ fun p3 ys H3 g3 e3 a3 => by
    have e2' := g3 _ _ (by simp) e2
    refine ⟨p, p3, xs, ys, rfl, rfl, e2', e3, by rw [dpAll_len a2, dpAll_len a3]; exact Nat.le_of_lt (small1000 hz), fun p4 np => ?_⟩
    exact q p4 _ _ ((g2.trans g3).trans (Gr.new np)) upd_same (dpAll_append (DpAll.kp (Kp.of (g3.trans (Gr.new np))) a2) (DpAll.kp (Kp.of (Gr.new np)) a3))
/-! two data compared -/
theorem ev_eq {ta tb : TE} {d e : PyData} (h1 : EvD K ta σ H d) (h2 : EvD K tb σ H e) (s1 : SeqAt.shaped d = true) (s2 : SeqAt.shaped e = true) : EvD K (tOp (rEqD K) ta tb) σ H (.bool (PyData.eqv d e)) := fun H1 g Q q =>
  h1 H1 g _ fun v H2 g2 a => h2 H2 (g.trans g2) _ fun w H3 g3 b => ⟨d, e, Dp.kp (Kp.of g3) a, b, s1, s2, q _ H3 (g2.trans g3) (.bl _)⟩
theorem ev_ne {ta tb : TE} {d e : PyData} (h1 : EvD K ta σ H d) (h2 : EvD K tb σ H e) (s1 : SeqAt.shaped d = true) (s2 : SeqAt.shaped e = true) : EvD K (tOp (rNeD K) ta tb) σ H (.bool (!PyData.eqv d e)) := fun H1 g Q q =>
  h1 H1 g _ fun v H2 g2 a => h2 H2 (g.trans g2) _ fun w H3 g3 b => ⟨d, e, Dp.kp (Kp.of g3) a, b, s1, s2, q _ H3 (g2.trans g3) (.bl _)⟩
theorem iteFb {b : Bool} {A B : Prop} (h : b = false) (x : B) : if b = true then A else B := by
  rw [h]
  exact iteF x
theorem iteTb {b : Bool} {A B : Prop} (h : b = true) (x : A) : if b = true then A else B := by
  rw [h]
  exact iteT x
/-! statements over them -/
theorem st_asgD {te : TE} {i : Nat} {d : PyData} {D : Ends} (h : EvD K te σ H d) (k : ∀ v H2, Gr [] H H2 → Dp K H2 v d → D.nx (σ.set i (some v)) H2) : tAsg te (gName i) D σ H := h H (Gr.refl _ _) _ k
theorem st_asgL {te : TE} {i : Nat} {ds : List PyData} {D : Ends} (h : EvL K te σ H ds) (k : ∀ p xs H2, Gr [] H H2 → H2 p = some (.lst xs) → DpAll K H2 xs ds → D.nx (σ.set i (some (.ref p))) H2) : tAsg te (gName i) D σ H := h H (Gr.refl _ _) _ k
theorem dp_bool {H : Hp} {v : V} {b : Bool} (h : Dp K H v (.bool b)) : v = .bl b := by cases h; rfl
theorem dp_int {H : Hp} {v : V} {b : Int} (h : Dp K H v (.int b)) : v = .int b := by cases h; rfl
theorem st_retB {te : TE} {b : Bool} {D : Ends} (h : EvD K te σ H (.bool b)) (k : ∀ H2, Gr [] H H2 → D.rt (.bl b) H2) : tRet te D σ H := h H (Gr.refl _ _) _ fun v H2 g e => by rw [dp_bool e]; exact k H2 g
/-- a test that is data -/
theorem tt_of {te : TE} {b : Bool} {H1 : Hp} {Q : Bool → Hp → Prop} (h : EvD K te σ H (.bool b)) (g : Gr [] H H1) (q : ∀ H2, Gr [] H1 H2 → Q b H2) : tTest te σ H1 Q := h H1 g _ fun v H2 g2 e => ⟨b, dp_bool e, q H2 g2⟩
theorem tb_of {te : TE} {b : Bool} {H1 : Hp} {Q : Bool → Hp → Prop} (h : EvD K te σ H (.bool b)) (g : Gr [] H H1) (q : ∀ H2, Gr [] H1 H2 → Q b H2) : tB te σ H1 Q := h H1 g _ fun v H2 g2 e => ⟨b, dp_bool e, q H2 g2⟩
theorem ev_andV {ta tb : TE} {a b : Bool} (h1 : EvD K ta σ H (.bool a)) (h2 : EvD K tb σ H (.bool b)) : EvD K (tAndV ta tb) σ H (.bool (a && b)) := fun H1 g Q q =>
  h1 H1 g _ fun v H2 g2 e => ⟨a, dp_bool e, by
    cases a with
    | true => exact iteT (h2 H2 (g.trans g2) _ fun w H3 g3 e3 => q w H3 (g2.trans g3) e3)
    | false => exact iteF (q _ H2 g2 (.bl false))⟩
end
end Wn
/-! sum of a tuple of whole numbers -/
namespace Wn
open PySem PySem.Spec PyProof.Rows L2
section
variable {prog : Program} {w : World} {A : Around} {E : Value → Shared → Prop} {s : Shared} {l : Addr} {its : List Value} {ns : List Int} {Q : Value → Shared → Prop}
theorem sum_tup0 {xs : Array (Int × Tok)} (hh : A.handled = none) (hl : s.heap.IsTuple l (intItems xs))
    (h : ∀ h' tk t', (∀ b o, s.heap.get? b = some o → h'.get? b = some o) → Q (.int (preSum (numAt xs) xs.size) t') { s with heap := h', toks := tk }) : wpAny (model prog w) A (call (.builtin "sum") [.ref l]) Q E s := by
  refine call_sum_walkG (wpAny_pyIter_tuple hl ?_)
  obtain ⟨o, ho, hc, n, hd⟩ := hl
  have lt : l < s.heap.objs.size := Heap.lt_size ho
  have kp : ∀ b u, s.heap.get? b = some u → (s.heap.push { cls := .type "tuple_iterator", data := .fields #[.ref l, .int 0 0] }).get? b = some u := fun b u e => Heap.get?_push_of_some _ e
  refine ⟨s.heap.objs.size, _, _, _, _, _, numAt xs, rfl, Walks.tuple (A := A.in1) hh s.heap.objs.size l (Nat.ne_of_lt lt) (intItems xs), ⟨⟨_, Heap.get?_push_size _ rfl, rfl, rfl⟩, ⟨o, kp _ _ ho, hc, n, hd⟩⟩, fun b hb => ?_, fun _ _ => intItems_at, fun h' tk t' hk => ?_⟩
  · have hz : (s.heap.push { cls := .type "tuple_iterator", data := .fields #[.ref l, .int 0 0] }).objs.size = s.heap.objs.size + 1 := by simp [Heap.push]
    simp only [List.mem_cons, List.not_mem_nil, or_false] at hb
    show b < (s.heap.push _).objs.size
    rw [hz]
    rcases hb with rfl | rfl
    · exact Nat.lt_succ_self _
    · exact Nat.lt_succ_of_lt lt
  · have := h h' tk t' (fun b u e => hk b u (by
      rw [List.mem_singleton]
      exact Nat.ne_of_lt (Heap.lt_size e)) (kp b u e))
    simpa [intItems] using this
theorem sum_tup (hh : A.handled = none) (hl : s.heap.IsTuple l its.toArray) (hi : IntsAre its ns)
    (h : ∀ h' tk t', (∀ b o, s.heap.get? b = some o → h'.get? b = some o) → Q (.int ns.sum t') { s with heap := h', toks := tk }) : wpAny (model prog w) A (call (.builtin "sum") [.ref l]) Q E s := by
  obtain ⟨xs, e⟩ := hi.allInts.items
  have hn : numsOf (intItems xs).toList = ns := by
    rw [← e]
    exact hi.numsOf
  rw [nums_intItems] at hn
  rw [e] at hl
  refine sum_tup0 hh hl fun h' tk t' hk => ?_
  have := h h' tk t' hk
  rw [preSum_eq, List.take_of_length_le (by simp), hn]
  exact this
end
def rSumT (K : PySem.W.Frag) : List V → Hp → VK → Prop := fun vs H Q => ∃ (a : Addr) (ns : List Int), vs = [V.ref a] ∧ SqT K H a (ns.map V.int) ∧ Q (.int ns.sum) H
theorem cr_sumT {X : Cx} (hc : X.calm = true) : CallR X (.builtin "sum") (rSumT X.K) := by
  intro pins s σ H vs us Q I r h
  obtain ⟨a, ns, rfl, hs, q⟩ := h
  obtain ⟨its, rv, hl, _⟩ := I.tuple hs
  rw [Vals.ref1 r]
  exact sum_tup (I.ok.hd hc) hl rv.ints fun h' tk t' hk => ⟨.int _, H, I.kept hk, ⟨_, rfl⟩, q⟩
end Wn
/-! a list with a step: xs[::k] -/
namespace Wn
open PySem PySem.Spec PyProof.Rows L2
def stepV (xs : List V) (k : Nat) : List V := (List.range ((xs.length + k - 1) / k)).filterMap fun i => xs[k * i]?
theorem vals_picks {xs : List V} {us : List Value} (r : Vals xs us) (f : Nat → Nat) : ∀ js : List Nat, Vals (js.filterMap fun i => xs[f i]?) (js.filterMap fun i => us[f i]?)
  | [] => .nil
  | j :: js => by
    have ih := vals_picks r f js
    cases e : xs[f j]? with
    | none =>
      have e2 := r.none_of e
      rw [List.filterMap_cons, List.filterMap_cons, e, e2]
      exact ih
    | some x =>
      obtain ⟨u, e2, h⟩ := r.get e
      rw [List.filterMap_cons, List.filterMap_cons, e, e2]
      exact .cons h ih
theorem pick_step (us : List Value) {k : Nat} (hk : 1 ≤ k) : slicePick us.toArray none none (some (k : Int)) = ((List.range ((us.length + k - 1) / k)).filterMap fun i => us[k * i]?).toArray := by
  have e : sliceBounds none none (some (k : Int)) us.toArray.size = ((0 : Int), (us.length : Int), (k : Int)) := by
    have h : (k : Int) > 0 := by omega
    simp only [sliceBounds, Option.getD_some, h, if_true, List.size_toArray]
  unfold slicePick
  rw [e]
  show (List.filterMap (fun i => us.toArray[i]?) (sliceRange 0 (us.length : Int) (k : Int))).toArray = _
  congr 1
  have e2 : sliceRange 0 (us.length : Int) (k : Int) = (List.range ((us.length + k - 1) / k)).map fun i => k * i := by
    unfold sliceRange
    have h : (k : Int) > 0 := by omega
    rw [if_pos h]
    have c : (if (0 : Int) < (us.length : Int) then ((us.length : Int) - 0 + k - 1) / k else 0).toNat = (us.length + k - 1) / k := by
      by_cases z : (0 : Int) < (us.length : Int)
      · rw [if_pos z, show ((us.length : Int) - 0 + k - 1) = ((us.length + k - 1 : Nat) : Int) by omega, ← Int.natCast_ediv]
        rfl
      · rw [if_neg z]
        have : us.length = 0 := by omega
        rw [this, Nat.zero_add, Nat.div_eq_of_lt (by omega)]
        rfl
    dsimp only
    rw [c]
    apply List.map_congr_left
    intro i _
    rw [Int.zero_add, ← Int.natCast_mul]
    rfl
  rw [e2, List.filterMap_map]
  congr 1
  funext i
  simp
theorem stepV_len (xs : List V) (k : Nat) (hk : 1 ≤ k) : (stepV xs k).length ≤ xs.length := by
  unfold stepV
  refine Nat.le_trans (List.length_filterMap_le _ _) ?_
  rw [List.length_range]
  rcases Nat.eq_zero_or_pos xs.length with z | z
  · rw [z, Nat.zero_add, Nat.div_eq_of_lt (by omega)]
    exact Nat.le_refl _
  · refine Nat.lt_succ_iff.mp ((Nat.div_lt_iff_lt_mul (by omega)).mpr ?_)
    have : xs.length * 1 ≤ xs.length * k := Nat.mul_le_mul_left _ hk
    rw [Nat.succ_mul]
    omega
def rStL (K : PySem.W.Frag) : V → V → Hp → VK → Prop := fun x y H Q => ∃ (a : Addr) (xs : List V) (k : Nat), x = .ref a ∧ y = .int k ∧ 1 ≤ k ∧ SqL K H a xs ∧ ∀ p, H p = none → Q (.ref p) (upd H p (.lst (stepV xs k)))
def tStL (r : R2) (te ts : TE) : TE := fun σ H Q => te σ H fun x H1 => ts σ H1 fun y H2 => r x y H2 Q
variable {X : Cx} {e st : Expr} {te ts : TE} {pos p2 : Pos}
theorem pe_stepL {r : R2} (he : PE X e te) (hs : PE X st ts) (hr : r = rStL X.K := by rfl) : PE X (.Subscript e (.Slice none none (some st) p2) pos) (tStL r te ts) := by
  subst hr
  refine ⟨fun pins s σ H Q I h => ?_⟩
  refine Subscript_ (thn (he.run pins s σ H _ I h) fun v s1 ⟨x, H1, I1, r1, q1⟩ => ?_)
  refine wpAny_Slice ?_
  rw [evalPart_none]
  refine wpAny_pure (wpAny_pure ?_)
  rw [evalPart_some]
  refine thn (hs.run pins s1 σ H1 _ I1 q1) fun vs s3 ⟨y, H3, I3, ry, q3⟩ => ?_
  obtain ⟨a, xs, k, rfl, rfl, hk, hx, q⟩ := q3
  cases r1
  obtain ⟨t, rfl⟩ := ry
  have I4 : Inv X pins σ H3 { s3 with heap := s3.heap.push { cls := .type "slice", data := .fields #[.none, .none, .int k t] } } := I3.kept (t' := s3.toks) fun b ob q => Heap.get?_push_of_some _ q
  obtain ⟨its, r, ht, hz⟩ := I4.list hx
  have hlen := r.length
  have hg : wpAny (model X.prog X.w) X.A (getItem (.ref a) (.ref s3.heap.objs.size)) (EP X pins σ Q) X.xe { s3 with heap := s3.heap.push { cls := .type "slice", data := .fields #[.none, .none, .int k t] } } := by
    refine wpAny_getItem_list_slice (st := some (k : Int)) ht.isList (Heap.IsSliceOf.new ..) .none .none (.int _ _) (by intro z; have := Option.some.inj z; omega) ?_ (by rw [List.size_toArray] <;> omega)
    rw [pick_step its hk, ← hlen]
    refine ⟨.ref _, _, I4.laid (t' := s3.toks) (o := .lst (stepV xs k)) (fun b ob q => Heap.get?_push_of_some _ q) (Nat.le_refl _) ?_, rfl, q _ (I4.hok.fresh (Nat.le_refl _))⟩
    exact ⟨Nat.le_trans (stepV_len xs k hk) hz, _, 0, vals_picks r _ _, Heap.get?_push_size _ rfl⟩
  show wpAny (model X.prog X.w) X.A (subscriptTail e (.Slice none none (some st) p2) (.ref a) (.ref s3.heap.objs.size)) (EP X pins σ Q) X.xe { s3 with heap := s3.heap.push { cls := .type "slice", data := .fields #[.none, .none, .int k t] } }
  exact tail_any (ops := [.ref a, .ref s3.heap.objs.size]) ht.isList.typeIs slot_list_getitem.lookup hg (by with_unfolding_all rfl)
end Wn
/-! sums of powers, and which cuts balance -/
namespace Wn
open PySem PySem.Spec PyProof.Rows L2
def geo (g : Nat) : Nat → Nat
  | 0 => 0
  | c + 1 => geo g c + g ^ c
theorem geo_add (g a : Nat) : ∀ d, geo g (a + d) = geo g a + g ^ a * geo g d
  | 0 => by simp [geo]
  | d + 1 => by
    rw [← Nat.add_assoc]
    show geo g (a + d) + g ^ (a + d) = geo g a + g ^ a * (geo g d + g ^ d)
    rw [geo_add g a d, Nat.mul_add, Nat.pow_add, Nat.add_assoc]
theorem geo_mul (g m : Nat) : ∀ c, geo g (m * c) = geo g m * geo (g ^ m) c
  | 0 => by simp [geo]
  | c + 1 => by
    show geo g (m * c + m) = geo g m * (geo (g ^ m) c + (g ^ m) ^ c)
    rw [geo_add, geo_mul g m c, Nat.mul_add, ← Nat.pow_mul, Nat.mul_comm (g ^ (m * c))]
theorem geo_tel (g : Nat) : ∀ c, geo g c * g + 1 = geo g c + g ^ c
  | 0 => by simp [geo]
  | c + 1 => by
    show (geo g c + g ^ c) * g + 1 = geo g c + g ^ c + g ^ (c + 1)
    rw [Nat.add_mul, Nat.pow_succ]
    have := geo_tel g c
    omega
def restSum (b n x s c : Nat) : Nat := ((List.range c).map fun i => rem b n x (s * i)).sum
theorem restSum_succ (b n x s c : Nat) : restSum b n x s (c + 1) = restSum b n x s c + rem b n x (s * c) := by
  unfold restSum
  rw [List.range_succ, List.map_append, List.sum_append]
  simp
theorem restSum_mod (b n x s : Nat) : ∀ c, restSum b n x s c % n = x * geo (b ^ s) c % n
  | 0 => by simp [restSum, geo]
  | c + 1 => by
    rw [restSum_succ, Nat.add_mod, restSum_mod b n x s c]
    show (_ + rem b n x (s * c) % n) % n = x * (geo (b ^ s) c + (b ^ s) ^ c) % n
    rw [Nat.mul_add, Nat.add_mod (x * _)]
    unfold rem
    rw [Nat.mod_mod, Nat.pow_mul]
def bal (b n s c : Nat) : Bool := decide (restSum b n 1 s c % n = 0)
theorem bal_iff {b n s c : Nat} : bal b n s c = true ↔ n ∣ geo (b ^ s) c := by
  unfold bal
  rw [decide_eq_true_eq, restSum_mod, Nat.one_mul]
  exact (Nat.dvd_iff_mod_eq_zero ..).symm
theorem bal_mul {b n s c m : Nat} (h : bal b n (m * s) c = true) : bal b n s (m * c) = true := by
  rw [bal_iff] at h ⊢
  rw [geo_mul, ← Nat.pow_mul, Nat.mul_comm s m]
  exact Nat.dvd_trans h (Nat.dvd_mul_left _ _)
theorem bal_prime {b n s c L : Nat} (hb : 1 ≤ b) (hn : 2 ≤ n) (hp : ∀ k, 2 ≤ k → k < n → ¬ n % k = 0) (hL : IsPer b n L) (hc : 2 ≤ c) (hs : 1 ≤ s) (e : L = s * c) : bal b n s c = true := by
  rw [bal_iff]
  have hsL : s < L := by
    rw [e]
    have : s * 2 ≤ s * c := Nat.mul_le_mul_left _ hc
    omega
  have g1 : 1 ≤ b ^ s := Nat.one_le_pow _ _ hb
  have h1 : (b ^ s) ^ c % n = 1 % n := by
    rw [← Nat.pow_mul, ← e]
    exact hL.2.1
  have h2 : ¬ n ∣ b ^ s - 1 := fun z => hL.2.2 s hs hsL ((mod_iff g1).mpr z).symm
  have t := geo_tel (b ^ s) c
  have t2 : geo (b ^ s) c * (b ^ s - 1) = (b ^ s) ^ c - 1 := by
    rw [Nat.mul_sub, Nat.mul_one]
    omega
  have h3 : n ∣ geo (b ^ s) c * (b ^ s - 1) := by
    rw [t2]
    exact (mod_iff (Nat.one_le_pow _ _ g1)).mp h1.symm
  have hd : Nat.gcd n (b ^ s - 1) ∣ n := Nat.gcd_dvd_left _ _
  have hdn := Nat.le_of_dvd (by omega) hd
  have hd0 : 1 ≤ Nat.gcd n (b ^ s - 1) := Nat.gcd_pos_of_pos_left _ (by omega)
  have hd1 : Nat.gcd n (b ^ s - 1) = 1 := by
    rcases Nat.lt_or_eq_of_le hdn with z | z
    · rcases Nat.lt_or_eq_of_le hd0 with y | y
      · exact absurd (Nat.mod_eq_zero_of_dvd hd) (hp _ y z)
      · exact y.symm
    · exact absurd (z ▸ Nat.gcd_dvd_right n (b ^ s - 1)) h2
  exact Nat.Coprime.dvd_of_dvd_mul_right hd1 h3
/-! which cuts -/
def from2 (k : Nat) : List Nat := (List.range k).map (2 + ·)
theorem from2_succ (k : Nat) : from2 (k + 1) = from2 k ++ [2 + k] := by
  unfold from2
  rw [List.range_succ, List.map_append]
  rfl
theorem mem_from2 {k c : Nat} : c ∈ from2 k ↔ 2 ≤ c ∧ c < 2 + k := by
  unfold from2
  rw [List.mem_map]
  constructor
  · rintro ⟨i, hi, rfl⟩
    rw [List.mem_range] at hi
    omega
  · rintro ⟨h1, h2⟩
    exact ⟨c - 2, List.mem_range.mpr (by omega), by omega⟩
def splitsL (L : Nat) : List Nat := (from2 (L - 1)).filter fun c => decide (L % c = 0)
theorem mem_splits {L c : Nat} (hL : 1 ≤ L) : c ∈ splitsL L ↔ 2 ≤ c ∧ c ∣ L := by
  unfold splitsL
  rw [List.mem_filter, mem_from2, decide_eq_true_eq]
  constructor
  · rintro ⟨⟨h1, h2⟩, h3⟩
    exact ⟨h1, Nat.dvd_of_mod_eq_zero h3⟩
  · rintro ⟨h1, h2⟩
    have := Nat.le_of_dvd hL h2
    exact ⟨⟨h1, by omega⟩, Nat.mod_eq_zero_of_dvd h2⟩
def dueL (b n L : Nat) : List Nat := (splitsL L).filter fun c => bal b n (L / c) c
def below (xs : List Nat) (c : Nat) : List Nat := xs.filter fun k => decide (k < c) && decide (c % k = 0)
def isLeast (xs : List Nat) (c : Nat) : Bool := (below xs c).isEmpty
def leastL (xs : List Nat) : List Nat := xs.filter (isLeast xs)
theorem asc_splits (L : Nat) : (splitsL L).Pairwise (· < ·) := by
  unfold splitsL from2
  refine List.Pairwise.filter _ ?_
  rw [List.pairwise_map]
  exact List.Pairwise.imp (fun h => by omega) List.pairwise_lt_range
theorem asc_due (b n L : Nat) : (dueL b n L).Pairwise (· < ·) := (asc_splits L).filter _
theorem isLeast_iff {xs : List Nat} {c : Nat} : isLeast xs c = true ↔ ∀ k ∈ xs, k < c → ¬ c % k = 0 := by
  unfold isLeast below
  rw [List.isEmpty_iff, List.filter_eq_nil_iff]
  constructor
  · intro h k hk hc hm
    exact h k hk (by rw [decide_eq_true hc, decide_eq_true hm]; rfl)
  · intro h k hk hm
    rw [Bool.and_eq_true, decide_eq_true_eq, decide_eq_true_eq] at hm
    exact h k hk hm.1 hm.2
theorem least_under {xs : List Nat} (h2 : ∀ k ∈ xs, 1 ≤ k) : ∀ (m k : Nat), k ≤ m → k ∈ xs → ∃ k0 ∈ xs, k0 ∣ k ∧ isLeast xs k0 = true
  | 0, k, hm, hk => absurd (h2 k hk) (by omega)
  | m + 1, k, hm, hk => by
    by_cases h : isLeast xs k = true
    · exact ⟨k, hk, Nat.dvd_refl k, h⟩
    · rw [isLeast_iff] at h
      have : ∃ j, j ∈ xs ∧ j < k ∧ k % j = 0 := by
        apply Classical.byContradiction
        intro z
        exact h fun j hj hl hm' => z ⟨j, hj, hl, hm'⟩
      obtain ⟨j, hj, hl, hm'⟩ := this
      obtain ⟨k0, h0, hd, hs⟩ := least_under h2 m j (by omega) hj
      exact ⟨k0, h0, Nat.dvd_trans hd (Nat.dvd_of_mod_eq_zero hm'), hs⟩
/-- the look at the least ones found so far -/
theorem least_step {xs : List Nat} (h2 : ∀ k ∈ xs, 1 ≤ k) (asc : xs.Pairwise (· < ·)) {i : Nat} (hi : i < xs.length) :
    (((xs.take i).filter (isLeast xs)).map fun k => !decide (xs[i] % k = 0)).all id = isLeast xs xs[i] := by
  rw [Bool.eq_iff_iff, List.all_map, List.all_eq_true, isLeast_iff]
  have lt : ∀ k ∈ xs.take i, k < xs[i] := fun k hk => by
    obtain ⟨j, hj, rfl⟩ := List.mem_iff_getElem.mp hk
    rw [List.length_take] at hj
    rw [List.getElem_take]
    exact List.pairwise_iff_getElem.mp asc j i (by omega) hi (by omega)
  have back : ∀ k ∈ xs, k < xs[i] → k ∈ xs.take i := fun k hk hl => by
    obtain ⟨j, hj, rfl⟩ := List.mem_iff_getElem.mp hk
    rw [List.mem_iff_getElem]
    have hji : j < i := by
      rcases Nat.lt_trichotomy j i with z | z | z
      · exact z
      · subst z
        omega
      · have := List.pairwise_iff_getElem.mp asc i j hi hj z
        omega
    exact ⟨j, by rw [List.length_take]; omega, by rw [List.getElem_take]⟩
  constructor
  · intro h k hk hl hm
    obtain ⟨k0, h0, hd, hs⟩ := least_under h2 k k (Nat.le_refl _) hk
    have hk0 : k0 < xs[i] := Nat.lt_of_le_of_lt (Nat.le_of_dvd (h2 k hk) hd) hl
    have := h k0 (List.mem_filter.mpr ⟨back k0 h0 hk0, hs⟩)
    rw [Function.comp_apply, id_eq, Bool.not_eq_true', decide_eq_false_iff_not] at this
    exact this (Nat.mod_eq_zero_of_dvd (Nat.dvd_trans hd (Nat.dvd_of_mod_eq_zero hm)))
  · intro h k hk
    obtain ⟨hk1, hk2⟩ := List.mem_filter.mp hk
    rw [Function.comp_apply, id_eq, Bool.not_eq_true', decide_eq_false_iff_not]
    exact h k (List.mem_of_mem_take hk1) (lt k hk1)
theorem due_mul {b n L c k : Nat} (hL : 1 ≤ L) (hc : c ∈ dueL b n L) (hk : k ∈ splitsL L) (hd : k % c = 0) : k ∈ dueL b n L := by
  obtain ⟨hc1, hc2⟩ := List.mem_filter.mp hc
  refine List.mem_filter.mpr ⟨hk, ?_⟩
  obtain ⟨k1, k2⟩ := (mem_splits hL).mp hk
  obtain ⟨c1, c2⟩ := (mem_splits hL).mp hc1
  obtain ⟨m, rfl⟩ := Nat.dvd_of_mod_eq_zero hd
  obtain ⟨s, rfl⟩ := k2
  have hm : 1 ≤ m := by
    rcases Nat.eq_zero_or_pos m with z | z
    · subst z
      omega
    · exact z
  have e1 : c * m * s / c = m * s := by
    rw [Nat.mul_assoc]
    exact Nat.mul_div_cancel_left _ (by omega)
  have e2 : c * m * s / (c * m) = s := Nat.mul_div_cancel_left _ (by omega)
  rw [e1] at hc2
  rw [e2, Nat.mul_comm c m]
  exact bal_mul hc2
theorem due_prime {b n L : Nat} (hb : 1 ≤ b) (hn : 2 ≤ n) (hp : ∀ k, 2 ≤ k → k < n → ¬ n % k = 0) (hL : IsPer b n L) : dueL b n L = splitsL L := by
  unfold dueL
  rw [List.filter_eq_self]
  intro c hc
  obtain ⟨h1, s, e⟩ := (mem_splits hL.1).mp hc
  have hs : 1 ≤ s := by
    rcases Nat.eq_zero_or_pos s with z | z
    · rw [z, Nat.mul_zero] at e
      have := hL.1
      omega
    · exact z
  have : L / c = s := by
    rw [e]
    exact Nat.mul_div_cancel_left _ (by omega)
  rw [this]
  exact bal_prime hb hn hp hL h1 hs (by rw [e, Nat.mul_comm])
/-! lists of whole numbers from 0 on -/
def vn (xs : List Nat) : List V := xs.map fun k => V.int (k : Nat)
def ni (xs : List Nat) : List Int := xs.map fun k => ((k : Nat) : Int)
theorem vn_ni (xs : List Nat) : vn xs = (ni xs).map V.int := by
  unfold vn ni
  rw [List.map_map]
  rfl
theorem vn_len (xs : List Nat) : (vn xs).length = xs.length := by simp [vn]
theorem vn_snoc (xs : List Nat) (k : Nat) : vn xs ++ [V.int (k : Nat)] = vn (xs ++ [k]) := by simp [vn]
theorem vn_get {xs : List Nat} {i : Nat} {y : V} (h : (vn xs)[i]? = some y) : ∃ hi : i < xs.length, y = V.int (xs[i] : Nat) := by
  unfold vn at h
  rw [List.getElem?_map] at h
  cases e : xs[i]? with
  | none =>
    rw [e] at h
    cases h
  | some n =>
    rw [e] at h
    obtain ⟨hi, e2⟩ := List.getElem?_eq_some_iff.mp e
    subst e2
    exact ⟨hi, (Option.some.inj h).symm⟩
theorem ni_sum : ∀ xs : List Nat, (ni xs).sum = ((xs.sum : Nat) : Int)
  | [] => rfl
  | x :: r => by
    show (x : Int) + (ni r).sum = ((x + r.sum : Nat) : Int)
    rw [ni_sum r]
    omega
theorem filt_yes {xs : List Nat} {g : Nat → Bool} {i : Nat} (hi : i < xs.length) (h : g xs[i] = true) : (xs.take (i + 1)).filter g = (xs.take i).filter g ++ [xs[i]] := by
  rw [List.take_succ_eq_append_getElem hi, List.filter_append, List.filter_cons, if_pos h]
  rfl
theorem filt_no {xs : List Nat} {g : Nat → Bool} {i : Nat} (hi : i < xs.length) (h : g xs[i] = false) : (xs.take (i + 1)).filter g = (xs.take i).filter g := by
  rw [List.take_succ_eq_append_getElem hi, List.filter_append, List.filter_cons, if_neg (by rw [h]; decide)]
  simp
theorem from2_len (k : Nat) : (from2 k).length = k := by simp [from2]
theorem from2_get {k i : Nat} (h : i < k) : (from2 k)[i]'(by rw [from2_len]; exact h) = 2 + i := by simp [from2]
theorem eqv_niL (ys : List Nat) : PyData.eqv (.list ((ni ys).map PyData.int)) (.list []) = ys.isEmpty := by
  cases ys with
  | nil => rfl
  | cons y r => rfl
theorem inV_ni (k : Nat) : ∀ xs : List Nat, inV (.int (k : Nat)) (vn xs) = decide (k ∈ xs) := by
  intro xs
  induction xs with
  | nil => rfl
  | cons y r ih =>
    show ((((y : Nat) : Int) == ((k : Nat) : Int)) || inV (.int (k : Nat)) (vn r)) = _
    rw [ih, Bool.eq_iff_iff, Bool.or_eq_true, beq_iff_eq, decide_eq_true_eq, decide_eq_true_eq, List.mem_cons]
    constructor
    · rintro (h | h)
      · exact .inl (by omega)
      · exact .inr h
    · rintro (h | h)
      · exact .inl (by omega)
      · exact .inr h
theorem flat_ni : ∀ xs : List Nat, (vn xs).all flatV = true
  | [] => rfl
  | _ :: r => flat_ni r
theorem blkOk_of {N N0 : List Str} {sc sc0 scope : Scope} {own : List (Str × Nat)} (hN : N = N0) (hs : sc = sc0) (h : blkC N0 sc0 scope own = true) : BlkOk N sc scope own := by
  subst hN hs
  exact blkOk_by h
end Wn
/-! values of digits, and the sum of the pieces -/
namespace Wn
open PySem PySem.Spec PyProof.Rows L2
def wrt (b : Nat) (ds : List Nat) : Nat := ds.foldl (fun f d => f * b + d) 0
theorem wrt_snoc (b : Nat) (ds : List Nat) (d : Nat) : wrt b (ds ++ [d]) = wrt b ds * b + d := by simp [wrt]
def dg (b n x lo c : Nat) : List Nat := (List.range c).map fun i => rem b n x (lo + i) * b / n
theorem dg_len (b n x lo c : Nat) : (dg b n x lo c).length = c := by simp [dg]
theorem dg_succ (b n x lo c : Nat) : dg b n x lo (c + 1) = dg b n x lo c ++ [rem b n x (lo + c) * b / n] := by
  unfold dg
  rw [List.range_succ, List.map_append]
  rfl
theorem wrt_dg (b n x lo : Nat) : ∀ c, n * wrt b (dg b n x lo c) + rem b n x (lo + c) = rem b n x lo * b ^ c
  | 0 => by simp [dg, wrt]
  | c + 1 => by
    have ih := wrt_dg b n x lo c
    have dm := Nat.div_add_mod (rem b n x (lo + c) * b) n
    rw [rem_succ] at dm
    rw [dg_succ, wrt_snoc, Nat.pow_succ, ← Nat.mul_assoc, ← ih, Nat.mul_add, Nat.add_mul, ← Nat.mul_assoc]
    have e : lo + (c + 1) = lo + c + 1 := rfl
    rw [e]
    omega
/-- the value of piece number j of k digits -/
def pce (b n x k j : Nat) : Nat := wrt b (dg b n x (k * j) k)
def pcs (b n x k c : Nat) : List Nat := (List.range c).map (pce b n x k)
theorem pcs_len (b n x k c : Nat) : (pcs b n x k c).length = c := by simp [pcs]
theorem pcs_succ (b n x k c : Nat) : pcs b n x k (c + 1) = pcs b n x k c ++ [pce b n x k c] := by
  unfold pcs
  rw [List.range_succ, List.map_append]
  rfl
theorem pcs_sum (b n x k : Nat) : ∀ c, n * (pcs b n x k c).sum + restSum b n x k c + rem b n x (k * c) = b ^ k * restSum b n x k c + rem b n x 0
  | 0 => by simp [pcs, restSum]
  | c + 1 => by
    have ih := pcs_sum b n x k c
    have w := wrt_dg b n x (k * c) k
    have e : k * (c + 1) = k * c + k := rfl
    rw [e, pcs_succ, List.sum_append, restSum_succ, Nat.mul_add, Nat.mul_add]
    have e2 : ([pce b n x k c] : List Nat).sum = pce b n x k c := by simp
    rw [e2]
    unfold pce
    rw [Nat.mul_comm (b ^ k) (rem b n x (k * c)), ← w]
    omega
theorem pcs_all {b n x k c : Nat} (hb : 1 ≤ b) (h : rem b n x (k * c) = rem b n x 0) : n * (pcs b n x k c).sum = (b ^ k - 1) * restSum b n x k c := by
  have e := pcs_sum b n x k c
  rw [h] at e
  have h1 : 1 ≤ b ^ k := Nat.one_le_pow _ _ hb
  rw [Nat.sub_mul, Nat.one_mul]
  omega
theorem pcs_quot {b n x k c : Nat} (hb : 2 ≤ b) (hk : 1 ≤ k) (hn : 1 ≤ n) (h : rem b n x (k * c) = rem b n x 0) :
    ((pcs b n x k c).sum % (b ^ k - 1) = 0 ↔ restSum b n x k c % n = 0) ∧ (restSum b n x k c % n = 0 → (pcs b n x k c).sum / (b ^ k - 1) = restSum b n x k c / n) := by
  have e := pcs_all (b := b) (n := n) (x := x) (k := k) (c := c) (by omega) h
  have h1 : 2 ≤ b ^ k := Nat.le_trans hb (Nat.le_self_pow (by omega) b)
  generalize (pcs b n x k c).sum = S at e ⊢
  generalize restSum b n x k c = R at e ⊢
  generalize hm : b ^ k - 1 = m at e ⊢
  have m1 : 1 ≤ m := by omega
  refine ⟨⟨fun z => ?_, fun z => ?_⟩, fun z => ?_⟩
  · obtain ⟨q, rfl⟩ := Nat.dvd_of_mod_eq_zero z
    have : m * R = m * (n * q) := by rw [← e, Nat.mul_left_comm]
    rw [Nat.eq_of_mul_eq_mul_left m1 this]
    exact Nat.mul_mod_right _ _
  · obtain ⟨q, rfl⟩ := Nat.dvd_of_mod_eq_zero z
    have : n * S = n * (m * q) := by rw [e, Nat.mul_left_comm]
    rw [Nat.eq_of_mul_eq_mul_left hn this]
    exact Nat.mul_mod_right _ _
  · obtain ⟨q, rfl⟩ := Nat.dvd_of_mod_eq_zero z
    have : n * S = n * (m * q) := by rw [e, Nat.mul_left_comm]
    rw [Nat.eq_of_mul_eq_mul_left hn this, Nat.mul_div_cancel_left _ m1, Nat.mul_div_cancel_left _ hn]
theorem pce_lt {b n x k j : Nat} (hb : 1 ≤ b) (hn : 1 ≤ n) : pce b n x k j < b ^ k := by
  have w := wrt_dg b n x (k * j) k
  have r := rem_lt (b := b) (n := n) (x := x) (i := k * j) hn
  unfold pce
  have h1 : n * wrt b (dg b n x (k * j) k) ≤ rem b n x (k * j) * b ^ k := by omega
  have h2 : rem b n x (k * j) * b ^ k < n * b ^ k := Nat.mul_lt_mul_of_pos_right r (Nat.pow_pos hb)
  exact Nat.lt_of_mul_lt_mul_left (Nat.lt_of_le_of_lt h1 h2)
theorem rem_period {b n x L : Nat} (h : b ^ L % n = 1 % n) : rem b n x L = rem b n x 0 := by
  unfold rem
  rw [Nat.mul_mod, h, ← Nat.mul_mod, Nat.pow_zero]
/-! whole numbers of more signs -/
theorem Sm.intB {i : Int} {k : Nat} (hk : 1 ≤ k) (h : i.natAbs < 2 ^ k) (hk2 : k ≤ 1000) : Sm (.int i) 303 0 k := by
  have hl := log2_lt hk h
  have h12 : i.natAbs < 10 ^ 302 := Nat.lt_of_lt_of_le h (Nat.le_trans (Nat.pow_le_pow_right (by decide) hk2) (by decide +kernel))
  refine ⟨?_, ?_, rfl, rfl, Nat.le_refl _, ?_⟩
  · show decide (i.natAbs.log2 < 1920) = true
    exact decide_eq_true (by omega)
  · show decide ((PyData.shown (.int i)).length ≤ 303) = true
    refine decide_eq_true ?_
    have e := int_text_length_le10 (k := 302) (by decide) h12
    show (Str.ofString (toString i)).length ≤ 303
    rw [PySem.ofString_length]
    exact e
  · show 0 ≤ k
    omega
/-- .. of up to 1900 bits -/
theorem Sm.intW {i : Int} (h : i.natAbs < 2 ^ 1900) : Sm (.int i) 600 0 0 := by
  have hl := log2_lt (k := 1900) (by decide) h
  have h12 : i.natAbs < 10 ^ 599 := Nat.lt_of_lt_of_le h (by decide +kernel)
  refine ⟨?_, ?_, rfl, rfl, Nat.le_refl _, Nat.le_refl _⟩
  · show decide (i.natAbs.log2 < 1920) = true
    exact decide_eq_true (by omega)
  · show decide ((PyData.shown (.int i)).length ≤ 600) = true
    refine decide_eq_true ?_
    have e := int_text_length_le10 (k := 599) (by decide) h12
    show (Str.ofString (toString i)).length ≤ 600
    rw [PySem.ofString_length]
    exact e
theorem Sm.int0 {i : Int} {k : Nat} (hk : 1 ≤ k) (h : i.natAbs < 2 ^ k) (hk2 : k ≤ 39) : Sm (.int i) 13 0 0 := by
  obtain ⟨a, b, c, d, e, _⟩ := Sm.int hk h hk2
  exact ⟨a, b, c, d, e, Nat.le_refl _⟩
end Wn
/-! d.update(e) for dicts of whole numbers and texts; dict(xs) with a name -/
namespace Wn
open PySem PySem.Spec PyProof.Rows L2
def rUpd : V → List V → Hp → VK → Prop := fun x vs H Q => ∃ (a o : Addr) (kvs more : List (Key × V)), x = .ref a ∧ vs = [.ref o] ∧ a ≠ o ∧ H a = some (.dK kvs) ∧ H o = some (.dK more) ∧ kvs.length + more.length ≤ sizeLine ∧ Q .non (upd H a (.dK (mergeK kvs more)))
theorem mt_update {X : Cx} : MtR X "dict.update" rUpd := by
  intro pins s σ H x vs v us Q I rx rv h
  obtain ⟨a, o, kvs, more, rfl, rfl, hne, ha, ho, hz, q⟩ := h
  cases rx
  obtain ⟨u, rfl, ru⟩ := rv.one
  cases ru
  obtain ⟨z1, n1, vs1, rel1, d1⟩ := dk_of I.hok ha
  obtain ⟨z2, n2, vs2, rel2, d2⟩ := dk_of I.hok ho
  have l1 := rel1.length
  have l2 := rel2.length
  refine call_meetsIn PySem.F.slot_dict_update d1.typeIs PySem.F.entry_dict_update (PySem.F.args_dict_update_2 _ _) (meets_dict_update (mixKind X.prog X.w) a o hne n2) ⟨vs1, vs2, d1, d2, by omega, fun h' d1' d2' hs => ?_⟩
  have hlm := length_mergeK more kvs
  have he : ∃ q, h'.get? a = some q := let ⟨q, _, _, hq, _⟩ := d1'; ⟨q, hq⟩
  exact ⟨.non, _, d_write I (by rw [ha]; exact True.intro) hs he (dk_new (by omega) n1 (rel2.merge rel1) d1'), rfl, q⟩
def rDP (K : PySem.W.Frag) : List V → Hp → VK → Prop := fun xs H Q => ∃ (a : Addr) (ps : List Addr) (kvs : List (Key × V)), xs = [.ref a] ∧ SqL K H a (ps.map V.ref) ∧ Paired (fun p kv => SqT K H p [kV kv.1, kv.2]) ps kvs ∧
    ∀ p, H p = none → Q (.ref p) (upd H p (.dK (mergeK [] kvs)))
theorem call_dP {X : Cx} (h : X.calm = true) : CallR X (.type "dict") (rDP X.K) := call_dictP h
theorem valV_merge : ∀ (more kvs : List (Key × V)) (k : Key), (valV (mergeK kvs more) k).isSome = ((valV kvs k).isSome || decide (∃ kv ∈ more, kv.1 = k))
  | [], kvs, k => by simp [mergeK]
  | p :: r, kvs, k => by
    show (valV (mergeK (putK kvs p.1 p.2) r) k).isSome = _
    rw [valV_merge r, valV_put, Bool.eq_iff_iff]
    by_cases e : k = p.1
    · subst e
      simp
    · rw [if_neg e]
      have e' : ¬ p.1 = k := fun z => e z.symm
      simp [e']
end Wn
/-! wheels: rows of remainders -/
namespace Wn
open PySem PySem.Spec PyProof.Rows L2
def topB (b n L x : Nat) : Bool := decide (Nat.gcd x n = 1) && (List.range L).all fun i => decide (x ≤ rem b n x i)
def wl (b n L : Nat) : List Nat := (List.range n).filter (topB b n L)
def InOrb (b n L y r : Nat) : Prop := ∃ i, i < L ∧ rem b n y i = r
theorem top_iff {b n L x : Nat} : topB b n L x = true ↔ Nat.gcd x n = 1 ∧ ∀ i, i < L → x ≤ rem b n x i := by
  unfold topB
  rw [Bool.and_eq_true, decide_eq_true_eq, List.all_eq_true]
  constructor
  · rintro ⟨h1, h2⟩
    refine ⟨h1, fun i hi => ?_⟩
    have := h2 i (List.mem_range.mpr hi)
    rwa [decide_eq_true_eq] at this
  · rintro ⟨h1, h2⟩
    exact ⟨h1, fun i hi => decide_eq_true (h2 i (List.mem_range.mp hi))⟩
theorem rem_rem (b n y i j : Nat) : rem b n (rem b n y i) j = rem b n y (i + j) := by
  unfold rem
  rw [Nat.mod_mul_mod, Nat.mul_assoc, ← Nat.pow_add]
theorem rem_per {b n L y : Nat} (h : IsPer b n L) (hy : y < n) : rem b n y L = y := by
  unfold rem
  rw [Nat.mul_mod, h.2.1, ← Nat.mul_mod, Nat.mul_one, Nat.mod_eq_of_lt hy]
theorem orb_symm {b n L x y : Nat} (h : IsPer b n L) (hy : y < n) (o : InOrb b n L y x) : InOrb b n L x y := by
  obtain ⟨i, hi, e⟩ := o
  subst e
  rcases Nat.eq_zero_or_pos i with z | z
  · subst z
    exact ⟨0, h.1, by rw [rem_rem, rem_zero hy]⟩
  · exact ⟨L - i, by omega, by rw [rem_rem, show i + (L - i) = L by omega, rem_per h hy]⟩
theorem rem_cop {b n x : Nat} (g : Nat.gcd b n = 1) (gx : Nat.gcd x n = 1) (i : Nat) : Nat.gcd (rem b n x i) n = 1 := by
  unfold rem
  rw [← Nat.gcd_rec n (x * b ^ i), Nat.gcd_comm]
  exact Nat.Coprime.mul_left gx (cop_pow g i)
theorem not_top {b n L x : Nat} (g : Nat.gcd b n = 1) (h : IsPer b n L) (hx : x < n) (gx : Nat.gcd x n = 1) : topB b n L x = false ↔ ∃ y, y < x ∧ Nat.gcd y n = 1 ∧ InOrb b n L y x := by
  have hn : 1 ≤ n := by omega
  constructor
  · intro z
    have z' : ¬ topB b n L x = true := by rw [z]; decide
    rw [top_iff] at z'
    have : ∃ i, i < L ∧ rem b n x i < x := by
      apply Classical.byContradiction
      intro c
      exact z' ⟨gx, fun i hi => Nat.le_of_not_lt fun l => c ⟨i, hi, l⟩⟩
    obtain ⟨i, hi, l⟩ := this
    exact ⟨_, l, rem_cop g gx i, orb_symm h hx ⟨i, hi, rfl⟩⟩
  · rintro ⟨y, hy, gy, o⟩
    obtain ⟨j, hj, e⟩ := orb_symm h (by omega) o
    cases c : topB b n L x with
    | false => rfl
    | true =>
      have := (top_iff.mp c).2 j hj
      omega
/-- who has been met before x comes -/
def Met (b n L k r : Nat) : Prop := ∃ y, y < k ∧ Nat.gcd y n = 1 ∧ InOrb b n L y r
theorem met_top {b n L k r : Nat} (g : Nat.gcd b n = 1) (h : IsPer b n L) (hk : k ≤ n) : Met b n L k r ↔ ∃ y, y < k ∧ topB b n L y = true ∧ InOrb b n L y r := by
  constructor
  · rintro ⟨y, hy, gy, i, hi, e⟩
    -- the least of its row
    obtain ⟨m, hm, ⟨j, hj, ej⟩, q⟩ := least (fun z => ∃ j, j < L ∧ rem b n y j = z) y ⟨0, h.1, rem_zero (by omega)⟩
    have hjm : rem b n y j = m := ej
    refine ⟨m, by omega, top_iff.mpr ⟨?_, fun t ht => ?_⟩, ?_⟩
    · rw [← hjm]
      exact rem_cop g gy j
    · apply Nat.le_of_not_lt
      intro l
      refine q _ l ⟨(j + t) % L, Nat.mod_lt _ h.1, ?_⟩
      rw [← hjm, rem_rem]
      have := Nat.div_add_mod (j + t) L
      show rem b n y ((j + t) % L) = rem b n y (j + t)
      conv => rhs; rw [← this]
      rw [← rem_rem]
      congr 1
      unfold rem
      rw [Nat.mul_mod, h.mul, ← Nat.mul_mod, Nat.mul_one, Nat.mod_eq_of_lt (by omega)]
    · refine ⟨(L - j + i) % L, Nat.mod_lt _ h.1, ?_⟩
      have := Nat.div_add_mod (L - j + i) L
      rw [← e, ← hjm, rem_rem]
      have e2 : rem b n y (j + (L - j + i) % L) = rem b n y (j + (L - j + i)) := by
        conv => rhs; rw [← this]
        rw [show j + (L * ((L - j + i) / L) + (L - j + i) % L) = L * ((L - j + i) / L) + (j + (L - j + i) % L) by omega, ← rem_rem (i := L * ((L - j + i) / L))]
        congr 1
        unfold rem
        rw [Nat.mul_mod, h.mul, ← Nat.mul_mod, Nat.mul_one, Nat.mod_eq_of_lt (by omega)]
      rw [e2, show j + (L - j + i) = L + i by omega, ← rem_rem, rem_per h (by omega)]
  · rintro ⟨y, hy, t, o⟩
    exact ⟨y, hy, (top_iff.mp t).1, o⟩
theorem met_succ {b n L k r : Nat} : Met b n L (k + 1) r ↔ Met b n L k r ∨ (Nat.gcd k n = 1 ∧ InOrb b n L k r) := by
  constructor
  · rintro ⟨y, hy, gy, o⟩
    rcases Nat.lt_or_eq_of_le (show y ≤ k by omega) with z | z
    · exact .inl ⟨y, z, gy, o⟩
    · subst z
      exact .inr ⟨gy, o⟩
  · rintro (⟨y, hy, gy, o⟩ | ⟨gk, o⟩)
    · exact ⟨y, by omega, gy, o⟩
    · exact ⟨k, by omega, gk, o⟩
/-- a number whose least one stands before it brings nothing new -/
theorem met_skip {b n L k r : Nat} (g : Nat.gcd b n = 1) (h : IsPer b n L) (hk : k < n) (c : topB b n L k = false) : Met b n L (k + 1) r ↔ Met b n L k r := by
  rw [met_top g h (by omega), met_top g h (by omega)]
  constructor
  · rintro ⟨y, hy, t, o⟩
    rcases Nat.lt_or_eq_of_le (show y ≤ k by omega) with z | z
    · exact ⟨y, z, t, o⟩
    · subst z
      rw [c] at t
      cases t
  · rintro ⟨y, hy, t, o⟩
    exact ⟨y, by omega, t, o⟩
def rl (b n x L : Nat) : List Nat := (List.range L).map fun i => rem b n x i
theorem rl_len (b n x L : Nat) : (rl b n x L).length = L := by simp [rl]
theorem mem_rl {b n x L r : Nat} : r ∈ rl b n x L ↔ InOrb b n L x r := by
  unfold rl
  rw [List.mem_map]
  constructor
  · rintro ⟨i, hi, e⟩
    exact ⟨i, List.mem_range.mp hi, e⟩
  · rintro ⟨i, hi, e⟩
    exact ⟨i, List.mem_range.mpr hi, e⟩
theorem rl_lt {b n x L r : Nat} (hn : 1 ≤ n) (h : r ∈ rl b n x L) : r < n := by
  obtain ⟨i, _, rfl⟩ := mem_rl.mp h
  exact rem_lt hn
def copL (n : Nat) : List Nat := (List.range n).filter fun x => decide (Nat.gcd x n = 1)
theorem wl_take_succ {b n L k : Nat} (hk : k < n) : ((List.range n).take (k + 1)).filter (topB b n L) = ((List.range n).take k).filter (topB b n L) ++ (if topB b n L k = true then [k] else []) := by
  rw [List.take_succ_eq_append_getElem (by simpa using hk), List.filter_append, List.getElem_range, List.filter_cons]
  split <;> simp
end Wn
namespace Wn
open PySem PySem.Spec PyProof.Rows L2
theorem orb_trans {b n L x y r : Nat} (h : IsPer b n L) (hy : y < n) (o : InOrb b n L y x) (o2 : InOrb b n L x r) : InOrb b n L y r := by
  obtain ⟨i, hi, rfl⟩ := o
  obtain ⟨j, hj, rfl⟩ := o2
  refine ⟨(i + j) % L, Nat.mod_lt _ h.1, ?_⟩
  rw [rem_rem]
  have := Nat.div_add_mod (i + j) L
  show rem b n y ((i + j) % L) = rem b n y (i + j)
  conv => rhs; rw [← this]
  rw [← rem_rem]
  congr 1
  unfold rem
  rw [Nat.mul_mod, h.mul, ← Nat.mul_mod, Nat.mul_one, Nat.mod_eq_of_lt hy]
theorem asc_cop (n : Nat) : (copL n).Pairwise (· < ·) := List.Pairwise.filter _ List.pairwise_lt_range
theorem mem_cop {n x : Nat} : x ∈ copL n ↔ x < n ∧ Nat.gcd x n = 1 := by
  unfold copL
  rw [List.mem_filter, List.mem_range, decide_eq_true_eq]
theorem cop_len (n : Nat) : (copL n).length ≤ n := by
  unfold copL
  exact Nat.le_trans (List.length_filter_le _ _) (by simp)
theorem cop_take {n i y : Nat} (hi : i < (copL n).length) : y ∈ (copL n).take i ↔ y < (copL n)[i] ∧ Nat.gcd y n = 1 := by
  have hx := mem_cop.mp (List.getElem_mem hi)
  constructor
  · intro h
    obtain ⟨j, hj, rfl⟩ := List.mem_iff_getElem.mp h
    rw [List.length_take] at hj
    rw [List.getElem_take]
    exact ⟨List.pairwise_iff_getElem.mp (asc_cop n) j i (by omega) hi (by omega), (mem_cop.mp (List.getElem_mem _)).2⟩
  · rintro ⟨hl, hg⟩
    have hm : y ∈ copL n := mem_cop.mpr ⟨by omega, hg⟩
    obtain ⟨j, hj, rfl⟩ := List.mem_iff_getElem.mp hm
    rw [List.mem_iff_getElem]
    have hji : j < i := by
      rcases Nat.lt_trichotomy j i with z | z | z
      · exact z
      · subst z
        omega
      · have := List.pairwise_iff_getElem.mp (asc_cop n) i j hi hj z
        omega
    exact ⟨j, by rw [List.length_take]; omega, by rw [List.getElem_take]⟩
theorem cop_top (b n L : Nat) : (copL n).filter (topB b n L) = wl b n L := by
  unfold copL wl
  rw [List.filter_filter]
  congr 1
  funext x
  cases t : topB b n L x with
  | false => rfl
  | true => rw [decide_eq_true (top_iff.mp t).1]; rfl
theorem valV_mem : ∀ (l : List (Key × V)) (k : Key), (valV l k).isSome = true ↔ ∃ kv ∈ l, kv.1 = k
  | [], k => by simp [valV]
  | p :: r, k => by
    by_cases e : p.1 = k
    · rw [valV_pos e]
      simp [e]
    · rw [valV_neg e, valV_mem r]
      simp [e]
end Wn
/-! set(xs) of a list of whole numbers -/
namespace Wn
open PySem PySem.Spec PyProof.Rows L2
abbrev eSet (w : World) : Obj := { cls := .type "set", dict := none, data := .set #[] 0 (.fresh 0 0 (!w.params.followText "set-order")) }
section
variable {P : Program} {w : World} {A : Around} {E : Value → Shared → Prop} {z : Shared}
theorem set_lst {l : Addr} {us : Array Value} (ks : List Int) {Q : Value → Shared → Prop} (hh : A.handled = none) (hl : z.heap.IsList l us) (hu : IntsAre us.toList ks) (hb : ks.length + 1 < scanBound)
    (go : ∀ (hp : Heap) (tk c : Nat), SetR w hp z.heap.objs.size (fun j => decide (j ∈ ks)) c → (∀ b o, z.heap.get? b = some o → hp.get? b = some o) → Q (.ref z.heap.objs.size) { z with heap := hp, toks := tk }) :
    wpAny (model P w) A (call (.type "set") [.ref l]) Q E z := by
  have hsz : us.size = ks.length := Array.length_toList (xs := us) ▸ IntsAre.length hu
  obtain ⟨c0, t0, mr⟩ := F.called_set.mro
  have p1 := F.called_set.made; have p2 := F.called_set.sub
  refine wpAny_call (codeAny_of_tree (show wpAny _ _ (callAny (.type "set") _) _ _ _ from wpAny_pure ⟨Code.quiet_builtin _ (by decide +kernel), codeAny_builtin F.entry_type_call ?_⟩))
  rw [Around.under_plain (weight_type_call_type "set" [Value.ref l] []) rfl]
  have p3 := F.called_set.notType; have p4 := F.called_set.canCreate; have p5 := F.typeCall_set_1 (.ref l)
  repeat (any_goals (first | assumption | wp_step))
  refine codeAny_mono (code_set_led1 (.ref l) (E := E) (Q₁ := fun v s1 => v = .ref z.heap.objs.size ∧ s1 = { z with heap := z.heap.push (eSet w) }) ⟨rfl, rfl⟩) fun r s1 hr => ?_
  cases r with
  | error e => exact hr
  | ok fl =>
    cases fl with
    | ret v =>
      obtain ⟨rfl, rfl⟩ := hr
      have aS : (z.heap.push (eSet w)).get? z.heap.objs.size = some (eSet w) := Heap.get?_push_size _ rfl
      have tS : Shared.TypeIs { z with heap := z.heap.push (eSet w) } (.ref z.heap.objs.size) "set" := ⟨_, aS, rfl⟩
      have p6 := F.called_set.init.lookup; have p7 := F.called_set.init.bind (.ref z.heap.objs.size)
      repeat (any_goals (first | assumption | wp_step))
      refine codeAny_mono (codeAny_call_builtin (R := wants (fun r s2 => r = .none ∧ ∃ hp tk c, s2 = { z with heap := hp, toks := tk } ∧ SetR w hp z.heap.objs.size (fun j => decide (j ∈ ks)) c ∧ (∀ b o, z.heap.get? b = some o → hp.get? b = some o)) E)
        F.called_set.init.plain F.entry_set_init (check_set_init_1 tS ?_)) fun r2 s2 hr2 => ?_
      · obtain ⟨⟨oc, od, odata, osl⟩, ho, hc, nl, hd⟩ := hl
        simp only at hc hd; subst hc; subst hd
        have ho' : (z.heap.push (eSet w)).get? l = some { cls := .type "list", dict := od, data := .seq us nl, slots := osl } := Heap.get?_push_of_some _ ho
        have q1 := F.sub_list_set; have q2 := F.sub_list_frozenset
        have q3 : (Value.type "list" == Value.type "dict") = false := by decide
        have il : (z.heap.push (eSet w)).IsList l us := ⟨_, ho', rfl, nl, rfl⟩
        unfold Builtin.«set.__init__» noKeywords Builtin.Frozenset.updateFrom
        generalize eI : pyIter = PI; wp_walk; subst eI
        refine wpAny_pyIter_list il (wpAny_bind (wpAny_runValue ?_))
        have lt : l < z.heap.objs.size := Heap.lt_size ho
        have h3 : A.in1.in1.in1.handled = none := by simp [hh]
        have eI : (z.heap.push (eSet w)).objs.size = z.heap.objs.size + 1 := Heap.size_push ..
        have nI : l ≠ (z.heap.push (eSet w)).objs.size := by rw [eI]; exact Nat.ne_of_lt (Nat.lt_succ_of_lt lt)
        have nS : z.heap.objs.size ∉ [(z.heap.push (eSet w)).objs.size, l] := by
          rw [eI]; simp only [List.mem_cons, List.not_mem_nil, or_false]; exact fun h => h.elim (Nat.ne_of_lt (Nat.lt_succ_self _)) (Nat.ne_of_gt lt)
        have items : ∀ (i : Nat) (v : Value), us[i]? = some v → ∃ k t, ks[i]? = some k ∧ v = .int k t := fun i v hv => by
          have hi : i < ks.length := hsz ▸ (Array.getElem?_eq_some_iff.mp hv).1
          obtain ⟨t, e⟩ := PyProof.Rows.IntsAre.int_at hu i v (by simpa using hv)
          exact ⟨ks[i], t, by simp [hi], by rw [e]; simp [hi]⟩
        refine set_update_ints ((Walks.list h3 _ l nI us).toS) z.heap.objs.size nS ks hsz hb items (us.size - 0) 0 _ (by omega) (Nat.zero_le _) ⟨⟨_, Heap.get?_push_size _ rfl, rfl, rfl⟩, il.push _⟩ ⟨0, Nat.le_refl 0, setR_new_at (Heap.get?_push_of_some _ aS)⟩ fun s3 c3 mv hc3 R3 => ?_
        obtain ⟨h3', g3, d3, tk3, os3⟩ := s3
        have e1 : g3 = z.gens := mv.gens; have e2 : d3 = z.drawn := mv.drawn; have e3 : os3 = z.os := mv.os
        subst e1; subst e2; subst e3
        refine wpAny_pure (show wpAny _ _ (ret Value.none) _ _ _ from wpAny_pure ⟨rfl, h3', tk3, c3, rfl, R3, fun b o e => ?_⟩)
        have lb : b < z.heap.objs.size := Heap.lt_size e
        refine mv.heap b o ?_ (Heap.get?_push_of_some _ (Heap.get?_push_of_some _ e))
        simp only [List.mem_cons, List.not_mem_nil, or_false]; rw [eI]; exact fun h => h.elim (Nat.ne_of_lt lb) (Nat.ne_of_lt (Nat.lt_succ_of_lt lb))
      · cases r2 with
        | error e => exact hr2
        | ok fl2 =>
          cases fl2 with
          | ret r =>
            obtain ⟨rfl, hp, tk, c, rfl, R, kp⟩ := hr2
            repeat (any_goals (first | assumption | wp_step))
            exact go _ _ _ R kp
          | _ => exact hr2.elim
    | _ => exact hr.elim
end
theorem ints_vals : ∀ {ns : List Int} {us : List Value}, Vals (ns.map V.int) us → IntsAre us ns
  | [], _, .nil => .nil
  | _ :: _, _, .cons ⟨k, e⟩ t => e ▸ IntsAre.cons _ k (ints_vals t)
def rSetL (K : PySem.W.Frag) (w : World) : List V → Hp → VK → Prop := fun xs H Q => ∃ (l : Addr) (ns : List Int), xs = [V.ref l] ∧ SqL K H l (ns.map V.int) ∧ ns.length ≤ 4000 ∧
  ∀ (a : Addr) (ks : List Int), H a = none → ks.Nodup → (∀ k, k ∈ ks ↔ k ∈ ns) → Q (.ref a) (upd H a (SetO w a (fun j => decide (j ∈ ns)) ks.length))
theorem call_setL {X : Cx} (hc : X.calm = true) : CallR X (.type "set") (rSetL X.K X.w) := by
  intro pins s σ H xs us Q I r h
  obtain ⟨l, ns, rfl, hs, hz, q⟩ := h
  obtain ⟨its, rv, hl, _⟩ := I.list hs
  rw [Vals.ref1 r]
  refine set_lst ns (I.ok.hd hc) hl.isList (by simpa using ints_vals rv) (by unfold scanBound; omega) fun hp tk c R kp => ?_
  have R' := R
  obtain ⟨o, es, ep, t, _, _, _, _, nd, hm, _, _, hn, _⟩ := R
  have e : (es.toList.map keyOf).length = c := by rw [List.length_map, Array.length_toList, hn]
  have free := I.hok.fresh (Nat.le_refl s.heap.objs.size)
  have q' := q s.heap.objs.size (es.toList.map keyOf) free nd (fun k => by rw [← hm]; simp)
  rw [e] at q'
  exact ⟨.ref _, _, I.laid (t' := tk) kp (Nat.le_refl _) (setO_new R'), rfl, q'⟩
/-! ascending lists with the same members are one -/
theorem asc_eq : ∀ {xs ys : List Int}, xs.Pairwise (· < ·) → ys.Pairwise (· < ·) → (∀ k, k ∈ xs ↔ k ∈ ys) → xs = ys
  | [], [], _, _, _ => rfl
  | [], y :: ys, _, _, h => absurd ((h y).mpr List.mem_cons_self) (by simp)
  | x :: xs, [], _, _, h => absurd ((h x).mp List.mem_cons_self) (by simp)
  | x :: xs, y :: ys, hx, hy, h => by
    have hx' := List.pairwise_cons.mp hx
    have hy' := List.pairwise_cons.mp hy
    have e : x = y := by
      rcases List.mem_cons.mp ((h x).mp List.mem_cons_self) with z | z
      · exact z
      · rcases List.mem_cons.mp ((h y).mpr List.mem_cons_self) with z2 | z2
        · exact z2.symm
        · have h1 := hy'.1 x z
          have h2 := hx'.1 y z2
          omega
    subst e
    rw [asc_eq hx'.2 hy'.2 fun k => ?_]
    have hk := h k
    simp only [List.mem_cons] at hk
    constructor
    · intro z
      rcases hk.mp (.inr z) with z2 | z2
      · have := hx'.1 k z
        omega
      · exact z2
    · intro z
      rcases hk.mpr (.inr z) with z2 | z2
      · have := hy'.1 k z
        omega
      · exact z2
end Wn
/-! a tuple times any small number -/
namespace Wn
open PySem PySem.Spec PyProof.Rows L2
theorem tmul_same (l : Addr) (us : Array Value) (n : Nat) (dd : Option Addr) (sl : Array (Option Value)) (k : Int) (u : Tok) (c0 : (decide (k < -(2 ^ 63)) || decide (k ≥ 2 ^ 63)) = false) (c1 : (us.isEmpty || k == 1) = true) :
    Meets (Builtin.«tuple.__mul__» ⟨[.ref l, .int k u], []⟩) (fun _ R s => s.heap.get? l = some { cls := .type "tuple", dict := dd, data := .seq us n, slots := sl } ∧ R (.ok (.ret (Value.ref l))) s) :=
  .of_wp fun prog w A R s ⟨hl, go⟩ => by
    obtain ⟨hp, g, d, tk, os⟩ := s
    have f1 := AutoSeq1.idx_int
    wp_walk using wpAny_loadPart' hl
    repeat (first
      | (refine wpAny_ite_false (decide_eq_false (by rw [c0]; exact Bool.false_ne_true)) ?_; wp_walk using wpAny_loadPart' hl)
      | (refine wpAny_ite_true (decide_eq_true (by rw [c1])) ?_; wp_walk using wpAny_loadPart' hl))
    exact ⟨_, rfl, go⟩
theorem tmul_none (l : Addr) (us : Array Value) (n : Nat) (dd : Option Addr) (sl : Array (Option Value)) (k : Int) (u : Tok) (c0 : (decide (k < -(2 ^ 63)) || decide (k ≥ 2 ^ 63)) = false) (c1 : (us.isEmpty || k == 1) = false) (c2 : (decide (k ≤ 0) || us.isEmpty) = true) :
    Meets (Builtin.«tuple.__mul__» ⟨[.ref l, .int k u], []⟩) (fun _ R s => s.heap.get? l = some { cls := .type "tuple", dict := dd, data := .seq us n, slots := sl } ∧
      R (.ok (.ret (Value.ref s.heap.objs.size))) { s with heap := s.heap.push { cls := Value.type "tuple", data := Data.seq #[] }, toks := s.toks }) :=
  .of_wp fun prog w A R s ⟨hl, go⟩ => by
    obtain ⟨hp, g, d, tk, os⟩ := s
    have f1 := AutoSeq1.idx_int
    wp_walk using wpAny_loadPart' hl
    repeat (first
      | (refine wpAny_ite_false (decide_eq_false (by rw [c0]; exact Bool.false_ne_true)) ?_; wp_walk using wpAny_loadPart' hl)
      | (refine wpAny_ite_false (decide_eq_false (by rw [c1]; exact Bool.false_ne_true)) ?_; wp_walk using wpAny_loadPart' hl)
      | (refine wpAny_ite_true (decide_eq_true (by rw [c2])) ?_; wp_walk using wpAny_loadPart' hl))
    exact ⟨_, rfl, go⟩
def rRepG (K : PySem.W.Frag) : R2 := fun x y H Q => ∃ (l : Addr) (k : Int) (xs : List V), x = .ref l ∧ y = .int k ∧ SqT K H l xs ∧ (-1000 ≤ k ∧ k ≤ 1000 ∧ xs.length ≤ 1000) ∧
  ((k = 1 ∨ xs = []) → Q (.ref l) H) ∧ (k ≠ 1 → xs ≠ [] → ∀ p, H p = none → Q (.ref p) (upd H p (.tup (List.replicate k.toNat xs).flatten)))
theorem op_repG {X : Cx} : OpR X (binaryOp .Mult) (rRepG X.K) := by
  intro pins s σ H x y v u Q I rx ry h
  obtain ⟨l, k, xs, rfl, rfl, hT, ⟨h0, h1, hz⟩, q1, q2⟩ := h
  by_cases hb : 2 ≤ k ∧ xs ≠ []
  · exact op_repT pins s σ H _ _ _ _ _ I rx ry ⟨l, k, xs, rfl, rfl, hT, hb.2, hb.1, h1, hz, q2 (by omega) hb.2⟩
  cases rx
  obtain ⟨t, rfl⟩ := ry
  obtain ⟨its, r, ⟨⟨cls, dd, data, sl⟩, ho, hc, n, hd⟩, hs⟩ := I.tuple hT
  simp only at hc hd
  subst hc hd
  have c0 : (decide (k < -(2 ^ 63)) || decide (k ≥ 2 ^ 63)) = false := by
    rw [decide_eq_false (by omega), decide_eq_false (by omega)] <;> rfl
  have hne : its.toArray.isEmpty = true ↔ xs = [] := by
    cases r with
    | nil => exact ⟨fun _ => rfl, fun _ => rfl⟩
    | cons a b => exact ⟨fun z => by simp at z, fun z => by cases z⟩
  by_cases c1 : (its.toArray.isEmpty || k == 1) = true
  · have hk : k = 1 ∨ xs = [] := by
      rcases Bool.or_eq_true _ _ ▸ c1 with z | z
      · exact .inr (hne.mp z)
      · exact .inl (beq_iff_eq.mp z)
    refine wpAny_binaryOp_repeat_ref (T := "tuple") (U := "int") (by decide) ⟨_, ho, rfl⟩ (fun s' => typeIs_int s' k t) noFill_tuple_mul F.fills_int_mul F.slot_int_rmul repeat_tuple F.slot_int_index.lookup
      (call_meets F.slot_int_rmul (typeIs_int s k t) F.entry_int_rmul (F.args_int_rmul_2 _ _) (int_rmul_tuple k t l its.toArray n dd sl)
        ⟨ho, rfl, ⟨_, ho, rfl⟩, call_meets F.slot_tuple_mul ⟨_, ho, rfl⟩ F.entry_tuple_mul (F.args_tuple_mul_2 _ _) (tmul_same l its.toArray n dd sl k t c0 c1) ⟨ho, .ref l, H, I, rfl, q1 hk⟩⟩)
  · have c1' : (its.toArray.isEmpty || k == 1) = false := by simpa using c1
    rw [Bool.or_eq_false_iff] at c1'
    have hx : xs ≠ [] := fun z => by
      rw [hne.mpr z] at c1'
      cases c1'.1
    have hk1 : k ≠ 1 := fun z => by
      have := c1'.2
      rw [z] at this
      cases this
    have hk0 : k ≤ 0 := by
      rcases Int.lt_or_le 0 k with z | z
      · exact absurd ⟨by omega, hx⟩ hb
      · exact z
    have q3 := q2 hk1 hx s.heap.objs.size (I.hok.fresh (Nat.le_refl _))
    rw [show k.toNat = 0 by omega] at q3
    refine wpAny_binaryOp_repeat_ref (T := "tuple") (U := "int") (by decide) ⟨_, ho, rfl⟩ (fun s' => typeIs_int s' k t) noFill_tuple_mul F.fills_int_mul F.slot_int_rmul repeat_tuple F.slot_int_index.lookup
      (call_meets F.slot_int_rmul (typeIs_int s k t) F.entry_int_rmul (F.args_int_rmul_2 _ _) (int_rmul_tuple k t l its.toArray n dd sl)
        ⟨ho, rfl, ⟨_, ho, rfl⟩, call_meets F.slot_tuple_mul ⟨_, ho, rfl⟩ F.entry_tuple_mul (F.args_tuple_mul_2 _ _) (tmul_none l its.toArray n dd sl k t c0 (by rw [c1'.1, c1'.2]; rfl) (by rw [decide_eq_true hk0]; rfl)) ⟨ho, ?_⟩⟩)
    refine ⟨.ref s.heap.objs.size, _, I.laid (t' := s.toks) (o := .tup (List.replicate 0 xs).flatten) (fun b ob q => Heap.get?_push_of_some _ q) (Nat.le_refl _) ?_, rfl, q3⟩
    exact ⟨Nat.zero_le _, [], .nil, IsTup.new _ _⟩
end Wn
/-! rotations -/
namespace Wn
open PySem PySem.Spec PyProof.Rows L2
def rotL (ds : List Nat) (k : Nat) : List Nat := ds.drop k ++ ds.take k
theorem rotL_len (ds : List Nat) (k : Nat) : (rotL ds k).length = ds.length := by
  unfold rotL
  rw [List.length_append, List.length_drop, List.length_take]
  omega
theorem rotL_zero (ds : List Nat) : rotL ds 0 = ds := by simp [rotL]
theorem rotL_succ {ds : List Nat} {k : Nat} (h : k < ds.length) : (rotL ds k).drop 1 ++ (rotL ds k).take 1 = rotL ds (k + 1) := by
  unfold rotL
  rw [List.drop_eq_getElem_cons h]
  simp only [List.cons_append, List.drop_succ_cons, List.drop_zero, List.take_succ_cons, List.take_zero]
  rw [List.append_assoc, List.take_succ_eq_append_getElem h]
theorem mem_rotL {ds : List Nat} {k x : Nat} (h : x ∈ rotL ds k) : x ∈ ds := by
  unfold rotL at h
  rcases List.mem_append.mp h with z | z
  · exact List.mem_of_mem_drop z
  · exact List.mem_of_mem_take z
/-- the repeating digits -/
def dgl (b n x L : Nat) : List Nat := (List.range L).map fun i => rem b n x i * b / n
theorem dgl_len (b n x L : Nat) : (dgl b n x L).length = L := by simp [dgl]
theorem rem_cyc {b n x L : Nat} (h : IsPer b n L) (i : Nat) : rem b n x (i + L) = rem b n x i := by
  unfold rem
  rw [Nat.pow_add, ← Nat.mul_assoc, Nat.mul_mod, h.2.1, ← Nat.mul_mod, Nat.mul_one]
theorem dgl_rot {b n x L k : Nat} (h : IsPer b n L) (hk : k ≤ L) : rotL (dgl b n x L) k = dgl b n (rem b n x k) L := by
  unfold rotL
  apply List.ext_getElem
  · rw [List.length_append, List.length_drop, List.length_take, dgl_len, dgl_len]
    omega
  · intro i h1 h2
    rw [dgl_len] at h2
    rw [List.getElem_append]
    split
    · rename_i hi
      rw [List.length_drop, dgl_len] at hi
      rw [List.getElem_drop]
      simp only [dgl, List.getElem_map, List.getElem_range]
      rw [rem_rem]
    · rename_i hi
      rw [List.length_drop, dgl_len] at hi
      rw [List.getElem_take]
      simp only [dgl, List.getElem_map, List.getElem_range, List.length_drop, List.length_map, List.length_range]
      rw [rem_rem, show k + i = i - (L - k) + L by omega, rem_cyc h]
theorem dgl_inj {b n x y L : Nat} (hb : 2 ≤ b) (h : IsPer b n L) (hx : x < n) (hy : y < n) (e : dgl b n x L = dgl b n y L) : x = y := by
  have hn : 1 ≤ n := by omega
  have hd : ∀ i, i < L → rem b n x i * b / n = rem b n y i * b / n := fun i hi => by
    have h1 : (dgl b n x L)[i]'(by rw [dgl_len]; exact hi) = (dgl b n y L)[i]'(by rw [dgl_len]; exact hi) := by simp only [e]
    simp only [dgl, List.getElem_map, List.getElem_range] at h1
    exact h1
  have st : ∀ z i, rem b n z i * b = n * (rem b n z i * b / n) + rem b n z (i + 1) := fun z i => by
    rw [← rem_succ]
    exact (Nat.div_add_mod _ _).symm
  -- the difference grows by the base at each step
  have key : ∀ i, i ≤ L → (rem b n x i : Int) - rem b n y i = ((x : Int) - y) * (b : Int) ^ i := by
    intro i
    induction i with
    | zero =>
      intro _
      rw [rem_zero hx, rem_zero hy]
      simp
    | succ i ih =>
      intro hi
      have h1 := ih (by omega)
      have h2 := st x i
      have h3 := st y i
      rw [hd i (by omega)] at h2
      generalize rem b n y i * b / n = q at h2 h3
      have h4 : (rem b n x i : Int) * b = n * q + rem b n x (i + 1) := by exact_mod_cast h2
      have h5 : (rem b n y i : Int) * b = n * q + rem b n y (i + 1) := by exact_mod_cast h3
      rw [Int.pow_succ, ← Int.mul_assoc, ← h1, Int.sub_mul]
      omega
  have k := key L (Nat.le_refl _)
  rw [rem_per h hx, rem_per h hy] at k
  have hL := h.1
  have hp : (2 : Int) ≤ (b : Int) ^ L := by
    have : 2 ≤ b ^ L := Nat.le_trans hb (Nat.le_self_pow (by omega) b)
    exact_mod_cast this
  have : ((x : Int) - y) * ((b : Int) ^ L - 1) = 0 := by
    rw [Int.mul_sub, Int.mul_one]
    omega
  rcases Int.mul_eq_zero.mp this with z | z <;> omega
/-- among the first ones each comes once -/
theorem rem_once {b n x L i j : Nat} (g : Nat.gcd b n = 1) (gx : Nat.gcd x n = 1) (h : IsPer b n L) (hi : i < L) (hj : j < L) (e : rem b n x i = rem b n x j) : i = j := by
  have key : ∀ {i j : Nat}, i < j → j < L → rem b n x i = rem b n x j → False := fun {i j} hij hj e => by
    have e1 : b ^ i % n = b ^ j % n := mod_cancel gx e
    have e2 : b ^ (j - i) % n = 1 % n := by
      refine mod_cancel (cop_pow g i) ?_
      rw [← Nat.pow_add, show i + (j - i) = j by omega, Nat.mul_one]
      exact e1.symm
    exact h.2.2 (j - i) (by omega) (by omega) e2
  rcases Nat.lt_trichotomy i j with z | z | z
  · exact (key z hj e).elim
  · exact z
  · exact (key z hi e.symm).elim
/-- the first place from which y comes; the period where there is none -/
def topI (b n x y L : Nat) : Nat := ((List.range L).find? fun i => decide (rem b n x i = y)).getD L
theorem topI_hit {b n x y L i : Nat} (hi : i < L) (e : rem b n x i = y) (no : ∀ j, j < i → rem b n x j ≠ y) : topI b n x y L = i := by
  unfold topI
  have : (List.range L).find? (fun i => decide (rem b n x i = y)) = some i := by
    rw [List.find?_range_eq_some]
    refine ⟨decide_eq_true e, List.mem_range.mpr hi, fun j hj => ?_⟩
    simp only [Bool.not_eq_true', decide_eq_false_iff_not]
    exact no j hj
  rw [this]
  rfl
theorem topI_miss {b n x y L : Nat} (no : ∀ j, j < L → rem b n x j ≠ y) : topI b n x y L = L := by
  unfold topI
  have : (List.range L).find? (fun i => decide (rem b n x i = y)) = none := by
    rw [List.find?_eq_none]
    intro i hi
    rw [decide_eq_true_eq]
    exact no i (List.mem_range.mp hi)
  rw [this]
  rfl
theorem topI_cases (b n x y L : Nat) : (topI b n x y L < L ∧ rem b n x (topI b n x y L) = y ∧ ∀ j, j < topI b n x y L → rem b n x j ≠ y) ∨ (topI b n x y L = L ∧ ∀ j, j < L → rem b n x j ≠ y) := by
  by_cases h : ∃ i, i < L ∧ rem b n x i = y
  · obtain ⟨i, hi, e⟩ := h
    obtain ⟨m, hm, pm, q⟩ := least (fun i => rem b n x i = y) i e
    have e1 := topI_hit (L := L) (show m < L by omega) pm (fun j hj z => q j hj z)
    rw [e1]
    exact .inl ⟨by omega, pm, fun j hj z => q j hj z⟩
  · have no : ∀ j, j < L → rem b n x j ≠ y := fun j hj z => h ⟨j, hj, z⟩
    exact .inr ⟨topI_miss no, no⟩
end Wn
/-! values of digits and of their rotations; multipliers -/
namespace Wn
open PySem PySem.Spec PyProof.Rows L2
theorem wrt_from (b : Nat) : ∀ (ds : List Nat) (f : Nat), ds.foldl (fun f d => f * b + d) f = f * b ^ ds.length + wrt b ds
  | [], f => by simp [wrt]
  | d :: r, f => by
    have h1 := wrt_from b r (f * b + d)
    have h2 := wrt_from b r (0 * b + d)
    unfold wrt at h1 h2 ⊢
    simp only [List.foldl_cons, List.length_cons]
    rw [h1, h2, Nat.pow_succ, Nat.add_mul, Nat.zero_mul, Nat.zero_add, Nat.mul_assoc, Nat.mul_comm b]
    omega
theorem wrt_cons (b x : Nat) (r : List Nat) : wrt b (x :: r) = x * b ^ r.length + wrt b r := by
  have := wrt_from b r (0 * b + x)
  rw [Nat.zero_mul, Nat.zero_add] at this
  rw [← this]
  simp [wrt]
theorem wrt_append (b : Nat) (xs ys : List Nat) : wrt b (xs ++ ys) = wrt b xs * b ^ ys.length + wrt b ys := by
  rw [← wrt_from b ys (wrt b xs)]
  simp [wrt, List.foldl_append]
theorem wrt_lt {b : Nat} : ∀ {ds : List Nat}, (∀ d ∈ ds, d < b) → wrt b ds < b ^ ds.length
  | [], _ => by simp [wrt]
  | x :: r, h => by
    have ih := wrt_lt (ds := r) fun d hd => h d (List.mem_cons_of_mem _ hd)
    have hx := h x List.mem_cons_self
    rw [wrt_cons, List.length_cons, Nat.pow_succ, Nat.mul_comm (b ^ r.length)]
    have : (x + 1) * b ^ r.length ≤ b * b ^ r.length := Nat.mul_le_mul_right _ hx
    rw [Nat.succ_mul] at this
    omega
theorem rot_at {ds : List Nat} {i : Nat} (h : i < ds.length) : rotL ds i = ds[i] :: (ds.drop (i + 1) ++ ds.take i) := by
  unfold rotL
  rw [List.drop_eq_getElem_cons h]
  rfl
theorem wrt_rot {b : Nat} {ds : List Nat} {i : Nat} (h : i < ds.length) (hb : 1 ≤ b) : ((wrt b (rotL ds i) : Nat) : Int) * (b : Int) - ((ds[i] : Nat) : Int) * (((b ^ ds.length : Nat) : Int) - 1) = ((wrt b (rotL ds (i + 1)) : Nat) : Int) := by
  have e : rotL ds (i + 1) = (ds.drop (i + 1) ++ ds.take i) ++ [ds[i]] := by
    rw [← rotL_succ h, rot_at h]
    rfl
  have hl : (ds.drop (i + 1) ++ ds.take i).length + 1 = ds.length := by
    rw [List.length_append, List.length_drop, List.length_take]
    omega
  rw [rot_at h, e, wrt_cons, wrt_snoc, ← hl]
  generalize ds.drop (i + 1) ++ ds.take i = r
  generalize wrt b r = w
  generalize ds[i] = x
  rw [Nat.pow_succ]
  generalize b ^ r.length = p
  push_cast
  rw [Int.add_mul, Int.mul_sub, Int.mul_one, Int.mul_assoc (x : Int) (p : Int) (b : Int)]
  omega
/-- k times their value is that of a rotation -/
def IsMul (b : Nat) (ds : List Nat) (k : Nat) : Prop := ∃ j, j < ds.length ∧ wrt b (rotL ds j) = k * wrt b ds
/-- those met among the first i rotations -/
def mulL (b : Nat) (ds : List Nat) (i : Nat) : List Nat := ((List.range i).filter fun j => decide (wrt b (rotL ds j) % wrt b ds = 0)).map fun j => wrt b (rotL ds j) / wrt b ds
theorem mulL_succ (b : Nat) (ds : List Nat) (i : Nat) : mulL b ds (i + 1) = mulL b ds i ++ (if wrt b (rotL ds i) % wrt b ds = 0 then [wrt b (rotL ds i) / wrt b ds] else []) := by
  unfold mulL
  rw [List.range_succ, List.filter_append, List.map_append]
  congr 1
  by_cases h : wrt b (rotL ds i) % wrt b ds = 0
  · rw [if_pos h, List.filter_cons_of_pos (by simpa using h)]
    rfl
  · rw [if_neg h, List.filter_cons_of_neg (by simpa using h)]
    rfl
theorem mulL_len (b : Nat) (ds : List Nat) (i : Nat) : (mulL b ds i).length ≤ i := by
  unfold mulL
  rw [List.length_map]
  exact Nat.le_trans (List.length_filter_le _ _) (by simp)
theorem mem_mulL {b : Nat} {ds : List Nat} {k i : Nat} (hv : 1 ≤ wrt b ds) : k ∈ mulL b ds i ↔ ∃ j, j < i ∧ wrt b (rotL ds j) = k * wrt b ds := by
  unfold mulL
  rw [List.mem_map]
  constructor
  · rintro ⟨j, hj, rfl⟩
    rw [List.mem_filter, List.mem_range, decide_eq_true_eq] at hj
    exact ⟨j, hj.1, (Nat.div_mul_cancel (Nat.dvd_of_mod_eq_zero hj.2)).symm⟩
  · rintro ⟨j, hj, e⟩
    refine ⟨j, ?_, ?_⟩
    · rw [List.mem_filter, List.mem_range, decide_eq_true_eq, e]
      exact ⟨hj, Nat.mul_mod_left _ _⟩
    · rw [e, Nat.mul_div_cancel _ hv]
/-- there are few of them -/
def Few (b : Nat) (ds : List Nat) : Prop := ∀ ks : List Nat, ks.Nodup → (∀ k ∈ ks, IsMul b ds k) → ks.length < 64
theorem nodup_sub {xs : List Nat} : ∀ {ys : List Nat}, xs.Nodup → (∀ x ∈ xs, x ∈ ys) → xs.length ≤ ys.length := by
  intro ys
  induction ys generalizing xs with
  | nil =>
    intro _ h
    cases xs with
    | nil => exact Nat.le_refl _
    | cons x r => exact absurd (h x List.mem_cons_self) (by simp)
  | cons y ys ih =>
    intro nd h
    have h1 := ih (nd.erase y) fun x hx => by
      have hm := List.mem_of_mem_erase hx
      rcases List.mem_cons.mp (h x hm) with e | e
      · subst e
        exact absurd hx (List.Nodup.not_mem_erase nd)
      · exact e
    rw [List.length_cons]
    by_cases hy : y ∈ xs
    · rw [List.length_erase_of_mem hy] at h1
      omega
    · rw [List.erase_of_not_mem hy] at h1
      omega
theorem few_of {b p : Nat} {ds : List Nat} (hv : 1 ≤ wrt b ds) (hp : p < 64) (h : ∀ j, j < ds.length → ∃ i, i < p ∧ rotL ds j = rotL ds i) : Few b ds := fun ks nd hk => by
  have := nodup_sub (ys := (List.range p).map fun i => wrt b (rotL ds i) / wrt b ds) nd fun k hm => by
    obtain ⟨j, hj, e⟩ := hk k hm
    obtain ⟨i, hi, e2⟩ := h j hj
    exact List.mem_map.mpr ⟨i, List.mem_range.mpr hi, by rw [← e2, e, Nat.mul_div_cancel _ hv]⟩
  rw [List.length_map, List.length_range] at this
  omega
theorem few_len {b : Nat} {ds : List Nat} (hv : 1 ≤ wrt b ds) (h : ds.length < 64) : Few b ds := few_of hv h fun j hj => ⟨j, hj, rfl⟩
/-- digits twice over -/
theorem rot_twice {ds : List Nat} {j : Nat} (h1 : ds.length ≤ j) (h2 : j < (ds ++ ds).length) : rotL (ds ++ ds) j = rotL (ds ++ ds) (j - ds.length) := by
  unfold rotL
  rw [List.length_append] at h2
  rw [List.drop_append, List.take_append, List.drop_append, List.take_append, List.drop_eq_nil_of_le h1, List.take_of_length_le h1, show j - ds.length - ds.length = 0 by omega]
  simp only [List.nil_append, List.drop_zero, List.take_zero, List.append_nil, List.append_assoc]
theorem few_twice {b : Nat} {ds : List Nat} (hv : 1 ≤ wrt b (ds ++ ds)) (h : ds.length < 64) : Few b (ds ++ ds) := few_of hv h fun j hj => by
  rcases Nat.lt_or_ge j ds.length with z | z
  · exact ⟨j, z, rfl⟩
  · refine ⟨j - ds.length, ?_, rot_twice z hj⟩
    rw [List.length_append] at hj
    omega
/-- a number up to 1000 has no common divisor with one of two primes -/
theorem gcd_prime {b p : Nat} (hp : ∀ g, g ≤ p → g ∣ p → g = 1 ∨ g = p) (h0 : 1 ≤ p) (h : Nat.gcd b p ≠ 1) : p ∣ b := by
  rcases hp _ (Nat.le_of_dvd h0 (Nat.gcd_dvd_right b p)) (Nat.gcd_dvd_right b p) with e | e
  · exact absurd e h
  · rw [← e]
    exact Nat.gcd_dvd_left b p
theorem cop_two {b p q : Nat} (hb : 1 ≤ b) (hp : ∀ g, g ≤ p → g ∣ p → g = 1 ∨ g = p) (hq : ∀ g, g ≤ q → g ∣ q → g = 1 ∨ g = q) (p0 : 1 ≤ p) (q0 : 1 ≤ q) (c : Nat.gcd p q = 1) (hl : b < p * q) : Nat.gcd b p = 1 ∨ Nat.gcd b q = 1 := by
  by_cases h1 : Nat.gcd b p = 1
  · exact .inl h1
  · by_cases h2 : Nat.gcd b q = 1
    · exact .inr h2
    · have := Nat.le_of_dvd hb (Nat.Coprime.mul_dvd_of_dvd_of_dvd c (gcd_prime hp p0 h1) (gcd_prime hq q0 h2))
      omega
theorem cop_43_47 {b : Nat} (h1 : 1 ≤ b) (h2 : b ≤ 1000) : Nat.gcd b 43 = 1 ∨ Nat.gcd b 47 = 1 := cop_two h1 (by decide) (by decide) (by decide) (by decide) (by decide) (by omega)
/-- two ascending rows of numbers with the same members -/
theorem ascN_eq {xs ys : List Nat} (hx : xs.Pairwise (· < ·)) (hy : ys.Pairwise (· < ·)) (h : ∀ k, k ∈ xs ↔ k ∈ ys) : xs = ys := by
  have key : ∀ {zs : List Nat}, zs.Pairwise (· < ·) → (ni zs).Pairwise (· < ·) := fun hz => List.Pairwise.map _ (fun a b h => by omega) hz
  have := asc_eq (key hx) (key hy) fun k => by
    unfold ni
    rw [List.mem_map, List.mem_map]
    exact ⟨fun ⟨a, ha, e⟩ => ⟨a, (h a).mp ha, e⟩, fun ⟨a, ha, e⟩ => ⟨a, (h a).mpr ha, e⟩⟩
  unfold ni at this
  exact (List.map_inj_right (fun a b e => by omega)).mp this
/-- rows of whole numbers whose members are natural ones -/
theorem ni_of : ∀ {zs : List Int}, (∀ k ∈ zs, 0 ≤ k) → ∃ xs : List Nat, zs = ni xs
  | [], _ => ⟨[], rfl⟩
  | z :: zs, h => by
    obtain ⟨xs, e⟩ := ni_of (zs := zs) fun k hk => h k (List.mem_cons_of_mem _ hk)
    have := h z List.mem_cons_self
    exact ⟨z.toNat :: xs, by rw [e]; show z :: ni xs = ((z.toNat : Nat) : Int) :: ni xs; rw [Int.toNat_of_nonneg this]⟩
theorem mem_ni {xs : List Nat} {k : Nat} : ((k : Nat) : Int) ∈ ni xs ↔ k ∈ xs := by
  unfold ni
  rw [List.mem_map]
  constructor
  · rintro ⟨a, ha, e⟩
    rw [show k = a by omega]
    exact ha
  · exact fun h => ⟨k, h, rfl⟩
end Wn
namespace Wn
open PySem PySem.Spec PyProof.Rows L2
def isP (p : Nat) : Bool := decide (2 ≤ p) && (List.range p).all fun q => decide (q < 2) || decide (p % q ≠ 0)
theorem isP_iff {p : Nat} : isP p = true ↔ 2 ≤ p ∧ ∀ q, 2 ≤ q → q < p → ¬ q ∣ p := by
  unfold isP
  simp only [Bool.and_eq_true, decide_eq_true_eq, List.all_eq_true, List.mem_range, Bool.or_eq_true]
  constructor
  · rintro ⟨h1, h2⟩
    refine ⟨h1, fun q q1 q2 d => ?_⟩
    rcases h2 q q2 with z | z
    · omega
    · exact z (Nat.mod_eq_zero_of_dvd d)
  · rintro ⟨h1, h2⟩
    refine ⟨h1, fun q q2 => ?_⟩
    by_cases z : q < 2
    · exact .inl z
    · exact .inr fun e => h2 q (by omega) q2 (Nat.dvd_of_mod_eq_zero e)
theorem isP_dvd {p g : Nat} (h : isP p = true) (d : g ∣ p) : g = 1 ∨ g = p := by
  obtain ⟨h1, h2⟩ := isP_iff.mp h
  have hg : g ≤ p := Nat.le_of_dvd (by omega) d
  have h0 : 1 ≤ g := Nat.pos_of_ne_zero fun z => by rw [z] at d; have := Nat.eq_zero_of_zero_dvd d; omega
  by_cases e1 : g = 1
  · exact .inl e1
  · by_cases e2 : g = p
    · exact .inr e2
    · exact absurd d (h2 g (by omega) (by omega))
theorem isP_cop {p a : Nat} (h : isP p = true) (hn : ¬ p ∣ a) : Nat.gcd p a = 1 := by
  rcases isP_dvd h (Nat.gcd_dvd_left p a) with e | e
  · exact e
  · exact absurd (e ▸ Nat.gcd_dvd_right p a) hn
/-- how often p divides -/
def vlF (p : Nat) : Nat → Nat → Nat
  | 0, _ => 0
  | f + 1, n => if n % p = 0 then vlF p f (n / p) + 1 else 0
def vl (p n : Nat) : Nat := vlF p n n
theorem vlF_spec {p : Nat} (hp : 2 ≤ p) : ∀ f n, n ≤ f → 1 ≤ n → p ^ vlF p f n ∣ n ∧ ¬ p ^ (vlF p f n + 1) ∣ n
  | 0, n, h1, h2 => by omega
  | f + 1, n, h1, h2 => by
    unfold vlF
    by_cases h : n % p = 0
    · rw [if_pos h]
      obtain ⟨m, rfl⟩ := Nat.dvd_of_mod_eq_zero h
      rw [Nat.mul_div_cancel_left m (by omega)]
      have hm : 1 ≤ m := Nat.pos_of_ne_zero fun z => by rw [z] at h2; omega
      have hm2 : m < p * m := by
        have : 2 * m ≤ p * m := Nat.mul_le_mul_right _ hp
        omega
      obtain ⟨a, b⟩ := vlF_spec hp f m (by omega) hm
      refine ⟨?_, fun d => b ?_⟩
      · rw [Nat.pow_succ, Nat.mul_comm]
        exact Nat.mul_dvd_mul_left p a
      · rw [Nat.pow_succ, Nat.mul_comm] at d
        exact Nat.dvd_of_mul_dvd_mul_left (by omega) d
    · rw [if_neg h]
      refine ⟨by simp, fun d => h ?_⟩
      rw [Nat.zero_add, Nat.pow_one] at d
      exact Nat.mod_eq_zero_of_dvd d
theorem vl_spec {p n : Nat} (hp : 2 ≤ p) (hn : 1 ≤ n) : p ^ vl p n ∣ n ∧ ¬ p ^ (vl p n + 1) ∣ n := vlF_spec hp n n (Nat.le_refl _) hn
theorem vl_of {p n e : Nat} (hp : 2 ≤ p) (hn : 1 ≤ n) (h1 : p ^ e ∣ n) (h2 : ¬ p ^ (e + 1) ∣ n) : vl p n = e := by
  obtain ⟨a, b⟩ := vl_spec hp hn
  apply Nat.le_antisymm
  · apply Nat.le_of_not_lt
    intro l
    exact h2 (Nat.dvd_trans (Nat.pow_dvd_pow p l) a)
  · apply Nat.le_of_not_lt
    intro l
    exact b (Nat.dvd_trans (Nat.pow_dvd_pow p l) h1)
def fpp (n p : Nat) : Option (Nat × Nat) := if n % p = 0 ∧ isP p = true then some (p, vl p n) else none
def ppU (n k : Nat) : List (Nat × Nat) := (List.range k).filterMap (fpp n)
def ppL (n : Nat) : List (Nat × Nat) := ppU n (n + 1)
theorem ppU_succ (n k : Nat) : ppU n (k + 1) = ppU n k ++ (match fpp n k with | some r => [r] | none => []) := by
  unfold ppU
  rw [List.range_succ, List.filterMap_append]
  congr 1
  cases h : fpp n k <;> simp [h]
theorem ppU_skip {n k : Nat} : ∀ {m}, k ≤ m → (∀ p, k ≤ p → p < m → fpp n p = none) → ppU n m = ppU n k
  | 0, h, _ => by rw [show k = 0 by omega]
  | m + 1, h, hs => by
    rcases Nat.lt_or_eq_of_le h with z | z
    · rw [ppU_succ, hs m (by omega) (Nat.lt_succ_self m), List.append_nil, ppU_skip (by omega) fun p h1 h2 => hs p h1 (by omega)]
    · rw [z]
theorem ppU_len {n : Nat} : ∀ k, (ppU n k).length ≤ k := fun k => by
  unfold ppU
  refine Nat.le_trans (List.length_filterMap_le _ _) ?_
  rw [List.length_range]
  exact Nat.le_refl _
/-- what is left when all below k have been taken out -/
structure Left (n left k : Nat) : Prop where
  pos : 1 ≤ left
  dv : left ∣ n
  low : ∀ q, 2 ≤ q → q < k → ¬ q ∣ left
  same : ∀ q e, k ≤ q → isP q = true → (q ^ e ∣ left ↔ q ^ e ∣ n)
theorem Left.start {n : Nat} (hn : 1 ≤ n) : Left n n 2 := ⟨hn, Nat.dvd_refl _, fun q h1 h2 => by omega, fun _ _ _ _ => Iff.rfl⟩
theorem Left.ge {n left k : Nat} (L : Left n left k) (h : 1 < left) : k ≤ left := by
  apply Nat.le_of_not_lt
  intro z
  exact L.low left h z (Nat.dvd_refl _)
theorem Left.prime {n left k p : Nat} (L : Left n left k) (hk : 2 ≤ p) (hp : p ≤ k) (d : p ∣ left) : isP p = true := isP_iff.mpr ⟨hk, fun q h1 h2 d2 => L.low q h1 (by omega) (Nat.dvd_trans d2 d)⟩
/-- what is left has no divisor below its root: it is a prime itself -/
theorem Left.jump {n left k : Nat} (L : Left n left k) (hk : 2 ≤ k) (h : 1 < left) (h2 : left < k * k) : isP left = true ∧ Left n left left ∧ ∀ p, k ≤ p → p < left → fpp n p = none := by
  have hP : Wn.isP left = true := isP_iff.mpr ⟨h, fun q h1 h3 d => by
    obtain ⟨m, rfl⟩ := d
    have hm : 1 ≤ m := Nat.pos_of_ne_zero fun z => by rw [z] at h; omega
    have hm2 : 2 ≤ m := by
      rcases Nat.lt_or_ge m 2 with z | z
      · have : m = 1 := by omega
        rw [this] at h3
        omega
      · exact z
    have a1 : k ≤ q := Nat.le_of_not_lt fun z => L.low q h1 z (Nat.dvd_mul_right _ _)
    have a2 : k ≤ m := Nat.le_of_not_lt fun z => L.low m hm2 z (Nat.dvd_mul_left _ _)
    have := Nat.mul_le_mul a1 a2
    omega⟩
  have hge := L.ge h
  refine ⟨hP, ⟨L.pos, L.dv, fun q h1 h3 => (isP_iff.mp hP).2 q h1 h3, fun q e h1 => L.same q e (by omega)⟩, fun p h1 h3 => ?_⟩
  unfold fpp
  rw [if_neg]
  rintro ⟨h4, h5⟩
  have := (L.same p 1 h1 h5).mpr (by rw [Nat.pow_one]; exact Nat.dvd_of_mod_eq_zero h4)
  rw [Nat.pow_one] at this
  exact (isP_iff.mp hP).2 p (isP_iff.mp h5).1 h3 this
/-- p taken out e times -/
theorem Left.next {n left k r e : Nat} (L : Left n left k) (hn : 1 ≤ n) (hk : 2 ≤ k) (h : left = r * k ^ e) (hr : ¬ k ∣ r) : Left n r (k + 1) ∧ fpp n k = if e = 0 then none else some (k, e) := by
  have hr1 : 1 ≤ r := Nat.pos_of_ne_zero fun z => by have := L.pos; rw [h, z] at this; omega
  have rl : r ∣ left := ⟨k ^ e, h⟩
  refine ⟨⟨hr1, Nat.dvd_trans rl L.dv, fun q h1 h2 d => ?_, fun q c h1 hq => ?_⟩, ?_⟩
  · rcases Nat.lt_or_eq_of_le (show q ≤ k by omega) with z | z
    · exact L.low q h1 z (Nat.dvd_trans d rl)
    · exact hr (z ▸ d)
  · rw [← L.same q c (by omega) hq]
    constructor
    · exact fun d => Nat.dvd_trans d rl
    · intro d
      rw [h] at d
      refine Nat.Coprime.dvd_of_dvd_mul_right ?_ d
      refine Nat.Coprime.pow_left c (Nat.Coprime.pow_right e ?_)
      refine isP_cop hq fun d2 => ?_
      have := Nat.le_of_dvd (by omega) d2
      omega
  · by_cases e0 : e = 0
    · rw [if_pos e0]
      unfold fpp
      rw [if_neg]
      rintro ⟨h4, h5⟩
      have := (L.same k 1 (Nat.le_refl _) h5).mpr (by rw [Nat.pow_one]; exact Nat.dvd_of_mod_eq_zero h4)
      rw [Nat.pow_one, h, e0, Nat.pow_zero, Nat.mul_one] at this
      exact hr this
    · rw [if_neg e0]
      have dk : k ∣ left := by
        rw [h]
        exact Nat.dvd_trans (show k ∣ k ^ e by rw [show e = (e - 1) + 1 by omega, Nat.pow_succ]; exact Nat.dvd_mul_left _ _) (Nat.dvd_mul_left _ _)
      have hP := L.prime hk (Nat.le_refl _) dk
      have d1 : k ∣ n := Nat.dvd_trans dk L.dv
      unfold fpp
      rw [if_pos ⟨Nat.mod_eq_zero_of_dvd d1, hP⟩]
      congr 2
      refine vl_of hk hn ?_ fun d => ?_
      · exact (L.same k e (Nat.le_refl _) hP).mp (by rw [h]; exact Nat.dvd_mul_left _ _)
      · have d2 := (L.same k (e + 1) (Nat.le_refl _) hP).mpr d
        rw [h, Nat.pow_succ, Nat.mul_comm r] at d2
        exact hr (Nat.dvd_of_mul_dvd_mul_left (Nat.pow_pos (by omega)) d2)
end Wn
/-! if it is not balanced, a prime shows it -/
namespace Wn
open PySem PySem.Spec PyProof.Rows L2
theorem prime_dvd : ∀ m, 2 ≤ m → ∃ p, isP p = true ∧ p ∣ m := by
  intro m
  induction m using Nat.strongRecOn with
  | ind m ih =>
    intro hm
    cases e : isP m with
    | true => exact ⟨m, e, Nat.dvd_refl _⟩
    | false =>
      obtain ⟨q, h1, h2, h3⟩ : ∃ q, 2 ≤ q ∧ q < m ∧ q ∣ m := by
        refine Classical.byContradiction fun hno => ?_
        have := isP_iff.mpr ⟨hm, fun q h1 h2 d => hno ⟨q, h1, h2, d⟩⟩
        rw [e] at this
        cases this
      obtain ⟨p, hp, hd⟩ := ih q h2 h1
      exact ⟨p, hp, Nat.dvd_trans hd h3⟩
theorem dvd_of_pp {n R : Nat} (hn : 1 ≤ n) (h : ∀ p, isP p = true → p ∣ n → p ^ vl p n ∣ R) : n ∣ R := by
  obtain ⟨m, hm⟩ := Nat.gcd_dvd_left n R
  rcases Nat.lt_or_ge m 2 with z | z
  · have m1 : m = 1 := by
      rcases Nat.eq_zero_or_pos m with y | y
      · rw [y, Nat.mul_zero] at hm
        omega
      · omega
    rw [m1, Nat.mul_one] at hm
    have := Nat.gcd_dvd_right n R
    rwa [← hm] at this
  · exfalso
    obtain ⟨p, hp, hd⟩ := prime_dvd m z
    have p2 := (isP_iff.mp hp).1
    have pn : p ∣ n := by
      rw [hm]
      exact Nat.dvd_trans hd (Nat.dvd_mul_left _ _)
    obtain ⟨v1, v2⟩ := vl_spec p2 hn
    have hg := Nat.dvd_gcd v1 (h p hp pn)
    refine v2 ?_
    rw [Nat.pow_succ]
    have : p ^ vl p n * p ∣ Nat.gcd n R * m := Nat.mul_dvd_mul hg hd
    rwa [← hm] at this
theorem mem_ppL {n p : Nat} (hn : 1 ≤ n) (hp : isP p = true) (d : p ∣ n) : (p, vl p n) ∈ ppL n := by
  unfold ppL ppU
  rw [List.mem_filterMap]
  refine ⟨p, List.mem_range.mpr (Nat.lt_succ_of_le (Nat.le_of_dvd hn d)), ?_⟩
  unfold fpp
  rw [if_pos ⟨Nat.mod_eq_zero_of_dvd d, hp⟩]
theorem ppL_mem {n : Nat} {r : Nat × Nat} (h : r ∈ ppL n) : isP r.1 = true ∧ r.1 ∣ n ∧ r.2 = vl r.1 n := by
  unfold ppL ppU at h
  obtain ⟨p, hp, e⟩ := List.mem_filterMap.mp h
  unfold fpp at e
  by_cases c : n % p = 0 ∧ isP p = true
  · rw [if_pos c] at e
    have := Option.some.inj e
    subst this
    exact ⟨c.2, Nat.dvd_of_mod_eq_zero c.1, rfl⟩
  · rw [if_neg c] at e
    cases e
theorem shows_ex {b n k c : Nat} (hb1 : 1 ≤ b) (hn : 2 ≤ n) (h : b ^ (k * c) % n = 1 % n) (hb : bal b n k c = false) :
    ∃ r ∈ ppL n, b ^ k % r.1 = 1 ∧ restSum b n 1 k c % r.1 ^ r.2 ≠ 0 := by
  refine Classical.byContradiction fun hno => ?_
  have key : n ∣ restSum b n 1 k c := dvd_of_pp (by omega) fun p hp d => by
    have p2 := (isP_iff.mp hp).1
    obtain ⟨v1, v2⟩ := vl_spec (n := n) p2 (by omega)
    by_cases c1 : b ^ k % p = 1
    · refine Classical.byContradiction fun hd => hno ⟨(p, vl p n), mem_ppL (by omega) hp d, c1, fun z => hd (Nat.dvd_of_mod_eq_zero z)⟩
    · have bk : 1 ≤ b ^ k := Nat.pow_pos hb1
      have nd : ¬ p ∣ b ^ k - 1 := fun z => c1 (by
        obtain ⟨t, ht⟩ := z
        have e : b ^ k = p * t + 1 := by omega
        rw [e, Nat.mul_add_mod, Nat.mod_eq_of_lt (by omega)])
      have tel := geo_tel (b ^ k) c
      have dn : n ∣ geo (b ^ k) c * (b ^ k - 1) := by
        have e1 : geo (b ^ k) c * (b ^ k - 1) = (b ^ k) ^ c - 1 := by
          rw [Nat.mul_sub, Nat.mul_one]
          omega
        rw [e1, ← Nat.pow_mul]
        have one : 1 % n = 1 := Nat.mod_eq_of_lt (by omega)
        rw [one] at h
        have := Nat.div_add_mod (b ^ (k * c)) n
        rw [h] at this
        exact ⟨b ^ (k * c) / n, by omega⟩
      have cp : Nat.Coprime (p ^ vl p n) (b ^ k - 1) := Nat.Coprime.pow_left _ (isP_cop hp nd)
      have dg : p ^ vl p n ∣ geo (b ^ k) c := cp.dvd_of_dvd_mul_right (Nat.dvd_trans v1 dn)
      have rm := restSum_mod b n 1 k c
      rw [Nat.one_mul] at rm
      have h1 := (Nat.dvd_mod_iff v1).mpr dg
      rw [← rm] at h1
      exact (Nat.dvd_mod_iff v1).mp h1
  have : bal b n k c = true := by
    unfold bal
    exact decide_eq_true (Nat.mod_eq_zero_of_dvd key)
  rw [hb] at this
  cases this
end Wn
/-! texts of whole numbers, one behind the other -/
namespace Wn
open PySem PySem.Spec PyProof.Rows L2
def dgC (c : Nat) : Bool := decide (48 ≤ c) && decide (c ≤ 57)
def runN (s : Str) : Nat := (s.cps.toList.takeWhile dgC).length
/-- the number that a text is, as texts have them -/
def intIn (s : Str) : Option Nat := if 1 ≤ s.length ∧ s.length ≤ 40 ∧ runN s = s.length ∧ ¬ (1 < s.length ∧ s.cps.toList.head? = some 48) then some (NumText.digitsVal s.cps.toList) else none
/-- the text of a number -/
def nS (n : Nat) : Str := Str.ofString (toString ((n : Nat) : Int))
theorem len_cps (s : Str) : s.length = s.cps.toList.length := by
  show s.cps.size = _
  rw [Array.length_toList]
theorem tl_nS (n : Nat) : (nS n).cps.toList = TL.numL n := TL.tl_num n
theorem ten_eq : (Str.ofString "0123456789").cps.toList = [48, 49, 50, 51, 52, 53, 54, 55, 56, 57] := by decide +kernel
theorem in_ten (c : Nat) : decide (c ∈ (Str.ofString "0123456789").cps.toList) = dgC c := by
  rw [ten_eq, Bool.eq_iff_iff, decide_eq_true_iff]
  unfold dgC
  rw [Bool.and_eq_true, decide_eq_true_iff, decide_eq_true_iff]
  simp only [List.mem_cons, List.not_mem_nil, or_false]
  omega
theorem take_all {f : Nat → Bool} : ∀ {l : List Nat}, (∀ c ∈ l, f c = true) → l.takeWhile f = l
  | [], _ => rfl
  | c :: r, h => by
    rw [List.takeWhile_cons, if_pos (h c (List.mem_cons_self ..)), take_all fun x hx => h x (List.mem_cons_of_mem _ hx)]
theorem take_len {f : Nat → Bool} : ∀ {l : List Nat}, (l.takeWhile f).length = l.length → ∀ c ∈ l, f c = true
  | [], _, c, h => by cases h
  | x :: r, h, c, hc => by
    rw [List.takeWhile_cons] at h
    split at h
    · rename_i hx
      rcases List.mem_cons.mp hc with rfl | hc
      · exact hx
      · exact take_len (by simpa using h) c hc
    · simp at h
theorem run_le (s : Str) : runN s ≤ s.length := by
  rw [len_cps]
  exact (List.takeWhile_sublist dgC).length_le
theorem take_at {f : Nat → Bool} : ∀ {l : List Nat} {i : Nat} {c : Nat}, l[i]? = some c → i ≤ (l.takeWhile f).length → (f c = true → i + 1 ≤ (l.takeWhile f).length) ∧ (f c = false → i = (l.takeWhile f).length)
  | [], i, c, h, _ => by simp at h
  | x :: r, 0, c, h, _ => by
    have e : x = c := by simpa using h
    subst e
    rw [List.takeWhile_cons]
    constructor
    · intro z
      rw [if_pos z]
      simp
    · intro z
      rw [if_neg (by rw [z]; decide)]
      rfl
  | x :: r, i + 1, c, h, hi => by
    rw [List.takeWhile_cons] at hi ⊢
    split at hi
    · rename_i hx
      rw [if_pos hx]
      have hi' : i ≤ (r.takeWhile f).length := by simpa using hi
      obtain ⟨h1, h2⟩ := take_at (f := f) (by simpa using h) hi'
      constructor
      · intro z
        have := h1 z
        simpa using this
      · intro z
        have := h2 z
        simpa using this
    · simp at hi
theorem numL_head : ∀ {n : Nat}, (TL.numL n).head? = some 48 → n = 0 := by
  intro n
  induction n using Nat.strongRecOn with
  | _ n ih =>
    intro h
    by_cases hn : n < 10
    · rw [TL.numL_lt hn] at h
      have : 48 + n = 48 := by simpa using h
      omega
    · rw [TL.numL_step (by omega), List.head?_append] at h
      have h0 : (TL.numL (n / 10)).head? = some 48 := by
        cases e : TL.numL (n / 10) with
        | nil => exact absurd e (TL.numL_ne _)
        | cons x r =>
          rw [e] at h
          simpa using h
      have := ih (n / 10) (by omega) h0
      omega
theorem nS_dig (n : Nat) : ∀ c ∈ (nS n).cps.toList, dgC c = true := fun c hc => by
  rw [tl_nS] at hc
  have := TL.numL_digits n c hc
  unfold dgC
  rw [Bool.and_eq_true, decide_eq_true_iff, decide_eq_true_iff]
  exact this
theorem nS_len {n k : Nat} (hk : 0 < k) (h : n < 10 ^ k) : (nS n).length ≤ k := by
  rw [len_cps, tl_nS]
  exact TL.numL_len hk h
theorem nS_pos (n : Nat) : 1 ≤ (nS n).length := by
  rw [len_cps, tl_nS]
  exact List.length_pos_iff.mpr (TL.numL_ne n)
theorem run_nS (n : Nat) : runN (nS n) = (nS n).length := by
  unfold runN
  rw [take_all (nS_dig n), len_cps]
theorem intIn_nS {n : Nat} (h : n < 10 ^ 40) : intIn (nS n) = some n := by
  unfold intIn
  rw [if_pos, tl_nS, TL.numL_val]
  refine ⟨nS_pos n, nS_len (by decide) h, run_nS n, fun z => ?_⟩
  rw [tl_nS] at z
  have z0 := numL_head z.2
  subst z0
  have := nS_len (n := 0) (k := 1) (by decide) (by decide)
  omega
/-- int() of such a text -/
theorem intIn_int {s : Str} {n : Nat} (h : intIn s = some n) : intText? s = some (n : Int) ∧ s.length ≤ 40 := by
  unfold intIn at h
  split at h
  · rename_i hc
    obtain ⟨h1, h2, h3, _⟩ := hc
    have hall : NumText.AllDigits s.cps.toList := fun c hc => by
      have := take_len (f := dgC) (by rw [← len_cps]; exact h3) c hc
      unfold dgC at this
      rw [Bool.and_eq_true, decide_eq_true_iff, decide_eq_true_iff] at this
      exact this
    have hne : s.cps.toList ≠ [] := fun z => by
      rw [len_cps, z] at h1
      simp at h1
    injection h with h
    subst h
    exact ⟨intText_digits hall hne (by omega), h2⟩
  · cases h
/-- the digits at the beginning of words -/
def digL (b : Nat) : List Str → List Nat
  | [] => []
  | w :: r => match intIn w with
    | some d => if d < b then d :: digL b r else []
    | none => []
def digIn (b : Nat) (ws : List Str) : List Nat := digL b (ws.take 400)
theorem digL_app {b : Nat} {w : Str} {r : List Str} (hw : intIn w = none) (hb : b ≤ 1000) : ∀ {ds : List Nat}, (∀ d ∈ ds, d < b) → ∀ k, ds.length ≤ k → digL b ((ds.map nS ++ w :: r).take k) = ds
  | [], _, 0, _ => rfl
  | [], _, k + 1, _ => by
    show (match intIn w with
      | some d => if d < b then d :: digL b (r.take k) else []
      | none => []) = []
    rw [hw]
  | d :: ds, h, 0, hk => by simp at hk
  | d :: ds, h, k + 1, hk => by
    have hd := h d (List.mem_cons_self ..)
    show (match intIn (nS d) with
      | some d' => if d' < b then d' :: digL b ((ds.map nS ++ w :: r).take k) else []
      | none => []) = d :: ds
    rw [intIn_nS (Nat.lt_trans (Nat.lt_of_lt_of_le hd hb) (by decide))]
    show (if d < b then d :: digL b ((ds.map nS ++ w :: r).take k) else []) = _
    rw [if_pos hd, digL_app hw hb (fun x hx => h x (List.mem_cons_of_mem _ hx)) k (by simpa using hk)]
theorem digL_small {b : Nat} : ∀ (ws : List Str), ∀ d ∈ digL b ws, d < b
  | [], d, h => by cases h
  | w :: r, d, h => by
    unfold digL at h
    split at h
    · split at h
      · rename_i hd
        rcases List.mem_cons.mp h with rfl | h
        · exact hd
        · exact digL_small r d h
      · cases h
    · cases h
theorem digL_len {b : Nat} : ∀ (ws : List Str), (digL b ws).length ≤ ws.length
  | [] => Nat.le_refl _
  | w :: r => by
    unfold digL
    split
    · split
      · have := digL_len (b := b) r
        simpa using this
      · exact Nat.zero_le _
    · exact Nat.zero_le _
/-- the text of an expansion -/
def expW (h g : List Nat) : List Str := h.map nS ++ [Str.ofString "("] ++ g.map nS ++ [Str.ofString ")"]
def expS (h g : List Nat) : Str := Txt.join (Str.ofString " ") (expW h g)
theorem no_par : intIn (Str.ofString "(") = none ∧ intIn (Str.ofString ")") = none := by decide +kernel
theorem sp_tl : (Str.ofString " ").cps.toList = [32] := by decide +kernel
theorem split_expS (h g : List Nat) : Txt.split (expS h g) (Str.ofString " ") = expW h g := by
  refine TL.split_join (s := 32) (S := []) sp_tl (by decide +kernel) (by unfold expW; simp) fun p hp => ?_
  unfold expW at hp
  have num : ∀ n : Nat, 32 ∉ TL.tl (nS n) := fun n => by
    show 32 ∉ (nS n).cps.toList
    rw [tl_nS]
    exact TL.numL_free (.inl (by decide))
  have p1 : 32 ∉ TL.tl (Str.ofString "(") := by decide +kernel
  have p2 : 32 ∉ TL.tl (Str.ofString ")") := by decide +kernel
  simp only [List.mem_append, List.mem_map, List.mem_singleton] at hp
  rcases hp with ((⟨n, _, rfl⟩ | rfl) | ⟨n, _, rfl⟩) | rfl
  · exact num n
  · exact p1
  · exact num n
  · exact p2
theorem expW_len (h g : List Nat) : (expW h g).length = h.length + g.length + 2 := by
  unfold expW
  simp
  omega
/-- how long such words are, altogether -/
theorem expW_sum {h g : List Nat} (hh : ∀ d ∈ h, d < 1000) (hg : ∀ d ∈ g, d < 1000) : ((expW h g).map (·.length)).sum ≤ 3 * (expW h g).length := by
  have : ∀ (ws : List Str), (∀ w ∈ ws, w.length ≤ 3) → (ws.map (·.length)).sum ≤ 3 * ws.length := by
    intro ws
    induction ws with
    | nil => intro _; simp
    | cons w r ih =>
      intro hw
      have h1 := hw w (List.mem_cons_self ..)
      have h2 := ih fun x hx => hw x (List.mem_cons_of_mem _ hx)
      simp only [List.map_cons, List.sum_cons, List.length_cons]
      omega
  refine this _ fun w hw => ?_
  unfold expW at hw
  simp only [List.mem_append, List.mem_map, List.mem_singleton] at hw
  rcases hw with ((⟨n, hn, rfl⟩ | rfl) | ⟨n, hn, rfl⟩) | rfl
  · exact nS_len (by decide) (hh n hn)
  · decide +kernel
  · exact nS_len (by decide) (hg n hn)
  · decide +kernel
end Wn
/-! the text of a list of great whole numbers: below ten to the 4,300, where no limit of digits has been set -/
namespace Wn
open PySem PySem.Spec PyProof.Rows L2
section
variable {prog : Program} {w : World} {A : Around} {E : Value → Shared → Prop} {s : Shared}
theorem big_call {a : Int} {t : Tok} {Q : Value → Shared → Prop} (hn : s.heap.NoDigits) (ha : a.natAbs < 10 ^ 4300) (h : Q (.str (toString a) s.toks) { s with toks := s.toks + 1 }) : wpAny (model prog w) A (call (.builtin "int.__repr__") [.int a t]) Q E s := by
  refine wpAny_call (codeAny_call_builtin F.slot_int_repr.plain F.entry_int_repr (F.slot_int_repr.check _ _ _ _ _ _ _ _ (typeIs_int s a t) (F.args_int_repr_1 _) ?_))
  unfold Builtin.«int.__repr__»
  show wpAny _ _ (do let r ← Builtin.overDigitLimit? a; _) _ _ s
  exact wpAny_bind (overDigitLimit_any hn (fun lt => wpAny_bind (wpAny_mkStr (wpAny_pure h) (int_text_fits10 lt))) fun ge => absurd ha (Nat.not_lt.mpr ge))
theorem big_obj {a : Int} {t : Tok} {Q : Value → Shared → Prop} (hn : s.heap.NoDigits) (ha : a.natAbs < 10 ^ 4300) (h : Q (.str (toString a) s.toks) { s with toks := s.toks + 1 }) : wpAny (model prog w) A (pyReprObj (.int a t)) Q E s := by
  have hv : [Value.int a t].any Value.onHeap = false := rfl
  unfold pyReprObj
  simp only [cRoomFor, hv, Bool.false_eq_true, if_false, pure_bind]
  refine wpAny_bind (wpAny_specialOf (name := Str.ofString "__repr__") (typeIs_int s a t) F.slot_int_repr.lookup ?_)
  refine wpAny_bind (m := callSpecialIfBound? (.int a t) (Str.ofString "__repr__")) (wpAny_callSpecialIfBound?_slot (name := Str.ofString "__repr__") (typeIs_int s a t) F.slot_int_repr (big_call hn ha ?_))
  exact wpAny_bind (wpAny_isInstance (T := "str") (b := true) rfl isSubtype_str_str (wpAny_pure h))
theorem big_reprK {a : Int} {as : List Addr} {h₀ : Heap} {d : Nat} (t : Tok) (hn : h₀.NoDigits) (ha : a.natAbs < 10 ^ 4300) : ReprK prog w as h₀ d (.int a t) (toString a) := fun base hb A g E s Q _ _ _ hk hQ => by
  rw [pyReprUnder_leaf (v := .int a t) (show base ≤ sizeLine by omega) (fun _ e => nomatch e)]
  unfold pyRepr
  exact wpAny_bind (big_obj (hn.keeps hk) ha (wpAny_pure (hQ s.heap _ fun _ _ e => e)))
end
def bigB (ns : List Int) : Prop := ns ≠ [] ∧ ns.length ≤ 1000 ∧ ∀ n ∈ ns, n.natAbs < 10 ^ 4300
theorem big_leaf : ∀ ns : List Int, (∀ n ∈ ns, n.natAbs < 10 ^ 4300) → PyData.leavesShortAll 4302 (ns.map PyData.int) = true ∧ PyData.bulkAll (ns.map PyData.int) ≤ ns.length
  | [], _ => ⟨rfl, Nat.le_refl _⟩
  | n :: ns, h => by
    obtain ⟨h1, h2⟩ := big_leaf ns fun m hm => h m (List.mem_cons_of_mem _ hm)
    have hn := int_text_length_le10 (k := 4300) (by decide) (h n (List.mem_cons_self ..))
    refine ⟨?_, ?_⟩
    · show (decide ((PyData.shown (.int n)).length ≤ 4302) && PyData.leavesShortAll 4302 (ns.map PyData.int)) = true
      rw [h1, Bool.and_true]
      refine decide_eq_true ?_
      show (Str.ofString (toString n)).length ≤ 4302
      rw [PySem.ofString_length]
      omega
    · show PyData.bulk (.int n) + 1 + PyData.bulkAll (ns.map PyData.int) ≤ ns.length + 1
      have : PyData.bulk (.int n) = 0 := rfl
      omega
theorem big_len {ns : List Int} (h : bigB ns) : (PyData.shown (.list (ns.map PyData.int))).length ≤ sizeLine := by
  obtain ⟨h1, h2⟩ := big_leaf ns h.2.2
  have h3 := PyData.shown_le_bulk 4302 (by decide) (.list (ns.map PyData.int)) h1
  have h4 : PyData.bulk (.list (ns.map PyData.int)) ≤ 1000 := Nat.le_trans h2 h.2.1
  have h5 : (4302 + 2) * PyData.bulk (.list (ns.map PyData.int)) ≤ 4304 * 1000 := Nat.mul_le_mul_left _ h4
  rw [sizeLine_eq]
  omega
theorem big_texts (ns : List Int) : PyData.shownAll (ns.map PyData.int) = ns.map fun n => Str.ofString (toString n) := by
  induction ns with
  | nil => rfl
  | cons n ns ih =>
    show PyData.shown (.int n) :: PyData.shownAll (ns.map PyData.int) = _
    rw [ih]
    rfl
theorem vals_intsB {ns : List Int} {its : List Value} (h : Vals (ns.map V.int) its) : ∀ (i : Nat) (y : Value), its[i]? = some y → ∃ n t, ns[i]? = some n ∧ y = .int n t := by
  induction ns generalizing its with
  | nil =>
    cases h
    intro i y e
    simp at e
  | cons n ns ih =>
    cases h with
    | cons r rr =>
      obtain ⟨t, rfl⟩ := r
      intro i y e
      cases i with
      | zero => exact ⟨n, t, rfl, (Option.some.inj e).symm⟩
      | succ i => exact ih rr i y e
def rReprI (K : PySem.W.Frag) : List V → Hp → VK → Prop := fun xs H Q => ∃ (a : Addr) (ns : List Int), xs = [.ref a] ∧ SqL K H a (ns.map V.int) ∧ bigB ns ∧ Q (.str (PyData.shown (.list (ns.map PyData.int)))) H
theorem call_reprI {X : Cx} (hd : PySem.W.nsIn X.K cStatics "sys.int_max_str_digits" = some none) (hg : X.A.guards = some []) (hu : X.A.units + 200 < cLine) : CallR X (.builtin "repr") (rReprI X.K) := by
  intro pins s σ H xs us Q I r h
  obtain ⟨a, ns, rfl, hS, hB, q⟩ := h
  obtain ⟨u, rfl, rx⟩ := vals1 r
  obtain rfl : u = Value.ref a := rx
  obtain ⟨its, rv, ⟨o, m, ho, hc, _, hda⟩, _⟩ := I.list hS
  have hND : s.heap.NoDigits := by
    obtain ⟨mc, hns, _⟩ := I.nolimit
    refine ⟨mc, hns, ?_⟩
    have X0 := I.kIn
    obtain ⟨o, es, ep, ho, hd2, _, hf⟩ := hns
    unfold PySem.W.nsIn at hd
    split at hd
    · rename_i c d es' n' sl qq
      have e := X0 _ _ qq
      rw [ho] at e
      cases e
      cases hd2
      split at hd
      · cases hd
      · rename_i he
        rw [← hf]
        unfold nsFind findBy
        rw [← Array.find?_toList, he]
        rfl
    · cases hd
  have hlen := rv.length
  have hz : (listText (ns.map fun n => Str.ofString (toString n))).length ≤ sizeLine := by
    have := big_len hB
    rw [← big_texts]
    exact this
  have hT : ∀ (i : Nat) (y : Value), its.toArray[i]? = some y → ∃ t, (ns.map fun n => Str.ofString (toString n))[i]? = some t ∧ ReprK X.prog X.w [] s.heap 0 y t := fun i y e => by
    obtain ⟨n, t, e1, rfl⟩ := vals_intsB rv i y (by simpa using e)
    refine ⟨Str.ofString (toString n), by rw [List.getElem?_map, e1]; rfl, big_reprK t hND (hB.2.2 n (List.mem_of_getElem? e1))⟩
  cases its with
  | nil =>
    cases ns with
    | nil => exact absurd rfl hB.1
    | cons n ns => cases rv
  | cons x l =>
    refine PySem.call_repr_slot (by omega) ⟨o, ho, hc⟩ F.slot_list_repr.toG ?_
    refine call_list_reprK (as := []) (h₀ := s.heap) (d := 0) ho hc hda (by simp) (by rw [List.length_map]; rw [List.length_map] at hlen; simpa using hlen) hT hg (fun b _ => Clear.nil b) (by show X.A.units + 1 + (0 + 1) < cLine; omega) (fun _ _ e => e) (fun h' u tk hk => ⟨_, _, rfl, ?_⟩) hz
    refine ⟨.str _, H, I.un (Un.kept hk) (I.hok.kept hk), ⟨_, rfl⟩, ?_⟩
    rw [← big_texts]
    exact q
end Wn
/-! data at any depth, dicts among it -/
namespace Wn
open PySem PySem.Spec PyProof.Rows L2
def kD : Key → PyData
  | .inl i => .int i
  | .inr x => .str x
mutual
inductive Dz (K : PySem.W.Frag) (H : Hp) : V → PyData → Prop
  | non : Dz K H .non .none
  | bl (b : Bool) : Dz K H (.bl b) (.bool b)
  | int (i : Int) : Dz K H (.int i) (.int i)
  | str (x : Str) : Dz K H (.str x) (.str x)
  | lst {a : Addr} {xs : List V} {ds : List PyData} : SqL K H a xs → DzAll K H xs ds → Dz K H (.ref a) (.list ds)
  | tup {a : Addr} {xs : List V} {ds : List PyData} : SqT K H a xs → DzAll K H xs ds → Dz K H (.ref a) (.tuple ds)
  | dct {a : Addr} {kvs : List (Key × V)} {ps : List (PyData × PyData)} : H a = some (.dK kvs) → ps.map (·.1) = kvs.map (fun p => kD p.1) → DzAll K H (kvs.map (·.2)) (ps.map (·.2)) → Dz K H (.ref a) (.dict ps)
inductive DzAll (K : PySem.W.Frag) (H : Hp) : List V → List PyData → Prop
  | nil : DzAll K H [] []
  | cons {v : V} {vs : List V} {d : PyData} {ds : List PyData} : Dz K H v d → DzAll K H vs ds → DzAll K H (v :: vs) (d :: ds)
end
mutual
theorem Dz.gr {K : PySem.W.Frag} {H H' : Hp} (g : Gr [] H H') : ∀ {v : V} {d : PyData}, Dz K H v d → Dz K H' v d
  | _, _, .non => .non
  | _, _, .bl b => .bl b
  | _, _, .int i => .int i
  | _, _, .str x => .str x
  | _, _, .lst h1 h2 => .lst ((Kp.of g).sqL h1) (DzAll.gr g h2)
  | _, _, .tup h1 h2 => .tup ((Kp.of g).sqT h1) (DzAll.gr g h2)
  | _, _, .dct h1 h2 h3 => .dct (g _ _ (by simp) h1) h2 (DzAll.gr g h3)
theorem DzAll.gr {K : PySem.W.Frag} {H H' : Hp} (g : Gr [] H H') : ∀ {vs : List V} {ds : List PyData}, DzAll K H vs ds → DzAll K H' vs ds
  | _, _, .nil => .nil
  | _, _, .cons h1 h2 => .cons (Dz.gr g h1) (DzAll.gr g h2)
end
mutual
theorem Dz.of {K : PySem.W.Frag} {H : Hp} : ∀ {v : V} {d : PyData}, Dp K H v d → Dz K H v d
  | _, _, .non => .non
  | _, _, .bl b => .bl b
  | _, _, .int i => .int i
  | _, _, .str x => .str x
  | _, _, .lst h1 h2 => .lst h1 (DzAll.of h2)
  | _, _, .tup h1 h2 => .tup h1 (DzAll.of h2)
theorem DzAll.of {K : PySem.W.Frag} {H : Hp} : ∀ {vs : List V} {ds : List PyData}, DpAll K H vs ds → DzAll K H vs ds
  | _, _, .nil => .nil
  | _, _, .cons h1 h2 => .cons (Dz.of h1) (DzAll.of h2)
end
mutual
theorem Dz.dp {K : PySem.W.Frag} {H : Hp} : ∀ {v : V} {d : PyData}, d.hasDict = false → Dz K H v d → Dp K H v d
  | _, _, _, .non => .non
  | _, _, _, .bl b => .bl b
  | _, _, _, .int i => .int i
  | _, _, _, .str x => .str x
  | _, _, n, .lst h1 h2 => .lst h1 (DzAll.dp (by simpa [PyData.hasDict] using n) h2)
  | _, _, n, .tup h1 h2 => .tup h1 (DzAll.dp (by simpa [PyData.hasDict] using n) h2)
  | _, _, n, .dct _ _ _ => by simp [PyData.hasDict] at n
theorem DzAll.dp {K : PySem.W.Frag} {H : Hp} : ∀ {vs : List V} {ds : List PyData}, PyData.hasDictAll ds = false → DzAll K H vs ds → DpAll K H vs ds
  | _, _, _, .nil => .nil
  | _, _, n, .cons h1 h2 => by
    simp only [PyData.hasDictAll, Bool.or_eq_false_iff] at n
    exact .cons (Dz.dp n.1 h1) (DzAll.dp n.2 h2)
end
theorem dz_lst {K : PySem.W.Frag} {H : Hp} {a : Addr} {xs : List V} {ds : List PyData} (h : H a = some (.lst xs)) (h2 : DzAll K H xs ds) : Dz K H (.ref a) (.list ds) := .lst (sq_lst h) h2
theorem dz_tup {K : PySem.W.Frag} {H : Hp} {a : Addr} {xs : List V} {ds : List PyData} (h : H a = some (.tup xs)) (h2 : DzAll K H xs ds) : Dz K H (.ref a) (.tuple ds) := .tup (sq_tup h) h2
theorem dzAll_len {K : PySem.W.Frag} {H : Hp} : ∀ {vs : List V} {ds : List PyData}, DzAll K H vs ds → vs.length = ds.length
  | _, _, .nil => rfl
  | _, _, .cons _ t => congrArg (· + 1) (dzAll_len t)
theorem dzAll_append {K : PySem.W.Frag} {H : Hp} : ∀ {vs ws : List V} {ds es : List PyData}, DzAll K H vs ds → DzAll K H ws es → DzAll K H (vs ++ ws) (ds ++ es)
  | _, _, _, _, .nil, b => b
  | _, _, _, _, .cons h t, b => .cons h (dzAll_append t b)
theorem dz_bool {K : PySem.W.Frag} {H : Hp} {v : V} {b : Bool} (h : Dz K H v (.bool b)) : v = .bl b := by cases h; rfl
theorem dz_int {K : PySem.W.Frag} {H : Hp} {v : V} {b : Int} (h : Dz K H v (.int b)) : v = .int b := by cases h; rfl
theorem dz_str {K : PySem.W.Frag} {H : Hp} {v : V} {b : Str} (h : Dz K H v (.str b)) : v = .str b := by cases h; rfl
/-! what the heap reads of it -/
theorem pairs_keys {P : Program} {w : World} {h : Heap} : ∀ {es : List DictEntry} {kvs : List (Key × Value)}, Pairs (mixKind P w) es kvs → ∃ as, ReadsAll h (es.map (·.key)) (kvs.map fun p => kD p.1) as
  | _, _, .nil => ⟨_, .nil⟩
  | _, _, .cons hk _ t => by
    obtain ⟨as, r⟩ := pairs_keys t
    rename_i e kv es kvs _
    rcases keyIs_shape (show keyIs kv.1 e.key = true from hk) with ⟨i, t, e1, e2⟩ | ⟨x, t, e1, e2⟩
    · refine ⟨[] ++ as, ?_⟩
      show ReadsAll h (e.key :: es.map (·.key)) (kD kv.1 :: kvs.map fun p => kD p.1) _
      rw [e1, e2]
      exact .cons (.int i t) r
    · refine ⟨[] ++ as, ?_⟩
      show ReadsAll h (e.key :: es.map (·.key)) (kD kv.1 :: kvs.map fun p => kD p.1) _
      rw [e1, e2]
      exact .cons (.str x t) r
theorem pairs_vals {P : Program} {w : World} : ∀ {es : List DictEntry} {kvs : List (Key × Value)}, Pairs (mixKind P w) es kvs → es.map (·.val) = kvs.map (·.2)
  | _, _, .nil => rfl
  | _, _, .cons _ hv t => by
    rw [List.map_cons, List.map_cons, hv, pairs_vals t]
theorem kv_keys {κ : Type} : ∀ {a : List (κ × V)} {b : List (κ × Value)}, KV a b → a.map (·.1) = b.map (·.1) ∧ Vals (a.map (·.2)) (b.map (·.2))
  | _, _, .nil => ⟨rfl, .nil⟩
  | _, _, .cons r t => by
    obtain ⟨h1, h2⟩ := kv_keys t
    exact ⟨by rw [List.map_cons, List.map_cons, r.1, h1], .cons r.2 h2⟩
section
variable {X : Cx} {pins : List (Addr × Obj)} {σ : L2.St} {H : Hp} {s : Shared}
theorem dct_at (I : Inv X pins σ H s) {a : Addr} {kvs : List (Key × V)} (h : H a = some (.dK kvs)) : (a == sysModules) = false ∧ ∃ (vs : List (Key × Value)) (o : Obj) (es : Array DictEntry) (ep : Nat),
    kvs.map (·.1) = vs.map (·.1) ∧ Vals (kvs.map (·.2)) (vs.map (·.2)) ∧ s.heap.get? a = some o ∧ o.cls = .type "dict" ∧ o.data = .dict es ep ∧ Pairs (mixKind X.prog X.w) es.toList vs := by
  obtain ⟨_, z, vs, kv, o, es, ep, h1, h2, h3, _, h5, _⟩ := dk_of I.hok h
  obtain ⟨k1, k2⟩ := kv_keys kv
  exact ⟨z, vs, o, es, ep, k1, k2, h1, h2.1, h3, h5⟩
mutual
theorem Dz.reads (I : Inv X pins σ H s) : ∀ (d : PyData) (v : V) (u : Value), Dz X.K H v d → RelV v u → ∃ as, Reads s.heap u d as
  | .none, _, _, h, r => by
    cases h
    cases r
    exact ⟨_, Reads.none⟩
  | .bool b, _, _, h, r => by
    cases h
    cases r
    exact ⟨_, Reads.bool b⟩
  | .int i, _, _, h, r => by
    cases h
    obtain ⟨t, rfl⟩ := r
    exact ⟨_, Reads.int i t⟩
  | .str x, _, _, h, r => by
    cases h
    obtain ⟨t, rfl⟩ := r
    exact ⟨_, Reads.str x t⟩
  | .list ds, _, _, h, r => by
    cases h with
    | lst hs ha =>
      cases r
      obtain ⟨its, rv, ⟨o, n, ho, hc, _, hd⟩, _⟩ := I.list hs
      obtain ⟨as, hr⟩ := Dz.readsAll I ds _ its ha rv
      exact ⟨_, Reads.list ho hc hd hr⟩
  | .tuple ds, _, _, h, r => by
    cases h with
    | tup hs ha =>
      cases r
      obtain ⟨its, rv, ⟨o, ho, hc, n, hd⟩, _⟩ := I.tuple hs
      obtain ⟨as, hr⟩ := Dz.readsAll I ds _ its ha rv
      exact ⟨_, Reads.tuple ho hc hd hr⟩
  | .dict ps, _, _, h, r => by
    cases h with
    | dct h1 h2 h3 =>
      cases r
      obtain ⟨_, vs, o, es, ep, k1, k2, h4, h5, h6, h7⟩ := dct_at I h1
      obtain ⟨as, r1⟩ := pairs_keys (h := s.heap) h7
      obtain ⟨bs, r2⟩ := Dz.readsKv I ps _ _ h3 k2
      rw [← pairs_vals h7] at r2
      have ek : ps.map (·.1) = vs.map fun p => kD p.1 := by
        rw [h2, show (fun p : Key × V => kD p.1) = kD ∘ (·.1) from rfl, ← List.map_map, k1, List.map_map]
        rfl
      rw [← ek] at r1
      exact ⟨_, Reads.dict h4 h5 h6 r1 r2⟩
theorem Dz.readsAll (I : Inv X pins σ H s) : ∀ (ds : List PyData) (vs : List V) (us : List Value), DzAll X.K H vs ds → Vals vs us → ∃ as, ReadsAll s.heap us ds as
  | [], _, _, h, r => by
    cases h
    cases r
    exact ⟨_, ReadsAll.nil⟩
  | d :: ds, _, _, h, r => by
    cases h with
    | cons h1 h2 =>
      cases r with
      | cons r1 r2 =>
        obtain ⟨as, q1⟩ := Dz.reads I d _ _ h1 r1
        obtain ⟨bs, q2⟩ := Dz.readsAll I ds _ _ h2 r2
        exact ⟨_, ReadsAll.cons q1 q2⟩
theorem Dz.readsKv (I : Inv X pins σ H s) : ∀ (ps : List (PyData × PyData)) (vs : List V) (us : List Value), DzAll X.K H vs (ps.map (·.2)) → Vals vs us → ∃ as, ReadsAll s.heap us (ps.map (·.2)) as
  | [], _, _, h, r => by
    cases h
    cases r
    exact ⟨_, ReadsAll.nil⟩
  | (k, d) :: ds, _, _, h, r => by
    cases h with
    | cons h1 h2 =>
      cases r with
      | cons r1 r2 =>
        obtain ⟨as, q1⟩ := Dz.reads I d _ _ h1 r1
        obtain ⟨bs, q2⟩ := Dz.readsKv I ds _ _ h2 r2
        exact ⟨_, ReadsAll.cons q1 q2⟩
end
/-! what repr shows of it -/
def ShK (P : Program) (w : World) (h : Heap) (u : Value) (d : PyData) : Prop := ∃ bs, ReadAtMost h d.depth bs ∧ ReprK P w bs h d.depth u d.shown
theorem keys_show {P : Program} {w : World} {h : Heap} : ∀ {es : List DictEntry} {kvs : List (Key × Value)} {ks : List PyData}, Pairs (mixKind P w) es kvs → ks = kvs.map (fun p => kD p.1) → PyData.showableAll ks = true → (∀ t ∈ PyData.shownAll ks, t.length ≤ sizeLine) →
    ReprAllK P w [] h 0 (es.map (·.key)) (PyData.shownAll ks)
  | _, _, _, .nil, e, _, _ => by
    subst e
    exact .nil
  | _, _, _, .cons hk _ t, e, hs, hz => by
    rename_i e0 kv es kvs _
    subst e
    have hs' : (kD kv.1).showable = true ∧ PyData.showableAll (kvs.map fun p => kD p.1) = true := by simpa [PyData.showableAll] using hs
    have ih := keys_show (h := h) t rfl hs'.2 (fun t ht => hz t (by
      show t ∈ PyData.shown (kD kv.1) :: PyData.shownAll (kvs.map fun p => kD p.1)
      exact List.mem_cons_of_mem _ ht))
    have hz0 := hz (PyData.shown (kD kv.1)) (by
      show _ ∈ PyData.shown (kD kv.1) :: PyData.shownAll (kvs.map fun p => kD p.1)
      exact List.mem_cons_self ..)
    show ReprAllK P w [] h 0 (e0.key :: es.map (·.key)) (PyData.shown (kD kv.1) :: PyData.shownAll (kvs.map fun p => kD p.1))
    refine .cons ?_ ih
    rcases keyIs_shape (show keyIs kv.1 e0.key = true from hk) with ⟨i, t, e1, e2⟩ | ⟨x, t, e1, e2⟩
    · rw [e2]
      rw [e1] at hs' ⊢
      exact .of_is (ReprIs.int t (by simpa [kD, PyData.showable] using hs'.1)) _ _ _
    · rw [e2]
      rw [e1] at hz0 ⊢
      exact .of_is (ReprIs.str x t hz0) _ _ _
mutual
theorem Dz.show_ (I : Inv X pins σ H s) : ∀ (d : PyData) (v : V) (u : Value), Dz X.K H v d → RelV v u → d.showable = true → d.shown.length ≤ sizeLine → ShK X.prog X.w s.heap u d
  | .none, _, _, h, r, _, _ => by
    cases h
    cases r
    exact ⟨[], (fun _ h => nomatch h), .of_is ReprIs.none _ _ _⟩
  | .bool b, _, _, h, r, _, _ => by
    cases h
    cases r
    exact ⟨[], (fun _ h => nomatch h), .of_is (ReprIs.bool b) _ _ _⟩
  | .int i, _, _, h, r, hs, _ => by
    cases h
    obtain ⟨t, rfl⟩ := r
    exact ⟨[], (fun _ h => nomatch h), .of_is (ReprIs.int t (by simpa [PyData.showable] using hs)) _ _ _⟩
  | .str x, _, _, h, r, _, hz => by
    cases h
    obtain ⟨t, rfl⟩ := r
    exact ⟨[], (fun _ h => nomatch h), .of_is (ReprIs.str x t hz) _ _ _⟩
  | .list ds, _, _, h, r, hs, hz => by
    cases h with
    | lst hq ha =>
      cases r
      obtain ⟨its, rv, ⟨o, n, ho, hc, _, hd⟩, _⟩ := I.list hq
      obtain ⟨as, hr⟩ := Dz.readsAll I ds _ its ha rv
      have hz' : (listText (PyData.shownAll ds)).length ≤ sizeLine := hz
      obtain ⟨bs, hb, hk⟩ := Dz.showAll I ds _ its ha rv (by simpa [PyData.showable] using hs) (fun t ht => Nat.le_trans (listText_mem_le ht) hz')
      have rd := Reads.list ho hc hd hr
      have hna := not_mem_of_deeper rd (by simp only [PyData.depth]; omega) hb
      refine ⟨_, ReadAtMost.cons rd (by simp only [PyData.depth]; omega) hb, ?_⟩
      simp only [PyData.depth, PyData.shown]
      cases its with
      | nil =>
        cases hr
        simp only [PyData.shownAll, listText_nil]
        exact ReprK.listEmpty ho hc hd
      | cons x l => exact ReprK.list ho hc hd hna (by simpa using hk.length_eq) (fun i y e => hk.item i y (by simpa using e))
  | .tuple ds, _, _, h, r, hs, hz => by
    cases h with
    | tup hq ha =>
      cases r
      obtain ⟨its, rv, ⟨o, ho, hc, n, hd⟩, _⟩ := I.tuple hq
      obtain ⟨as, hr⟩ := Dz.readsAll I ds _ its ha rv
      have hz' : (tupleText (PyData.shownAll ds)).length ≤ sizeLine := hz
      obtain ⟨bs, hb, hk⟩ := Dz.showAll I ds _ its ha rv (by simpa [PyData.showable] using hs) (fun t ht => Nat.le_trans (tupleText_mem_le ht) hz')
      have rd := Reads.tuple ho hc hd hr
      have hna := not_mem_of_deeper rd (by simp only [PyData.depth]; omega) hb
      refine ⟨_, ReadAtMost.cons rd (by simp only [PyData.depth]; omega) hb, ?_⟩
      simp only [PyData.depth, PyData.shown]
      exact ReprK.tuple ho hc hd hna hk
  | .dict ps, v, u, h, r, hs, hz => by
    have hh := h
    have hr0 := r
    cases h with
    | dct h1 h2 h3 =>
      cases r
      obtain ⟨hsys, vs, o, es, ep, k1, k2, h4, h5, h6, h7⟩ := dct_at I h1
      have hz' : (dictText (PyData.shownKv ps)).length ≤ sizeLine := hz
      obtain ⟨hs1, hs2⟩ := PyData.showableKv_split ps (by simpa [PyData.showable] using hs)
      have ek : ps.map (·.1) = vs.map fun p => kD p.1 := by
        rw [h2, show (fun p : Key × V => kD p.1) = kD ∘ (·.1) from rfl, ← List.map_map, k1, List.map_map]
        rfl
      have kk := keys_show (h := s.heap) h7 ek hs1 (fun t ht => let ⟨p, hp, hl⟩ := PyData.shownKv_key_le ps t ht; Nat.le_trans hl (Nat.le_trans (dictText_mem_le hp) hz'))
      obtain ⟨b2, hb2, hk2⟩ := Dz.showKv I ps _ _ h3 k2 hs2 (fun t ht => let ⟨p, hp, hl⟩ := PyData.shownKv_val_le ps t ht; Nat.le_trans hl (Nat.le_trans (dictText_mem_le hp) hz'))
      rw [← pairs_vals h7] at hk2
      obtain ⟨as, rd⟩ := Dz.reads I (.dict ps) _ _ hh hr0
      have hb : ReadAtMost s.heap (PyData.depthKv ps) b2 := hb2.mono (PyData.depthAll_vals_le ps)
      have hna := not_mem_of_deeper rd (by simp only [PyData.depth]; omega) hb
      refine ⟨_, ReadAtMost.cons rd (by simp only [PyData.depth]; omega) hb, ?_⟩
      simp only [PyData.depth, PyData.shown, PyData.shownKv_eq]
      exact ReprK.dict h4 h5 h6 hsys hna (ReprEntriesK.of_two es.toList _ _ (kk.more_le (fun b hb => by simp at hb) (Nat.zero_le _)) (hk2.more_le (fun b hb => hb) (PyData.depthAll_vals_le ps)))
theorem Dz.showAll (I : Inv X pins σ H s) : ∀ (ds : List PyData) (vs : List V) (us : List Value), DzAll X.K H vs ds → Vals vs us → PyData.showableAll ds = true → (∀ t ∈ PyData.shownAll ds, t.length ≤ sizeLine) →
    ∃ bs, ReadAtMost s.heap (PyData.depthAll ds) bs ∧ ReprAllK X.prog X.w bs s.heap (PyData.depthAll ds) us (PyData.shownAll ds)
  | [], _, _, h, r, _, _ => by
    cases h
    cases r
    exact ⟨[], (fun _ h => nomatch h), .nil⟩
  | d :: ds, _, _, h, r, hs, hz => by
    cases h with
    | cons h1 h2 =>
      cases r with
      | cons r1 r2 =>
        have hs' : d.showable = true ∧ PyData.showableAll ds = true := by simpa [PyData.showableAll] using hs
        obtain ⟨b1, hb1, k1⟩ := Dz.show_ I d _ _ h1 r1 hs'.1 (hz _ (by simp only [PyData.shownAll]; exact List.mem_cons_self ..))
        obtain ⟨b2, hb2, k2⟩ := Dz.showAll I ds _ _ h2 r2 hs'.2 (fun t ht => hz t (by simp only [PyData.shownAll]; exact List.mem_cons_of_mem _ ht))
        refine ⟨b1 ++ b2, (hb1.mono (by simp only [PyData.depthAll]; exact Nat.le_max_left _ _)).append (hb2.mono (by simp only [PyData.depthAll]; exact Nat.le_max_right _ _)), ?_⟩
        simp only [PyData.depthAll, PyData.shownAll]
        exact .cons ((k1.more fun b hb => List.mem_append_left _ hb).level_le (Nat.le_max_left _ _)) (k2.more_le (fun b hb => List.mem_append_right _ hb) (Nat.le_max_right _ _))
theorem Dz.showKv (I : Inv X pins σ H s) : ∀ (ps : List (PyData × PyData)) (vs : List V) (us : List Value), DzAll X.K H vs (ps.map (·.2)) → Vals vs us → PyData.showableAll (ps.map (·.2)) = true → (∀ t ∈ PyData.shownAll (ps.map (·.2)), t.length ≤ sizeLine) →
    ∃ bs, ReadAtMost s.heap (PyData.depthAll (ps.map (·.2))) bs ∧ ReprAllK X.prog X.w bs s.heap (PyData.depthAll (ps.map (·.2))) us (PyData.shownAll (ps.map (·.2)))
  | [], _, _, h, r, _, _ => by
    cases h
    cases r
    exact ⟨[], (fun _ h => nomatch h), .nil⟩
  | (k, d) :: ds, _, _, h, r, hs, hz => by
    cases h with
    | cons h1 h2 =>
      cases r with
      | cons r1 r2 =>
        have hs' : d.showable = true ∧ PyData.showableAll (ds.map (·.2)) = true := by simpa [PyData.showableAll] using hs
        obtain ⟨b1, hb1, k1⟩ := Dz.show_ I d _ _ h1 r1 hs'.1 (hz _ (by simp only [List.map_cons, PyData.shownAll]; exact List.mem_cons_self ..))
        obtain ⟨b2, hb2, k2⟩ := Dz.showKv I ds _ _ h2 r2 hs'.2 (fun t ht => hz t (by simp only [List.map_cons, PyData.shownAll]; exact List.mem_cons_of_mem _ ht))
        refine ⟨b1 ++ b2, (hb1.mono (by simp only [List.map_cons, PyData.depthAll]; exact Nat.le_max_left _ _)).append (hb2.mono (by simp only [List.map_cons, PyData.depthAll]; exact Nat.le_max_right _ _)), ?_⟩
        simp only [List.map_cons, PyData.depthAll, PyData.shownAll]
        exact .cons ((k1.more fun b hb => List.mem_append_left _ hb).level_le (Nat.le_max_left _ _)) (k2.more_le (fun b hb => List.mem_append_right _ hb) (Nat.le_max_right _ _))
end
end
/-- data that repr takes -/
def FitZ (d : PyData) : Prop := d.showable = true ∧ d.depth ≤ 100 ∧ d.shown.length ≤ sizeLine
theorem fitZ_of {d : PyData} (h : Fits d) : FitZ d := by
  have hl := h.len
  obtain ⟨B, D, W, sm, _, hD, _⟩ := h
  exact ⟨sm.show_, Nat.le_trans sm.dep hD, hl⟩
def rReprZ (K : PySem.W.Frag) : List V → Hp → VK → Prop := fun xs H Q => ∃ (x : V) (d : PyData), xs = [x] ∧ Dz K H x d ∧ FitZ d ∧ Q (.str d.shown) H
theorem call_reprZ {X : Cx} (hg : X.A.guards = some []) (hu : X.A.units + 200 < cLine) : CallR X (.builtin "repr") (rReprZ X.K) := by
  intro pins s σ H xs us Q I r h
  obtain ⟨x, d, rfl, hd, ⟨hs, hD, hl⟩, q⟩ := h
  obtain ⟨u, rfl, rx⟩ := vals1 r
  have fin : ∀ tk' tk, EP X pins σ Q (.str d.shown tk) { s with toks := tk' } := fun tk' tk => ⟨.str _, H, I.tok _, ⟨_, rfl⟩, q⟩
  have finH : ∀ h' u tk, (∀ b o, s.heap.get? b = some o → h'.get? b = some o) → EP X pins σ Q (.str d.shown u) { s with heap := h', toks := tk } := fun h' u tk k => ⟨.str _, H, I.un (Un.kept k) (I.hok.kept k), ⟨_, rfl⟩, q⟩
  have hd0 := hd
  cases hd with
  | non =>
    obtain rfl : u = Value.none := rx
    exact PySem.P.repr_of_none (fin _ _)
  | bl b =>
    obtain rfl : u = Value.bool b := rx
    exact PySem.P.repr_of_bool (fin _ _)
  | int i =>
    obtain ⟨t, rfl⟩ := rx
    exact PySem.P.repr_of_int (of_decide_eq_true hs) (fin _ _)
  | str y =>
    obtain ⟨t, rfl⟩ := rx
    exact PySem.P.repr_of_str (fin _ _) hl
  | lst hq ha =>
    rename_i a xs ds
    obtain rfl : u = Value.ref a := rx
    obtain ⟨its, rv, ⟨o, n, ho, hc, _, hda⟩, _⟩ := I.list hq
    obtain ⟨as, hr⟩ := Dz.readsAll I ds _ its ha rv
    have hz' : (listText (PyData.shownAll ds)).length ≤ sizeLine := hl
    obtain ⟨bs, hb, hk⟩ := Dz.showAll I ds _ its ha rv (by simpa [PyData.showable] using hs) (fun t ht => Nat.le_trans (listText_mem_le ht) hz')
    have rd := Reads.list ho hc hda hr
    have hna := not_mem_of_deeper rd (by simp only [PyData.depth]; omega) hb
    simp only [PyData.depth] at hD
    refine PySem.call_repr_slot (by omega) ⟨o, ho, hc⟩ F.slot_list_repr.toG ?_
    cases its with
    | nil =>
      cases hr
      simp only [PyData.shown, PyData.shownAll, listText_nil] at finH
      exact call_list_repr_empty ⟨o, ho, hc⟩ ho hda ⟨_, _, rfl, finH s.heap _ _ fun _ _ e => e⟩
    | cons x l =>
      exact call_list_reprK ho hc hda hna (by simpa using hk.length_eq) (fun i y e => hk.item i y (by simpa using e)) hg (fun b _ => Clear.nil b) (by show X.A.units + 1 + (PyData.depthAll ds + 1) < cLine; omega) (fun _ _ e => e) (fun h' u tk k => ⟨_, _, rfl, finH h' u tk k⟩) hz'
  | tup hq ha =>
    rename_i a xs ds
    obtain rfl : u = Value.ref a := rx
    obtain ⟨its, rv, ⟨o, ho, hc, n, hda⟩, _⟩ := I.tuple hq
    obtain ⟨as, hr⟩ := Dz.readsAll I ds _ its ha rv
    have hz' : (tupleText (PyData.shownAll ds)).length ≤ sizeLine := hl
    obtain ⟨bs, hb, hk⟩ := Dz.showAll I ds _ its ha rv (by simpa [PyData.showable] using hs) (fun t ht => Nat.le_trans (tupleText_mem_le ht) hz')
    have rd := Reads.tuple ho hc hda hr
    have hna := not_mem_of_deeper rd (by simp only [PyData.depth]; omega) hb
    simp only [PyData.depth] at hD
    refine PySem.call_repr_slot (by omega) ⟨o, ho, hc⟩ F.slot_tuple_repr ?_
    exact call_tuple_reprK ho hc hda hna hk hg (fun b _ => Clear.nil b) (by show X.A.units + 1 + (PyData.depthAll ds + 1) < cLine; omega) (fun _ _ e => e) (fun h' u tk k => ⟨_, _, rfl, finH h' u tk k⟩) hz'
  | dct h1 h2 h3 =>
    rename_i a kvs ps
    obtain rfl : u = Value.ref a := rx
    obtain ⟨hsys, vs, o, es, ep, k1, k2, h4, h5, h6, h7⟩ := dct_at I h1
    have hz' : (dictText (PyData.shownKv ps)).length ≤ sizeLine := hl
    obtain ⟨hs1, hs2⟩ := PyData.showableKv_split ps (by simpa [PyData.showable] using hs)
    have ek : ps.map (·.1) = vs.map fun p => kD p.1 := by
      rw [h2, show (fun p : Key × V => kD p.1) = kD ∘ (·.1) from rfl, ← List.map_map, k1, List.map_map]
      rfl
    have kk := keys_show (h := s.heap) h7 ek hs1 (fun t ht => let ⟨p, hp, hl⟩ := PyData.shownKv_key_le ps t ht; Nat.le_trans hl (Nat.le_trans (dictText_mem_le hp) hz'))
    obtain ⟨b2, hb2, hk2⟩ := Dz.showKv I ps _ _ h3 k2 hs2 (fun t ht => let ⟨p, hp, hl⟩ := PyData.shownKv_val_le ps t ht; Nat.le_trans hl (Nat.le_trans (dictText_mem_le hp) hz'))
    rw [← pairs_vals h7] at hk2
    obtain ⟨as, rd⟩ := Dz.reads I (.dict ps) _ _ hd0 rfl
    have hb : ReadAtMost s.heap (PyData.depthKv ps) b2 := hb2.mono (PyData.depthAll_vals_le ps)
    have hna := not_mem_of_deeper rd (by simp only [PyData.depth]; omega) hb
    simp only [PyData.depth] at hD
    simp only [PyData.shown, PyData.shownKv_eq] at finH
    refine PySem.call_repr_slot (by omega) ⟨o, h4, h5⟩ F.slot_dict_repr ?_
    exact call_dict_reprK h4 h5 h6 hsys hna (ReprEntriesK.of_two es.toList _ _ (kk.more_le (fun b hb => by simp at hb) (Nat.zero_le _)) (hk2.more_le (fun b hb => hb) (PyData.depthAll_vals_le ps))) hg (fun b _ => Clear.nil b) (by show X.A.units + 1 + (PyData.depthKv ps + 1) < cLine; omega) (fun _ _ e => e) (fun h' u tk k => ⟨_, _, rfl, finH h' u tk k⟩) (by rw [← PyData.shownKv_eq]; exact hz')
end Wn
/-! a list backwards: xs[::-1] -/
namespace Wn
open PySem PySem.Spec PyProof.Rows L2
theorem pick_rev (us : List Value) : slicePick us.toArray none none (some (-1)) = us.reverse.toArray := by
  have e : sliceBounds none none (some (-1)) us.toArray.size = (((us.length : Int) - 1), (-1 : Int), (-1 : Int)) := by
    simp [sliceBounds]
  unfold slicePick
  rw [e]
  show (List.filterMap (fun i => us.toArray[i]?) (sliceRange ((us.length : Int) - 1) (-1) (-1))).toArray = _
  congr 1
  have e2 : sliceRange ((us.length : Int) - 1) (-1) (-1) = (List.range us.length).map fun i => us.length - 1 - i := by
    unfold sliceRange
    have c : (if (-1 : Int) > 0 then (if ((us.length : Int) - 1) < -1 then ((-1) - ((us.length : Int) - 1) + (-1) - 1) / (-1) else 0) else (if ((us.length : Int) - 1) > -1 then (((us.length : Int) - 1) - (-1) - (-1) - 1) / (-(-1)) else 0)).toNat = us.length := by
      rw [if_neg (by decide)]
      by_cases z : ((us.length : Int) - 1) > -1
      · rw [if_pos z, show (-(-1 : Int)) = 1 from rfl, Int.ediv_one]
        omega
      · rw [if_neg z]
        omega
    dsimp only
    rw [c]
    apply List.map_congr_left
    intro i hi
    have := List.mem_range.mp hi
    omega
  rw [e2, List.filterMap_map]
  apply List.ext_getElem?
  intro i
  have key : ∀ n, n ≤ us.length → (List.filterMap ((fun i => us.toArray[i]?) ∘ fun i => us.length - 1 - i) (List.range n)) = us.reverse.take n := by
    intro n
    induction n with
    | zero => intro _; rfl
    | succ n ih =>
      intro hn
      rw [List.range_succ, List.filterMap_append, ih (by omega), List.take_succ_eq_append_getElem (by rw [List.length_reverse]; omega), List.getElem_reverse]
      refine congrArg (fun z => us.reverse.take n ++ z) ?_
      show List.filterMap (fun i => us.toArray[us.length - 1 - i]?) [n] = _
      rw [List.filterMap_cons]
      have : us.toArray[us.length - 1 - n]? = some us[us.length - 1 - n] := by
        rw [List.getElem?_toArray, List.getElem?_eq_getElem]
      rw [this]
      rfl
  rw [key us.length (Nat.le_refl _), List.take_of_length_le (by rw [List.length_reverse]; exact Nat.le_refl _)]
def rRvL (K : PySem.W.Frag) : V → V → Hp → VK → Prop := fun x y H Q => ∃ (a : Addr) (xs : List V), x = .ref a ∧ y = .int (-1) ∧ SqL K H a xs ∧ ∀ p, H p = none → Q (.ref p) (upd H p (.lst xs.reverse))
variable {X : Cx} {e st : Expr} {te ts : TE} {pos p2 : Pos}
theorem pe_revL {r : R2} (he : PE X e te) (hs : PE X st ts) (hr : r = rRvL X.K := by rfl) : PE X (.Subscript e (.Slice none none (some st) p2) pos) (tStL r te ts) := by
  subst hr
  refine ⟨fun pins s σ H Q I h => ?_⟩
  refine Subscript_ (thn (he.run pins s σ H _ I h) fun v s1 ⟨x, H1, I1, r1, q1⟩ => ?_)
  refine wpAny_Slice ?_
  rw [evalPart_none]
  refine wpAny_pure (wpAny_pure ?_)
  rw [evalPart_some]
  refine thn (hs.run pins s1 σ H1 _ I1 q1) fun vs s3 ⟨y, H3, I3, ry, q3⟩ => ?_
  obtain ⟨a, xs, rfl, rfl, hx, q⟩ := q3
  cases r1
  obtain ⟨t, rfl⟩ := ry
  have I4 : Inv X pins σ H3 { s3 with heap := s3.heap.push { cls := .type "slice", data := .fields #[.none, .none, .int (-1) t] } } := I3.kept (t' := s3.toks) fun b ob q => Heap.get?_push_of_some _ q
  obtain ⟨its, r, ht, hz⟩ := I4.list hx
  have hlen := r.length
  have hg : wpAny (model X.prog X.w) X.A (getItem (.ref a) (.ref s3.heap.objs.size)) (EP X pins σ Q) X.xe { s3 with heap := s3.heap.push { cls := .type "slice", data := .fields #[.none, .none, .int (-1) t] } } := by
    refine wpAny_getItem_list_slice (st := some (-1)) ht.isList (Heap.IsSliceOf.new ..) .none .none (.int _ _) (by intro z; have := Option.some.inj z; omega) ?_ (by rw [List.size_toArray] <;> omega)
    rw [pick_rev its]
    refine ⟨.ref _, _, I4.laid (t' := s3.toks) (o := .lst xs.reverse) (fun b ob q => Heap.get?_push_of_some _ q) (Nat.le_refl _) ?_, rfl, q _ (I4.hok.fresh (Nat.le_refl _))⟩
    exact ⟨by rw [List.length_reverse]; exact hz, _, 0, r.reverse, Heap.get?_push_size _ rfl⟩
  show wpAny (model X.prog X.w) X.A (subscriptTail e (.Slice none none (some st) p2) (.ref a) (.ref s3.heap.objs.size)) (EP X pins σ Q) X.xe { s3 with heap := s3.heap.push { cls := .type "slice", data := .fields #[.none, .none, .int (-1) t] } }
  exact tail_any (ops := [.ref a, .ref s3.heap.objs.size]) ht.isList.typeIs slot_list_getitem.lookup hg (by with_unfolding_all rfl)
end Wn
/-! a tuple backwards: xs[::-1] -/
namespace Wn
open PySem PySem.Spec PyProof.Rows L2 HT
theorem pickT_rev (us : List Value) : ((List.range us.length).filterMap fun (k : Nat) => us.toArray[(((us.length : Int) - 1) + (k : Int) * (-1)).toNat]?).toArray = us.reverse.toArray := by
  congr 1
  have key : ∀ n, n ≤ us.length → (List.filterMap (fun (k : Nat) => us.toArray[(((us.length : Int) - 1) + (k : Int) * (-1)).toNat]?) (List.range n)) = us.reverse.take n := by
    intro n
    induction n with
    | zero => intro _; rfl
    | succ n ih =>
      intro hn
      rw [List.range_succ, List.filterMap_append, ih (by omega), List.take_succ_eq_append_getElem (by rw [List.length_reverse]; omega), List.getElem_reverse]
      refine congrArg (fun z => us.reverse.take n ++ z) ?_
      rw [List.filterMap_cons]
      have e : (((us.length : Int) - 1) + (n : Int) * (-1)).toNat = us.length - 1 - n := by omega
      have : us.toArray[us.length - 1 - n]? = some us[us.length - 1 - n] := by
        rw [List.getElem?_toArray, List.getElem?_eq_getElem]
      rw [e, this]
      rfl
  rw [key us.length (Nat.le_refl _), List.take_of_length_le (by rw [List.length_reverse]; exact Nat.le_refl _)]
section
variable {prog : Program} {w : World} {A : Around} {E : Value → Shared → Prop} {s : Shared}
theorem applied_rev {sl : Addr} {u : Tok} {n : Nat} {Q : Int × Int × Nat → Shared → Prop} (hs : s.heap.IsSliceOf sl .none .none (.int (-1) u)) (h : Q (((n : Int) - 1), -1, n) s) : wpAny (model prog w) A (Builtin.Slice.sliceApplied (.ref sl) (pure (n : Int))) Q E s := by
  obtain ⟨os, hos, hcs, hds⟩ := id hs
  unfold Builtin.Slice.sliceApplied Builtin.Slice.sliceFields
  refine wpAny_bind (wpAny_bind (wpAny_field hos hds (x := .none) rfl (wpAny_bind (wpAny_field hos hds (x := .none) rfl (wpAny_bind (wpAny_field hos hds (x := .int (-1) u) rfl (wpAny_pure ?_)))))))
  refine wpAny_bind (slicePart_int ?_)
  show wpAny _ _ (if ((-1 : Int) == 0) = true then _ else _) _ _ s
  rw [if_neg (by decide)]
  refine wpAny_bind (slicePart_none (wpAny_bind (slicePart_none (wpAny_bind (wpAny_pure ?_)))))
  show wpAny _ _ (pure (((n : Int) - 1), (-1 : Int), Builtin.Slice.slicePlaces ((n : Int) - 1) (-1) (-1))) _ _ s
  have e : Builtin.Slice.slicePlaces ((n : Int) - 1) (-1) (-1) = n := by
    unfold Builtin.Slice.slicePlaces
    rw [if_neg (by decide)]
    by_cases z : ((n : Int) - 1) > -1
    · rw [if_pos z, show (-(-1 : Int)) = 1 from rfl, Int.ediv_one]
      omega
    · rw [if_neg z]
      omega
  rw [e]
  exact wpAny_pure h
theorem getItem_tuple_rev {t sl : Addr} {items : List Value} {u : Tok} {Q : Value → Shared → Prop} (ht : IsTup s.heap t items.toArray) (hs : s.heap.IsSliceOf sl .none .none (.int (-1) u))
    (h : Q (.ref s.heap.objs.size) { s with heap := s.heap.push { cls := .type "tuple", data := .seq items.reverse.toArray } }) (hsz : items.length ≤ sizeLine) : wpAny (model prog w) A (getItem (.ref t) (.ref sl)) Q E s := by
  have hok : sizeOk (.seq items.reverse.toArray) := by
    show items.reverse.toArray.size ≤ sizeLine
    rw [List.size_toArray, List.length_reverse]
    exact hsz
  obtain ⟨os, hos, hcs, hds⟩ := id hs
  have hTs : s.TypeIs (.ref sl) "slice" := ⟨os, hos, hcs⟩
  unfold getItem
  try with_reducible refine wpAny_holding ?_
  first | refine wpAny_bind (wpAny_pure ?_) | skip
  refine wpAny_bind (wpAny_sequenceKey ht.typeIs (by decide) ?_)
  refine wpAny_bind (wpAny_callSpecial?_slot (name := Str.ofString "__getitem__") ht.typeIs PyProof.Rows.slot_tuple_getitem
    (wpAny_call_entry PyProof.Rows.slot_tuple_getitem ht.typeIs entry_tuple_getitem ?_ (args_tuple_getitem _ _)))
  show wpAny _ _ (Builtin.Tuple.tupleItemsOf (.ref t) >>= _) _ _ s
  refine wpAny_bind (tupleItemsOf_ ht ?_)
  refine wpAny_bind (wpAny_typeOf hTs ?_)
  rw [if_pos (by decide)]
  have e0 : items.toArray.size = items.length := List.size_toArray
  rw [e0]
  refine wpAny_bind (applied_rev hs ?_)
  have hno : ¬ ((((items.length : Int) - 1) == 0 && (-1 : Int) == 1 && items.length == items.length) = true) := by
    intro q
    rw [Bool.and_eq_true, Bool.and_eq_true] at q
    exact absurd q.1.2 (by decide)
  show wpAny _ _ (if (((items.length : Int) - 1) == 0 && (-1 : Int) == 1 && items.length == items.length) = true then _ else _) _ _ s
  rw [if_neg hno, pickT_rev]
  first
    | exact wpAny_bind (m := Builtin.Tuple.tupleExact _) (wpAny_newObj_type (wpAny_pure ⟨_, rfl, wpAny_pure h⟩) hok)
    | exact wpAny_bind (m := Builtin.Tuple.tupleExact _) (wpAny_newObj_type (wpAny_bind (wpAny_pure (wpAny_pure ⟨_, rfl, wpAny_pure h⟩))) hok)
    | exact wpAny_bind (wpAny_bind (m := Builtin.Tuple.tupleExact _) (wpAny_newObj_type (wpAny_pure (wpAny_pure ⟨_, rfl, wpAny_pure h⟩)) hok))
    | exact wpAny_bind (wpAny_bind (m := Builtin.Tuple.tupleExact _) (wpAny_newObj_type (wpAny_pure ⟨_, rfl, wpAny_pure h⟩) hok))
end
def rRvT (K : PySem.W.Frag) : V → V → Hp → VK → Prop := fun x y H Q => ∃ (a : Addr) (xs : List V), x = .ref a ∧ y = .int (-1) ∧ SqT K H a xs ∧ ∀ p, H p = none → Q (.ref p) (upd H p (.tup xs.reverse))
variable {X : Cx} {e st : Expr} {te ts : TE} {pos p2 : Pos}
theorem pe_revT {r : R2} (he : PE X e te) (hs : PE X st ts) (hr : r = rRvT X.K := by rfl) : PE X (.Subscript e (.Slice none none (some st) p2) pos) (tStL r te ts) := by
  subst hr
  refine ⟨fun pins s σ H Q I h => ?_⟩
  refine Subscript_ (thn (he.run pins s σ H _ I h) fun v s1 ⟨x, H1, I1, r1, q1⟩ => ?_)
  refine wpAny_Slice ?_
  rw [evalPart_none]
  refine wpAny_pure (wpAny_pure ?_)
  rw [evalPart_some]
  refine thn (hs.run pins s1 σ H1 _ I1 q1) fun vs s3 ⟨y, H3, I3, ry, q3⟩ => ?_
  obtain ⟨a, xs, rfl, rfl, hx, q⟩ := q3
  cases r1
  obtain ⟨t, rfl⟩ := ry
  have I4 : Inv X pins σ H3 { s3 with heap := s3.heap.push { cls := .type "slice", data := .fields #[.none, .none, .int (-1) t] } } := I3.kept (t' := s3.toks) fun b ob q => Heap.get?_push_of_some _ q
  obtain ⟨its, r, ht, hz⟩ := I4.tuple hx
  have hlen := r.length
  have hg : wpAny (model X.prog X.w) X.A (getItem (.ref a) (.ref s3.heap.objs.size)) (EP X pins σ Q) X.xe { s3 with heap := s3.heap.push { cls := .type "slice", data := .fields #[.none, .none, .int (-1) t] } } := by
    refine getItem_tuple_rev ht (Heap.IsSliceOf.new ..) ?_ (by omega)
    refine ⟨.ref _, _, I4.laid (t' := s3.toks) (o := .tup xs.reverse) (fun b ob q => Heap.get?_push_of_some _ q) (Nat.le_refl _) ?_, rfl, q _ (I4.hok.fresh (Nat.le_refl _))⟩
    exact ⟨by rw [List.length_reverse]; exact hz, _, r.reverse, IsTup.new _ _⟩
  show wpAny (model X.prog X.w) X.A (subscriptTail e (.Slice none none (some st) p2) (.ref a) (.ref s3.heap.objs.size)) (EP X pins σ Q) X.xe { s3 with heap := s3.heap.push { cls := .type "slice", data := .fields #[.none, .none, .int (-1) t] } }
  exact tail_any (ops := [.ref a, .ref s3.heap.objs.size]) ht.typeIs PyProof.Rows.slot_tuple_getitem.lookup hg (by with_unfolding_all rfl)
end Wn
/-! errors of one's own, over any built-in one: made, kept as values, looked at -/
namespace Wn
open PySem PySem.Spec PyProof.Rows L2
/-! the first store to such an error -/
section
open PySem.W PySem.HandSPX Builtin Builtin.ObjectAttr
variable {prog : Program} {w : World} {A : Around} {E : Value → Shared → Prop} {s : Shared} {K : PySem.W.Frag} {C : Addr} {B : String} {bmB : List Value}
theorem osa_one {x t : Addr} {name : Str} {tk : Tok} {v : Value} {R : Result → Shared → Prop} (SF : StoreFacts B bmB "object.__setattr__" "object") (X : K.In s.heap) (hx : s.heap.get? x = some (PySem.W.excObj C t none .none))
    (hp : PySem.W.excOver K C bmB = true) (ht : PySem.W.takerIn K C name = some none) (hh : PySem.W.hasDictIn K C = true)
    (h : ∀ dx h' tk', (∀ b o, b ≠ x → s.heap.get? b = some o → h'.get? b = some o) → s.heap.objs.size ≤ dx → dx ≠ x → h'.get? x = some (PySem.W.excObj C t (some dx) .none) → h'.Ns1 dx (fun y => if y = name then some v else none) → R (.ok (.ret .none)) { s with heap := h', toks := tk' }) :
    codeAny (model prog w) A (.call (.builtin "object.__setattr__") ⟨[.ref x, .str name tk, v], []⟩) R s := by
  have hlt := Heap.lt_size hx
  have hne : s.heap.objs.size ≠ x := Nat.ne_of_gt hlt
  refine osa_openX (od := none) SF X ⟨hx, rfl, rfl, trivial⟩ hp ht fun b => ?_
  obtain ⟨cd, hc, hd⟩ := any_some hh
  refine wpAny_bind (wpAny_pure (wpAny_bind (instanceDict_exc hx (looks_clsIn X hc) hd ?_)))
  have e1 : (s.heap.push (dictOf [] 0)).get? x = some (PySem.W.excObj C t none .none) := Heap.get?_push_of_some _ hx
  obtain ⟨G, hG⟩ : ∃ G, G = (s.heap.push (dictOf [] 0)).update x (fun o => { o with dict := some s.heap.objs.size }) := ⟨_, rfl⟩
  have gx : G.get? x = some (PySem.W.excObj C t (some s.heap.objs.size) .none) := by
    rw [hG]
    exact Heap.get?_update_self _ e1 rfl
  have go : ∀ b, b ≠ x → G.get? b = (s.heap.push (dictOf [] 0)).get? b := fun b hb => by
    rw [hG]
    exact Heap.get?_update_ne _ _ _ _ hb
  have gd : G.Ns s.heap.objs.size (fun _ => none) := by
    refine ⟨_, #[], 0, (go _ hne).trans (Heap.get?_push_size _ rfl), rfl, fun e he => ?_, fun _ => rfl⟩
    exact absurd he (by simp)
  rw [← hG]
  show wpAny (model prog w) A.in1 (storeInDict s.heap.objs.size (.str name tk) name v) _ _ { s with heap := G }
  obtain ⟨hp0, g, d, tt, os⟩ := s
  refine store_in_new gd fun h' tk' hn hs => ?_
  refine h _ h' tk' (fun b o hb e => ?_) (Nat.le_refl _) hne ((hs.2 x hne.symm).trans gx) hn
  have hbs : b ≠ hp0.objs.size := Nat.ne_of_lt (Heap.lt_size e)
  exact (hs.2 b hbs).trans ((go b hb).trans (Heap.get?_push_of_some _ e))
end
/-- what the text says of an error's class: C, over the built-in B, with the field f and its own __init__ at fI -/
structure ErrC (K : PySem.W.Frag) (C fI : Addr) (f : Str) (B newId initId : String) (bmB : List Value) : Prop where
  F : ExcBaseFacts B newId initId bmB
  SF : StoreFacts B bmB "object.__setattr__" "object"
  ini : PySem.W.excInitIn K C bmB newId = true
  ov : PySem.W.excOver K C bmB = true
  hd : PySem.W.hasDictIn K C = true
  sa : PySem.W.findIn K (.ref C) "__setattr__" = some (some (.builtin "object.__setattr__"))
  exC : PySem.W.subIn K (.ref C) (.type "BaseException") = some true
  tyC : PySem.W.typeIn K (.ref C) = some (.type "type")
  kC : PySem.W.keepIn K (.ref C) = true
  tk : PySem.W.takerIn K C f = some none
  no : PySem.W.findIn K (.ref C) f = some none
  iC : PySem.W.findIn K (.ref C) "__init__" = some (some (.ref fI))
  tI : PySem.W.typeIn K (.ref fI) = some (.type "function")
  ga : PySem.W.findIn K (.ref C) "__getattribute__" = some (some (.builtin "BaseException.__getattribute__"))
  gg : PySem.W.findIn K (.ref C) "__getattr__" = some none
  ha : PySem.W.findIn K (.ref C) "__class__" = some (some (.builtin "object.__class__"))
  mr : PySem.W.mroIn K C (.type "object") = some true
section
variable {X : Cx} {pins : List (Addr × Obj)} {σ : L2.St} {H : Hp} {s : Shared} {a C fI dx : Addr} {f : Str} {y : V} {u : Value} {B newId initId : String} {bmB : List Value} {A : Around} {E : Value → Shared → Prop}
theorem ErrC.xf {K : PySem.W.Frag} (T : ErrC K C fI f B newId initId bmB) : XfC K C := ⟨T.ga, T.gg, T.exC, T.hd⟩
/-- self.f = y, the first one -/
theorem ostE {Q : Unit → Shared → Prop} (T : ErrC X.K C fI f B newId initId bmB) (I : Inv X pins σ H s) (e : H a = some (exo a C none)) (ry : RelV y u)
    (h : ∀ dx s', H dx = none → dx ≠ a → Inv X pins σ (upd (upd H dx (exd dx [(f, y)])) a (exo a C (some dx))) s' → Q () s') : wpAny (model X.prog X.w) A (setAttr (.ref a) f u) Q E s := by
  obtain ⟨t1, ho⟩ := exo_at I.hok e
  refine PySem.W.set_plain I.kIn (od := none) ⟨ho, rfl, rfl, trivial⟩ T.sa ?_
  refine osa_one (s := { s with toks := s.toks + 1 }) T.SF I.kIn ho T.ov T.tk T.hd fun d2 G tk2 keep lo ne gx gn => ?_
  have free2 : H d2 = none := I.hok.fresh lo
  have lt2 : ∀ {b : Addr} {o : Obj}, s.heap.get? b = some o → b ≠ d2 := fun z => Nat.ne_of_lt (Nat.lt_of_lt_of_le (Heap.lt_size z) lo)
  have nA : ∀ {b : Addr}, H b = none → b ≠ a := fun z w => by
    rw [w, e] at z
    cases z
  have un : Un X.fs [] H (upd (upd H d2 (exd d2 [(f, y)])) a (exo a C (some d2))) s.heap G := by
    constructor
    · exact fun b o q n _ _ => keep b o (nA n) q
    · exact fun b o q n _ _ => ⟨o.slots, keep b o (nA n) q⟩
    · intro b o q n _
      rw [upd_ne (nA n), upd_ne (lt2 q)]
      exact n
    · intro b o q _
      by_cases w : b = a
      · subst w
        exact ⟨_, gx⟩
      · exact ⟨o, keep b o w q⟩
    · intro b xs q
      rw [upd_ne (at_ne e q exo_tup), upd_ne (ne_of_none q free2)]
      exact q
    · intro b o v q
      rw [upd_ne (at_ne e q exo_frz), upd_ne (ne_of_none q free2)]
      exact q
    · intro b ps q
      refine ⟨#[], ?_⟩
      rw [upd_ne (at_ne e q exo_tbl), upd_ne (ne_of_none q free2), q]
      simp
  refine h d2 _ free2 ne (I.un (t' := tk2) un fun b o q => ?_)
  by_cases w : b = a
  · subst w
    rw [upd_same] at q
    cases q
    exact exo_ok gx
  rw [upd_ne w] at q
  by_cases w2 : b = d2
  · subst w2
    rw [upd_same] at q
    cases q
    exact exd_ok gn (relO_put (fs := []) ry fun g => True.intro)
  rw [upd_ne w2] at q
  refine (I.hok b o q).stay (fun c v hc z => keep c v ?_ z) (fun c hc => ?_) (fun c xs hc => ?_)
  · rcases hc with hc | hc
    · rw [hc]
      exact w
    · exact at_ne e hc exo_own
  · rw [upd_ne (at_ne e hc exo_own), upd_ne (ne_of_none hc free2)]
    exact hc
  · rw [upd_ne (at_ne e hc exo_tup), upd_ne (ne_of_none hc free2)]
    exact hc
/-- the built-in's __init__: nothing of it is told -/
theorem oinitE {us : List Value} {Q : Value → Shared → Prop} (T : ErrC X.K C fI f B newId initId bmB) (I : Inv X pins σ H s) (e : H a = some (exo a C none)) (hl : us.length ≤ sizeLine) (h : ∀ s', Inv X pins σ H s' → Q .none s') :
    wpAny (model X.prog X.w) A (call (.builtin initId) (.ref a :: us)) Q E s := by
  obtain ⟨t1, ho⟩ := exo_at I.hok e
  obtain ⟨nm, N, qn, bs, bm, hdct, sn, sub, ab, col, dd, k0, k1, k2, k3, k5, hC, hT⟩ := PySem.W.excInit_of I.kIn T.ini
  obtain ⟨hp, g, d, t, os⟩ := s
  refine wpAny_call (PySem.HandSPX.init_base T.F hT hC ho hl fun G t2 k gx => ?_)
  have J := I.write (t' := t) (x := a) (e := a) (o := exo a C none) (by rw [e]; exact True.intro) (.inl rfl) k ⟨_, gx⟩ (exo_ok gx)
  rw [show upd H a (exo a C none) = H from funext fun b => by
    by_cases w : b = a
    · rw [w, upd_same, e]
    · rw [upd_ne w]] at J
  exact h _ J
end
/-- W.__init__(self, ..), W one's own class or a built-in one -/
def tInitE (K : PySem.W.Frag) (C : Addr) (ta : TA) : TE := fun σ H Q => ta σ H fun vs H1 => ∃ (a : Addr) (ws : List V), vs = .ref a :: ws ∧ ws.length ≤ 1000 ∧ H1 a = some (exo a C none) ∧ Q .non H1
/-- self.f = e -/
def tOstE (K : PySem.W.Frag) (C : Addr) (f : Str) (to te : TE) : TS := fun D σ H => te σ H fun y H1 => to σ H1 fun x H2 => ∃ a : Addr, x = .ref a ∧ H2 a = some (exo a C none) ∧ ∀ dx, H2 dx = none → dx ≠ a → D.nx σ (upd (upd H2 dx (exd dx [(f, y)])) a (exo a C (some dx)))
section
variable {X : Cx} {o e : Expr} {es : List Expr} {to te : TE} {ta : TA} {f : Str} {p p' p1 p2 pos : Pos} {C fI W : Addr} {B newId initId : String} {bmB : List Value} {mc : Value} {wn : Str}
theorem call_initE {pl : Sem Bool} (T : ErrC X.K C fI f B newId initId bmB) (ha : PA X (e :: es) ta) {pins : List (Addr × Obj)} {s : Shared} {σ : L2.St} {H : Hp} {Q : VK} (I : Inv X pins σ H s) (h : tInitE X.K C ta σ H Q)
    (he : starEach (e :: es) X.env = (false, eval e X.env) :: starEach es X.env := by rfl) (hpl : (backTo pos (starEach es X.env)).any (·.1) = false := by rfl) :
    wpAny (model X.prog X.w) X.A (callWith pos (Value.builtin initId) [] (backTo pos (starEach (e :: es) X.env)) []) (EP X pins σ Q) X.xe s := by
  refine PyProof.Rows.callWith_method1 (thn (ha.run pos pins s σ H _ I h) fun us s1 ⟨vs, H1, I1, r1, a, ws, ev, hl, ea, q⟩ => ?_) he hpl
  subst ev
  cases r1 with
  | @cons _ u0 _ ur ra rw' =>
    obtain rfl : u0 = Value.ref a := ra
    have hlen : ur.length ≤ sizeLine := by
      rw [← Paired.length rw', sizeLine_eq]
      omega
    exact oinitE T I1 ea hlen fun s' J => ⟨.non, H1, J, rfl, q⟩
/-- a class of one's own: its name holds W, whose __init__ is the built-in's -/
theorem pe_initW {pl : Sem Bool} (T : ErrC X.K C fI f B newId initId bmB) (hg : Gl X wn) (hm : X.mg wn = some (.ref W)) (r : ClX.CRead X.K W mc) (at_ : PySem.W.findCls X.K (.ref W) mc "__init__" = some (.val (.builtin initId))) (hh : PySem.W.handedIn (.builtin initId) = true) (ha : PA X (e :: es) ta)
    (hc : eval (.Call (.Attribute (.Name wn p1) "__init__" p2) (e :: es) [] pos) X.env = (do
      let ov ← eval (.Name wn p1) X.env
      standAt p2.atName
      let (f, first) ← holding [ov] (getMethod ov "__init__" pl)
      callWith pos f first (backTo pos (starEach (e :: es) X.env)) (backToKw pos (keywordEach [] X.env))) := by rfl)
    (hdb : (wn == ("__debug__" : Str)) = false := by decide)
    (he : starEach (e :: es) X.env = (false, eval e X.env) :: starEach es X.env := by rfl) (hpl : (backTo pos (starEach es X.env)).any (·.1) = false := by rfl) :
    PE X (.Call (.Attribute (.Name wn p1) "__init__" p2) (e :: es) [] pos) (tInitE X.K C ta) := by
  refine ⟨fun pins s σ H Q I h => ?_⟩
  refine PySem.W.methodCall_KW (ld_glob I hg hm ?_ hdb) hc
  refine PySem.W.method_cls I.kIn r.ga ?_
  refine PySem.W.cls_value I.kIn r.rd at_ hh ?_
  show wpAny _ _ (callWith pos (Value.builtin initId) [] (backTo pos (starEach (e :: es) X.env)) []) _ _ _
  exact call_initE (pl := pl) T ha (I.tok _) h he hpl
end
end Wn
namespace Wn
open PySem PySem.Spec PyProof.Rows L2
/-! C(e): the error made by its own __init__, which keeps sp -/
section
variable {X : Cx} {e : Expr} {es : List Expr} {ta : TA} {f : Str} {p pos : Pos} {C fI : Addr} {B newId initId : String} {bmB : List Value}
theorem pmkE {CX : CXT} {x : Str} {k : Nat} {fd : FuncData} {ps : List Str} {sp : Sp} (T : ErrC X.K C fI f B newId initId bmB) (F1 : FnOk X.prog X.w X.K X.mg X.base CX k fI fd ps sp) (hr : Room (k + 1) X.A) (hb : Binds X.K fd ps []) (hx : Passes CX X (fun _ _ _ => False))
    (hg : Gl X x) (hm : X.mg x = some (.ref C)) (ha : PA X (e :: es) ta)
    (hdb : (x == ("__debug__" : Str)) = false := by decide) (he : starEach (e :: es) X.env = (false, eval e X.env) :: starEach es X.env := by rfl) (hpl : (backTo pos (starEach es X.env)).any (·.1) = false := by rfl) :
    PMk X (.Call (.Name x p) (e :: es) [] pos) (tMkO C sp [] ta) := by
  intro pins s σ H Q I h
  refine wpAny_Call_Name_kw (ld_glob I hg hm ?_ hdb)
  refine PySem.W.callWith_K (h₀ := X.base) I.ok.mod.kin T.kC (thn (ha.run pos pins s σ H _ I h) fun us s1 hh => ?_) he hpl
  obtain ⟨vs, H1, I1, r1, hz, q1⟩ := hh
  refine ⟨I1.kIn, ?_⟩
  show wpAny _ _ (call (.ref C) us) _ _ _
  obtain ⟨nm, N, qn, bs, bm, hdct, sn, sub, ab, col, dd, k0, k1, k2, k3, k5, hC, hT⟩ := PySem.W.excInit_of I1.kIn T.ini
  obtain ⟨h0, g, dr, tk, os⟩ := s1
  obtain ⟨a, haa⟩ : ∃ a, a = h0.objs.size + 1 := ⟨_, rfl⟩
  have lo : h0.objs.size ≤ a := by rw [haa]; exact Nat.le_succ _
  have fresh : H1 a = none := I1.hok.fresh lo
  obtain ⟨G, hG⟩ : ∃ G, G = (h0.push (PySem.W.kdv_tup us)).push (PySem.HandSPX.excO C h0.objs.size) := ⟨_, rfl⟩
  have keep : ∀ b o, h0.get? b = some o → G.get? b = some o := fun b o z => by
    rw [hG]
    exact Heap.get?_push_of_some _ (Heap.get?_push_of_some _ z)
  have gA : G.get? a = some (PySem.HandSPX.excO C h0.objs.size) := by
    rw [hG, haa]
    heap_get
  have I2 : Inv X pins σ (upd H1 a (exo a C none)) ⟨G, g, dr, tk, os⟩ := I1.laid (t' := tk) (a := a) (o := exo a C none) (h' := G) keep lo (exo_ok gA)
  have want := q1 a fresh
  have r2 : Vals (V.ref a :: (vs ++ [])) (Value.ref a :: us) := .cons rfl (by rw [List.append_nil]; exact r1)
  have cnt : (Value.ref a :: us ++ []).length = ps.length := by
    rw [← F1.len _ _ _ _ want, List.append_nil]
    exact r2.length.symm
  have b2 := hb ⟨G, g, dr, tk, os⟩ (Value.ref a :: us) I2.kIn cnt
  rw [List.append_nil] at b2
  have few : us.length ≤ sizeLine := by
    rw [← Paired.length r1, sizeLine_eq]
    omega
  refine wpAny_call (PySem.HandSPX.call_own T.F hT hC (PySem.W.looks_findIn I1.kIn T.iC) (fun self => PySem.W.bind_fn I1.kIn self T.tI) few ?_)
  rw [← hG, ← haa]
  refine codeAny_mono (F1.run _ X.stack _ _ ⟨Value.ref a :: us, []⟩ (Value.ref a :: us) _ _ (fun _ _ _ => False) (hr.make C us []) (I2.env0.make C us []) b2 r2 want) fun r s' back => ?_
  match r, back with
  | .error er, back => exact hx pins σ _ _ er s' I2 back
  | .ok .next, back => exact back.elim
  | .ok .brk, back => exact back.elim
  | .ok .cont, back => exact back.elim
  | .ok (.ret u), back =>
    obtain ⟨v, H2, os2, bare2, un2, hok2, rv, ev, d, fs, ea, ed, hd1, q2⟩ := back
    subst ev
    obtain ⟨h2, g2, d2, t2, os'⟩ := s'
    exact ⟨rv, mk_end (raises_own T.exC T.tyC) I1 lo keep un2 hok2 os2 bare2 ea ed hd1 q2⟩
end
/-! an error kept as a value: its class, its own dict -/
def ExV (cls : Value) (d : Option Addr) (a : Addr) : HO := .ext fun h => ∃ (oe : Obj) (vs : Array Value), h.get? a = some oe ∧ Zc cls d oe ∧ oe.data = .fields vs
theorem exV_ok {P : Program} {w : World} {H : Hp} {h : Heap} {a : Addr} {cls : Value} {d : Option Addr} {oe : Obj} {vs : Array Value} (e : h.get? a = some oe) (z : Zc cls d oe) (hd : oe.data = .fields vs) : ObjOk P w H h a (ExV cls d a) :=
  ⟨⟨oe, vs, e, z, hd⟩, ⟨oe, e⟩, fun _ _ ⟨o, v, q, r⟩ k => ⟨o, v, k o q, r⟩⟩
theorem exV_at {P : Program} {w : World} {H : Hp} {h : Heap} {a : Addr} {cls : Value} {d : Option Addr} (hok : HOk P w H h) (e : H a = some (ExV cls d a)) : ∃ (oe : Obj) (vs : Array Value), h.get? a = some oe ∧ Zc cls d oe ∧ oe.data = .fields vs := by
  have x : ObjOk P w H h a (.ext fun h => ∃ (oe : Obj) (vs : Array Value), h.get? a = some oe ∧ Zc cls d oe ∧ oe.data = .fields vs) := hok a _ e
  exact x.1
section
variable {X : Cx} {pins : List (Addr × Obj)} {σ σ0 : L2.St} {H H0 : Hp} {s s0 : Shared} {a : Addr} {o : HO}
/-- what stands there, and was not there before, is tracked from now on -/
theorem track (I : Inv X pins σ H s) (I0 : Inv X pins σ0 H0 s0) (n0 : s0.heap.get? a = none) (hn : H a = none) (new : ObjOk X.prog X.w (upd H a o) s.heap a o) : Inv X pins σ (upd H a o) s := by
  have nb : ∀ {b : Addr} {u : Obj}, s0.heap.get? b = some u → b ≠ a := fun z w => by
    rw [w, n0] at z
    cases z
  have nt : ∀ {b : Addr} {u : HO}, H b = some u → b ≠ a := fun z => ne_of_none z hn
  refine ⟨I.ok, I.os, I.bare, ⟨I.base.keep, I.base.slot, fun b u z n hx => ?_, I.base.there, fun b xs z => ?_, fun b u v z => ?_, fun b ps z => ?_⟩, I.loc, I.cell, ?_, fun x c z => ?_, fun p hp => ?_, fun b u z => ?_, I.len⟩
  · obtain ⟨u', z'⟩ := I0.base.there b u z hx
    rw [upd_ne (nb z')]
    exact I.base.free b u z n hx
  · have := I.base.tups b xs z
    rw [upd_ne (nt this)]
    exact this
  · have := I.base.frzs b u v z
    rw [upd_ne (nt this)]
    exact this
  · obtain ⟨more, this⟩ := I.base.tbls b ps z
    exact ⟨more, by rw [upd_ne (nt this)]; exact this⟩
  · obtain ⟨m, hm, _⟩ := I0.loc
    obtain ⟨ob, _, _, e, _⟩ := hm
    rw [upd_ne (nb e)]
    exact I.free
  · obtain ⟨v, ob, e, _⟩ := I0.cell x c z
    rw [upd_ne (nb e)]
    exact I.freeC x c z
  · obtain ⟨h1, h2, h3⟩ := I.pin p hp
    exact ⟨h1, by rw [upd_ne (nb (I0.pin p hp).1)]; exact h2, h3⟩
  · by_cases w : b = a
    · subst w
      rw [upd_same] at z
      cases z
      exact new
    · rw [upd_ne w] at z
      exact (I.hok b u z).stay (fun c v hc q => q) (fun c hc => by rw [upd_ne (nt hc)]; exact hc) fun c xs hc => by rw [upd_ne (nt hc)]; exact hc
end
/-- C(e) as a value -/
def tVal (t : L2.St → Hp → XK → Prop) : TE := fun σ H Q => t σ H fun cls d H' => ∀ a, H' a = none → Q (.ref a) (upd H' a (ExV cls d a))
theorem pe_mkV {X : Cx} {e : Expr} {t : L2.St → Hp → XK → Prop} (he : PMk X e t) : PE X e (tVal t) := by
  refine ⟨fun pins s σ H Q I h => thn (he pins s σ H _ I h) fun u s1 hh => ?_⟩
  obtain ⟨a, oe, vs, sI, H', cls, d, eu, J, keep, n0, ha, hz, hd, h1, na, os, ag, r, q⟩ := hh
  have J1 := J.landed (B := sI.heap) (fun _ _ z _ => z) keep (Heap.UpToSlots.of_keeps keep) os ag
  subst eu
  exact ⟨.ref a, _, track J1 J n0 na (exV_ok ha hz hd), rfl, q a na⟩
/-! its field, its class -/
def tFldE (K : PySem.W.Frag) (f : Str) (te : TE) : TE := fun σ H Q => te σ H fun x H1 => ∃ (a C d : Addr) (fs : List (Str × V)) (v : V), x = .ref a ∧ XfC K C ∧ PySem.W.findIn K (.ref C) f = some none ∧ H1 a = some (ExV (.ref C) (some d) a) ∧ H1 d = some (.xd fs) ∧ fs.lookup f = some v ∧ Q v H1
theorem pe_fldE {X : Cx} {e : Expr} {te : TE} {pos : Pos} {n : Str} (he : PE X e te) (hb : attributeBase e n X.env (eval e X.env) = eval e X.env := by rfl) : PE X (.Attribute e n pos) (tFldE X.K n te) := by
  refine ⟨fun pins s σ H Q I h => attr_of hb (thn (he.run pins s σ H _ I h) fun u s1 hh => ?_)⟩
  obtain ⟨x, H1, I1, rx, a, C, d, fs, v, ex, T, hno, ea, ed, l, q⟩ := hh
  subst ex
  obtain rfl : u = Value.ref a := rx
  obtain ⟨oe, vs, ha, hz, hd⟩ := exV_at I1.hok ea
  have hx : ObjOk X.prog X.w H1 s1.heap d (.xd fs) := I1.hok d _ ed
  obtain ⟨mA, hns, hr⟩ := hx
  obtain ⟨od, ho, hl⟩ := lookIn_ns hns
  obtain ⟨u, hu, ru⟩ := RelO.some_of (v := v) (o := mA n) (by rw [← l]; exact hr n)
  have J : PySem.W.InstAt s1.heap a oe C (some od) := by
    refine ⟨ha, hz.1, ?_, ?_⟩
    · unfold PySem.W.notCls
      rw [hd]
    · rw [hz.2]
      exact ho
  exact PySem.HandSPX.exc_get I1.kIn J T.ga T.gg T.exC (PySem.W.findObj_own T.hdC hno rfl (by rw [hl, hu])) (handed_of ru) ⟨v, H1, I1.tok _, ru, q⟩
end Wn
/-! errors caught and kept; isinstance of such -/
namespace Wn
open PySem PySem.Spec PyProof.Rows L2
/-- what isinstance asks of the class C of an error -/
structure IsC (K : PySem.W.Frag) (C : Addr) : Prop where
  cl : (PySem.W.clsIn K C).isSome = true
  ga : PySem.W.findIn K (.ref C) "__getattribute__" = some (some (.builtin "BaseException.__getattribute__"))
  gg : PySem.W.findIn K (.ref C) "__getattr__" = some none
  exC : PySem.W.subIn K (.ref C) (.type "BaseException") = some true
  ha : PySem.W.findIn K (.ref C) "__class__" = some (some (.builtin "object.__class__"))
  hn : PySem.W.specialIn K (.builtin "object.__class__") "__get__" = some (some (.builtin "getset_descriptor.__get__"))
  ht : PySem.W.takesIn K (.builtin "object.__class__") = some true
  mr : PySem.W.mroIn K C (.type "object") = some true
def rIsV (K : PySem.W.Frag) : List V → Hp → VK → Prop := fun xs H Q => ∃ (a C d : Addr) (fs : List (Str × V)) (c : V) (cv : Value) (b : Bool), xs = [.ref a, c] ∧ IsC K C ∧ H a = some (ExV (.ref C) (some d) a) ∧ H d = some (.xd fs) ∧ (∀ u, RelV c u → u = cv) ∧ PySem.W.kitOne K (.ref C) cv = some b ∧ Q (.bl b) H
theorem call_isV {X : Cx} : CallR X (.builtin "isinstance") (rIsV X.K) := by
  intro pins s σ H xs us Q I r h
  obtain ⟨a, C, d, fs, c, cv, b, rfl, T, ea, ed, hcv, e, q⟩ := h
  obtain ⟨oe, vs, ha, hz, hd⟩ := exV_at I.hok ea
  have hx : ObjOk X.prog X.w H s.heap d (.xd fs) := I.hok d _ ed
  obtain ⟨mA, hns, hr⟩ := hx
  obtain ⟨od, ho, hl⟩ := lookIn_ns hns
  have J : PySem.W.InstAt s.heap a oe C (some od) := by
    refine ⟨ha, hz.1, ?_, ?_⟩
    · unfold PySem.W.notCls
      rw [hd]
    · rw [hz.2]
      exact ho
  cases r with
  | cons rx rr =>
    cases rr with
    | cons rt rr =>
      cases rr
      cases rx
      have ec := hcv _ rt
      subst ec
      exact PySem.W.kia_one (PySem.W.kitx_exc T.cl T.ga T.gg T.exC T.ha T.hn T.ht T.mr) I.kIn J e (fun z => nomatch z) fun tk => ⟨.bl b, H, I.kept (t' := tk) fun _ _ z => z, rfl, q⟩
/-! try: body, except (A, B, C) as n: m = n; what was caught is kept in m -/
/-- what the three names of a tuple of classes hold -/
structure Names3 (X : Cx) (x1 x2 x3 : Str) (c1 c2 c3 : Addr) : Prop where
  n1 : Gl X x1 ∧ (x1 == ("__debug__" : Str)) = false ∧ X.mg x1 = some (.ref c1)
  n2 : Gl X x2 ∧ (x2 == ("__debug__" : Str)) = false ∧ X.mg x2 = some (.ref c2)
  n3 : Gl X x3 ∧ (x3 == ("__debug__" : Str)) = false ∧ X.mg x3 = some (.ref c3)
def wKeep (K : PySem.W.Frag) (cs : List Value) (i j : Nat) (D : Ends) : WX := fun cls d σ H =>
  PySem.W.exmAny K cls cs = some true ∧ ∀ a, H a = none → D.nx ((σ.set j (some (.ref a))).set i none) (upd H a (ExV cls d a))
theorem flying_keep {B h h' : Heap} {l : List Env} {a : Addr} {Z : Obj → Prop} (k : ∀ b o, h.get? b = some o → h'.get? b = some o) (f : PySem.HandSPX.FlyingZ B l a Z h) : PySem.HandSPX.FlyingZ B l a Z h' := by
  obtain ⟨f1, f2, f3, oe, vs, T, oT, ts, e1, e2, e3, e4, e5, e6, e7, e8, e9⟩ := f
  exact ⟨fun b o z => k b o (f1 b o z), f2, Heap.FunFrames.of_keeps (fun b o z _ => ⟨o, k b o z, rfl⟩) f3, oe, vs, T, oT, ts, k _ _ e1, e2, e3, e4, e5, e6, k _ _ e7, e8, e9⟩
section
variable {X : Cx} {x1 x2 x3 n m : Str} {c1 c2 c3 : Addr} {i j : Nat} {body : List Stmt} {q1 q2 q3 qt qm qn pa pos pos' : Pos} {kt : Nat} {tb : WX → TS}
theorem ps_try_keep (hs : X.stack = X.env :: X.outer) (hf : X.env.frame = some X.env.locals) (hN : X.N.Nodup) (hi : X.N[i]? = some n) (hj : X.N[j]? = some m) (hij : i ≠ j) (hln : X.env.kindOf n = some .local) (hlm : X.env.kindOf m = some .local) (hc : Names3 X x1 x2 x3 c1 c2 c3)
    (hb : ∀ (W : WX) (pn : List (Addr × Obj)) (xe : Value → Shared → Prop), Takes (X.tr pn xe) W → PassesOwn (model X.prog X.w) X.A X.env xe → PSs (X.tr pn xe) body (tb W))
    (hsw : swapsWith (.Name n qn) (some (.Name m qm)) pa.line X.env = pure false := by rfl) (hdn : (n == ("__debug__" : Str)) = false := by decide) (hcn : (n == ("__classdict__" : Str)) = false := by decide) :
    PS X (.Try body [.ExceptHandler (some (.Tuple [.Name x1 q1, .Name x2 q2, .Name x3 q3] kt qt)) (some n) [.Assign [.Name m qm] (.Name n qn) pa] pos'] [] [] pos) (fun D σ H => tb (wKeep X.K [.ref c1, .ref c2, .ref c3] i j D) D σ H) := by
  refine ⟨fun pins s σ H D I h => ?_⟩
  have ok := I.ok
  have hfr : X.A.frames = some (X.env :: X.outer) := by rw [ok.frames, hs]
  have hloc : Loc X.env.scope n := .inl hln
  have hlocm : Loc X.env.scope m := .inl hlm
  refine wpAny_Try_except ?_
  refine wpAny_mono ((hb (wKeep X.K [.ref c1, .ref c2, .ref c3] i j D) (X.pn ++ pins) (fun e s₁ => wpAny (model X.prog X.w) X.A (noteFrame e X.env) (fun _ s₂ => wpAny (model X.prog X.w) X.A (setFlight e none) (fun _ s₃ =>
    wpAny (model X.prog X.w) X.A (handleBy e X.env [.ExceptHandler (some (.Tuple [.Name x1 q1, .Name x2 q2, .Name x3 q3] kt qt)) (some n) [.Assign [.Name m qm] (.Name n qn) pa] pos']) (SP X pins D) X.xe s₃) X.xe s₂) X.xe s₁) (fun u s' xx => ?_) PassesOwn.looking).run [] s σ H D (I.toTry _) h) (fun f s1 hsp => ?_) (fun e s1 he => he)
  · obtain ⟨a, B, sI, pins', σ', H', cls, d, rfl, J', nb, up, sky, na, os, ag, hb1, hyes⟩ := xx
    have J : Inv X pins σ' H' sI := J'.ofTry ok
    have sky2 : Sky B (X.env :: X.outer) a (Zc cls d) X.env.locals s'.heap := by
      rw [← hs]
      exact sky
    show wpAny (model X.prog X.w) X.A (noteFrame (.ref a) X.env) _ _ _
    refine Sky.land Zc.steady hfr hf sky2 fun h3 fl3 up3 => ?_
    have J3 : Inv X pins σ' H' { s' with heap := h3 } := J.landed nb fl3.1 (up.trans up3) os ag
    obtain ⟨oe3, vs3, he3, hz3, hd3⟩ := fl3.there
    have nfr : a ∉ frs (X.env :: X.outer) := fun hm => by
      obtain ⟨_, o', e', hnf⟩ := fl3.2.2.1.mem hm
      rw [he3] at e'
      cases e'
      exact hnf _ hd3
    have nL : a ≠ X.env.locals := fun z => nfr (List.mem_filterMap.mpr ⟨X.env, List.mem_cons_self, by rw [hf, z]⟩)
    have nF : a ∉ X.fs := fun hm => by
      obtain ⟨e, he, q⟩ := List.mem_filterMap.mp hm
      exact nfr (List.mem_filterMap.mpr ⟨e, List.mem_cons_of_mem _ he, q⟩)
    have n0 : sI.heap.get? a = none := by
      cases z : sI.heap.get? a with
      | none => rfl
      | some o =>
        have := nb a o z (by rw [hs]; exact nfr)
        rw [fl3.2.1] at this
        cases this
    have S3 := J3.suite he3 hd3 na nL nF
    refine wpAny_handleBy_cons (codeAny_handlers_test ?_) (by intro q; cases q)
    have LT : PySem.W.Looks (model X.prog X.w) h3 (typeOf (.ref a)) cls := fun A Q E s k q => wpAny_typeOf_ref (k _ _ he3) (by rw [hz3.1]; exact q)
    refine wpAny_Tuple ?_
    refine wpAny_items_cons (ld_glob (X := X.suite a ((a, oe3) :: (X.pn ++ pins))) S3 hc.n1.1 hc.n1.2.2 ?_ hc.n1.2.1)
    refine wpAny_items_cons (ld_glob (X := X.suite a ((a, oe3) :: (X.pn ++ pins))) S3 hc.n2.1 hc.n2.2.2 ?_ hc.n2.2.1)
    refine wpAny_items_cons (ld_glob (X := X.suite a ((a, oe3) :: (X.pn ++ pins))) S3 hc.n3.1 hc.n3.2.2 ?_ hc.n3.2.1)
    refine wpAny_items_nil ⟨by size_fits, ?_⟩
    obtain ⟨G, hG⟩ : ∃ G, G = h3.push { cls := .type "tuple", data := .seq [.ref c1, .ref c2, .ref c3].toArray } := ⟨_, rfl⟩
    have kp : ∀ b o, h3.get? b = some o → G.get? b = some o := fun _ _ z => by
      rw [hG]
      exact Heap.get?_push_of_some _ z
    have gt : G.get? h3.objs.size = some { cls := .type "tuple", data := .seq [.ref c1, .ref c2, .ref c3].toArray } := by
      rw [hG]
      exact Heap.get?_push_size h3 rfl
    rw [← hG]
    refine (PySem.W.exm_tup3 (M := model X.prog X.w) (J3.kIn.keeps kp) (LT.keeps kp) gt hb1).here ?_
    have fl4 := flying_keep kp fl3
    have upG : h3.UpToSlots G := Heap.UpToSlots.of_keeps kp
    refine codeAny_handlers_suite_as ?_
    refine PySem.HandSPX.lands_againZ fl4 fun h4 fl5 up4 => ?_
    have J4 : Inv X pins σ' H' { s' with heap := h4 } := J.landed nb fl5.1 (((up.trans up3).trans upG).trans up4) os ag
    obtain ⟨oe4, vs4, he4, hz4, hd4⟩ := fl5.there
    have S4 := J4.suite he4 hd4 na nL nF
    refine store_ok (X := X.suite a ((a, oe4) :: (X.pn ++ pins))) (v := .ref a) S4 hN hi hloc rfl (fun s5 S5 => ?_) (.inr hln)
    have hp : PSs (X.suite a ((a, oe4) :: (X.pn ++ pins))) [.Assign [.Name m qm] (.Name n qn) pa] (tSeq (tAsg (tVar i) (gName j)) tNext) :=
      pss_cons (ps_set (X := X.suite a ((a, oe4) :: (X.pn ++ pins))) hN hj hlocm (pe_var (X := X.suite a ((a, oe4) :: (X.pn ++ pins))) hi (.inl hln) hdn hcn) hsw (.inr hlm)) pss_nil
    have hlen : i < σ'.length := by
      rw [J4.len]
      exact (List.getElem?_eq_some_iff.mp hi).1
    refine wpAny_mono (hp.run [] s5 _ H' { nx := fun σ6 H6 => H6 = H' ∧ σ6 = (σ'.set i (some (.ref a))).set j (some (.ref a)), rt := fun _ _ => False } S5 ⟨_, List.getElem?_set_self hlen, rfl, rfl⟩) (fun f s6 hsp => ?_) (fun _ _ z => False.elim z)
    cases f with
    | next =>
      obtain ⟨σ6, H6, S6, rfl, rfl⟩ := hsp
      have gA := (S6.pin (a, oe4) (List.mem_append_left _ List.mem_cons_self)).1
      have J6 := track (S6.unsuite ok) J n0 na (exV_ok (cls := cls) (d := d) gA hz4 hd4)
      refine gone_ok J6 hN hi hln fun s7 J7 => ⟨_, _, J7, ?_⟩
      have e1 : (((σ'.set i (some (V.ref a))).set j (some (V.ref a))).set i none) = ((σ'.set j (some (V.ref a))).set i none) := by
        rw [List.set_comm _ _ hij, List.set_set]
      rw [e1]
      exact hyes a na
    | brk =>
      obtain ⟨_, _, _, z⟩ := hsp
      exact False.elim z
    | cont =>
      obtain ⟨_, _, _, z⟩ := hsp
      exact False.elim z
    | ret u =>
      obtain ⟨_, _, _, _, _, z⟩ := hsp
      exact False.elim z
  · cases f with
    | next =>
      obtain ⟨σ', H', J', q⟩ := hsp
      exact wpAny_execs_nil ⟨σ', H', J'.ofTry ok, q⟩
    | brk =>
      obtain ⟨σ', H', J', q⟩ := hsp
      exact ⟨σ', H', J'.ofTry ok, q⟩
    | cont =>
      obtain ⟨σ', H', J', q⟩ := hsp
      exact ⟨σ', H', J'.ofTry ok, q⟩
    | ret u =>
      obtain ⟨v, σ', H', J', r, q⟩ := hsp
      exact ⟨v, σ', H', J'.ofTry ok, r, q⟩
end
end Wn
/-! a lambda handed to a def that calls it, without a parameter or with one that has a written default -/
namespace Wn
open PySem PySem.Spec PyProof.Rows L2 LamX
def clos (X : Cx) (scope : Scope) : List (Str × Addr) := cloFrom X.env.cells scope.names []
abbrev lamO (X : Cx) (params : Arguments) (body : Expr) (scope : Scope) (dV doc pm : Value) (c' : Addr) (ctv : Value) : Obj :=
  PySem.W.kdv_obj "<lambda>" (X.env.qual ++ "<lambda>") params (.expr body) scope (clos X scope) dV doc pm c' ctv
/-- the lambda's names: no cell of its own; its own parameter is no name of the def around -/
structure LamD (N : List Str) (sc scope : Scope) : Prop where
  kind : scope.kind = .function
  co : scope.isCoroutine = false
  gen : scope.isGenerator = false
  own : ∀ y ∈ scope.names, y.2 ≠ .cell ∧ (y.2 = .local → y.1 ∉ N)
  free : ∀ y ∈ scope.names, y.2 = .free → sc.names.lookup y.1 = some .cell ∨ sc.names.lookup y.1 = some .free
def lamDB (N : List Str) (sc scope : Scope) : Bool :=
  decide (scope.kind = .function) && !scope.isCoroutine && !scope.isGenerator && scope.names.all fun y => !decide (y.2 = .cell) && (!decide (y.2 = .local) || !decide (y.1 ∈ N)) && (!decide (y.2 = .free) || decide (sc.names.lookup y.1 = some .cell) || decide (sc.names.lookup y.1 = some .free))
theorem lamD_by {N : List Str} {sc scope : Scope} (h : lamDB N sc scope = true) : LamD N sc scope := by
  unfold lamDB at h
  simp only [Bool.and_eq_true, Bool.or_eq_true, Bool.not_eq_true', decide_eq_true_eq, decide_eq_false_iff_not, List.all_eq_true] at h
  obtain ⟨⟨⟨h1, h2⟩, h3⟩, h4⟩ := h
  refine ⟨h1, h2, h3, fun y hy => ⟨(h4 y hy).1.1, fun e => ?_⟩, fun y hy e => ?_⟩
  · rcases (h4 y hy).1.2 with z | z
    · exact absurd e z
    · exact z
  · rcases (h4 y hy).2 with (z | z) | z
    · exact absurd e z
    · exact .inl z
    · exact .inr z
theorem LamD.has {X : Cx} {scope : Scope} (L : LamD X.N X.env.scope scope) (ok : X.Ok) : ∀ y ∈ scope.names, y.2 = .free → ∃ c, X.env.cells.lookup y.1 = some c := fun y hy e =>
  (L.free y hy e).elim (fun k => ok.has _ (.inl k)) (fun k => ok.has _ (.inr k))
section
variable {X : Cx} {pins : List (Addr × Obj)} {σ : L2.St} {H : Hp} {s : Shared}
/-- the function is made: its code object is new, or found in the table -/
theorem mk_tail {M : Model} {A : Around} {T : List (Addr × Str)} {c P : Addr} {params : Arguments} {body : Expr} {scope : Scope} {pos : Pos} {dV : Value} {E : Value → Shared → Prop} {Q : Value → Shared → Prop} (I : Inv X pins σ H s) (TB : TabB X.base X.mg c P) (hcode : X.env.code = .ref c)
    (hm : (P, X.env.qual ++ "<lambda>") ∈ T) (hu : ∀ p ∈ T, p.1 = P → p.2 = X.env.qual ++ "<lambda>") (hT : Tabs T H) (hfree : ∀ y ∈ scope.names, y.2 = .free → ∃ c, X.env.cells.lookup y.1 = some c)
    (h : ∀ (f c' : Addr) (doc pm ctv : Value) (H1 : Hp) (s' : Shared), Inv X pins σ H1 s' → ExtN H H1 → Tabs T H1 → (∀ b o, b ≠ P → s.heap.get? b = some o → s'.heap.get? b = some o) → (∀ b, H b = none → b < s.heap.objs.size → H1 b = none) →
      s'.heap.get? f = some (lamO X params body scope dV doc pm c' ctv) → H1 f = none → f ∉ frs X.stack → H1 c' = some (CodeO c' (X.env.qual ++ "<lambda>")) → Q (.ref f) s') :
    wpAny M A (makeTail "<lambda>" (X.env.qual ++ "<lambda>") params (.expr body) scope X.env dV .none none pos pos.line) Q E s := by
  obtain ⟨ps, hP, ht, ha⟩ := hT _ hm
  have bP : s.heap.BuiltinsAt X.mg P := TB.bm.keeps I.bk
  have gP : s.heap.get? P = some { cls := .none, data := .fields ps } := I.hok P _ hP
  have off : ∀ f, s.heap.objs.size ≤ f → f ∉ frs X.stack := fun f hf z => by
    rcases List.mem_cons.mp (I.stkSub _ z) with e | e
    · have h1 := I.lt
      rw [← e] at h1
      exact Nat.lt_irrefl _ (Nat.lt_of_lt_of_le h1 hf)
    · exact I.nofs hf e
  cases hc : codeAmong pos ps.toList with
  | some cv =>
    obtain ⟨c', e, hco⟩ := ha pos cv hc
    subst e
    refine PySem.W.kdv_makeTailHit (mg := X.mg) (c := c) (P := P) (ps := ps) (closure_ok hfree) I.ok.glob (I.mod.glob.keeps I.bk) hcode (TB.code.keeps I.bk) gP ht hc bP fun ctv doc h' tk hx hsz => ?_
    have I1 : Inv X pins σ H { s with heap := h'.push (lamO X params body scope dV doc ((X.mg "__name__").getD .none) c' ctv), toks := tk } := I.kept fun b o e => Heap.get?_push_of_some _ (hx b o e)
    exact h h'.objs.size c' doc ((X.mg "__name__").getD .none) ctv H _ I1 (ExtN.refl H) hT (fun b o _ e => Heap.get?_push_of_some _ (hx b o e)) (fun b z _ => z) (Heap.get?_push_size _ rfl) (I.hok.fresh hsz) (off _ hsz) hco
  | none =>
    refine PySem.W.kdv_makeTail (mg := X.mg) (c := c) (P := P) (ps := ps) (closure_ok hfree) I.ok.glob (I.mod.glob.keeps I.bk) hcode (TB.code.keeps I.bk) gP ht hc TB.gP bP fun c' ctv doc h' tk hx hge hlt hrec htb => ?_
    obtain ⟨c2, oc, vs, t, e2, hoc, hd, hv⟩ := hrec
    cases e2
    have grow : s.heap.objs.size ≤ h'.objs.size := Nat.le_trans hge (Nat.le_of_lt hlt)
    have nC : H c' = none := I.hok.fresh hge
    obtain ⟨F0, hF0⟩ : ∃ F0, F0 = lamO X params body scope dV doc ((X.mg "__name__").getD .none) c' ctv := ⟨_, rfl⟩
    have I1 := inv_table (t' := tk) (more := #[rawInt pos.line, rawInt pos.col, .ref c']) (h' := h'.push F0) I hP
      (fun b o hb e => Heap.get?_push_of_some _ (hx b o hb e)) (Heap.get?_push_of_some _ htb) hge ⟨oc, vs, t, Heap.get?_push_of_some _ hoc, hd, hv⟩
    have far : ∀ {b : Addr} {o : HO}, H b = some o → (∀ ps, o ≠ .tbl ps) → b ≠ P := fun e n z => by
      rw [z, hP] at e
      exact n ps (Option.some.inj e).symm
    have ext : ExtN H (upd (upd H P (.tbl (ps ++ #[rawInt pos.line, rawInt pos.col, .ref c']))) c' (CodeO c' (X.env.qual ++ "<lambda>"))) := fun b o e n => by
      rw [upd_ne (ne_of_none e nC), upd_ne (far e n)]
      exact e
    have lst : (ps ++ #[rawInt pos.line, rawInt pos.col, .ref c']).toList = ps.toList ++ [rawInt pos.line, rawInt pos.col, .ref c'] := by simp
    subst hF0
    refine h h'.objs.size c' doc ((X.mg "__name__").getD .none) ctv _ _ I1 ext (fun p hp => ?_) (fun b o hb e => Heap.get?_push_of_some _ (hx b o hb e)) (fun b z lt => ?_) (Heap.get?_push_size _ rfl) ?_ (off _ grow) upd_same
    · by_cases hb : p.1 = P
      · rw [hu p hp hb, hb]
        refine ⟨_, by rw [upd_ne (ne_of_none hP nC), upd_same], by rw [lst]; exact PySem.TriplesOk_snoc _ _ _ _ ht, fun p' cv hcv => ?_⟩
        rw [lst] at hcv
        rcases among_app _ ht hcv with z | z
        · obtain ⟨c0, e1, e2⟩ := ha p' cv z
          exact ⟨c0, e1, ext _ _ e2 codeO_ne⟩
        · exact ⟨c', z, upd_same⟩
      · obtain ⟨ps', a1, a2, a3⟩ := hT p hp
        refine ⟨ps', by rw [upd_ne (ne_of_none a1 nC), upd_ne hb]; exact a1, a2, fun p' cv hcv => ?_⟩
        obtain ⟨c0, e1, e2⟩ := a3 p' cv hcv
        exact ⟨c0, e1, ext _ _ e2 codeO_ne⟩
    · have n1 : b ≠ c' := Nat.ne_of_lt (Nat.lt_of_lt_of_le lt hge)
      have n2 : b ≠ P := fun w => by
        rw [w, hP] at z
        cases z
      rw [upd_ne n1, upd_ne n2]
      exact z
    · have n1 : h'.objs.size ≠ c' := Nat.ne_of_gt hlt
      have n2 : h'.objs.size ≠ P := Nat.ne_of_gt (Nat.lt_of_lt_of_le (Heap.lt_size gP) grow)
      rw [upd_ne n1, upd_ne n2]
      exact I.hok.fresh grow
/-- what is made of the lambda: objects that stay, the function at f among them -/
structure Made (X : Cx) (H1 : Hp) (s' : Shared) (params : Arguments) (body : Expr) (scope : Scope) (f c' : Addr) (dV doc pm ctv : Value) (D : List (Addr × Obj)) : Prop where
  at_ : (f, lamO X params body scope dV doc pm c' ctv) ∈ D
  there : ∀ p ∈ D, s'.heap.get? p.1 = some p.2 ∧ H1 p.1 = none ∧ p.1 ∉ frs X.stack
  code : H1 c' = some (CodeO c' (X.env.qual ++ "<lambda>"))
  binds : ∃ bs : List (Str × Value), (∀ s2 : Shared, (∀ p ∈ D, s2.heap.get? p.1 = some p.2) → BindsTo s2 (PySem.W.kdv_fn "<lambda>" (X.env.qual ++ "<lambda>") params (.expr body) scope (clos X scope) dV doc pm (.ref c') ctv) ⟨[], []⟩ bs) ∧ ∀ y ∈ bs, scope.names.lookup y.1 = some .local
/-- lambda: e -/
theorem lam_plain {T : List (Addr × Str)} {c P : Addr} {params : Arguments} {body : Expr} {scope : Scope} {pos : Pos} {E : Value → Shared → Prop} {Q : Value → Shared → Prop} (I : Inv X pins σ H s) (TB : TabB X.base X.mg c P) (hcode : X.env.code = .ref c)
    (hm : (P, X.env.qual ++ "<lambda>") ∈ T) (hu : ∀ p ∈ T, p.1 = P → p.2 = X.env.qual ++ "<lambda>") (hT : Tabs T H) (hdef : defaultsOf params X.env = ([], [])) (hfree : ∀ y ∈ scope.names, y.2 = .free → ∃ c, X.env.cells.lookup y.1 = some c)
    (hbind : ∀ (q : Str) (cl : List (Str × Addr)) (doc pm cv ctv : Value), bindArgs (PySem.W.kdv_fn "<lambda>" q params (.expr body) scope cl .none doc pm cv ctv) ⟨[], []⟩ = pure [])
    (h : ∀ (f c' : Addr) (dV doc pm ctv : Value) (D : List (Addr × Obj)) (H1 : Hp) (s' : Shared), Inv X pins σ H1 s' → ExtN H H1 → Tabs T H1 → Made X H1 s' params body scope f c' dV doc pm ctv D → Q (.ref f) s') :
    wpAny (model X.prog X.w) X.A (eval (.Lambda params body scope pos) X.env) Q E s := by
  refine PySem.W.kla_eval hdef ?_
  rw [makeFunction_eq]
  simp only [List.zip_nil_right, List.filterMap_nil, List.isEmpty_nil, if_true, pure_bind]
  refine mk_tail I TB hcode hm hu hT hfree fun f c' doc pm ctv H1 s' I1 eN T1 _ _ hf hfn hfr hco => ?_
  refine h f c' .none doc pm ctv [(f, lamO X params body scope .none doc pm c' ctv)] H1 s' I1 eN T1 ⟨List.mem_cons_self, fun p hp => ?_, hco, [], fun s2 _ => .of_eq (hbind _ _ _ _ _ _), fun y hy => absurd hy (by simp)⟩
  rw [List.mem_singleton] at hp
  subst hp
  exact ⟨hf, hfn, hfr⟩
/-- lambda a=0: e -/
theorem lam_dflt {T : List (Addr × Str)} {c P : Addr} {params : Arguments} {body : Expr} {scope : Scope} {pos p0 : Pos} {j0 : Nat} {n : Int} {x : Str} {E : Value → Shared → Prop} {Q : Value → Shared → Prop} (I : Inv X pins σ H s) (TB : TabB X.base X.mg c P) (hcode : X.env.code = .ref c)
    (hm : (P, X.env.qual ++ "<lambda>") ∈ T) (hu : ∀ p ∈ T, p.1 = P → p.2 = X.env.qual ++ "<lambda>") (hT : Tabs T H) (hkw : params.kwonlyargs = []) (hdef : defaultsOf params X.env = ([eval (.Constant (.int n) j0 p0) X.env], [])) (hfree : ∀ y ∈ scope.names, y.2 = .free → ∃ c, X.env.cells.lookup y.1 = some c)
    (hbind : ∀ (q : Str) (cl : List (Str × Addr)) (T0 : Addr) (doc pm cv ctv v : Value), ∃ k, bindArgs (PySem.W.kdv_fn "<lambda>" q params (.expr body) scope cl (.ref T0) doc pm cv ctv) ⟨[], []⟩ = seqItems? (.ref T0) >>= k ∧ k (some #[v]) = pure [(x, v)]) (hloc : scope.names.lookup x = some .local)
    (hE : ∀ e s, X.xe e s → E e s)
    (h : ∀ (f c' : Addr) (dV doc pm ctv : Value) (D : List (Addr × Obj)) (H1 : Hp) (s' : Shared), Inv X pins σ H1 s' → ExtN H H1 → Tabs T H1 → Made X H1 s' params body scope f c' dV doc pm ctv D → Q (.ref f) s') :
    wpAny (model X.prog X.w) X.A (eval (.Lambda params body scope pos) X.env) Q E s := by
  rw [arm_eval_Lambda, hdef]
  show wpAny _ _ (do let dv ← evalAll [eval (.Constant (.int n) j0 p0) X.env]; let kdv ← holding dv (evalAllOpt []); makeFunction "<lambda>" (X.env.qual ++ "<lambda>") params (.expr body) scope X.env dv kdv [] pos pos.line) Q E s
  have hc : PE X (.Constant (.int n) j0 p0) (tC (.int n)) := pe_int
  refine wpAny_bind ?_
  unfold evalAll
  refine wpAny_bind (wpAny_mono (hc.run pins s σ H (fun v H' => v = .int n ∧ H' = H) I ⟨rfl, rfl⟩) (fun u s1 hh => ?_) hE)
  obtain ⟨v, H', I1, r1, rfl, rfl⟩ := hh
  unfold evalAll
  refine wpAny_bind (wpAny_holding (wpAny_pure (wpAny_pure (wpAny_bind (wpAny_holding (wpAny_pure ?_))))))
  rw [makeFunction_eq, hkw]
  simp only [List.zip_nil_right, List.zip_nil_left, List.filterMap_nil, List.isEmpty_nil, List.isEmpty_cons, if_true, Bool.false_eq_true, if_false, pure_bind]
  refine wpAny_bind (wpAny_newTextTuple ?_)
  obtain ⟨T0, hT0⟩ : ∃ T0, T0 = s1.heap.objs.size := ⟨_, rfl⟩
  have I2 : Inv X pins σ H' { s1 with heap := s1.heap.push (PySem.W.kdv_tup [u]) } := I1.kept fun b o e => Heap.get?_push_of_some _ e
  have g0 : (s1.heap.push (PySem.W.kdv_tup [u])).get? T0 = some (PySem.W.kdv_tup [u]) := by
    rw [hT0]
    exact Heap.get?_push_size _ rfl
  have z0 : H' T0 = none := I1.hok.fresh (Nat.le_of_eq hT0.symm)
  have nf : T0 ∉ frs X.stack := fun z => by
    rcases List.mem_cons.mp (I1.stkSub _ z) with e | e
    · have h1 := I1.lt
      rw [← e, hT0] at h1
      exact Nat.lt_irrefl _ h1
    · exact I1.nofs (Nat.le_of_eq hT0.symm) e
  rw [← hT0]
  obtain ⟨ps, hP, _, _⟩ := hT _ hm
  have nP : T0 ≠ P := fun w => by
    rw [w, hP] at z0
    cases z0
  refine mk_tail I2 TB hcode hm hu hT hfree fun f c' doc pm ctv H1 s' I3 eN T1 kp low hf hfn hfr hco => ?_
  have g1 := kp T0 _ nP g0
  have z1 : H1 T0 = none := low T0 z0 (by
    show T0 < (s1.heap.push _).objs.size
    rw [Heap.size_push, hT0]
    exact Nat.lt_succ_self _)
  refine h f c' (.ref T0) doc pm ctv [(f, lamO X params body scope (.ref T0) doc pm c' ctv), (T0, PySem.W.kdv_tup [u])] H1 s' I3 eN T1 ⟨List.mem_cons_self, fun p hp => ?_, hco, [(x, u)], fun s2 k2 => ?_, fun y hy => ?_⟩
  · rcases List.mem_cons.mp hp with e | e
    · subst e
      exact ⟨hf, hfn, hfr⟩
    · rw [List.mem_singleton] at e
      subst e
      exact ⟨g1, z1, nf⟩
  · obtain ⟨k, b1, b2⟩ := hbind (X.env.qual ++ "<lambda>") (clos X scope) T0 doc pm (.ref c') ctv u
    exact BindsTo.of_defaults (o := PySem.W.kdv_tup [u]) rfl (k2 (T0, _) (by simp)) rfl b1 b2
  · rw [List.mem_singleton] at hy
    subst hy
    exact hloc
end
end Wn
namespace Wn
open PySem PySem.Spec PyProof.Rows L2 LamX
section
variable {X : Cx} {pins : List (Addr × Obj)} {σ : L2.St} {H HZ : Hp} {s s1 : Shared}
/-- the lambda's body begins: bs its own names -/
theorem lamW_start {A : Around} {outer : List Env} {E : XK} {scope : Scope} {f c' : Addr} {h1 : Heap} {tk : Nat} {bs : List (Str × Value)} (I : Inv X pins σ H s) (L : LamD X.N X.env.scope scope) (e0 : Env0 X.prog X.w X.K X.mg X.base A outer s1 HZ) (hd : A.handled = none)
    (un : Un (frs X.stack) [] H HZ s.heap s1.heap) (hns : h1.Ns s1.heap.objs.size fun y => bs.reverse.lookup y) (kp : ∀ b o, s1.heap.get? b = some o → h1.get? b = some o) :
    Inv (lamCx X A outer s1 HZ E scope f c') [] σ HZ { s1 with heap := h1, toks := tk } := by
  have hfree := L.has I.ok
  have up : ∀ {y c}, (cloFrom X.env.cells scope.names []).lookup y = some c → X.env.cells.lookup y = some c := fun {y c} e => by
    rcases cloFrom_mem (PySem.mem_of_lookup e) with z | ⟨z1, z2⟩
    · cases z
    · obtain ⟨c1, hc⟩ := hfree _ z1 rfl
      have hc : X.env.cells.lookup y = some c1 := hc
      rw [show c = c1 by rw [z2, hc] <;> rfl]
      exact hc
  have down : ∀ {y}, scope.names.lookup y = some .free → ∃ c, (cloFrom X.env.cells scope.names []).lookup y = some c := fun {y} hl => by
    have hy : (y, NameKind.free) ∈ scope.names := PySem.mem_of_lookup hl
    exact mem_lookup (cloFrom_has (cells := X.env.cells) (acc := []) hy)
  have cellK : ∀ {c : Addr} {v : Option Value}, H c = none → s.heap.IsCell c v → h1.IsCell c v := fun {c v} n ⟨o, ho, hd⟩ => by
    obtain ⟨sl, q⟩ := un.any ho n (by simp)
    exact ⟨_, kp _ _ q, hd⟩
  have ex0 : ∀ b : Addr, b ∉ (lamCx X A outer s1 HZ E scope f c').ex := fun b z => absurd (show b ∈ ([] : List Addr) from z) (by simp)
  refine ⟨⟨e0.mod, L.kind, rfl, rfl, Nat.le_refl _, fun y z c e1 e2 => I.ok.inj y z c (up e1) (up e2), fun y hy => ?_, fun y c z _ => ?_, fun _ => hd, Around.frames_deeper e0.frames, .inr ⟨rfl, rfl⟩, fun b z => absurd z (ex0 b), e0.bs, e0.bsz, fun b _ _ => ex0 b,
      fun b z => absurd z (ex0 b), e0.funs, e0.frf⟩,
    rfl, e0.bare, Un.kept kp, ⟨_, hns, fun i y v e1 e2 e3 => ?_⟩, fun y c e => ?_, e0.hok.fresh (Nat.le_refl _), fun y c e => ?_, fun q hq => absurd (show q ∈ ([] : List (Addr × Obj)) ++ [] from hq) (by simp), e0.hok.kept kp, I.len⟩
  · have hy : scope.names.lookup y = some .cell ∨ scope.names.lookup y = some .free := hy
    rcases hy with hy | hy
    · exact absurd rfl (L.own _ (PySem.mem_of_lookup hy)).1
    · exact down hy
  · have z : false = true := z
    cases z
  · have e3 : Vis scope y := e3
    rcases e3 with k | k | k
    · exact absurd (List.mem_iff_getElem?.mpr ⟨i, e1⟩) ((L.own _ (PySem.mem_of_lookup k)).2 rfl)
    · exact absurd rfl (L.own _ (PySem.mem_of_lookup k)).1
    · obtain ⟨m, hn, hl⟩ := I.loc
      have hvis : Vis X.env.scope y := (L.free _ (PySem.mem_of_lookup k) rfl).elim (fun k => .inr (.inl k)) (fun k => .inr (.inr k))
      obtain ⟨w', r, q⟩ := hl i y v e1 e2 hvis
      obtain ⟨c2, h2⟩ := down k
      refine ⟨w', r, .inr ⟨.inr k, c2, h2, ?_⟩⟩
      have c1 := up h2
      rcases q with ⟨k', _⟩ | ⟨_, c3, e', z⟩
      · have k' : X.env.scope.names.lookup y = some .local := k'
        rcases L.free _ (PySem.mem_of_lookup k) rfl with k2 | k2 <;> rw [show X.env.scope.names.lookup y = _ from k2] at k' <;> cases k'
      · rw [c1] at e'
        cases e'
        exact cellK (I.freeC y _ c1) z
  · obtain ⟨w', z⟩ := I.cell y c (up e)
    exact ⟨w', cellK (I.freeC y c (up e)) z⟩
  · obtain ⟨v, o, ho, hd⟩ := I.cell y c (up e)
    exact un.free c o ho (I.freeC y c (up e)) (by simp)
/-- x(), in the def that got the lambda; what is raised is wished for at its slots -/
theorem pe_actW {CXg : CXT} {Eg : XK} {Ng : List Str} {qg : Str} {sg : Scope} {g f c' : Addr} {cdg dV doc pm ctv : Value} {params : Arguments} {body : Expr} {scope : Scope} {D : List (Addr × Obj)} {k i : Nat} {a : Str} {pn : List (Addr × Obj)} {xe : Value → Shared → Prop} {W : WX} {tb : XK → TE} {p1 p2 : Pos}
    (I : Inv X pins σ H s) (L : LamD X.N X.env.scope scope) (M : Made X H s params body scope f c' dV doc pm ctv D)
    (tk : Takes ((cxOf CXg X.prog X.w X.K X.mg X.base Ng qg sg g cdg X.A X.stack s H Eg).tr pn xe) W) (hr : Room (k + 1) (X.A.deeper (envOfC qg sg s.heap.objs.size g cdg)))
    (hbody : ∀ (A : Around) (outer : List Env) (s : Shared) (H : Hp) (E : XK), Room k (A.deeper (lamEnv X scope s.heap.objs.size f c')) → PE (lamCx X A outer s H E scope f c') body (tb E))
    (hN : Ng[i]? = some a) (hv : Vis sg a) (hd : (a == ("__debug__" : Str)) = false := by decide) (hcd : (a == ("__classdict__" : Str)) = false := by decide) :
    PE ((cxOf CXg X.prog X.w X.K X.mg X.base Ng qg sg g cdg X.A X.stack s H Eg).tr pn xe) (.Call (.Name a p1) [] [] p2)
      (fun σZ HZ Q => σZ[i]? = some (some (.ref f)) ∧ HZ c' = some (CodeO c' (X.env.qual ++ "<lambda>")) ∧ ∃ E : XK, (∀ cls d H', E cls d H' → W cls d σZ H') ∧ tb E σ HZ Q) := by
  refine ⟨fun pinsZ sZ σZ HZ Q IZ h => ?_⟩
  obtain ⟨hs, hc, E, hW, ht⟩ := h
  refine wpAny_Call_Name_kw (thn ((pe_var (pos := p1) (i := i) hN hv hd hcd).run pinsZ sZ σZ HZ (fun v H1 => v = .ref f ∧ H1 = HZ) IZ ⟨.ref f, hs, rfl, rfl⟩) fun u s1 hh => ?_)
  obtain ⟨v, H1, I1, r1, ev, eH⟩ := hh
  subst ev
  rw [eH] at I1
  obtain rfl : u = Value.ref f := r1
  have un : Un (frs X.stack) [] H HZ s.heap s1.heap := I1.base
  have stay : ∀ p ∈ D, s1.heap.get? p.1 = some p.2 := fun p hp => un.keep _ _ (M.there p hp).1 (M.there p hp).2.1 (M.there p hp).2.2 (by simp)
  have of1 := stay _ M.at_
  refine PySem.W.callWith_F0 ⟨_, _, _, _, of1⟩ ?_
  obtain ⟨⟨oc, vs, t, hoc, hdc, hvc⟩, _, _⟩ := I1.hok c' _ hc
  obtain ⟨bs, hbind, hloc⟩ := M.binds
  have rc : codeAny (model X.prog X.w) (X.A.deeper (envOfC qg sg s.heap.objs.size g cdg)) (.call (.ref f) ⟨[], []⟩) (CR (L2.CX X.prog X.w) (envOfC qg sg s.heap.objs.size g cdg :: X.stack) X.prog X.w HZ s1 Q E) s1 := by
    refine PySem.W.kla_callFunE hr.depth of1 rfl L.co L.gen rfl ⟨c', oc, vs, t, rfl, hoc, hdc, hvc⟩ (hbind s1 stay _ _ _ _ ?_)
    refine wpAny_newFunctionEnv (fun y hy => (L.own y hy).1) hloc (fun h1 hns hsb => ⟨I1.nolimit.fresh _ hsb, ?_⟩) L.kind
    show codeAny _ _ (.expr body (lamEnv X scope s1.heap.objs.size f c')) _ _
    have kp : ∀ b o, s1.heap.get? b = some o → h1.get? b = some o := fun b o e => hsb.extBut b o (Nat.ne_of_lt (Heap.lt_size e)) (Heap.get?_push_of_some _ e)
    have J : Inv (lamCx X (X.A.deeper (envOfC qg sg s.heap.objs.size g cdg)) (envOfC qg sg s.heap.objs.size g cdg :: X.stack) s1 HZ E scope f c') [] σ HZ { s1 with heap := h1, toks := s1.toks + bs.length } :=
      lamW_start I L I1.env0 hr.hd un hns kp
    refine PySem.W.kla_codeExpr (wpAny_mono ((hbody _ _ s1 HZ E (hr.deeper _)).run [] _ _ HZ Q J ht) (fun v s' hq => ?_) fun e s' hq => hq)
    obtain ⟨w', H', J', rv, q⟩ := hq
    exact ⟨w', H', J'.os, J'.bare, J'.base, J'.hok, rv, q⟩
  refine wpAny_call (codeAny_mono rc fun r s' hq => ?_)
  match r, hq with
  | .error e, hq => exact tk e s' (XE.of_call I1 hW hq)
  | .ok (.ret u), hq => exact I1.after hq
  | .ok .next, hq => exact hq.elim
  | .ok .brk, hq => exact hq.elim
  | .ok .cont, hq => exact hq.elim
end
/-- how a lambda is made here -/
def MkLam (X : Cx) (T : List (Addr × Str)) (params : Arguments) (body : Expr) (scope : Scope) (lpos : Pos) : Prop :=
  ∀ (pins : List (Addr × Obj)) (σ : L2.St) (H : Hp) (s : Shared) (Q : Value → Shared → Prop), Inv X pins σ H s → Tabs T H →
    (∀ (f c' : Addr) (dV doc pm ctv : Value) (D : List (Addr × Obj)) (H1 : Hp) (s' : Shared), Inv X pins σ H1 s' → ExtN H H1 → Tabs T H1 → Made X H1 s' params body scope f c' dV doc pm ctv D → Q (.ref f) s') →
    wpAny (model X.prog X.w) X.A (eval (.Lambda params body scope lpos) X.env) Q X.xe s
/-- the def that calls what it got: a calls it; TT: what it makes of the lambda's reading -/
def Gives (X : Cx) (Ng : List Str) (x : Str) (sg : Scope) (g : Addr) (cdg : Value) (bg : List Stmt) (a : Str) (q : Str) (TT : (XK → Hp → VK → Prop) → Hp → VK → Prop) : Prop :=
  ∀ (f c' : Addr) (s : Shared) (H : Hp) (Q : VK) (tl : XK → Hp → VK → Prop), Room 1 (X.A.deeper (envOfC x sg s.heap.objs.size g cdg)) →
    (∀ (W : WX) (pn : List (Addr × Obj)) (xe : Value → Shared → Prop) (p1 p2 : Pos), Takes ((cxOf CX0 X.prog X.w X.K X.mg X.base Ng x sg g cdg X.A X.stack s H E0).tr pn xe) W →
      PE ((cxOf CX0 X.prog X.w X.K X.mg X.base Ng x sg g cdg X.A X.stack s H E0).tr pn xe) (.Call (.Name a p1) [] [] p2) (fun σZ HZ Q => σZ[0]? = some (some (.ref f)) ∧ HZ c' = some (CodeO c' q) ∧ ∃ E : XK, (∀ cls d H', E cls d H' → W cls d σZ H') ∧ tl E HZ Q)) →
    H c' = some (CodeO c' q) → TT tl H Q →
    ∃ t, PSs (cxOf CX0 X.prog X.w X.K X.mg X.base Ng x sg g cdg X.A X.stack s H E0).nox bg t ∧ t { nx := fun _ H' => Q .non H', rt := Q } (L2.start Ng [.ref f]) H
section
variable {X : Cx}
/-- x(lambda: body) -/
theorem pe_outc {T : List (Addr × Str)} {TT : (XK → Hp → VK → Prop) → Hp → VK → Prop} {x a : Str} {g : Addr} {k : Nat} {st : Stmt} {fd : FuncData} {Ng : List Str} {cdg : Value}
    {params : Arguments} {body : Expr} {scope : Scope} {t : XK → TE} {p lpos pos : Pos} (hg : Gl X x) (hm : X.mg x = some (.ref g)) (hk : PySem.W.keepIn X.K (.ref g) = true) (F : Fun X.K x x st g fd) (hcd : fd.code = cdg) (hb : L2.Binds X.K fd [a] []) (Sg : FnScope Ng [a] (defScope st)) (hNg : Ng[0]? = some a) (hva : Vis (defScope st) a)
    (hG : Gives X Ng x (defScope st) g cdg (defBody st) a (X.env.qual ++ "<lambda>") TT) (ML : MkLam X T params body scope lpos) (hr : Room (k + 2) X.A) (L : LamD X.N X.env.scope scope)
    (hbody : ∀ (A : Around) (outer : List Env) (s : Shared) (H : Hp) (E : XK) (f c' : Addr), Room k (A.deeper (lamEnv X scope s.heap.objs.size f c')) → PE (lamCx X A outer s H E scope f c') body (t E))
    (hdb : (x == ("__debug__" : Str)) = false := by decide) (hd : (a == ("__debug__" : Str)) = false := by decide) (hcc : (a == ("__classdict__" : Str)) = false := by decide) :
    PE X (.Call (.Name x p) [.Lambda params body scope lpos] [] pos) (tLam T TT t) := by
  refine ⟨fun pins s σ H Q I h => ?_⟩
  obtain ⟨hT, h⟩ := h
  obtain ⟨oc, od, kV, doc0, pm0, an, cdv, ct, osl, rfl, lk, hcg⟩ := F.ex
  obtain rfl : cdv = cdg := hcd
  refine wpAny_Call_Name_kw (ld_glob I hg hm ?_ hdb)
  refine PySem.W.callWith_K (h₀ := X.base) I.ok.mod.kin hk ?_ (by rfl) (by rfl)
  show wpAny _ _ (spliced ((false, eval (.Lambda params body scope lpos) X.env) :: backTo pos (starEach [] X.env))) _ _ s
  refine Calls.spliced_cons (ML pins σ H s _ I hT fun f c' dV doc pm ctv D H1 s' I1 eN T1 M => ?_)
  refine Calls.spliced_nil ⟨I1.kIn, ?_⟩
  have rc : codeAny (model X.prog X.w) X.A (.call (.ref g) ⟨[.ref f], []⟩) (CR CX0 X.stack X.prog X.w H1 s' Q E0) s' := by
    refine run_ofS (N := Ng) (ps := [a]) (us := [.ref f]) (vs := [.ref f]) lk hcg Sg hr I1.env0 (hb s' [.ref f] I1.kIn rfl) (.cons rfl .nil) rfl fun hr' => ?_
    obtain ⟨t', ht', hq'⟩ := hG f c' s' H1 Q (fun E H' Q' => t E σ H' Q') (hr'.mono (by omega)) (fun W pn xe p1 p2 tk => pe_actW (i := 0) I1 L M tk hr' (fun A outer s H E hr2 => hbody A outer s H E f c' hr2) hNg hva hd hcc) M.code (h H1 eN T1)
    exact ⟨t', ht'.nox, hq'⟩
  refine wpAny_call (codeAny_mono rc fun r s2 hq => ?_)
  match r, hq with
  | .error e, hq => exact (show False from hq).elim
  | .ok (.ret u), hq => exact I1.after hq
  | .ok .next, hq => exact hq.elim
  | .ok .brk, hq => exact hq.elim
  | .ok .cont, hq => exact hq.elim
end
end Wn
/-! a law whose defs make lambdas: the end, by the tables of their code -/
namespace Wn
open PySem PySem.Spec PyProof.Rows L2 LamX
/-- a def by its body, its code told -/
theorem fnGc {P : Program} {w : World} {K : PySem.W.Frag} {mg : Str → Option Value} {base : Heap} {CX : CXT} {k : Nat} {f : Addr} {fd : FuncData} {ps : List Str} {sp : Sp} {x qual : Str} {st : Stmt} {N : List Str} (F : Fun K x qual st f fd) (S : FnScope N ps (defScope st)) (sz : ∀ vs H Q E, sp vs H Q E → vs.length = ps.length)
    (body : ∀ (cdv : Value) (A : Around) (outer : List Env) (s : Shared) (H : Hp) (vs : List V) (Q : VK) (E : XK), fd.code = cdv → (A.deeper (envOfC qual (defScope st) s.heap.objs.size f cdv)).guards = some [] →
      Room k (A.deeper (envOfC qual (defScope st) s.heap.objs.size f cdv)) → sp vs H Q E →
      ∃ t, PSs (cxOf CX P w K mg base N qual (defScope st) f cdv A outer s H E) (defBody st) t ∧ t { nx := fun _ H' => Q .non H', rt := Q } (L2.start N vs) H) : FnG P w K mg base CX (k + 1) f fd ps sp := by
  obtain ⟨oc, od, kV, doc, pm, an, cdv, ct, osl, rfl, lk, hcd⟩ := F.ex
  refine ⟨sz, fun A hgd hr outer s H args us vs Q E e0 hb r h => ?_⟩
  have KI : K.In s.heap := e0.mod.kin.keeps fun b o e => (e0.bs b o e).1
  have NL : s.heap.NoLimit := e0.mod.nolimit.keeps fun b o e => (e0.bs b o e).1
  refine codeAny_call_function hr.depth (KI _ _ lk) rfl S.co S.gen rfl (PySem.W.codeRec_of KI hcd) (hb _ _ _ _ ?_)
  refine wpAny_newFunctionEnv_cells S.kind (fun y hy => ?_) fun env he s1 x => ?_
  · obtain ⟨n, v⟩ := y
    rcases S.par n (List.of_mem_zip hy).1 with q | q
    · exact .inl q
    · exact .inr ⟨q, PySem.W.cellsFrom_some _ _ _ (.inl q)⟩
  · subst he
    refine ⟨NL.keeps x.toInCall.keep, codeAny_func ?_⟩
    obtain ⟨t, ht, hq⟩ := body cdv A outer s H vs Q E rfl hgd (hr.deeper _) h
    refine wpAny_mono (ht.run [] s1 _ H _ (inv_start S hr.hd e0 (sz _ _ _ _ h) r x) hq) (fun fl s' z => ?_) fun e s' z => z
    cases fl with
    | ret u =>
      obtain ⟨v, σ', H', J, rv, q⟩ := z
      exact ⟨v, H', J.os, J.bare, J.base, J.hok, rv, q⟩
    | next =>
      obtain ⟨σ', H', J, q⟩ := z
      exact ⟨.non, H', J.os, J.bare, J.base, J.hok, rfl, q⟩
    | brk =>
      obtain ⟨_, _, _, q⟩ := z
      exact q.elim
    | cont =>
      obtain ⟨_, _, _, q⟩ := z
      exact q.elim
theorem fnGc0 {P : Program} {w : World} {K : PySem.W.Frag} {mg : Str → Option Value} {base : Heap} {k : Nat} {f : Addr} {fd : FuncData} {ps : List Str} {sp : Sp} {x qual : Str} {st : Stmt} {N : List Str} (F : Fun K x qual st f fd) (S : FnScope N ps (defScope st)) (sz : ∀ vs H Q E, sp vs H Q E → vs.length = ps.length)
    (body : ∀ (cdv : Value) (A : Around) (outer : List Env) (s : Shared) (H : Hp) (vs : List V) (Q : VK) (E : XK), fd.code = cdv → (A.deeper (envOfC qual (defScope st) s.heap.objs.size f cdv)).guards = some [] →
      Room k (A.deeper (envOfC qual (defScope st) s.heap.objs.size f cdv)) → sp vs H Q E →
      ∃ t, PSs (cxOf CX0 P w K mg base N qual (defScope st) f cdv A outer s H E).nox (defBody st) t ∧ t { nx := fun _ H' => Q .non H', rt := Q } (L2.start N vs) H) : FnG P w K mg base CX0 (k + 1) f fd ps sp :=
  fnGc F S sz fun cdv A outer s H vs Q E hc g r h => let ⟨t, ht, q⟩ := body cdv A outer s H vs Q E hc g r h; ⟨t, ht.nox, q⟩
/-- the law's call; cs: the code objects and their tables -/
theorem law_callGT {P : Program} {w : World} {K : PySem.W.Frag} {mg mb : Str → Option Value} {CX : CXT} {k : Nat} {fa a : Addr} {cs : List (Addr × Addr)} {fd : FuncData} {x : Str} {sp : Sp} {s1 : Shared} {vs : List Value} {ns : List Int}
    (KX : K.In s1.heap) (hns : s1.heap.Ns mainGlobals mg) (hb : s1.heap.Ns builtinsNs mb) (hbb : ∀ x : Str, x ≠ "__name__" → mb x = bootBuiltins x) (hlim : s1.heap.NoLimit) (hg : s1.gens = #[])
    (hT : ∀ p ∈ cs, s1.heap.get? p.2 = some { cls := .none, data := .fields #[] }) (nT : ∀ p ∈ cs, K.lookup p.2 = none) (C : ∀ p ∈ cs, PySem.W.CodeHd s1.heap p.1 p.2)
    (hbm : ∃ (bm : Addr) (ob : Obj), mg "__builtins__" = some (.ref bm) ∧ bm ≠ builtinsNs ∧ s1.heap.get? bm = some ob ∧ ob.cls = .type "module" ∧ ob.dict = some builtinsNs ∧ ob.data = .plain)
    (ha : s1.heap.get? a = some { cls := .type "list", data := .seq vs.toArray }) (hi : IntsAre vs ns) (hl : ns.length ≤ sizeLine) (hr : Room k callerA)
    (F : ∀ base : Heap, K.In base → base.Ns mainGlobals mg → (∀ p ∈ cs, TabB base mg p.1 p.2) → FnG P w K mg base CX k fa fd [x] sp) (hbind : ∀ (s : Shared) (u : Value), BindsTo s fd ⟨[u], []⟩ [(x, u)])
    (hsp : ∀ H : Hp, (∀ p ∈ cs, H p.2 = some (.tbl #[])) → SqL K H a (ns.map V.int) → sp [.ref a] H (fun v _ => v = .bl true) fun _ _ _ => False)
    (hCX : ∀ H e s', CX [] H s1 (fun _ _ _ => False) e s' → False) :
    codeAny (model P w) callerA (.call (.ref fa) ⟨[.ref a], []⟩) (fun r s' => r = .ok (.ret (.bool true)) ∧ OldK s1.heap s'.heap ∧ s'.os = s1.os ∧ AllBare s'.gens) s1 := by
  obtain ⟨ts, hts⟩ : ∃ ts, ts = cs.map (·.2) := ⟨_, rfl⟩
  have inT : ∀ {p : Addr × Addr}, p ∈ cs → p.2 ∈ ts := fun hp => by
    rw [hts]
    exact List.mem_map.mpr ⟨_, hp, rfl⟩
  have outT : ∀ {b : Addr}, b ∈ ts → s1.heap.get? b = some { cls := .none, data := .fields #[] } ∧ K.lookup b = none := fun hb => by
    rw [hts] at hb
    obtain ⟨p, hp, e⟩ := List.mem_map.mp hb
    rw [← e]
    exact ⟨hT p hp, nT p hp⟩
  have na : a ∉ ts := fun z => by
    have q := (outT z).1
    rw [ha] at q
    cases q
  obtain ⟨H, hH⟩ : ∃ H : Hp, H = fun b => if b ∈ ts then some (.tbl #[]) else if b = a ∧ K.lookup a = none then some (.frz { cls := .type "list", data := .seq vs.toArray } (.lst (ns.map V.int))) else none := ⟨_, rfl⟩
  have at_ : ∀ b u, H b = some u → (b ∈ ts ∧ u = .tbl #[]) ∨ (b = a ∧ K.lookup a = none ∧ u = .frz { cls := .type "list", data := .seq vs.toArray } (.lst (ns.map V.int))) := fun b u z => by
    rw [hH] at z
    dsimp only at z
    split at z
    · rename_i c
      exact .inl ⟨c, (Option.some.inj z).symm⟩
    · split at z
      · rename_i c
        exact .inr ⟨c.1, c.2, (Option.some.inj z).symm⟩
      · cases z
  have off : ∀ b o, s1.heap.get? b = some o → (∀ n, o.data ≠ .seq vs.toArray n) → o.data ≠ .fields #[] → H b = none := fun b o e d d2 => by
    cases z : H b with
    | none => rfl
    | some u =>
      rcases at_ b u z with ⟨w1, _⟩ | ⟨rfl, _, _⟩
      · rw [(outT w1).1] at e
        cases e
        exact absurd rfl d2
      · rw [ha] at e
        cases e
        exact absurd rfl (d _)
  have kb : ∀ b o, K.lookup b = some o → H b = none := fun b o e => by
    cases z : H b with
    | none => rfl
    | some u =>
      rcases at_ b u z with ⟨w1, _⟩ | ⟨rfl, z2, _⟩
      · rw [(outT w1).2] at e
        cases e
      · rw [z2] at e
        cases e
  have ok : HOk P w H s1.heap := fun b u z => by
    rcases at_ b u z with ⟨w1, rfl⟩ | ⟨rfl, _, rfl⟩
    · exact (outT w1).1
    · exact ⟨ha, by rw [List.length_map]; exact hl, vs, _, vals_ints hi, ha⟩
  have sq : SqL K H a (ns.map V.int) := by
    cases z : K.lookup a with
    | none =>
      refine .inl (.inr ⟨{ cls := .type "list", data := .seq vs.toArray }, ?_⟩)
      rw [hH]
      dsimp only
      rw [if_neg na]
      exact if_pos ⟨rfl, z⟩
    | some o =>
      have e := KX a o z
      rw [ha] at e
      cases e
      exact .inr ⟨_, vs.toArray, _, z, rfl, rfl, rfl, by rw [List.size_toArray, hi.length]; exact hl, by simpa using vals_ints hi⟩
  have tabs : ∀ p ∈ cs, H p.2 = some (.tbl #[]) := fun p hp => by
    rw [hH]
    exact if_pos (inT hp)
  have nsB : ∀ {b : Addr} {m : Str → Option Value}, s1.heap.Ns b m → (hidT s1.heap H).Ns b m := fun {b m} ⟨o, es, ep, e, d, r⟩ => ⟨o, es, ep, hidT_get e (off b o e (fun n z => by rw [d] at z; cases z) fun z => by rw [d] at z; cases z), d, r⟩
  have KB : K.In (hidT s1.heap H) := fun b o e => hidT_get (KX b o e) (kb b o e)
  have M : Mod K mg (hidT s1.heap H) := ⟨KB, nsB hns, ⟨mb, nsB hb, hbb⟩, let ⟨mc, h1, h2⟩ := hlim; ⟨mc, nsB h1, h2⟩⟩
  have TB : ∀ p ∈ cs, TabB (hidT s1.heap H) mg p.1 p.2 := fun p hp => by
    have g0 := hT p hp
    refine ⟨?_, ?_, fun z => ?_⟩
    · obtain ⟨o, us, file, tf, flags, tg, inF, text, tt, e1, r1, r2, r3, r⟩ := C p hp
      refine ⟨o, us, file, tf, flags, tg, inF, text, tt, hidT_get e1 (off _ _ e1 (fun n z => ?_) fun z => ?_), r1, r2, r3, r⟩
      · rw [r2] at z
        cases z
      · rw [r2] at z
        cases z
        simp at r3
    · obtain ⟨bm, ob, b1, b2, b3, b4, b5, b6⟩ := hbm
      have nG : bm ≠ mainGlobals := fun q => by
        obtain ⟨o, es, ep, e, hd, _⟩ := hns
        rw [q, e] at b3
        cases b3
        rw [hd] at b6
        cases b6
      have nP : bm ≠ p.2 := fun q => by
        rw [q, g0] at b3
        cases b3
        cases b6
      exact ⟨bm, ob, b1, b2, nG, nP, hidT_get b3 (off _ _ b3 (fun n z => by rw [b6] at z; cases z) fun z => by rw [b6] at z; cases z), b4, b5, b6⟩
    · obtain ⟨o, es, ep, e, hd, _⟩ := hns
      rw [z, g0] at e
      cases e
      cases hd
  have env : Env0 P w K mg (hidT s1.heap H) callerA [] s1 H := ⟨rfl, M, fun b o e => of_hidT e, Nat.le_of_eq (hidT_size _ _), trivial, fun b z => absurd (show b ∈ ([] : List Addr) from z) (by simp), ok, .of_eq hg⟩
  refine codeAny_mono ((F _ KB (nsB hns) TB).go callerA rfl hr [] s1 H ⟨[.ref a], []⟩ [.ref a] [.ref a] _ _ env (hbind s1 (.ref a)) (.cons rfl .nil) (hsp H tabs sq)) fun r s' z => ?_
  match r, z with
  | .error e, z => exact (hCX H e s' z).elim
  | .ok .next, z => exact z.elim
  | .ok .brk, z => exact z.elim
  | .ok .cont, z => exact z.elim
  | .ok (.ret u), z =>
    obtain ⟨v, H', os, bare, un, ok', rv, q⟩ := z
    obtain rfl : v = .bl true := q
    obtain rfl : u = Value.bool true := rv
    have grown : ∀ p ∈ cs, ∃ more : Array Value, s'.heap.get? p.2 = some { cls := .none, data := .fields more } := fun p hp => by
      obtain ⟨more, z⟩ := un.tbls p.2 #[] (tabs p hp)
      exact ⟨_, ok' p.2 _ z⟩
    have same : ∀ b o, b ∉ ts → s1.heap.get? b = some o → s'.heap.get? b = some o := fun b o nb e => by
      cases y : H b with
      | none => exact un.keep b o e y (fun c => absurd (show b ∈ ([] : List Addr) from c) (by simp)) (by simp)
      | some u =>
        rcases at_ b u y with ⟨w1, _⟩ | ⟨rfl, _, rfl⟩
        · exact absurd w1 nb
        · rw [ha] at e
          cases e
          exact (ok' _ _ (un.frzs _ _ _ y)).1
    refine ⟨rfl, ⟨fun b o e => ?_, fun b o e => ?_⟩, os, bare⟩
    · by_cases w1 : b ∈ ts
      · have w2 := w1
        rw [hts] at w2
        obtain ⟨p, hp, ep⟩ := List.mem_map.mp w2
        obtain ⟨more, hm⟩ := grown p hp
        rw [← ep] at e ⊢
        rw [hT p hp] at e
        cases e
        exact .inr (.inl ⟨((C p hp).tab (hT p hp)).isCodeTable, rfl, #[], more, rfl, by rw [Array.empty_append]; exact hm⟩)
      · exact .inl (same b o w1 e)
    · by_cases w1 : b ∈ ts
      · rw [hts] at w1
        obtain ⟨p, hp, ep⟩ := List.mem_map.mp w1
        obtain ⟨more, hm⟩ := grown p hp
        rw [← ep]
        exact ⟨_, hm⟩
      · exact ⟨o, same b o w1 e⟩
theorem walkGT {l : PySem.W.OpenLaw} {n k : Nat} {q : Program} {loose : List Str} {XP : (Str → Option Value) → Heap → Prop} {YP : World → Heap → Prop} {d : DefRec} {K : Params → PySem.W.Frag} {x : Str} {xs : List Str}
    (hn : l.most = some n) (hn2 : n ≤ sizeLine) (hdf : d.params.defaults = []) (hr : Room k callerA) (hxs : xs.all (fun y => ((recsOf q).find? fun e => e.name == y).isSome) = true) (hY : ∀ (w : World) (h : Heap), YP w h → (K w.params).In h)
    (F : ∀ (w : World) (mg : Str → Option Value) (fa : Addr) (h : Heap), (K w.params).In h → h.Ns mainGlobals mg → mg d.name = some (.ref fa) →
      ∃ (fd : FuncData) (cs : List (Addr × Addr)) (sp : Sp), (∀ p ∈ cs, (∃ y ∈ xs, PySem.W.tabIn (K w.params) y = some p) ∧ (K w.params).lookup p.2 = none) ∧ (∀ (s : Shared) (u : Value), BindsTo s fd ⟨[u], []⟩ [(x, u)]) ∧
        (∀ (H : Hp) (a : Addr) (ns : List Int), ns.length ≤ n → (∀ p ∈ cs, H p.2 = some (.tbl #[])) → SqL (K w.params) H a (ns.map V.int) → sp [.ref a] H (fun v _ => v = .bl true) fun _ _ _ => False) ∧
        ∀ base : Heap, (K w.params).In base → base.Ns mainGlobals mg → (∀ p ∈ cs, TabB base mg p.1 p.2) → FnG l.prog w (K w.params) mg base CX0 k fa fd [x] sp) :
    PySem.W.WalkO q loose XP YP l.row.toRowW d [] (fun f vs => PySem.call f vs) :=
  Att.attach_call hn hdf fun w s0 s1 mg mb fa o pm cd doc a vs ns G Y ho hd hcd hmg hobj hints hlen hg => by
    have KX := hY w _ Y
    obtain ⟨fd, cs, sp, hc, hb, hsp, hF⟩ := F w mg fa _ KX G.T.g hmg
    have tab : ∀ p ∈ cs, PySem.W.CodeHd s1.heap p.1 p.2 ∧ s1.heap.get? p.2 = some { cls := .none, data := .fields #[] } := fun p hp => by
      obtain ⟨⟨y, hy, e⟩, _⟩ := hc p hp
      have z := List.all_eq_true.mp hxs y hy
      obtain ⟨d2, e2⟩ := Option.isSome_iff_exists.mp z
      exact PySem.W.tab_of G.T KX e2 e
    exact law_callGT KX G.T.g G.T.b G.T.builtins G.T.nolimit hg (fun p hp => (tab p hp).2) (fun p hp => (hc p hp).2) (fun p hp => (tab p hp).1) G.T.bmain hobj hints (Nat.le_trans hlen hn2) hr hF hb (fun H hT hS => hsp H a ns hlen hT hS) fun H e s' z => z
end Wn
/-! C(e) for an error whose __init__ keeps e in its one field; raise C(e) -/
namespace Wn
open PySem PySem.Spec PyProof.Rows L2
def spInit (C : Addr) (f : Str) : Sp := fun vs H Q _ => ∃ (a : Addr) (v : V), vs = [.ref a, v] ∧ H a = some (exo a C none) ∧ ∀ d, H d = none → d ≠ a → Q .non (upd (upd H d (exd d [(f, v)])) a (exo a C (some d)))
section
variable {X : Cx} {o e : Expr} {to te : TE} {f x : Str} {p p' p1 p2 pos : Pos} {C fI W : Addr} {B newId initId : String} {bmB : List Value} {mc : Value} {wn : Str}
theorem ps_ostE (T : ErrC X.K C fI f B newId initId bmB) (ho : PE X o to) (he : PE X e te) (hs : swapsWith e (some (.Attribute o f p')) pos.line X.env = pure false := by rfl) : PS X (.Assign [.Attribute o f p'] e pos) (tOstE X.K C f to te) := by
  refine ⟨fun pins s σ H D I h => plainObj_wpAny_Assign_Attribute (thn (he.run pins s σ H _ I h) fun v s1 z1 => ?_) hs⟩
  obtain ⟨y, H1, I1, r1, q1⟩ := z1
  refine thn (ho.run pins s1 σ H1 _ I1 q1) fun u s2 z2 => ?_
  obtain ⟨w, H2, I2, r2, a, ew, ea, q⟩ := z2
  subst ew
  obtain rfl : u = Value.ref a := r2
  exact ostE T I2 ea r1 fun dx s' n ne J => ⟨σ, _, J, q dx n ne⟩
/-- the built-in class's own name -/
theorem pe_initB {es : List Expr} {ta : TA} {pl : Sem Bool} (T : ErrC X.K C fI f B newId initId bmB) (hg : Gl X wn) (hm : X.mg wn = none) (hv : bootBuiltins wn = some (.type B)) (hnn : wn ≠ "__name__") (hdb : (wn == ("__debug__" : Str)) = false) (ty : typeOf (.type B) = pure (.type "type")) (stub : Manifest.isStub B = false)
    (at_ : PySem.W.findCls X.K (.type B) (.type "type") "__init__" = some (.val (.builtin initId))) (hh : PySem.W.handedIn (.builtin initId) = true) (ha : PA X (e :: es) ta)
    (hc : eval (.Call (.Attribute (.Name wn p1) "__init__" p2) (e :: es) [] pos) X.env = (do
      let ov ← eval (.Name wn p1) X.env
      standAt p2.atName
      let (f, first) ← holding [ov] (getMethod ov "__init__" pl)
      callWith pos f first (backTo pos (starEach (e :: es) X.env)) (backToKw pos (keywordEach [] X.env))) := by rfl)
    (he : starEach (e :: es) X.env = (false, eval e X.env) :: starEach es X.env := by rfl) (hpl : (backTo pos (starEach es X.env)).any (·.1) = false := by rfl) :
    PE X (.Call (.Attribute (.Name wn p1) "__init__" p2) (e :: es) [] pos) (tInitE X.K C ta) := by
  refine ⟨fun pins s σ H Q I h => ?_⟩
  refine PySem.W.methodCall_KW (ld_blt I hg hm hv ?_ hnn hdb) hc
  obtain ⟨m, fr⟩ := I.fr
  refine PySem.W.method_type fr I.ok.mod.kin ty stub at_ hh ?_
  show wpAny _ _ (callWith pos (Value.builtin initId) [] (backTo pos (starEach (e :: es) X.env)) []) _ _ _
  exact call_initE (pl := pl) T ha (I.tok _) h he hpl
end
/-- what such a making asks, once its one value is there -/
theorem mk1_go {C : Addr} {f : Str} {v : V} {H1 : Hp} {Q : XK} (h : ∀ d, H1 d = none → Q (.ref C) (some d) (upd H1 d (.xd [(f, v)]))) :
    [v].length ≤ 1000 ∧ ∀ a, H1 a = none → spInit C f (.ref a :: ([v] ++ [])) (upd H1 a (exo a C none))
      (fun u H2 => u = .non ∧ ∃ (d : Addr) (fs : List (Str × V)), H2 a = some (exo a C (some d)) ∧ H2 d = some (exd d fs) ∧ H1 d = none ∧ Q (.ref C) (some d) (upd (del H2 a) d (.xd fs))) (fun _ _ _ => False) := by
  refine ⟨by show 1 ≤ 1000; decide, fun a na => ⟨a, v, rfl, upd_same, fun d nd da => ?_⟩⟩
  have nd1 : H1 d = none := by
    rw [upd_ne da] at nd
    exact nd
  refine ⟨rfl, d, [(f, v)], upd_same, ?_, nd1, ?_⟩
  · rw [upd_ne da, upd_same]
  · have e1 : upd (del (upd (upd (upd H1 a (exo a C none)) d (exd d [(f, v)])) a (exo a C (some d))) a) d (.xd [(f, v)]) = upd H1 d (.xd [(f, v)]) := by
      funext b
      by_cases hb : b = d
      · rw [hb, upd_same, upd_same]
      · rw [upd_ne hb, upd_ne hb]
        by_cases ha : b = a
        · rw [ha, del_same, na]
        · rw [del_ne ha, upd_ne ha, upd_ne hb, upd_ne ha]
    rw [e1]
    exact h d nd1
end Wn
/-! what gives data, where lambdas are made on the way: all but the tables of code stays -/
namespace Wn
open PySem PySem.Spec PyProof.Rows L2 LamX
theorem extOf {H H' : Hp} (g : Gr [] H H') : ExtN H H' := fun b o h _ => g b o (by simp) h
theorem tabsGr {T : List (Addr × Str)} {H H' : Hp} (t : Tabs T H) (g : Gr [] H H') : Tabs T H' := fun p hp => (t p hp).ext fun b o e => g b o (by simp) e
theorem kpExt {H H' : Hp} (g : ExtN H H') : Kp H H' := ⟨fun a _ e => g a _ e (fun _ z => by cases z), fun a _ e => g a _ e (fun _ z => by cases z), fun a _ _ e => g a _ e (fun _ z => by cases z)⟩
theorem ExtN.lst {H H' : Hp} {a : Addr} {xs : List V} (g : ExtN H H') (h : H a = some (.lst xs)) : H' a = some (.lst xs) := g a _ h (fun _ z => by cases z)
theorem ExtN.tup {H H' : Hp} {a : Addr} {xs : List V} (g : ExtN H H') (h : H a = some (.tup xs)) : H' a = some (.tup xs) := g a _ h (fun _ z => by cases z)
theorem ExtN.dK {H H' : Hp} {a : Addr} {xs : List (Key × V)} (g : ExtN H H') (h : H a = some (.dK xs)) : H' a = some (.dK xs) := g a _ h (fun _ z => by cases z)
/-- what an error's outcome is: class, field, word -/
def TTg (es : List (Addr × Str × Str)) : (XK → Hp → VK → Prop) → Hp → VK → Prop := fun tl H Q =>
  ∀ (H2 : Hp) (Qn : VK) (E : XK), Gr [] H H2 → (∀ v H3, (∀ p, H3 p = none → Q (.ref p) (upd H3 p (.lst [v]))) → Qn v H3) →
    (∀ (C d : Addr) (f w : Str) (v : V) (H3 : Hp), (C, f, w) ∈ es → H3 d = some (.xd [(f, v)]) → (∀ t H4, Gr [] H3 H4 → H4 t = some (.tup [.str w, v]) → Q (.ref t) H4) → E (.ref C) (some d) H3) → tl E H2 Qn
section
variable {K : PySem.W.Frag} {T : List (Addr × Str)} {σ : L2.St} {H : Hp}
def EvT (K : PySem.W.Frag) (T : List (Addr × Str)) (te : TE) (σ : L2.St) (H : Hp) (d : PyData) : Prop := ∀ H1, ExtN H H1 → Tabs T H1 → ∀ Q : VK, (∀ v H2, ExtN H1 H2 → Tabs T H2 → Dp K H2 v d → Q v H2) → te σ H1 Q
def EvTS (K : PySem.W.Frag) (T : List (Addr × Str)) (ta : TA) (σ : L2.St) (H : Hp) (ds : List PyData) : Prop := ∀ H1, ExtN H H1 → Tabs T H1 → ∀ Q : List V → Hp → Prop, (∀ vs H2, ExtN H1 H2 → Tabs T H2 → DpAll K H2 vs ds → Q vs H2) → ta σ H1 Q
def EvTL (K : PySem.W.Frag) (T : List (Addr × Str)) (te : TE) (σ : L2.St) (H : Hp) (ds : List PyData) : Prop := ∀ H1, ExtN H H1 → Tabs T H1 → ∀ Q : VK, (∀ p xs H2, ExtN H1 H2 → Tabs T H2 → H2 p = some (.lst xs) → DpAll K H2 xs ds → Q (.ref p) H2) → te σ H1 Q
theorem EvTL.d {te : TE} {ds : List PyData} (h : EvTL K T te σ H ds) : EvT K T te σ H (.list ds) := fun H1 g t Q q => h H1 g t Q fun p xs H2 g2 t2 e a => q _ H2 g2 t2 (dp_lst e a)
/-- what makes no lambda, whatever stands -/
theorem et_of {te : TE} {d : PyData} (h : ∀ H, EvD K te σ H d) : EvT K T te σ H d := fun H1 _ t Q q => h H1 H1 (Gr.refl _ _) Q fun v H2 g2 a => q v H2 (extOf g2) (tabsGr t g2) a
theorem el_of {te : TE} {ds : List PyData} (h : ∀ H, EvL K te σ H ds) : EvTL K T te σ H ds := fun H1 _ t Q q => h H1 H1 (Gr.refl _ _) Q fun p xs H2 g2 e a => q p xs H2 (extOf g2) (tabsGr t g2) e a
theorem et_var {i : Nat} {v : V} {d : PyData} (e : σ[i]? = some (some v)) (h : Dp K H v d) : EvT K T (tVar i) σ H d := fun H1 g t Q q => ⟨v, e, q v H1 (ExtN.refl _) t (Dp.kp (kpExt g) h)⟩
theorem etl_var {i : Nat} {p : Addr} {xs : List V} {ds : List PyData} (e : σ[i]? = some (some (.ref p))) (h : H p = some (.lst xs)) (a : DpAll K H xs ds) : EvTL K T (tVar i) σ H ds :=
  fun H1 g t Q q => ⟨_, e, q p xs H1 (ExtN.refl _) t (ExtN.lst g h) (DpAll.kp (kpExt g) a)⟩
theorem ets_nil : EvTS K T tNil σ H [] := fun H1 _ t Q q => q _ H1 (ExtN.refl _) t .nil
theorem ets_cons {te : TE} {ta : TA} {d : PyData} {ds : List PyData} (h : EvT K T te σ H d) (r : EvTS K T ta σ H ds) : EvTS K T (tCons te ta) σ H (d :: ds) := fun H1 g t Q q =>
  h H1 g t _ fun v H2 g2 t2 dv => r H2 (g.trans g2) t2 _ fun vs H3 g3 t3 dvs => q _ H3 (g2.trans g3) t3 (.cons (Dp.kp (kpExt g3) dv) dvs)
theorem et_tup {ta : TA} {ds : List PyData} (h : EvTS K T ta σ H ds) (hz : ds.length ≤ 1000 := by exact Nat.le_of_ble_eq_true rfl) : EvT K T (tTup ta) σ H (.tuple ds) := fun H1 g t Q q =>
  h H1 g t _ fun vs H2 g2 t2 a => ⟨by rw [dpAll_len a]; exact Nat.le_of_lt (small1000 hz), fun p np => q _ _ (g2.trans (extOf (Gr.new np))) (tabsGr t2 (Gr.new np)) (dp_tup upd_same (DpAll.kp (Kp.of (Gr.new np)) a))⟩
theorem etl_lst {ta : TA} {ds : List PyData} (h : EvTS K T ta σ H ds) (hz : ds.length ≤ 1000 := by exact Nat.le_of_ble_eq_true rfl) : EvTL K T (tLst ta) σ H ds := fun H1 g t Q q =>
  h H1 g t _ fun vs H2 g2 t2 a => ⟨by rw [dpAll_len a]; exact Nat.le_of_lt (small1000 hz), fun p np => q _ _ _ (g2.trans (extOf (Gr.new np))) (tabsGr t2 (Gr.new np)) upd_same (DpAll.kp (Kp.of (Gr.new np)) a)⟩
theorem etl_cat {ta tb : TE} {ds es : List PyData} (h1 : EvTL K T ta σ H ds) (h2 : EvTL K T tb σ H es) (hz : ds.length + es.length ≤ 1000 := by exact Nat.le_of_ble_eq_true rfl) : EvTL K T (tOp rCat ta tb) σ H (ds ++ es) := fun H1 g t Q q =>
  h1 H1 g t _ fun p xs H2 g2 t2 e2 a2 => h2 H2 (g.trans g2) t2 _ fun p3 ys H3 g3 t3 e3 a3 => by
    have e2' := ExtN.lst g3 e2
    refine ⟨p, p3, xs, ys, rfl, rfl, e2', e3, by rw [dpAll_len a2, dpAll_len a3]; exact Nat.le_of_lt (small1000 hz), fun p4 np => ?_⟩
    exact q p4 _ _ ((g2.trans g3).trans (extOf (Gr.new np))) (tabsGr t3 (Gr.new np)) upd_same (dpAll_append (DpAll.kp (kpExt (g3.trans (extOf (Gr.new np)))) a2) (DpAll.kp (Kp.of (Gr.new np)) a3))
theorem et_eq {ta tb : TE} {d e : PyData} (h1 : EvT K T ta σ H d) (h2 : EvT K T tb σ H e) (s1 : SeqAt.shaped d = true) (s2 : SeqAt.shaped e = true) : EvT K T (tOp (rEqD K) ta tb) σ H (.bool (PyData.eqv d e)) := fun H1 g t Q q =>
  h1 H1 g t _ fun v H2 g2 t2 a => h2 H2 (g.trans g2) t2 _ fun w H3 g3 t3 b => ⟨d, e, Dp.kp (kpExt g3) a, b, s1, s2, q _ H3 (g2.trans g3) t3 (.bl _)⟩
theorem et_ne {ta tb : TE} {d e : PyData} (h1 : EvT K T ta σ H d) (h2 : EvT K T tb σ H e) (s1 : SeqAt.shaped d = true) (s2 : SeqAt.shaped e = true) : EvT K T (tOp (rNeD K) ta tb) σ H (.bool (!PyData.eqv d e)) := fun H1 g t Q q =>
  h1 H1 g t _ fun v H2 g2 t2 a => h2 H2 (g.trans g2) t2 _ fun w H3 g3 t3 b => ⟨d, e, Dp.kp (kpExt g3) a, b, s1, s2, q _ H3 (g2.trans g3) t3 (.bl _)⟩
/-- what comes of a lambda whose body gives d -/
theorem et_out {es : List (Addr × Str × Str)} {t : XK → TE} {d : PyData} (h : ∀ E H, EvD K (t E) σ H d) : EvT K T (tLam T (TTg es) t) σ H (.list [d]) := fun H1 _ t1 Q q =>
  ⟨t1, fun H2 g2 t2 H3 Qn E g3 kn _ => h E H3 H3 (Gr.refl _ _) Qn fun v H4 g4 a => kn v H4 fun p np =>
    q _ _ (g2.trans (extOf ((g3.trans g4).trans (Gr.new np)))) (tabsGr t2 ((g3.trans g4).trans (Gr.new np))) (dp_lst upd_same (.cons (Dp.kp (Kp.of (Gr.new np)) a) .nil))⟩
/-- .. whose body raises an error with the value d -/
theorem et_outE {es : List (Addr × Str × Str)} {t : XK → TE} {d : PyData} {C : Addr} {f w : Str} (hm : (C, f, w) ∈ es)
    (h : ∀ (E : XK) (H1 : Hp) (Q : VK), (∀ (dd : Addr) (v : V) H2, Gr [] H1 H2 → H2 dd = some (.xd [(f, v)]) → Dp K H2 v d → E (.ref C) (some dd) H2) → t E σ H1 Q) : EvT K T (tLam T (TTg es) t) σ H (.tuple [.str w, d]) := fun H1 _ t1 Q q =>
  ⟨t1, fun H2 g2 t2 H3 Qn E g3 _ ke => h E H3 Qn fun dd v H4 g4 hd a => ke C dd f w v H4 hm hd fun t' H5 g5 h5 =>
    q _ _ (g2.trans (extOf ((g3.trans g4).trans g5))) (tabsGr t2 ((g3.trans g4).trans g5)) (dp_tup h5 (.cons (.str _) (.cons (Dp.kp (Kp.of g5) a) .nil)))⟩
theorem stt_asgL {te : TE} {i : Nat} {ds : List PyData} {D : Ends} (t : Tabs T H) (h : EvTL K T te σ H ds) (k : ∀ p xs H2, ExtN H H2 → Tabs T H2 → H2 p = some (.lst xs) → DpAll K H2 xs ds → D.nx (σ.set i (some (.ref p))) H2) : tAsg te (gName i) D σ H := h H (ExtN.refl _) t _ k
theorem stt_retB {te : TE} {b : Bool} {D : Ends} (t : Tabs T H) (h : EvT K T te σ H (.bool b)) (k : ∀ H2, ExtN H H2 → Tabs T H2 → D.rt (.bl b) H2) : tRet te D σ H := h H (ExtN.refl _) t _ fun v H2 g t2 e => by rw [dp_bool e]; exact k H2 g t2
theorem ttt_of {te : TE} {b : Bool} {H1 : Hp} {Q : Bool → Hp → Prop} (t : Tabs T H1) (h : EvT K T te σ H (.bool b)) (g : ExtN H H1) (q : ∀ H2, ExtN H1 H2 → Tabs T H2 → Q b H2) : tTest te σ H1 Q := h H1 g t _ fun v H2 g2 t2 e => ⟨b, dp_bool e, q H2 g2 t2⟩
theorem ttb_of {te : TE} {b : Bool} {H1 : Hp} {Q : Bool → Hp → Prop} (t : Tabs T H1) (h : EvT K T te σ H (.bool b)) (g : ExtN H H1) (q : ∀ H2, ExtN H1 H2 → Tabs T H2 → Q b H2) : tB te σ H1 Q := h H1 g t _ fun v H2 g2 t2 e => ⟨b, dp_bool e, q H2 g2 t2⟩
theorem et_andV {ta tb : TE} {a b : Bool} (h1 : EvT K T ta σ H (.bool a)) (h2 : EvT K T tb σ H (.bool b)) : EvT K T (tAndV ta tb) σ H (.bool (a && b)) := fun H1 g t Q q =>
  h1 H1 g t _ fun v H2 g2 t2 e => ⟨a, dp_bool e, by
    cases a with
    | true => exact iteT (h2 H2 (g.trans g2) t2 _ fun w H3 g3 t3 e3 => q w H3 (g2.trans g3) t3 e3)
    | false => exact iteF (q _ H2 g2 t2 (.bl false))⟩
theorem et_orV {ta tb : TE} {a b : Bool} (h1 : EvT K T ta σ H (.bool a)) (h2 : EvT K T tb σ H (.bool b)) : EvT K T (tOrV ta tb) σ H (.bool (a || b)) := fun H1 g t Q q =>
  h1 H1 g t _ fun v H2 g2 t2 e => ⟨a, dp_bool e, by
    cases a with
    | true => exact iteT (q _ H2 g2 t2 (.bl true))
    | false => exact iteF (h2 H2 (g.trans g2) t2 _ fun w H3 g3 t3 e3 => q w H3 (g2.trans g3) t3 e3)⟩
end
end Wn
namespace Wn
open PySem PySem.Spec PyProof.Rows L2 LamX
theorem tabsGrM {T : List (Addr × Str)} {H H' : Hp} {d : Addr} (t : Tabs T H) (g : Gr [d] H H') (h : ∃ kvs, H d = some (.dK kvs)) : Tabs T H' := fun p hp => by
  obtain ⟨kvs, hd⟩ := h
  obtain ⟨ps, h1, h2, h3⟩ := t p hp
  refine ⟨ps, g _ _ (by simp; exact ne_of h1 hd (by intro z; cases z)) h1, h2, fun pos cv hc => ?_⟩
  obtain ⟨c, e1, e2⟩ := h3 pos cv hc
  exact ⟨c, e1, g _ _ (by simp; exact ne_of e2 hd (by intro z; cases z)) e2⟩
theorem tabs0 {T : List (Addr × Str)} {H : Hp} (h : ∀ p ∈ T, H p.1 = some (.tbl #[])) : Tabs T H := fun p hp =>
  ⟨#[], h p hp, by trivial, fun pos cv hc => by cases hc⟩
def tInts : List Int → TA
  | [] => tNil
  | i :: r => tCons (tC (.int i)) (tInts r)
theorem tInts_go {σ : L2.St} {H : Hp} : ∀ {is : List Int} {Q : List V → Hp → Prop}, Q (is.map V.int) H → tInts is σ H Q
  | [], _, q => q
  | i :: r, Q, q => tInts_go (is := r) (Q := fun vs H2 => Q (.int i :: vs) H2) q
section
variable {K : PySem.W.Frag} {T : List (Addr × Str)} {σ : L2.St} {H : Hp}
theorem ev_powN {a c : Nat} (h : CPow a c) : EvD K (tOp (rI CPow fun i j => .int (i ^ j.toNat)) (tC (.int (a : Nat))) (tC (.int (c : Nat)))) σ H (.int ((a ^ c : Nat) : Int)) := fun H1 _ Q q => ⟨a, c, rfl, rfl, h, by
  have e : ((a : Nat) : Int) ^ ((c : Nat) : Int).toNat = ((a ^ c : Nat) : Int) := by rw [Int.toNat_natCast, Int.natCast_pow]
  show Q (.int (((a : Nat) : Int) ^ ((c : Nat) : Int).toNat)) H1
  rw [e]
  exact q _ H1 (Gr.refl _ _) (.int _)⟩
theorem ev_pow {a c : Int} (h : CPow a c) : EvD K (tOp (rI CPow fun i j => .int (i ^ j.toNat)) (tC (.int a)) (tC (.int c))) σ H (.int (a ^ c.toNat)) := fun H1 _ Q q => ⟨a, c, rfl, rfl, h, q _ H1 (Gr.refl _ _) (.int _)⟩
end
end Wn
namespace Wn
open PySem PySem.Spec PyProof.Rows L2
theorem tab_mk {K : PySem.W.Frag} {x : Str} {f c P : Addr} {oc c1 : Value} {od d1 : Option Addr} {fd : FuncData} {sl s1 : Array (Option Value)} {vs : Array Value} (a : PySem.W.nsIn K mainGlobals x = some (some (.ref f))) (l : K.lookup f = some ⟨oc, od, .func fd, sl⟩) (e : fd.code = .ref c)
    (l2 : K.lookup c = some ⟨c1, d1, .fields vs, s1⟩) (h : vs[11]? = some (.ref P)) : PySem.W.tabIn K x = some (c, P) := by
  unfold PySem.W.tabIn
  rw [a]
  dsimp only
  rw [l]
  dsimp only
  rw [e]
  dsimp only
  rw [l2]
  dsimp only
  rw [h]
end Wn
namespace Wn
open PySem PySem.Spec PyProof.Rows L2 LamX
section
variable {K : PySem.W.Frag} {T : List (Addr × Str)} {σ : L2.St} {H : Hp} {es : List (Addr × Str × Str)} {t : XK → TE} {d : PyData}
/-- .. over what stands here -/
theorem et_outV (h : ∀ (E : XK) (H1 : Hp), ExtN H H1 → ∀ Q : VK, (∀ v H2, Gr [] H1 H2 → Dp K H2 v d → Q v H2) → t E σ H1 Q) : EvT K T (tLam T (TTg es) t) σ H (.list [d]) := fun H1 g0 t1 Q q =>
  ⟨t1, fun H2 g2 t2 H3 Qn E g3 kn _ => h E H3 ((g0.trans g2).trans (extOf g3)) Qn fun v H4 g4 a => kn v H4 fun p np =>
    q _ _ (g2.trans (extOf ((g3.trans g4).trans (Gr.new np)))) (tabsGr t2 ((g3.trans g4).trans (Gr.new np))) (dp_lst upd_same (.cons (Dp.kp (Kp.of (Gr.new np)) a) .nil))⟩
theorem et_outX {C : Addr} {f w : Str} (hm : (C, f, w) ∈ es)
    (h : ∀ (E : XK) (H1 : Hp), ExtN H H1 → ∀ (Q : VK), (∀ (dd : Addr) (v : V) H2, Gr [] H1 H2 → H2 dd = some (.xd [(f, v)]) → Dp K H2 v d → E (.ref C) (some dd) H2) → t E σ H1 Q) : EvT K T (tLam T (TTg es) t) σ H (.tuple [.str w, d]) := fun H1 g0 t1 Q q =>
  ⟨t1, fun H2 g2 t2 H3 Qn E g3 _ ke => h E H3 ((g0.trans g2).trans (extOf g3)) Qn fun dd v H4 g4 hd a => ke C dd f w v H4 hm hd fun t' H5 g5 h5 =>
    q _ _ (g2.trans (extOf ((g3.trans g4).trans g5))) (tabsGr t2 ((g3.trans g4).trans g5)) (dp_tup h5 (.cons (.str _) (.cons (Dp.kp (Kp.of g5) a) .nil)))⟩
theorem EvT.on {te : TE} {H' : Hp} (h : EvT K T te σ H d) (g : ExtN H H') : EvT K T te σ H' d := fun H1 g1 t1 Q q => h H1 (g.trans g1) t1 Q q
end
end Wn
namespace Wn
open PySem PySem.Spec PyProof.Rows L2 LamX
section
variable {K : PySem.W.Frag} {T : List (Addr × Str)} {σ : L2.St} {H : Hp}
/-- the first part of «or» in a test, false -/
theorem ttt_orL {te : TE} {u : TT} {b : Bool} {Q : Bool → Hp → Prop} (t : Tabs T H) (h : EvT K T te σ H (.bool b)) (hb : b = false) (q : ∀ H2, ExtN H H2 → Tabs T H2 → u σ H2 Q) : tOr (tTest te) u σ H Q := h H (ExtN.refl _) t _ fun v H2 g2 t2 e => ⟨b, dp_bool e, iteFb hb (q H2 g2 t2)⟩
end
end Wn
namespace Wn
open PySem PySem.Spec PyProof.Rows L2
/-! a list grown: data in which no list of its size stands, stay -/
mutual
def noLen (n : Nat) : PyData → Bool
  | .list xs => decide (xs.length ≠ n) && noLenAll n xs
  | .tuple xs => noLenAll n xs
  | _ => true
def noLenAll (n : Nat) : List PyData → Bool
  | [] => true
  | x :: xs => noLen n x && noLenAll n xs
end
mutual
theorem Dp.app {K : PySem.W.Frag} {H : Hp} {l : Addr} {xs : List V} {y : V} (h : H l = some (.lst xs)) : ∀ {v : V} {d : PyData}, Dp K H v d → noLen xs.length d = true → Dp K (upd H l (.lst (xs ++ [y]))) v d
  | _, _, .non, _ => .non
  | _, _, .bl b, _ => .bl b
  | _, _, .int i, _ => .int i
  | _, _, .str z, _ => .str z
  | _, _, .lst (a := a) (xs := zs) (ds := ds) s t, n => by
    rw [noLen, Bool.and_eq_true, decide_eq_true_eq] at n
    have hl := dpAll_len t
    refine .lst ?_ (DpAll.app h t n.2)
    rcases s with (s | ⟨o, s⟩) | s
    · by_cases e : a = l
      · subst e
        rw [h] at s
        cases s
        exact absurd hl.symm n.1
      · exact .inl (.inl (by rw [upd_ne e]; exact s))
    · exact .inl (.inr ⟨o, by rw [upd_ne (fun e => by rw [e, h] at s; cases s)]; exact s⟩)
    · exact .inr s
  | _, _, .tup (a := a) (xs := zs) (ds := ds) s t, n => by
    rw [noLen] at n
    refine .tup ?_ (DpAll.app h t n)
    rcases s with (s | ⟨o, s⟩) | s
    · exact .inl (.inl (by rw [upd_ne (fun e => by rw [e, h] at s; cases s)]; exact s))
    · exact .inl (.inr ⟨o, by rw [upd_ne (fun e => by rw [e, h] at s; cases s)]; exact s⟩)
    · exact .inr s
theorem DpAll.app {K : PySem.W.Frag} {H : Hp} {l : Addr} {xs : List V} {y : V} (h : H l = some (.lst xs)) : ∀ {vs : List V} {ds : List PyData}, DpAll K H vs ds → noLenAll xs.length ds = true → DpAll K (upd H l (.lst (xs ++ [y]))) vs ds
  | _, _, .nil, _ => .nil
  | _, _, .cons a b, n => by
    rw [noLenAll, Bool.and_eq_true] at n
    exact .cons (Dp.app h a n.1) (DpAll.app h b n.2)
end
/-- the tables stay where a list grows -/
theorem tabsApp {T : List (Addr × Str)} {H : Hp} {l : Addr} {xs ys : List V} (t : LamX.Tabs T H) (h : H l = some (.lst xs)) : LamX.Tabs T (upd H l (.lst ys)) := fun p hp => by
  obtain ⟨ps, h1, h2, h3⟩ := t p hp
  refine ⟨ps, by rw [upd_ne (ne_of h1 h (by intro z; cases z))]; exact h1, h2, fun pos cv hc => ?_⟩
  obtain ⟨c, e1, e2⟩ := h3 pos cv hc
  exact ⟨c, e1, by rw [upd_ne (ne_of e2 h (by intro z; cases z))]; exact e2⟩
end Wn
namespace Wn
open PySem PySem.Spec PyProof.Rows L2 LamX
section
variable {K : PySem.W.Frag} {T : List (Addr × Str)} {σ : L2.St} {H : Hp}
theorem noLenAll_app (n : Nat) : ∀ xs ys : List PyData, noLenAll n (xs ++ ys) = (noLenAll n xs && noLenAll n ys)
  | [], ys => by simp [noLenAll]
  | x :: xs, ys => by
    have ih := noLenAll_app n xs ys
    show noLenAll n (x :: (xs ++ ys)) = _
    rw [noLenAll, noLenAll, ih, Bool.and_assoc]
/-- l.append(e) -/
theorem stt_app {te : TE} {i : Nat} {l : Addr} {xs : List V} {ds : List PyData} {d : PyData} {D : Ends} (t : Tabs T H) (hi : σ[i]? = some (some (.ref l))) (e : H l = some (.lst xs)) (a : DpAll K H xs ds) (h : EvT K T te σ H d) (hn : noLenAll ds.length (ds ++ [d]) = true) (hz : ds.length < 1000)
    (k : ∀ ys H2, Tabs T H2 → H2 l = some (.lst ys) → DpAll K H2 ys (ds ++ [d]) → D.nx σ H2) : tDrop (tBM K "list" rAppend (tVar i) (tCons te tNil)) D σ H := by
  refine ⟨_, hi, .inl ⟨rfl, _, sq_lst e⟩, ?_⟩
  refine h H (ExtN.refl _) t _ fun v H2 g2 t2 dv => ?_
  have hl := dpAll_len a
  have e2 := ExtN.lst g2 e
  have a2 := DpAll.kp (kpExt g2) a
  rw [noLenAll_app, Bool.and_eq_true] at hn
  have n2 : noLen ds.length d = true := by
    have := hn.2
    rw [noLenAll, Bool.and_eq_true] at this
    exact this.1
  refine ⟨l, xs, v, rfl, rfl, e2, Nat.lt_of_lt_of_le (show xs.length < 6000 by omega) (by decide), ?_⟩
  refine k (xs ++ [v]) _ (tabsApp t2 e2) upd_same (dpAll_append (DpAll.app e2 a2 (by rw [hl]; exact hn.1)) (.cons (Dp.app e2 dv (by rw [hl]; exact n2)) .nil))
theorem stt_set {te : TE} {i : Nat} {d : PyData} {D : Ends} (t : Tabs T H) (h : EvT K T te σ H d) (k : ∀ v H2, ExtN H H2 → Tabs T H2 → Dp K H2 v d → D.nx (σ.set i (some v)) H2) : tAsg te (gName i) D σ H := h H (ExtN.refl _) t _ k
theorem et_repr {te : TE} {d : PyData} (h : EvT K T te σ H d) (f : Fits d) : EvT K T (tCB (rRepr K) (tCons te tNil)) σ H (.str d.shown) := fun H1 g t Q q =>
  h H1 g t _ fun v H2 g2 t2 a => ⟨v, d, rfl, a, f, q _ H2 g2 t2 (.str _)⟩
/-- two texts compared -/
theorem et_eqS {ta tb : TE} {x y : Str} (h1 : EvT K T ta σ H (.str x)) (h2 : EvT K T tb σ H (.str y)) : EvT K T (tOp rEq ta tb) σ H (.bool (decide (x = y))) := fun H1 g t Q q =>
  h1 H1 g t _ fun v H2 g2 t2 a => h2 H2 (g.trans g2) t2 _ fun w H3 g3 t3 b => by
    have e1 : v = .str x := by cases a; rfl
    have e2 : w = .str y := by cases b; rfl
    subst e1 e2
    refine ⟨rfl, ?_⟩
    have e3 : decide (V.str x = V.str y) = decide (x = y) := by
      rw [decide_eq_decide]
      exact ⟨fun z => V.str.inj z, fun z => by rw [z]⟩
    show Q (.bl (decide (V.str x = V.str y))) H3
    rw [e3]
    exact q _ H3 (g2.trans g3) t3 (.bl _)
end
end Wn
namespace Wn
open PySem PySem.Spec PyProof.Rows L2
open PySem.HandSPX
section
variable {X : Cx} {C : Addr} {f : Str}
/-- error.f, the error that the suite holds (at a; its class cls, its dict d) -/
def tByE (C : Addr) (f : Str) (a : Addr) (cls : Value) (d : Option Addr) (te : TE) : TE := fun σ H Q => te σ H fun x H1 => x = .ref a ∧ cls = .ref C ∧ ∃ (dd : Addr) (v : V), d = some dd ∧ H1 dd = some (.xd [(f, v)]) ∧ Q v H1
theorem pe_byE {a : Addr} {oe : Obj} {cls : Value} {d : Option Addr} {pn : List (Addr × Obj)} {e : Expr} {te : TE} {pos : Pos} (T : XfC X.K C) (hno : PySem.W.findIn X.K (.ref C) f = some none) (hz : Zc cls d oe) (hf : ∃ vs, oe.data = .fields vs) (he : PE (X.suite a ((a, oe) :: pn)) e te)
    (hb : attributeBase e f X.env (eval e X.env) = eval e X.env := by rfl) :
    PE (X.suite a ((a, oe) :: pn)) (.Attribute e f pos) (tByE C f a cls d te) := by
  refine ⟨fun pins s σ H Q I h => ?_⟩
  refine attr_of hb (thn (he.run pins s σ H _ I h) fun u s1 hh => ?_)
  obtain ⟨x, H1, I1, rx, ex, ec, dd, v, ed, ea, q⟩ := hh
  subst ex
  obtain rfl : u = Value.ref a := rx
  subst ec
  subst ed
  obtain ⟨ha, _⟩ := I1.pin (a, oe) (List.mem_append_left _ List.mem_cons_self)
  obtain ⟨vs, hd⟩ := hf
  have hx : ObjOk X.prog X.w H1 s1.heap dd (.xd [(f, v)]) := I1.hok dd _ ea
  obtain ⟨mA, hns, hr⟩ := hx
  obtain ⟨od, ho, hl⟩ := lookIn_ns hns
  have l : List.lookup f [(f, v)] = some v := by simp [List.lookup]
  obtain ⟨u, hu, ru⟩ := RelO.some_of (v := v) (o := mA f) (by rw [← l]; exact hr f)
  have J : PySem.W.InstAt s1.heap a oe C (some od) := ⟨ha, hz.1, by unfold PySem.W.notCls; rw [hd] <;> rfl, by rw [hz.2]; exact ho⟩
  exact PySem.HandSPX.exc_get I1.kIn J T.ga T.gg T.exC (PySem.W.findObj_own T.hdC hno rfl (by rw [hl, hu])) (handed_of ru) ⟨v, H1, I1.tok _, ru, q⟩
end
section
variable {X : Cx}
def rLcm : List V → Hp → VK → Prop := fun vs H Q => ∃ a b : Nat, vs = [.int a, .int b] ∧ (a ≤ 100000 ∧ b ≤ 100000) ∧ Q (.int ((Nat.lcm a b : Nat) : Int)) H
theorem cr_lcm : CallR X (.builtin "math.lcm") rLcm := by
  intro pins s σ H vs us Q I r h
  obtain ⟨a, b, rfl, ⟨ha, hb⟩, q⟩ := h
  obtain ⟨t, u, rfl⟩ := Vals.int2 r
  have e : (((Nat.lcm 1 (a : Int).natAbs).lcm (b : Int).natAbs : Nat) : Int) = ((Nat.lcm a b : Nat) : Int) := by
    rw [Int.natAbs_natCast, Int.natAbs_natCast, Nat.lcm_one_left]
  refine PySem.W.mg_lcm (by rw [Int.natAbs_natCast]; omega) (by rw [Int.natAbs_natCast]; omega) ?_ ?_
  · rw [e, Int.natAbs_natCast]
    have h1 : Nat.lcm a b ≤ a * b := by
      unfold Nat.lcm
      exact Nat.div_le_self _ _
    have h2 : a * b ≤ 100000 * 100000 := Nat.mul_le_mul ha hb
    have h3 : Nat.lcm a b < 2 ^ 40 := Nat.lt_of_le_of_lt (Nat.le_trans h1 h2) (by decide)
    exact Nat.lt_trans (PySem.Flt.log2_lt_of (by decide) h3) (by decide)
  · rw [e]
    exact ⟨.int _, H, I.tok _, ⟨_, rfl⟩, q⟩
/-- t.index(x), ints, the first place -/
def rIdxT (K : PySem.W.Frag) : V → List V → Hp → VK → Prop := fun x xs H Q => ∃ (p : Addr) (ys : List Nat) (z j : Nat), x = .ref p ∧ xs = [.int (z : Nat)] ∧ SqT K H p (vn ys) ∧ ys[j]? = some z ∧ (∀ m, m < j → ys[m]? ≠ some z) ∧ Q (.int (j : Nat)) H
theorem flat_vnT : ∀ xs : List Nat, (vn xs).all flatV = true
  | [] => rfl
  | x :: r => by
    show (true && (vn r).all flatV) = true
    rw [flat_vnT r]
    rfl
theorem mt_tup_indexN : MtR X "tuple.index" (rIdxT X.K) := by
  intro pins s σ H x xs v us Q I rx rs h
  obtain ⟨p, ys, z, j, rfl, rfl, hq, hy, hno, q⟩ := h
  cases rx
  obtain ⟨u, rfl, t, rfl⟩ := vals1 rs
  obtain ⟨its, r, pl, hz⟩ := I.tuple hq
  obtain ⟨⟨cls, dd, dt, sl⟩, ho, hc, n, hd⟩ := pl
  simp only at hc hd
  subst hc
  subst hd
  have hl : its.toArray.size = ys.length := by rw [List.size_toArray, ← r.length, vn_len]
  have hj : j < its.toArray.size := by rw [hl]; exact (List.getElem?_eq_some_iff.mp hy).1
  have at' : ∀ (m : Nat) (hm : m < its.toArray.size), ∃ (y : Nat) (t' : Tok), ys[m]? = some y ∧ its.toArray[m] = Value.int (y : Nat) t' := fun m hm => by
    have hm' : m < ys.length := by rw [← hl]; exact hm
    obtain ⟨w, hw, t', hw'⟩ := r.get (i := m) (x := .int (ys[m] : Nat)) (by simp [vn, hm'])
    refine ⟨ys[m], t', List.getElem?_eq_getElem hm', ?_⟩
    have e := (List.getElem?_eq_some_iff.mp hw).2
    rw [← hw', ← e]
    simp
  refine call_meets PySem.F.slot_tuple_index ⟨_, ho, rfl⟩ PySem.F.entry_tuple_index (PySem.F.args_tuple_index_2 _ _) (TI.tuple_indexAt p its.toArray n dd sl (.int (z : Nat) t) (eqU (.int (z : Nat))) j hj ?_ ?_)
    ⟨ho, fun w hw => mem_eqAt (x := .int (z : Nat)) ⟨t, rfl⟩ rfl r (flat_vnT ys) w (by simpa using hw), ⟨.int (j : Nat), H, I.tok _, ⟨_, rfl⟩, q⟩⟩
  · obtain ⟨y, t', h1, h2⟩ := at' j hj
    rw [hy] at h1
    cases h1
    rw [h2]
    show (((z : Nat) : Int) == ((z : Nat) : Int)) = true
    exact beq_self_eq_true _
  · intro m hm hmj
    obtain ⟨y, t', h1, h2⟩ := at' m hm
    rw [h2]
    show (((y : Nat) : Int) == ((z : Nat) : Int)) = false
    rw [beq_eq_false_iff_ne]
    intro e
    have : y = z := by omega
    exact hno m hmj (by rw [h1, this])
/-- tuple(xs), xs a list: the object is known whole, so that its methods may be called -/
def rTpF (K : PySem.W.Frag) : List V → Hp → VK → Prop := fun xs H Q => ∃ p ys, xs = [.ref p] ∧ SqL K H p ys ∧ ∀ l o, o.dict = none → H l = none → Q (.ref l) (upd H l (.frz o (.tup ys)))
theorem call_tpF : CallR X (.type "tuple") (rTpF X.K) := by
  intro pins s σ H xs us Q I r h
  obtain ⟨p, ys, rfl, hq, q⟩ := h
  obtain ⟨u, rfl, rx⟩ := vals1 r
  cases rx
  obtain ⟨its, r', pl, hz⟩ := I.list hq
  have hlen := r'.length
  refine call_tuple_list pl.isList (fun h' kp => ?_) (by simp only [List.size_toArray] <;> omega)
  have I1 : Inv X pins σ H { s with heap := h' } := I.kept (t' := s.toks) kp
  have I2 : Inv X pins σ (upd H h'.objs.size (.frz { cls := .type "tuple", data := .seq its.toArray } (.tup ys))) { s with heap := h'.push { cls := .type "tuple", data := .seq its.toArray } } :=
    I1.laid (t' := s.toks) (fun b o e => Heap.get?_push_of_some _ e) (Nat.le_refl _) (show ObjOk X.prog X.w _ _ _ (.frz { cls := .type "tuple", data := .seq its.toArray } (.tup ys)) from ⟨Heap.get?_push_size _ rfl, hz, its, r', IsTup.new _ _⟩)
  exact ⟨.ref h'.objs.size, _, I2, rfl, q _ _ rfl (I1.hok.fresh (Nat.le_refl _))⟩
variable {name : Str} {idn : String} {r : V → List V → Hp → VK → Prop} {o e : Expr} {es : List Expr} {to : TE} {t : TA} {apos cpos : Pos}
def tBMT (r : V → List V → Hp → VK → Prop) (to : TE) (t : TA) : TE := fun σ H Q => to σ H fun x H1 => (∃ (p : Addr) (ob : Obj) (xs : List V), x = .ref p ∧ H1 p = some (.frz ob (.tup xs)) ∧ ob.dict = none) ∧ t σ H1 fun xs H2 => r x xs H2 Q
theorem pe_bmT (pa : PlainAttrs "tuple") (slot : Slot "tuple" name idn) (hty : typeOf (.builtin idn) = pure (.type "method_descriptor")) (hm : MtR X idn r) (ho : PE X o to) (ha : PA X (e :: es) t)
    (hbase : attributeBase o name X.env (eval o X.env) = eval o X.env := by rfl)
    (hfew : ((backTo cpos (starEach (e :: es) X.env)).all (fun x => !x.1) && (backToKw cpos (keywordEach [] X.env)).all (fun x => x.1.isSome)
      && decide ((e :: es).length + ([] : List Keyword).length + (if ([] : List Keyword).isEmpty then 0 else 1) < 30)) = true := by rfl)
    (hline : (apos.endLine == cpos.line) = true := by rfl) (hs : starEach (e :: es) X.env = (false, eval e X.env) :: starEach es X.env := by rfl) (hplain : (backTo cpos (starEach es X.env)).any (·.1) = false := by rfl) :
    PE X (.Call (.Attribute o name apos) (e :: es) [] cpos) (tBMT r to t) := by
  refine ⟨fun pins s σ H Q I h => ?_⟩
  refine wpAny_Call_method_late hbase hfew hline rfl (thn (ho.run pins s σ H _ I h) fun v s1 ⟨x, H1, I1, r1, ty, q1⟩ => ?_)
  obtain ⟨p, ob, xs, rfl, hp, hd⟩ := ty
  obtain rfl : v = Value.ref p := r1
  obtain ⟨hg, _, its, _, o2, hg2, hc2, _⟩ := I1.hok p _ hp
  rw [hg] at hg2
  cases hg2
  have h1 : s1.TypeIs (.ref p) "tuple" := ⟨ob, hg, hc2⟩
  have h2 : ∀ a, Value.ref p = .ref a → ∃ ob, s1.heap.get? a = some ob ∧ ob.dict = none := fun a e => by
    cases e
    exact ⟨ob, hg, hd⟩
  refine ⟨"tuple", idn, pa, slot, hty, h1, h2, ?_⟩
  have hA := ha.run cpos pins s1 σ H1 _ I1 q1
  rw [hs] at hA ⊢
  refine Calls.callWith_builtin (by show (false || (backTo cpos (starEach es X.env)).any (·.1)) = false; rw [hplain] <;> rfl) (Calls.evalArgs_plain ?_)
  exact thn hA fun us s2 ⟨vs, H2, I2, r2, q2⟩ => hm pins s2 σ H2 (.ref p) vs (.ref p) us Q I2 rfl r2 q2
end
end Wn
/-! values beside lists that still grow: the heap without them; expressions over it -/
namespace Wn
open PySem PySem.Spec PyProof.Rows L2

def di (xs : List Nat) : PyData := .tuple ((ni xs).map PyData.int)
theorem sm_ni {xs : List Nat} {m : Nat} (h : ∀ k ∈ xs, k < 8192) (hm : xs.length ≤ m) : Sm (di xs) 13 1 (m * 14) := by
  refine Sm.tup (W := 13) m (fun d hd => ?_) (by unfold ni; rw [List.length_map, List.length_map]; exact hm)
  obtain ⟨z, hz, rfl⟩ := List.mem_map.mp hd
  obtain ⟨k, hk, rfl⟩ := List.mem_map.mp hz
  exact Sm.int (by decide) (by rw [Int.natAbs_natCast]; exact h k hk) (by decide)
theorem sml_ni {xs : List Nat} {m : Nat} (h : ∀ k ∈ xs, k < 8192) (hm : xs.length ≤ m) : Sm (.list ((ni xs).map PyData.int)) 13 1 (m * 14) := by
  refine Sm.lst (W := 13) m (fun d hd => ?_) (by unfold ni; rw [List.length_map, List.length_map]; exact hm)
  obtain ⟨z, hz, rfl⟩ := List.mem_map.mp hd
  obtain ⟨k, hk, rfl⟩ := List.mem_map.mp hz
  exact Sm.int (by decide) (by rw [Int.natAbs_natCast]; exact h k hk) (by decide)
theorem dp_vnT {K : PySem.W.Frag} {H : Hp} {t : Addr} {xs : List Nat} (h : H t = some (.tup (vn xs))) : Dp K H (.ref t) (di xs) := by
  rw [vn_ni] at h
  exact dp_tup h (dpAll_ints _)
theorem dp_vnL {K : PySem.W.Frag} {H : Hp} {t : Addr} {xs : List Nat} (h : H t = some (.lst (vn xs))) : Dp K H (.ref t) (.list ((ni xs).map PyData.int)) := by
  rw [vn_ni] at h
  exact dp_lst h (dpAll_ints _)

/-! values beside lists that still grow: the heap without them -/
def hid (W : List Addr) (H : Hp) : Hp := fun a => if a ∈ W then none else H a
theorem hid_get {W : List Addr} {H : Hp} {a : Addr} {o : HO} (h : H a = some o) (n : a ∉ W) : hid W H a = some o := by
  unfold hid
  rw [if_neg n]
  exact h
theorem hid_inv {W : List Addr} {H : Hp} {a : Addr} {o : HO} (h : hid W H a = some o) : a ∉ W ∧ H a = some o := by
  unfold hid at h
  by_cases m : a ∈ W
  · rw [if_pos m] at h
    cases h
  · rw [if_neg m] at h
    exact ⟨m, h⟩
theorem hid_kp {W : List Addr} {H H' : Hp} (g : Gr W H H') : Kp (hid W H) (hid W H') :=
  ⟨fun a _ e => hid_get (g a _ (hid_inv e).1 (hid_inv e).2) (hid_inv e).1, fun a _ e => hid_get (g a _ (hid_inv e).1 (hid_inv e).2) (hid_inv e).1, fun a _ _ e => hid_get (g a _ (hid_inv e).1 (hid_inv e).2) (hid_inv e).1⟩
theorem hid_out {W : List Addr} {H : Hp} : Kp (hid W H) H := ⟨fun a _ e => (hid_inv e).2, fun a _ e => (hid_inv e).2, fun a _ _ e => (hid_inv e).2⟩
theorem hid_in0 {H : Hp} : Kp H (hid [] H) := ⟨fun a _ e => hid_get e (by simp), fun a _ e => hid_get e (by simp), fun a _ _ e => hid_get e (by simp)⟩
theorem ne_none {H : Hp} {a S : Addr} {o : HO} (e : H a = some o) (n : H S = none) : a ∉ [S] := fun m => by
  rw [List.mem_singleton] at m
  subst m
  rw [n] at e
  cases e
theorem hid_in {H H' : Hp} {S : Addr} (n : H S = none) (g : Gr [S] H H') : Kp H (hid [S] H') :=
  ⟨fun a _ e => hid_get (g a _ (ne_none e n) e) (ne_none e n), fun a _ e => hid_get (g a _ (ne_none e n) e) (ne_none e n), fun a _ _ e => hid_get (g a _ (ne_none e n) e) (ne_none e n)⟩
def Wst (W : List Addr) (H : Hp) : Prop := ∀ a, a ∈ W → H a ≠ none
theorem Wst.gr {W : List Addr} {H H' : Hp} (s : Wst W H) (g : Gr [] H H') : Wst W H' := fun a m z => by
  cases e : H a with
  | none => exact s a m e
  | some o =>
    rw [g a o (by simp) e] at z
    cases z
theorem Wst.ne {W : List Addr} {H : Hp} {p : Addr} (s : Wst W H) (n : H p = none) : p ∉ W := fun m => s p m n
theorem gr0 {W : List Addr} {H H' : Hp} (g : Gr [] H H') : Gr W H H' := g.mono (by simp)
section
variable {K : PySem.W.Frag} {σ : L2.St} {H : Hp} {W : List Addr}
theorem dpAll_take {H : Hp} : ∀ {vs : List V} {ds : List PyData} (j : Nat), DpAll K H vs ds → DpAll K H (vs.take j) (ds.take j)
  | _, _, 0, _ => by
    rw [List.take_zero, List.take_zero]
    exact .nil
  | _, _, j + 1, .nil => .nil
  | _, _, j + 1, .cons a b => .cons a (dpAll_take j b)
def EvW (K : PySem.W.Frag) (W : List Addr) (te : TE) (σ : L2.St) (H : Hp) (d : PyData) : Prop := ∀ H1, Gr W H H1 → Wst W H1 → ∀ Q : VK, (∀ v H2, Gr [] H1 H2 → Dp K (hid W H2) v d → Q v H2) → te σ H1 Q
def EsW (K : PySem.W.Frag) (W : List Addr) (ta : TA) (σ : L2.St) (H : Hp) (ds : List PyData) : Prop := ∀ H1, Gr W H H1 → Wst W H1 → ∀ Q : List V → Hp → Prop, (∀ vs H2, Gr [] H1 H2 → DpAll K (hid W H2) vs ds → Q vs H2) → ta σ H1 Q
def ElW (W : List Addr) (te : TE) (σ : L2.St) (H : Hp) (xs : List Nat) : Prop := ∀ H1, Gr W H H1 → Wst W H1 → ∀ Q : VK, (∀ p H2, Gr [] H1 H2 → p ∉ W → H2 p = some (.lst (vn xs)) → Q (.ref p) H2) → te σ H1 Q
theorem ew_var {i : Nat} {v : V} {d : PyData} (e : σ[i]? = some (some v)) (h : Dp K (hid W H) v d) : EvW K W (tVar i) σ H d := fun H1 g _ Q q => ⟨v, e, q v H1 (Gr.refl _ _) (Dp.kp (hid_kp g) h)⟩
theorem ew_int {i : Int} : EvW K W (tC (.int i)) σ H (.int i) := fun H1 _ _ Q q => q _ H1 (Gr.refl _ _) (.int i)
theorem ew_bl {i : Bool} : EvW K W (tC (.bl i)) σ H (.bool i) := fun H1 _ _ Q q => q _ H1 (Gr.refl _ _) (.bl i)
theorem ew_str {i : Str} : EvW K W (tC (.str i)) σ H (.str i) := fun H1 _ _ Q q => q _ H1 (Gr.refl _ _) (.str i)
theorem ew_non : EvW K W (tC .non) σ H .none := fun H1 _ _ Q q => q _ H1 (Gr.refl _ _) .non
theorem esw_nil : EsW K W tNil σ H [] := fun H1 _ _ Q q => q _ H1 (Gr.refl _ _) .nil
theorem esw_cons {te : TE} {ta : TA} {d : PyData} {ds : List PyData} (h : EvW K W te σ H d) (r : EsW K W ta σ H ds) : EsW K W (tCons te ta) σ H (d :: ds) := fun H1 g s Q q =>
  h H1 g s _ fun v H2 g2 dv => r H2 (g.trans (gr0 g2)) (s.gr g2) _ fun vs H3 g3 dvs => q _ H3 (g2.trans g3) (.cons (Dp.kp (hid_kp (gr0 g3)) dv) dvs)
theorem ew_tup {ta : TA} {ds : List PyData} (h : EsW K W ta σ H ds) (hz : ds.length ≤ 1000 := by exact Nat.le_of_ble_eq_true rfl) : EvW K W (tTup ta) σ H (.tuple ds) := fun H1 g s Q q =>
  h H1 g s _ fun vs H2 g2 a => ⟨by rw [dpAll_len a]; exact Nat.le_of_lt (small1000 hz), fun p np => q _ _ (g2.trans (Gr.new np)) (dp_tup (hid_get upd_same ((s.gr g2).ne np)) (DpAll.kp (hid_kp (Gr.new np)) a))⟩
theorem ew_lst {ta : TA} {ds : List PyData} (h : EsW K W ta σ H ds) (hz : ds.length ≤ 1000 := by exact Nat.le_of_ble_eq_true rfl) : EvW K W (tLst ta) σ H (.list ds) := fun H1 g s Q q =>
  h H1 g s _ fun vs H2 g2 a => ⟨by rw [dpAll_len a]; exact Nat.le_of_lt (small1000 hz), fun p np => q _ _ (g2.trans (Gr.new np)) (dp_lst (hid_get upd_same ((s.gr g2).ne np)) (DpAll.kp (hid_kp (Gr.new np)) a))⟩
theorem elw_var {i : Nat} {r : Addr} {xs : List Nat} (e : σ[i]? = some (some (.ref r))) (h : H r = some (.lst (vn xs))) (n : r ∉ W) : ElW W (tVar i) σ H xs := fun H1 g _ Q q => ⟨_, e, q r H1 (Gr.refl _ _) n (g r _ n h)⟩
def lstD (xs : List Nat) : PyData := .list ((ni xs).map PyData.int)
theorem elw_d {te : TE} {xs : List Nat} (h : ElW W te σ H xs) : EvW K W te σ H (lstD xs) := fun H1 g s Q q => h H1 g s _ fun p H2 g2 n e => q _ H2 g2 (dp_vnL (hid_get e n))
theorem elw_take {te : TE} {xs : List Nat} {j : Nat} (h : ElW W te σ H xs) (hj : j ≤ xs.length) : ElW W (tSl (rSlL K) te tNoPart (tPart (tC (.int (j : Nat))))) σ H (xs.take j) := fun H1 g s Q q =>
  h H1 g s _ fun p H2 g2 n e => ⟨(j : Int), rfl, p, vn xs, rfl, sq_lst e, fun t nt => q t _ (g2.trans (Gr.new nt)) ((s.gr g2).ne nt) (by
    rw [upd_same, cut_lo (by rw [vn_len]; exact hj)]
    unfold vn
    rw [List.map_take])⟩
theorem elw_drop {te : TE} {xs : List Nat} {j : Nat} (h : ElW W te σ H xs) (hj : j ≤ xs.length) : ElW W (tSl (rSlL K) te (tPart (tC (.int (j : Nat)))) tNoPart) σ H (xs.drop j) := fun H1 g s Q q =>
  h H1 g s _ fun p H2 g2 n e => ⟨(j : Int), rfl, p, vn xs, rfl, sq_lst e, fun t nt => q t _ (g2.trans (Gr.new nt)) ((s.gr g2).ne nt) (by
    rw [upd_same, cut_hi (by rw [vn_len]; exact hj)]
    unfold vn
    rw [List.map_drop])⟩
theorem cut_init {xs : List Nat} {y : Nat} : cutV (vn (xs ++ [y])) none (some (-1)) = vn xs := by
  unfold cutV
  have e : HT.sIx (vn (xs ++ [y])).length (vn (xs ++ [y])).length (some (-1)) = xs.length := by
    have e0 : ∀ n d : Nat, HT.sIx n d (some (-1)) = ((-1 : Int) + (n : Int)).toNat := fun n d => by
      unfold HT.sIx
      exact if_pos (by decide)
    rw [e0, vn_len, List.length_append]
    show ((-1 : Int) + ((xs.length + 1 : Nat) : Int)).toNat = _
    omega
  rw [e, HT.sIx_none, List.drop_zero, Nat.sub_zero]
  unfold vn
  rw [← List.map_take, List.take_append_of_le_length (Nat.le_refl _), List.take_length]
theorem elw_init {te : TE} {xs : List Nat} {y : Nat} (h : ElW W te σ H (xs ++ [y])) : ElW W (tSl (rSlL K) te tNoPart (tPart (tUn (rU fun i => V.int (-i)) (tC (.int 1))))) σ H xs := fun H1 g s Q q =>
  h H1 g s _ fun p H2 g2 n e => ⟨1, rfl, (-1 : Int), rfl, p, vn (xs ++ [y]), rfl, sq_lst e, fun t nt => q t _ (g2.trans (Gr.new nt)) ((s.gr g2).ne nt) (by rw [upd_same, cut_init])⟩
theorem elw_cat {ta tb : TE} {xs ys : List Nat} (h1 : ElW W ta σ H xs) (h2 : ElW W tb σ H ys) (hz : xs.length + ys.length ≤ 6000) : ElW W (tOp rCat ta tb) σ H (xs ++ ys) := fun H1 g s Q q =>
  h1 H1 g s _ fun p H2 g2 n2 e2 => h2 H2 (g.trans (gr0 g2)) (s.gr g2) _ fun p3 H3 g3 n3 e3 =>
    ⟨p, p3, vn xs, vn ys, rfl, rfl, g3 p _ (by simp) e2, e3, by rw [vn_len, vn_len]; exact Nat.le_trans hz (by decide), fun t nt => q t _ ((g2.trans g3).trans (Gr.new nt)) (((s.gr g2).gr g3).ne nt) (by
      rw [upd_same]
      unfold vn
      rw [List.map_append])⟩
theorem ew_tupOf {te : TE} {xs : List Nat} (h : ElW W te σ H xs) : EvW K W (tCB (rTpO K) (tCons te tNil)) σ H (di xs) := fun H1 g s Q q =>
  h H1 g s _ fun p H2 g2 n e => ⟨p, vn xs, rfl, .inl ⟨sq_lst e, fun t nt => q _ _ (g2.trans (Gr.new nt)) (dp_vnT (hid_get upd_same ((s.gr g2).ne nt)))⟩⟩
theorem ew_listOf {te : TE} {ds : List PyData} (h : EvW K W te σ H (.tuple ds)) : EvW K W (tCB (rLsO K) (tCons te tNil)) σ H (.list ds) := fun H1 g s Q q =>
  h H1 g s _ fun v H2 g2 e => by
    cases e with
    | tup s' a' => exact ⟨_, _, rfl, .inr (hid_out.sqT s'), fun l nl => q _ _ (g2.trans (Gr.new nl)) (dp_lst (hid_get upd_same ((s.gr g2).ne nl)) (DpAll.kp (hid_kp (Gr.new nl)) a'))⟩
theorem ew_slT {te : TE} {ds : List PyData} {j : Nat} (h : EvW K W te σ H (.tuple ds)) (hj : j ≤ ds.length) : EvW K W (tSl (rSlA K) te tNoPart (tPart (tC (.int (j : Nat))))) σ H (.tuple (ds.take j)) := fun H1 g s Q q =>
  h H1 g s _ fun v H2 g2 e => by
    cases e with
    | @tup a ys _ s' t =>
      have hl := dpAll_len t
      refine ⟨(j : Int), rfl, a, ys, rfl, hid_out.sqT s', fun z => ?_, fun _ p np => ?_⟩
      · have e1 := z.2
        rw [HT.sIx_nat] at e1
        have e2 : ds.take j = ds := List.take_of_length_le (by omega)
        refine q _ H2 g2 ?_
        rw [e2]
        exact .tup s' t
      · refine q _ _ (g2.trans (Gr.new np)) (dp_tup (hid_get upd_same ((s.gr g2).ne np)) ?_)
        rw [cut_lo (by omega)]
        exact DpAll.kp (hid_kp (Gr.new np)) (dpAll_take j t)
theorem ew_catT {ta tb : TE} {ds es : List PyData} (h1 : EvW K W ta σ H (.tuple ds)) (h2 : EvW K W tb σ H (.tuple es)) (hz : ds.length + es.length ≤ 6000) : EvW K W (tOp (rCatA K) ta tb) σ H (.tuple (ds ++ es)) := fun H1 g s Q q =>
  h1 H1 g s _ fun v H2 g2 e2 => h2 H2 (g.trans (gr0 g2)) (s.gr g2) _ fun v3 H3 g3 e3 => by
    have e2 := Dp.kp (hid_kp (gr0 g3)) e2
    cases e2 with
    | @tup a xs _ s1 t1 =>
      cases e3 with
      | @tup b ys _ s2 t2 =>
        have l1 := dpAll_len t1
        have l2 := dpAll_len t2
        refine ⟨a, b, xs, ys, rfl, rfl, hid_out.sqT s1, hid_out.sqT s2, Nat.le_trans (show _ ≤ 6000 by omega) (by decide), fun z => ?_, fun _ z => ?_, fun _ _ p np => ?_⟩
        · subst z
          cases t1
          exact q _ H3 (g2.trans g3) (.tup s2 t2)
        · subst z
          cases t2
          rw [List.append_nil] at q
          exact q _ H3 (g2.trans g3) (.tup s1 t1)
        · exact q _ _ ((g2.trans g3).trans (Gr.new np)) (dp_tup (hid_get upd_same (((s.gr g2).gr g3).ne np)) (DpAll.kp (hid_kp (Gr.new np)) (dpAll_append t1 t2)))
/-- a pair put to a list that grows -/
theorem hid_put {H : Hp} {S p : Addr} {vs : List V} {ds : List PyData} {s : Str} {v : V} {d : PyData} (e : H S = some (.lst vs)) (a : DpAll K (hid [S] H) vs ds) (h : Dp K (hid [S] H) v d) (np : H p = none) :
    (upd H p (.tup [.str s, v])) S = some (.lst vs) ∧ Gr [S] H (upd (upd H p (.tup [.str s, v])) S (.lst (vs ++ [.ref p]))) ∧ DpAll K (hid [S] (upd (upd H p (.tup [.str s, v])) S (.lst (vs ++ [.ref p])))) (vs ++ [.ref p]) (ds ++ [.tuple [.str s, d]]) := by
  have hne : p ≠ S := fun z => by
    subst z
    rw [np] at e
    cases e
  have g1 : Gr [] H (upd H p (.tup [.str s, v])) := Gr.new np
  have g2 : Gr [S] H (upd (upd H p (.tup [.str s, v])) S (.lst (vs ++ [.ref p]))) := (gr0 g1).trans (Gr.wr (by simp))
  have hp : hid [S] (upd (upd H p (.tup [.str s, v])) S (.lst (vs ++ [.ref p]))) p = some (.tup [.str s, v]) := hid_get (by rw [upd_ne hne, upd_same]) (by simpa using hne)
  exact ⟨g1 S _ (by simp) e, g2, dpAll_append (DpAll.kp (hid_kp g2) a) (.cons (dp_tup hp (.cons (.str _) (.cons (Dp.kp (hid_kp g2) h) .nil))) .nil)⟩
end

theorem EvW.evd {K : PySem.W.Frag} {te : TE} {σ : L2.St} {H : Hp} {d : PyData} (h : EvW K [] te σ H d) : EvD K te σ H d := fun H1 g Q q => h H1 g (fun a m => by simp at m) Q fun v H2 g2 e => q v H2 g2 (Dp.kp hid_out e)
theorem EvD.evw {K : PySem.W.Frag} {te : TE} {σ : L2.St} {H : Hp} {d : PyData} (h : EvD K te σ H d) : EvW K [] te σ H d := fun H1 g _ Q q => h H1 g Q fun v H2 g2 e => q v H2 g2 (Dp.kp hid_in0 e)
theorem dpA_at {K : PySem.W.Frag} {H : Hp} : ∀ {xs : List V} {ds : List PyData} {i : Nat} {y : V}, DpAll K H xs ds → xs[i]? = some y → ∃ d, ds[i]? = some d ∧ Dp K H y d
  | _, _, i, y, .nil, h => by simp at h
  | _, _, 0, y, .cons a b, h => by
    simp at h
    subst h
    exact ⟨_, rfl, a⟩
  | _, _, i + 1, y, .cons a b, h => by
    obtain ⟨d, e1, e2⟩ := dpA_at (i := i) b (by simpa using h)
    exact ⟨d, by simpa using e1, e2⟩
theorem dpA_get {K : PySem.W.Frag} {H : Hp} : ∀ {xs : List V} {ds : List PyData} {i : Nat} {d : PyData}, DpAll K H xs ds → ds[i]? = some d → ∃ y, xs[i]? = some y ∧ Dp K H y d
  | _, _, i, y, .nil, h => by simp at h
  | _, _, 0, y, .cons a b, h => by
    simp at h
    subst h
    exact ⟨_, rfl, a⟩
  | _, _, i + 1, y, .cons a b, h => by
    obtain ⟨d, e1, e2⟩ := dpA_get (i := i) b (by simpa using h)
    exact ⟨d, by simpa using e1, e2⟩
theorem dpA_drop {K : PySem.W.Frag} {H : Hp} : ∀ {vs : List V} {ds : List PyData} (j : Nat), DpAll K H vs ds → DpAll K H (vs.drop j) (ds.drop j)
  | _, _, 0, h => by
    rw [List.drop_zero, List.drop_zero]
    exact h
  | _, _, j + 1, .nil => .nil
  | _, _, j + 1, .cons a b => dpA_drop j b
theorem dpA_rev {K : PySem.W.Frag} {H : Hp} : ∀ {vs : List V} {ds : List PyData}, DpAll K H vs ds → DpAll K H vs.reverse ds.reverse
  | _, _, .nil => .nil
  | _, _, .cons a b => by
    rw [List.reverse_cons, List.reverse_cons]
    exact dpAll_append (dpA_rev b) (.cons a .nil)
theorem hid_ofM {W : List Addr} {H H' : Hp} {d : Addr} (g : Gr [d] H H') (h : ∃ kvs, H d = some (.dK kvs)) (n : d ∉ W) : Kp (hid W H) (hid W H') :=
  Kp.ofM (d := d) (fun a o m e => hid_get (g a o m (hid_inv e).2) (hid_inv e).1) (by
    obtain ⟨kvs, h⟩ := h
    exact ⟨kvs, hid_get h n⟩)
theorem fresh_keep {H H1 H2 : Hp} {d : Addr} (nd : H d = none) (g1 : Gr [] H H1) (g2 : Gr [d] H1 H2) : Gr [] H H2 := fun u o _ e => g2 u o (by rw [List.mem_singleton]; exact ne_of_none e nd) (g1 u o (by simp) e)
theorem cut_hi' {xs : List V} {j : Nat} : cutV xs (some (j : Int)) none = xs.drop j := by
  unfold cutV
  rw [HT.sIx_nat, HT.sIx_none]
  rcases Nat.le_total j xs.length with h | h
  · rw [Nat.min_eq_left h]
    exact List.take_of_length_le (by rw [List.length_drop]; omega)
  · rw [Nat.min_eq_right h, List.drop_eq_nil_of_le h, Nat.sub_self, List.take_zero]
theorem cut_lo' {xs : List V} {j : Nat} : cutV xs none (some (j : Int)) = xs.take j := by
  unfold cutV
  rw [HT.sIx_nat, HT.sIx_none, List.drop_zero, Nat.sub_zero]
  rcases Nat.le_total j xs.length with h | h
  · rw [Nat.min_eq_left h]
  · rw [Nat.min_eq_right h, List.take_of_length_le h, List.take_of_length_le (Nat.le_refl _)]
section
variable {K : PySem.W.Frag} {σ : L2.St} {H : Hp} {W : List Addr}
theorem EvW.on {te : TE} {d : PyData} {H' : Hp} (h : EvW K W te σ H d) (g : Gr W H H') : EvW K W te σ H' d := fun H1 g1 s Q q => h H1 (g.trans g1) s Q q
theorem ew_i0 {g : Int → Int → Int} {ta tb : TE} {i j : Int} (h1 : EvW K W ta σ H (.int i)) (h2 : EvW K W tb σ H (.int j)) : EvW K W (tOp (rI0 fun i j => .int (g i j)) ta tb) σ H (.int (g i j)) := fun H1 gr s Q q =>
  h1 H1 gr s _ fun v H2 g2 e => h2 H2 (gr.trans (gr0 g2)) (s.gr g2) _ fun w H3 g3 e3 => by
    obtain rfl := dp_int e
    obtain rfl := dp_int e3
    exact ⟨i, j, rfl, rfl, q _ H3 (g2.trans g3) (.int _)⟩
theorem ew_iC {C : Int → Int → Prop} {g : Int → Int → Int} {ta tb : TE} {i j : Int} (h1 : EvW K W ta σ H (.int i)) (h2 : EvW K W tb σ H (.int j)) (hc : C i j) : EvW K W (tOp (rI C fun i j => .int (g i j)) ta tb) σ H (.int (g i j)) := fun H1 gr s Q q =>
  h1 H1 gr s _ fun v H2 g2 e => h2 H2 (gr.trans (gr0 g2)) (s.gr g2) _ fun w H3 g3 e3 => by
    obtain rfl := dp_int e
    obtain rfl := dp_int e3
    exact ⟨i, j, rfl, rfl, hc, q _ H3 (g2.trans g3) (.int _)⟩
theorem ew_neg {g : Int → Int} {ta : TE} {i : Int} (h1 : EvW K W ta σ H (.int i)) : EvW K W (tUn (rU fun i => .int (g i)) ta) σ H (.int (g i)) := fun H1 gr s Q q =>
  h1 H1 gr s _ fun v H2 g2 e => by
    obtain rfl := dp_int e
    exact ⟨i, rfl, q _ H2 g2 (.int _)⟩
theorem ew_to {te : TE} {d e : PyData} (h : EvW K W te σ H d) (z : d = e) : EvW K W te σ H e := z ▸ h
theorem ew_take {te tp : TE} {ds : List PyData} {j : Nat} (h : EvW K W te σ H (.tuple ds)) (hp : EvW K W tp σ H (.int (j : Nat))) : EvW K W (tSl (rSlA K) te tNoPart (tPart tp)) σ H (.tuple (ds.take j)) := fun H1 g s Q q =>
  h H1 g s _ fun v H2 g2 e => hp H2 (g.trans (gr0 g2)) (s.gr g2) _ fun vj H3 g3 ej => by
    obtain rfl := dp_int ej
    have e := Dp.kp (hid_kp (gr0 g3)) e
    cases e with
    | @tup a ys _ s' t =>
      have hl := dpAll_len t
      refine ⟨(j : Int), rfl, a, ys, rfl, hid_out.sqT s', fun z => ?_, fun _ p np => ?_⟩
      · have e1 := z.2
        rw [HT.sIx_nat] at e1
        have e2 : ds.take j = ds := List.take_of_length_le (by omega)
        refine q _ H3 (g2.trans g3) ?_
        rw [e2]
        exact .tup s' t
      · refine q _ _ ((g2.trans g3).trans (Gr.new np)) (dp_tup (hid_get upd_same (((s.gr g2).gr g3).ne np)) ?_)
        rw [cut_lo']
        exact DpAll.kp (hid_kp (Gr.new np)) (dpAll_take j t)
theorem ew_drop {te tp : TE} {ds : List PyData} {j : Nat} (h : EvW K W te σ H (.tuple ds)) (hp : EvW K W tp σ H (.int (j : Nat))) : EvW K W (tSl (rSlA K) te (tPart tp) tNoPart) σ H (.tuple (ds.drop j)) := fun H1 g s Q q =>
  h H1 g s _ fun v H2 g2 e => hp H2 (g.trans (gr0 g2)) (s.gr g2) _ fun vj H3 g3 ej => by
    obtain rfl := dp_int ej
    have e := Dp.kp (hid_kp (gr0 g3)) e
    cases e with
    | @tup a ys _ s' t =>
      have hl := dpAll_len t
      refine ⟨(j : Int), rfl, a, ys, rfl, hid_out.sqT s', fun z => ?_, fun _ p np => ?_⟩
      · have e1 := z.1
        rw [HT.sIx_nat] at e1
        refine q _ H3 (g2.trans g3) ?_
        have e2 : ds.drop j = ds := by
          rcases Nat.eq_zero_or_pos j with z | z
          · subst z
            rfl
          · have : ds.length = 0 := by omega
            rw [List.length_eq_zero_iff.mp this]
            cases j <;> rfl
        rw [e2]
        exact .tup s' t
      · refine q _ _ ((g2.trans g3).trans (Gr.new np)) (dp_tup (hid_get upd_same (((s.gr g2).gr g3).ne np)) ?_)
        rw [cut_hi']
        exact DpAll.kp (hid_kp (Gr.new np)) (dpA_drop j t)
theorem ew_rev {te : TE} {ds : List PyData} (h : EvW K W te σ H (.tuple ds)) : EvW K W (tStL (rRvT K) te (tUn (rU fun i => V.int (-i)) (tC (.int 1)))) σ H (.tuple ds.reverse) := fun H1 g s Q q =>
  h H1 g s _ fun v H2 g2 e => by
    cases e with
    | @tup a ys _ s' t =>
      exact ⟨1, rfl, a, ys, rfl, rfl, hid_out.sqT s', fun p np => q _ _ (g2.trans (Gr.new np)) (dp_tup (hid_get upd_same ((s.gr g2).ne np)) (DpAll.kp (hid_kp (Gr.new np)) (dpA_rev t)))⟩
theorem ew_ixT {te ti : TE} {ds : List PyData} {d : PyData} {j : Nat} (h : EvW K W te σ H (.tuple ds)) (hi : EvW K W ti σ H (.int (j : Nat))) (hj : ds[j]? = some d) : EvW K W (tOp (rIxT K) te ti) σ H d := fun H1 g s Q q =>
  h H1 g s _ fun v H2 g2 e => hi H2 (g.trans (gr0 g2)) (s.gr g2) _ fun vi H3 g3 ei => by
    obtain rfl := dp_int ei
    have e := Dp.kp (hid_kp (gr0 g3)) e
    cases e with
    | @tup a ys _ s' t =>
      obtain ⟨y, hy, dy⟩ := dpA_get t hj
      exact ⟨a, ys, (j : Int), y, rfl, rfl, hid_out.sqT s', atI_nat hy, q _ H3 (g2.trans g3) dy⟩
theorem ew_ixL {te ti : TE} {ds : List PyData} {d : PyData} {j : Nat} (h : EvW K W te σ H (.list ds)) (hi : EvW K W ti σ H (.int (j : Nat))) (hj : ds[j]? = some d) : EvW K W (tOp (rIxL K) te ti) σ H d := fun H1 g s Q q =>
  h H1 g s _ fun v H2 g2 e => hi H2 (g.trans (gr0 g2)) (s.gr g2) _ fun vi H3 g3 ei => by
    obtain rfl := dp_int ei
    have e := Dp.kp (hid_kp (gr0 g3)) e
    cases e with
    | @lst a ys _ s' t =>
      obtain ⟨y, hy, dy⟩ := dpA_get t hj
      exact ⟨a, ys, (j : Int), y, rfl, rfl, hid_out.sqL s', atI_nat hy, q _ H3 (g2.trans g3) dy⟩
theorem ew_lenT {te : TE} {ds : List PyData} (h : EvW K W te σ H (.tuple ds)) : EvW K W (tCB (rLn K) (tCons te tNil)) σ H (.int (ds.length : Nat)) := fun H1 g s Q q =>
  h H1 g s _ fun v H2 g2 e => by
    cases e with
    | @tup a ys _ s' t => exact ⟨a, ys, rfl, .inr (hid_out.sqT s'), by rw [dpAll_len t]; exact q _ H2 g2 (.int _)⟩
theorem ew_lenL {te : TE} {ds : List PyData} (h : EvW K W te σ H (.list ds)) : EvW K W (tCB (rLn K) (tCons te tNil)) σ H (.int (ds.length : Nat)) := fun H1 g s Q q =>
  h H1 g s _ fun v H2 g2 e => by
    cases e with
    | @lst a ys _ s' t => exact ⟨a, ys, rfl, .inl (hid_out.sqL s'), by rw [dpAll_len t]; exact q _ H2 g2 (.int _)⟩
theorem ew_repr {te : TE} {d : PyData} (h : EvW K W te σ H d) (f : Fits d) : EvW K W (tCB (rRepr K) (tCons te tNil)) σ H (.str d.shown) := fun H1 g s Q q =>
  h H1 g s _ fun v H2 g2 a => ⟨v, d, rfl, Dp.kp hid_out a, f, q _ H2 g2 (.str _)⟩
theorem ew_neS {ta tb : TE} {x y : Str} (h1 : EvW K W ta σ H (.str x)) (h2 : EvW K W tb σ H (.str y)) : EvW K W (tOp rNe ta tb) σ H (.bool (!decide (x = y))) := fun H1 g s Q q =>
  h1 H1 g s _ fun v H2 g2 a => h2 H2 (g.trans (gr0 g2)) (s.gr g2) _ fun w H3 g3 b => by
    have e1 : v = .str x := by cases a; rfl
    have e2 : w = .str y := by cases b; rfl
    subst e1 e2
    refine ⟨rfl, ?_⟩
    have e3 : decide (V.str x = V.str y) = decide (x = y) := by
      rw [decide_eq_decide]
      exact ⟨fun z => V.str.inj z, fun z => by rw [z]⟩
    show Q (.bl (!decide (V.str x = V.str y))) H3
    rw [e3]
    exact q _ H3 (g2.trans g3) (.bl _)
theorem ew_eqD {ta tb : TE} {d e : PyData} (h1 : EvW K W ta σ H d) (h2 : EvW K W tb σ H e) (s1 : SeqAt.shaped d = true) (s2 : SeqAt.shaped e = true) : EvW K W (tOp (rEqD K) ta tb) σ H (.bool (PyData.eqv d e)) := fun H1 g s Q q =>
  h1 H1 g s _ fun v H2 g2 a => h2 H2 (g.trans (gr0 g2)) (s.gr g2) _ fun w H3 g3 b => ⟨d, e, Dp.kp hid_out (Dp.kp (hid_kp (gr0 g3)) a), Dp.kp hid_out b, s1, s2, q _ H3 (g2.trans g3) (.bl _)⟩
theorem ew_neD {ta tb : TE} {d e : PyData} (h1 : EvW K W ta σ H d) (h2 : EvW K W tb σ H e) (s1 : SeqAt.shaped d = true) (s2 : SeqAt.shaped e = true) : EvW K W (tOp (rNeD K) ta tb) σ H (.bool (!PyData.eqv d e)) := fun H1 g s Q q =>
  h1 H1 g s _ fun v H2 g2 a => h2 H2 (g.trans (gr0 g2)) (s.gr g2) _ fun w H3 g3 b => ⟨d, e, Dp.kp hid_out (Dp.kp (hid_kp (gr0 g3)) a), Dp.kp hid_out b, s1, s2, q _ H3 (g2.trans g3) (.bl _)⟩
/-- a test that is data, under hidden lists -/
theorem tw_of {te : TE} {b : Bool} {Q : Bool → Hp → Prop} (wst : Wst W H) (h : EvW K W te σ H (.bool b)) (q : ∀ H2, Gr [] H H2 → Q b H2) : tTest te σ H Q := h H (Gr.refl _ _) wst _ fun v H2 g2 e => ⟨b, dp_bool e, q H2 g2⟩
theorem twb_of {te : TE} {b : Bool} {Q : Bool → Hp → Prop} (wst : Wst W H) (h : EvW K W te σ H (.bool b)) (q : ∀ H2, Gr [] H H2 → Q b H2) : tB te σ H Q := h H (Gr.refl _ _) wst _ fun v H2 g2 e => ⟨b, dp_bool e, q H2 g2⟩
theorem st_asgW {ta : TA} {i : Nat} {ds : List PyData} {D : Ends} (h : EsW K [] ta σ H ds) (hz : ds.length ≤ 1000) (k : ∀ vs H2 S, Gr [] H H2 → H2 S = none → DpAll K H2 vs ds → D.nx (σ.set i (some (.ref S))) (upd H2 S (.lst vs))) : tAsg (tLst ta) (gName i) D σ H :=
  h H (Gr.refl _ _) (fun a m => by simp at m) _ fun vs H2 g2 a => ⟨by rw [dpAll_len a]; exact Nat.le_of_lt (small1000 hz), fun S nS => k vs H2 S g2 nS (DpAll.kp hid_out a)⟩
theorem st_asgV {ta : TA} {i : Nat} {ds : List PyData} {D : Ends} (wst : Wst W H) (h : EsW K W ta σ H ds) (hz : ds.length ≤ 1000) (k : ∀ os H2 p, Gr [] H H2 → H2 p = none → p ∉ W → DpAll K (hid W H2) os ds → D.nx (σ.set i (some (.ref p))) (upd H2 p (.lst os))) : tAsg (tLst ta) (gName i) D σ H :=
  h H (Gr.refl _ _) wst _ fun vs H2 g2 a => ⟨by rw [dpAll_len a]; exact Nat.le_of_lt (small1000 hz), fun p np => k vs H2 p g2 np ((wst.gr g2).ne np) a⟩
/-- xs.append(e), by the size of the list -/
theorem st_appD {te : TE} {i : Nat} {l : Addr} {xs : List V} {ds : List PyData} {d : PyData} {D : Ends} (hi : σ[i]? = some (some (.ref l))) (e : H l = some (.lst xs)) (a : DpAll K H xs ds) (h : EvW K [] te σ H d) (hn : noLenAll ds.length (ds ++ [d]) = true) (hz : ds.length < 1000)
    (k : ∀ ys H2, Gr [l] H H2 → H2 l = some (.lst ys) → DpAll K H2 ys (ds ++ [d]) → (∀ v d, Dp K H v d → noLen ds.length d = true → Dp K H2 v d) → D.nx σ H2) : tDrop (tBM K "list" rAppend (tVar i) (tCons te tNil)) D σ H := by
  refine ⟨_, hi, .inl ⟨rfl, _, sq_lst e⟩, ?_⟩
  refine h H (Gr.refl _ _) (fun a m => by simp at m) _ fun v H2 g2 dv => ?_
  have dv := Dp.kp hid_out dv
  have hl := dpAll_len a
  have e2 := g2 l _ (by simp) e
  have a2 := DpAll.kp (Kp.of g2) a
  rw [noLenAll_app, Bool.and_eq_true] at hn
  have n2 : noLen ds.length d = true := by
    have := hn.2
    rw [noLenAll, Bool.and_eq_true] at this
    exact this.1
  refine ⟨l, xs, v, rfl, rfl, e2, Nat.lt_of_lt_of_le (show xs.length < 6000 by omega) (by decide), ?_⟩
  refine k (xs ++ [v]) _ ((gr0 g2).trans (Gr.wr (by simp))) upd_same (dpAll_append (DpAll.app e2 a2 (by rw [hl]; exact hn.1)) (.cons (Dp.app e2 dv (by rw [hl]; exact n2)) .nil)) fun w dd hw hn => ?_
  exact Dp.app e2 (Dp.kp (Kp.of g2) hw) (by rw [hl]; exact hn)
theorem dpA_ints : ∀ {H : Hp} {vs : List V} {zs : List Int}, DpAll K H vs (zs.map PyData.int) → vs = zs.map V.int
  | _, _, [], .nil => rfl
  | _, _, z :: zs, .cons a b => by
    rw [dp_int a, dpA_ints b]
    rfl
theorem dpA_int2 {H : Hp} {vs : List V} {x : Int} {d : PyData} (h : DpAll K H vs [.int x, d]) : ∃ v, vs = [.int x, v] ∧ Dp K H v d := by
  cases h with
  | cons a h =>
    cases h with
    | cons b h =>
      cases h
      obtain rfl := dp_int a
      exact ⟨_, rfl, b⟩
theorem dpA_int3 {H : Hp} {vs : List V} {x y : Int} {d : PyData} (h : DpAll K H vs [.int x, .int y, d]) : ∃ v, vs = [.int x, .int y, v] ∧ Dp K H v d := by
  cases h with
  | cons a h =>
    obtain rfl := dp_int a
    obtain ⟨v, rfl, e⟩ := dpA_int2 h
    exact ⟨v, rfl, e⟩
theorem dp_two {H : Hp} {v : V} {i j : Int} (h : Dp K H v (.tuple [.int i, .int j])) : ∃ a, v = .ref a ∧ SqT K H a [.int i, .int j] := by
  cases h with
  | @tup a xs _ s t =>
    cases t with
    | cons h1 t =>
      cases t with
      | cons h2 t =>
        cases t
        obtain rfl := dp_int h1
        obtain rfl := dp_int h2
        exact ⟨a, rfl, s⟩
theorem two_dp {H : Hp} {a : Addr} {i j : Int} (s : SqT K H a [.int i, .int j]) : Dp K H (.ref a) (.tuple [.int i, .int j]) := .tup s (.cons (.int _) (.cons (.int _) .nil))
/-- a call that gives data -/
def SpD (K : PySem.W.Frag) (sp : Sp) (E : XK) (ds : List PyData) (d : PyData) : Prop := ∀ vs H1 Q, DpAll K H1 vs ds → (∀ v H2, Gr [] H1 H2 → Dp K H2 v d → Q v H2) → sp vs H1 Q E
theorem ew_call {sp : Sp} {ta : TA} {E : XK} {ds : List PyData} {d : PyData} (h : EsW K [] ta σ H ds) (hs : SpD K sp E ds d) : EvW K [] (tCall sp [] E ta) σ H d := fun H1 g s Q q =>
  h H1 g s _ fun vs H2 g2 a => by
    show sp (vs ++ []) H2 Q E
    rw [List.append_nil]
    exact hs vs H2 Q (DpAll.kp hid_out a) fun v H3 g3 dv => q v H3 (g2.trans g3) (Dp.kp hid_in0 dv)
theorem ew_andV {ta tb : TE} {a b : Bool} (h1 : EvW K W ta σ H (.bool a)) (h2 : EvW K W tb σ H (.bool b)) : EvW K W (tAndV ta tb) σ H (.bool (a && b)) := fun H1 g s Q q =>
  h1 H1 g s _ fun v H2 g2 e => ⟨a, dp_bool e, by
    cases a with
    | true => exact iteT (h2 H2 (g.trans (gr0 g2)) (s.gr g2) _ fun w H3 g3 e3 => q w H3 (g2.trans g3) e3)
    | false => exact iteF (q _ H2 g2 (.bl false))⟩
theorem ew_orV {ta tb : TE} {a b : Bool} (h1 : EvW K W ta σ H (.bool a)) (h2 : EvW K W tb σ H (.bool b)) : EvW K W (tOrV ta tb) σ H (.bool (a || b)) := fun H1 g s Q q =>
  h1 H1 g s _ fun v H2 g2 e => ⟨a, dp_bool e, by
    cases a with
    | true => exact iteT (q _ H2 g2 (.bl true))
    | false => exact iteF (h2 H2 (g.trans (gr0 g2)) (s.gr g2) _ fun w H3 g3 e3 => q w H3 (g2.trans g3) e3)⟩
theorem ew_catL {ta tb : TE} {ds es : List PyData} (h1 : EvL K ta σ H ds) (h2 : EvL K tb σ H es) (hz : ds.length + es.length ≤ 1000) : EvW K [] (tOp rCat ta tb) σ H (.list (ds ++ es)) := (el_cat h1 h2 hz).d.evw
/-- scalars compared -/
theorem ew_eqI {ta tb : TE} {x y : Int} (h1 : EvW K W ta σ H (.int x)) (h2 : EvW K W tb σ H (.int y)) : EvW K W (tOp rEq ta tb) σ H (.bool (decide (x = y))) := fun H1 g s Q q =>
  h1 H1 g s _ fun v H2 g2 a => h2 H2 (g.trans (gr0 g2)) (s.gr g2) _ fun w H3 g3 b => by
    obtain rfl := dp_int a
    obtain rfl := dp_int b
    refine ⟨rfl, ?_⟩
    have e3 : decide (V.int x = V.int y) = decide (x = y) := by
      rw [decide_eq_decide]
      exact ⟨fun z => V.int.inj z, fun z => by rw [z]⟩
    show Q (.bl (decide (V.int x = V.int y))) H3
    rw [e3]
    exact q _ H3 (g2.trans g3) (.bl _)
theorem ew_neI {ta tb : TE} {x y : Int} (h1 : EvW K W ta σ H (.int x)) (h2 : EvW K W tb σ H (.int y)) : EvW K W (tOp rNe ta tb) σ H (.bool (!decide (x = y))) := fun H1 g s Q q =>
  h1 H1 g s _ fun v H2 g2 a => h2 H2 (g.trans (gr0 g2)) (s.gr g2) _ fun w H3 g3 b => by
    obtain rfl := dp_int a
    obtain rfl := dp_int b
    refine ⟨rfl, ?_⟩
    have e3 : decide (V.int x = V.int y) = decide (x = y) := by
      rw [decide_eq_decide]
      exact ⟨fun z => V.int.inj z, fun z => by rw [z]⟩
    show Q (.bl (!decide (V.int x = V.int y))) H3
    rw [e3]
    exact q _ H3 (g2.trans g3) (.bl _)
theorem ew_bool {te : TE} {a b : Bool} (h : EvW K W te σ H (.bool a)) (e : a = b) : EvW K W te σ H (.bool b) := e ▸ h
/-- x = e, e data, beside hidden lists -/
theorem st_setW {te : TE} {i : Nat} {d : PyData} {D : Ends} (wst : Wst W H) (h : EvW K W te σ H d) (k : ∀ v H2, Gr [] H H2 → Dp K (hid W H2) v d → D.nx (σ.set i (some v)) H2) : tAsg te (gName i) D σ H := h H (Gr.refl _ _) wst _ k
/-- xs = xs + [..], the list and what it holds; all else stays -/
theorem st_catW {ta : TA} {i j : Nat} {S : Addr} {vs : List V} {ds es : List PyData} {D : Ends} (hj : σ[j]? = some (some (.ref S))) (hS : H S = some (.lst vs)) (a : DpAll K H vs ds) (h : EsW K [] ta σ H es) (hz : ds.length + es.length ≤ 1000)
    (k : ∀ ws H2 S2, Gr [] H H2 → H2 S2 = none → DpAll K H2 ws (ds ++ es) → D.nx (σ.set i (some (.ref S2))) (upd H2 S2 (.lst ws))) : tAsg (tOp rCat (tVar j) (tLst ta)) (gName i) D σ H :=
  ⟨_, hj, h H (Gr.refl _ _) (fun a m => by simp at m) _ fun ws H2 g2 b => ⟨by rw [dpAll_len b]; exact Nat.le_of_lt (small1000 (by omega)), fun p np => by
    have g3 : Gr [] H2 (upd H2 p (.lst ws)) := Gr.new np
    have l1 := dpAll_len a
    have l2 := dpAll_len b
    refine ⟨S, p, vs, ws, rfl, rfl, (g2.trans g3) S _ (by simp) hS, upd_same, Nat.le_trans (show _ ≤ 6000 by omega) (by decide), fun S2 n2 => ?_⟩
    exact k _ _ S2 (g2.trans g3) n2 (dpAll_append (DpAll.kp (Kp.of (g2.trans g3)) a) (DpAll.kp (Kp.of g3) (DpAll.kp hid_out b)))⟩⟩
/-- xs.append(e) -/
theorem st_appW {te : TE} {i : Nat} {S : Addr} {vs : List V} {ds : List PyData} {e : PyData} {D : Ends} (hi : σ[i]? = some (some (.ref S))) (hS : H S = some (.lst vs)) (a : DpAll K (hid [S] H) vs ds) (h : EvW K [S] te σ H e) (hz : ds.length ≤ 6000)
    (k : ∀ ws H2, Gr [S] H H2 → H2 S = some (.lst ws) → DpAll K (hid [S] H2) ws (ds ++ [e]) → D.nx σ H2) : tDrop (tBM K "list" rAppend (tVar i) (tCons te tNil)) D σ H := by
  refine ⟨_, hi, .inl ⟨rfl, _, sq_lst hS⟩, h H (Gr.refl _ _) (fun a m => by rw [List.mem_singleton] at m; subst m; rw [hS]; exact fun z => by cases z) _ fun v H2 g2 ev => ?_⟩
  have hS2 := g2 S _ (by simp) hS
  have g3 : Gr [S] H2 (upd H2 S (.lst (vs ++ [v]))) := Gr.wr (by simp)
  have l1 := dpAll_len a
  refine ⟨S, vs, v, rfl, rfl, hS2, Nat.lt_of_lt_of_le (show vs.length < 7000 by omega) (by decide), ?_⟩
  refine k (vs ++ [v]) _ ((gr0 g2).trans g3) upd_same (dpAll_append (DpAll.kp ((hid_kp (gr0 g2)).trans (hid_kp g3)) a) (.cons (Dp.kp (hid_kp g3) ev) .nil))
/-- for x in xs: ys.append(..) -/
theorem for_appW {te : TE} {i9 i4 : Nat} {p S : Addr} {os vs : List V} {odds ds : List PyData} {f : PyData → PyData} {σ0 : L2.St} {H6 : Hp} {D : Ends} (hp : H6 p = some (.lst os)) (hpS : p ∉ [S]) (hS : H6 S = some (.lst vs)) (a : DpAll K (hid [S] H6) vs ds) (ao : DpAll K (hid [S] H6) os odds)
    (hz : ds.length + odds.length ≤ 6000) (h4 : σ0[i4]? = some (some (.ref S))) (hne : i9 ≠ i4) (h9 : i9 < σ0.length)
    (he : ∀ x v H', Gr [S] H6 H' → Dp K (hid [S] H') v x → x ∈ odds → EvW K [S] te (σ0.set i9 (some v)) H' (f x))
    (hd : ∀ v9 vs' H', Gr [S] H6 H' → H' S = some (.lst vs') → DpAll K (hid [S] H') vs' (ds ++ odds.map f) → D.nx (σ0.set i9 v9) H') (h0 : ∃ v, σ0 = σ0.set i9 v) :
    ∃ Wf : Nat → Nat → L2.St → Hp → Prop, (∃ m, Wf 0 m σ0 H6) ∧ ∀ i m σ H, Wf i m σ H →
      ((Itl K p).stop i H ∧ D.nx σ H) ∨ ((Itl K p).go i H ∧ ∃ N : L2.St → Hp → Prop, (∀ σ' H', N σ' H' → ∃ m', m' < m ∧ Wf (i + 1) m' σ' H') ∧ ∀ x H', (Itl K p).yld i H x H' → gName i9 x σ H' fun σ2 H2 => tDrop (tBM K "list" rAppend (tVar i4) (tCons te tNil)) { D with nx := N, ct := N, bk := D.nx } σ2 H2) := by
  have lo := dpAll_len ao
  refine for_list (K := K) (a := p) (xs := os) (fun i σ H' => Gr [S] H6 H' ∧ ∃ v9 vs', H' S = some (.lst vs') ∧ DpAll K (hid [S] H') vs' (ds ++ (odds.take i).map f) ∧ σ = σ0.set i9 v9) ?_ (fun i σ H' _ z => sq_lst (z.1 p _ hpS hp)) ?_ ?_
  · obtain ⟨v, hv⟩ := h0
    exact ⟨Gr.refl _ _, v, vs, hS, by rw [List.take_zero, List.map_nil, List.append_nil]; exact a, hv⟩
  · rintro i x σ H' hx ⟨G, v9, vs', hS', a', rfl⟩
    obtain ⟨dd, hdd, dx⟩ := dpA_at ao hx
    have hi : i < odds.length := (List.getElem?_eq_some_iff.mp hdd).1
    have ed : odds[i] = dd := (List.getElem?_eq_some_iff.mp hdd).2
    show tDrop (tBM K "list" rAppend (tVar i4) (tCons te tNil)) _ ((σ0.set i9 v9).set i9 (some x)) H'
    rw [List.set_set]
    refine st_appW (K := K) (S := S) (vs := vs') (by rw [List.getElem?_set_ne hne]; exact h4) hS' a' (he dd x H' G (Dp.kp (hid_kp G) dx) (List.mem_of_getElem? hdd)) (by rw [List.length_append, List.length_map, List.length_take]; omega) fun ws H2 g2 hS2 a2 => ?_
    refine ⟨G.trans g2, some x, ws, hS2, ?_, rfl⟩
    rw [List.take_succ_eq_append_getElem hi, List.map_append, ed, ← List.append_assoc]
    exact a2
  · rintro σ H' ⟨G, v9, vs', hS', a', rfl⟩
    rw [lo, List.take_of_length_le (Nat.le_refl _)] at a'
    exact hd v9 vs' H' G hS' a'
end

section
variable {K : PySem.W.Frag} {σ : L2.St} {H : Hp}
/-- for x in a tuple that is data -/
theorem st_forT {tl : TE} {g : TG} {tb : TS} {D : Ends} {ds : List PyData} (h : EvW K [] tl σ H (.tuple ds)) (Pv : Hp → Nat → L2.St → Hp → Prop) (h0 : ∀ H2, Gr [] H H2 → Pv H2 0 σ H2) (hk : ∀ H2 i σ' H', Pv H2 i σ' H' → Kp H2 H')
    (hs : ∀ H2 i d v σ' H', Gr [] H H2 → ds[i]? = some d → Dp K H' v d → Pv H2 i σ' H' → g v σ' H' fun σ3 H3 => tb { D with nx := Pv H2 (i + 1), ct := Pv H2 (i + 1), bk := D.nx } σ3 H3) (hd : ∀ H2 σ' H', Gr [] H H2 → Pv H2 ds.length σ' H' → D.nx σ' H') : tFor (iTup K tl) g tb D σ H :=
  h H (Gr.refl _ _) (fun a m => by simp at m) _ fun v H2 g2 e => by
    have e := Dp.kp hid_out e
    cases e with
    | @tup a xs _ s t =>
      have lx := dpAll_len t
      refine ⟨a, rfl, ⟨_, s⟩, ?_⟩
      refine for_tup (K := K) (a := a) (xs := xs) (Pv H2) (h0 H2 g2) (fun i σ' H' _ z => (hk H2 i σ' H' z).sqT s) (fun i x σ' H' hx z => ?_) (fun σ' H' z => hd H2 σ' H' g2 (by rw [← lx]; exact z))
      obtain ⟨dd, hdd, dx⟩ := dpA_at t hx
      exact hs H2 i dd x σ' H' g2 hdd (Dp.kp (hk H2 i σ' H' z) dx) z
theorem st_forL {tl : TE} {g : TG} {tb : TS} {D : Ends} {ds : List PyData} (h : EvW K [] tl σ H (.list ds)) (Pv : Hp → Nat → L2.St → Hp → Prop) (h0 : ∀ H2, Gr [] H H2 → Pv H2 0 σ H2) (hk : ∀ H2 i σ' H', Pv H2 i σ' H' → Kp H2 H')
    (hs : ∀ H2 i d v σ' H', Gr [] H H2 → ds[i]? = some d → Dp K H' v d → Pv H2 i σ' H' → g v σ' H' fun σ3 H3 => tb { D with nx := Pv H2 (i + 1), ct := Pv H2 (i + 1), bk := D.nx } σ3 H3) (hd : ∀ H2 σ' H', Gr [] H H2 → Pv H2 ds.length σ' H' → D.nx σ' H') : tFor (iList K tl) g tb D σ H :=
  h H (Gr.refl _ _) (fun a m => by simp at m) _ fun v H2 g2 e => by
    have e := Dp.kp hid_out e
    cases e with
    | @lst a xs _ s t =>
      have lx := dpAll_len t
      refine ⟨a, rfl, ⟨_, s⟩, ?_⟩
      refine for_list (K := K) (a := a) (xs := xs) (Pv H2) (h0 H2 g2) (fun i σ' H' _ z => (hk H2 i σ' H' z).sqL s) (fun i x σ' H' hx z => ?_) (fun σ' H' z => hd H2 σ' H' g2 (by rw [← lx]; exact z))
      obtain ⟨dd, hdd, dx⟩ := dpA_at t hx
      exact hs H2 i dd x σ' H' g2 hdd (Dp.kp (hk H2 i σ' H' z) dx) z
end
theorem psNox {X : Cx} {st : Stmt} {t : TS} (h : PS X.nox st t) : PS X st t := ⟨fun pins s σ H D I hw =>
  wpAny_mono (h.run pins s σ H D (I.wish _) hw) (fun _ _ q => q.unwish) fun _ _ z => False.elim z⟩
/-! comprehensions that give data -/
mutual
/-- no list in it -/
def noL : PyData → Bool
  | .list _ => false
  | .tuple xs => noLAll xs
  | .dict _ => false
  | _ => true
def noLAll : List PyData → Bool
  | [] => true
  | x :: xs => noL x && noLAll xs
end
mutual
theorem dp_noL {K : PySem.W.Frag} {H : Hp} {D : Addr} {us : List V} (hD : H D = some (.lst us)) : ∀ {v : V} {d : PyData}, Dp K H v d → noL d = true → Dp K (hid [D] H) v d
  | _, _, .non, _ => .non
  | _, _, .bl b, _ => .bl b
  | _, _, .int i, _ => .int i
  | _, _, .str z, _ => .str z
  | _, _, .lst _ _, n => by cases n
  | _, _, .tup (a := a) (xs := zs) (ds := ds) s t, n => by
    have n : noLAll ds = true := n
    refine .tup ?_ (dpA_noL hD t n)
    have ne : ∀ {o}, H a = some o → (∀ u, o ≠ .lst u) → a ∉ [D] := fun {o} h k m => by
      rw [List.mem_singleton] at m
      subst m
      rw [hD] at h
      injection h with h
      exact k us h.symm
    rcases s with (s | ⟨o, s⟩) | s
    · exact .inl (.inl (hid_get s (ne s fun u z => by cases z)))
    · exact .inl (.inr ⟨o, hid_get s (ne s fun u z => by cases z)⟩)
    · exact .inr s
theorem dpA_noL {K : PySem.W.Frag} {H : Hp} {D : Addr} {us : List V} (hD : H D = some (.lst us)) : ∀ {vs : List V} {ds : List PyData}, DpAll K H vs ds → noLAll ds = true → DpAll K (hid [D] H) vs ds
  | _, _, .nil, _ => .nil
  | _, _, .cons a b, n => by
    rw [noLAll, Bool.and_eq_true] at n
    exact .cons (dp_noL hD a n.1) (dpA_noL hD b n.2)
end
section
variable {K : PySem.W.Frag} {σ : L2.St} {H : Hp}
/-- a turn of a comprehension: what is put, or none -/
def LcT (K : PySem.W.Frag) (g : TG) (tt : TT) (te : TE) (vs : List Nat) (σ : L2.St) (H1 : Hp) (v : V) (r : Option PyData) : Prop :=
  ∀ (Q1 : VK) (Q0 : Hp → Prop), (∀ d y H2, r = some d → Gr [] H1 H2 → Dp K H2 y d → Q1 y H2) → (∀ H2, r = none → Gr [] H1 H2 → Q0 H2) →
    g v (wipe σ vs) H1 fun σ2 H2 => wipe σ2 vs = wipe σ vs ∧ tt σ2 H2 fun b H3 => if b = true then te σ2 H3 Q1 else Q0 H3
theorem lcT_put {K : PySem.W.Frag} {g : TG} {tt : TT} {te : TE} {vs : List Nat} {ds : List PyData} {f : PyData → Option PyData} {H2 H' : Hp} {D : Addr} {us : List V} {i : Nat} {dd : PyData} {x : V} (nD : H2 D = none) (hi : ds[i]? = some dd) (hz : ds.length ≤ 6000)
    (G : Gr [] H2 H') (hD : H' D = some (.lst us)) (aU : DpAll K (hid [D] H') us ((ds.take i).filterMap f)) (he : LcT K g tt te vs σ H' x (f dd)) (hn : ∀ d, f dd = some d → noL d = true) :
    g x (wipe σ vs) H' fun σ2 H2' => wipe σ2 vs = wipe σ vs ∧ tt σ2 H2' fun b H3 => if b = true then te σ2 H3 fun y H4 => ∃ acc, H4 D = some (.lst acc) ∧ acc.length < sizeLine ∧
      (Gr [] H2 (upd H4 D (.lst (acc ++ [y]))) ∧ ∃ us, (upd H4 D (.lst (acc ++ [y]))) D = some (.lst us) ∧ DpAll K (hid [D] (upd H4 D (.lst (acc ++ [y])))) us ((ds.take (i + 1)).filterMap f))
      else (Gr [] H2 H3 ∧ ∃ us, H3 D = some (.lst us) ∧ DpAll K (hid [D] H3) us ((ds.take (i + 1)).filterMap f)) := by
  have hi' : i < ds.length := (List.getElem?_eq_some_iff.mp hi).1
  have ed : ds[i] = dd := (List.getElem?_eq_some_iff.mp hi).2
  have tk := List.take_succ_eq_append_getElem hi'
  rw [ed] at tk
  have lu := dpAll_len aU
  have lf := List.length_filterMap_le f (ds.take i)
  rw [List.length_take] at lf
  refine he _ _ (fun d y H4 hr g4 dy => ?_) (fun H3 hr g3 => ?_)
  · have hD4 := g4 D _ (by simp) hD
    have gC : Gr [D] H4 (upd H4 D (.lst (us ++ [y]))) := Gr.wr (by simp)
    refine ⟨us, hD4, Nat.lt_of_lt_of_le (show us.length < 7000 by omega) (by decide), fresh_keep nD (G.trans g4) gC, us ++ [y], upd_same, ?_⟩
    rw [tk, List.filterMap_append]
    have e1 : List.filterMap f [dd] = [d] := by
      rw [List.filterMap_cons, hr]
      rfl
    rw [e1]
    exact dpAll_append (DpAll.kp ((hid_kp (gr0 g4)).trans (hid_kp gC)) aU) (.cons (Dp.kp (hid_kp gC) (dp_noL hD4 dy (hn d hr))) .nil)
  · refine ⟨G.trans g3, us, g3 D _ (by simp) hD, ?_⟩
    rw [tk, List.filterMap_append]
    have e1 : List.filterMap f [dd] = [] := by
      rw [List.filterMap_cons, hr]
      rfl
    rw [e1, List.append_nil]
    exact DpAll.kp (hid_kp (gr0 g3)) aU
theorem el_lcT {tl te : TE} {g : TG} {tt : TT} {vs : List Nat} {ds : List PyData} (f : PyData → Option PyData) (h : EvW K [] tl σ H (.tuple ds)) (hz : ds.length ≤ 6000)
    (he : ∀ x v H1, x ∈ ds → Gr [] H H1 → Dp K H1 v x → LcT K g tt te vs σ H1 v (f x)) (hn : ∀ x ∈ ds, ∀ d, f x = some d → noL d = true) : EvL K (tLc (iTup K tl) g tt te vs) σ H (ds.filterMap f) := fun H1 g1 Q q =>
  h H1 g1 (fun a m => by simp at m) _ fun v H2 g2 e => by
    have e := Dp.kp hid_out e
    cases e with
    | @tup a xs _ s t =>
      have lx := dpAll_len t
      refine ⟨a, rfl, ⟨_, s⟩, fun D nD => ?_⟩
      refine lc_tup (K := K) (a := a) (xs := xs) (fun i H' => Gr [] H2 H' ∧ ∃ us, H' D = some (.lst us) ∧ DpAll K (hid [D] H') us ((ds.take i).filterMap f)) ⟨Gr.new nD, [], upd_same, .nil⟩ (fun i H' _ z => (Kp.of z.1).sqT s) ?_ ?_
      · rintro i x H' hx ⟨G, us, hD, aU⟩
        obtain ⟨dd, hdd, dx⟩ := dpA_at t hx
        exact lcT_put nD hdd hz G hD aU (he dd x H' (List.mem_of_getElem? hdd) ((g1.trans g2).trans G) (Dp.kp (Kp.of G) dx)) (hn dd (List.mem_of_getElem? hdd))
      · rintro H3 ⟨G, us, hD, aU⟩
        rw [lx, List.take_of_length_le (Nat.le_refl _)] at aU
        exact q D us H3 (g2.trans G) hD (DpAll.kp hid_out aU)
theorem el_lcL {tl te : TE} {g : TG} {tt : TT} {vs : List Nat} {ds : List PyData} (f : PyData → Option PyData) (h : EvW K [] tl σ H (.list ds)) (hz : ds.length ≤ 6000)
    (he : ∀ x v H1, x ∈ ds → Gr [] H H1 → Dp K H1 v x → LcT K g tt te vs σ H1 v (f x)) (hn : ∀ x ∈ ds, ∀ d, f x = some d → noL d = true) : EvL K (tLc (iList K tl) g tt te vs) σ H (ds.filterMap f) := fun H1 g1 Q q =>
  h H1 g1 (fun a m => by simp at m) _ fun v H2 g2 e => by
    have e := Dp.kp hid_out e
    cases e with
    | @lst a xs _ s t =>
      have lx := dpAll_len t
      refine ⟨a, rfl, ⟨_, s⟩, fun D nD => ?_⟩
      refine lc_list (K := K) (a := a) (xs := xs) (fun i H' => Gr [] H2 H' ∧ ∃ us, H' D = some (.lst us) ∧ DpAll K (hid [D] H') us ((ds.take i).filterMap f)) ⟨Gr.new nD, [], upd_same, .nil⟩ (fun i H' _ z => (Kp.of z.1).sqL s) ?_ ?_
      · rintro i x H' hx ⟨G, us, hD, aU⟩
        obtain ⟨dd, hdd, dx⟩ := dpA_at t hx
        exact lcT_put nD hdd hz G hD aU (he dd x H' (List.mem_of_getElem? hdd) ((g1.trans g2).trans G) (Dp.kp (Kp.of G) dx)) (hn dd (List.mem_of_getElem? hdd))
      · rintro H3 ⟨G, us, hD, aU⟩
        rw [lx, List.take_of_length_le (Nat.le_refl _)] at aU
        exact q D us H3 (g2.trans G) hD (DpAll.kp hid_out aU)
theorem el_lstW {ta : TA} {ds : List PyData} (h : EsW K [] ta σ H ds) (hz : ds.length ≤ 1000 := by exact Nat.le_of_ble_eq_true rfl) : EvL K (tLst ta) σ H ds := fun H1 g Q q =>
  h H1 g (fun a m => by simp at m) _ fun vs H2 g2 a => ⟨by rw [dpAll_len a]; exact Nat.le_of_lt (small1000 hz), fun p np => q _ _ _ (g2.trans (Gr.new np)) upd_same (DpAll.kp (Kp.of (Gr.new np)) (DpAll.kp hid_out a))⟩
theorem el_to {te : TE} {ds es : List PyData} (h : EvL K te σ H ds) (z : ds = es) : EvL K te σ H es := z ▸ h
/-- for x in ..: each turn puts what te gives -/
theorem lcT_name {te : TE} {vs : List Nat} {i : Nat} {H1 : Hp} {v : V} {d : PyData} (hw : wipe ((wipe σ vs).set i (some v)) vs = wipe σ vs) (h : EvW K [] te ((wipe σ vs).set i (some v)) H1 d) : LcT K (gName i) tYes te vs σ H1 v (some d) := fun Q1 Q0 q _ =>
  ⟨hw, iteT (B := Q0 H1) (h H1 (Gr.refl _ _) (fun a m => by simp at m) Q1 fun y H2 g2 dy => q d y H2 rfl g2 (Dp.kp hid_out dy))⟩
/-- for x, y in .. -/
theorem lcT_two {te : TE} {vs : List Nat} {i j : Nat} {H1 : Hp} {v : V} {x y d : PyData} (hv : Dp K H1 v (.tuple [x, y])) (hw : ∀ a b, wipe (((wipe σ vs).set i (some a)).set j (some b)) vs = wipe σ vs)
    (h : ∀ a b, Dp K H1 a x → Dp K H1 b y → EvW K [] te (((wipe σ vs).set i (some a)).set j (some b)) H1 d) : LcT K (gTup K 2 (gCons (gName i) (gCons (gName j) gNil))) tYes te vs σ H1 v (some d) := fun Q1 Q0 q _ => by
  cases hv with
  | @tup p xs _ s t =>
    cases t with
    | @cons a _ _ _ h1 t =>
      cases t with
      | @cons b _ _ _ h2 t =>
        cases t
        exact ⟨p, _, rfl, s, rfl, a, _, rfl, b, _, rfl, rfl, hw a b, iteT (B := Q0 H1) (h a b h1 h2 H1 (Gr.refl _ _) (fun a m => by simp at m) Q1 fun y H2 g2 dy => q d y H2 rfl g2 (Dp.kp hid_out dy))⟩
end
theorem filA_yes {α : Type} {xs : List α} {p : α → Bool} {x : α} (h : p x = true) : (xs ++ [x]).filter p = xs.filter p ++ [x] := by
  rw [List.filter_append, List.filter_cons_of_pos h]
  rfl
theorem filA_no {α : Type} {xs : List α} {p : α → Bool} {x : α} (h : p x = false) : (xs ++ [x]).filter p = xs.filter p := by
  rw [List.filter_append, List.filter_cons_of_neg (by rw [h]; decide)]
  exact List.append_nil _
/-! data equal to data -/
mutual
theorem eqv_self : ∀ {d : PyData}, d.hasDict = false → PyData.eqv d d = true
  | .none, _ => rfl
  | .bool b, _ => by
    show (b == b) = true
    exact beq_self_eq_true b
  | .int i, _ => by
    show (i == i) = true
    exact beq_self_eq_true i
  | .str x, _ => by
    show (x == x) = true
    exact beq_self_eq_true x
  | .list xs, h => eqvAll_self (xs := xs) h
  | .tuple xs, h => eqvAll_self (xs := xs) h
  | .dict xs, h => by cases h
theorem eqvAll_self : ∀ {xs : List PyData}, PyData.hasDictAll xs = false → PyData.eqvAll xs xs = true
  | [], _ => rfl
  | x :: xs, h => by
    have h : (x.hasDict || PyData.hasDictAll xs) = false := h
    rw [Bool.or_eq_false_iff] at h
    show (PyData.eqv x x && PyData.eqvAll xs xs) = true
    rw [eqv_self h.1, eqvAll_self h.2]
    rfl
end
theorem Sm.eqv {d : PyData} {B D W : Nat} (h : Sm d B D W) : PyData.eqv d d = true := eqv_self h.nod
mutual
/-- no truth value, no dict in it -/
def nb : PyData → Bool
  | .none => true
  | .bool _ => false
  | .int _ => true
  | .str _ => true
  | .list xs => nbAll xs
  | .tuple xs => nbAll xs
  | .dict _ => false
def nbAll : List PyData → Bool
  | [] => true
  | x :: xs => nb x && nbAll xs
end
mutual
theorem eqv_is : ∀ {d e : PyData}, nb d = true → nb e = true → PyData.eqv d e = true → d = e
  | .none, e, _, _, h => by cases e <;> first | rfl | cases h
  | .bool b, e, h, _, _ => by cases h
  | .dict b, e, h, _, _ => by cases h
  | .int i, e, _, h2, h => by
    cases e <;> first | (cases h2; done) | (cases h; done) | skip
    rename_i j
    have h : (i == j) = true := h
    rw [eq_of_beq h]
  | .str i, e, _, h2, h => by
    cases e <;> first | (cases h2; done) | (cases h; done) | skip
    rename_i j
    have h : (i == j) = true := h
    rw [eq_of_beq h]
  | .list xs, e, h1, h2, h => by
    cases e <;> first | (cases h2; done) | (cases h; done) | skip
    rename_i ys
    rw [eqvAll_is (xs := xs) (ys := ys) h1 h2 h]
  | .tuple xs, e, h1, h2, h => by
    cases e <;> first | (cases h2; done) | (cases h; done) | skip
    rename_i ys
    rw [eqvAll_is (xs := xs) (ys := ys) h1 h2 h]
theorem eqvAll_is : ∀ {xs ys : List PyData}, nbAll xs = true → nbAll ys = true → PyData.eqvAll xs ys = true → xs = ys
  | [], [], _, _, _ => rfl
  | [], y :: ys, _, _, h => by cases h
  | x :: xs, [], _, _, h => by cases h
  | x :: xs, y :: ys, h1, h2, h => by
    have h1 : (nb x && nbAll xs) = true := h1
    have h2 : (nb y && nbAll ys) = true := h2
    have h : (PyData.eqv x y && PyData.eqvAll xs ys) = true := h
    rw [Bool.and_eq_true] at h1 h2 h
    rw [eqv_is h1.1 h2.1 h.1, eqvAll_is h1.2 h2.2 h.2]
end
mutual
theorem nb_nod : ∀ {d : PyData}, nb d = true → d.hasDict = false
  | .none, _ => rfl
  | .bool _, h => by cases h
  | .int _, _ => rfl
  | .str _, _ => rfl
  | .list xs, h => nbAll_nod (xs := xs) h
  | .tuple xs, h => nbAll_nod (xs := xs) h
  | .dict _, h => by cases h
theorem nbAll_nod : ∀ {xs : List PyData}, nbAll xs = true → PyData.hasDictAll xs = false
  | [], _ => rfl
  | x :: xs, h => by
    have h : (nb x && nbAll xs) = true := h
    rw [Bool.and_eq_true] at h
    show (x.hasDict || PyData.hasDictAll xs) = false
    rw [nb_nod h.1, nbAll_nod h.2]
    rfl
end
theorem eqv_iff {d e : PyData} (h1 : nb d = true) (h2 : nb e = true) : PyData.eqv d e = true ↔ d = e := ⟨eqv_is h1 h2, fun z => by rw [z]; exact eqv_self (nb_nod h2)⟩
theorem eqv_dec {d e : PyData} (h1 : nb d = true) (h2 : nb e = true) [Decidable (d = e)] : PyData.eqv d e = decide (d = e) := by
  by_cases h : d = e
  · rw [decide_eq_true h]
    exact (eqv_iff h1 h2).mpr h
  · rw [decide_eq_false h]
    cases z : PyData.eqv d e with
    | false => rfl
    | true => exact absurd ((eqv_iff h1 h2).mp z) h
theorem nbAll_of {xs : List PyData} (h : ∀ x ∈ xs, nb x = true) : nbAll xs = true := by
  induction xs with
  | nil => rfl
  | cons x r ih =>
    show (nb x && nbAll r) = true
    rw [h x (List.mem_cons_self ..), ih fun y hy => h y (List.mem_cons_of_mem _ hy)]
    rfl
theorem set_len {xs : List Nat} {ks : List Int} (nd : ks.Nodup) (hm : ∀ k, k ∈ ks ↔ k ∈ ni xs) : ks.length ≤ xs.length := by
  obtain ⟨zs, rfl⟩ := ni_of (zs := ks) fun k hk => by
    have := (hm k).mp hk
    unfold ni at this
    obtain ⟨j, _, rfl⟩ := List.mem_map.mp this
    omega
  unfold ni at nd hm ⊢
  have h1 : zs.Nodup := by
    rw [List.nodup_iff_pairwise_ne, List.pairwise_map] at nd
    exact nd.imp fun h e => h (by rw [e])
  have := nodup_sub (ys := xs) h1 fun z hz => by
    obtain ⟨j, hj, e⟩ := List.mem_map.mp ((hm (z : Int)).mp (List.mem_map.mpr ⟨z, hz, rfl⟩))
    rwa [show z = j by omega]
  rw [List.length_map]
  omega
end Wn
/-! what comes of a lambda that is called in a try: its value itself, or an error's word and field -/
namespace Wn
open PySem PySem.Spec PyProof.Rows L2 LamX
def TTh (es : List (Addr × Str × (V → HO))) : (XK → Hp → VK → Prop) → Hp → VK → Prop := fun tl H Q =>
  ∀ (H2 : Hp) (Qn : VK) (E : XK), Gr [] H H2 → (∀ v H3, Q v H3 → Qn v H3) →
    (∀ (C d : Addr) (f : Str) (mk : V → HO) (v : V) (H3 : Hp), (C, f, mk) ∈ es → H3 d = some (.xd [(f, v)]) → (∀ t H4, Gr [] H3 H4 → H4 t = some (mk v) → Q (.ref t) H4) → E (.ref C) (some d) H3) → tl E H2 Qn
section
variable {K : PySem.W.Frag} {T : List (Addr × Str)} {σ : L2.St} {H : Hp} {es : List (Addr × Str × (V → HO))} {t : XK → TE} {d : PyData}
theorem et_hV (h : ∀ (E : XK) (H1 : Hp), ExtN H H1 → ∀ Q : VK, (∀ v H2, Gr [] H1 H2 → Dp K H2 v d → Q v H2) → t E σ H1 Q) : EvT K T (tLam T (TTh es) t) σ H d := fun H1 g0 t1 Q q =>
  ⟨t1, fun H2 g2 t2 H3 Qn E g3 kn _ => h E H3 ((g0.trans g2).trans (extOf g3)) Qn fun v H4 g4 a => kn v H4 (q v H4 (g2.trans (extOf (g3.trans g4))) (tabsGr t2 (g3.trans g4)) a)⟩
theorem et_hX {C : Addr} {f w : Str} {mk : V → HO} (hm : (C, f, mk) ∈ es) (hk : ∀ v, mk v = .tup [.str w, v])
    (h : ∀ (E : XK) (H1 : Hp), ExtN H H1 → ∀ (Q : VK), (∀ (dd : Addr) (v : V) H2, Gr [] H1 H2 → H2 dd = some (.xd [(f, v)]) → Dp K H2 v d → E (.ref C) (some dd) H2) → t E σ H1 Q) : EvT K T (tLam T (TTh es) t) σ H (.tuple [.str w, d]) := fun H1 g0 t1 Q q =>
  ⟨t1, fun H2 g2 t2 H3 Qn E g3 kn ke => h E H3 ((g0.trans g2).trans (extOf g3)) Qn fun dd v H4 g4 hd a => ke C dd f mk v H4 hm hd fun t' H5 g5 h5 =>
    q _ _ (g2.trans (extOf ((g3.trans g4).trans g5))) (tabsGr t2 ((g3.trans g4).trans g5)) (dp_tup (by rw [h5, hk]) (.cons (.str _) (.cons (Dp.kp (Kp.of g5) a) .nil)))⟩
theorem et_hXl {C : Addr} {f w : Str} {mk : V → HO} (hm : (C, f, mk) ∈ es) (hk : ∀ v, mk v = .lst [.str w, v])
    (h : ∀ (E : XK) (H1 : Hp), ExtN H H1 → ∀ (Q : VK), (∀ (dd : Addr) (v : V) H2, Gr [] H1 H2 → H2 dd = some (.xd [(f, v)]) → Dp K H2 v d → E (.ref C) (some dd) H2) → t E σ H1 Q) : EvT K T (tLam T (TTh es) t) σ H (.list [.str w, d]) := fun H1 g0 t1 Q q =>
  ⟨t1, fun H2 g2 t2 H3 Qn E g3 kn ke => h E H3 ((g0.trans g2).trans (extOf g3)) Qn fun dd v H4 g4 hd a => ke C dd f mk v H4 hm hd fun t' H5 g5 h5 =>
    q _ _ (g2.trans (extOf ((g3.trans g4).trans g5))) (tabsGr t2 ((g3.trans g4).trans g5)) (dp_lst (by rw [h5, hk]) (.cons (.str _) (.cons (Dp.kp (Kp.of g5) a) .nil)))⟩
/-- data beside no lambda -/
theorem et_ew {te : TE} (h : ∀ H, EvW K [] te σ H d) : EvT K T te σ H d := et_of fun H => (h H).evd
theorem et_ewV {te : TE} (h : ∀ H', ExtN H H' → EvW K [] te σ H' d) : EvT K T te σ H d := fun H1 g t1 Q q => h H1 g H1 (Gr.refl _ _) (fun a m => by simp at m) Q fun v H2 g2 e => q v H2 (extOf g2) (tabsGr t1 g2) (Dp.kp hid_out e)
theorem dpA_rep {H : Hp} {vs : List V} {ds : List PyData} (a : DpAll K H vs ds) : ∀ k : Nat, DpAll K H (List.replicate k vs).flatten (List.replicate k ds).flatten
  | 0 => .nil
  | k + 1 => by
    rw [List.replicate_succ, List.replicate_succ, List.flatten_cons, List.flatten_cons]
    exact dpAll_append a (dpA_rep a k)
theorem etl_rep {te ti : TE} {ds : List PyData} {k : Nat} (h : EvTL K T te σ H ds) (hi : EvT K T ti σ H (.int (k : Nat))) (hk : k ≤ 1000 := by exact Nat.le_of_ble_eq_true rfl) (hz : ds.length ≤ 1000 := by exact Nat.le_of_ble_eq_true rfl) : EvTL K T (tOp rRep te ti) σ H (List.replicate k ds).flatten := fun H1 g t1 Q q =>
  h H1 g t1 _ fun p xs H2 g2 t2 e2 a2 => hi H2 (g.trans g2) t2 _ fun v H3 g3 t3 e3 => by
    obtain rfl := dp_int e3
    have hl := dpAll_len a2
    have hm : xs.length * k ≤ 1000 * 1000 := Nat.mul_le_mul (by omega) hk
    refine ⟨p, (k : Int), xs, rfl, rfl, ExtN.lst g3 e2, by omega, by omega, ?_, fun r nr => ?_⟩
    · rw [Int.toNat_natCast]
      exact Nat.le_trans hm (by decide)
    · rw [Int.toNat_natCast]
      have gr := Gr.new (W := []) (o := .lst (List.replicate k xs).flatten) nr
      exact q r _ _ ((g2.trans g3).trans (extOf gr)) (tabsGr t3 gr) upd_same (dpA_rep (DpAll.kp (kpExt (g3.trans (extOf gr))) a2) k)
end
end Wn
/-! rules over data with dicts -/
namespace Wn
open PySem PySem.Spec PyProof.Rows L2 LamX
def rNotInT (K : PySem.W.Frag) : R2 := fun x y H Q => ∃ d ds, Dp K H x d ∧ Dp K H y (.tuple ds) ∧ SeqAt.shaped d = true ∧ SeqAt.shaped (.list ds) = true ∧ Q (.bl (!ds.any fun z => PyData.eqv z d)) H
theorem op_notInT {X : Cx} (hu : X.A.units + 200 < cLine) : OpR X (compareOp .NotIn) (rNotInT X.K) := by
  intro pins s σ H x y v u Q I rx ry h
  obtain ⟨d, ds, hd, he, sd, se, q⟩ := h
  obtain ⟨as, r1⟩ := Dp.reads I d x v hd rx
  obtain ⟨bs, r2⟩ := Dp.reads I (.tuple ds) y u he ry
  exact SeqAt.notIn_tuple_reads r2 r1 (SeqAt.canLay_of_shaped se) (SeqAt.canLay_of_shaped sd) (room_in_shaped sd (by omega)) ⟨.bl _, H, I, rfl, q⟩
theorem op_inDL {X : Cx} (hu : X.A.units + 200 < cLine) : OpR X (compareOp .In) (rInD X.K) := op_inD (by omega)
/-- a tuple of any things == () -/
def rEqT0 (K : PySem.W.Frag) : R2 := fun x y H Q => ∃ (a b : Addr) (xs : List V), x = .ref a ∧ y = .ref b ∧ SqT K H a xs ∧ SqT K H b [] ∧ Q (.bl xs.isEmpty) H
theorem op_eqT0 {X : Cx} (hu : X.A.units + 200 < cLine) : OpR X (compareOp .Eq) (rEqT0 X.K) := by
  intro pins s σ H x y v u Q I rx ry h
  obtain ⟨a, b, xs, rfl, rfl, ha, hb, q⟩ := h
  cases rx
  cases ry
  obtain ⟨its, rv, ⟨o, ho, hc, n, hd⟩, _⟩ := I.tuple ha
  obtain ⟨its2, rv2, ⟨o2, ho2, hc2, n2, hd2⟩, _⟩ := I.tuple hb
  cases rv2
  have hl : s.heap.IsTuple a its.toArray := ⟨_, ho, hc, _, hd⟩
  have hl' : s.heap.IsTuple b (([] : List Value).toArray) := ⟨_, ho2, hc2, _, hd2⟩
  have r := SeqAt.RcAt.tuples (A := X.A) (e := fun _ => true) hl hl' (by omega) (fun j _ j2 => absurd j2 (by simp))
  refine r X.prog X.w _ _ ⟨.bl xs.isEmpty, H, I, ?_, q⟩
  have hlen := rv.length
  cases its with
  | nil =>
    cases xs with
    | nil => rfl
    | cons y ys => cases rv
  | cons z zs =>
    cases xs with
    | nil => cases rv
    | cons y ys => rfl
/-! what type a thing is of -/
def tyD : PyData → String
  | .none => "NoneType"
  | .bool _ => "bool"
  | .int _ => "int"
  | .str _ => "str"
  | .list _ => "list"
  | .tuple _ => "tuple"
  | .dict _ => "dict"
theorem sqT_ty {K : PySem.W.Frag} {H : Hp} {a : Addr} {xs : List V} (h : SqT K H a xs) : TyX K H (.ref a) (.type "tuple") := by
  rcases h with (h | ⟨o, h⟩) | ⟨o, its, n, h, c, _⟩
  · exact .base (.tup h)
  · exact .fTuple h
  · exact .kTuple h c
theorem sqL_ty {K : PySem.W.Frag} {H : Hp} {a : Addr} {xs : List V} (h : SqL K H a xs) : TyX K H (.ref a) (.type "list") := by
  rcases h with (h | ⟨o, h⟩) | ⟨o, its, n, h, c, _⟩
  · exact .base (.lst h)
  · exact .base (.frz h)
  · exact .kList h c
theorem dz_ty {K : PySem.W.Frag} {H : Hp} {v : V} {d : PyData} (h : Dz K H v d) : TyX K H v (.type (tyD d)) ∧ tyD d ∈ tyNames := by
  cases h with
  | non => exact ⟨.base .non, by show "NoneType" ∈ tyNames; decide⟩
  | bl b => exact ⟨.base (.bl b), by show "bool" ∈ tyNames; decide⟩
  | int i => exact ⟨.base (.int i), by show "int" ∈ tyNames; decide⟩
  | str x => exact ⟨.base (.str x), by show "str" ∈ tyNames; decide⟩
  | lst s a => exact ⟨sqL_ty s, by show "list" ∈ tyNames; decide⟩
  | tup s a => exact ⟨sqT_ty s, by show "tuple" ∈ tyNames; decide⟩
  | dct h1 h2 h3 => exact ⟨.base (.dK h1), by show "dict" ∈ tyNames; decide⟩
def isI : PyData → Bool
  | .int _ => true
  | _ => false
def isW (lo hi : Int) : PyData → Bool
  | .int i => decide (lo ≤ i) && decide (i ≤ hi)
  | _ => false
theorem rIs_dz {K : PySem.W.Frag} {H : Hp} {v : V} {d : PyData} {n : String} {Q : VK} (h : Dz K H v d) (hn : n ∈ qyNames) (q : Q (.bl (isB (tyD d) n)) H) : rIs K [v, .ty n] H Q :=
  ⟨v, n, rfl, tyD d, ⟨(dz_ty h).1, (dz_ty h).2, hn⟩, q⟩
theorem tyD_nn {d : PyData} (h1 : isB (tyD d) "int" = true) (h2 : isB (tyD d) "bool" = false) : ∃ i, d = .int i := by
  cases d with
  | int i => exact ⟨i, rfl⟩
  | none => cases h1
  | bool b => cases h2
  | str x => cases h1
  | list x => cases h1
  | tuple x => cases h1
  | dict x => cases h1
theorem isI_of {d : PyData} : isI d = (isB (tyD d) "int" && !isB (tyD d) "bool") := by cases d <;> rfl
theorem isTup_of {d : PyData} (h : isB (tyD d) "tuple" = true) : ∃ ds, d = .tuple ds := by
  cases d with
  | tuple ds => exact ⟨ds, rfl⟩
  | none => cases h
  | bool b => cases h
  | str x => cases h
  | list x => cases h
  | int x => cases h
  | dict x => cases h
theorem isStr_of {d : PyData} (h : isB (tyD d) "str" = true) : ∃ x, d = .str x := by
  cases d with
  | str ds => exact ⟨ds, rfl⟩
  | none => cases h
  | bool b => cases h
  | tuple x => cases h
  | list x => cases h
  | int x => cases h
  | dict x => cases h
theorem dzAll_at {K : PySem.W.Frag} {H : Hp} : ∀ {vs : List V} {ds : List PyData} {i : Nat} {d : PyData}, DzAll K H vs ds → ds[i]? = some d → ∃ v, vs[i]? = some v ∧ Dz K H v d
  | _, _, _, _, .nil, h => by simp at h
  | _, _, 0, _, .cons a _, h => ⟨_, rfl, by
    have : _ = _ := Option.some.inj h
    rw [← this]
    exact a⟩
  | _, _, i + 1, _, .cons _ t, h => by
    obtain ⟨v, h1, h2⟩ := dzAll_at (i := i) t (by simpa using h)
    exact ⟨v, by simpa using h1, h2⟩
theorem dzAll_atV {K : PySem.W.Frag} {H : Hp} {vs : List V} {ds : List PyData} {i : Nat} {v : V} (h : DzAll K H vs ds) (e : vs[i]? = some v) : ∃ d, ds[i]? = some d ∧ Dz K H v d := by
  have hl := dzAll_len h
  have hi : i < ds.length := by
    have := (List.getElem?_eq_some_iff.mp e).1
    omega
  obtain ⟨v2, h1, h2⟩ := dzAll_at h (List.getElem?_eq_getElem hi)
  rw [e] at h1
  cases h1
  exact ⟨_, List.getElem?_eq_getElem hi, h2⟩
theorem dzAll_take {K : PySem.W.Frag} {H : Hp} : ∀ {vs : List V} {ds : List PyData} (j : Nat), DzAll K H vs ds → DzAll K H (vs.take j) (ds.take j)
  | _, _, 0, _ => by
    rw [List.take_zero, List.take_zero]
    exact .nil
  | _, _, j + 1, .nil => .nil
  | _, _, j + 1, .cons a b => .cons a (dzAll_take j b)
theorem dzAll_drop {K : PySem.W.Frag} {H : Hp} : ∀ {vs : List V} {ds : List PyData} (j : Nat), DzAll K H vs ds → DzAll K H (vs.drop j) (ds.drop j)
  | _, _, 0, h => h
  | _, _, j + 1, .nil => .nil
  | _, _, j + 1, .cons a b => dzAll_drop j b
theorem dzAll_ints {K : PySem.W.Frag} {H : Hp} : ∀ {vs : List V} {ns : List Int}, DzAll K H vs (ns.map PyData.int) → vs = ns.map V.int
  | _, [], h => by cases h; rfl
  | _, n :: ns, h => by
    cases h with
    | cons a b => rw [dz_int a, dzAll_ints b]; rfl
theorem allI_ints : ∀ {ds : List PyData}, (∀ d ∈ ds, isI d = true) → ∃ ns : List Int, ds = ns.map PyData.int
  | [], _ => ⟨[], rfl⟩
  | d :: ds, h => by
    obtain ⟨ns, e⟩ := allI_ints fun x hx => h x (List.mem_cons_of_mem _ hx)
    have hd := h d (List.mem_cons_self ..)
    cases d with
    | int i => exact ⟨i :: ns, by rw [e]; rfl⟩
    | none => cases hd
    | bool b => cases hd
    | str x => cases hd
    | list x => cases hd
    | tuple x => cases hd
    | dict x => cases hd
/-! the heap without a part of it -/
theorem hid_gr {W : List Addr} {H H' : Hp} (g : Gr W H H') : Gr [] (hid W H) (hid W H') := fun a o _ e => hid_get (g a _ (hid_inv e).1 (hid_inv e).2) (hid_inv e).1
theorem hid_grO {W : List Addr} {H : Hp} : Gr [] (hid W H) H := fun a o _ e => (hid_inv e).2
theorem Dz.inh {K : PySem.W.Frag} {W : List Addr} {H H' : Hp} {v : V} {d : PyData} (g : Gr W H H') (h : Dz K (hid W H) v d) : Dz K (hid W H') v d := Dz.gr (hid_gr g) h
theorem DzAll.inh {K : PySem.W.Frag} {W : List Addr} {H H' : Hp} {v : List V} {d : List PyData} (g : Gr W H H') (h : DzAll K (hid W H) v d) : DzAll K (hid W H') v d := DzAll.gr (hid_gr g) h
theorem Dz.out {K : PySem.W.Frag} {W : List Addr} {H : Hp} {v : V} {d : PyData} (h : Dz K (hid W H) v d) : Dz K H v d := Dz.gr hid_grO h
theorem DzAll.out {K : PySem.W.Frag} {W : List Addr} {H : Hp} {v : List V} {d : List PyData} (h : DzAll K (hid W H) v d) : DzAll K H v d := DzAll.gr hid_grO h
mutual
theorem Dz.ext {K : PySem.W.Frag} {H H' : Hp} (g : ExtN H H') : ∀ {v : V} {d : PyData}, Dz K H v d → Dz K H' v d
  | _, _, .non => .non
  | _, _, .bl b => .bl b
  | _, _, .int i => .int i
  | _, _, .str x => .str x
  | _, _, .lst h1 h2 => .lst ((kpExt g).sqL h1) (DzAll.ext g h2)
  | _, _, .tup h1 h2 => .tup ((kpExt g).sqT h1) (DzAll.ext g h2)
  | _, _, .dct h1 h2 h3 => .dct (g _ _ h1 (fun _ z => by cases z)) h2 (DzAll.ext g h3)
theorem DzAll.ext {K : PySem.W.Frag} {H H' : Hp} (g : ExtN H H') : ∀ {vs : List V} {ds : List PyData}, DzAll K H vs ds → DzAll K H' vs ds
  | _, _, .nil => .nil
  | _, _, .cons h1 h2 => .cons (Dz.ext g h1) (DzAll.ext g h2)
end
/-! what repr takes, by size -/
structure Sz (d : PyData) (B D W : Nat) : Prop where
  show_ : d.showable = true
  leaf : d.leavesShort B = true
  dep : d.depth ≤ D
  wei : d.bulk ≤ W
theorem Sz.all : ∀ {xs : List PyData} {B D W : Nat}, (∀ x ∈ xs, Sz x B D W) → PyData.showableAll xs = true ∧ PyData.leavesShortAll B xs = true ∧ PyData.depthAll xs ≤ D ∧ PyData.bulkAll xs ≤ xs.length * (W + 1)
  | [], _, _, _, _ => ⟨rfl, rfl, Nat.zero_le _, Nat.zero_le _⟩
  | x :: xs, B, D, W, h => by
    obtain ⟨h1, h2, h4, h5⟩ := Sz.all (xs := xs) fun y hy => h y (List.mem_cons_of_mem _ hy)
    have hx := h x (List.mem_cons_self ..)
    refine ⟨?_, ?_, ?_, ?_⟩
    · show (x.showable && PyData.showableAll xs) = true
      rw [hx.show_, h1]
      rfl
    · show (x.leavesShort B && PyData.leavesShortAll B xs) = true
      rw [hx.leaf, h2]
      rfl
    · show max x.depth (PyData.depthAll xs) ≤ D
      exact Nat.max_le.mpr ⟨hx.dep, h4⟩
    · show x.bulk + 1 + PyData.bulkAll xs ≤ (xs.length + 1) * (W + 1)
      rw [Nat.succ_mul]
      have := hx.wei
      omega
theorem Sz.lst {xs : List PyData} {B D W : Nat} (n : Nat) (h : ∀ x ∈ xs, Sz x B D W) (hn : xs.length ≤ n) : Sz (.list xs) B (D + 1) (n * (W + 1)) := by
  obtain ⟨h1, h2, h4, h5⟩ := Sz.all h
  exact ⟨h1, h2, Nat.succ_le_succ h4, Nat.le_trans h5 (Nat.mul_le_mul_right _ hn)⟩
theorem Sz.tup {xs : List PyData} {B D W : Nat} (n : Nat) (h : ∀ x ∈ xs, Sz x B D W) (hn : xs.length ≤ n) : Sz (.tuple xs) B (D + 1) (n * (W + 1)) := by
  obtain ⟨h1, h2, h4, h5⟩ := Sz.all h
  exact ⟨h1, h2, Nat.succ_le_succ h4, Nat.le_trans h5 (Nat.mul_le_mul_right _ hn)⟩
theorem Sz.mono {d : PyData} {B D W D' W' : Nat} (h : Sz d B D W) (h1 : D ≤ D') (h2 : W ≤ W') : Sz d B D' W' := ⟨h.show_, h.leaf, Nat.le_trans h.dep h1, Nat.le_trans h.wei h2⟩
theorem Sz.int {i : Int} {k W : Nat} (hk : k ≤ 500) (h : i.natAbs < 10 ^ k) : Sz (.int i) (k + 2) 0 W := by
  refine ⟨?_, ?_, Nat.le_refl _, Nat.zero_le _⟩
  · refine decide_eq_true ?_
    have h2 : i.natAbs < 2 ^ 1900 := Nat.lt_of_lt_of_le h (Nat.le_trans (Nat.pow_le_pow_right (by decide) hk) (by decide +kernel))
    rcases Nat.eq_zero_or_pos i.natAbs with z | z
    · rw [z, Nat.log2_zero]
      decide
    · exact Nat.lt_of_lt_of_le ((Nat.log2_lt (by omega)).mpr h2) (by decide)
  · refine decide_eq_true ?_
    show (Str.ofString (toString i)).length ≤ k + 2
    rw [PySem.ofString_length]
    rcases Nat.eq_zero_or_pos k with z | z
    · subst z
      have : i = 0 := by
        rw [Nat.pow_zero] at h
        omega
      subst this
      decide
    · exact Nat.le_succ_of_le (int_text_length_le10 z h)
theorem Sz.fit {d : PyData} {B D W : Nat} (h : Sz d B D W) (h0 : 8 ≤ B := by decide) (h1 : D ≤ 100 := by decide) (h2 : (B + 2) * W + B ≤ 16777216 := by decide) : FitZ d := by
  refine ⟨h.show_, Nat.le_trans h.dep h1, ?_⟩
  have h3 := PyData.shown_le_bulk B h0 d h.leaf
  have h4 : (B + 2) * d.bulk ≤ (B + 2) * W := Nat.mul_le_mul_left _ h.wei
  rw [sizeLine_eq]
  omega
end Wn
/-! expressions that give data with dicts, beside what grows -/
namespace Wn
open PySem PySem.Spec PyProof.Rows L2 LamX
theorem dz_vnL {K : PySem.W.Frag} {H : Hp} {t : Addr} {xs : List Nat} (h : H t = some (.lst (vn xs))) : Dz K H (.ref t) (.list ((ni xs).map PyData.int)) := dz_lst h (by rw [vn_ni]; exact DzAll.of (dpAll_ints _))
theorem dz_vnT {K : PySem.W.Frag} {H : Hp} {t : Addr} {xs : List Nat} (h : H t = some (.tup (vn xs))) : Dz K H (.ref t) (di xs) := dz_tup h (by rw [vn_ni]; exact DzAll.of (dpAll_ints _))
theorem dzAll_rev {K : PySem.W.Frag} {H : Hp} : ∀ {vs : List V} {ds : List PyData}, DzAll K H vs ds → DzAll K H vs.reverse ds.reverse
  | _, _, .nil => .nil
  | _, _, .cons a b => by
    rw [List.reverse_cons, List.reverse_cons]
    exact dzAll_append (dzAll_rev b) (.cons a .nil)
section
variable {K : PySem.W.Frag} {σ : L2.St} {H : Hp} {W : List Addr}
def EzW (K : PySem.W.Frag) (W : List Addr) (te : TE) (σ : L2.St) (H : Hp) (d : PyData) : Prop := ∀ H1, Gr W H H1 → Wst W H1 → ∀ Q : VK, (∀ v H2, Gr [] H1 H2 → Dz K (hid W H2) v d → Q v H2) → te σ H1 Q
def EszW (K : PySem.W.Frag) (W : List Addr) (ta : TA) (σ : L2.St) (H : Hp) (ds : List PyData) : Prop := ∀ H1, Gr W H H1 → Wst W H1 → ∀ Q : List V → Hp → Prop, (∀ vs H2, Gr [] H1 H2 → DzAll K (hid W H2) vs ds → Q vs H2) → ta σ H1 Q
theorem ez_var {i : Nat} {v : V} {d : PyData} (e : σ[i]? = some (some v)) (h : Dz K (hid W H) v d) : EzW K W (tVar i) σ H d := fun H1 g _ Q q => ⟨v, e, q v H1 (Gr.refl _ _) (Dz.gr (hid_gr g) h)⟩
theorem ez_int {i : Int} : EzW K W (tC (.int i)) σ H (.int i) := fun H1 _ _ Q q => q _ H1 (Gr.refl _ _) (.int i)
theorem ez_bl {i : Bool} : EzW K W (tC (.bl i)) σ H (.bool i) := fun H1 _ _ Q q => q _ H1 (Gr.refl _ _) (.bl i)
theorem ez_str {i : Str} : EzW K W (tC (.str i)) σ H (.str i) := fun H1 _ _ Q q => q _ H1 (Gr.refl _ _) (.str i)
theorem ez_non : EzW K W (tC .non) σ H .none := fun H1 _ _ Q q => q _ H1 (Gr.refl _ _) .non
theorem ezs_nil : EszW K W tNil σ H [] := fun H1 _ _ Q q => q _ H1 (Gr.refl _ _) .nil
theorem ezs_cons {te : TE} {ta : TA} {d : PyData} {ds : List PyData} (h : EzW K W te σ H d) (r : EszW K W ta σ H ds) : EszW K W (tCons te ta) σ H (d :: ds) := fun H1 g s Q q =>
  h H1 g s _ fun v H2 g2 dv => r H2 (g.trans (gr0 g2)) (s.gr g2) _ fun vs H3 g3 dvs => q _ H3 (g2.trans g3) (.cons (Dz.gr (hid_gr (gr0 g3)) dv) dvs)
theorem ez_tup {ta : TA} {ds : List PyData} (h : EszW K W ta σ H ds) (hz : ds.length ≤ 1000 := by exact Nat.le_of_ble_eq_true rfl) : EzW K W (tTup ta) σ H (.tuple ds) := fun H1 g s Q q =>
  h H1 g s _ fun vs H2 g2 a => ⟨by rw [dzAll_len a]; exact Nat.le_of_lt (small1000 hz), fun p np => q _ _ (g2.trans (Gr.new np)) (dz_tup (hid_get upd_same ((s.gr g2).ne np)) (DzAll.gr (hid_gr (Gr.new np)) a))⟩
theorem ez_lst {ta : TA} {ds : List PyData} (h : EszW K W ta σ H ds) (hz : ds.length ≤ 1000 := by exact Nat.le_of_ble_eq_true rfl) : EzW K W (tLst ta) σ H (.list ds) := fun H1 g s Q q =>
  h H1 g s _ fun vs H2 g2 a => ⟨by rw [dzAll_len a]; exact Nat.le_of_lt (small1000 hz), fun p np => q _ _ (g2.trans (Gr.new np)) (dz_lst (hid_get upd_same ((s.gr g2).ne np)) (DzAll.gr (hid_gr (Gr.new np)) a))⟩
theorem ezl_d {te : TE} {xs : List Nat} (h : ElW W te σ H xs) : EzW K W te σ H (lstD xs) := fun H1 g s Q q => h H1 g s _ fun p H2 g2 n e => q _ H2 g2 (dz_vnL (hid_get e n))
theorem ez_tupOf {te : TE} {xs : List Nat} (h : ElW W te σ H xs) : EzW K W (tCB (rTpO K) (tCons te tNil)) σ H (di xs) := fun H1 g s Q q =>
  h H1 g s _ fun p H2 g2 n e => ⟨p, vn xs, rfl, .inl ⟨sq_lst e, fun t nt => q _ _ (g2.trans (Gr.new nt)) (dz_vnT (hid_get upd_same ((s.gr g2).ne nt)))⟩⟩
theorem ez_listOf {te : TE} {ds : List PyData} (h : EzW K W te σ H (.tuple ds)) : EzW K W (tCB (rLsO K) (tCons te tNil)) σ H (.list ds) := fun H1 g s Q q =>
  h H1 g s _ fun v H2 g2 e => by
    cases e with
    | tup s' a' => exact ⟨_, _, rfl, .inr (hid_out.sqT s'), fun l nl => q _ _ (g2.trans (Gr.new nl)) (dz_lst (hid_get upd_same ((s.gr g2).ne nl)) (DzAll.gr (hid_gr (Gr.new nl)) a'))⟩
theorem ez_slT {te : TE} {ds : List PyData} {j : Nat} (h : EzW K W te σ H (.tuple ds)) (hj : j ≤ ds.length) : EzW K W (tSl (rSlA K) te tNoPart (tPart (tC (.int (j : Nat))))) σ H (.tuple (ds.take j)) := fun H1 g s Q q =>
  h H1 g s _ fun v H2 g2 e => by
    cases e with
    | @tup a ys _ s' t =>
      have hl := dzAll_len t
      refine ⟨(j : Int), rfl, a, ys, rfl, hid_out.sqT s', fun z => ?_, fun _ p np => ?_⟩
      · have e1 := z.2
        rw [HT.sIx_nat] at e1
        have e2 : ds.take j = ds := List.take_of_length_le (by omega)
        refine q _ H2 g2 ?_
        rw [e2]
        exact .tup s' t
      · refine q _ _ (g2.trans (Gr.new np)) (dz_tup (hid_get upd_same ((s.gr g2).ne np)) ?_)
        rw [cut_lo (by omega)]
        exact DzAll.gr (hid_gr (Gr.new np)) (dzAll_take j t)
theorem ez_catT {ta tb : TE} {ds es : List PyData} (h1 : EzW K W ta σ H (.tuple ds)) (h2 : EzW K W tb σ H (.tuple es)) (hz : ds.length + es.length ≤ 6000) : EzW K W (tOp (rCatA K) ta tb) σ H (.tuple (ds ++ es)) := fun H1 g s Q q =>
  h1 H1 g s _ fun v H2 g2 e2 => h2 H2 (g.trans (gr0 g2)) (s.gr g2) _ fun v3 H3 g3 e3 => by
    have e2 := Dz.gr (hid_gr (gr0 g3)) e2
    cases e2 with
    | @tup a xs _ s1 t1 =>
      cases e3 with
      | @tup b ys _ s2 t2 =>
        have l1 := dzAll_len t1
        have l2 := dzAll_len t2
        refine ⟨a, b, xs, ys, rfl, rfl, hid_out.sqT s1, hid_out.sqT s2, Nat.le_trans (show _ ≤ 6000 by omega) (by decide), fun z => ?_, fun _ z => ?_, fun _ _ p np => ?_⟩
        · subst z
          cases t1
          exact q _ H3 (g2.trans g3) (.tup s2 t2)
        · subst z
          cases t2
          rw [List.append_nil] at q
          exact q _ H3 (g2.trans g3) (.tup s1 t1)
        · exact q _ _ ((g2.trans g3).trans (Gr.new np)) (dz_tup (hid_get upd_same (((s.gr g2).gr g3).ne np)) (DzAll.gr (hid_gr (Gr.new np)) (dzAll_append t1 t2)))
theorem EzW.on {te : TE} {d : PyData} {H' : Hp} (h : EzW K W te σ H d) (g : Gr W H H') : EzW K W te σ H' d := fun H1 g1 s Q q => h H1 (g.trans g1) s Q q
theorem ez_i0 {g : Int → Int → Int} {ta tb : TE} {i j : Int} (h1 : EzW K W ta σ H (.int i)) (h2 : EzW K W tb σ H (.int j)) : EzW K W (tOp (rI0 fun i j => .int (g i j)) ta tb) σ H (.int (g i j)) := fun H1 gr s Q q =>
  h1 H1 gr s _ fun v H2 g2 e => h2 H2 (gr.trans (gr0 g2)) (s.gr g2) _ fun w H3 g3 e3 => by
    obtain rfl := dz_int e
    obtain rfl := dz_int e3
    exact ⟨i, j, rfl, rfl, q _ H3 (g2.trans g3) (.int _)⟩
theorem ez_iC {C : Int → Int → Prop} {g : Int → Int → Int} {ta tb : TE} {i j : Int} (h1 : EzW K W ta σ H (.int i)) (h2 : EzW K W tb σ H (.int j)) (hc : C i j) : EzW K W (tOp (rI C fun i j => .int (g i j)) ta tb) σ H (.int (g i j)) := fun H1 gr s Q q =>
  h1 H1 gr s _ fun v H2 g2 e => h2 H2 (gr.trans (gr0 g2)) (s.gr g2) _ fun w H3 g3 e3 => by
    obtain rfl := dz_int e
    obtain rfl := dz_int e3
    exact ⟨i, j, rfl, rfl, hc, q _ H3 (g2.trans g3) (.int _)⟩
theorem ez_neg {g : Int → Int} {ta : TE} {i : Int} (h1 : EzW K W ta σ H (.int i)) : EzW K W (tUn (rU fun i => .int (g i)) ta) σ H (.int (g i)) := fun H1 gr s Q q =>
  h1 H1 gr s _ fun v H2 g2 e => by
    obtain rfl := dz_int e
    exact ⟨i, rfl, q _ H2 g2 (.int _)⟩
theorem ez_to {te : TE} {d e : PyData} (h : EzW K W te σ H d) (z : d = e) : EzW K W te σ H e := z ▸ h
theorem ez_take {te tp : TE} {ds : List PyData} {j : Nat} (h : EzW K W te σ H (.tuple ds)) (hp : EzW K W tp σ H (.int (j : Nat))) : EzW K W (tSl (rSlA K) te tNoPart (tPart tp)) σ H (.tuple (ds.take j)) := fun H1 g s Q q =>
  h H1 g s _ fun v H2 g2 e => hp H2 (g.trans (gr0 g2)) (s.gr g2) _ fun vj H3 g3 ej => by
    obtain rfl := dz_int ej
    have e := Dz.gr (hid_gr (gr0 g3)) e
    cases e with
    | @tup a ys _ s' t =>
      have hl := dzAll_len t
      refine ⟨(j : Int), rfl, a, ys, rfl, hid_out.sqT s', fun z => ?_, fun _ p np => ?_⟩
      · have e1 := z.2
        rw [HT.sIx_nat] at e1
        have e2 : ds.take j = ds := List.take_of_length_le (by omega)
        refine q _ H3 (g2.trans g3) ?_
        rw [e2]
        exact .tup s' t
      · refine q _ _ ((g2.trans g3).trans (Gr.new np)) (dz_tup (hid_get upd_same (((s.gr g2).gr g3).ne np)) ?_)
        rw [cut_lo']
        exact DzAll.gr (hid_gr (Gr.new np)) (dzAll_take j t)
theorem ez_drop {te tp : TE} {ds : List PyData} {j : Nat} (h : EzW K W te σ H (.tuple ds)) (hp : EzW K W tp σ H (.int (j : Nat))) : EzW K W (tSl (rSlA K) te (tPart tp) tNoPart) σ H (.tuple (ds.drop j)) := fun H1 g s Q q =>
  h H1 g s _ fun v H2 g2 e => hp H2 (g.trans (gr0 g2)) (s.gr g2) _ fun vj H3 g3 ej => by
    obtain rfl := dz_int ej
    have e := Dz.gr (hid_gr (gr0 g3)) e
    cases e with
    | @tup a ys _ s' t =>
      have hl := dzAll_len t
      refine ⟨(j : Int), rfl, a, ys, rfl, hid_out.sqT s', fun z => ?_, fun _ p np => ?_⟩
      · have e1 := z.1
        rw [HT.sIx_nat] at e1
        refine q _ H3 (g2.trans g3) ?_
        have e2 : ds.drop j = ds := by
          rcases Nat.eq_zero_or_pos j with z | z
          · subst z
            rfl
          · have : ds.length = 0 := by omega
            rw [List.length_eq_zero_iff.mp this]
            cases j <;> rfl
        rw [e2]
        exact .tup s' t
      · refine q _ _ ((g2.trans g3).trans (Gr.new np)) (dz_tup (hid_get upd_same (((s.gr g2).gr g3).ne np)) ?_)
        rw [cut_hi']
        exact DzAll.gr (hid_gr (Gr.new np)) (dzAll_drop j t)
theorem ez_rev {te : TE} {ds : List PyData} (h : EzW K W te σ H (.tuple ds)) : EzW K W (tStL (rRvT K) te (tUn (rU fun i => V.int (-i)) (tC (.int 1)))) σ H (.tuple ds.reverse) := fun H1 g s Q q =>
  h H1 g s _ fun v H2 g2 e => by
    cases e with
    | @tup a ys _ s' t =>
      exact ⟨1, rfl, a, ys, rfl, rfl, hid_out.sqT s', fun p np => q _ _ (g2.trans (Gr.new np)) (dz_tup (hid_get upd_same ((s.gr g2).ne np)) (DzAll.gr (hid_gr (Gr.new np)) (dzAll_rev t)))⟩
theorem ez_ixT {te ti : TE} {ds : List PyData} {d : PyData} {j : Nat} (h : EzW K W te σ H (.tuple ds)) (hi : EzW K W ti σ H (.int (j : Nat))) (hj : ds[j]? = some d) : EzW K W (tOp (rIxT K) te ti) σ H d := fun H1 g s Q q =>
  h H1 g s _ fun v H2 g2 e => hi H2 (g.trans (gr0 g2)) (s.gr g2) _ fun vi H3 g3 ei => by
    obtain rfl := dz_int ei
    have e := Dz.gr (hid_gr (gr0 g3)) e
    cases e with
    | @tup a ys _ s' t =>
      obtain ⟨y, hy, dy⟩ := dzAll_at t hj
      exact ⟨a, ys, (j : Int), y, rfl, rfl, hid_out.sqT s', atI_nat hy, q _ H3 (g2.trans g3) dy⟩
theorem ez_ixL {te ti : TE} {ds : List PyData} {d : PyData} {j : Nat} (h : EzW K W te σ H (.list ds)) (hi : EzW K W ti σ H (.int (j : Nat))) (hj : ds[j]? = some d) : EzW K W (tOp (rIxL K) te ti) σ H d := fun H1 g s Q q =>
  h H1 g s _ fun v H2 g2 e => hi H2 (g.trans (gr0 g2)) (s.gr g2) _ fun vi H3 g3 ei => by
    obtain rfl := dz_int ei
    have e := Dz.gr (hid_gr (gr0 g3)) e
    cases e with
    | @lst a ys _ s' t =>
      obtain ⟨y, hy, dy⟩ := dzAll_at t hj
      exact ⟨a, ys, (j : Int), y, rfl, rfl, hid_out.sqL s', atI_nat hy, q _ H3 (g2.trans g3) dy⟩
theorem ez_lenT {te : TE} {ds : List PyData} (h : EzW K W te σ H (.tuple ds)) : EzW K W (tCB (rLn K) (tCons te tNil)) σ H (.int (ds.length : Nat)) := fun H1 g s Q q =>
  h H1 g s _ fun v H2 g2 e => by
    cases e with
    | @tup a ys _ s' t => exact ⟨a, ys, rfl, .inr (hid_out.sqT s'), by rw [dzAll_len t]; exact q _ H2 g2 (.int _)⟩
theorem ez_lenL {te : TE} {ds : List PyData} (h : EzW K W te σ H (.list ds)) : EzW K W (tCB (rLn K) (tCons te tNil)) σ H (.int (ds.length : Nat)) := fun H1 g s Q q =>
  h H1 g s _ fun v H2 g2 e => by
    cases e with
    | @lst a ys _ s' t => exact ⟨a, ys, rfl, .inl (hid_out.sqL s'), by rw [dzAll_len t]; exact q _ H2 g2 (.int _)⟩
theorem ez_dct : EzW K W tDNewK σ H (.dict []) := fun H1 g s Q q => fun p np => q _ _ (Gr.new np) (.dct (kvs := []) (hid_get upd_same (s.ne np)) rfl .nil)
end
end Wn
/-! a lambda handed to a def that hands it on to a def that calls it -/
namespace Wn
open PySem PySem.Spec PyProof.Rows L2 LamX
section
variable {X : Cx} {pins : List (Addr × Obj)} {σ : L2.St} {H : Hp} {s : Shared}
theorem un_in {fs fs' : List Addr} {H H1 H2 : Hp} {h h1 h2 : Heap} (a : Un fs [] H H1 h h1) (b : Un fs' [] H1 H2 h1 h2) (hs : ∀ x ∈ fs, x ∈ fs') (hn : ∀ x o, h.get? x = some o → x ∈ fs' → x ∈ fs) : Un fs [] H H2 h h2 where
  keep := fun x o q n hx _ => b.keep x o (a.keep x o q n hx (by simp)) (a.free x o q n (by simp)) (fun z => hx (hn x o q z)) (by simp)
  slot := fun x o q n hx _ => by
    obtain ⟨sl, q1⟩ := a.slot x o q n hx (by simp)
    obtain ⟨sl2, q2⟩ := b.slot x _ q1 (a.free x o q n (by simp)) (hs x hx) (by simp)
    exact ⟨sl2, q2⟩
  free := fun x o q n _ => by
    by_cases hx : x ∈ fs
    · obtain ⟨sl, q1⟩ := a.slot x o q n hx (by simp)
      exact b.free x _ q1 (a.free x o q n (by simp)) (by simp)
    · exact b.free x o (a.keep x o q n hx (by simp)) (a.free x o q n (by simp)) (by simp)
  there := fun x o q _ => by
    obtain ⟨o1, q1⟩ := a.there x o q (by simp)
    exact b.there x o1 q1 (by simp)
  tups := fun x xs q => b.tups x xs (a.tups x xs q)
  frzs := fun x o u q => b.frzs x o u (a.frzs x o u q)
  tbls := fun x ps q => by
    obtain ⟨m1, q1⟩ := a.tbls x ps q
    obtain ⟨m2, q2⟩ := b.tbls x _ q1
    exact ⟨m1 ++ m2, by rw [q2, Array.append_assoc]⟩
/-- x(), in the def that got the lambda at last -/
theorem pe_actG {CXg : CXT} {Eg : XK} {Ng : List Str} {qg : Str} {sg : Scope} {g f c' : Addr} {cdg dV doc pm ctv : Value} {params : Arguments} {body : Expr} {scope : Scope} {D : List (Addr × Obj)} {k i : Nat} {a : Str} {pn : List (Addr × Obj)} {xe : Value → Shared → Prop} {W : WX} {tb : XK → TE} {p1 p2 : Pos}
    {A2 : Around} {outer2 : List Env} {s3 : Shared} {H3 : Hp}
    (I : Inv X pins σ H s) (L : LamD X.N X.env.scope scope) (M : Made X H s params body scope f c' dV doc pm ctv D)
    (un3 : ∀ HZ h1, Un (frs outer2) [] H3 HZ s3.heap h1 → Un (frs X.stack) [] H HZ s.heap h1)
    (tk : Takes ((cxOf CXg X.prog X.w X.K X.mg X.base Ng qg sg g cdg A2 outer2 s3 H3 Eg).tr pn xe) W) (hr : Room (k + 1) (A2.deeper (envOfC qg sg s3.heap.objs.size g cdg)))
    (hbody : ∀ (A : Around) (outer : List Env) (s : Shared) (H : Hp) (E : XK), Room k (A.deeper (lamEnv X scope s.heap.objs.size f c')) → PE (lamCx X A outer s H E scope f c') body (tb E))
    (hN : Ng[i]? = some a) (hv : Vis sg a) (hd : (a == ("__debug__" : Str)) = false := by decide) (hcd : (a == ("__classdict__" : Str)) = false := by decide) :
    PE ((cxOf CXg X.prog X.w X.K X.mg X.base Ng qg sg g cdg A2 outer2 s3 H3 Eg).tr pn xe) (.Call (.Name a p1) [] [] p2)
      (fun σZ HZ Q => σZ[i]? = some (some (.ref f)) ∧ HZ c' = some (CodeO c' (X.env.qual ++ "<lambda>")) ∧ ∃ E : XK, (∀ cls d H', E cls d H' → W cls d σZ H') ∧ tb E σ HZ Q) := by
  refine ⟨fun pinsZ sZ σZ HZ Q IZ h => ?_⟩
  obtain ⟨hs, hc, E, hW, ht⟩ := h
  refine wpAny_Call_Name_kw (thn ((pe_var (pos := p1) (i := i) hN hv hd hcd).run pinsZ sZ σZ HZ (fun v H1 => v = .ref f ∧ H1 = HZ) IZ ⟨.ref f, hs, rfl, rfl⟩) fun u s1 hh => ?_)
  obtain ⟨v, H1, I1, r1, ev, eH⟩ := hh
  subst ev
  rw [eH] at I1
  obtain rfl : u = Value.ref f := r1
  have un : Un (frs X.stack) [] H HZ s.heap s1.heap := un3 _ _ I1.base
  have stay : ∀ p ∈ D, s1.heap.get? p.1 = some p.2 := fun p hp => un.keep _ _ (M.there p hp).1 (M.there p hp).2.1 (M.there p hp).2.2 (by simp)
  have of1 := stay _ M.at_
  refine PySem.W.callWith_F0 ⟨_, _, _, _, of1⟩ ?_
  obtain ⟨⟨oc, vs, t, hoc, hdc, hvc⟩, _, _⟩ := I1.hok c' _ hc
  obtain ⟨bs, hbind, hloc⟩ := M.binds
  have rc : codeAny (model X.prog X.w) (A2.deeper (envOfC qg sg s3.heap.objs.size g cdg)) (.call (.ref f) ⟨[], []⟩) (CR (L2.CX X.prog X.w) (envOfC qg sg s3.heap.objs.size g cdg :: outer2) X.prog X.w HZ s1 Q E) s1 := by
    refine PySem.W.kla_callFunE hr.depth of1 rfl L.co L.gen rfl ⟨c', oc, vs, t, rfl, hoc, hdc, hvc⟩ (hbind s1 stay _ _ _ _ ?_)
    refine wpAny_newFunctionEnv (fun y hy => (L.own y hy).1) hloc (fun h1 hns hsb => ⟨I1.nolimit.fresh _ hsb, ?_⟩) L.kind
    show codeAny _ _ (.expr body (lamEnv X scope s1.heap.objs.size f c')) _ _
    have kp : ∀ b o, s1.heap.get? b = some o → h1.get? b = some o := fun b o e => hsb.extBut b o (Nat.ne_of_lt (Heap.lt_size e)) (Heap.get?_push_of_some _ e)
    have J : Inv (lamCx X (A2.deeper (envOfC qg sg s3.heap.objs.size g cdg)) (envOfC qg sg s3.heap.objs.size g cdg :: outer2) s1 HZ E scope f c') [] σ HZ { s1 with heap := h1, toks := s1.toks + bs.length } :=
      lamW_start I L I1.env0 hr.hd un hns kp
    refine PySem.W.kla_codeExpr (wpAny_mono ((hbody _ _ s1 HZ E (hr.deeper _)).run [] _ _ HZ Q J ht) (fun v s' hq => ?_) fun e s' hq => hq)
    obtain ⟨w', H', J', rv, q⟩ := hq
    exact ⟨w', H', J'.os, J'.bare, J'.base, J'.hok, rv, q⟩
  refine wpAny_call (codeAny_mono rc fun r s' hq => ?_)
  match r, hq with
  | .error e, hq => exact tk e s' (XE.of_call I1 hW hq)
  | .ok (.ret u), hq => exact I1.after hq
  | .ok .next, hq => exact hq.elim
  | .ok .brk, hq => exact hq.elim
  | .ok .cont, hq => exact hq.elim
end
/-- how a lambda without parameters is made here: one object -/
def MkLam1 (X : Cx) (T : List (Addr × Str)) (params : Arguments) (body : Expr) (scope : Scope) (lpos : Pos) : Prop :=
  ∀ (pins : List (Addr × Obj)) (σ : L2.St) (H : Hp) (s : Shared) (Q : Value → Shared → Prop), Inv X pins σ H s → Tabs T H →
    (∀ (f c' : Addr) (doc pm ctv : Value) (H1 : Hp) (s' : Shared), Inv X pins σ H1 s' → ExtN H H1 → Tabs T H1 → Made X H1 s' params body scope f c' .none doc pm ctv [(f, lamO X params body scope .none doc pm c' ctv)] → Q (.ref f) s') →
    wpAny (model X.prog X.w) X.A (eval (.Lambda params body scope lpos) X.env) Q X.xe s
theorem lam_plain1 {X : Cx} {pins : List (Addr × Obj)} {σ : L2.St} {H : Hp} {s : Shared} {T : List (Addr × Str)} {c P : Addr} {params : Arguments} {body : Expr} {scope : Scope} {pos : Pos} {E : Value → Shared → Prop} {Q : Value → Shared → Prop} (I : Inv X pins σ H s) (TB : TabB X.base X.mg c P) (hcode : X.env.code = .ref c)
    (hm : (P, X.env.qual ++ "<lambda>") ∈ T) (hu : ∀ p ∈ T, p.1 = P → p.2 = X.env.qual ++ "<lambda>") (hT : Tabs T H) (hdef : defaultsOf params X.env = ([], [])) (hfree : ∀ y ∈ scope.names, y.2 = .free → ∃ c, X.env.cells.lookup y.1 = some c)
    (hbind : ∀ (q : Str) (cl : List (Str × Addr)) (doc pm cv ctv : Value), bindArgs (PySem.W.kdv_fn "<lambda>" q params (.expr body) scope cl .none doc pm cv ctv) ⟨[], []⟩ = pure [])
    (h : ∀ (f c' : Addr) (doc pm ctv : Value) (H1 : Hp) (s' : Shared), Inv X pins σ H1 s' → ExtN H H1 → Tabs T H1 → Made X H1 s' params body scope f c' .none doc pm ctv [(f, lamO X params body scope .none doc pm c' ctv)] → Q (.ref f) s') :
    wpAny (model X.prog X.w) X.A (eval (.Lambda params body scope pos) X.env) Q E s := by
  refine PySem.W.kla_eval hdef ?_
  rw [makeFunction_eq]
  simp only [List.zip_nil_right, List.filterMap_nil, List.isEmpty_nil, if_true, pure_bind]
  refine mk_tail I TB hcode hm hu hT hfree fun f c' doc pm ctv H1 s' I1 eN T1 _ _ hf hfn hfr hco => ?_
  refine h f c' doc pm ctv H1 s' I1 eN T1 ⟨List.mem_cons_self, fun p hp => ?_, hco, [], fun s2 _ => .of_eq (hbind _ _ _ _ _ _), fun y hy => absurd hy (by simp)⟩
  rw [List.mem_singleton] at hp
  subst hp
  exact ⟨hf, hfn, hfr⟩
/-- g(l), in the def that got the lambda l in slot 0 -/
def tOutV (f c' : Addr) (q : Str) (TT : (XK → Hp → VK → Prop) → Hp → VK → Prop) (tl : XK → Hp → VK → Prop) : TE := fun σ2 H2 Q => σ2[0]? = some (some (.ref f)) ∧ H2 c' = some (CodeO c' q) ∧ TT tl H2 Q
section
variable {X : Cx}
theorem pe_outV {pins : List (Addr × Obj)} {σ : L2.St} {H : Hp} {s : Shared} {TT : (XK → Hp → VK → Prop) → Hp → VK → Prop} {x a a2 x2 : Str} {g f c' g2 : Addr} {k : Nat} {st : Stmt} {fd : FuncData} {Ng N2 : List Str} {cdg cd2 doc pm ctv dV : Value} {sc2 : Scope} {D : List (Addr × Obj)}
    {params : Arguments} {body : Expr} {scope : Scope} {t : XK → TE} {p p3 pos : Pos} (I : Inv X pins σ H s) (L : LamD X.N X.env.scope scope) (M : Made X H s params body scope f c' dV doc pm ctv D)
    (hg : Gl (cxOf CX0 X.prog X.w X.K X.mg X.base N2 x2 sc2 g2 cd2 X.A X.stack s H E0).nox x) (hm : X.mg x = some (.ref g)) (hk : PySem.W.keepIn X.K (.ref g) = true) (F : Fun X.K x x st g fd) (hcd : fd.code = cdg) (hb : L2.Binds X.K fd [a] []) (Sg : FnScope Ng [a] (defScope st)) (hNg : Ng[0]? = some a) (hva : Vis (defScope st) a)
    (hG : Gives (cxOf CX0 X.prog X.w X.K X.mg X.base N2 x2 sc2 g2 cd2 X.A X.stack s H E0).nox Ng x (defScope st) g cdg (defBody st) a (X.env.qual ++ "<lambda>") TT)
    (hr : Room (k + 2) (X.A.deeper (envOfC x2 sc2 s.heap.objs.size g2 cd2))) (hN2 : N2[0]? = some a2) (hv2 : Vis sc2 a2)
    (hbody : ∀ (A : Around) (outer : List Env) (s : Shared) (H : Hp) (E : XK), Room k (A.deeper (lamEnv X scope s.heap.objs.size f c')) → PE (lamCx X A outer s H E scope f c') body (t E))
    (hdb : (x == ("__debug__" : Str)) = false := by decide) (hd : (a == ("__debug__" : Str)) = false := by decide) (hcc : (a == ("__classdict__" : Str)) = false := by decide) (hd2 : (a2 == ("__debug__" : Str)) = false := by decide) (hcc2 : (a2 == ("__classdict__" : Str)) = false := by decide) :
    PE (cxOf CX0 X.prog X.w X.K X.mg X.base N2 x2 sc2 g2 cd2 X.A X.stack s H E0).nox (.Call (.Name x p) [.Name a2 p3] [] pos) (tOutV f c' (X.env.qual ++ "<lambda>") TT (fun E H' Q' => t E σ H' Q')) := by
  refine ⟨fun pins2 s2 σ2 H2 Q I2 h => ?_⟩
  obtain ⟨hs, hc, h⟩ := h
  obtain ⟨oc, od, kV, doc0, pm0, an, cdv, ct, osl, rfl, lk, hcg⟩ := F.ex
  obtain rfl : cdv = cdg := hcd
  refine wpAny_Call_Name_kw (ld_glob I2 hg hm ?_ hdb)
  refine PySem.W.callWith_K (h₀ := X.base) I2.ok.mod.kin hk ?_ (by rfl) (by rfl)
  refine Calls.spliced_cons (thn ((pe_var (pos := p3) (i := 0) hN2 hv2 hd2 hcc2).run pins2 _ σ2 H2 (fun v H1 => v = .ref f ∧ H1 = H2) I2 ⟨.ref f, hs, rfl, rfl⟩) fun u s3 hh => ?_)
  obtain ⟨v, H1, I3, r1, ev, eH⟩ := hh
  subst ev
  rw [eH] at I3
  obtain rfl : u = Value.ref f := r1
  refine Calls.spliced_nil ⟨I3.kIn, ?_⟩
  have un1 : Un (frs X.stack) [] H H2 s.heap s3.heap := I3.base
  have un3 : ∀ HZ h1, Un (frs (envOfC x2 sc2 s.heap.objs.size g2 cd2 :: X.stack)) [] H2 HZ s3.heap h1 → Un (frs X.stack) [] H HZ s.heap h1 := fun HZ h1 u => by
    refine un_in un1 u (fun b hb => ?_) fun b o q hb => ?_
    · unfold frs at hb ⊢
      rw [List.filterMap_cons]
      split
      · exact hb
      · exact List.mem_cons_of_mem _ hb
    · unfold frs at hb
      rw [List.filterMap_cons] at hb
      split at hb
      · exact hb
      · rename_i w e
        rcases List.mem_cons.mp hb with z | z
        · have e2 : w = s.heap.objs.size := (Option.some.inj e).symm
          rw [z, e2] at q
          exact absurd (Heap.lt_size q) (Nat.lt_irrefl _)
        · exact z
  have rc : codeAny (model X.prog X.w) (X.A.deeper (envOfC x2 sc2 s.heap.objs.size g2 cd2)) (.call (.ref g) ⟨[.ref f], []⟩) (CR CX0 (envOfC x2 sc2 s.heap.objs.size g2 cd2 :: X.stack) X.prog X.w H2 s3 Q E0) s3 := by
    refine run_ofS (N := Ng) (ps := [a]) (us := [.ref f]) (vs := [.ref f]) lk hcg Sg hr I3.env0 (hb s3 [.ref f] I3.kIn rfl) (.cons rfl .nil) rfl fun hr' => ?_
    have act : ∀ (W : WX) (pn : List (Addr × Obj)) (xe : Value → Shared → Prop) (p1 p2 : Pos), Takes ((cxOf CX0 X.prog X.w X.K X.mg X.base Ng x (defScope st) g cdv (X.A.deeper (envOfC x2 sc2 s.heap.objs.size g2 cd2)) (envOfC x2 sc2 s.heap.objs.size g2 cd2 :: X.stack) s3 H2 E0).tr pn xe) W →
        PE ((cxOf CX0 X.prog X.w X.K X.mg X.base Ng x (defScope st) g cdv (X.A.deeper (envOfC x2 sc2 s.heap.objs.size g2 cd2)) (envOfC x2 sc2 s.heap.objs.size g2 cd2 :: X.stack) s3 H2 E0).tr pn xe) (.Call (.Name a p1) [] [] p2) (fun σZ HZ Q => σZ[0]? = some (some (.ref f)) ∧ HZ c' = some (CodeO c' (X.env.qual ++ "<lambda>")) ∧ ∃ E : XK, (∀ cls d H', E cls d H' → W cls d σZ H') ∧ t E σ HZ Q) :=
      fun W pn xe p1 p2 tk => pe_actG (CXg := CX0) (Eg := E0) (Ng := Ng) (qg := x) (sg := defScope st) (g := g) (cdg := cdv) (A2 := X.A.deeper (envOfC x2 sc2 s.heap.objs.size g2 cd2)) (outer2 := envOfC x2 sc2 s.heap.objs.size g2 cd2 :: X.stack) (s3 := s3) (H3 := H2) (i := 0) (k := k) (tb := t) I L M un3 tk hr' hbody hNg hva hd hcc
    obtain ⟨t', ht', hq'⟩ := hG f c' s3 H2 Q (fun E H' Q' => t E σ H' Q') (hr'.mono (by omega)) act hc h
    exact ⟨t', ht'.nox, hq'⟩
  refine wpAny_call (codeAny_mono rc fun r s2 hq => ?_)
  match r, hq with
  | .error e, hq => exact (show False from hq).elim
  | .ok (.ret u), hq => exact I3.after hq
  | .ok .next, hq => exact hq.elim
  | .ok .brk, hq => exact hq.elim
  | .ok .cont, hq => exact hq.elim
/-- the def that hands it on: x calls it -/
def Gives2 (X : Cx) (j : Nat) (N2 : List Str) (x2 : Str) (sc2 : Scope) (g2 : Addr) (cd2 : Value) (bg2 : List Stmt) (x a2 q : Str) (TT : (XK → Hp → VK → Prop) → Hp → VK → Prop) (TT2 : (XK → Hp → VK → Prop) → List V → Hp → VK → Prop) : Prop :=
  ∀ (f c' : Addr) (ws : List V) (s : Shared) (H : Hp) (Q : VK) (tl : XK → Hp → VK → Prop), Room j (X.A.deeper (envOfC x2 sc2 s.heap.objs.size g2 cd2)) →
    (∀ p p3 pos, PE (cxOf CX0 X.prog X.w X.K X.mg X.base N2 x2 sc2 g2 cd2 X.A X.stack s H E0).nox (.Call (.Name x p) [.Name a2 p3] [] pos) (tOutV f c' q TT tl)) →
    H c' = some (CodeO c' q) → TT2 tl ws H Q →
    ∃ t, PSs (cxOf CX0 X.prog X.w X.K X.mg X.base N2 x2 sc2 g2 cd2 X.A X.stack s H E0).nox bg2 t ∧ t { nx := fun _ H' => Q .non H', rt := Q } (L2.start N2 (.ref f :: ws)) H
def tLam2 (T : List (Addr × Str)) (TT2 : (XK → Hp → VK → Prop) → List V → Hp → VK → Prop) (n : Nat) (t : XK → TE) (ta : TA) : TE := fun σ H Q => Tabs T H ∧ ∀ H1, ExtN H H1 → Tabs T H1 → ta σ H1 (fun ws H2 => ws.length = n ∧ ExtN H1 H2 ∧ TT2 (fun E H' Q' => t E σ H' Q') ws H2 Q)
/-- x2(lambda: body, es) -/
theorem pe_outc2 {T : List (Addr × Str)} {TT : (XK → Hp → VK → Prop) → Hp → VK → Prop} {TT2 : (XK → Hp → VK → Prop) → List V → Hp → VK → Prop} {x a x2 a2 : Str} {g g2 : Addr} {k n : Nat} {st st2 : Stmt} {fd fd2 : FuncData} {Ng N2 ps2 : List Str} {cdg cd2 : Value}
    {params : Arguments} {body : Expr} {scope : Scope} {t : XK → TE} {ta : TA} {es : List Expr} {p lpos pos : Pos}
    (hg2 : Gl X x2) (hm2 : X.mg x2 = some (.ref g2)) (hk2 : PySem.W.keepIn X.K (.ref g2) = true) (F2 : Fun X.K x2 x2 st2 g2 fd2) (hcd2 : fd2.code = cd2) (hb2 : L2.Binds X.K fd2 (a2 :: ps2) []) (Sg2 : FnScope N2 (a2 :: ps2) (defScope st2)) (hN2 : N2[0]? = some a2) (hv2 : Vis (defScope st2) a2) (hn : ps2.length = n)
    (hm : X.mg x = some (.ref g)) (hk : PySem.W.keepIn X.K (.ref g) = true) (F : Fun X.K x x st g fd) (hcd : fd.code = cdg) (hb : L2.Binds X.K fd [a] []) (Sg : FnScope Ng [a] (defScope st)) (hNg : Ng[0]? = some a) (hva : Vis (defScope st) a)
    (hgl : ∀ (s : Shared) (H : Hp), Gl (cxOf CX0 X.prog X.w X.K X.mg X.base N2 x2 (defScope st2) g2 cd2 X.A X.stack s H E0).nox x)
    (hG : ∀ (s : Shared) (H : Hp), Gives (cxOf CX0 X.prog X.w X.K X.mg X.base N2 x2 (defScope st2) g2 cd2 X.A X.stack s H E0).nox Ng x (defScope st) g cdg (defBody st) a (X.env.qual ++ "<lambda>") TT)
    (hG2 : Gives2 X (k + 2) N2 x2 (defScope st2) g2 cd2 (defBody st2) x a2 (X.env.qual ++ "<lambda>") TT TT2)
    (ML : MkLam1 X T params body scope lpos) (hr : Room (k + 3) X.A) (L : LamD X.N X.env.scope scope)
    (hbody : ∀ (A : Around) (outer : List Env) (s : Shared) (H : Hp) (E : XK) (f c' : Addr), Room k (A.deeper (lamEnv X scope s.heap.objs.size f c')) → PE (lamCx X A outer s H E scope f c') body (t E))
    (ha : PA X es ta)
    (hdb2 : (x2 == ("__debug__" : Str)) = false := by decide) (hdb : (x == ("__debug__" : Str)) = false := by decide) (hd : (a == ("__debug__" : Str)) = false := by decide) (hcc : (a == ("__classdict__" : Str)) = false := by decide) (hd2 : (a2 == ("__debug__" : Str)) = false := by decide) (hcc2 : (a2 == ("__classdict__" : Str)) = false := by decide)
    (hpl : (backTo pos (starEach es X.env)).any (·.1) = false := by rfl) :
    PE X (.Call (.Name x2 p) (.Lambda params body scope lpos :: es) [] pos) (tLam2 T TT2 n t ta) := by
  refine ⟨fun pins s σ H Q I h => ?_⟩
  obtain ⟨hT, h⟩ := h
  obtain ⟨oc, od, kV, doc0, pm0, an, cdv, ct, osl, rfl, lk, hcg⟩ := F2.ex
  obtain rfl : cdv = cd2 := hcd2
  refine wpAny_Call_Name_kw (ld_glob I hg2 hm2 ?_ hdb2)
  refine PySem.W.callWith_K (h₀ := X.base) I.ok.mod.kin hk2 ?_ (by rfl) hpl
  show wpAny _ _ (spliced ((false, eval (.Lambda params body scope lpos) X.env) :: backTo pos (starEach es X.env))) _ _ s
  refine Calls.spliced_cons (ML pins σ H s _ I hT fun f c' doc pm ctv H1 s' I1 eN T1 M => ?_)
  have hf := M.there (f, lamO X params body scope .none doc pm c' ctv) List.mem_cons_self
  have Ip : Inv X ((f, lamO X params body scope .none doc pm c' ctv) :: pins) σ H1 s' := I1.pins_of fun q hq => by
    rcases List.mem_cons.mp hq with rfl | hq
    · obtain ⟨h1, h2, h3⟩ := hf
      have hl : f ≠ X.env.locals := fun z => by
        obtain ⟨m, ⟨o', es', ep, ho', hd', _⟩, _⟩ := I1.loc
        have h1 : s'.heap.get? f = _ := h1
        rw [z, ho'] at h1
        cases h1
        cases hd'
      refine ⟨h1, h2, hl, fun z => ?_, fun v z => by cases z⟩
      rcases I1.ok.stk with e | ⟨e, _⟩
      · exact h3 (by rw [e]; exact z)
      · refine h3 ?_
        rw [e]
        unfold frs
        rw [List.filterMap_cons]
        split
        · exact z
        · exact List.mem_cons_of_mem _ z
    · exact I1.pin q (List.mem_append_right _ hq)
  refine thn (ha.run pos _ s' σ H1 _ Ip (h H1 eN T1)) fun us s2 ⟨ws, H2, I2, r2, hwl, e2, q2⟩ => ⟨I2.kIn, ?_⟩
  have I2' : Inv X pins σ H2 s2 := I2.pins_of fun q hq => I2.pin q (List.mem_append_right _ (List.mem_cons_of_mem _ hq))
  have M2 : Made X H2 s2 params body scope f c' .none doc pm ctv [(f, lamO X params body scope .none doc pm c' ctv)] := by
    refine ⟨M.at_, fun q hq => ?_, e2 c' _ M.code codeO_ne, M.binds⟩
    have hq' := hq
    rw [List.mem_singleton] at hq
    subst hq
    have z := I2.pin (f, lamO X params body scope .none doc pm c' ctv) (List.mem_append_right _ List.mem_cons_self)
    exact ⟨z.1, z.2.1, hf.2.2⟩
  have rr : Vals (.ref f :: ws) (.ref f :: us) := .cons rfl r2
  have rc : codeAny (model X.prog X.w) X.A (.call (.ref g2) ⟨.ref f :: us, []⟩) (CR CX0 X.stack X.prog X.w H2 s2 Q E0) s2 := by
    have hlen : (Value.ref f :: us).length = (a2 :: ps2).length := by
      rw [List.length_cons, List.length_cons, ← r2.length, hwl, hn]
    have hlen2 : (V.ref f :: ws).length = (a2 :: ps2).length := by
      rw [List.length_cons, List.length_cons, hwl, hn]
    refine run_ofS (N := N2) (ps := a2 :: ps2) (us := .ref f :: us) (vs := .ref f :: ws) lk hcg Sg2 hr I2'.env0 (by simpa using hb2 s2 (.ref f :: us) I2'.kIn (by simpa using hlen)) rr hlen2 fun hr' => ?_
    obtain ⟨t', ht', hq'⟩ := hG2 f c' ws s2 H2 Q (fun E H' Q' => t E σ H' Q') hr' (fun p p3 pos => pe_outV (k := k) I2' L M2 (hgl s2 H2) hm hk F hcd hb Sg hNg hva (hG s2 H2) hr' hN2 hv2 (fun A outer s H E hr2 => hbody A outer s H E f c' hr2) hdb hd hcc hd2 hcc2) M2.code q2
    exact ⟨t', ht'.nox, hq'⟩
  refine wpAny_call (codeAny_mono rc fun r s2 hq => ?_)
  match r, hq with
  | .error e, hq => exact (show False from hq).elim
  | .ok (.ret u), hq => exact I2'.after hq
  | .ok .next, hq => exact hq.elim
  | .ok .brk, hq => exact hq.elim
  | .ok .cont, hq => exact hq.elim
end
end Wn
/-! instances of an own class: len(o), o(e), e in o -/
namespace Wn
open PySem PySem.Spec PyProof.Rows L2
section
variable {X : Cx} {k : Nat} {C g : Addr} {fd : FuncData} {ps : List Str} {sp : Sp}
/-- what comes back of a def that was run around here -/
theorem run_at {pins : List (Addr × Obj)} {σ : L2.St} {H : Hp} {s : Shared} {A : Around} {Q : VK} {R : Value → Shared → Prop} {E' : Value → Shared → Prop} {us : List Value} {vs : List V} (F : FnOk X.prog X.w X.K X.mg X.base CX0 k g fd ps sp) (hr : Room k A) (hb : Binds X.K fd ps []) (I : Inv X pins σ H s)
    (E0' : Env0 X.prog X.w X.K X.mg X.base A X.stack s H) (r : Vals vs us) (h : sp vs H Q E0) (q : ∀ u v H' s', Inv X pins σ H' s' → RelV v u → Q v H' → R u s') : wpAny (model X.prog X.w) A (call (.ref g) us) R E' s := by
  have hl : us.length = ps.length := by rw [← r.length]; exact F.len _ _ _ _ h
  refine wpAny_call (codeAny_mono (F.run A X.stack s H ⟨us, []⟩ us vs Q E0 hr E0' (by simpa using hb s us I.kIn (by simpa using hl)) r h) fun z s' hq => ?_)
  match z, hq with
  | .error e, hq => exact (show False from hq).elim
  | .ok (.ret u), hq =>
    obtain ⟨v, H', I3, rv, q3⟩ := I.after hq
    exact q u v H' s' I3 rv q3
  | .ok .next, hq => exact hq.elim
  | .ok .brk, hq => exact hq.elim
  | .ok .cont, hq => exact hq.elim
/-- len(o) -/
def rLenO (C : Addr) (sp : Sp) : List V → Hp → VK → Prop := fun xs H Q => ∃ a dx fs, xs = [.ref a] ∧ H a = some (.ins C dx fs) ∧ sp [.ref a] H (fun v H' => ∃ n : Nat, v = .int (n : Nat) ∧ n ≤ 1000000 ∧ Q (.int (n : Nat)) H') E0
theorem call_lenO (hs : PySem.W.findIn X.K (.ref C) "__len__" = some (some (.ref g))) (hf : PySem.W.isFn X.K (.ref g) = true) (F : FnOk X.prog X.w X.K X.mg X.base CX0 k g fd ps sp) (hr : Room (k + 1) X.A) (hb : Binds X.K fd ps []) : CallR X (.builtin "len") (rLenO C sp) := by
  intro pins s σ H xs us Q I r h
  obtain ⟨a, dx, fs, rfl, ea, h⟩ := h
  obtain ⟨u, rfl, rx⟩ := vals1 r
  obtain rfl : u = Value.ref a := rx
  obtain ⟨mA, O, _⟩ := ins_get I.hok ea
  obtain ⟨od, J, _⟩ := O.look
  obtain ⟨m, fr⟩ := I.fr
  refine PySem.W.len_K fr I.ok.mod.kin J hs hf (run_at (vs := [.ref a]) F hr.in1 hb I I.env0.in1 (.cons rfl .nil) h fun u v H' s' I3 rv q => ?_)
  obtain ⟨n, rfl, hn, q⟩ := q
  obtain ⟨t, rfl⟩ := rv
  exact ⟨⟨by omega, by omega⟩, .int (n : Nat), H', I3.tok _, ⟨_, rfl⟩, q⟩
/-- e in o -/
def rInO (C : Addr) (sp : Sp) : R2 := fun x y H Q => ∃ a dx fs, y = .ref a ∧ H a = some (.ins C dx fs) ∧ sp [.ref a, x] H (fun v H' => ∃ b : Bool, v = .bl b ∧ Q (.bl b) H') E0
def rNotInO (C : Addr) (sp : Sp) : R2 := fun x y H Q => ∃ a dx fs, y = .ref a ∧ H a = some (.ins C dx fs) ∧ sp [.ref a, x] H (fun v H' => ∃ b : Bool, v = .bl b ∧ Q (.bl (!b)) H') E0
theorem op_inO (hs : PySem.W.findIn X.K (.ref C) "__contains__" = some (some (.ref g))) (hf : PySem.W.isFn X.K (.ref g) = true) (F : FnOk X.prog X.w X.K X.mg X.base CX0 k g fd ps sp) (hr : Room k X.A) (hb : Binds X.K fd ps []) : OpR X (compareOp .In) (rInO C sp) := by
  intro pins s σ H x y v u Q I rx ry h
  obtain ⟨a, dx, fs, rfl, ea, h⟩ := h
  obtain rfl : u = Value.ref a := ry
  obtain ⟨mA, O, _⟩ := ins_get I.hok ea
  obtain ⟨od, J, _⟩ := O.look
  obtain ⟨m, fr⟩ := I.fr
  refine PySem.W.in_K fr I.ok.mod.kin J hs hf (run_at (vs := [.ref a, x]) F hr hb I I.env0 (.cons rfl (.cons rx .nil)) h fun u v H' s' I3 rv q => ?_)
  obtain ⟨b, rfl, q⟩ := q
  obtain rfl : u = Value.bool b := rv
  exact wpAny_truthy_bool ⟨.bl b, H', I3, rfl, q⟩
theorem op_notInO (hs : PySem.W.findIn X.K (.ref C) "__contains__" = some (some (.ref g))) (hf : PySem.W.isFn X.K (.ref g) = true) (F : FnOk X.prog X.w X.K X.mg X.base CX0 k g fd ps sp) (hr : Room k X.A) (hb : Binds X.K fd ps []) : OpR X (compareOp .NotIn) (rNotInO C sp) := by
  intro pins s σ H x y v u Q I rx ry h
  obtain ⟨a, dx, fs, rfl, ea, h⟩ := h
  obtain rfl : u = Value.ref a := ry
  obtain ⟨mA, O, _⟩ := ins_get I.hok ea
  obtain ⟨od, J, _⟩ := O.look
  obtain ⟨m, fr⟩ := I.fr
  refine PySem.W.notIn_K fr I.ok.mod.kin J hs hf (run_at (vs := [.ref a, x]) F hr hb I I.env0 (.cons rfl (.cons rx .nil)) h fun u v H' s' I3 rv q => ?_)
  obtain ⟨b, rfl, q⟩ := q
  obtain rfl : u = Value.bool b := rv
  exact wpAny_truthy_bool ⟨.bl (!b), H', I3, rfl, q⟩
/-- o(e) -/
def tCallI (C : Addr) (sp : Sp) (tf : TE) (t : TA) : TE := fun σ H Q => tf σ H fun y H1 => ∃ a, y = V.ref a ∧ t σ H1 fun vs H2 => (∃ dx fs, H2 a = some (.ins C dx fs)) ∧ sp (V.ref a :: vs) H2 Q E0
theorem pe_callI {fe e : Expr} {es : List Expr} {tf : TE} {t : TA} {pos : Pos} (hf : PE X fe tf) (c : StX.CallO X.K C g) (F : FnOk X.prog X.w X.K X.mg X.base CX0 k g fd ps sp) (hr : Room k X.A) (hb : Binds X.K fd ps []) (ha : PA X (e :: es) t)
    (ht : eval (.Call fe (e :: es) [] pos) X.env = (do callWith pos (← eval fe X.env) [] (backTo pos (starEach (e :: es) X.env)) (backToKw pos (keywordEach [] X.env))) := by rfl)
    (he : starEach (e :: es) X.env = (false, eval e X.env) :: starEach es X.env := by rfl) (hpl : (backTo pos (starEach es X.env)).any (·.1) = false := by rfl) : PE X (.Call fe (e :: es) [] pos) (tCallI C sp tf t) := by
  refine ⟨fun pins s σ H Q I h => ?_⟩
  refine Call_ (thn (hf.run pins s σ H _ I h) fun u s1 ⟨y, H1, I1, ry, a, ey, q⟩ => ?_) ht
  subst ey
  obtain rfl : u = Value.ref a := ry
  refine StX.callO_with (thn (ha.run pos pins s1 σ H1 _ I1 q) fun us s2 ⟨vs, H2, I2, r, ⟨dx, fs, ea⟩, q2⟩ => ?_) he hpl
  obtain ⟨mA, O, _⟩ := ins_get I2.hok ea
  obtain ⟨od, J, _⟩ := O.look
  refine ⟨⟨C, _, od, J, rfl⟩, ?_⟩
  have rr : Vals (V.ref a :: vs) (Value.ref a :: us) := .cons rfl r
  have hl : (Value.ref a :: us).length = ps.length := by rw [← rr.length]; exact F.len _ _ _ _ q2
  refine wpAny_call (PySem.W.kco_code I2.kIn J rfl c.at_ c.fn c.fi (codeAny_mono (F.run X.A X.stack s2 H2 ⟨.ref a :: us, []⟩ (.ref a :: us) (.ref a :: vs) Q E0 hr I2.env0 (by simpa using hb s2 (.ref a :: us) I2.kIn (by simpa using hl)) rr q2) fun z s' hq => ?_))
  match z, hq with
  | .error e, hq => exact (show False from hq).elim
  | .ok (.ret u), hq => exact I2.after hq
  | .ok .next, hq => exact hq.elim
  | .ok .brk, hq => exact hq.elim
  | .ok .cont, hq => exact hq.elim
end
end Wn
/-! a lambda as a thing on the heap: kept in a tuple or a name, handed on later; methods by keyword -/
namespace Wn
open PySem PySem.Spec PyProof.Rows L2 LamX
/-- the lambda's object: it never changes -/
abbrev LfO (X : Cx) (f : Addr) (params : Arguments) (body : Expr) (scope : Scope) (dV doc pm : Value) (c' : Addr) (ctv : Value) : HO :=
  .frz (lamO X params body scope dV doc pm c' ctv) (.own f)
structure LamAt (X : Cx) (params : Arguments) (body : Expr) (scope : Scope) (H : Hp) (f c' : Addr) : Prop where
  ex : ∃ dV doc pm ctv, H f = some (LfO X f params body scope dV doc pm c' ctv) ∧ H c' = some (CodeO c' (X.env.qual ++ "<lambda>")) ∧
    ((dV = .none ∧ bindArgs (PySem.W.kdv_fn "<lambda>" (X.env.qual ++ "<lambda>") params (.expr body) scope (clos X scope) .none doc pm (.ref c') ctv) ⟨[], []⟩ = pure []) ∨
     (∃ (T0 : Addr) (v : V) (x : Str), dV = .ref T0 ∧ H T0 = some (.tup [v]) ∧ scope.names.lookup x = some .local ∧
       ∀ u : Value, ∃ k, bindArgs (PySem.W.kdv_fn "<lambda>" (X.env.qual ++ "<lambda>") params (.expr body) scope (clos X scope) (.ref T0) doc pm (.ref c') ctv) ⟨[], []⟩ = seqItems? (.ref T0) >>= k ∧ k (some #[u]) = pure [(x, u)]))
theorem LamAt.ext {X : Cx} {params : Arguments} {body : Expr} {scope : Scope} {H H' : Hp} {f c' : Addr} (L : LamAt X params body scope H f c') (g : ExtN H H') : LamAt X params body scope H' f c' := by
  obtain ⟨dV, doc, pm, ctv, h1, h2, h3⟩ := L.ex
  refine ⟨dV, doc, pm, ctv, g _ _ h1 (fun ps z => by cases z), g _ _ h2 codeO_ne, ?_⟩
  rcases h3 with h3 | ⟨T0, v, x, e1, e2, e3⟩
  · exact .inl h3
  · exact .inr ⟨T0, v, x, e1, g _ _ e2 (fun ps z => by cases z), e3⟩
theorem LamAt.code {X : Cx} {params : Arguments} {body : Expr} {scope : Scope} {H : Hp} {f c' : Addr} (L : LamAt X params body scope H f c') : H c' = some (CodeO c' (X.env.qual ++ "<lambda>")) := by
  obtain ⟨dV, doc, pm, ctv, h1, h2, h3⟩ := L.ex
  exact h2
section
variable {X : Cx} {pins : List (Addr × Obj)} {σ : L2.St} {H : Hp} {s : Shared}
/-- the function is made and known from now on -/
theorem mk_tailT {M : Model} {A : Around} {T : List (Addr × Str)} {c P : Addr} {params : Arguments} {body : Expr} {scope : Scope} {pos : Pos} {dV : Value} {E : Value → Shared → Prop} {Q : Value → Shared → Prop} (I : Inv X pins σ H s) (TB : TabB X.base X.mg c P) (hcode : X.env.code = .ref c)
    (hm : (P, X.env.qual ++ "<lambda>") ∈ T) (hu : ∀ p ∈ T, p.1 = P → p.2 = X.env.qual ++ "<lambda>") (hT : Tabs T H) (hfree : ∀ y ∈ scope.names, y.2 = .free → ∃ c, X.env.cells.lookup y.1 = some c)
    (h : ∀ (f c' : Addr) (doc pm ctv : Value) (H1 : Hp) (s' : Shared), Inv X pins σ H1 s' → ExtN H H1 → Tabs T H1 →
      H1 f = some (LfO X f params body scope dV doc pm c' ctv) → H1 c' = some (CodeO c' (X.env.qual ++ "<lambda>")) → Q (.ref f) s') :
    wpAny M A (makeTail "<lambda>" (X.env.qual ++ "<lambda>") params (.expr body) scope X.env dV .none none pos pos.line) Q E s := by
  obtain ⟨ps, hP, ht, ha⟩ := hT _ hm
  have bP : s.heap.BuiltinsAt X.mg P := TB.bm.keeps I.bk
  have gP : s.heap.get? P = some { cls := .none, data := .fields ps } := I.hok P _ hP
  cases hc : codeAmong pos ps.toList with
  | some cv =>
    obtain ⟨c', e, hco⟩ := ha pos cv hc
    subst e
    refine PySem.W.kdv_makeTailHit (mg := X.mg) (c := c) (P := P) (ps := ps) (closure_ok hfree) I.ok.glob (I.mod.glob.keeps I.bk) hcode (TB.code.keeps I.bk) gP ht hc bP fun ctv doc h' tk hx hsz => ?_
    have nF : H h'.objs.size = none := I.hok.fresh hsz
    have e0 : (h'.push (lamO X params body scope dV doc ((X.mg "__name__").getD .none) c' ctv)).get? h'.objs.size = some (lamO X params body scope dV doc ((X.mg "__name__").getD .none) c' ctv) := Heap.get?_push_size _ rfl
    have I1 : Inv X pins σ (upd H h'.objs.size (LfO X h'.objs.size params body scope dV doc ((X.mg "__name__").getD .none) c' ctv)) { s with heap := h'.push (lamO X params body scope dV doc ((X.mg "__name__").getD .none) c' ctv), toks := tk } :=
      I.laid (fun b o e => Heap.get?_push_of_some _ (hx b o e)) hsz ⟨e0, ⟨_, e0⟩⟩
    have eN : ∀ b o, H b = some o → upd H h'.objs.size (LfO X h'.objs.size params body scope dV doc ((X.mg "__name__").getD .none) c' ctv) b = some o := fun b o e => by
      rw [upd_ne (ne_of_none e nF)]
      exact e
    exact h h'.objs.size c' doc ((X.mg "__name__").getD .none) ctv _ _ I1 (.of eN) (hT.ext eN) upd_same (eN _ _ hco)
  | none =>
    refine PySem.W.kdv_makeTail (mg := X.mg) (c := c) (P := P) (ps := ps) (closure_ok hfree) I.ok.glob (I.mod.glob.keeps I.bk) hcode (TB.code.keeps I.bk) gP ht hc TB.gP bP fun c' ctv doc h' tk hx hge hlt hrec htb => ?_
    obtain ⟨c2, oc, vs, t, e2, hoc, hd, hv⟩ := hrec
    cases e2
    have grow : s.heap.objs.size ≤ h'.objs.size := Nat.le_trans hge (Nat.le_of_lt hlt)
    have nC : H c' = none := I.hok.fresh hge
    have I0 := inv_table (t' := tk) (more := #[rawInt pos.line, rawInt pos.col, .ref c']) (h' := h') I hP (fun b o hb e => hx b o hb e) htb hge ⟨oc, vs, t, hoc, hd, hv⟩
    have far : ∀ {b : Addr} {o : HO}, H b = some o → (∀ ps, o ≠ .tbl ps) → b ≠ P := fun e n z => by
      rw [z, hP] at e
      exact n ps (Option.some.inj e).symm
    have ext : ExtN H (upd (upd H P (.tbl (ps ++ #[rawInt pos.line, rawInt pos.col, .ref c']))) c' (CodeO c' (X.env.qual ++ "<lambda>"))) := fun b o e n => by
      rw [upd_ne (ne_of_none e nC), upd_ne (far e n)]
      exact e
    have lst : (ps ++ #[rawInt pos.line, rawInt pos.col, .ref c']).toList = ps.toList ++ [rawInt pos.line, rawInt pos.col, .ref c'] := by simp
    have T0 : Tabs T (upd (upd H P (.tbl (ps ++ #[rawInt pos.line, rawInt pos.col, .ref c']))) c' (CodeO c' (X.env.qual ++ "<lambda>"))) := fun p hp => by
      by_cases hb : p.1 = P
      · rw [hu p hp hb, hb]
        refine ⟨_, by rw [upd_ne (ne_of_none hP nC), upd_same], by rw [lst]; exact PySem.TriplesOk_snoc _ _ _ _ ht, fun p' cv hcv => ?_⟩
        rw [lst] at hcv
        rcases among_app _ ht hcv with z | z
        · obtain ⟨c0, e1, e2⟩ := ha p' cv z
          exact ⟨c0, e1, ext _ _ e2 codeO_ne⟩
        · exact ⟨c', z, upd_same⟩
      · obtain ⟨ps', a1, a2, a3⟩ := hT p hp
        refine ⟨ps', by rw [upd_ne (ne_of_none a1 nC), upd_ne hb]; exact a1, a2, fun p' cv hcv => ?_⟩
        obtain ⟨c0, e1, e2⟩ := a3 p' cv hcv
        exact ⟨c0, e1, ext _ _ e2 codeO_ne⟩
    have hco1 : (upd (upd H P (.tbl (ps ++ #[rawInt pos.line, rawInt pos.col, .ref c']))) c' (CodeO c' (X.env.qual ++ "<lambda>"))) c' = some (CodeO c' (X.env.qual ++ "<lambda>")) := upd_same
    generalize upd (upd H P (.tbl (ps ++ #[rawInt pos.line, rawInt pos.col, .ref c']))) c' (CodeO c' (X.env.qual ++ "<lambda>")) = H0 at I0 ext T0 hco1
    have nF : H0 h'.objs.size = none := I0.hok.fresh (Nat.le_refl _)
    have e0 : (h'.push (lamO X params body scope dV doc ((X.mg "__name__").getD .none) c' ctv)).get? h'.objs.size = some (lamO X params body scope dV doc ((X.mg "__name__").getD .none) c' ctv) := Heap.get?_push_size _ rfl
    have I1 : Inv X pins σ (upd H0 h'.objs.size (LfO X h'.objs.size params body scope dV doc ((X.mg "__name__").getD .none) c' ctv)) { s with heap := h'.push (lamO X params body scope dV doc ((X.mg "__name__").getD .none) c' ctv), toks := tk } :=
      I0.laid (t' := tk) (fun b o e => Heap.get?_push_of_some _ e) (Nat.le_refl _) ⟨e0, ⟨_, e0⟩⟩
    have eN : ∀ b o, H0 b = some o → upd H0 h'.objs.size (LfO X h'.objs.size params body scope dV doc ((X.mg "__name__").getD .none) c' ctv) b = some o := fun b o e => by
      rw [upd_ne (ne_of_none e nF)]
      exact e
    exact h h'.objs.size c' doc ((X.mg "__name__").getD .none) ctv _ _ I1 (ext.trans (.of eN)) (T0.ext eN) upd_same (eN _ _ hco1)
/-- what a lambda's value is read as -/
def tLamE (T : List (Addr × Str)) (R : Hp → Addr → Addr → Prop) : TE := fun σ H Q => Tabs T H ∧ ∀ f c' H1, ExtN H H1 → Tabs T H1 → R H1 f c' → Q (.ref f) H1
end
section
variable {X : Cx} {T : List (Addr × Str)} {c P : Addr} {params : Arguments} {body : Expr} {scope : Scope} {pos : Pos}
/-- lambda: e -/
theorem pe_lamE (TB : TabB X.base X.mg c P) (hcode : X.env.code = .ref c)
    (hm : (P, X.env.qual ++ "<lambda>") ∈ T) (hu : ∀ p ∈ T, p.1 = P → p.2 = X.env.qual ++ "<lambda>") (hdef : defaultsOf params X.env = ([], [])) (L : LamD X.N X.env.scope scope)
    (hbind : ∀ (q : Str) (cl : List (Str × Addr)) (doc pm cv ctv : Value), bindArgs (PySem.W.kdv_fn "<lambda>" q params (.expr body) scope cl .none doc pm cv ctv) ⟨[], []⟩ = pure []) :
    PE X (.Lambda params body scope pos) (tLamE T (LamAt X params body scope)) := by
  refine ⟨fun pins s σ H Q I h => ?_⟩
  obtain ⟨hT, h⟩ := h
  refine PySem.W.kla_eval hdef ?_
  rw [makeFunction_eq]
  simp only [List.zip_nil_right, List.filterMap_nil, List.isEmpty_nil, if_true, pure_bind]
  exact mk_tailT I TB hcode hm hu hT (LamD.has L I.ok) fun f c' doc pm ctv H1 s' I1 eN T1 hf hco => ⟨.ref f, H1, I1, rfl, h f c' H1 eN T1 ⟨.none, doc, pm, ctv, hf, hco, .inl ⟨rfl, hbind _ _ _ _ _ _⟩⟩⟩
/-- lambda a=0: e -/
theorem pe_lamD {p0 : Pos} {j0 : Nat} {n : Int} {x : Str} (TB : TabB X.base X.mg c P) (hcode : X.env.code = .ref c)
    (hm : (P, X.env.qual ++ "<lambda>") ∈ T) (hu : ∀ p ∈ T, p.1 = P → p.2 = X.env.qual ++ "<lambda>") (hkw : params.kwonlyargs = []) (hdef : defaultsOf params X.env = ([eval (.Constant (.int n) j0 p0) X.env], [])) (L : LamD X.N X.env.scope scope)
    (hbind : ∀ (q : Str) (cl : List (Str × Addr)) (T0 : Addr) (doc pm cv ctv v : Value), ∃ k, bindArgs (PySem.W.kdv_fn "<lambda>" q params (.expr body) scope cl (.ref T0) doc pm cv ctv) ⟨[], []⟩ = seqItems? (.ref T0) >>= k ∧ k (some #[v]) = pure [(x, v)]) (hloc : scope.names.lookup x = some .local) :
    PE X (.Lambda params body scope pos) (tLamE T (LamAt X params body scope)) := by
  refine ⟨fun pins s σ H Q I h => ?_⟩
  obtain ⟨hT, h⟩ := h
  rw [arm_eval_Lambda, hdef]
  show wpAny _ _ (do let dv ← evalAll [eval (.Constant (.int n) j0 p0) X.env]; let kdv ← holding dv (evalAllOpt []); makeFunction "<lambda>" (X.env.qual ++ "<lambda>") params (.expr body) scope X.env dv kdv [] pos pos.line) _ _ s
  have hc : PE X (.Constant (.int n) j0 p0) (tC (.int n)) := pe_int
  refine wpAny_bind ?_
  unfold evalAll
  refine wpAny_bind (thn (hc.run pins s σ H (fun v H' => v = .int n ∧ H' = H) I ⟨rfl, rfl⟩) fun u s1 hh => ?_)
  obtain ⟨v, H', I1, r1, rfl, rfl⟩ := hh
  unfold evalAll
  refine wpAny_bind (wpAny_holding (wpAny_pure (wpAny_pure (wpAny_bind (wpAny_holding (wpAny_pure ?_))))))
  rw [makeFunction_eq, hkw]
  simp only [List.zip_nil_right, List.zip_nil_left, List.filterMap_nil, List.isEmpty_nil, List.isEmpty_cons, if_true, Bool.false_eq_true, if_false, pure_bind]
  refine wpAny_bind (wpAny_newTextTuple ?_)
  have g0 : (s1.heap.push (PySem.W.kdv_tup [u])).get? s1.heap.objs.size = some (PySem.W.kdv_tup [u]) := Heap.get?_push_size _ rfl
  have I2 : Inv X pins σ (upd H' s1.heap.objs.size (.tup [.int n])) { s1 with heap := s1.heap.push (PySem.W.kdv_tup [u]) } :=
    I1.laid (fun b o e => Heap.get?_push_of_some _ e) (Nat.le_refl _) ⟨by show 1 ≤ sizeLine; decide, [u], .cons r1 .nil, _, g0, rfl, _, rfl⟩
  have nF : H' s1.heap.objs.size = none := I1.hok.fresh (Nat.le_refl _)
  have eN : ∀ b o, H' b = some o → upd H' s1.heap.objs.size (.tup [.int n]) b = some o := fun b o e => by
    rw [upd_ne (ne_of_none e nF)]
    exact e
  have hT0 : (upd H' s1.heap.objs.size (.tup [.int n])) s1.heap.objs.size = some (.tup [.int n]) := upd_same
  generalize s1.heap.objs.size = T0 at *
  refine mk_tailT I2 TB hcode hm hu (hT.ext eN) (LamD.has L I2.ok) fun f c' doc pm ctv H1 s' I3 e3 T3 hf hco => ?_
  exact ⟨.ref f, H1, I3, rfl, h f c' H1 ((ExtN.of eN).trans e3) T3 ⟨.ref T0, doc, pm, ctv, hf, hco, .inr ⟨T0, .int n, x, rfl, e3 _ _ hT0 (fun ps z => by cases z), hloc, fun v => hbind _ _ _ _ _ _ _ _⟩⟩⟩
end
section
variable {X : Cx} {pins : List (Addr × Obj)} {σ : L2.St} {H : Hp} {s : Shared}
/-- x(), in the def that got the lambda at last -/
theorem pe_actT {CXg : CXT} {Eg : XK} {Ng : List Str} {qg : Str} {sg : Scope} {g f c' : Addr} {cdg : Value} {params : Arguments} {body : Expr} {scope : Scope} {k i : Nat} {a : Str} {pn : List (Addr × Obj)} {xe : Value → Shared → Prop} {W : WX} {tb : XK → TE} {p1 p2 : Pos}
    {A2 : Around} {outer2 : List Env} {s3 : Shared} {H3 : Hp}
    (I : Inv X pins σ H s) (L : LamD X.N X.env.scope scope) (M : LamAt X params body scope H f c')
    (un3 : ∀ HZ h1, Un (frs outer2) [] H3 HZ s3.heap h1 → Un (frs X.stack) [] H HZ s.heap h1)
    (tk : Takes ((cxOf CXg X.prog X.w X.K X.mg X.base Ng qg sg g cdg A2 outer2 s3 H3 Eg).tr pn xe) W) (hr : Room (k + 1) (A2.deeper (envOfC qg sg s3.heap.objs.size g cdg)))
    (hbody : ∀ (A : Around) (outer : List Env) (s : Shared) (H : Hp) (E : XK), Room k (A.deeper (lamEnv X scope s.heap.objs.size f c')) → PE (lamCx X A outer s H E scope f c') body (tb E))
    (hN : Ng[i]? = some a) (hv : Vis sg a) (hd : (a == ("__debug__" : Str)) = false := by decide) (hcd : (a == ("__classdict__" : Str)) = false := by decide) :
    PE ((cxOf CXg X.prog X.w X.K X.mg X.base Ng qg sg g cdg A2 outer2 s3 H3 Eg).tr pn xe) (.Call (.Name a p1) [] [] p2)
      (fun σZ HZ Q => σZ[i]? = some (some (.ref f)) ∧ HZ c' = some (CodeO c' (X.env.qual ++ "<lambda>")) ∧ ∃ E : XK, (∀ cls d H', E cls d H' → W cls d σZ H') ∧ tb E σ HZ Q) := by
  refine ⟨fun pinsZ sZ σZ HZ Q IZ h => ?_⟩
  obtain ⟨hs, hc, E, hW, ht⟩ := h
  refine wpAny_Call_Name_kw (thn ((pe_var (pos := p1) (i := i) hN hv hd hcd).run pinsZ sZ σZ HZ (fun v H1 => v = .ref f ∧ H1 = HZ) IZ ⟨.ref f, hs, rfl, rfl⟩) fun u s1 hh => ?_)
  obtain ⟨v, H1, I1, r1, ev, eH⟩ := hh
  subst ev
  rw [eH] at I1
  obtain rfl : u = Value.ref f := r1
  have un : Un (frs X.stack) [] H HZ s.heap s1.heap := un3 _ _ I1.base
  obtain ⟨dV, doc, pm, ctv, hf, _, hb0⟩ := M.ex
  have of1 : s1.heap.get? f = some (lamO X params body scope dV doc pm c' ctv) := (I1.hok f _ (un.frzs f _ _ hf)).1
  refine PySem.W.callWith_F0 ⟨_, _, _, _, of1⟩ ?_
  obtain ⟨⟨oc, vs, t, hoc, hdc, hvc⟩, _, _⟩ := I1.hok c' _ hc
  have hbnd : ∃ bs : List (Str × Value), BindsTo s1 (PySem.W.kdv_fn "<lambda>" (X.env.qual ++ "<lambda>") params (.expr body) scope (clos X scope) dV doc pm (.ref c') ctv) ⟨[], []⟩ bs ∧ ∀ y ∈ bs, scope.names.lookup y.1 = some .local := by
    rcases hb0 with ⟨e, hb⟩ | ⟨T0, v, x, e, hT0, hx, hb⟩
    · subst e
      exact ⟨[], .of_eq hb, fun y hy => absurd hy (by simp)⟩
    · subst e
      obtain ⟨hl, its, rv, o, ho, _, n, hd⟩ := I1.hok T0 _ (un.tups T0 _ hT0)
      cases rv with
      | cons r0 rn =>
        cases rn
        rename_i u0
        obtain ⟨k, b1, b2⟩ := hb u0
        refine ⟨[(x, u0)], BindsTo.of_defaults (o := o) rfl ho hd b1 b2, fun y hy => ?_⟩
        rw [List.mem_singleton] at hy
        subst hy
        exact hx
  obtain ⟨bs, hbind, hloc⟩ := hbnd
  have rc : codeAny (model X.prog X.w) (A2.deeper (envOfC qg sg s3.heap.objs.size g cdg)) (.call (.ref f) ⟨[], []⟩) (CR (L2.CX X.prog X.w) (envOfC qg sg s3.heap.objs.size g cdg :: outer2) X.prog X.w HZ s1 Q E) s1 := by
    refine PySem.W.kla_callFunE hr.depth of1 rfl L.co L.gen rfl ⟨c', oc, vs, t, rfl, hoc, hdc, hvc⟩ (hbind _ _ _ _ ?_)
    refine wpAny_newFunctionEnv (fun y hy => (L.own y hy).1) hloc (fun h1 hns hsb => ⟨I1.nolimit.fresh _ hsb, ?_⟩) L.kind
    show codeAny _ _ (.expr body (lamEnv X scope s1.heap.objs.size f c')) _ _
    have kp : ∀ b o, s1.heap.get? b = some o → h1.get? b = some o := fun b o e => hsb.extBut b o (Nat.ne_of_lt (Heap.lt_size e)) (Heap.get?_push_of_some _ e)
    have J : Inv (lamCx X (A2.deeper (envOfC qg sg s3.heap.objs.size g cdg)) (envOfC qg sg s3.heap.objs.size g cdg :: outer2) s1 HZ E scope f c') [] σ HZ { s1 with heap := h1, toks := s1.toks + bs.length } :=
      lamW_start I L I1.env0 hr.hd un hns kp
    refine PySem.W.kla_codeExpr (wpAny_mono ((hbody _ _ s1 HZ E (hr.deeper _)).run [] _ _ HZ Q J ht) (fun v s' hq => ?_) fun e s' hq => hq)
    obtain ⟨w', H', J', rv, q⟩ := hq
    exact ⟨w', H', J'.os, J'.bare, J'.base, J'.hok, rv, q⟩
  refine wpAny_call (codeAny_mono rc fun r s' hq => ?_)
  match r, hq with
  | .error e, hq => exact tk e s' (XE.of_call I1 hW hq)
  | .ok (.ret u), hq => exact I1.after hq
  | .ok .next, hq => exact hq.elim
  | .ok .brk, hq => exact hq.elim
  | .ok .cont, hq => exact hq.elim
end
section
variable {X : Cx}
/-- g(l), in the def that got the lambda l in slot 0 -/
theorem pe_outVT {pins : List (Addr × Obj)} {σ : L2.St} {H : Hp} {s : Shared} {TT : (XK → Hp → VK → Prop) → Hp → VK → Prop} {x a a2 x2 : Str} {g f c' g2 : Addr} {k : Nat} {st : Stmt} {fd : FuncData} {Ng N2 : List Str} {cdg cd2 : Value} {sc2 : Scope}
    {params : Arguments} {body : Expr} {scope : Scope} {t : XK → TE} {p p3 pos : Pos} (I : Inv X pins σ H s) (L : LamD X.N X.env.scope scope) (M : LamAt X params body scope H f c')
    (hg : Gl (cxOf CX0 X.prog X.w X.K X.mg X.base N2 x2 sc2 g2 cd2 X.A X.stack s H E0).nox x) (hm : X.mg x = some (.ref g)) (hk : PySem.W.keepIn X.K (.ref g) = true) (F : Fun X.K x x st g fd) (hcd : fd.code = cdg) (hb : L2.Binds X.K fd [a] []) (Sg : FnScope Ng [a] (defScope st)) (hNg : Ng[0]? = some a) (hva : Vis (defScope st) a)
    (hG : Gives (cxOf CX0 X.prog X.w X.K X.mg X.base N2 x2 sc2 g2 cd2 X.A X.stack s H E0).nox Ng x (defScope st) g cdg (defBody st) a (X.env.qual ++ "<lambda>") TT)
    (hr : Room (k + 2) (X.A.deeper (envOfC x2 sc2 s.heap.objs.size g2 cd2))) (hN2 : N2[0]? = some a2) (hv2 : Vis sc2 a2)
    (hbody : ∀ (A : Around) (outer : List Env) (s : Shared) (H : Hp) (E : XK), Room k (A.deeper (lamEnv X scope s.heap.objs.size f c')) → PE (lamCx X A outer s H E scope f c') body (t E))
    (hdb : (x == ("__debug__" : Str)) = false := by decide) (hd : (a == ("__debug__" : Str)) = false := by decide) (hcc : (a == ("__classdict__" : Str)) = false := by decide) (hd2 : (a2 == ("__debug__" : Str)) = false := by decide) (hcc2 : (a2 == ("__classdict__" : Str)) = false := by decide) :
    PE (cxOf CX0 X.prog X.w X.K X.mg X.base N2 x2 sc2 g2 cd2 X.A X.stack s H E0).nox (.Call (.Name x p) [.Name a2 p3] [] pos) (tOutV f c' (X.env.qual ++ "<lambda>") TT (fun E H' Q' => t E σ H' Q')) := by
  refine ⟨fun pins2 s2 σ2 H2 Q I2 h => ?_⟩
  obtain ⟨hs, hc, h⟩ := h
  obtain ⟨oc, od, kV, doc0, pm0, an, cdv, ct, osl, rfl, lk, hcg⟩ := F.ex
  obtain rfl : cdv = cdg := hcd
  refine wpAny_Call_Name_kw (ld_glob I2 hg hm ?_ hdb)
  refine PySem.W.callWith_K (h₀ := X.base) I2.ok.mod.kin hk ?_ (by rfl) (by rfl)
  refine Calls.spliced_cons (thn ((pe_var (pos := p3) (i := 0) hN2 hv2 hd2 hcc2).run pins2 _ σ2 H2 (fun v H1 => v = .ref f ∧ H1 = H2) I2 ⟨.ref f, hs, rfl, rfl⟩) fun u s3 hh => ?_)
  obtain ⟨v, H1, I3, r1, ev, eH⟩ := hh
  subst ev
  rw [eH] at I3
  obtain rfl : u = Value.ref f := r1
  refine Calls.spliced_nil ⟨I3.kIn, ?_⟩
  have un1 : Un (frs X.stack) [] H H2 s.heap s3.heap := I3.base
  have un3 : ∀ HZ h1, Un (frs (envOfC x2 sc2 s.heap.objs.size g2 cd2 :: X.stack)) [] H2 HZ s3.heap h1 → Un (frs X.stack) [] H HZ s.heap h1 := fun HZ h1 u => by
    refine un_in un1 u (fun b hb => ?_) fun b o q hb => ?_
    · unfold frs at hb ⊢
      rw [List.filterMap_cons]
      split
      · exact hb
      · exact List.mem_cons_of_mem _ hb
    · unfold frs at hb
      rw [List.filterMap_cons] at hb
      split at hb
      · exact hb
      · rename_i w e
        rcases List.mem_cons.mp hb with z | z
        · have e2 : w = s.heap.objs.size := (Option.some.inj e).symm
          rw [z, e2] at q
          exact absurd (Heap.lt_size q) (Nat.lt_irrefl _)
        · exact z
  have rc : codeAny (model X.prog X.w) (X.A.deeper (envOfC x2 sc2 s.heap.objs.size g2 cd2)) (.call (.ref g) ⟨[.ref f], []⟩) (CR CX0 (envOfC x2 sc2 s.heap.objs.size g2 cd2 :: X.stack) X.prog X.w H2 s3 Q E0) s3 := by
    refine run_ofS (N := Ng) (ps := [a]) (us := [.ref f]) (vs := [.ref f]) lk hcg Sg hr I3.env0 (hb s3 [.ref f] I3.kIn rfl) (.cons rfl .nil) rfl fun hr' => ?_
    have act : ∀ (W : WX) (pn : List (Addr × Obj)) (xe : Value → Shared → Prop) (p1 p2 : Pos), Takes ((cxOf CX0 X.prog X.w X.K X.mg X.base Ng x (defScope st) g cdv (X.A.deeper (envOfC x2 sc2 s.heap.objs.size g2 cd2)) (envOfC x2 sc2 s.heap.objs.size g2 cd2 :: X.stack) s3 H2 E0).tr pn xe) W →
        PE ((cxOf CX0 X.prog X.w X.K X.mg X.base Ng x (defScope st) g cdv (X.A.deeper (envOfC x2 sc2 s.heap.objs.size g2 cd2)) (envOfC x2 sc2 s.heap.objs.size g2 cd2 :: X.stack) s3 H2 E0).tr pn xe) (.Call (.Name a p1) [] [] p2) (fun σZ HZ Q => σZ[0]? = some (some (.ref f)) ∧ HZ c' = some (CodeO c' (X.env.qual ++ "<lambda>")) ∧ ∃ E : XK, (∀ cls d H', E cls d H' → W cls d σZ H') ∧ t E σ HZ Q) :=
      fun W pn xe p1 p2 tk => pe_actT (CXg := CX0) (Eg := E0) (Ng := Ng) (qg := x) (sg := defScope st) (g := g) (cdg := cdv) (A2 := X.A.deeper (envOfC x2 sc2 s.heap.objs.size g2 cd2)) (outer2 := envOfC x2 sc2 s.heap.objs.size g2 cd2 :: X.stack) (s3 := s3) (H3 := H2) (i := 0) (k := k) (tb := t) I L M un3 tk hr' hbody hNg hva hd hcc
    obtain ⟨t', ht', hq'⟩ := hG f c' s3 H2 Q (fun E H' Q' => t E σ H' Q') (hr'.mono (by omega)) act hc h
    exact ⟨t', ht'.nox, hq'⟩
  refine wpAny_call (codeAny_mono rc fun r s2 hq => ?_)
  match r, hq with
  | .error e, hq => exact (show False from hq).elim
  | .ok (.ret u), hq => exact I3.after hq
  | .ok .next, hq => exact hq.elim
  | .ok .brk, hq => exact hq.elim
  | .ok .cont, hq => exact hq.elim
/-- x2(l, es), l any expression that gives a lambda made here -/
def tLamV (R : Hp → Addr → Addr → Prop) (TT2 : (XK → Hp → VK → Prop) → List V → Hp → VK → Prop) (n : Nat) (te0 : TE) (t : XK → TE) (ta : TA) : TE := fun σ H Q => te0 σ H fun v H1 => ∃ f c', v = .ref f ∧ ta σ H1 (fun ws H2 => ws.length = n ∧ R H2 f c' ∧ TT2 (fun E H' Q' => t E σ H' Q') ws H2 Q)
theorem pe_outT2 {TT : (XK → Hp → VK → Prop) → Hp → VK → Prop} {TT2 : (XK → Hp → VK → Prop) → List V → Hp → VK → Prop} {x a x2 a2 : Str} {g g2 : Addr} {k n : Nat} {st st2 : Stmt} {fd fd2 : FuncData} {Ng N2 ps2 : List Str} {cdg cd2 : Value}
    {params : Arguments} {body : Expr} {scope : Scope} {te0 : TE} {t : XK → TE} {ta : TA} {e0 : Expr} {es : List Expr} {p pos : Pos}
    (hg2 : Gl X x2) (hm2 : X.mg x2 = some (.ref g2)) (hk2 : PySem.W.keepIn X.K (.ref g2) = true) (F2 : Fun X.K x2 x2 st2 g2 fd2) (hcd2 : fd2.code = cd2) (hb2 : L2.Binds X.K fd2 (a2 :: ps2) []) (Sg2 : FnScope N2 (a2 :: ps2) (defScope st2)) (hN2 : N2[0]? = some a2) (hv2 : Vis (defScope st2) a2) (hn : ps2.length = n)
    (hm : X.mg x = some (.ref g)) (hk : PySem.W.keepIn X.K (.ref g) = true) (F : Fun X.K x x st g fd) (hcd : fd.code = cdg) (hb : L2.Binds X.K fd [a] []) (Sg : FnScope Ng [a] (defScope st)) (hNg : Ng[0]? = some a) (hva : Vis (defScope st) a)
    (hgl : ∀ (s : Shared) (H : Hp), Gl (cxOf CX0 X.prog X.w X.K X.mg X.base N2 x2 (defScope st2) g2 cd2 X.A X.stack s H E0).nox x)
    (hG : ∀ (s : Shared) (H : Hp), Gives (cxOf CX0 X.prog X.w X.K X.mg X.base N2 x2 (defScope st2) g2 cd2 X.A X.stack s H E0).nox Ng x (defScope st) g cdg (defBody st) a (X.env.qual ++ "<lambda>") TT)
    (hG2 : Gives2 X (k + 2) N2 x2 (defScope st2) g2 cd2 (defBody st2) x a2 (X.env.qual ++ "<lambda>") TT TT2)
    (h0 : PE X e0 te0) (hr : Room (k + 3) X.A) (L : LamD X.N X.env.scope scope)
    (hbody : ∀ (A : Around) (outer : List Env) (s : Shared) (H : Hp) (E : XK) (f c' : Addr), Room k (A.deeper (lamEnv X scope s.heap.objs.size f c')) → PE (lamCx X A outer s H E scope f c') body (t E))
    (ha : PA X es ta)
    (hdb2 : (x2 == ("__debug__" : Str)) = false := by decide) (hdb : (x == ("__debug__" : Str)) = false := by decide) (hd : (a == ("__debug__" : Str)) = false := by decide) (hcc : (a == ("__classdict__" : Str)) = false := by decide) (hd2 : (a2 == ("__debug__" : Str)) = false := by decide) (hcc2 : (a2 == ("__classdict__" : Str)) = false := by decide)
    (he : starEach (e0 :: es) X.env = (false, eval e0 X.env) :: starEach es X.env := by rfl) (hpl : (backTo pos (starEach es X.env)).any (·.1) = false := by rfl) :
    PE X (.Call (.Name x2 p) (e0 :: es) [] pos) (tLamV (LamAt X params body scope) TT2 n te0 t ta) := by
  refine ⟨fun pins s σ H Q I h => ?_⟩
  obtain ⟨oc, od, kV, doc0, pm0, an, cdv, ct, osl, rfl, lk, hcg⟩ := F2.ex
  obtain rfl : cdv = cd2 := hcd2
  refine wpAny_Call_Name_kw (ld_glob I hg2 hm2 ?_ hdb2)
  refine PySem.W.callWith_K (h₀ := X.base) I.ok.mod.kin hk2 ?_ he hpl
  rw [he]
  show wpAny _ _ (spliced ((false, eval e0 X.env) :: backTo pos (starEach es X.env))) _ _ s
  refine Calls.spliced_cons (thn (h0.run pins s σ H _ I h) fun u0 s1 hh => ?_)
  obtain ⟨v0, H1, I1, r0, f, c', ev0, q0⟩ := hh
  subst ev0
  obtain rfl : u0 = Value.ref f := r0
  refine thn (ha.run pos pins s1 σ H1 _ I1 q0) fun us s2 ⟨ws, H2, I2', r2, hwl, M2, q2⟩ => ⟨I2'.kIn, ?_⟩
  have rr : Vals (.ref f :: ws) (.ref f :: us) := .cons rfl r2
  have rc : codeAny (model X.prog X.w) X.A (.call (.ref g2) ⟨.ref f :: us, []⟩) (CR CX0 X.stack X.prog X.w H2 s2 Q E0) s2 := by
    have hlen : (Value.ref f :: us).length = (a2 :: ps2).length := by
      rw [List.length_cons, List.length_cons, ← r2.length, hwl, hn]
    have hlen2 : (V.ref f :: ws).length = (a2 :: ps2).length := by
      rw [List.length_cons, List.length_cons, hwl, hn]
    refine run_ofS (N := N2) (ps := a2 :: ps2) (us := .ref f :: us) (vs := .ref f :: ws) lk hcg Sg2 hr I2'.env0 (by simpa using hb2 s2 (.ref f :: us) I2'.kIn (by simpa using hlen)) rr hlen2 fun hr' => ?_
    obtain ⟨t', ht', hq'⟩ := hG2 f c' ws s2 H2 Q (fun E H' Q' => t E σ H' Q') hr' (fun p p3 pos => pe_outVT (k := k) I2' L M2 (hgl s2 H2) hm hk F hcd hb Sg hNg hva (hG s2 H2) hr' hN2 hv2 (fun A outer s H E hr2 => hbody A outer s H E f c' hr2) hdb hd hcc hd2 hcc2) M2.code q2
    exact ⟨t', ht'.nox, hq'⟩
  refine wpAny_call (codeAny_mono rc fun r s2 hq => ?_)
  match r, hq with
  | .error e, hq => exact (show False from hq).elim
  | .ok (.ret u), hq => exact I2'.after hq
  | .ok .next, hq => exact hq.elim
  | .ok .brk, hq => exact hq.elim
  | .ok .cont, hq => exact hq.elim
theorem pe_outT2L {TT : (XK → Hp → VK → Prop) → Hp → VK → Prop} {TT2 : (XK → Hp → VK → Prop) → List V → Hp → VK → Prop} {x a x2 a2 : Str} {g g2 : Addr} {k n : Nat} {st st2 : Stmt} {fd fd2 : FuncData} {Ng N2 ps2 : List Str} {cdg cd2 : Value}
    {params : Arguments} {body : Expr} {scope : Scope} {te0 : TE} {t : XK → TE} {ta : TA} {es : List Expr} {p pos lpos : Pos}
    (hg2 : Gl X x2) (hm2 : X.mg x2 = some (.ref g2)) (hk2 : PySem.W.keepIn X.K (.ref g2) = true) (F2 : Fun X.K x2 x2 st2 g2 fd2) (hcd2 : fd2.code = cd2) (hb2 : L2.Binds X.K fd2 (a2 :: ps2) []) (Sg2 : FnScope N2 (a2 :: ps2) (defScope st2)) (hN2 : N2[0]? = some a2) (hv2 : Vis (defScope st2) a2) (hn : ps2.length = n)
    (hm : X.mg x = some (.ref g)) (hk : PySem.W.keepIn X.K (.ref g) = true) (F : Fun X.K x x st g fd) (hcd : fd.code = cdg) (hb : L2.Binds X.K fd [a] []) (Sg : FnScope Ng [a] (defScope st)) (hNg : Ng[0]? = some a) (hva : Vis (defScope st) a)
    (hgl : ∀ (s : Shared) (H : Hp), Gl (cxOf CX0 X.prog X.w X.K X.mg X.base N2 x2 (defScope st2) g2 cd2 X.A X.stack s H E0).nox x)
    (hG : ∀ (s : Shared) (H : Hp), Gives (cxOf CX0 X.prog X.w X.K X.mg X.base N2 x2 (defScope st2) g2 cd2 X.A X.stack s H E0).nox Ng x (defScope st) g cdg (defBody st) a (X.env.qual ++ "<lambda>") TT)
    (hG2 : Gives2 X (k + 2) N2 x2 (defScope st2) g2 cd2 (defBody st2) x a2 (X.env.qual ++ "<lambda>") TT TT2)
    (h0 : PE X (.Lambda params body scope lpos) te0) (hr : Room (k + 3) X.A) (L : LamD X.N X.env.scope scope)
    (hbody : ∀ (A : Around) (outer : List Env) (s : Shared) (H : Hp) (E : XK) (f c' : Addr), Room k (A.deeper (lamEnv X scope s.heap.objs.size f c')) → PE (lamCx X A outer s H E scope f c') body (t E))
    (ha : PA X es ta)
    (hdb2 : (x2 == ("__debug__" : Str)) = false := by decide) (hdb : (x == ("__debug__" : Str)) = false := by decide) (hd : (a == ("__debug__" : Str)) = false := by decide) (hcc : (a == ("__classdict__" : Str)) = false := by decide) (hd2 : (a2 == ("__debug__" : Str)) = false := by decide) (hcc2 : (a2 == ("__classdict__" : Str)) = false := by decide)
    (he : starEach (.Lambda params body scope lpos :: es) X.env = (false, eval (.Lambda params body scope lpos) X.env) :: starEach es X.env := by rfl) (hpl : (backTo pos (starEach es X.env)).any (·.1) = false := by rfl) :
    PE X (.Call (.Name x2 p) (.Lambda params body scope lpos :: es) [] pos) (tLamV (LamAt X params body scope) TT2 n te0 t ta) :=
  pe_outT2 hg2 hm2 hk2 F2 hcd2 hb2 Sg2 hN2 hv2 hn hm hk F hcd hb Sg hNg hva hgl hG hG2 h0 hr L hbody ha hdb2 hdb hd hcc hd2 hcc2 he hpl
/-- one of two readings -/
theorem PE.or {e : Expr} {t1 t2 : TE} (h1 : PE X e t1) (h2 : PE X e t2) : PE X e (fun σ H Q => t1 σ H Q ∨ t2 σ H Q) := ⟨fun pins s σ H Q I h => h.elim (h1.run pins s σ H Q I) (h2.run pins s σ H Q I)⟩
end
/-- o.m(k = v) -/
def tMethK (C : Addr) (m : Str) (sp : Sp) (gV : List V → List V → List V) (n : Nat) (E : XK) (ta : TE) (tk : TA) : TE := fun σ H Q => ta σ H fun x H1 => ∃ a dx fs, x = .ref a ∧ H1 a = some (.ins C dx fs) ∧ fs.lookup m = none ∧
  tk σ H1 fun zs H2 => zs.length = n ∧ sp (gV [x] zs) H2 Q E
section
variable {X : Cx} {CX : CXT} {k : Nat} {f C : Addr} {fd : FuncData} {ps ks : List Str} {sp : Sp} {E : XK} {m : Str} {p pos apos : Pos} {o : Expr} {kws : List Keyword} {ta : TE} {tk : TA} {g : List Value → List Value → List Value} {gV : List V → List V → List V}
theorem pe_methK {pl : Sem Bool} (he : PE X o ta) (c : Cls X.K C) (hm : Meth X.K C m f) (F : FnOk X.prog X.w X.K X.mg X.base CX k f fd ps sp) (hr : Room k X.A) (hb : KBn X.K fd ps 1 ks g gV) (hx : Passes CX X E) (hkw : PK X kws tk)
    (hall : (backToKw pos (keywordEach kws X.env)).all (·.1.isSome) = true := by rfl) (hks : (backToKw pos (keywordEach kws X.env)).filterMap (·.1) = ks := by rfl)
    (hpl : ((backTo pos (starEach [] X.env)).any (·.1) || (backToKw pos (keywordEach kws X.env)).any (·.1.isNone)) = false := by rfl)
    (ht : eval (.Call (.Attribute o m apos) [] kws pos) X.env = (do
      let ov ← eval o X.env
      standAt apos.atName
      let (f, first) ← holding [ov] (getMethod ov m pl)
      callWith pos f first (backTo pos (starEach [] X.env)) (backToKw pos (keywordEach kws X.env))) := by rfl) :
    PE X (.Call (.Attribute o m apos) [] kws pos) (tMethK C m sp gV ks.length E ta tk) := by
  refine ⟨fun pins s σ H Q I h => ?_⟩
  refine PySem.W.methodCall_KW (pl := pl) (thn (he.run pins s σ H _ I h) fun u s1 ⟨x, H1, I1, rx, a, dx, fs, ex, ea, l, q⟩ => ?_) ht
  subst ex
  obtain rfl : u = Value.ref a := rx
  refine getmeth_ok I1 ea c hm l ?_
  refine PySem.W.callWith_KW0 (first := [.ref a]) (h₀ := X.base) I.ok.mod.kin hm.kp hall ?_ hpl
  refine thn (hkw.run pos pins s1 σ H1 _ I1 q) fun ws s2 ⟨zs, H2, I2, rz, l2, q2⟩ => ⟨I2.kIn, ?_⟩
  rw [hks]
  exact run_fnN (us := [.ref a]) (vs := [.ref a]) F hr hb hx I2 (.cons rfl .nil) rz rfl l2 q2
end
section
variable {X : Cx} {CX : CXT} {k : Nat} {C g : Addr} {fd : FuncData} {ps : List Str} {sp : Sp} {E : XK}
/-- o(e), which may raise -/
def tCallIX (C : Addr) (sp : Sp) (E : XK) (tf : TE) (t : TA) : TE := fun σ H Q => tf σ H fun y H1 => ∃ a, y = V.ref a ∧ t σ H1 fun vs H2 => (∃ dx fs, H2 a = some (.ins C dx fs)) ∧ sp (V.ref a :: vs) H2 Q E
theorem pe_callIX {fe e : Expr} {es : List Expr} {tf : TE} {t : TA} {pos : Pos} (hf : PE X fe tf) (c : StX.CallO X.K C g) (F : FnOk X.prog X.w X.K X.mg X.base CX k g fd ps sp) (hr : Room k X.A) (hb : Binds X.K fd ps []) (hx : Passes CX X E) (ha : PA X (e :: es) t)
    (ht : eval (.Call fe (e :: es) [] pos) X.env = (do callWith pos (← eval fe X.env) [] (backTo pos (starEach (e :: es) X.env)) (backToKw pos (keywordEach [] X.env))) := by rfl)
    (he : starEach (e :: es) X.env = (false, eval e X.env) :: starEach es X.env := by rfl) (hpl : (backTo pos (starEach es X.env)).any (·.1) = false := by rfl) : PE X (.Call fe (e :: es) [] pos) (tCallIX C sp E tf t) := by
  refine ⟨fun pins s σ H Q I h => ?_⟩
  refine Call_ (thn (hf.run pins s σ H _ I h) fun u s1 ⟨y, H1, I1, ry, a, ey, q⟩ => ?_) ht
  subst ey
  obtain rfl : u = Value.ref a := ry
  refine StX.callO_with (thn (ha.run pos pins s1 σ H1 _ I1 q) fun us s2 ⟨vs, H2, I2, r, ⟨dx, fs, ea⟩, q2⟩ => ?_) he hpl
  obtain ⟨mA, O, _⟩ := ins_get I2.hok ea
  obtain ⟨od, J, _⟩ := O.look
  refine ⟨⟨C, _, od, J, rfl⟩, ?_⟩
  have rr : Vals (V.ref a :: vs) (Value.ref a :: us) := .cons rfl r
  have hl : (Value.ref a :: us).length = ps.length := by rw [← rr.length]; exact F.len _ _ _ _ q2
  refine wpAny_call (PySem.W.kco_code I2.kIn J rfl c.at_ c.fn c.fi (codeAny_mono (F.run X.A X.stack s2 H2 ⟨.ref a :: us, []⟩ (.ref a :: us) (.ref a :: vs) Q E hr I2.env0 (by simpa using hb s2 (.ref a :: us) I2.kIn (by simpa using hl)) rr q2) fun z s' hq => ?_))
  match z, hq with
  | .error e, hq => exact hx _ _ _ _ _ _ I2 hq
  | .ok (.ret u), hq => exact I2.after hq
  | .ok .next, hq => exact hq.elim
  | .ok .brk, hq => exact hq.elim
  | .ok .cont, hq => exact hq.elim
end
/-! the text's parts -/
def lamP : Expr → Arguments
  | .Lambda p _ _ _ => p
  | _ => default
def lamB : Expr → Expr
  | .Lambda _ b _ _ => b
  | e => e
def lamS : Expr → Scope
  | .Lambda _ _ s _ => s
  | _ => default
def tupAt : Expr → Nat → Expr
  | .Tuple es .., k => es.getD k (.Constant .none default default)
  | e, _ => e
def forIter : Stmt → Expr
  | .For (iter := i) .. => i
  | _ => .Constant .none default default
def forBody : Stmt → List Stmt
  | .For (body := b) .. => b
  | _ => []
end Wn
namespace Wn
open PySem PySem.Spec PyProof.Rows L2
local macro_rules | `(tactic| walk_at "vc") => `(tactic| simp only [cxK, cxK2, start1, start2, start3, tRet, tRetN, tSeq, tNext, tIfS, tAsg, gName, tDrop, tVar, tC, tOp, tUn, tTest, tB, tNot, tAnd, tOr, tAndV, tOrV, tNotV, tIf, tCons, tNil, tCB, tCall, tChain, tAug, ipI, rI, rI0, rU, rIs, rGcd, rEq, rNe, scal,
  List.getElem?_cons_zero, List.getElem?_cons_succ, List.set_cons_zero, List.set_cons_succ, Option.some.injEq, List.cons.injEq, V.int.injEq, V.bl.injEq, V.ref.injEq, V.str.injEq, and_true, true_and, exists_eq_left, exists_eq_left', exists_and_left, exists_and_right, List.append_nil, List.nil_append, List.cons_append, exists_eq_right, exists_eq_right', and_assoc, exists_const, V.ty.injEq, ↓reduceIte, Bool.false_eq_true, Bool.not_true, Bool.not_false, decide_eq_true_eq])
def topS (i : Nat) : Stmt := PySem.Challenge.pw_wheelnines_k16_dials_refused.main.body.getD i (.Pass ⟨0, 0, 0, 0⟩)
abbrev s_is_integer : Stmt := topS 16
theorem sc_is_integer : FnScope ["value"] ["value"] (defScope s_is_integer) := ⟨rfl, rfl, rfl, by decide +kernel, rfl, by decide +kernel, by decide +kernel⟩
abbrev s_is_within : Stmt := topS 17
theorem sc_is_within : FnScope ["value", "low", "high"] ["value", "low", "high"] (defScope s_is_within) := ⟨rfl, rfl, rfl, by decide +kernel, rfl, by decide +kernel, by decide +kernel⟩
abbrev s_need_base : Stmt := topS 18
theorem sc_need_base : FnScope ["value"] ["value"] (defScope s_need_base) := ⟨rfl, rfl, rfl, by decide +kernel, rfl, by decide +kernel, by decide +kernel⟩
abbrev s_need_denominator : Stmt := topS 19
theorem sc_need_denominator : FnScope ["value"] ["value"] (defScope s_need_denominator) := ⟨rfl, rfl, rfl, by decide +kernel, rfl, by decide +kernel, by decide +kernel⟩
abbrev s_need_fraction : Stmt := topS 20
theorem sc_need_fraction : FnScope ["value", "numerator", "denominator"] ["value"] (defScope s_need_fraction) := ⟨rfl, rfl, rfl, by decide +kernel, rfl, by decide +kernel, by decide +kernel⟩
abbrev s_reduced : Stmt := topS 21
theorem sc_reduced : FnScope ["numerator", "denominator", "rest", "common"] ["numerator", "denominator"] (defScope s_reduced) := ⟨rfl, rfl, rfl, by decide +kernel, rfl, by decide +kernel, by decide +kernel⟩
abbrev s_power_rest : Stmt := topS 22
theorem sc_power_rest : FnScope ["number", "exponent", "divisor", "rest", "square", "left"] ["number", "exponent", "divisor"] (defScope s_power_rest) := ⟨rfl, rfl, rfl, by decide +kernel, rfl, by decide +kernel, by decide +kernel⟩
abbrev s_remainder_at : Stmt := topS 25
theorem sc_remainder_at : FnScope ["base", "fraction", "place", "numerator", "denominator"] ["base", "fraction", "place"] (defScope s_remainder_at) := ⟨rfl, rfl, rfl, by decide +kernel, rfl, by decide +kernel, by decide +kernel⟩
abbrev s_digit_at : Stmt := topS 26
theorem sc_digit_at : FnScope ["base", "fraction", "place"] ["base", "fraction", "place"] (defScope s_digit_at) := ⟨rfl, rfl, rfl, by decide +kernel, rfl, by decide +kernel, by decide +kernel⟩
abbrev s_added : Stmt := topS 29
theorem sc_added : FnScope ["fraction", "other", "numerator", "denominator", "rest", "common"] ["fraction", "other"] (defScope s_added) := ⟨rfl, rfl, rfl, by decide +kernel, rfl, by decide +kernel, by decide +kernel⟩
abbrev s_law_begun : Stmt := topS 33
theorem sc_law_begun : FnScope ["script", "great", "cell"] ["script"] (defScope s_law_begun) := ⟨rfl, rfl, rfl, by decide +kernel, rfl, by decide +kernel, by decide +kernel⟩
abbrev s_law_draw : Stmt := topS 34
theorem sc_law_draw : FnScope ["m", "limit", "found", "spot", "cell", "mixed"] ["m", "limit"] (defScope s_law_draw) := ⟨rfl, rfl, rfl, by decide +kernel, rfl, by decide +kernel, by decide +kernel⟩
abbrev s_law_of : Stmt := topS 35
theorem sc_law_of : FnScope ["m", "some"] ["m", "some"] (defScope s_law_of) := ⟨rfl, rfl, rfl, by decide +kernel, rfl, by decide +kernel, by decide +kernel⟩
abbrev s_law_divisor : Stmt := topS 36
theorem sc_law_divisor : FnScope ["one", "other"] ["one", "other"] (defScope s_law_divisor) := ⟨rfl, rfl, rfl, by decide +kernel, rfl, by decide +kernel, by decide +kernel⟩
abbrev s_law_part : Stmt := topS 37
theorem sc_law_part : FnScope ["m", "most", "n", "x"] ["m", "most"] (defScope s_law_part) := ⟨rfl, rfl, rfl, by decide +kernel, rfl, by decide +kernel, by decide +kernel⟩
abbrev s_law_ring : Stmt := topS 38
theorem sc_law_ring : FnScope ["b", "part", "x", "n", "row", "spots"] ["b", "part"] (defScope s_law_ring) := ⟨rfl, rfl, rfl, by decide +kernel, rfl, by decide +kernel, by decide +kernel⟩
abbrev s_law_base : Stmt := topS 39
theorem sc_law_base : FnScope ["m"] ["m"] (defScope s_law_base) := ⟨rfl, rfl, rfl, by decide +kernel, rfl, by decide +kernel, by decide +kernel⟩
abbrev s_law_lowest : Stmt := topS 40
theorem sc_law_lowest : FnScope ["x", "n", "rest", "least"] ["x", "n"] (defScope s_law_lowest) := ⟨rfl, rfl, rfl, by decide +kernel, rfl, by decide +kernel, by decide +kernel⟩
abbrev s_law_after : Stmt := topS 41
theorem sc_law_after : FnScope ["b", "part", "far", "row", "begin"] ["b", "part", "far"] (defScope s_law_after) := ⟨rfl, rfl, rfl, by decide +kernel, rfl, by decide +kernel, by decide +kernel⟩
abbrev s_law_deal : Stmt := topS 42
theorem sc_law_deal : FnScope ["m", "live", "film", "b", "part", "way", "far", "times", "other", "both"] ["m", "live", "film"] (defScope s_law_deal) := ⟨rfl, rfl, rfl, by decide +kernel, rfl, by decide +kernel, by decide +kernel⟩
abbrev s_law_stands : Stmt := topS 43
theorem sc_law_stands : FnScope ["live", "film", "told"] ["live", "film"] (defScope s_law_stands) := ⟨rfl, rfl, rfl, by decide +kernel, rfl, by decide +kernel, by decide +kernel⟩
abbrev s_law_word : Stmt := topS 44
theorem sc_law_word : FnScope ["error", "found"] ["error"] (defScope s_law_word) := ⟨rfl, rfl, rfl, by decide +kernel, rfl, by decide +kernel, by decide +kernel⟩
abbrev s_law_outcome : Stmt := topS 45
theorem sc_law_outcome : FnScope ["call", "found", "error", "e"] ["call"] (defScope s_law_outcome) := ⟨rfl, rfl, rfl, by decide +kernel, rfl, by decide +kernel, by decide +kernel⟩
abbrev s_law_is : Stmt := topS 46
theorem sc_law_is : FnScope ["call", "due"] ["call", "due"] (defScope s_law_is) := ⟨rfl, rfl, rfl, by decide +kernel, rfl, by decide +kernel, by decide +kernel⟩
abbrev s_law_odd_numbers : Stmt := topS 47
theorem sc_law_odd_numbers : FnScope ["low", "most"] ["low", "most"] (defScope s_law_odd_numbers) := ⟨rfl, rfl, rfl, by decide +kernel, rfl, by decide +kernel, by decide +kernel⟩
abbrev s_law_odd_fractions : Stmt := topS 48
theorem sc_law_odd_fractions : FnScope ["some"] [] (defScope s_law_odd_fractions) := ⟨rfl, rfl, rfl, by decide +kernel, rfl, by decide +kernel, by decide +kernel⟩
abbrev s_law_moves_right : Stmt := topS 49
theorem sc_law_moves_right : FnScope ["live", "shown", "odd", "call", "kept", "steps"] ["live"] (defScope s_law_moves_right) := ⟨rfl, rfl, rfl, by decide +kernel, rfl, by decide +kernel, by decide +kernel⟩
abbrev s_law_made_right : Stmt := topS 50
theorem sc_law_made_right : FnScope ["odd"] [] (defScope s_law_made_right) := ⟨rfl, rfl, rfl, by decide +kernel, rfl, by decide +kernel, by decide +kernel⟩
abbrev s_law_great_right : Stmt := topS 51
theorem sc_law_great_right : FnScope ["live", "told"] [] (defScope s_law_great_right) := ⟨rfl, rfl, rfl, by decide +kernel, rfl, by decide +kernel, by decide +kernel⟩
abbrev s_law : Stmt := topS 52
theorem sc_law : FnScope ["script", "m", "lap", "b", "part", "live", "film", "turn"] ["script"] (defScope s_law) := ⟨rfl, rfl, rfl, by decide +kernel, rfl, by decide +kernel, by decide +kernel⟩
def clsB (st : Stmt) (j : Nat) : Stmt := match st with
  | .ClassDef (body := b) .. => b.getD j (.Pass ⟨0, 0, 0, 0⟩)
  | _ => .Pass ⟨0, 0, 0, 0⟩
abbrev s_BadBase_init : Stmt := clsB (topS 4) 0
theorem sc_BadBase_init : FnScope ["self", "value"] ["self", "value"] (defScope s_BadBase_init) := ⟨rfl, rfl, rfl, by decide +kernel, rfl, by decide +kernel, by decide +kernel⟩
abbrev s_BadFraction_init : Stmt := clsB (topS 6) 0
theorem sc_BadFraction_init : FnScope ["self", "value"] ["self", "value"] (defScope s_BadFraction_init) := ⟨rfl, rfl, rfl, by decide +kernel, rfl, by decide +kernel, by decide +kernel⟩
abbrev s_BadNumber_init : Stmt := clsB (topS 8) 0
theorem sc_BadNumber_init : FnScope ["self", "value"] ["self", "value"] (defScope s_BadNumber_init) := ⟨rfl, rfl, rfl, by decide +kernel, rfl, by decide +kernel, by decide +kernel⟩
abbrev s_TooGreat_init : Stmt := clsB (topS 11) 0
theorem sc_TooGreat_init : FnScope ["self", "most"] ["self", "most"] (defScope s_TooGreat_init) := ⟨rfl, rfl, rfl, by decide +kernel, rfl, by decide +kernel, by decide +kernel⟩
abbrev s_Nothing_init : Stmt := clsB (topS 12) 0
theorem sc_Nothing_init : FnScope ["self", "value"] ["self", "value"] (defScope s_Nothing_init) := ⟨rfl, rfl, rfl, by decide +kernel, rfl, by decide +kernel, by decide +kernel⟩
abbrev s_Dial_init : Stmt := clsB (topS 31) 0
theorem sc_Dial_init : FnScope ["self", "base", "fraction"] ["self", "base", "fraction"] (defScope s_Dial_init) := ⟨rfl, rfl, rfl, by decide +kernel, rfl, by decide +kernel, by decide +kernel⟩
abbrev s_Dial_base : Stmt := clsB (topS 31) 1
theorem sc_Dial_base : FnScope ["self"] ["self"] (defScope s_Dial_base) := ⟨rfl, rfl, rfl, by decide +kernel, rfl, by decide +kernel, by decide +kernel⟩
abbrev s_Dial_fraction : Stmt := clsB (topS 31) 2
theorem sc_Dial_fraction : FnScope ["self"] ["self"] (defScope s_Dial_fraction) := ⟨rfl, rfl, rfl, by decide +kernel, rfl, by decide +kernel, by decide +kernel⟩
abbrev s_Dial_first : Stmt := clsB (topS 31) 3
theorem sc_Dial_first : FnScope ["self"] ["self"] (defScope s_Dial_first) := ⟨rfl, rfl, rfl, by decide +kernel, rfl, by decide +kernel, by decide +kernel⟩
abbrev s_Dial_move : Stmt := clsB (topS 31) 4
theorem sc_Dial_move : FnScope ["self", "fraction"] ["self", "fraction"] (defScope s_Dial_move) := ⟨rfl, rfl, rfl, by decide +kernel, rfl, by decide +kernel, by decide +kernel⟩
abbrev s_Dial_turn : Stmt := clsB (topS 31) 5
theorem sc_Dial_turn : FnScope ["self", "many"] ["self", "many"] (defScope s_Dial_turn) := ⟨rfl, rfl, rfl, by decide +kernel, rfl, by decide +kernel, by decide +kernel⟩
abbrev s_Dial_add : Stmt := clsB (topS 31) 6
theorem sc_Dial_add : FnScope ["self", "other"] ["self", "other"] (defScope s_Dial_add) := ⟨rfl, rfl, rfl, by decide +kernel, rfl, by decide +kernel, by decide +kernel⟩
abbrev s_Dial_scale : Stmt := clsB (topS 31) 7
theorem sc_Dial_scale : FnScope ["self", "times"] ["self", "times"] (defScope s_Dial_scale) := ⟨rfl, rfl, rfl, by decide +kernel, rfl, by decide +kernel, by decide +kernel⟩
abbrev s_Dial_call : Stmt := clsB (topS 31) 8
theorem sc_Dial_call : FnScope ["self", "place"] ["self", "place"] (defScope s_Dial_call) := ⟨rfl, rfl, rfl, by decide +kernel, rfl, by decide +kernel, by decide +kernel⟩
abbrev s_Dial_undo : Stmt := clsB (topS 31) 9
theorem sc_Dial_undo : FnScope ["self", "many", "_"] ["self", "many"] (defScope s_Dial_undo) := ⟨rfl, rfl, rfl, by decide +kernel, rfl, by decide +kernel, by decide +kernel⟩
abbrev s_Dial_len : Stmt := clsB (topS 31) 10
theorem sc_Dial_len : FnScope ["self"] ["self"] (defScope s_Dial_len) := ⟨rfl, rfl, rfl, by decide +kernel, rfl, by decide +kernel, by decide +kernel⟩
structure Txt (K : PySem.W.Frag) (mg : Str → Option Value) where
  d_is_integer : Dn K mg "is_integer" s_is_integer ["value"]
  d_is_within : Dn K mg "is_within" s_is_within ["value", "low", "high"]
  d_need_base : Dn K mg "need_base" s_need_base ["value"]
  d_need_denominator : Dn K mg "need_denominator" s_need_denominator ["value"]
  d_need_fraction : Dn K mg "need_fraction" s_need_fraction ["value"]
  d_reduced : Dn K mg "reduced" s_reduced ["numerator", "denominator"]
  d_power_rest : Dn K mg "power_rest" s_power_rest ["number", "exponent", "divisor"]
  d_remainder_at : Dn K mg "remainder_at" s_remainder_at ["base", "fraction", "place"]
  d_digit_at : Dn K mg "digit_at" s_digit_at ["base", "fraction", "place"]
  d_added : Dn K mg "added" s_added ["fraction", "other"]
  d_law_begun : Dn K mg "_law_begun" s_law_begun ["script"]
  d_law_draw : Dn K mg "_law_draw" s_law_draw ["m", "limit"]
  d_law_of : Dn K mg "_law_of" s_law_of ["m", "some"]
  d_law_divisor : Dn K mg "_law_divisor" s_law_divisor ["one", "other"]
  d_law_part : Dn K mg "_law_part" s_law_part ["m", "most"]
  d_law_ring : Dn K mg "_law_ring" s_law_ring ["b", "part"]
  d_law_base : Dn K mg "_law_base" s_law_base ["m"]
  d_law_lowest : Dn K mg "_law_lowest" s_law_lowest ["x", "n"]
  d_law_after : Dn K mg "_law_after" s_law_after ["b", "part", "far"]
  d_law_deal : Dn K mg "_law_deal" s_law_deal ["m", "live", "film"]
  d_law_stands : Dn K mg "_law_stands" s_law_stands ["live", "film"]
  d_law_word : Dn K mg "_law_word" s_law_word ["error"]
  d_law_outcome : Dn K mg "_law_outcome" s_law_outcome ["call"]
  d_law_is : Dn K mg "_law_is" s_law_is ["call", "due"]
  d_law_odd_numbers : Dn K mg "_law_odd_numbers" s_law_odd_numbers ["low", "most"]
  d_law_odd_fractions : Dn K mg "_law_odd_fractions" s_law_odd_fractions []
  d_law_moves_right : Dn K mg "_law_moves_right" s_law_moves_right ["live"]
  d_law_made_right : Dn K mg "_law_made_right" s_law_made_right []
  d_law_great_right : Dn K mg "_law_great_right" s_law_great_right []
  d_law : Dn K mg "law" s_law ["script"]
  b_isinstance : mg "isinstance" = none
  b_int : mg "int" = none
  b_bool : mg "bool" = none
  b_len : mg "len" = none
  b_range : mg "range" = none
  b_tuple : mg "tuple" = none
  b_list : mg "list" = none
  b_min : mg "min" = none
  b_repr : mg "repr" = none
  b_OverflowError : mg "OverflowError" = none
  b_LookupError : mg "LookupError" = none
  b_gcd : mg "gcd" = some (.builtin "math.gcd")
  C_WheelError : Addr
  g_WheelError : mg "WheelError" = some (.ref C_WheelError)
  r_WheelError : ClX.CRead K C_WheelError (.type "type")
  i_WheelError : PySem.W.findCls K (.ref C_WheelError) (.type "type") "__init__" = some (.val (.builtin "ValueError.__init__"))
  C_BadBase : Addr
  g_BadBase : mg "BadBase" = some (.ref C_BadBase)
  I_BadBase : Addr
  T_BadBase : ErrC K C_BadBase I_BadBase "value" "ValueError" "ValueError.__new__" "ValueError.__init__" [.type "ValueError", .type "Exception", .type "BaseException", .type "object"]
  fd_BadBase : FuncData
  F_BadBase : Fun K "__init__" "BadBase.__init__" s_BadBase_init I_BadBase fd_BadBase
  b_BadBase : Binds K fd_BadBase ["self", "value"] []
  is_BadBase : IsC K C_BadBase
  C_BadDenominator : Addr
  g_BadDenominator : mg "BadDenominator" = some (.ref C_BadDenominator)
  C_BadFraction : Addr
  g_BadFraction : mg "BadFraction" = some (.ref C_BadFraction)
  I_BadFraction : Addr
  T_BadFraction : ErrC K C_BadFraction I_BadFraction "value" "ValueError" "ValueError.__new__" "ValueError.__init__" [.type "ValueError", .type "Exception", .type "BaseException", .type "object"]
  fd_BadFraction : FuncData
  F_BadFraction : Fun K "__init__" "BadFraction.__init__" s_BadFraction_init I_BadFraction fd_BadFraction
  b_BadFraction : Binds K fd_BadFraction ["self", "value"] []
  is_BadFraction : IsC K C_BadFraction
  C_BadDigits : Addr
  g_BadDigits : mg "BadDigits" = some (.ref C_BadDigits)
  C_BadNumber : Addr
  g_BadNumber : mg "BadNumber" = some (.ref C_BadNumber)
  I_BadNumber : Addr
  T_BadNumber : ErrC K C_BadNumber I_BadNumber "value" "ValueError" "ValueError.__new__" "ValueError.__init__" [.type "ValueError", .type "Exception", .type "BaseException", .type "object"]
  fd_BadNumber : FuncData
  F_BadNumber : Fun K "__init__" "BadNumber.__init__" s_BadNumber_init I_BadNumber fd_BadNumber
  b_BadNumber : Binds K fd_BadNumber ["self", "value"] []
  is_BadNumber : IsC K C_BadNumber
  C_BadPaper : Addr
  g_BadPaper : mg "BadPaper" = some (.ref C_BadPaper)
  C_BadText : Addr
  g_BadText : mg "BadText" = some (.ref C_BadText)
  C_TooGreat : Addr
  g_TooGreat : mg "TooGreat" = some (.ref C_TooGreat)
  I_TooGreat : Addr
  T_TooGreat : ErrC K C_TooGreat I_TooGreat "most" "OverflowError" "OverflowError.__new__" "OverflowError.__init__" [.type "OverflowError", .type "ArithmeticError", .type "Exception", .type "BaseException", .type "object"]
  fd_TooGreat : FuncData
  F_TooGreat : Fun K "__init__" "TooGreat.__init__" s_TooGreat_init I_TooGreat fd_TooGreat
  b_TooGreat : Binds K fd_TooGreat ["self", "most"] []
  is_TooGreat : IsC K C_TooGreat
  C_Nothing : Addr
  g_Nothing : mg "Nothing" = some (.ref C_Nothing)
  I_Nothing : Addr
  T_Nothing : ErrC K C_Nothing I_Nothing "value" "LookupError" "LookupError.__new__" "LookupError.__init__" [.type "LookupError", .type "Exception", .type "BaseException", .type "object"]
  fd_Nothing : FuncData
  F_Nothing : Fun K "__init__" "Nothing.__init__" s_Nothing_init I_Nothing fd_Nothing
  b_Nothing : Binds K fd_Nothing ["self", "value"] []
  is_Nothing : IsC K C_Nothing
  kit_BadBase_BadBase : PySem.W.kitOne K (.ref C_BadBase) (.ref C_BadBase) = some true
  kit_BadBase_BadDenominator : PySem.W.kitOne K (.ref C_BadBase) (.ref C_BadDenominator) = some false
  kit_BadBase_BadFraction : PySem.W.kitOne K (.ref C_BadBase) (.ref C_BadFraction) = some false
  kit_BadBase_BadDigits : PySem.W.kitOne K (.ref C_BadBase) (.ref C_BadDigits) = some false
  kit_BadBase_BadNumber : PySem.W.kitOne K (.ref C_BadBase) (.ref C_BadNumber) = some false
  kit_BadBase_BadPaper : PySem.W.kitOne K (.ref C_BadBase) (.ref C_BadPaper) = some false
  kit_BadBase_BadText : PySem.W.kitOne K (.ref C_BadBase) (.ref C_BadText) = some false
  kit_BadBase_TooGreat : PySem.W.kitOne K (.ref C_BadBase) (.ref C_TooGreat) = some false
  kit_BadBase_Nothing : PySem.W.kitOne K (.ref C_BadBase) (.ref C_Nothing) = some false
  exm_BadBase : PySem.W.exmAny K (.ref C_BadBase) [.ref C_WheelError, .ref C_Nothing, .ref C_TooGreat] = some true
  kit_BadFraction_BadBase : PySem.W.kitOne K (.ref C_BadFraction) (.ref C_BadBase) = some false
  kit_BadFraction_BadDenominator : PySem.W.kitOne K (.ref C_BadFraction) (.ref C_BadDenominator) = some false
  kit_BadFraction_BadFraction : PySem.W.kitOne K (.ref C_BadFraction) (.ref C_BadFraction) = some true
  kit_BadFraction_BadDigits : PySem.W.kitOne K (.ref C_BadFraction) (.ref C_BadDigits) = some false
  kit_BadFraction_BadNumber : PySem.W.kitOne K (.ref C_BadFraction) (.ref C_BadNumber) = some false
  kit_BadFraction_BadPaper : PySem.W.kitOne K (.ref C_BadFraction) (.ref C_BadPaper) = some false
  kit_BadFraction_BadText : PySem.W.kitOne K (.ref C_BadFraction) (.ref C_BadText) = some false
  kit_BadFraction_TooGreat : PySem.W.kitOne K (.ref C_BadFraction) (.ref C_TooGreat) = some false
  kit_BadFraction_Nothing : PySem.W.kitOne K (.ref C_BadFraction) (.ref C_Nothing) = some false
  exm_BadFraction : PySem.W.exmAny K (.ref C_BadFraction) [.ref C_WheelError, .ref C_Nothing, .ref C_TooGreat] = some true
  kit_BadNumber_BadBase : PySem.W.kitOne K (.ref C_BadNumber) (.ref C_BadBase) = some false
  kit_BadNumber_BadDenominator : PySem.W.kitOne K (.ref C_BadNumber) (.ref C_BadDenominator) = some false
  kit_BadNumber_BadFraction : PySem.W.kitOne K (.ref C_BadNumber) (.ref C_BadFraction) = some false
  kit_BadNumber_BadDigits : PySem.W.kitOne K (.ref C_BadNumber) (.ref C_BadDigits) = some false
  kit_BadNumber_BadNumber : PySem.W.kitOne K (.ref C_BadNumber) (.ref C_BadNumber) = some true
  kit_BadNumber_BadPaper : PySem.W.kitOne K (.ref C_BadNumber) (.ref C_BadPaper) = some false
  kit_BadNumber_BadText : PySem.W.kitOne K (.ref C_BadNumber) (.ref C_BadText) = some false
  kit_BadNumber_TooGreat : PySem.W.kitOne K (.ref C_BadNumber) (.ref C_TooGreat) = some false
  kit_BadNumber_Nothing : PySem.W.kitOne K (.ref C_BadNumber) (.ref C_Nothing) = some false
  exm_BadNumber : PySem.W.exmAny K (.ref C_BadNumber) [.ref C_WheelError, .ref C_Nothing, .ref C_TooGreat] = some true
  kit_TooGreat_BadBase : PySem.W.kitOne K (.ref C_TooGreat) (.ref C_BadBase) = some false
  kit_TooGreat_BadDenominator : PySem.W.kitOne K (.ref C_TooGreat) (.ref C_BadDenominator) = some false
  kit_TooGreat_BadFraction : PySem.W.kitOne K (.ref C_TooGreat) (.ref C_BadFraction) = some false
  kit_TooGreat_BadDigits : PySem.W.kitOne K (.ref C_TooGreat) (.ref C_BadDigits) = some false
  kit_TooGreat_BadNumber : PySem.W.kitOne K (.ref C_TooGreat) (.ref C_BadNumber) = some false
  kit_TooGreat_BadPaper : PySem.W.kitOne K (.ref C_TooGreat) (.ref C_BadPaper) = some false
  kit_TooGreat_BadText : PySem.W.kitOne K (.ref C_TooGreat) (.ref C_BadText) = some false
  kit_TooGreat_TooGreat : PySem.W.kitOne K (.ref C_TooGreat) (.ref C_TooGreat) = some true
  kit_TooGreat_Nothing : PySem.W.kitOne K (.ref C_TooGreat) (.ref C_Nothing) = some false
  exm_TooGreat : PySem.W.exmAny K (.ref C_TooGreat) [.ref C_WheelError, .ref C_Nothing, .ref C_TooGreat] = some true
  kit_Nothing_BadBase : PySem.W.kitOne K (.ref C_Nothing) (.ref C_BadBase) = some false
  kit_Nothing_BadDenominator : PySem.W.kitOne K (.ref C_Nothing) (.ref C_BadDenominator) = some false
  kit_Nothing_BadFraction : PySem.W.kitOne K (.ref C_Nothing) (.ref C_BadFraction) = some false
  kit_Nothing_BadDigits : PySem.W.kitOne K (.ref C_Nothing) (.ref C_BadDigits) = some false
  kit_Nothing_BadNumber : PySem.W.kitOne K (.ref C_Nothing) (.ref C_BadNumber) = some false
  kit_Nothing_BadPaper : PySem.W.kitOne K (.ref C_Nothing) (.ref C_BadPaper) = some false
  kit_Nothing_BadText : PySem.W.kitOne K (.ref C_Nothing) (.ref C_BadText) = some false
  kit_Nothing_TooGreat : PySem.W.kitOne K (.ref C_Nothing) (.ref C_TooGreat) = some false
  kit_Nothing_Nothing : PySem.W.kitOne K (.ref C_Nothing) (.ref C_Nothing) = some true
  exm_Nothing : PySem.W.exmAny K (.ref C_Nothing) [.ref C_WheelError, .ref C_Nothing, .ref C_TooGreat] = some true
  i_LookupError : PySem.W.findCls K (.type "LookupError") (.type "type") "__init__" = some (.val (.builtin "LookupError.__init__"))
  i_OverflowError : PySem.W.findCls K (.type "OverflowError") (.type "type") "__init__" = some (.val (.builtin "OverflowError.__init__"))
  C_Dial : Addr
  g_Dial : mg "Dial" = some (.ref C_Dial)
  cl_Dial : Cls K C_Dial
  nf_Dial_base : NoAttr K C_Dial "_base"
  nf_Dial_shown : NoAttr K C_Dial "_shown"
  nf_Dial_past : NoAttr K C_Dial "_past"
  m_Dial_init : Addr
  fd_Dial_init : FuncData
  F_Dial_init : Fun K "__init__" "Dial.__init__" s_Dial_init m_Dial_init fd_Dial_init
  b_Dial_init : Binds K fd_Dial_init ["self", "base", "fraction"] []
  mk_Dial : Mk K C_Dial m_Dial_init
  m_Dial_base : Addr
  fd_Dial_base : FuncData
  F_Dial_base : Fun K "base" "Dial.base" s_Dial_base m_Dial_base fd_Dial_base
  b_Dial_base : Binds K fd_Dial_base ["self"] []
  p_Dial_base : Addr
  pr_Dial_base : PropOf K C_Dial "base" p_Dial_base m_Dial_base
  m_Dial_fraction : Addr
  fd_Dial_fraction : FuncData
  F_Dial_fraction : Fun K "fraction" "Dial.fraction" s_Dial_fraction m_Dial_fraction fd_Dial_fraction
  b_Dial_fraction : Binds K fd_Dial_fraction ["self"] []
  p_Dial_fraction : Addr
  pr_Dial_fraction : PropOf K C_Dial "fraction" p_Dial_fraction m_Dial_fraction
  m_Dial_first : Addr
  fd_Dial_first : FuncData
  F_Dial_first : Fun K "first" "Dial.first" s_Dial_first m_Dial_first fd_Dial_first
  b_Dial_first : Binds K fd_Dial_first ["self"] []
  p_Dial_first : Addr
  pr_Dial_first : PropOf K C_Dial "first" p_Dial_first m_Dial_first
  m_Dial_move : Addr
  fd_Dial_move : FuncData
  F_Dial_move : Fun K "_move" "Dial._move" s_Dial_move m_Dial_move fd_Dial_move
  b_Dial_move : Binds K fd_Dial_move ["self", "fraction"] []
  me_Dial_move : Meth K C_Dial "_move" m_Dial_move
  m_Dial_turn : Addr
  fd_Dial_turn : FuncData
  F_Dial_turn : Fun K "turn" "Dial.turn" s_Dial_turn m_Dial_turn fd_Dial_turn
  b_Dial_turn : Binds K fd_Dial_turn ["self", "many"] []
  me_Dial_turn : Meth K C_Dial "turn" m_Dial_turn
  m_Dial_add : Addr
  fd_Dial_add : FuncData
  F_Dial_add : Fun K "add" "Dial.add" s_Dial_add m_Dial_add fd_Dial_add
  b_Dial_add : Binds K fd_Dial_add ["self", "other"] []
  me_Dial_add : Meth K C_Dial "add" m_Dial_add
  m_Dial_scale : Addr
  fd_Dial_scale : FuncData
  F_Dial_scale : Fun K "scale" "Dial.scale" s_Dial_scale m_Dial_scale fd_Dial_scale
  b_Dial_scale : Binds K fd_Dial_scale ["self", "times"] []
  me_Dial_scale : Meth K C_Dial "scale" m_Dial_scale
  m_Dial_call : Addr
  fd_Dial_call : FuncData
  F_Dial_call : Fun K "__call__" "Dial.__call__" s_Dial_call m_Dial_call fd_Dial_call
  b_Dial_call : Binds K fd_Dial_call ["self", "place"] []
  ca_Dial : StX.CallO K C_Dial m_Dial_call
  m_Dial_undo : Addr
  fd_Dial_undo : FuncData
  F_Dial_undo : FunD K "undo" "Dial.undo" (defArgs s_Dial_undo) (defBody s_Dial_undo) (defScope s_Dial_undo) [] [("many", .int 1)] m_Dial_undo fd_Dial_undo
  me_Dial_undo : Meth K C_Dial "undo" m_Dial_undo
  m_Dial_len : Addr
  fd_Dial_len : FuncData
  F_Dial_len : Fun K "__len__" "Dial.__len__" s_Dial_len m_Dial_len fd_Dial_len
  b_Dial_len : Binds K fd_Dial_len ["self"] []
  at_Dial_len : PySem.W.findIn K (.ref C_Dial) "__len__" = some (some (.ref m_Dial_len))
  fn_Dial_len : PySem.W.isFn K (.ref m_Dial_len) = true
  k_law_moves_right : Addr
  p_law_moves_right : Addr
  e_law_moves_right : d_law_moves_right.fd.code = .ref k_law_moves_right
  k_law_made_right : Addr
  p_law_made_right : Addr
  e_law_made_right : d_law_made_right.fd.code = .ref k_law_made_right
  k_law_great_right : Addr
  p_law_great_right : Addr
  e_law_great_right : d_law_great_right.fd.code = .ref k_law_great_right
  ne_law_moves_right_law_made_right : p_law_moves_right ≠ p_law_made_right
  ne_law_moves_right_law_great_right : p_law_moves_right ≠ p_law_great_right
  ne_law_made_right_law_great_right : p_law_made_right ≠ p_law_great_right
  t_MOST_BASE : Tok
  c_MOST_BASE : mg "MOST_BASE" = some (.int 1000 t_MOST_BASE)
  t_MOST_DENOMINATOR : Tok
  c_MOST_DENOMINATOR : mg "MOST_DENOMINATOR" = some (.int 5000 t_MOST_DENOMINATOR)
  t_LAST_PLACE : Tok
  c_LAST_PLACE : mg "LAST_PLACE" = some (.int 1000000000000000000000000000000 t_LAST_PLACE)
  t_MOST_TIMES : Tok
  c_MOST_TIMES : mg "MOST_TIMES" = some (.int 1000000000000000000000000000000 t_MOST_TIMES)
section
variable {P : Program} {w : World} {K : PySem.W.Frag} {mg : Str → Option Value} {base : Heap}

def BN (b n : Nat) : Prop := 2 ≤ b ∧ b ≤ 1000 ∧ 1 ≤ n ∧ n ≤ 5000
def sp_is_integer : Sp := fun vs H Q _ => ∃ i : Int, vs = [.int i] ∧ Q (.bl true) H
def sp_is_within : Sp := fun vs H Q _ => ∃ i lo hi : Int, vs = [.int i, .int lo, .int hi] ∧ (lo ≤ i ∧ i ≤ hi) ∧ Q (.bl true) H
def sp_need_base : Sp := fun vs H Q _ => ∃ i : Int, vs = [.int i] ∧ (2 ≤ i ∧ i ≤ 1000) ∧ Q (.int i) H
def sp_need_denominator : Sp := fun vs H Q _ => ∃ i : Int, vs = [.int i] ∧ (1 ≤ i ∧ i ≤ 5000) ∧ Q (.int i) H
def sp_need_fraction : Sp := fun vs H Q _ => ∃ (a : Addr) (x n : Nat), vs = [.ref a] ∧ H a = some (.tup [.int x, .int n]) ∧ (x < n ∧ n ≤ 5000 ∧ Nat.gcd x n = 1) ∧ Q (.ref a) H
def sp_pure_part : Sp := fun vs H Q _ => ∃ b n : Nat, vs = [.int b, .int n] ∧ BN b n ∧ ∀ p : Nat, IsPure b n p → Q (.int p) H
def sp_period : Sp := fun vs H Q _ => ∃ b n : Nat, vs = [.int b, .int n] ∧ BN b n ∧ ∀ p d : Nat, IsPure b n p → IsPer b p d → Q (.int d) H
def sp_head_size : Sp := fun vs H Q _ => ∃ b n : Nat, vs = [.int b, .int n] ∧ BN b n ∧ ∀ p q h : Nat, IsPure b n p → n = p * q → IsHead b q h → Q (.int h) H
theorem ok_is_integer (T : Txt K mg) : FnOk P w K mg base CX0 1 T.d_is_integer.f T.d_is_integer.fd ["value"] sp_is_integer := by
  refine T.d_is_integer.F.ok sc_is_integer (fun vs H Q E h => ?_) (fun cdv A outer s H vs Q E hr h => ?_)
  · obtain ⟨i, rfl, _⟩ := h; rfl
  · have hu := hu_of hr
    refine ⟨_, (pss_one (ps_ret (pe_and (pe_callB (r := rIs K) call_is (by rfl) T.b_isinstance (by decide +kernel) (pa_cons (pv 0) (pa_cons (pe_bltn (v := .ty "int") (by rfl) T.b_int (by decide +kernel) rfl) pa_nil))) (pe_one (pe_not (pe_callB (r := rIs K) call_is (by rfl) T.b_isinstance (by decide +kernel) (pa_cons (pv 0) (pa_cons (pe_bltn (v := .ty "bool") (by rfl) T.b_bool (by decide +kernel) rfl) pa_nil)))))))), ?_⟩
    obtain ⟨i, rfl, q⟩ := h
    walk_at "vc"
    refine ⟨"int", ty_int, by decide, by decide, iteT ⟨"int", ty_int, by decide, by decide, q⟩⟩
theorem ok_is_within (T : Txt K mg) : FnOk P w K mg base CX0 2 T.d_is_within.f T.d_is_within.fd ["value", "low", "high"] sp_is_within := by
  refine T.d_is_within.F.ok sc_is_within (fun vs H Q E h => ?_) (fun cdv A outer s H vs Q E hr h => ?_)
  · obtain ⟨i, lo, hi, rfl, _⟩ := h; rfl
  · have hu := hu_of hr
    refine ⟨_, (pss_one (ps_ret (pe_and (pe_call (ok_is_integer T) (hr.mono (by decide)) (by rfl) T.d_is_integer.m T.d_is_integer.F.kp T.d_is_integer.b .nil pass0 (pa_cons (pv 0) pa_nil)) (pe_one (pe_chain op_le op_le (pv 1) (pv 0) (pv 2)))))), ?_⟩
    obtain ⟨i, lo, hi, rfl, ⟨h1, h2⟩, q⟩ := h
    refine ⟨_, rfl, i, rfl, true, rfl, iteT ?_⟩
    walk_at "vc"
    rw [if_pos h1, decide_eq_true h2]
    exact q
theorem ok_need_base (T : Txt K mg) : FnOk P w K mg base CX0 3 T.d_need_base.f T.d_need_base.fd ["value"] sp_need_base := by
  refine T.d_need_base.F.ok sc_need_base (fun vs H Q E h => ?_) (fun cdv A outer s H vs Q E hr h => ?_)
  · obtain ⟨i, rfl, _⟩ := h; rfl
  · have hu := hu_of hr
    refine ⟨_, (pss_cons (ps_if (pt_not (pt_val (pe_call (ok_is_within T) (hr.mono (by decide)) (by rfl) T.d_is_within.m T.d_is_within.F.kp T.d_is_within.b .nil pass0 (pa_cons (pv 0) (pa_cons pe_int (pa_cons (pe_glob (v := .int 1000) (by rfl) T.c_MOST_BASE ⟨_, rfl⟩) pa_nil)))))) (pss_one ps_never) pss_nil)
      (pss_one (ps_ret (pv 0)))), ?_⟩
    obtain ⟨i, rfl, ⟨h1, h2⟩, q⟩ := h
    refine ⟨_, rfl, i, _, _, rfl, ⟨h1, h2⟩, true, rfl, iteF ?_⟩
    exact ⟨_, rfl, q⟩
theorem ok_need_denominator (T : Txt K mg) : FnOk P w K mg base CX0 3 T.d_need_denominator.f T.d_need_denominator.fd ["value"] sp_need_denominator := by
  refine T.d_need_denominator.F.ok sc_need_denominator (fun vs H Q E h => ?_) (fun cdv A outer s H vs Q E hr h => ?_)
  · obtain ⟨i, rfl, _⟩ := h; rfl
  · have hu := hu_of hr
    refine ⟨_, (pss_cons (ps_if (pt_not (pt_val (pe_call (ok_is_within T) (hr.mono (by decide)) (by rfl) T.d_is_within.m T.d_is_within.F.kp T.d_is_within.b .nil pass0 (pa_cons (pv 0) (pa_cons pe_int (pa_cons (pe_glob (v := .int 5000) (by rfl) T.c_MOST_DENOMINATOR ⟨_, rfl⟩) pa_nil)))))) (pss_one ps_never) pss_nil)
      (pss_one (ps_ret (pv 0)))), ?_⟩
    obtain ⟨i, rfl, ⟨h1, h2⟩, q⟩ := h
    refine ⟨_, rfl, i, _, _, rfl, ⟨h1, h2⟩, true, rfl, iteF ?_⟩
    exact ⟨_, rfl, q⟩
theorem ok_need_fraction (T : Txt K mg) : FnOk P w K mg base CX0 3 T.d_need_fraction.f T.d_need_fraction.fd ["value"] sp_need_fraction := by
  refine T.d_need_fraction.F.ok sc_need_fraction (fun vs H Q E h => ?_) (fun cdv A outer s H vs Q E hr h => ?_)
  · obtain ⟨a, x, n, rfl, _⟩ := h; rfl
  · have hu := hu_of hr
    refine ⟨_, (pss_cons (ps_if (PW.pt (pw_or (pt_not (pt_val (pe_callB (r := rIs K) call_is (by rfl) T.b_isinstance (by decide +kernel) (pa_cons (pv 0) (pa_cons (pe_bltn (v := .ty "tuple") (by rfl) T.b_tuple (by decide +kernel) rfl) pa_nil))))) (pw_or1 (pt_cmpR op_ne (pe_callB (r := rLn K) call_ln (by rfl) T.b_len PySem.boot_len (pa_cons (pv 0) pa_nil)) pe_int (nomark _))))) (pss_one ps_never) pss_nil)
      (pss_cons (ps_asg (pv 0) (pg_tup (by rfl) (pgs_cons (pg_name (i := 1) sc_need_fraction.nd rfl (by first | exact .inl rfl | exact .inr rfl)) (pgs_cons (pg_name (i := 2) sc_need_fraction.nd rfl (by first | exact .inl rfl | exact .inr rfl)) pgs_nil))))
      (pss_cons (ps_if (PW.pt (pw_or (pt_not (pt_val (pe_call (ok_is_within T) (hr.mono (by decide)) (by rfl) T.d_is_within.m T.d_is_within.F.kp T.d_is_within.b .nil pass0 (pa_cons (pv 2) (pa_cons pe_int (pa_cons (pe_glob (v := .int 5000) (by rfl) T.c_MOST_DENOMINATOR ⟨_, rfl⟩) pa_nil)))))) (pw_or1 (pt_not (pt_val (pe_call (ok_is_within T) (hr.mono (by decide)) (by rfl) T.d_is_within.m T.d_is_within.F.kp T.d_is_within.b .nil pass0 (pa_cons (pv 1) (pa_cons pe_int (pa_cons (pe_op op_sub (pv 2) pe_int) pa_nil))))))))) (pss_one ps_never) pss_nil)
      (pss_cons (ps_if (pt_cmpR op_ne (pe_callBfun cr_gcd (by rfl) T.b_gcd (pa_cons (pv 1) (pa_cons (pv 2) pa_nil))) pe_int (nomark _)) (pss_one ps_never) pss_nil)
      (pss_one (ps_ret (pv 0))))))), ?_⟩
    obtain ⟨a, x, n, rfl, ha, ⟨h1, h2, h3⟩, q⟩ := h
    refine ⟨_, rfl, _, "tuple", rfl, "tuple", ⟨ty_tup ha, by decide, by decide⟩, true, rfl, ?_⟩
    refine iteF ⟨_, rfl, a, _, rfl, .inr (sq_tup ha), rfl, _, rfl, ?_⟩
    refine iteF ?_
    refine ⟨_, rfl, a, _, rfl, sq_tup ha, rfl, _, _, rfl, _, _, rfl, rfl, ?_⟩
    refine ⟨_, rfl, n, _, _, rfl, ⟨by omega, by omega⟩, true, rfl, iteF ?_⟩
    refine ⟨_, rfl, _, rfl, n, 1, rfl, rfl, x, _, _, rfl, ⟨by omega, by omega⟩, true, rfl, iteF ?_⟩
    refine ⟨_, rfl, _, rfl, x, n, rfl, rfl, _, rfl, ?_⟩
    have e : (!decide (V.int ((Nat.gcd (x : Int).natAbs (n : Int).natAbs : Nat) : Int) = V.int 1)) = false := by
      rw [Int.natAbs_natCast, Int.natAbs_natCast, h3]
      rfl
    rw [e]
    exact iteF ⟨_, rfl, q⟩

/-- the digits of a division that has come to x: so many of them -/
def dgs (b n x c : Nat) : List V := (List.range c).map fun i => V.int ((rem b n x i * b / n : Nat) : Int)
def sp_divided : Sp := fun vs H Q _ => ∃ b x n c : Nat, vs = [.int b, .int x, .int n, .int c] ∧ (BN b n ∧ x < n ∧ c ≤ 10000) ∧ ∀ t H', Gr [] H H' → H' t = some (.tup (dgs b n x c)) → Q (.ref t) H'

def dgf (b n x lo c : Nat) : List V := (List.range c).map fun i => V.int ((rem b n x (lo + i) * b / n : Nat) : Int)
structure Exp (H : Hp) (r : Addr) (b x n h L : Nat) : Prop where
  at_ : ∃ a c, H r = some (.tup [.ref a, .ref c]) ∧ H a = some (.tup (dgf b n x 0 h)) ∧ H c = some (.tup (dgf b n x h L))
def sp_expansion : Sp := fun vs H Q _ => ∃ (b x n : Nat) (a : Addr), vs = [.int b, .ref a] ∧ H a = some (.tup [.int x, .int n]) ∧ (BN b n ∧ x < n ∧ Nat.gcd x n = 1) ∧
  ∀ p q h L t H', IsPure b n p → n = p * q → IsHead b q h → IsPer b p L → Gr [] H H' → Exp H' t b x n h L → Q (.ref t) H'

/-! the state of the draws -/
def mkv (c : Addr) (l s : Int) : List (Key × V) := [(Sum.inr "cells", .ref c), (Sum.inr "left", .int l), (Sum.inr "spot", .int s)]
theorem k_cl : ¬ (("cells" : Str) = "left") := by decide +kernel
theorem k_cs : ¬ (("cells" : Str) = "spot") := by decide +kernel
theorem k_ls : ¬ (("left" : Str) = "spot") := by decide +kernel
theorem k_sl : ¬ (("spot" : Str) = "left") := by decide +kernel
theorem k_lc : ¬ (("left" : Str) = "cells") := by decide +kernel
theorem k_sc : ¬ (("spot" : Str) = "cells") := by decide +kernel
theorem mv_c (c : Addr) (l s : Int) : valV (mkv c l s) (Sum.inr "cells" : Key) = some (.ref c) := by
  unfold mkv
  rw [valV_pos rfl]
theorem mv_l (c : Addr) (l s : Int) : valV (mkv c l s) (Sum.inr "left" : Key) = some (.int l) := by
  unfold mkv
  rw [valV_neg (by intro z; exact k_cl (Sum.inr.inj z)), valV_pos rfl]
theorem mv_s (c : Addr) (l s : Int) : valV (mkv c l s) (Sum.inr "spot" : Key) = some (.int s) := by
  unfold mkv
  rw [valV_neg (by intro z; exact k_cs (Sum.inr.inj z)), valV_neg (by intro z; exact k_ls (Sum.inr.inj z)), valV_pos rfl]
theorem mp_l (c : Addr) (l s l' : Int) : putK (mkv c l s) (Sum.inr "left" : Key) (.int l') = mkv c l' s := by
  unfold mkv putK
  simp [k_cl, k_sl]
theorem mp_s (c : Addr) (l s s' : Int) : putK (mkv c l s) (Sum.inr "spot" : Key) (.int s') = mkv c l s' := by
  unfold mkv putK
  simp [k_cs, k_ls]
theorem mm (c : Addr) (l s : Int) : mergeK [] (mkv c l s) = mkv c l s := by
  unfold mkv mergeK putK
  simp [k_cs, k_ls, k_cl]
theorem dg_c {H : Hp} {d c : Addr} {l s : Int} (h : H d = some (.dK (mkv c l s))) : DGet H d (.str "cells") (some (.ref c)) := by
  rw [← mv_c c l s]
  exact DGet.k (k := Sum.inr "cells") h
theorem dg_l {H : Hp} {d c : Addr} {l s : Int} (h : H d = some (.dK (mkv c l s))) : DGet H d (.str "left") (some (.int l)) := by
  rw [← mv_l c l s]
  exact DGet.k (k := Sum.inr "left") h
theorem dg_s {H : Hp} {d c : Addr} {l s : Int} (h : H d = some (.dK (mkv c l s))) : DGet H d (.str "spot") (some (.int s)) := by
  rw [← mv_s c l s]
  exact DGet.k (k := Sum.inr "spot") h
theorem dp_l {H : Hp} {d c : Addr} {l s l' : Int} (h : H d = some (.dK (mkv c l s))) : DPut H d (.str "left") (.int l') (upd H d (.dK (mkv c l' s))) := by
  rw [← mp_l c l s l']
  exact DPut.k (k := Sum.inr "left") h (by show 3 < sizeLine; decide)
theorem dp_s {H : Hp} {d c : Addr} {l s s' : Int} (h : H d = some (.dK (mkv c l s))) : DPut H d (.str "spot") (.int s') (upd H d (.dK (mkv c l s'))) := by
  rw [← mp_s c l s s']
  exact DPut.k (k := Sum.inr "spot") h (by show 3 < sizeLine; decide)
def MOk (H : Hp) (d : Addr) (n : Nat) : Prop := ∃ (c : Addr) (xs : List Int) (l s : Int), H d = some (.dK (mkv c l s)) ∧ H c = some (.lst (xs.map V.int)) ∧ xs ≠ [] ∧ 0 ≤ s ∧ s ≤ (n : Int)
theorem MOk.gr {H H' : Hp} {d : Addr} {n : Nat} (h : MOk H d n) (g : Gr [] H H') : MOk H' d n := by
  obtain ⟨c, xs, l, s, h1, h2, h3⟩ := h
  exact ⟨c, xs, l, s, g d _ (by simp) h1, g c _ (by simp) h2, h3⟩
theorem MOk.mono {H : Hp} {d : Addr} {n n' : Nat} (h : MOk H d n) (g : n ≤ n') : MOk H d n' := by
  obtain ⟨c, xs, l, s, h1, h2, h3, h4, h5⟩ := h
  exact ⟨c, xs, l, s, h1, h2, h3, h4, by omega⟩
theorem MOk.ne {H : Hp} {d a : Addr} {n : Nat} {o : HO} (h : MOk H d n) (e : H a = some o) (k : ∀ kvs, o ≠ .dK kvs) : a ∉ [d] := by
  obtain ⟨c, xs, l, s, h1, _⟩ := h
  intro z
  rw [List.mem_singleton] at z
  subst z
  rw [h1] at e
  exact k _ (Option.some.inj e).symm
/-! what draws leave as it was: lists, tuples -/
theorem MOk.lst {H H' : Hp} {d a : Addr} {n : Nat} {xs : List V} (h : MOk H d n) (g : Gr [d] H H') (e : H a = some (.lst xs)) : H' a = some (.lst xs) := g a _ (h.ne e (fun _ z => by cases z)) e
theorem MOk.tup {H H' : Hp} {d a : Addr} {n : Nat} {xs : List V} (h : MOk H d n) (g : Gr [d] H H') (e : H a = some (.tup xs)) : H' a = some (.tup xs) := g a _ (h.ne e (fun _ z => by cases z)) e
def sp_law_draw : Sp := fun vs H Q _ => ∃ (d : Addr) (lim n : Nat), vs = [.ref d, .int lim] ∧ MOk H d n ∧ (1 ≤ lim ∧ lim ≤ 1000000000 ∧ n ≤ 1000000000000) ∧
  ∀ (r : Nat) H', r < lim → Gr [d] H H' → MOk H' d (n + 1) → Q (.int r) H'
theorem imod_nat (x : Int) (lim : Nat) (h : 1 ≤ lim) : ∃ r : Nat, x % (lim : Int) = (r : Int) ∧ r < lim := by
  have h1 := Int.emod_nonneg x (show (lim : Int) ≠ 0 by omega)
  have h2 := Int.emod_lt_of_pos x (show (0 : Int) < (lim : Int) by omega)
  exact ⟨(x % (lim : Int)).toNat, by omega, by omega⟩
theorem ok_law_draw (T : Txt K mg) : FnOk P w K mg base CX0 1 T.d_law_draw.f T.d_law_draw.fd ["m", "limit"] sp_law_draw := by
  refine T.d_law_draw.F.ok sc_law_draw (fun vs H Q E h => ?_) (fun cdv A outer s H vs Q E hr h => ?_)
  · obtain ⟨d, lim, n, rfl, _⟩ := h; rfl
  · have hu := hu_of hr
    refine ⟨_, (pss_cons (ps_if (pt_cmpR op_gt (pe_dget hu (pv 0) pe_str (fun _ _ => rfl)) pe_int (nomark _)) (pss_cons (ps_set (i := 2) sc_law_draw.nd rfl (by first | exact .inl rfl | exact .inr rfl) (pe_op op_mod (pe_callTy call_int1 (by rfl) T.b_int (by decide +kernel) (pa_cons (pe_dget hu (pv 0) pe_str (fun _ _ => rfl)) pa_nil)) (pv 1)))
      (pss_cons (ps_dput hu (pv 0) pe_str (pe_op op_fdiv (pe_dget hu (pv 0) pe_str (fun _ _ => rfl)) (pv 1)) rfl)
      (pss_one (ps_ret (pv 2))))) pss_nil)
      (pss_cons (ps_set (i := 3) sc_law_draw.nd rfl (by first | exact .inl rfl | exact .inr rfl) (pe_op op_add (pe_dget hu (pv 0) pe_str (fun _ _ => rfl)) pe_int))
      (pss_cons (ps_dput hu (pv 0) pe_str (pv 3) rfl)
      (pss_cons (ps_set (i := 4) sc_law_draw.nd rfl (by first | exact .inl rfl | exact .inr rfl) (pe_ix (r := rIxL K) ix_list (pe_dget hu (pv 0) pe_str (fun _ _ => rfl)) (pe_op op_mod (pe_callTy call_int1 (by rfl) T.b_int (by decide +kernel) (pa_cons (pv 3) pa_nil)) (pe_callB (r := rLn K) call_ln (by rfl) T.b_len PySem.boot_len (pa_cons (pe_dget hu (pv 0) pe_str (fun _ _ => rfl)) pa_nil))) (fun _ _ => rfl)))
      (pss_cons (ps_set (i := 5) sc_law_draw.nd rfl (by first | exact .inl rfl | exact .inr rfl) (pe_op op_mul (pe_callTy call_int1 (by rfl) T.b_int (by decide +kernel) (pa_cons (pe_op op_add (pe_op op_add (pe_op op_mod (pe_callTy call_int1 (by rfl) T.b_int (by decide +kernel) (pa_cons (pv 4) pa_nil)) pe_int) (pe_op op_mul pe_int (pv 3))) (pe_op op_mul (pe_op op_mul pe_int (pv 3)) (pv 3))) pa_nil)) pe_int))
      (pss_cons (ps_set (i := 5) sc_law_draw.nd rfl (by first | exact .inl rfl | exact .inr rfl) (pe_op op_mul (pe_callTy call_int1 (by rfl) T.b_int (by decide +kernel) (pa_cons (pe_op op_add (pe_op op_mod (pe_callTy call_int1 (by rfl) T.b_int (by decide +kernel) (pa_cons (pv 5) pa_nil)) pe_int) (pe_op op_mul pe_int (pv 3))) pa_nil)) pe_int))
      (pss_one (ps_ret (pe_op op_mod (pe_callTy call_int1 (by rfl) T.b_int (by decide +kernel) (pa_cons (pe_op op_fdiv (pe_op op_mod (pe_callTy call_int1 (by rfl) T.b_int (by decide +kernel) (pa_cons (pv 5) pa_nil)) pe_int) pe_int) pa_nil)) (pv 1)))))))))), ?_⟩
    obtain ⟨d, lim, n, rfl, ⟨c, xs, l, z, hd, hc, hx, hz0, hzn⟩, ⟨h1, h2, h3⟩, q⟩ := h
    have hdc : d ≠ c := ne_of hd hc (by intro q; cases q)
    refine ⟨_, rfl, d, _, rfl, dg_l hd, l, 0, rfl, rfl, _, rfl, ?_⟩
    have hl0 : (0 : Int) < (lim : Int) := by omega
    by_cases hl : (0 : Int) < l
    · rw [decide_eq_true hl]
      refine iteT ⟨_, rfl, d, _, rfl, dg_l hd, .inl ⟨l, rfl, _, rfl, l, lim, rfl, rfl, hl0, ?_⟩⟩
      obtain ⟨r, er, hr1⟩ := imod_nat l lim h1
      dsimp only
      rw [er]
      refine ⟨_, rfl, d, _, rfl, dg_l hd, _, rfl, l, lim, rfl, rfl, ⟨hl0, by omega⟩, _, rfl, d, _, rfl, dp_l hd, _, rfl, ?_⟩
      refine q r _ hr1 (Gr.wr (by simp)) ⟨c, xs, l / lim, z, upd_same, ?_, hx, hz0, by omega⟩
      rw [upd_ne hdc.symm]
      exact hc
    · rw [decide_eq_false hl]
      refine iteF ?_
      refine ⟨_, rfl, d, _, rfl, dg_s hd, z, 1, rfl, rfl, ?_⟩
      refine ⟨_, rfl, _, rfl, d, _, rfl, dp_s hd, ?_⟩
      have hd' : (upd H d (.dK (mkv c l (z + 1)))) d = some (.dK (mkv c l (z + 1))) := upd_same
      have hc' : (upd H d (.dK (mkv c l (z + 1)))) c = some (.lst (xs.map V.int)) := by
        rw [upd_ne hdc.symm]
        exact hc
      have hxl : 1 ≤ xs.length := by
        cases xs with
        | nil => exact absurd rfl hx
        | cons x r => simp
      refine ⟨_, rfl, d, _, rfl, dg_c hd', _, rfl, .inl ⟨z + 1, rfl, _, rfl, d, _, rfl, dg_c hd', c, _, rfl, .inl (sq_lst hc'), _, _, rfl, rfl, ?_, ?_⟩⟩
      · rw [List.length_map]
        omega
      rw [List.length_map]
      obtain ⟨j, ej, hj⟩ := imod_nat (z + 1) xs.length hxl
      dsimp only
      refine ⟨c, _, _, .int xs[j], rfl, rfl, sq_lst hc', ?_, ?_⟩
      · rw [ej]
        refine atI_nat ?_
        rw [List.getElem?_map, List.getElem?_eq_getElem hj]
        rfl
      refine ⟨_, rfl, .inl ⟨_, rfl, _, _, rfl, rfl, (by show (0 : Int) < 2147483629; decide), _, rfl, _, _, rfl, rfl, .inl ⟨by decide, by decide⟩, _, _, rfl, rfl, _, rfl, _, _, rfl, rfl, .inl ⟨by decide, by decide⟩, _, rfl, _, _, rfl, rfl, .inr ⟨by omega, by omega⟩, _, _, rfl, rfl, ?_⟩⟩
      refine .inl ⟨_, rfl, _, _, rfl, rfl, .inr ⟨by decide, by decide⟩, ?_⟩
      refine ⟨_, rfl, .inl ⟨_, rfl, _, _, rfl, rfl, (by show (0 : Int) < 2147483647; decide), _, rfl, _, _, rfl, rfl, .inl ⟨by decide, by decide⟩, _, _, rfl, rfl, ?_⟩⟩
      refine .inl ⟨_, rfl, _, _, rfl, rfl, .inr ⟨by decide, by decide⟩, ?_⟩
      refine ⟨_, rfl, .inl ⟨_, rfl, _, _, rfl, rfl, (by show (0 : Int) < 2147483587; decide), _, _, rfl, rfl, ⟨by decide, by decide⟩, ?_⟩⟩
      refine .inl ⟨_, rfl, _, rfl, _, _, rfl, rfl, hl0, ?_⟩
      dsimp only
      obtain ⟨r, er, hr1⟩ := imod_nat _ lim h1
      rw [er]
      exact q r _ hr1 (Gr.wr (by simp)) ⟨c, xs, l, z + 1, hd', hc', hx, by omega, by omega⟩

def sp_law_of (K : PySem.W.Frag) : Sp := fun vs H Q _ => ∃ (d a : Addr) (n : Nat) (xs : List V), vs = [.ref d, .ref a] ∧ MOk H d n ∧ H a = some (.lst xs) ∧ (xs ≠ [] ∧ xs.length ≤ 100000 ∧ n ≤ 1000000000000) ∧
  ∀ v H', v ∈ xs → Gr [d] H H' → MOk H' d (n + 1) → Q v H'
theorem ok_law_of (T : Txt K mg) : FnOk P w K mg base CX0 2 T.d_law_of.f T.d_law_of.fd ["m", "some"] (sp_law_of K) := by
  refine T.d_law_of.F.ok sc_law_of (fun vs H Q E h => ?_) (fun cdv A outer s H vs Q E hr h => ?_)
  · obtain ⟨d, a, n, xs, rfl, _⟩ := h; rfl
  · have hu := hu_of hr
    refine ⟨_, (pss_one (ps_ret (pe_ix (r := rIxL K) ix_list (pv 1) (pe_call (ok_law_draw T) (hr.mono (by decide)) (by rfl) T.d_law_draw.m T.d_law_draw.F.kp T.d_law_draw.b .nil pass0 (pa_cons (pv 0) (pa_cons (pe_callB (r := rLn K) call_ln (by rfl) T.b_len PySem.boot_len (pa_cons (pv 1) pa_nil)) pa_nil))) (fun _ _ => rfl)))), ?_⟩
    obtain ⟨d, a, n, xs, rfl, M, ha, ⟨h1, h2, h3⟩, q⟩ := h
    have hl : 1 ≤ xs.length := by
      cases xs with
      | nil => exact absurd rfl h1
      | cons x r => simp
    refine ⟨_, rfl, _, rfl, _, rfl, a, _, rfl, .inl (sq_lst ha), ?_⟩
    refine ⟨d, xs.length, n, rfl, M, ⟨hl, by omega, h3⟩, fun r H' hr g M' => ?_⟩
    have ha' := M.lst g ha
    exact ⟨a, xs, r, xs[r], rfl, rfl, sq_lst ha', atI_nat (by rw [List.getElem?_eq_getElem hr]), q _ _ (List.getElem_mem _) g M'⟩

def sp_law_divisor : Sp := fun vs H Q _ => ∃ a c : Nat, vs = [.int a, .int c] ∧ Q (.int (Nat.gcd a c : Nat)) H
theorem ok_law_divisor (T : Txt K mg) : FnOk P w K mg base CX0 1 T.d_law_divisor.f T.d_law_divisor.fd ["one", "other"] sp_law_divisor := by
  refine T.d_law_divisor.F.ok sc_law_divisor (fun vs H Q E h => ?_) (fun cdv A outer s H vs Q E hr h => ?_)
  · obtain ⟨a, c, rfl, _⟩ := h; rfl
  · have hu := hu_of hr
    refine ⟨_, (pss_cons (ps_while PassesOwn.never (pt_cmpR op_gt (pv 1) pe_int (nomark _)) (pss_one (ps_par (i := 0) (j := 1) (by rfl) sc_law_divisor.nd rfl rfl (by decide) rfl rfl (pa_cons (pv 1) (pa_cons (pe_op op_mod (pv 0) (pv 1)) pa_nil)) (by rfl))))
      (pss_one (ps_ret (pv 0)))), ?_⟩
    obtain ⟨a, c, rfl, q⟩ := h
    refine ⟨fun m σ H' => H' = H ∧ ∃ u : Nat, σ = [some (.int u), some (.int m)] ∧ Nat.gcd u m = Nat.gcd a c, ⟨c, rfl, a, rfl, rfl⟩, ?_⟩
    rintro m σ H' ⟨rfl, u, rfl, e⟩
    refine ⟨_, rfl, _, _, rfl, rfl, _, rfl, ?_⟩
    by_cases hc : (0 : Int) < (m : Int)
    · rw [decide_eq_true hc]
      refine iteT ⟨fun σ' H2 => H2 = H' ∧ σ' = [some (.int m), some (.int (u % m : Nat))], ?_, ?_⟩
      · rintro σ' H2 ⟨rfl, rfl⟩
        refine ⟨u % m, Nat.mod_lt _ (by omega), rfl, m, rfl, ?_⟩
        rw [← e, Nat.gcd_comm m, ← Nat.gcd_rec, Nat.gcd_comm]
      · refine ⟨_, rfl, _, rfl, _, rfl, _, _, rfl, rfl, hc, ?_⟩
        exact ⟨_, _, rfl, rfl, by dsimp only; rw [← Int.natCast_emod]; rfl⟩
    · rw [decide_eq_false hc]
      refine iteF ⟨_, rfl, ?_⟩
      have z : m = 0 := by omega
      subst z
      rw [← e, Nat.gcd_zero_right]  at q
      exact q

def sp_law_base (lo hi : Nat) : Sp := fun vs H Q _ => ∃ (d : Addr) (n : Nat), vs = [.ref d] ∧ MOk H d n ∧ n ≤ 1000000000 ∧ ∀ (b : Nat) H', 2 ≤ b → b ≤ 1000 → Gr [d] H H' → MOk H' d (n + 3) → Q (.int b) H'
theorem ok_law_base (T : Txt K mg) : FnOk P w K mg base CX0 3 T.d_law_base.f T.d_law_base.fd ["m"] (sp_law_base 2 1000) := by
  refine T.d_law_base.F.ok sc_law_base (fun vs H Q E h => ?_) (fun cdv A outer s H vs Q E hr h => ?_)
  · obtain ⟨d, n, rfl, _⟩ := h; rfl
  · have hu := hu_of hr
    refine ⟨_, (pss_one (ps_ret (pe_call (ok_law_of T) (hr.mono (by decide)) (by rfl) T.d_law_of.m T.d_law_of.F.kp T.d_law_of.b .nil pass0 (pa_cons (pv 0) (pa_cons (pe_lst (pa_cons pe_int (pa_cons pe_int (pa_cons pe_int (pa_cons pe_int (pa_cons pe_int (pa_cons (pe_op op_add pe_int (pe_call (ok_law_draw T) (hr.mono (by decide)) (by rfl) T.d_law_draw.m T.d_law_draw.F.kp T.d_law_draw.b .nil pass0 (pa_cons (pv 0) (pa_cons pe_int pa_nil)))) (pa_cons (pe_op op_add pe_int (pe_call (ok_law_draw T) (hr.mono (by decide)) (by rfl) T.d_law_draw.m T.d_law_draw.F.kp T.d_law_draw.b .nil pass0 (pa_cons (pv 0) (pa_cons pe_int pa_nil)))) pa_nil)))))))) pa_nil))))), ?_⟩
    obtain ⟨d, n, rfl, M, h1, q⟩ := h
    refine ⟨_, rfl, _, rfl, d, 30, n, rfl, M, ⟨by omega, by omega, by omega⟩, fun r1 H1 hr1 g1 M1 => ?_⟩
    refine ⟨_, _, rfl, rfl, _, rfl, d, 999, n + 1, rfl, M1, ⟨by omega, by omega, by omega⟩, fun r2 H2 hr2 g2 M2 => ?_⟩
    refine ⟨_, _, rfl, rfl, by show 7 ≤ sizeLine; decide, fun p np => ?_⟩
    refine ⟨d, p, n + 2, _, rfl, M2.gr (Gr.new np), upd_same, ⟨by simp, by show 7 ≤ 100000; decide, by omega⟩, fun v H' hv g M' => ?_⟩
    have hg : Gr [d] H H' := (g1.trans g2).trans ((Gr.new np).trans g)
    have fin : ∀ b : Nat, v = .int b → 2 ≤ b → b ≤ 1000 → Q v H' := fun b e h2 h3 => by
      rw [e]
      exact q b H' h2 h3 hg M'
    simp only [List.mem_cons, List.not_mem_nil, or_false] at hv
    rcases hv with e | e | e | e | e | e | e
    · exact fin 2 e (by omega) (by omega)
    · exact fin 3 e (by omega) (by omega)
    · exact fin 10 e (by omega) (by omega)
    · exact fin 10 e (by omega) (by omega)
    · exact fin 12 e (by omega) (by omega)
    · exact fin (2 + r1) (by rw [e]; rfl) (by omega) (by omega)
    · exact fin (2 + r2) (by rw [e]; rfl) (by omega) (by omega)

def sp_law_part : Sp := fun vs H Q _ => ∃ (d : Addr) (most n : Nat), vs = [.ref d, .int most] ∧ MOk H d n ∧ (1 ≤ most ∧ most ≤ 5000 ∧ n ≤ 1000000000) ∧
  ∀ (a : Addr) (x k : Nat) H', H' a = some (.tup [.int x, .int k]) → x < k → k ≤ most → Nat.gcd x k = 1 → Gr [d] H H' → MOk H' d (n + 2) → Q (.ref a) H'
theorem ok_law_part (T : Txt K mg) : FnOk P w K mg base CX0 2 T.d_law_part.f T.d_law_part.fd ["m", "most"] sp_law_part := by
  refine T.d_law_part.F.ok sc_law_part (fun vs H Q E h => ?_) (fun cdv A outer s H vs Q E hr h => ?_)
  · obtain ⟨d, most, n, rfl, _⟩ := h; rfl
  · have hu := hu_of hr
    refine ⟨_, (pss_cons (ps_set (i := 2) sc_law_part.nd rfl (by first | exact .inl rfl | exact .inr rfl) (pe_op op_add pe_int (pe_call (ok_law_draw T) (hr.mono (by decide)) (by rfl) T.d_law_draw.m T.d_law_draw.F.kp T.d_law_draw.b .nil pass0 (pa_cons (pv 0) (pa_cons (pv 1) pa_nil)))))
      (pss_cons (ps_set (i := 3) sc_law_part.nd rfl (by first | exact .inl rfl | exact .inr rfl) (pe_call (ok_law_draw T) (hr.mono (by decide)) (by rfl) T.d_law_draw.m T.d_law_draw.F.kp T.d_law_draw.b .nil pass0 (pa_cons (pv 0) (pa_cons (pv 2) pa_nil))))
      (pss_cons (ps_while PassesOwn.never (pt_cmpR op_ne (pe_call (ok_law_divisor T) (hr.mono (by decide)) (by rfl) T.d_law_divisor.m T.d_law_divisor.F.kp T.d_law_divisor.b .nil pass0 (pa_cons (pv 3) (pa_cons (pv 2) pa_nil))) pe_int (nomark _)) (pss_one (ps_set (i := 3) sc_law_part.nd rfl (by first | exact .inl rfl | exact .inr rfl) (pe_op op_mod (pe_callTy call_int1 (by rfl) T.b_int (by decide +kernel) (pa_cons (pe_op op_add (pv 3) pe_int) pa_nil)) (pv 2)))))
      (pss_one (ps_ret (pe_tup (pa_cons (pv 3) (pa_cons (pv 2) pa_nil)))))))), ?_⟩
    obtain ⟨d, most, n, rfl, M, ⟨h1, h2, h3⟩, q⟩ := h
    refine ⟨_, rfl, _, rfl, d, most, n, rfl, M, ⟨h1, by omega, by omega⟩, fun r1 H1 hr1 g1 M1 => ?_⟩
    refine ⟨1, r1, rfl, rfl, ?_⟩
    have e1 : (1 : Int) + (r1 : Int) = ((1 + r1 : Nat) : Int) := by omega
    dsimp only
    rw [e1]
    generalize hk : 1 + r1 = k
    refine ⟨_, rfl, _, rfl, d, k, n + 1, rfl, M1, ⟨by omega, by omega, by omega⟩, fun x H2 hx g2 M2 => ?_⟩
    refine ⟨fun m σ H' => H' = H2 ∧ ∃ y : Nat, m = k - y ∧ y < k ∧ σ = [some (.ref d), some (.int most), some (.int k), some (.int y)], ⟨k - x, rfl, x, rfl, hx, rfl⟩, ?_⟩
    rintro m σ H' ⟨rfl, y, rfl, hy, rfl⟩
    refine ⟨_, rfl, _, rfl, y, k, rfl, rfl, _, rfl, ?_⟩
    by_cases hc : Nat.gcd y k = 1
    · rw [show (!decide (V.int ((Nat.gcd y k : Nat) : Int) = V.int 1)) = false by rw [hc]; rfl]
      refine iteF ⟨_, rfl, _, rfl, by show 2 ≤ sizeLine; decide, fun t nt => ?_⟩
      exact q t y k _ upd_same hy (by omega) hc ((g1.trans g2).trans (Gr.new nt)) (M2.gr (Gr.new nt))
    · rw [show (!decide (V.int ((Nat.gcd y k : Nat) : Int) = V.int 1)) = true by rw [decide_eq_false (fun z => hc (by have := V.int.inj z; omega))]; rfl]
      have hyk : y + 1 < k := by
        rcases Nat.lt_or_eq_of_le (show y + 1 ≤ k from hy) with l | l
        · exact l
        · subst l
          exact absurd (by rw [Nat.gcd_comm, show Nat.gcd (y + 1) y = 1 by simp] ) hc
      refine iteT ⟨fun σ' H3 => H3 = H' ∧ σ' = [some (.ref d), some (.int most), some (.int k), some (.int (y + 1 : Nat))], ?_, ?_⟩
      · rintro σ' H3 ⟨rfl, rfl⟩
        exact ⟨k - (y + 1), by omega, rfl, y + 1, rfl, hyk, rfl⟩
      · refine ⟨_, rfl, _, _, rfl, rfl, .inl ⟨_, rfl, _, rfl, _, _, rfl, rfl, (show (0 : Int) < (k : Int) by omega), ?_⟩⟩
        dsimp only
        have e2 : ((y : Int) + 1) % (k : Int) = ((y + 1 : Nat) : Int) := by
          rw [show (y : Int) + 1 = ((y + 1 : Nat) : Int) by omega, ← Int.natCast_emod, Nat.mod_eq_of_lt hyk]
        rw [e2]
        exact ⟨rfl, rfl⟩

def MOkC (H : Hp) (d c : Addr) (n : Nat) : Prop := ∃ (xs : List Int) (l s : Int), H d = some (.dK (mkv c l s)) ∧ H c = some (.lst (xs.map V.int)) ∧ xs ≠ [] ∧ 0 ≤ s ∧ s ≤ (n : Int)
theorem MOkC.of {H : Hp} {d : Addr} {n : Nat} (h : MOk H d n) : ∃ c, MOkC H d c n := h
theorem MOkC.to {H : Hp} {d c : Addr} {n : Nat} (h : MOkC H d c n) : MOk H d n := ⟨c, h⟩
theorem MOkC.keep {H H' : Hp} {d c : Addr} {n : Nat} (h : MOkC H d c n) (hd : H' d = H d) (hc : H' c = H c) : MOkC H' d c n := by
  obtain ⟨xs, l, s, h1, h2, h3⟩ := h
  exact ⟨xs, l, s, hd.trans h1, hc.trans h2, h3⟩
theorem MOkC.gr {H H' : Hp} {d c : Addr} {n : Nat} (h : MOkC H d c n) (g : Gr [] H H') : MOkC H' d c n := by
  obtain ⟨xs, l, s, h1, h2, h3⟩ := h
  exact ⟨xs, l, s, g d _ (by simp) h1, g c _ (by simp) h2, h3⟩
def sp_law_drawC : Sp := fun vs H Q _ => ∃ (d c : Addr) (lim n : Nat), vs = [.ref d, .int lim] ∧ MOkC H d c n ∧ (1 ≤ lim ∧ lim ≤ 1000000000 ∧ n ≤ 1000000000000) ∧
  ∀ (r : Nat) H', r < lim → Gr [d] H H' → MOkC H' d c (n + 1) → Q (.int r) H'
theorem okC_law_draw (T : Txt K mg) : FnOk P w K mg base CX0 1 T.d_law_draw.f T.d_law_draw.fd ["m", "limit"] sp_law_drawC := by
  refine T.d_law_draw.F.ok sc_law_draw (fun vs H Q E h => ?_) (fun cdv A outer s H vs Q E hr h => ?_)
  · obtain ⟨d, c, lim, n, rfl, _⟩ := h; rfl
  · have hu := hu_of hr
    refine ⟨_, (pss_cons (ps_if (pt_cmpR op_gt (pe_dget hu (pv 0) pe_str (fun _ _ => rfl)) pe_int (nomark _)) (pss_cons (ps_set (i := 2) sc_law_draw.nd rfl (by first | exact .inl rfl | exact .inr rfl) (pe_op op_mod (pe_callTy call_int1 (by rfl) T.b_int (by decide +kernel) (pa_cons (pe_dget hu (pv 0) pe_str (fun _ _ => rfl)) pa_nil)) (pv 1)))
      (pss_cons (ps_dput hu (pv 0) pe_str (pe_op op_fdiv (pe_dget hu (pv 0) pe_str (fun _ _ => rfl)) (pv 1)) rfl)
      (pss_one (ps_ret (pv 2))))) pss_nil)
      (pss_cons (ps_set (i := 3) sc_law_draw.nd rfl (by first | exact .inl rfl | exact .inr rfl) (pe_op op_add (pe_dget hu (pv 0) pe_str (fun _ _ => rfl)) pe_int))
      (pss_cons (ps_dput hu (pv 0) pe_str (pv 3) rfl)
      (pss_cons (ps_set (i := 4) sc_law_draw.nd rfl (by first | exact .inl rfl | exact .inr rfl) (pe_ix (r := rIxL K) ix_list (pe_dget hu (pv 0) pe_str (fun _ _ => rfl)) (pe_op op_mod (pe_callTy call_int1 (by rfl) T.b_int (by decide +kernel) (pa_cons (pv 3) pa_nil)) (pe_callB (r := rLn K) call_ln (by rfl) T.b_len PySem.boot_len (pa_cons (pe_dget hu (pv 0) pe_str (fun _ _ => rfl)) pa_nil))) (fun _ _ => rfl)))
      (pss_cons (ps_set (i := 5) sc_law_draw.nd rfl (by first | exact .inl rfl | exact .inr rfl) (pe_op op_mul (pe_callTy call_int1 (by rfl) T.b_int (by decide +kernel) (pa_cons (pe_op op_add (pe_op op_add (pe_op op_mod (pe_callTy call_int1 (by rfl) T.b_int (by decide +kernel) (pa_cons (pv 4) pa_nil)) pe_int) (pe_op op_mul pe_int (pv 3))) (pe_op op_mul (pe_op op_mul pe_int (pv 3)) (pv 3))) pa_nil)) pe_int))
      (pss_cons (ps_set (i := 5) sc_law_draw.nd rfl (by first | exact .inl rfl | exact .inr rfl) (pe_op op_mul (pe_callTy call_int1 (by rfl) T.b_int (by decide +kernel) (pa_cons (pe_op op_add (pe_op op_mod (pe_callTy call_int1 (by rfl) T.b_int (by decide +kernel) (pa_cons (pv 5) pa_nil)) pe_int) (pe_op op_mul pe_int (pv 3))) pa_nil)) pe_int))
      (pss_one (ps_ret (pe_op op_mod (pe_callTy call_int1 (by rfl) T.b_int (by decide +kernel) (pa_cons (pe_op op_fdiv (pe_op op_mod (pe_callTy call_int1 (by rfl) T.b_int (by decide +kernel) (pa_cons (pv 5) pa_nil)) pe_int) pe_int) pa_nil)) (pv 1)))))))))), ?_⟩
    obtain ⟨d, c, lim, n, rfl, ⟨xs, l, z, hd, hc, hx, hz0, hzn⟩, ⟨h1, h2, h3⟩, q⟩ := h
    have hdc : d ≠ c := ne_of hd hc (by intro q; cases q)
    refine ⟨_, rfl, d, _, rfl, dg_l hd, l, 0, rfl, rfl, _, rfl, ?_⟩
    have hl0 : (0 : Int) < (lim : Int) := by omega
    by_cases hl : (0 : Int) < l
    · rw [decide_eq_true hl]
      refine iteT ⟨_, rfl, d, _, rfl, dg_l hd, .inl ⟨l, rfl, _, rfl, l, lim, rfl, rfl, hl0, ?_⟩⟩
      obtain ⟨r, er, hr1⟩ := imod_nat l lim h1
      dsimp only
      rw [er]
      refine ⟨_, rfl, d, _, rfl, dg_l hd, _, rfl, l, lim, rfl, rfl, ⟨hl0, by omega⟩, _, rfl, d, _, rfl, dp_l hd, _, rfl, ?_⟩
      refine q r _ hr1 (Gr.wr (by simp)) ⟨xs, l / lim, z, upd_same, ?_, hx, hz0, by omega⟩
      rw [upd_ne hdc.symm]
      exact hc
    · rw [decide_eq_false hl]
      refine iteF ?_
      refine ⟨_, rfl, d, _, rfl, dg_s hd, z, 1, rfl, rfl, ?_⟩
      refine ⟨_, rfl, _, rfl, d, _, rfl, dp_s hd, ?_⟩
      have hd' : (upd H d (.dK (mkv c l (z + 1)))) d = some (.dK (mkv c l (z + 1))) := upd_same
      have hc' : (upd H d (.dK (mkv c l (z + 1)))) c = some (.lst (xs.map V.int)) := by
        rw [upd_ne hdc.symm]
        exact hc
      have hxl : 1 ≤ xs.length := by
        cases xs with
        | nil => exact absurd rfl hx
        | cons x r => simp
      refine ⟨_, rfl, d, _, rfl, dg_c hd', _, rfl, .inl ⟨z + 1, rfl, _, rfl, d, _, rfl, dg_c hd', c, _, rfl, .inl (sq_lst hc'), _, _, rfl, rfl, ?_, ?_⟩⟩
      · rw [List.length_map]
        omega
      rw [List.length_map]
      obtain ⟨j, ej, hj⟩ := imod_nat (z + 1) xs.length hxl
      dsimp only
      refine ⟨c, _, _, .int xs[j], rfl, rfl, sq_lst hc', ?_, ?_⟩
      · rw [ej]
        refine atI_nat ?_
        rw [List.getElem?_map, List.getElem?_eq_getElem hj]
        rfl
      refine ⟨_, rfl, .inl ⟨_, rfl, _, _, rfl, rfl, (by show (0 : Int) < 2147483629; decide), _, rfl, _, _, rfl, rfl, .inl ⟨by decide, by decide⟩, _, _, rfl, rfl, _, rfl, _, _, rfl, rfl, .inl ⟨by decide, by decide⟩, _, rfl, _, _, rfl, rfl, .inr ⟨by omega, by omega⟩, _, _, rfl, rfl, ?_⟩⟩
      refine .inl ⟨_, rfl, _, _, rfl, rfl, .inr ⟨by decide, by decide⟩, ?_⟩
      refine ⟨_, rfl, .inl ⟨_, rfl, _, _, rfl, rfl, (by show (0 : Int) < 2147483647; decide), _, rfl, _, _, rfl, rfl, .inl ⟨by decide, by decide⟩, _, _, rfl, rfl, ?_⟩⟩
      refine .inl ⟨_, rfl, _, _, rfl, rfl, .inr ⟨by decide, by decide⟩, ?_⟩
      refine ⟨_, rfl, .inl ⟨_, rfl, _, _, rfl, rfl, (by show (0 : Int) < 2147483587; decide), _, _, rfl, rfl, ⟨by decide, by decide⟩, ?_⟩⟩
      refine .inl ⟨_, rfl, _, rfl, _, _, rfl, rfl, hl0, ?_⟩
      dsimp only
      obtain ⟨r, er, hr1⟩ := imod_nat _ lim h1
      rw [er]
      exact q r _ hr1 (Gr.wr (by simp)) ⟨xs, l, z + 1, hd', hc', hx, by omega, by omega⟩

def sp_law_ofC (K : PySem.W.Frag) : Sp := fun vs H Q _ => ∃ (d c a : Addr) (n : Nat) (xs : List V), vs = [.ref d, .ref a] ∧ MOkC H d c n ∧ H a = some (.lst xs) ∧ (xs ≠ [] ∧ xs.length ≤ 100000 ∧ n ≤ 1000000000000) ∧
  ∀ v H', v ∈ xs → Gr [d] H H' → MOkC H' d c (n + 1) → Q v H'
theorem okC_law_of (T : Txt K mg) : FnOk P w K mg base CX0 2 T.d_law_of.f T.d_law_of.fd ["m", "some"] (sp_law_ofC K) := by
  refine T.d_law_of.F.ok sc_law_of (fun vs H Q E h => ?_) (fun cdv A outer s H vs Q E hr h => ?_)
  · obtain ⟨d, c, a, n, xs, rfl, _⟩ := h; rfl
  · have hu := hu_of hr
    refine ⟨_, (pss_one (ps_ret (pe_ix (r := rIxL K) ix_list (pv 1) (pe_call (okC_law_draw T) (hr.mono (by decide)) (by rfl) T.d_law_draw.m T.d_law_draw.F.kp T.d_law_draw.b .nil pass0 (pa_cons (pv 0) (pa_cons (pe_callB (r := rLn K) call_ln (by rfl) T.b_len PySem.boot_len (pa_cons (pv 1) pa_nil)) pa_nil))) (fun _ _ => rfl)))), ?_⟩
    obtain ⟨d, c, a, n, xs, rfl, M, ha, ⟨h1, h2, h3⟩, q⟩ := h
    have hl : 1 ≤ xs.length := by
      cases xs with
      | nil => exact absurd rfl h1
      | cons x r => simp
    refine ⟨_, rfl, _, rfl, _, rfl, a, _, rfl, .inl (sq_lst ha), ?_⟩
    refine ⟨d, c, xs.length, n, rfl, M, ⟨hl, by omega, h3⟩, fun r H' hr g M' => ?_⟩
    have ha' := M.to.lst g ha
    exact ⟨a, xs, r, xs[r], rfl, rfl, sq_lst ha', atI_nat (by rw [List.getElem?_eq_getElem hr]), q _ _ (List.getElem_mem _) g M'⟩

theorem val_none : ∀ {kvs : List (Key × V)} {k : Key}, (∀ kv ∈ kvs, kv.1 ≠ k) → valV kvs k = none
  | [], _, _ => rfl
  | p :: r, k, h => by
    rw [valV_neg (h p (List.mem_cons_self ..))]
    exact val_none fun kv hk => h kv (List.mem_cons_of_mem _ hk)
theorem val_some : ∀ {kvs : List (Key × V)} {k : Key} {v : V} (i : Nat), kvs[i]? = some (k, v) → (∀ j, j < i → ∀ kv, kvs[j]? = some kv → kv.1 ≠ k) → valV kvs k = some v
  | [], _, _, i, h, _ => by simp at h
  | p :: r, k, v, 0, h, _ => by
    have e : p = (k, v) := Option.some.inj h
    subst e
    exact valV_pos rfl
  | p :: r, k, v, i + 1, h, d => by
    rw [valV_neg (d 0 (Nat.succ_pos _) p rfl)]
    exact val_some i h fun j hj kv hk => d (j + 1) (Nat.succ_lt_succ hj) kv hk
def rms (b n x c : Nat) : List V := (List.range c).map fun i => V.int (rem b n x i : Nat)
def rkv (b n x c : Nat) : List (Key × V) := (List.range c).map fun i => ((Sum.inl ((rem b n x i : Nat) : Int) : Key), V.int (i : Nat))
theorem rms_succ (b n x c : Nat) : rms b n x (c + 1) = rms b n x c ++ [V.int (rem b n x c : Nat)] := by
  unfold rms
  rw [List.range_succ, List.map_append]
  rfl
theorem rkv_succ (b n x c : Nat) : rkv b n x (c + 1) = rkv b n x c ++ [(Sum.inl ((rem b n x c : Nat) : Int), V.int (c : Nat))] := by
  unfold rkv
  rw [List.range_succ, List.map_append]
  rfl
theorem rms_len (b n x c : Nat) : (rms b n x c).length = c := by simp [rms]
theorem rkv_len (b n x c : Nat) : (rkv b n x c).length = c := by simp [rkv]
theorem rkv_none {b n x c y : Nat} (h : ∀ j, j < c → rem b n x j ≠ y) : valV (rkv b n x c) (Sum.inl (y : Int) : Key) = none := by
  refine val_none fun kv hk e => ?_
  obtain ⟨j, hj, rfl⟩ := List.mem_map.mp hk
  have := Sum.inl.inj e
  exact h j (List.mem_range.mp hj) (by omega)
theorem rkv_some {b n x c j : Nat} (hj : j < c) (h : ∀ i, i < j → rem b n x i ≠ rem b n x j) : valV (rkv b n x c) (Sum.inl ((rem b n x j : Nat) : Int) : Key) = some (.int (j : Nat)) := by
  refine val_some j ?_ fun i hi kv hk e => ?_
  · unfold rkv
    rw [List.getElem?_map, List.getElem?_range hj]
    rfl
  · unfold rkv at hk
    rw [List.getElem?_map, List.getElem?_range (by omega)] at hk
    have e2 := Option.some.inj hk
    subst e2
    have := Sum.inl.inj e
    exact h i hi (by omega)
def sp_law_ring : Sp := fun vs H Q _ => ∃ (b x n : Nat) (a : Addr), vs = [.int b, .ref a] ∧ H a = some (.tup [.int x, .int n]) ∧ (b ≤ 1000 ∧ n ≤ 5000 ∧ x < n ∧ Nat.gcd x n = 1) ∧
  ∀ (t l : Addr) H' (p q h L : Nat), Par b n p q h L → Gr [] H H' → H' t = some (.tup [.ref l, .int (h : Nat)]) → H' l = some (.lst (rms b n x (h + L))) → Q (.ref t) H'
theorem ok_law_ring (T : Txt K mg) : FnOk P w K mg base CX0 1 T.d_law_ring.f T.d_law_ring.fd ["b", "part"] sp_law_ring := by
  refine T.d_law_ring.F.ok sc_law_ring (fun vs H Q E h => ?_) (fun cdv A outer s H vs Q E hr h => ?_)
  · obtain ⟨b, x, n, a, rfl, _⟩ := h; rfl
  · have hu := hu_of hr
    refine ⟨_, (pss_cons (ps_asg (pv 1) (pg_tup (by rfl) (pgs_cons (pg_name (i := 2) sc_law_ring.nd rfl (by first | exact .inl rfl | exact .inr rfl)) (pgs_cons (pg_name (i := 3) sc_law_ring.nd rfl (by first | exact .inl rfl | exact .inr rfl)) pgs_nil))))
      (pss_cons (ps_par (i := 4) (j := 5) (by rfl) sc_law_ring.nd rfl rfl (by decide) rfl rfl (pa_cons (pe_lst pa_nil) (pa_cons pe_dnewK pa_nil)) (by rfl))
      (pss_cons (ps_while PassesOwn.never (pt_cmp (pc_dnotin hu (pv 2) (pv 5))) (pss_cons (ps_dput hu (pv 5) (pv 2) (pe_callB (r := rLn K) call_ln (by rfl) T.b_len PySem.boot_len (pa_cons (pv 4) pa_nil)) rfl)
      (pss_cons (ps_expr (pe_bm PySem.F.plainAttrs_list PySem.F.slot_list_append PySem.F.type_list_append mt_append (pv 4) (pa_cons (pv 2) pa_nil)))
      (pss_one (ps_set (i := 2) sc_law_ring.nd rfl (by first | exact .inl rfl | exact .inr rfl) (pe_op op_mod (pe_op op_mul (pv 2) (pv 0)) (pv 3)))))))
      (pss_one (ps_ret (pe_tup (pa_cons (pv 4) (pa_cons (pe_dget hu (pv 5) (pv 2) (fun _ _ => rfl)) pa_nil)))))))), ?_⟩
    obtain ⟨b, x, n, a, rfl, ha, ⟨hb, hn, hx, hg⟩, q⟩ := h
    have hn1 : 1 ≤ n := by omega
    refine ⟨_, rfl, a, _, rfl, sq_tup ha, rfl, _, _, rfl, _, _, rfl, rfl, ?_⟩
    refine ⟨Nat.zero_le _, fun l nl => ?_⟩
    intro e ne
    have nle : l ≠ e := ne_of_none (o := .lst []) upd_same ne
    refine ⟨_, _, rfl, ?_⟩
    have hE : ∀ {o}, H e = o → H e = o := fun h => h
    have ne0 : H e = none := by
      rw [upd_ne nle.symm] at ne
      exact ne
    refine ⟨fun m σ H' => ∃ i : Nat, m = n - i ∧ i ≤ n ∧ Gr [] H H' ∧ H' l = some (.lst (rms b n x i)) ∧ H' e = some (.dK (rkv b n x i)) ∧ σ = [some (.int b), some (.ref a), some (.int (rem b n x i : Nat)), some (.int n), some (.ref l), some (.ref e)] ∧ (∀ u v, u < v → v < i → rem b n x u ≠ rem b n x v),
      ⟨n, 0, rfl, Nat.zero_le _, (Gr.new nl).trans (Gr.new ne), ?_, upd_same, ?_, fun u v _ z => absurd z (Nat.not_lt_zero _)⟩, ?_⟩
    · rw [upd_ne nle, upd_same]
      rfl
    · rw [rem_zero hx]
      rfl
    rintro m σ H' ⟨i, rfl, hi, G, hL, hD, rfl, hd⟩
    refine ⟨_, rfl, _, rfl, e, _, rfl, DGet.k (k := Sum.inl ((rem b n x i : Nat) : Int)) hD, _, rfl, ?_⟩
    by_cases hc : ∃ j, j < i ∧ rem b n x j = rem b n x i
    · obtain ⟨j, hj, ej⟩ := hc
      have hv : valV (rkv b n x i) (Sum.inl ((rem b n x i : Nat) : Int) : Key) = some (.int (j : Nat)) := by
        rw [← ej]
        exact rkv_some hj fun u hu => hd u j hu hj
      rw [hv]
      refine iteF ?_
      obtain ⟨p, q0, h, L, P⟩ := par_exists (b := b) hn1
      obtain ⟨ei, eh⟩ := ring_end P hn1 hg hd hj ej
      refine ⟨_, rfl, _, rfl, _, rfl, e, .int (j : Nat), rfl, ?_, by show 2 ≤ sizeLine; decide, fun t nt => ?_⟩
      · rw [← hv]
        exact DGet.k (k := Sum.inl ((rem b n x i : Nat) : Int)) hD
      · refine q t l _ p q0 h L P (G.trans (Gr.new nt)) ?_ ?_
        · rw [upd_same, eh]
        · rw [upd_ne (ne_of_none hL nt), hL, ei]
    · have hno : ∀ j, j < i → rem b n x j ≠ rem b n x i := fun j hj ej => hc ⟨j, hj, ej⟩
      rw [rkv_none hno]
      refine iteT ?_
      have hlt : rem b n x i < n := rem_lt hn1
      have hin : i + 1 ≤ n := by
        have := nodup_le n ((List.range (i + 1)).map fun u => rem b n x u) (by
          rw [List.nodup_iff_pairwise_ne, List.pairwise_map, List.pairwise_iff_getElem]
          intro u v hu hv huv
          rw [List.getElem_range, List.getElem_range]
          rw [List.length_range] at hv
          rcases Nat.lt_or_eq_of_le (show v ≤ i by omega) with z | z
          · exact hd u v huv z
          · rw [z]
            exact hno u (by omega)) (fun y hy => by
          obtain ⟨u, _, rfl⟩ := List.mem_map.mp hy
          exact rem_lt hn1)
        rw [List.length_map, List.length_range] at this
        exact this
      refine ⟨fun σ' H2 => Gr [] H H2 ∧ H2 l = some (.lst (rms b n x (i + 1))) ∧ H2 e = some (.dK (rkv b n x (i + 1))) ∧ σ' = [some (.int b), some (.ref a), some (.int (rem b n x (i + 1) : Nat)), some (.int n), some (.ref l), some (.ref e)], ?_, ?_⟩
      · rintro σ' H2 ⟨G2, L2, D2, rfl⟩
        refine ⟨n - (i + 1), by omega, i + 1, rfl, hin, G2, L2, D2, rfl, fun u v huv hv => ?_⟩
        rcases Nat.lt_or_eq_of_le (show v ≤ i by omega) with z | z
        · exact hd u v huv z
        · rw [z]
          exact hno u (by omega)
      · have small : ∀ {k : Nat}, k ≤ 5000 → k < sizeLine := fun h => Nat.lt_of_lt_of_le (show _ < 6000 by omega) (by decide)
        refine ⟨_, rfl, l, _, rfl, .inl (sq_lst hL), _, rfl, _, rfl, e, _, rfl, DPut.k (k := Sum.inl ((rem b n x i : Nat) : Int)) hD (by rw [rkv_len]; exact small (by omega)), ?_⟩
        rw [putK_new _ (rkv_none hno), rms_len, ← rkv_succ]
        have hL2 : (upd H' e (.dK (rkv b n x (i + 1)))) l = some (.lst (rms b n x i)) := by
          rw [upd_ne nle]
          exact hL
        refine ⟨_, rfl, .inl ⟨rfl, _, sq_lst hL2⟩, _, rfl, l, _, _, rfl, rfl, hL2, by rw [rms_len]; exact small (by omega), ?_⟩
        refine ⟨_, rfl, _, rfl, _, b, rfl, rfl, .inl ⟨by omega, by omega⟩, _, rfl, _, n, rfl, rfl, (show (0 : Int) < (n : Int) by omega), ?_⟩
        dsimp only
        rw [icm, rem_succ, ← rms_succ]
        refine ⟨fun c o _ ec => ?_, upd_same, ?_, rfl⟩
        · rw [upd_ne (ne_of_none ec nl), upd_ne (ne_of_none ec ne0)]
          exact G c o (by simp) ec
        · rw [upd_ne nle.symm, upd_same]

theorem dgs_take (b n x h L : Nat) : (dgs b n x (h + L)).take h = dgf b n x 0 h := by
  unfold dgs dgf
  rw [← List.map_take, List.take_range, Nat.min_eq_left (by omega)]
  simp
theorem dgs_drop (b n x h L : Nat) : (dgs b n x (h + L)).drop h = dgf b n x h L := by
  unfold dgs dgf
  rw [← List.map_drop]
  apply List.ext_getElem
  · simp
  · intro i i1 i2
    simp
def sp_law_spread : Sp := fun vs H Q _ => ∃ (b x n : Nat) (a : Addr), vs = [.int b, .ref a] ∧ H a = some (.tup [.int x, .int n]) ∧ (b ≤ 1000 ∧ n ≤ 5000 ∧ x < n ∧ Nat.gcd x n = 1) ∧
  ∀ (t : Addr) H' (p q h L : Nat), Par b n p q h L → Gr [] H H' → Exp H' t b x n h L → Q (.ref t) H'

def sp_law_begun (K : PySem.W.Frag) : Sp := fun vs H Q _ => ∃ (a : Addr) (ns : List Int), vs = [.ref a] ∧ SqL K H a (ns.map V.int) ∧ ns.length ≤ 63 ∧ ∀ d H', Gr [] H H' → MOk H' d 0 → Q (.ref d) H'
theorem eqv_nil (ys : List Int) : PyData.eqv (.list (ys.map PyData.int)) (.list []) = ys.isEmpty := by
  cases ys with
  | nil => rfl
  | cons y r => rfl
theorem lay_ints : ∀ ys : List Int, PyData.canLayAll0 (ys.map PyData.int) = true ∧ PyData.depthAll (ys.map PyData.int) = 0
  | [] => ⟨rfl, rfl⟩
  | y :: r => by
    obtain ⟨h1, h2⟩ := lay_ints r
    refine ⟨?_, ?_⟩
    · show (true && PyData.canLayAll0 (r.map PyData.int)) = true
      rw [h1]
      rfl
    · show max 0 (PyData.depthAll (r.map PyData.int)) = 0
      rw [h2]
      rfl
theorem shaped_ints (ys : List Int) : SeqAt.shaped (.list (ys.map PyData.int)) = true := by
  obtain ⟨h1, h2⟩ := lay_ints ys
  exact Fits.shaped h1 (by show PyData.depthAll _ + 1 ≤ 64; rw [h2]; decide)
theorem get_ints {ns : List Int} {i : Nat} {x : V} (h : (ns.map V.int)[i]? = some x) : ∃ n, x = .int n ∧ ns[i]? = some n ∧ i < ns.length := by
  rw [List.getElem?_map] at h
  cases e : ns[i]? with
  | none =>
    rw [e] at h
    cases h
  | some n =>
    rw [e] at h
    exact ⟨n, (Option.some.inj h).symm, rfl, (List.getElem?_eq_some_iff.mp e).1⟩
theorem ok_law_begun (T : Txt K mg) : FnOk P w K mg base CX0 1 T.d_law_begun.f T.d_law_begun.fd ["script"] (sp_law_begun K) := by
  refine T.d_law_begun.F.ok sc_law_begun (fun vs H Q E h => ?_) (fun cdv A outer s H vs Q E hr h => ?_)
  · obtain ⟨a, ns, rfl, _⟩ := h; rfl
  · have hu := hu_of hr
    refine ⟨_, (pss_cons (ps_setLc (i := 1) (own := [("cell", 2)]) (g := gName 2) (tt := _) rfl sc_law_begun.nd rfl rfl (sw_true rfl rfl rfl (by decide +kernel)) (pi_list (pv 0)) (blkOk_by (own := [("cell", 2)]) (N := ["script", "great", "cell"]) (sc := defScope s_law_begun) (by decide +kernel)) (fun _ _ _ _ _ => (pg_name (i := 2) sc_law_begun.nd rfl (by first | exact .inl rfl | exact .inr rfl))) (fun _ _ _ _ _ => (pts_one (pt_cmpR op_ge (pv 2) (pe_op op_pow pe_int pe_int) (nomark _)))) (fun _ _ _ _ _ => (pv 2)))
      (pss_one (ps_ret (pe_disp (pps_cons pe_str (pe_op op_cat (pe_callTy (r := rLsO K) call_lsO (by rfl) T.b_list (by decide +kernel) (pa_cons (pv 0) pa_nil)) (pe_lst (pa_cons (pe_callB (r := rLn K) call_ln (by rfl) T.b_len PySem.boot_len (pa_cons (pv 0) pa_nil)) pa_nil))) (pps_cons pe_str (pe_ifExp (pt_cmpR (r := rNeD K) (op_neD hr.units) (pv 1) (pe_lst pa_nil) (nomark _)) (pe_ix (r := rIxL K) ix_list (pv 1) pe_int (fun _ _ => rfl)) pe_int) (pps_cons pe_str pe_int pps_nil))) (by rfl) (by rfl) (fun z => by cases z) (by decide))))), ?_⟩
    obtain ⟨a, ns, rfl, hS, hn, q⟩ := h
    have sz : ∀ {k : Nat}, k ≤ 1000 → k < sizeLine := fun h => small1000 h
    refine ⟨_, rfl, a, rfl, ⟨_, hS⟩, fun D nD => ?_⟩
    refine lc_list (K := K) (a := a) (xs := ns.map V.int) (fun i H' => Gr [] H H' ∧ ∃ ys : List Int, ys.length ≤ i ∧ H' D = some (.lst (ys.map V.int))) ⟨Gr.new nD, [], Nat.le_refl _, upd_same⟩ (fun i H' _ z => (Kp.of z.1).sqL hS) ?_ ?_
    · rintro i y H' hy ⟨G, ys, hl, hD⟩
      obtain ⟨n, rfl, hn', hi⟩ := get_ints hy
      refine ⟨rfl, ?_⟩
      refine ⟨_, rfl, _, _, rfl, rfl, ⟨by decide, by decide, by decide⟩, _, _, rfl, rfl, _, rfl, ?_⟩
      have ex : ∀ {o : HO}, Gr [] H (upd H' D o) := fun {o} c u _ e => by
        rw [upd_ne (ne_of_none e nD)]
        exact G c u (by simp) e
      refine ite2 (fun _ => ?_) (fun _ => ?_)
      · refine ⟨_, rfl, _, hD, by rw [List.length_map]; exact sz (by omega), ex, ys ++ [n], by rw [List.length_append]; simp; omega, ?_⟩
        rw [upd_same, List.map_append]
        rfl
      · exact ⟨G, ys, by omega, hD⟩
    rintro H1 ⟨g1, ys, hl, hD⟩
    rw [List.length_map] at hl
    intro p np
    have hS1 : SqL K (upd H1 p (.dK [])) a (ns.map V.int) := (Kp.of (g1.trans (Gr.new np))).sqL hS
    have hD1 := (Gr.new (W := []) (o := .dK []) np) D _ (by simp) hD
    refine ⟨_, rfl, a, _, rfl, .inl hS1, fun l nl => ?_⟩
    have hS2 := (Kp.of (Gr.new (o := .lst (ns.map V.int)) nl)).sqL hS1
    refine ⟨_, rfl, a, _, rfl, .inl hS2, by show 1 ≤ sizeLine; decide, fun l2 nl2 => ?_⟩
    have k1 := (Gr.new (W := []) (o := .lst [V.int ((ns.map V.int).length : Nat)]) nl2) l _ (by simp) (upd_same (o := .lst (ns.map V.int)))
    refine ⟨l, l2, _, _, rfl, rfl, k1, upd_same, ?_, fun p3 np3 => ?_⟩
    · rw [List.length_map]
      exact Nat.le_of_lt (sz (by show ns.length + 1 ≤ 1000; omega))
    have gA : Gr [] (upd H1 p (.dK [])) (upd (upd (upd (upd H1 p (.dK [])) l (.lst (ns.map V.int))) l2 (.lst [V.int ((ns.map V.int).length : Nat)])) p3 (.lst (ns.map V.int ++ [V.int ((ns.map V.int).length : Nat)]))) :=
      ((Gr.new nl).trans (Gr.new nl2)).trans (Gr.new np3)
    have hp3 : (upd (upd (upd (upd H1 p (.dK [])) l (.lst (ns.map V.int))) l2 (.lst [V.int ((ns.map V.int).length : Nat)])) p3 (.lst (ns.map V.int ++ [V.int ((ns.map V.int).length : Nat)]))) p3 = some (.lst ((ns ++ [(ns.length : Int)]).map V.int)) := by
      rw [upd_same, List.map_append, List.length_map]
      rfl
    generalize (upd (upd (upd (upd H1 p (.dK [])) l (.lst (ns.map V.int))) l2 (.lst [V.int ((ns.map V.int).length : Nat)])) p3 (.lst (ns.map V.int ++ [V.int ((ns.map V.int).length : Nat)]))) = H4 at gA hp3 ⊢
    have hD4 := gA D _ (by simp) hD1
    have hp4 := gA p _ (by simp) (upd_same (o := .dK []))
    have G4 : ∀ (H5 : Hp) (l0 : Int), Gr [] H4 H5 → Q (.ref p) (upd H5 p (.dK (mergeK [] (mkv p3 l0 0)))) := fun H5 l0 g5 => by
      rw [mm]
      have h3 := g5 p3 _ (by simp) hp3
      have hne : p3 ≠ p := by
        intro e
        rw [e, hp4] at hp3
        cases hp3
      refine q p _ (fun c u _ e => ?_) ⟨p3, ns ++ [(ns.length : Int)], l0, 0, upd_same, ?_, by simp, Int.le_refl _, Int.le_refl _⟩
      · have hcp : c ≠ p := ne_of_none (g1 c u (by simp) e) np
        rw [upd_ne hcp]
        refine g5 c u (by simp) (gA c u (by simp) ?_)
        rw [upd_ne hcp]
        exact g1 c u (by simp) e
      · rw [upd_ne hne]
        exact h3
    refine ⟨_, rfl, Nat.zero_le _, fun q0 nq => ?_⟩
    have hq := (Gr.new (W := []) (o := .lst []) nq)
    refine ⟨.list (ys.map PyData.int), .list [], dp_lst (hq D _ (by simp) hD4) (dpAll_ints ys), dp_lst upd_same .nil, shaped_ints ys, rfl, _, rfl, ?_⟩
    rw [eqv_nil]
    cases ys with
    | nil =>
      refine iteF ?_
      refine ⟨hq p _ (by simp) hp4, mkv p3 0 0, rfl, by show 3 ≤ 15; decide, G4 _ 0 hq⟩
    | cons y r =>
      refine iteT ⟨_, rfl, D, _, 0, .int y, rfl, rfl, sq_lst (hq D _ (by simp) hD4), atI_nat (j := 0) rfl, ?_⟩
      refine ⟨hq p _ (by simp) hp4, mkv p3 y 0, rfl, by show 3 ≤ 15; decide, G4 _ y hq⟩

end
end Wn
namespace Wn
open PySem PySem.Spec PyProof.Rows L2
open LamX (Tabs ExtN tLam)
local macro_rules | `(tactic| walk_at "vc") => `(tactic| simp only [cxK, cxK2, start1, start2, start3, tRet, tRetN, tSeq, tNext, tIfS, tAsg, gName, tDrop, tVar, tC, tOp, tUn, tTest, tB, tNot, tAnd, tOr, tAndV, tOrV, tNotV, tIf, tCons, tNil, tCB, tCall, tChain, tAug, ipI, rI, rI0, rU, rIs, rGcd, rEq, rNe, scal,
  List.getElem?_cons_zero, List.getElem?_cons_succ, List.set_cons_zero, List.set_cons_succ, Option.some.injEq, List.cons.injEq, V.int.injEq, V.bl.injEq, V.ref.injEq, V.str.injEq, and_true, true_and, exists_eq_left, exists_eq_left', exists_and_left, exists_and_right, List.append_nil, List.nil_append, List.cons_append, exists_eq_right, exists_eq_right', and_assoc, exists_const, V.ty.injEq, ↓reduceIte, Bool.false_eq_true, Bool.not_true, Bool.not_false, decide_eq_true_eq])

section
variable {P : Program} {w : World} {K : PySem.W.Frag} {mg : Str → Option Value} {base : Heap}
theorem ok_init_BadBase (T : Txt K mg) : FnOk P w K mg base CX0 1 T.I_BadBase T.fd_BadBase ["self", "value"] (spInit T.C_BadBase "value") := by
  refine T.F_BadBase.ok sc_BadBase_init (fun vs H Q E h => ?_) (fun cdv A outer s H vs Q E hr h => ?_)
  · obtain ⟨a, v, rfl, _⟩ := h
    rfl
  · obtain ⟨a, v, rfl, ha, q⟩ := h
    refine ⟨_, pss_cons (ps_expr (pe_initW T.T_BadBase (by rfl) T.g_WheelError T.r_WheelError T.i_WheelError (by rfl) (pa_cons (pv 0) (pa_cons pe_str pa_nil)))) (pss_one (ps_ostE T.T_BadBase (pv 0) (pv 1))), ?_⟩
    exact ⟨_, rfl, a, _, rfl, by show 1 ≤ 1000; decide, ha, _, rfl, _, rfl, a, rfl, ha, fun d nd da => q d nd da⟩
theorem ok_init_BadFraction (T : Txt K mg) : FnOk P w K mg base CX0 1 T.I_BadFraction T.fd_BadFraction ["self", "value"] (spInit T.C_BadFraction "value") := by
  refine T.F_BadFraction.ok sc_BadFraction_init (fun vs H Q E h => ?_) (fun cdv A outer s H vs Q E hr h => ?_)
  · obtain ⟨a, v, rfl, _⟩ := h
    rfl
  · obtain ⟨a, v, rfl, ha, q⟩ := h
    refine ⟨_, pss_cons (ps_expr (pe_initW T.T_BadFraction (by rfl) T.g_WheelError T.r_WheelError T.i_WheelError (by rfl) (pa_cons (pv 0) (pa_cons pe_str pa_nil)))) (pss_one (ps_ostE T.T_BadFraction (pv 0) (pv 1))), ?_⟩
    exact ⟨_, rfl, a, _, rfl, by show 1 ≤ 1000; decide, ha, _, rfl, _, rfl, a, rfl, ha, fun d nd da => q d nd da⟩
theorem ok_init_BadNumber (T : Txt K mg) : FnOk P w K mg base CX0 1 T.I_BadNumber T.fd_BadNumber ["self", "value"] (spInit T.C_BadNumber "value") := by
  refine T.F_BadNumber.ok sc_BadNumber_init (fun vs H Q E h => ?_) (fun cdv A outer s H vs Q E hr h => ?_)
  · obtain ⟨a, v, rfl, _⟩ := h
    rfl
  · obtain ⟨a, v, rfl, ha, q⟩ := h
    refine ⟨_, pss_cons (ps_expr (pe_initW T.T_BadNumber (by rfl) T.g_WheelError T.r_WheelError T.i_WheelError (by rfl) (pa_cons (pv 0) (pa_cons pe_str pa_nil)))) (pss_one (ps_ostE T.T_BadNumber (pv 0) (pv 1))), ?_⟩
    exact ⟨_, rfl, a, _, rfl, by show 1 ≤ 1000; decide, ha, _, rfl, _, rfl, a, rfl, ha, fun d nd da => q d nd da⟩
theorem ok_init_TooGreat (T : Txt K mg) : FnOk P w K mg base CX0 1 T.I_TooGreat T.fd_TooGreat ["self", "most"] (spInit T.C_TooGreat "most") := by
  refine T.F_TooGreat.ok sc_TooGreat_init (fun vs H Q E h => ?_) (fun cdv A outer s H vs Q E hr h => ?_)
  · obtain ⟨a, v, rfl, _⟩ := h
    rfl
  · obtain ⟨a, v, rfl, ha, q⟩ := h
    refine ⟨_, pss_cons (ps_expr (pe_initB T.T_TooGreat (by rfl) T.b_OverflowError (by rfl) (by decide) (by decide) (by kernel_rfl) (by decide +kernel) T.i_OverflowError (by rfl) (pa_cons (pv 0) (pa_cons pe_str pa_nil)))) (pss_one (ps_ostE T.T_TooGreat (pv 0) (pv 1))), ?_⟩
    exact ⟨_, rfl, a, _, rfl, by show 1 ≤ 1000; decide, ha, _, rfl, _, rfl, a, rfl, ha, fun d nd da => q d nd da⟩
theorem ok_init_Nothing (T : Txt K mg) : FnOk P w K mg base CX0 1 T.I_Nothing T.fd_Nothing ["self", "value"] (spInit T.C_Nothing "value") := by
  refine T.F_Nothing.ok sc_Nothing_init (fun vs H Q E h => ?_) (fun cdv A outer s H vs Q E hr h => ?_)
  · obtain ⟨a, v, rfl, _⟩ := h
    rfl
  · obtain ⟨a, v, rfl, ha, q⟩ := h
    refine ⟨_, pss_cons (ps_expr (pe_initB T.T_Nothing (by rfl) T.b_LookupError (by rfl) (by decide) (by decide) (by kernel_rfl) (by decide +kernel) T.i_LookupError (by rfl) (pa_cons (pv 0) (pa_cons pe_str pa_nil)))) (pss_one (ps_ostE T.T_Nothing (pv 0) (pv 1))), ?_⟩
    exact ⟨_, rfl, a, _, rfl, by show 1 ≤ 1000; decide, ha, _, rfl, _, rfl, a, rfl, ha, fun d nd da => q d nd da⟩

theorem names3 {X : Cx} (T : Txt K mg) (hm : X.mg = mg) (h1 : X.env.kindOf "WheelError" = some .globalImplicit) (h2 : X.env.kindOf "Nothing" = some .globalImplicit) (h3 : X.env.kindOf "TooGreat" = some .globalImplicit) : Names3 X "WheelError" "Nothing" "TooGreat" T.C_WheelError T.C_Nothing T.C_TooGreat :=
  ⟨⟨h1, by decide, hm ▸ T.g_WheelError⟩, ⟨h2, by decide, hm ▸ T.g_Nothing⟩, ⟨h3, by decide, hm ▸ T.g_TooGreat⟩⟩
/-- the errors that may be met here: class, field, word -/
def errs (T : Txt K mg) : List (Addr × Str × Str) := [(T.C_BadBase, "value", "base"), (T.C_BadFraction, "value", "fraction"), (T.C_BadNumber, "value", "number"), (T.C_TooGreat, "most", "great"), (T.C_Nothing, "value", "nothing")]
def tl (T : Txt K mg) : List (Addr × Str) := [(T.p_law_moves_right, ("_law_moves_right" : Str) ++ ".<locals>." ++ "<lambda>"), (T.p_law_made_right, ("_law_made_right" : Str) ++ ".<locals>." ++ "<lambda>"), (T.p_law_great_right, ("_law_great_right" : Str) ++ ".<locals>." ++ "<lambda>")]
theorem hm_law_moves_right (T : Txt K mg) : (T.p_law_moves_right, ("_law_moves_right" : Str) ++ ".<locals>." ++ "<lambda>") ∈ tl T := by
  unfold tl
  simp
theorem hu_law_moves_right (T : Txt K mg) : ∀ p ∈ tl T, p.1 = T.p_law_moves_right → p.2 = ("_law_moves_right" : Str) ++ ".<locals>." ++ "<lambda>" := by
  intro p hp e
  unfold tl at hp
  simp only [List.mem_cons, List.not_mem_nil, or_false] at hp
  rcases hp with rfl | rfl | rfl
  · rfl
  · exact absurd e (Ne.symm T.ne_law_moves_right_law_made_right)
  · exact absurd e (Ne.symm T.ne_law_moves_right_law_great_right)
theorem hm_law_made_right (T : Txt K mg) : (T.p_law_made_right, ("_law_made_right" : Str) ++ ".<locals>." ++ "<lambda>") ∈ tl T := by
  unfold tl
  simp
theorem hu_law_made_right (T : Txt K mg) : ∀ p ∈ tl T, p.1 = T.p_law_made_right → p.2 = ("_law_made_right" : Str) ++ ".<locals>." ++ "<lambda>" := by
  intro p hp e
  unfold tl at hp
  simp only [List.mem_cons, List.not_mem_nil, or_false] at hp
  rcases hp with rfl | rfl | rfl
  · exact absurd e T.ne_law_moves_right_law_made_right
  · rfl
  · exact absurd e (Ne.symm T.ne_law_made_right_law_great_right)
theorem hm_law_great_right (T : Txt K mg) : (T.p_law_great_right, ("_law_great_right" : Str) ++ ".<locals>." ++ "<lambda>") ∈ tl T := by
  unfold tl
  simp
theorem hu_law_great_right (T : Txt K mg) : ∀ p ∈ tl T, p.1 = T.p_law_great_right → p.2 = ("_law_great_right" : Str) ++ ".<locals>." ++ "<lambda>" := by
  intro p hp e
  unfold tl at hp
  simp only [List.mem_cons, List.not_mem_nil, or_false] at hp
  rcases hp with rfl | rfl | rfl
  · exact absurd e T.ne_law_moves_right_law_great_right
  · exact absurd e T.ne_law_made_right_law_great_right
  · rfl

structure Tbs (T : Txt K mg) (base : Heap) : Prop where
  tb_law_moves_right : LamX.TabB base mg T.k_law_moves_right T.p_law_moves_right
  tb_law_made_right : LamX.TabB base mg T.k_law_made_right T.p_law_made_right
  tb_law_great_right : LamX.TabB base mg T.k_law_great_right T.p_law_great_right

def sp_law_word (T : Txt K mg) : Sp := fun vs H Q _ => ∃ (a C d : Addr) (f w : Str) (v : V), vs = [.ref a] ∧ (C, f, w) ∈ errs T ∧ H a = some (ExV (.ref C) (some d) a) ∧ H d = some (.xd [(f, v)]) ∧ ∀ t H', Gr [] H H' → H' t = some (.tup [.str w, v]) → Q (.ref t) H'
theorem lookup_one (f : Str) (v : V) : List.lookup f [(f, v)] = some v := by simp [List.lookup]
theorem ok_law_word (T : Txt K mg) : FnOk P w K mg base CX0 1 T.d_law_word.f T.d_law_word.fd ["error"] (sp_law_word T) := by
  refine T.d_law_word.F.ok sc_law_word (fun vs H Q E h => ?_) (fun cdv A outer s H vs Q E hr h => ?_)
  · obtain ⟨a, C, d, f, w, v, rfl, _⟩ := h; rfl
  · have hu := hu_of hr
    refine ⟨_, (pss_cons (ps_set (i := 1) sc_law_word.nd rfl (by first | exact .inl rfl | exact .inr rfl) (pe_lst pa_nil))
      (pss_cons (ps_if (pt_val (pe_callB (r := rIsV K) call_isV (by rfl) T.b_isinstance (by decide +kernel) (pa_cons (pv 0) (pa_cons (pe_glob (v := .ref T.C_BadBase) (by rfl) T.g_BadBase rfl) pa_nil)))) (pss_one (ps_expr (pe_bm PySem.F.plainAttrs_list PySem.F.slot_list_append PySem.F.type_list_append mt_append (pv 1) (pa_cons (pe_tup (pa_cons pe_str (pa_cons (pe_fldE (pv 0)) pa_nil))) pa_nil)))) pss_nil)
      (pss_cons (ps_if (pt_val (pe_callB (r := rIsV K) call_isV (by rfl) T.b_isinstance (by decide +kernel) (pa_cons (pv 0) (pa_cons (pe_glob (v := .ref T.C_BadDenominator) (by rfl) T.g_BadDenominator rfl) pa_nil)))) (pss_one (ps_expr (pe_bm PySem.F.plainAttrs_list PySem.F.slot_list_append PySem.F.type_list_append mt_append (pv 1) (pa_cons (pe_tup (pa_cons pe_str (pa_cons (pe_fldE (pv 0)) pa_nil))) pa_nil)))) pss_nil)
      (pss_cons (ps_if (pt_val (pe_callB (r := rIsV K) call_isV (by rfl) T.b_isinstance (by decide +kernel) (pa_cons (pv 0) (pa_cons (pe_glob (v := .ref T.C_BadFraction) (by rfl) T.g_BadFraction rfl) pa_nil)))) (pss_one (ps_expr (pe_bm PySem.F.plainAttrs_list PySem.F.slot_list_append PySem.F.type_list_append mt_append (pv 1) (pa_cons (pe_tup (pa_cons pe_str (pa_cons (pe_fldE (pv 0)) pa_nil))) pa_nil)))) pss_nil)
      (pss_cons (ps_if (pt_val (pe_callB (r := rIsV K) call_isV (by rfl) T.b_isinstance (by decide +kernel) (pa_cons (pv 0) (pa_cons (pe_glob (v := .ref T.C_BadDigits) (by rfl) T.g_BadDigits rfl) pa_nil)))) (pss_one (ps_expr (pe_bm PySem.F.plainAttrs_list PySem.F.slot_list_append PySem.F.type_list_append mt_append (pv 1) (pa_cons (pe_tup (pa_cons pe_str (pa_cons (pe_fldE (pv 0)) pa_nil))) pa_nil)))) pss_nil)
      (pss_cons (ps_if (pt_val (pe_callB (r := rIsV K) call_isV (by rfl) T.b_isinstance (by decide +kernel) (pa_cons (pv 0) (pa_cons (pe_glob (v := .ref T.C_BadNumber) (by rfl) T.g_BadNumber rfl) pa_nil)))) (pss_one (ps_expr (pe_bm PySem.F.plainAttrs_list PySem.F.slot_list_append PySem.F.type_list_append mt_append (pv 1) (pa_cons (pe_tup (pa_cons pe_str (pa_cons (pe_fldE (pv 0)) pa_nil))) pa_nil)))) pss_nil)
      (pss_cons (ps_if (pt_val (pe_callB (r := rIsV K) call_isV (by rfl) T.b_isinstance (by decide +kernel) (pa_cons (pv 0) (pa_cons (pe_glob (v := .ref T.C_BadPaper) (by rfl) T.g_BadPaper rfl) pa_nil)))) (pss_one (ps_expr (pe_bm PySem.F.plainAttrs_list PySem.F.slot_list_append PySem.F.type_list_append mt_append (pv 1) (pa_cons (pe_tup (pa_cons pe_str (pa_cons (pe_fldE (pv 0)) pa_nil))) pa_nil)))) pss_nil)
      (pss_cons (ps_if (pt_val (pe_callB (r := rIsV K) call_isV (by rfl) T.b_isinstance (by decide +kernel) (pa_cons (pv 0) (pa_cons (pe_glob (v := .ref T.C_BadText) (by rfl) T.g_BadText rfl) pa_nil)))) (pss_one (ps_expr (pe_bm PySem.F.plainAttrs_list PySem.F.slot_list_append PySem.F.type_list_append mt_append (pv 1) (pa_cons (pe_tup (pa_cons pe_str (pa_cons (pe_fldE (pv 0)) pa_nil))) pa_nil)))) pss_nil)
      (pss_cons (ps_if (pt_val (pe_callB (r := rIsV K) call_isV (by rfl) T.b_isinstance (by decide +kernel) (pa_cons (pv 0) (pa_cons (pe_glob (v := .ref T.C_TooGreat) (by rfl) T.g_TooGreat rfl) pa_nil)))) (pss_one (ps_expr (pe_bm PySem.F.plainAttrs_list PySem.F.slot_list_append PySem.F.type_list_append mt_append (pv 1) (pa_cons (pe_tup (pa_cons pe_str (pa_cons (pe_fldE (pv 0)) pa_nil))) pa_nil)))) pss_nil)
      (pss_cons (ps_if (pt_val (pe_callB (r := rIsV K) call_isV (by rfl) T.b_isinstance (by decide +kernel) (pa_cons (pv 0) (pa_cons (pe_glob (v := .ref T.C_Nothing) (by rfl) T.g_Nothing rfl) pa_nil)))) (pss_one (ps_expr (pe_bm PySem.F.plainAttrs_list PySem.F.slot_list_append PySem.F.type_list_append mt_append (pv 1) (pa_cons (pe_tup (pa_cons pe_str (pa_cons (pe_fldE (pv 0)) pa_nil))) pa_nil)))) pss_nil)
      (pss_one (ps_ret (pe_ifExp (pt_cmpR op_eq (pe_callB (r := rLn K) call_ln (by rfl) T.b_len PySem.boot_len (pa_cons (pv 1) pa_nil)) pe_int (nomark _)) (pe_ix (r := rIxL K) ix_list (pv 1) pe_int (fun _ _ => rfl)) (pe_tup (pa_cons pe_str (pa_cons pe_non pa_nil)))))))))))))))), ?_⟩
    obtain ⟨a, C, d, f, w, v, rfl, hc, ha, hd, q⟩ := h
    unfold errs at hc
    simp only [List.mem_cons, List.not_mem_nil, or_false, Prod.mk.injEq] at hc
    rcases hc with hc | hc | hc | hc | hc
    · obtain ⟨rfl, rfl, rfl⟩ := hc
      refine ⟨Nat.zero_le _, fun l nl => ?_⟩
      have gl : Gr [] H (upd H l (.lst [])) := Gr.new nl
      have hl : (upd H l (.lst [])) l = some (.lst []) := upd_same
      have ha1 := gl a _ (by simp) ha
      have hd1 := gl d _ (by simp) hd
      have nl0 : H l = none := nl
      generalize upd H l (.lst []) = H1 at gl hl ha1 hd1 ⊢
      refine ⟨_, rfl, a, T.C_BadBase, d, _, .ref T.C_BadBase, _, _, rfl, T.is_BadBase, ha1, hd1, (fun u z => z), T.kit_BadBase_BadBase, _, rfl, iteT ?_⟩
      refine ⟨_, rfl, .inl ⟨rfl, _, sq_lst hl⟩, _, rfl, a, T.C_BadBase, d, _, v, rfl, T.T_BadBase.xf, T.T_BadBase.no, ha1, hd1, lookup_one _ _, ?_⟩
      refine ⟨by show 2 ≤ sizeLine; decide, fun p np => ?_⟩
      have g2 : Gr [] H1 (upd H1 p (.tup [.str "base", v])) := Gr.new np
      have hp := upd_same (H := H1) (a := p) (o := .tup [.str "base", v])
      have hl2 := g2 l _ (by simp) hl
      have ha2 := g2 a _ (by simp) ha1
      have hd2 := g2 d _ (by simp) hd1
      generalize upd H1 p (.tup [.str "base", v]) = H2 at g2 hp hl2 ha2 hd2 ⊢
      refine ⟨l, _, _, rfl, rfl, hl2, by show 0 < sizeLine; decide, ?_⟩
      have gA : Gr [] H (upd H2 l (.lst ([] ++ [.ref p]))) := fun u o _ e => by
        rw [upd_ne (ne_of_none e nl0)]
        exact g2 u o (by simp) (gl u o (by simp) e)
      have hl3 : (upd H2 l (.lst ([] ++ [.ref p]))) l = some (.lst [.ref p]) := upd_same
      have hp3 : (upd H2 l (.lst ([] ++ [.ref p]))) p = some (.tup [.str "base", v]) := by
        rw [upd_ne (ne_of hp hl2 (by intro z; cases z))]
        exact hp
      have ha2 := gA a _ (by simp) ha
      have hd2 := gA d _ (by simp) hd
      generalize upd H2 l (.lst ([] ++ [.ref p])) = H3 at gA hl3 hp3 ha2 hd2 ⊢
      refine ⟨_, rfl, a, T.C_BadBase, d, _, .ref T.C_BadDenominator, _, _, rfl, T.is_BadBase, ha2, hd2, (fun u z => z), T.kit_BadBase_BadDenominator, _, rfl, iteF ?_⟩
      refine ⟨_, rfl, a, T.C_BadBase, d, _, .ref T.C_BadFraction, _, _, rfl, T.is_BadBase, ha2, hd2, (fun u z => z), T.kit_BadBase_BadFraction, _, rfl, iteF ?_⟩
      refine ⟨_, rfl, a, T.C_BadBase, d, _, .ref T.C_BadDigits, _, _, rfl, T.is_BadBase, ha2, hd2, (fun u z => z), T.kit_BadBase_BadDigits, _, rfl, iteF ?_⟩
      refine ⟨_, rfl, a, T.C_BadBase, d, _, .ref T.C_BadNumber, _, _, rfl, T.is_BadBase, ha2, hd2, (fun u z => z), T.kit_BadBase_BadNumber, _, rfl, iteF ?_⟩
      refine ⟨_, rfl, a, T.C_BadBase, d, _, .ref T.C_BadPaper, _, _, rfl, T.is_BadBase, ha2, hd2, (fun u z => z), T.kit_BadBase_BadPaper, _, rfl, iteF ?_⟩
      refine ⟨_, rfl, a, T.C_BadBase, d, _, .ref T.C_BadText, _, _, rfl, T.is_BadBase, ha2, hd2, (fun u z => z), T.kit_BadBase_BadText, _, rfl, iteF ?_⟩
      refine ⟨_, rfl, a, T.C_BadBase, d, _, .ref T.C_TooGreat, _, _, rfl, T.is_BadBase, ha2, hd2, (fun u z => z), T.kit_BadBase_TooGreat, _, rfl, iteF ?_⟩
      refine ⟨_, rfl, a, T.C_BadBase, d, _, .ref T.C_Nothing, _, _, rfl, T.is_BadBase, ha2, hd2, (fun u z => z), T.kit_BadBase_Nothing, _, rfl, iteF ?_⟩
      refine ⟨_, rfl, l, _, rfl, .inl (sq_lst hl3), rfl, _, rfl, iteT ?_⟩
      exact ⟨_, rfl, l, _, _, .ref p, rfl, rfl, sq_lst hl3, atI_nat (j := 0) rfl, q p _ gA hp3⟩
    · obtain ⟨rfl, rfl, rfl⟩ := hc
      refine ⟨Nat.zero_le _, fun l nl => ?_⟩
      have gl : Gr [] H (upd H l (.lst [])) := Gr.new nl
      have hl : (upd H l (.lst [])) l = some (.lst []) := upd_same
      have ha1 := gl a _ (by simp) ha
      have hd1 := gl d _ (by simp) hd
      have nl0 : H l = none := nl
      generalize upd H l (.lst []) = H1 at gl hl ha1 hd1 ⊢
      refine ⟨_, rfl, a, T.C_BadFraction, d, _, .ref T.C_BadBase, _, _, rfl, T.is_BadFraction, ha1, hd1, (fun u z => z), T.kit_BadFraction_BadBase, _, rfl, iteF ?_⟩
      refine ⟨_, rfl, a, T.C_BadFraction, d, _, .ref T.C_BadDenominator, _, _, rfl, T.is_BadFraction, ha1, hd1, (fun u z => z), T.kit_BadFraction_BadDenominator, _, rfl, iteF ?_⟩
      refine ⟨_, rfl, a, T.C_BadFraction, d, _, .ref T.C_BadFraction, _, _, rfl, T.is_BadFraction, ha1, hd1, (fun u z => z), T.kit_BadFraction_BadFraction, _, rfl, iteT ?_⟩
      refine ⟨_, rfl, .inl ⟨rfl, _, sq_lst hl⟩, _, rfl, a, T.C_BadFraction, d, _, v, rfl, T.T_BadFraction.xf, T.T_BadFraction.no, ha1, hd1, lookup_one _ _, ?_⟩
      refine ⟨by show 2 ≤ sizeLine; decide, fun p np => ?_⟩
      have g2 : Gr [] H1 (upd H1 p (.tup [.str "fraction", v])) := Gr.new np
      have hp := upd_same (H := H1) (a := p) (o := .tup [.str "fraction", v])
      have hl2 := g2 l _ (by simp) hl
      have ha2 := g2 a _ (by simp) ha1
      have hd2 := g2 d _ (by simp) hd1
      generalize upd H1 p (.tup [.str "fraction", v]) = H2 at g2 hp hl2 ha2 hd2 ⊢
      refine ⟨l, _, _, rfl, rfl, hl2, by show 0 < sizeLine; decide, ?_⟩
      have gA : Gr [] H (upd H2 l (.lst ([] ++ [.ref p]))) := fun u o _ e => by
        rw [upd_ne (ne_of_none e nl0)]
        exact g2 u o (by simp) (gl u o (by simp) e)
      have hl3 : (upd H2 l (.lst ([] ++ [.ref p]))) l = some (.lst [.ref p]) := upd_same
      have hp3 : (upd H2 l (.lst ([] ++ [.ref p]))) p = some (.tup [.str "fraction", v]) := by
        rw [upd_ne (ne_of hp hl2 (by intro z; cases z))]
        exact hp
      have ha2 := gA a _ (by simp) ha
      have hd2 := gA d _ (by simp) hd
      generalize upd H2 l (.lst ([] ++ [.ref p])) = H3 at gA hl3 hp3 ha2 hd2 ⊢
      refine ⟨_, rfl, a, T.C_BadFraction, d, _, .ref T.C_BadDigits, _, _, rfl, T.is_BadFraction, ha2, hd2, (fun u z => z), T.kit_BadFraction_BadDigits, _, rfl, iteF ?_⟩
      refine ⟨_, rfl, a, T.C_BadFraction, d, _, .ref T.C_BadNumber, _, _, rfl, T.is_BadFraction, ha2, hd2, (fun u z => z), T.kit_BadFraction_BadNumber, _, rfl, iteF ?_⟩
      refine ⟨_, rfl, a, T.C_BadFraction, d, _, .ref T.C_BadPaper, _, _, rfl, T.is_BadFraction, ha2, hd2, (fun u z => z), T.kit_BadFraction_BadPaper, _, rfl, iteF ?_⟩
      refine ⟨_, rfl, a, T.C_BadFraction, d, _, .ref T.C_BadText, _, _, rfl, T.is_BadFraction, ha2, hd2, (fun u z => z), T.kit_BadFraction_BadText, _, rfl, iteF ?_⟩
      refine ⟨_, rfl, a, T.C_BadFraction, d, _, .ref T.C_TooGreat, _, _, rfl, T.is_BadFraction, ha2, hd2, (fun u z => z), T.kit_BadFraction_TooGreat, _, rfl, iteF ?_⟩
      refine ⟨_, rfl, a, T.C_BadFraction, d, _, .ref T.C_Nothing, _, _, rfl, T.is_BadFraction, ha2, hd2, (fun u z => z), T.kit_BadFraction_Nothing, _, rfl, iteF ?_⟩
      refine ⟨_, rfl, l, _, rfl, .inl (sq_lst hl3), rfl, _, rfl, iteT ?_⟩
      exact ⟨_, rfl, l, _, _, .ref p, rfl, rfl, sq_lst hl3, atI_nat (j := 0) rfl, q p _ gA hp3⟩
    · obtain ⟨rfl, rfl, rfl⟩ := hc
      refine ⟨Nat.zero_le _, fun l nl => ?_⟩
      have gl : Gr [] H (upd H l (.lst [])) := Gr.new nl
      have hl : (upd H l (.lst [])) l = some (.lst []) := upd_same
      have ha1 := gl a _ (by simp) ha
      have hd1 := gl d _ (by simp) hd
      have nl0 : H l = none := nl
      generalize upd H l (.lst []) = H1 at gl hl ha1 hd1 ⊢
      refine ⟨_, rfl, a, T.C_BadNumber, d, _, .ref T.C_BadBase, _, _, rfl, T.is_BadNumber, ha1, hd1, (fun u z => z), T.kit_BadNumber_BadBase, _, rfl, iteF ?_⟩
      refine ⟨_, rfl, a, T.C_BadNumber, d, _, .ref T.C_BadDenominator, _, _, rfl, T.is_BadNumber, ha1, hd1, (fun u z => z), T.kit_BadNumber_BadDenominator, _, rfl, iteF ?_⟩
      refine ⟨_, rfl, a, T.C_BadNumber, d, _, .ref T.C_BadFraction, _, _, rfl, T.is_BadNumber, ha1, hd1, (fun u z => z), T.kit_BadNumber_BadFraction, _, rfl, iteF ?_⟩
      refine ⟨_, rfl, a, T.C_BadNumber, d, _, .ref T.C_BadDigits, _, _, rfl, T.is_BadNumber, ha1, hd1, (fun u z => z), T.kit_BadNumber_BadDigits, _, rfl, iteF ?_⟩
      refine ⟨_, rfl, a, T.C_BadNumber, d, _, .ref T.C_BadNumber, _, _, rfl, T.is_BadNumber, ha1, hd1, (fun u z => z), T.kit_BadNumber_BadNumber, _, rfl, iteT ?_⟩
      refine ⟨_, rfl, .inl ⟨rfl, _, sq_lst hl⟩, _, rfl, a, T.C_BadNumber, d, _, v, rfl, T.T_BadNumber.xf, T.T_BadNumber.no, ha1, hd1, lookup_one _ _, ?_⟩
      refine ⟨by show 2 ≤ sizeLine; decide, fun p np => ?_⟩
      have g2 : Gr [] H1 (upd H1 p (.tup [.str "number", v])) := Gr.new np
      have hp := upd_same (H := H1) (a := p) (o := .tup [.str "number", v])
      have hl2 := g2 l _ (by simp) hl
      have ha2 := g2 a _ (by simp) ha1
      have hd2 := g2 d _ (by simp) hd1
      generalize upd H1 p (.tup [.str "number", v]) = H2 at g2 hp hl2 ha2 hd2 ⊢
      refine ⟨l, _, _, rfl, rfl, hl2, by show 0 < sizeLine; decide, ?_⟩
      have gA : Gr [] H (upd H2 l (.lst ([] ++ [.ref p]))) := fun u o _ e => by
        rw [upd_ne (ne_of_none e nl0)]
        exact g2 u o (by simp) (gl u o (by simp) e)
      have hl3 : (upd H2 l (.lst ([] ++ [.ref p]))) l = some (.lst [.ref p]) := upd_same
      have hp3 : (upd H2 l (.lst ([] ++ [.ref p]))) p = some (.tup [.str "number", v]) := by
        rw [upd_ne (ne_of hp hl2 (by intro z; cases z))]
        exact hp
      have ha2 := gA a _ (by simp) ha
      have hd2 := gA d _ (by simp) hd
      generalize upd H2 l (.lst ([] ++ [.ref p])) = H3 at gA hl3 hp3 ha2 hd2 ⊢
      refine ⟨_, rfl, a, T.C_BadNumber, d, _, .ref T.C_BadPaper, _, _, rfl, T.is_BadNumber, ha2, hd2, (fun u z => z), T.kit_BadNumber_BadPaper, _, rfl, iteF ?_⟩
      refine ⟨_, rfl, a, T.C_BadNumber, d, _, .ref T.C_BadText, _, _, rfl, T.is_BadNumber, ha2, hd2, (fun u z => z), T.kit_BadNumber_BadText, _, rfl, iteF ?_⟩
      refine ⟨_, rfl, a, T.C_BadNumber, d, _, .ref T.C_TooGreat, _, _, rfl, T.is_BadNumber, ha2, hd2, (fun u z => z), T.kit_BadNumber_TooGreat, _, rfl, iteF ?_⟩
      refine ⟨_, rfl, a, T.C_BadNumber, d, _, .ref T.C_Nothing, _, _, rfl, T.is_BadNumber, ha2, hd2, (fun u z => z), T.kit_BadNumber_Nothing, _, rfl, iteF ?_⟩
      refine ⟨_, rfl, l, _, rfl, .inl (sq_lst hl3), rfl, _, rfl, iteT ?_⟩
      exact ⟨_, rfl, l, _, _, .ref p, rfl, rfl, sq_lst hl3, atI_nat (j := 0) rfl, q p _ gA hp3⟩
    · obtain ⟨rfl, rfl, rfl⟩ := hc
      refine ⟨Nat.zero_le _, fun l nl => ?_⟩
      have gl : Gr [] H (upd H l (.lst [])) := Gr.new nl
      have hl : (upd H l (.lst [])) l = some (.lst []) := upd_same
      have ha1 := gl a _ (by simp) ha
      have hd1 := gl d _ (by simp) hd
      have nl0 : H l = none := nl
      generalize upd H l (.lst []) = H1 at gl hl ha1 hd1 ⊢
      refine ⟨_, rfl, a, T.C_TooGreat, d, _, .ref T.C_BadBase, _, _, rfl, T.is_TooGreat, ha1, hd1, (fun u z => z), T.kit_TooGreat_BadBase, _, rfl, iteF ?_⟩
      refine ⟨_, rfl, a, T.C_TooGreat, d, _, .ref T.C_BadDenominator, _, _, rfl, T.is_TooGreat, ha1, hd1, (fun u z => z), T.kit_TooGreat_BadDenominator, _, rfl, iteF ?_⟩
      refine ⟨_, rfl, a, T.C_TooGreat, d, _, .ref T.C_BadFraction, _, _, rfl, T.is_TooGreat, ha1, hd1, (fun u z => z), T.kit_TooGreat_BadFraction, _, rfl, iteF ?_⟩
      refine ⟨_, rfl, a, T.C_TooGreat, d, _, .ref T.C_BadDigits, _, _, rfl, T.is_TooGreat, ha1, hd1, (fun u z => z), T.kit_TooGreat_BadDigits, _, rfl, iteF ?_⟩
      refine ⟨_, rfl, a, T.C_TooGreat, d, _, .ref T.C_BadNumber, _, _, rfl, T.is_TooGreat, ha1, hd1, (fun u z => z), T.kit_TooGreat_BadNumber, _, rfl, iteF ?_⟩
      refine ⟨_, rfl, a, T.C_TooGreat, d, _, .ref T.C_BadPaper, _, _, rfl, T.is_TooGreat, ha1, hd1, (fun u z => z), T.kit_TooGreat_BadPaper, _, rfl, iteF ?_⟩
      refine ⟨_, rfl, a, T.C_TooGreat, d, _, .ref T.C_BadText, _, _, rfl, T.is_TooGreat, ha1, hd1, (fun u z => z), T.kit_TooGreat_BadText, _, rfl, iteF ?_⟩
      refine ⟨_, rfl, a, T.C_TooGreat, d, _, .ref T.C_TooGreat, _, _, rfl, T.is_TooGreat, ha1, hd1, (fun u z => z), T.kit_TooGreat_TooGreat, _, rfl, iteT ?_⟩
      refine ⟨_, rfl, .inl ⟨rfl, _, sq_lst hl⟩, _, rfl, a, T.C_TooGreat, d, _, v, rfl, T.T_TooGreat.xf, T.T_TooGreat.no, ha1, hd1, lookup_one _ _, ?_⟩
      refine ⟨by show 2 ≤ sizeLine; decide, fun p np => ?_⟩
      have g2 : Gr [] H1 (upd H1 p (.tup [.str "great", v])) := Gr.new np
      have hp := upd_same (H := H1) (a := p) (o := .tup [.str "great", v])
      have hl2 := g2 l _ (by simp) hl
      have ha2 := g2 a _ (by simp) ha1
      have hd2 := g2 d _ (by simp) hd1
      generalize upd H1 p (.tup [.str "great", v]) = H2 at g2 hp hl2 ha2 hd2 ⊢
      refine ⟨l, _, _, rfl, rfl, hl2, by show 0 < sizeLine; decide, ?_⟩
      have gA : Gr [] H (upd H2 l (.lst ([] ++ [.ref p]))) := fun u o _ e => by
        rw [upd_ne (ne_of_none e nl0)]
        exact g2 u o (by simp) (gl u o (by simp) e)
      have hl3 : (upd H2 l (.lst ([] ++ [.ref p]))) l = some (.lst [.ref p]) := upd_same
      have hp3 : (upd H2 l (.lst ([] ++ [.ref p]))) p = some (.tup [.str "great", v]) := by
        rw [upd_ne (ne_of hp hl2 (by intro z; cases z))]
        exact hp
      have ha2 := gA a _ (by simp) ha
      have hd2 := gA d _ (by simp) hd
      generalize upd H2 l (.lst ([] ++ [.ref p])) = H3 at gA hl3 hp3 ha2 hd2 ⊢
      refine ⟨_, rfl, a, T.C_TooGreat, d, _, .ref T.C_Nothing, _, _, rfl, T.is_TooGreat, ha2, hd2, (fun u z => z), T.kit_TooGreat_Nothing, _, rfl, iteF ?_⟩
      refine ⟨_, rfl, l, _, rfl, .inl (sq_lst hl3), rfl, _, rfl, iteT ?_⟩
      exact ⟨_, rfl, l, _, _, .ref p, rfl, rfl, sq_lst hl3, atI_nat (j := 0) rfl, q p _ gA hp3⟩
    · obtain ⟨rfl, rfl, rfl⟩ := hc
      refine ⟨Nat.zero_le _, fun l nl => ?_⟩
      have gl : Gr [] H (upd H l (.lst [])) := Gr.new nl
      have hl : (upd H l (.lst [])) l = some (.lst []) := upd_same
      have ha1 := gl a _ (by simp) ha
      have hd1 := gl d _ (by simp) hd
      have nl0 : H l = none := nl
      generalize upd H l (.lst []) = H1 at gl hl ha1 hd1 ⊢
      refine ⟨_, rfl, a, T.C_Nothing, d, _, .ref T.C_BadBase, _, _, rfl, T.is_Nothing, ha1, hd1, (fun u z => z), T.kit_Nothing_BadBase, _, rfl, iteF ?_⟩
      refine ⟨_, rfl, a, T.C_Nothing, d, _, .ref T.C_BadDenominator, _, _, rfl, T.is_Nothing, ha1, hd1, (fun u z => z), T.kit_Nothing_BadDenominator, _, rfl, iteF ?_⟩
      refine ⟨_, rfl, a, T.C_Nothing, d, _, .ref T.C_BadFraction, _, _, rfl, T.is_Nothing, ha1, hd1, (fun u z => z), T.kit_Nothing_BadFraction, _, rfl, iteF ?_⟩
      refine ⟨_, rfl, a, T.C_Nothing, d, _, .ref T.C_BadDigits, _, _, rfl, T.is_Nothing, ha1, hd1, (fun u z => z), T.kit_Nothing_BadDigits, _, rfl, iteF ?_⟩
      refine ⟨_, rfl, a, T.C_Nothing, d, _, .ref T.C_BadNumber, _, _, rfl, T.is_Nothing, ha1, hd1, (fun u z => z), T.kit_Nothing_BadNumber, _, rfl, iteF ?_⟩
      refine ⟨_, rfl, a, T.C_Nothing, d, _, .ref T.C_BadPaper, _, _, rfl, T.is_Nothing, ha1, hd1, (fun u z => z), T.kit_Nothing_BadPaper, _, rfl, iteF ?_⟩
      refine ⟨_, rfl, a, T.C_Nothing, d, _, .ref T.C_BadText, _, _, rfl, T.is_Nothing, ha1, hd1, (fun u z => z), T.kit_Nothing_BadText, _, rfl, iteF ?_⟩
      refine ⟨_, rfl, a, T.C_Nothing, d, _, .ref T.C_TooGreat, _, _, rfl, T.is_Nothing, ha1, hd1, (fun u z => z), T.kit_Nothing_TooGreat, _, rfl, iteF ?_⟩
      refine ⟨_, rfl, a, T.C_Nothing, d, _, .ref T.C_Nothing, _, _, rfl, T.is_Nothing, ha1, hd1, (fun u z => z), T.kit_Nothing_Nothing, _, rfl, iteT ?_⟩
      refine ⟨_, rfl, .inl ⟨rfl, _, sq_lst hl⟩, _, rfl, a, T.C_Nothing, d, _, v, rfl, T.T_Nothing.xf, T.T_Nothing.no, ha1, hd1, lookup_one _ _, ?_⟩
      refine ⟨by show 2 ≤ sizeLine; decide, fun p np => ?_⟩
      have g2 : Gr [] H1 (upd H1 p (.tup [.str "nothing", v])) := Gr.new np
      have hp := upd_same (H := H1) (a := p) (o := .tup [.str "nothing", v])
      have hl2 := g2 l _ (by simp) hl
      have ha2 := g2 a _ (by simp) ha1
      have hd2 := g2 d _ (by simp) hd1
      generalize upd H1 p (.tup [.str "nothing", v]) = H2 at g2 hp hl2 ha2 hd2 ⊢
      refine ⟨l, _, _, rfl, rfl, hl2, by show 0 < sizeLine; decide, ?_⟩
      have gA : Gr [] H (upd H2 l (.lst ([] ++ [.ref p]))) := fun u o _ e => by
        rw [upd_ne (ne_of_none e nl0)]
        exact g2 u o (by simp) (gl u o (by simp) e)
      have hl3 : (upd H2 l (.lst ([] ++ [.ref p]))) l = some (.lst [.ref p]) := upd_same
      have hp3 : (upd H2 l (.lst ([] ++ [.ref p]))) p = some (.tup [.str "nothing", v]) := by
        rw [upd_ne (ne_of hp hl2 (by intro z; cases z))]
        exact hp
      have ha2 := gA a _ (by simp) ha
      have hd2 := gA d _ (by simp) hd
      generalize upd H2 l (.lst ([] ++ [.ref p])) = H3 at gA hl3 hp3 ha2 hd2 ⊢
      refine ⟨_, rfl, l, _, rfl, .inl (sq_lst hl3), rfl, _, rfl, iteT ?_⟩
      exact ⟨_, rfl, l, _, _, .ref p, rfl, rfl, sq_lst hl3, atI_nat (j := 0) rfl, q p _ gA hp3⟩

/-- what comes of _law_outcome(lambda: e) -/
abbrev TTout (T : Txt K mg) : (XK → Hp → VK → Prop) → Hp → VK → Prop := TTg (errs T)
theorem exm_ok (T : Txt K mg) {C : Addr} {f w : Str} (h : (C, f, w) ∈ errs T) : PySem.W.exmAny K (.ref C) [.ref T.C_WheelError, .ref T.C_Nothing, .ref T.C_TooGreat] = some true := by
  unfold errs at h
  simp only [List.mem_cons, List.not_mem_nil, or_false, Prod.mk.injEq] at h
  rcases h with ⟨rfl, _, _⟩ | ⟨rfl, _, _⟩ | ⟨rfl, _, _⟩ | ⟨rfl, _, _⟩ | ⟨rfl, _, _⟩
  · exact T.exm_BadBase
  · exact T.exm_BadFraction
  · exact T.exm_BadNumber
  · exact T.exm_TooGreat
  · exact T.exm_Nothing
theorem gives_out {X : Cx} (T : Txt K mg) (hK : X.K = K) (hm : X.mg = mg) {q : Str} : Gives X ["call", "found", "error", "e"] "_law_outcome" (defScope s_law_outcome) T.d_law_outcome.f T.d_law_outcome.fd.code (defBody s_law_outcome) "call" q (TTout T) := by
  subst hK hm
  intro f c' s H Q tl hr act hc h
  have hu := hu_of hr
  refine ⟨_, (pss_cons (ps_asg (pe_tup (pa_cons pe_non (pa_cons pe_non pa_nil))) (pg_tup (by rfl) (pgs_cons (pg_name (i := 1) sc_law_outcome.nd rfl (by first | exact .inl rfl | exact .inr rfl)) (pgs_cons (pg_name (i := 2) sc_law_outcome.nd rfl (by first | exact .inl rfl | exact .inr rfl)) pgs_nil))))
      (pss_cons (ps_try_keep (i := 3) (j := 2) rfl rfl sc_law_outcome.nd rfl rfl (by decide) rfl rfl (names3 T rfl rfl rfl rfl) (fun W pn xe tk _ => pss_one (ps_set (i := 1) sc_law_outcome.nd rfl (by first | exact .inl rfl | exact .inr rfl) (act W pn xe _ _ tk))))
      (pss_one (ps_ret (pe_ifExp (pt_cmpR op_isN (pv 2) pe_non (nomark _)) (pe_lst (pa_cons (pv 1) pa_nil)) (pe_call (ok_law_word T) (hr.mono (by decide)) (by rfl) T.d_law_word.m T.d_law_word.F.kp T.d_law_word.b .nil pass0 (pa_cons (pv 2) pa_nil))))))), ?_⟩
  refine ⟨by show 2 ≤ sizeLine; decide, fun p np => ?_⟩
  refine ⟨p, _, rfl, sq_tup upd_same, rfl, _, _, rfl, _, _, rfl, rfl, ?_⟩
  have g1 : Gr [] H (upd H p (.tup [.non, .non])) := Gr.new np
  generalize upd H p (.tup [.non, .non]) = H1 at g1 ⊢
  refine ⟨rfl, g1 c' _ (by simp) hc, fun cls d H3 => ∃ (C dd : Addr) (f w : Str) (v : V), cls = .ref C ∧ d = some dd ∧ (C, f, w) ∈ errs T ∧ H3 dd = some (.xd [(f, v)]) ∧ ∀ t H4, Gr [] H3 H4 → H4 t = some (.tup [.str w, v]) → Q (.ref t) H4, ?_, ?_⟩
  · rintro cls d H3 ⟨C, dd, f, w, v, rfl, rfl, he, hx, k⟩
    refine ⟨exm_ok T he, fun a na => ?_⟩
    refine ⟨_, rfl, rfl, _, rfl, iteFb (decide_eq_false (by intro z; cases z)) ?_⟩
    refine ⟨_, rfl, a, C, dd, f, w, v, rfl, he, upd_same, ?_, fun t H4 g4 h4 => k t H4 ((Gr.new na).trans g4) h4⟩
    rw [upd_ne (ne_of_none hx na)]
    exact hx
  · refine h H1 _ _ g1 (fun v H3 k => ?_) (fun C d f w v H3 he hx k => ⟨C, d, f, w, v, rfl, rfl, he, hx, k⟩)
    refine ⟨_, rfl, rfl, _, rfl, iteTb rfl ?_⟩
    exact ⟨_, rfl, by show 1 ≤ sizeLine; decide, fun l nl => k l nl⟩

end
end Wn
namespace Wn
open PySem PySem.Spec PyProof.Rows L2
open LamX (Tabs ExtN tLam)
local macro_rules | `(tactic| walk_at "vc") => `(tactic| simp only [cxK, cxK2, start1, start2, start3, tRet, tRetN, tSeq, tNext, tIfS, tAsg, gName, tDrop, tVar, tC, tOp, tUn, tTest, tB, tNot, tAnd, tOr, tAndV, tOrV, tNotV, tIf, tCons, tNil, tCB, tCall, tChain, tAug, ipI, rI, rI0, rU, rIs, rGcd, rEq, rNe, scal,
  List.getElem?_cons_zero, List.getElem?_cons_succ, List.set_cons_zero, List.set_cons_succ, Option.some.injEq, List.cons.injEq, V.int.injEq, V.bl.injEq, V.ref.injEq, V.str.injEq, and_true, true_and, exists_eq_left, exists_eq_left', exists_and_left, exists_and_right, List.append_nil, List.nil_append, List.cons_append, exists_eq_right, exists_eq_right', and_assoc, exists_const, V.ty.injEq, ↓reduceIte, Bool.false_eq_true, Bool.not_true, Bool.not_false, decide_eq_true_eq])

section
variable {P : Program} {w : World} {K : PySem.W.Frag} {mg : Str → Option Value} {base : Heap}

theorem sq_step (r s l n : Nat) : (r * s ^ l) % n = if l % 2 = 1 then ((r * s % n) * (s * s % n) ^ (l / 2)) % n else (r * (s * s % n) ^ (l / 2)) % n := by
  have e : ∀ a, (a * (s * s % n) ^ (l / 2)) % n = (a * (s * s) ^ (l / 2)) % n := fun a => by
    rw [Nat.mul_mod, ← Nat.pow_mod, ← Nat.mul_mod]
  split
  · rename_i h
    have hl : l = 2 * (l / 2) + 1 := by omega
    rw [e, Nat.mod_mul_mod]
    conv => lhs; rw [hl]
    rw [Nat.pow_succ, Nat.pow_mul, Nat.pow_two, Nat.mul_comm ((s * s) ^ (l / 2)) s, Nat.mul_assoc]
  · rename_i h
    have hl : l = 2 * (l / 2) := by omega
    rw [e]
    conv => lhs; rw [hl]
    rw [Nat.pow_mul, Nat.pow_two]
def sp_power_rest : Sp := fun vs H Q _ => ∃ b e n : Nat, vs = [.int b, .int e, .int n] ∧ (1 ≤ n ∧ n ≤ 5000) ∧ Q (.int (b ^ e % n : Nat)) H
theorem ok_power_rest (T : Txt K mg) : FnOk P w K mg base CX0 1 T.d_power_rest.f T.d_power_rest.fd ["number", "exponent", "divisor"] sp_power_rest := by
  refine T.d_power_rest.F.ok sc_power_rest (fun vs H Q E h => ?_) (fun cdv A outer s H vs Q E hr h => ?_)
  · obtain ⟨b, e, n, rfl, _⟩ := h; rfl
  · have hu := hu_of hr
    refine ⟨_, (pss_cons (ps_set (i := 3) sc_power_rest.nd rfl (by first | exact .inl rfl | exact .inr rfl) (pe_op op_mod pe_int (pv 2)))
      (pss_cons (ps_set (i := 4) sc_power_rest.nd rfl (by first | exact .inl rfl | exact .inr rfl) (pe_op op_mod (pv 0) (pv 2)))
      (pss_cons (ps_set (i := 5) sc_power_rest.nd rfl (by first | exact .inl rfl | exact .inr rfl) (pv 1))
      (pss_cons (ps_while PassesOwn.never (pt_cmpR op_gt (pv 5) pe_int (nomark _)) (pss_cons (ps_if (pt_cmpR op_eq (pe_op op_mod (pv 5) pe_int) pe_int (nomark _)) (pss_one (ps_set (i := 3) sc_power_rest.nd rfl (by first | exact .inl rfl | exact .inr rfl) (pe_op op_mod (pe_op op_mul (pv 3) (pv 4)) (pv 2)))) pss_nil)
      (pss_cons (ps_set (i := 4) sc_power_rest.nd rfl (by first | exact .inl rfl | exact .inr rfl) (pe_op op_mod (pe_op op_mul (pv 4) (pv 4)) (pv 2)))
      (pss_one (ps_set (i := 5) sc_power_rest.nd rfl (by first | exact .inl rfl | exact .inr rfl) (pe_op op_fdiv (pv 5) pe_int))))))
      (pss_one (ps_ret (pv 3))))))), ?_⟩
    obtain ⟨b, e, n, rfl, ⟨hn1, hn2⟩, q⟩ := h
    have hn0 : (0 : Int) < (n : Int) := by omega
    have e1 : (1 : Int) % (n : Int) = ((1 % n : Nat) : Int) := by rw [Int.natCast_emod]; rfl
    refine ⟨_, rfl, 1, n, rfl, rfl, hn0, ?_⟩
    refine ⟨_, rfl, _, rfl, b, n, rfl, rfl, hn0, ?_⟩
    refine ⟨_, rfl, ?_⟩
    refine ⟨fun m σ H' => H' = H ∧ ∃ r s : Nat, r < n ∧ s < n ∧ r * s ^ m % n = b ^ e % n ∧ σ = [some (.int b), some (.int e), some (.int n), some (.int r), some (.int s), some (.int m)], ⟨e, rfl, 1 % n, b % n, Nat.mod_lt _ hn1, Nat.mod_lt _ hn1, ?_, ?_⟩, ?_⟩
    · rw [Nat.mod_mul_mod, Nat.one_mul, ← Nat.pow_mod]
    · rw [← e1, Int.natCast_emod]
      rfl
    rintro m σ H' ⟨rfl, r, s, hr1, hs1, hrs, rfl⟩
    refine ⟨_, rfl, _, _, rfl, rfl, _, rfl, ?_⟩
    by_cases hc : (0 : Int) < (m : Int)
    · rw [decide_eq_true hc]
      have st := sq_step r s m n
      have e2 : (m : Int) % 2 = ((m % 2 : Nat) : Int) := by omega
      have e3 : (m : Int) / 2 = ((m / 2 : Nat) : Int) := by omega
      refine iteT ⟨fun σ' H2 => H2 = H' ∧ ∃ r s : Nat, r < n ∧ s < n ∧ r * s ^ (m / 2) % n = b ^ e % n ∧ σ' = [some (.int b), some (.int e), some (.int n), some (.int r), some (.int s), some (.int (m / 2 : Nat))], ?_, ?_⟩
      · rintro σ' H2 ⟨rfl, r', s', h1, h2, h3, rfl⟩
        exact ⟨m / 2, by omega, rfl, r', s', h1, h2, h3, rfl⟩
      · refine ⟨_, rfl, _, _, rfl, rfl, (by show (0 : Int) < 2; decide), rfl, _, rfl, ?_⟩
        by_cases ho : m % 2 = 1
        · rw [decide_eq_true (show V.int ((m : Int) % 2) = V.int 1 by rw [e2, ho]; rfl)]
          rw [if_pos ho] at st
          refine iteT ⟨_, rfl, _, rfl, _, _, rfl, rfl, .inl ⟨by omega, by omega⟩, _, rfl, _, _, rfl, rfl, hn0, ?_⟩
          refine ⟨_, rfl, _, rfl, _, _, rfl, rfl, .inl ⟨by omega, by omega⟩, _, rfl, _, _, rfl, rfl, hn0, ?_⟩
          refine ⟨_, rfl, _, _, rfl, rfl, ⟨by decide, by decide⟩, rfl, r * s % n, s * s % n, Nat.mod_lt _ hn1, Nat.mod_lt _ hn1, st.symm.trans hrs, ?_⟩
          dsimp only
          rw [icm, icm, e3]
          rfl
        · rw [decide_eq_false (show ¬ V.int ((m : Int) % 2) = V.int 1 from fun z => ho (by have := V.int.inj z; omega))]
          rw [if_neg ho] at st
          refine iteF ?_
          refine ⟨_, rfl, _, rfl, _, _, rfl, rfl, .inl ⟨by omega, by omega⟩, _, rfl, _, _, rfl, rfl, hn0, ?_⟩
          refine ⟨_, rfl, _, _, rfl, rfl, ⟨by decide, by decide⟩, rfl, r, s * s % n, hr1, Nat.mod_lt _ hn1, st.symm.trans hrs, ?_⟩
          dsimp only
          rw [icm, e3]
          rfl
    · rw [decide_eq_false hc]
      refine iteF ⟨_, rfl, ?_⟩
      have z : m = 0 := by omega
      subst z
      rw [Nat.pow_zero, Nat.mul_one, Nat.mod_eq_of_lt hr1] at hrs
      rw [← hrs] at q
      exact q

def FR (b x n : Nat) : Prop := BN b n ∧ x < n ∧ Nat.gcd x n = 1
def sp_remainder_at : Sp := fun vs H Q _ => ∃ (b x n k : Nat) (a : Addr), vs = [.int b, .ref a, .int k] ∧ H a = some (.tup [.int x, .int n]) ∧ FR b x n ∧ k ≤ 10 ^ 30 ∧ Q (.int (rem b n x k : Nat)) H
theorem ok_remainder_at (T : Txt K mg) : FnOk P w K mg base CX0 6 T.d_remainder_at.f T.d_remainder_at.fd ["base", "fraction", "place"] sp_remainder_at := by
  refine T.d_remainder_at.F.ok sc_remainder_at (fun vs H Q E h => ?_) (fun cdv A outer s H vs Q E hr h => ?_)
  · obtain ⟨b, x, n, k, a, rfl, _⟩ := h; rfl
  · have hu := hu_of hr
    refine ⟨_, (pss_cons (ps_expr (pe_call (ok_need_base T) (hr.mono (by decide)) (by rfl) T.d_need_base.m T.d_need_base.F.kp T.d_need_base.b .nil pass0 (pa_cons (pv 0) pa_nil)))
      (pss_cons (ps_asg (pe_call (ok_need_fraction T) (hr.mono (by decide)) (by rfl) T.d_need_fraction.m T.d_need_fraction.F.kp T.d_need_fraction.b .nil pass0 (pa_cons (pv 1) pa_nil)) (pg_tup (by rfl) (pgs_cons (pg_name (i := 3) sc_remainder_at.nd rfl (by first | exact .inl rfl | exact .inr rfl)) (pgs_cons (pg_name (i := 4) sc_remainder_at.nd rfl (by first | exact .inl rfl | exact .inr rfl)) pgs_nil))))
      (pss_cons (ps_if (pt_not (pt_val (pe_call (ok_is_within T) (hr.mono (by decide)) (by rfl) T.d_is_within.m T.d_is_within.F.kp T.d_is_within.b .nil pass0 (pa_cons (pv 2) (pa_cons pe_int (pa_cons (pe_glob (v := .int 1000000000000000000000000000000) (by rfl) T.c_LAST_PLACE ⟨_, rfl⟩) pa_nil)))))) (pss_one ps_never) pss_nil)
      (pss_one (ps_ret (pe_op op_mod (pe_op op_mul (pv 3) (pe_call (ok_power_rest T) (hr.mono (by decide)) (by rfl) T.d_power_rest.m T.d_power_rest.F.kp T.d_power_rest.b .nil pass0 (pa_cons (pv 0) (pa_cons (pv 2) (pa_cons (pv 4) pa_nil))))) (pv 4))))))), ?_⟩
    obtain ⟨b, x, n, k, a, rfl, ha, ⟨⟨hb1, hb2, hn1, hn2⟩, hx, hg⟩, hk, q⟩ := h
    refine ⟨_, rfl, b, rfl, ⟨by omega, by omega⟩, ?_⟩
    refine ⟨_, rfl, a, x, n, rfl, ha, ⟨hx, hn2, hg⟩, ?_⟩
    refine ⟨a, _, rfl, sq_tup ha, rfl, _, _, rfl, _, _, rfl, rfl, ?_⟩
    refine ⟨_, rfl, k, _, _, rfl, ⟨by omega, by omega⟩, true, rfl, iteF ?_⟩
    refine ⟨_, rfl, _, rfl, _, rfl, _, rfl, b, k, n, rfl, ⟨hn1, hn2⟩, ?_⟩
    have hl : b ^ k % n < n := Nat.mod_lt _ hn1
    refine ⟨x, _, rfl, rfl, .inl ⟨by omega, by omega⟩, _, rfl, _, n, rfl, rfl, (show (0 : Int) < (n : Int) by omega), ?_⟩
    dsimp only
    rw [icm, show x * (b ^ k % n) % n = rem b n x k by unfold rem; rw [Nat.mul_mod_mod]]
    exact q

def sp_digit_at : Sp := fun vs H Q _ => ∃ (b x n k : Nat) (a : Addr), vs = [.int b, .ref a, .int k] ∧ H a = some (.tup [.int x, .int n]) ∧ FR b x n ∧ k ≤ 10 ^ 30 ∧ Q (.int (rem b n x k * b / n : Nat)) H
theorem ok_digit_at (T : Txt K mg) : FnOk P w K mg base CX0 7 T.d_digit_at.f T.d_digit_at.fd ["base", "fraction", "place"] sp_digit_at := by
  refine T.d_digit_at.F.ok sc_digit_at (fun vs H Q E h => ?_) (fun cdv A outer s H vs Q E hr h => ?_)
  · obtain ⟨b, x, n, k, a, rfl, _⟩ := h; rfl
  · have hu := hu_of hr
    refine ⟨_, (pss_one (ps_ret (pe_op op_fdiv (pe_op op_mul (pv 0) (pe_call (ok_remainder_at T) (hr.mono (by decide)) (by rfl) T.d_remainder_at.m T.d_remainder_at.F.kp T.d_remainder_at.b .nil pass0 (pa_cons (pv 0) (pa_cons (pv 1) (pa_cons (pv 2) pa_nil))))) (pe_ix (r := rIxT K) ix_tup (pv 1) pe_int (fun _ _ => rfl))))), ?_⟩
    obtain ⟨b, x, n, k, a, rfl, ha, hf, hk, q⟩ := h
    obtain ⟨⟨hb1, hb2, hn1, hn2⟩, hx, hg⟩ := id hf
    refine ⟨_, rfl, _, rfl, _, rfl, _, rfl, b, x, n, k, a, rfl, ha, hf, hk, ?_⟩
    have hl : rem b n x k < n := rem_lt hn1
    refine ⟨b, _, rfl, rfl, .inl ⟨by omega, by omega⟩, _, rfl, a, _, _, .int n, rfl, rfl, sq_tup ha, atI_nat (j := 1) rfl, _, n, rfl, rfl, ⟨by omega, by omega⟩, ?_⟩
    dsimp only
    rw [icd, Nat.mul_comm b]
    exact q

def sp_digits_from : Sp := fun vs H Q _ => ∃ (b x n k c : Nat) (a : Addr), vs = [.int b, .ref a, .int k, .int c] ∧ H a = some (.tup [.int x, .int n]) ∧ FR b x n ∧ (k ≤ 10 ^ 30 ∧ c ≤ 400) ∧
  ∀ t H', Gr [] H H' → H' t = some (.tup (dgf b n x k c)) → Q (.ref t) H'
theorem rem_add (b n x i j : Nat) : rem b n (rem b n x i) j = rem b n x (i + j) := by
  unfold rem
  rw [Nat.mod_mul_mod, Nat.mul_assoc, ← Nat.pow_add]
theorem dgs_dgf (b n x k c : Nat) : dgs b n (rem b n x k) c = dgf b n x k c := by
  unfold dgs dgf
  simp only [rem_add]
/-- in lowest terms, without the integer part -/
def lw (x n : Nat) : Nat × Nat := (x % n / Nat.gcd (x % n) n, n / Nat.gcd (x % n) n)
theorem lw_ok {x n : Nat} (hn : 1 ≤ n) : (lw x n).1 < (lw x n).2 ∧ 1 ≤ (lw x n).2 ∧ (lw x n).2 ≤ n ∧ Nat.gcd (lw x n).1 (lw x n).2 = 1 := by
  unfold lw
  have hr := Nat.mod_lt x hn
  have hg0 : 0 < Nat.gcd (x % n) n := Nat.gcd_pos_of_pos_right _ hn
  exact ⟨Nat.div_lt_div_of_lt_of_dvd (Nat.gcd_dvd_right ..) hr, Nat.div_pos (Nat.gcd_le_right _ hn) hg0, Nat.div_le_self .., Nat.coprime_div_gcd_div_gcd hg0⟩
def pv2 (q : Nat × Nat) : HO := .tup [.int (q.1 : Nat), .int (q.2 : Nat)]
def sp_reduced : Sp := fun vs H Q _ => ∃ (x n : Nat), vs = [.int x, .int n] ∧ (1 ≤ n ∧ n ≤ 5000) ∧ ∀ t, H t = none → Q (.ref t) (upd H t (pv2 (lw x n)))
def sp_reduced0 : Sp := fun vs H Q _ => ∃ (x n : Nat), vs = [.int x, .int n] ∧ (1 ≤ n ∧ n ≤ 100000000) ∧ ∀ t, H t = none → Q (.ref t) (upd H t (pv2 (lw x n)))
def sp_added : Sp := fun vs H Q _ => ∃ (p q : Addr) (x n y m : Nat), vs = [.ref p, .ref q] ∧ H p = some (.tup [.int x, .int n]) ∧ H q = some (.tup [.int y, .int m]) ∧ (x < n ∧ n ≤ 5000 ∧ y < m ∧ m ≤ 5000) ∧ (lw (x * m + y * n) (n * m)).2 ≤ 5000 ∧ ∀ t, H t = none → Q (.ref t) (upd H t (pv2 (lw (x * m + y * n) (n * m))))
/-- the object of a dial -/
def dlO (T : Txt K mg) (dx : Addr) (b : Nat) (p l : Addr) : HO := .ins T.C_Dial dx [("_base", .int b), ("_shown", .ref p), ("_past", .ref l)]
def sp_Dial_init (T : Txt K mg) : Sp := fun vs H Q _ => ∃ (a dx : Addr) (b : Nat) (p : Addr) (x n : Nat), vs = [.ref a, .int b, .ref p] ∧ H a = some (.ins T.C_Dial dx []) ∧ H p = some (.tup [.int x, .int n]) ∧ (2 ≤ b ∧ b ≤ 1000) ∧ (x < n ∧ n ≤ 5000 ∧ Nat.gcd x n = 1) ∧
  ∀ l, H l = none → Q .non (upd (upd H l (.lst [])) a (dlO T dx b p l))
def sp_Dial_base (T : Txt K mg) : Sp := fun vs H Q _ => ∃ (a dx l p : Addr) (b : Nat), vs = [.ref a] ∧ H a = some (dlO T dx b p l) ∧ Q (.int b) H
def sp_Dial_fraction (T : Txt K mg) : Sp := fun vs H Q _ => ∃ (a dx l p : Addr) (b : Nat), vs = [.ref a] ∧ H a = some (dlO T dx b p l) ∧ Q (.ref p) H
def sp_Dial_first (T : Txt K mg) : Sp := fun vs H Q _ => ∃ (a dx l p : Addr) (b x n : Nat), vs = [.ref a] ∧ H a = some (dlO T dx b p l) ∧ H p = some (.tup [.int x, .int n]) ∧ (b ≤ 1000 ∧ x < n ∧ n ≤ 5000) ∧ Q (.int (b * x / n : Nat)) H
def sp_Dial_move (T : Txt K mg) : Sp := fun vs H Q _ => ∃ (a dx l p q : Addr) (b : Nat) (past : List V), vs = [.ref a, .ref q] ∧ H a = some (dlO T dx b p l) ∧ H l = some (.lst past) ∧ past.length ≤ 5000 ∧ Q .non (upd (upd H l (.lst (past ++ [.ref p]))) a (dlO T dx b q l))
def sp_Dial_len (T : Txt K mg) : Sp := fun vs H Q _ => ∃ (a dx l p : Addr) (b : Nat) (past : List V), vs = [.ref a] ∧ H a = some (dlO T dx b p l) ∧ H l = some (.lst past) ∧ Q (.int (past.length : Nat)) H
/-- a move to q, a new fraction -/
def mvH (T : Txt K mg) (H : Hp) (a dx l p t : Addr) (b : Nat) (past : List V) (q : Nat × Nat) : Hp := upd (upd (upd H t (pv2 q)) l (.lst (past ++ [.ref p]))) a (dlO T dx b t l)
def sp_Dial_turn (T : Txt K mg) : Sp := fun vs H Q _ => ∃ (a dx l p : Addr) (b x n k : Nat) (past : List V), vs = [.ref a, .int k] ∧ H a = some (dlO T dx b p l) ∧ H l = some (.lst past) ∧ H p = some (.tup [.int x, .int n]) ∧ past.length ≤ 5000 ∧ FR b x n ∧ k ≤ 10 ^ 30 ∧
  ∀ t, H t = none → Q .non (mvH T H a dx l p t b past (lw (rem b n x k) n))
def sp_Dial_scale (T : Txt K mg) : Sp := fun vs H Q _ => ∃ (a dx l p : Addr) (b x n k : Nat) (past : List V), vs = [.ref a, .int k] ∧ H a = some (dlO T dx b p l) ∧ H l = some (.lst past) ∧ H p = some (.tup [.int x, .int n]) ∧ past.length ≤ 5000 ∧ FR b x n ∧ k ≤ 10 ^ 30 ∧
  ∀ t, H t = none → Q .non (mvH T H a dx l p t b past (lw (x * k) n))
def sp_Dial_add (T : Txt K mg) : Sp := fun vs H Q _ => ∃ (a dx l p q : Addr) (b x n y m : Nat) (past : List V), vs = [.ref a, .ref q] ∧ H a = some (dlO T dx b p l) ∧ H l = some (.lst past) ∧ H p = some (.tup [.int x, .int n]) ∧ H q = some (.tup [.int y, .int m]) ∧ past.length ≤ 5000 ∧ FR b x n ∧ (y < m ∧ m ≤ 5000 ∧ Nat.gcd y m = 1) ∧ (lw (x * m + y * n) (n * m)).2 ≤ 5000 ∧
  ∀ t, H t = none → Q .non (mvH T H a dx l p t b past (lw (x * m + y * n) (n * m)))
def sp_Dial_call (T : Txt K mg) : Sp := fun vs H Q _ => ∃ (a dx l p : Addr) (b x n k : Nat), vs = [.ref a, .int k] ∧ H a = some (dlO T dx b p l) ∧ H p = some (.tup [.int x, .int n]) ∧ FR b x n ∧ k ≤ 10 ^ 30 ∧ Q (.int (rem b n x k * b / n : Nat)) H
def kB : Str := "_base"
theorem n1 : ((Str.ofString "_shown") == (Str.ofString "_base")) = false := by decide +kernel
theorem n2 : ((Str.ofString "_past") == (Str.ofString "_base")) = false := by decide +kernel
theorem n3 : ((Str.ofString "_past") == (Str.ofString "_shown")) = false := by decide +kernel
theorem n4 : ((Str.ofString "_base") == (Str.ofString "_shown")) = false := by decide +kernel
theorem lk_base (u v w : V) : List.lookup (Str.ofString "_base") [(Str.ofString "_base", u), (Str.ofString "_shown", v), (Str.ofString "_past", w)] = some u := by
  rw [List.lookup_cons, beq_self_eq_true]
theorem lk_shown (u v w : V) : List.lookup (Str.ofString "_shown") [(Str.ofString "_base", u), (Str.ofString "_shown", v), (Str.ofString "_past", w)] = some v := by
  rw [List.lookup_cons, n1, List.lookup_cons, beq_self_eq_true]
theorem lk_past (u v w : V) : List.lookup (Str.ofString "_past") [(Str.ofString "_base", u), (Str.ofString "_shown", v), (Str.ofString "_past", w)] = some w := by
  rw [List.lookup_cons, n2, List.lookup_cons, n3, List.lookup_cons, beq_self_eq_true]
theorem init_eq {H : Hp} {a l : Addr} {o1 o2 o3 ol : HO} (hne : l ≠ a) : upd (upd (upd (upd H a o1) a o2) l ol) a o3 = upd (upd H l ol) a o3 := funext fun b => by
  by_cases h1 : b = a
  · rw [h1, upd_same, upd_same]
  · rw [upd_ne h1, upd_ne h1]
    by_cases h2 : b = l
    · rw [h2, upd_same, upd_same]
    · rw [upd_ne h2, upd_ne h2, upd_ne h1, upd_ne h1]
theorem ok_reduced (T : Txt K mg) : FnOk P w K mg base CX0 4 T.d_reduced.f T.d_reduced.fd ["numerator", "denominator"] sp_reduced := by
  refine T.d_reduced.F.ok sc_reduced (fun vs H Q E h => ?_) (fun cdv A outer s H vs Q E hr h => ?_)
  · obtain ⟨x, n, rfl, _⟩ := h; rfl
  · have hu := hu_of hr
    refine ⟨_, (pss_cons (ps_if (pt_not (pt_val (pe_call (ok_is_integer T) (hr.mono (by decide)) (by rfl) T.d_is_integer.m T.d_is_integer.F.kp T.d_is_integer.b .nil pass0 (pa_cons (pv 0) pa_nil)))) (pss_one ps_never) pss_nil)
      (pss_cons (ps_expr (pe_call (ok_need_denominator T) (hr.mono (by decide)) (by rfl) T.d_need_denominator.m T.d_need_denominator.F.kp T.d_need_denominator.b .nil pass0 (pa_cons (pv 1) pa_nil)))
      (pss_cons (ps_set (i := 2) sc_reduced.nd rfl (by first | exact .inl rfl | exact .inr rfl) (pe_op op_mod (pv 0) (pv 1)))
      (pss_cons (ps_set (i := 3) sc_reduced.nd rfl (by first | exact .inl rfl | exact .inr rfl) (pe_callBfun cr_gcd (by rfl) T.b_gcd (pa_cons (pv 2) (pa_cons (pv 1) pa_nil))))
      (pss_one (ps_ret (pe_tup (pa_cons (pe_op op_fdiv (pv 2) (pv 3)) (pa_cons (pe_op op_fdiv (pv 1) (pv 3)) pa_nil))))))))), ?_⟩
    obtain ⟨x, n, rfl, ⟨hn1, hn2⟩, q⟩ := h
    have hn0 : (0 : Int) < (n : Int) := by omega
    have hg0 : 0 < Nat.gcd (x % n) n := Nat.gcd_pos_of_pos_right _ hn1
    have hg1 : Nat.gcd (x % n) n ≤ n := Nat.gcd_le_right _ hn1
    refine ⟨_, rfl, x, rfl, _, rfl, iteF ?_⟩
    refine ⟨_, rfl, n, rfl, ⟨by omega, by omega⟩, ?_⟩
    refine ⟨_, rfl, _, rfl, _, _, rfl, rfl, hn0, ?_⟩
    dsimp only
    rw [← Int.natCast_emod]
    refine ⟨_, rfl, _, rfl, (x % n : Nat), n, rfl, ?_⟩
    rw [Int.natAbs_natCast, Int.natAbs_natCast]
    refine ⟨_, rfl, _, rfl, _, _, rfl, rfl, ⟨by omega, by omega⟩, _, rfl, _, rfl, _, _, rfl, rfl, ⟨by omega, by omega⟩, by show 2 ≤ sizeLine; decide, fun p np => ?_⟩
    dsimp only
    rw [← Int.natCast_ediv, ← Int.natCast_ediv]
    exact q p np
theorem ok_added (T : Txt K mg) : FnOk P w K mg base CX0 3 T.d_added.f T.d_added.fd ["fraction", "other"] sp_added := by
  refine T.d_added.F.ok sc_added (fun vs H Q E h => ?_) (fun cdv A outer s H vs Q E hr h => ?_)
  · obtain ⟨p, q, x, n, y, m, rfl, _⟩ := h; rfl
  · have hu := hu_of hr
    refine ⟨_, (pss_cons (ps_set (i := 2) sc_added.nd rfl (by first | exact .inl rfl | exact .inr rfl) (pe_op op_add (pe_op op_mul (pe_ix (r := rIxT K) ix_tup (pv 0) pe_int (fun _ _ => rfl)) (pe_ix (r := rIxT K) ix_tup (pv 1) pe_int (fun _ _ => rfl))) (pe_op op_mul (pe_ix (r := rIxT K) ix_tup (pv 1) pe_int (fun _ _ => rfl)) (pe_ix (r := rIxT K) ix_tup (pv 0) pe_int (fun _ _ => rfl)))))
      (pss_cons (ps_set (i := 3) sc_added.nd rfl (by first | exact .inl rfl | exact .inr rfl) (pe_op op_mul (pe_ix (r := rIxT K) ix_tup (pv 0) pe_int (fun _ _ => rfl)) (pe_ix (r := rIxT K) ix_tup (pv 1) pe_int (fun _ _ => rfl))))
      (pss_cons (ps_set (i := 4) sc_added.nd rfl (by first | exact .inl rfl | exact .inr rfl) (pe_op op_mod (pv 2) (pv 3)))
      (pss_cons (ps_set (i := 5) sc_added.nd rfl (by first | exact .inl rfl | exact .inr rfl) (pe_callBfun cr_gcd (by rfl) T.b_gcd (pa_cons (pv 4) (pa_cons (pv 3) pa_nil))))
      (pss_cons (ps_if (pt_cmpR op_gt (pe_op op_fdiv (pv 3) (pv 5)) (pe_glob (v := .int 5000) (by rfl) T.c_MOST_DENOMINATOR ⟨_, rfl⟩) (nomark _)) (pss_one ps_never) pss_nil)
      (pss_one (ps_ret (pe_tup (pa_cons (pe_op op_fdiv (pv 4) (pv 5)) (pa_cons (pe_op op_fdiv (pv 3) (pv 5)) pa_nil)))))))))), ?_⟩
    obtain ⟨p, q', x, n, y, m, rfl, hp, hq, ⟨hx, hn, hy, hm⟩, h5, q⟩ := h
    have hnm : 1 ≤ n * m := Nat.mul_pos (by omega) (by omega)
    have hnm2 : n * m ≤ 25000000 := Nat.mul_le_mul hn hm
    have hg0 : 0 < Nat.gcd ((x * m + y * n) % (n * m)) (n * m) := Nat.gcd_pos_of_pos_right _ hnm
    have hg1 : Nat.gcd ((x * m + y * n) % (n * m)) (n * m) ≤ n * m := Nat.gcd_le_right _ hnm
    refine ⟨_, rfl, p, _, 0, .int x, rfl, rfl, sq_tup hp, atI_nat (j := 0) rfl, _, rfl, q', _, 1, .int m, rfl, rfl, sq_tup hq, atI_nat (j := 1) rfl, _, _, rfl, rfl, .inl ⟨by omega, by omega⟩, ?_⟩
    refine ⟨_, rfl, q', _, 0, .int y, rfl, rfl, sq_tup hq, atI_nat (j := 0) rfl, _, rfl, p, _, 1, .int n, rfl, rfl, sq_tup hp, atI_nat (j := 1) rfl, _, _, rfl, rfl, .inl ⟨by omega, by omega⟩, _, _, rfl, rfl, ?_⟩
    dsimp only
    refine ⟨_, rfl, p, _, 1, .int n, rfl, rfl, sq_tup hp, atI_nat (j := 1) rfl, _, rfl, q', _, 1, .int m, rfl, rfl, sq_tup hq, atI_nat (j := 1) rfl, _, _, rfl, rfl, .inl ⟨by omega, by omega⟩, ?_⟩
    dsimp only
    rw [← Int.natCast_mul, ← Int.natCast_mul, ← Int.natCast_mul, ← Int.natCast_add]
    have h5' : n * m / Nat.gcd ((x * m + y * n) % (n * m)) (n * m) ≤ 5000 := h5
    have q' : ∀ t, H t = none → Q (.ref t) (upd H t (.tup [.int ((x * m + y * n) % (n * m) / Nat.gcd ((x * m + y * n) % (n * m)) (n * m) : Nat), .int (n * m / Nat.gcd ((x * m + y * n) % (n * m)) (n * m) : Nat)])) := q
    generalize n * m = D at *
    generalize x * m + y * n = N at *
    have hn0 : (0 : Int) < (D : Int) := by omega
    refine ⟨_, rfl, _, rfl, _, _, rfl, rfl, hn0, ?_⟩
    dsimp only
    rw [← Int.natCast_emod]
    refine ⟨_, rfl, _, rfl, (N % D : Nat), D, rfl, ?_⟩
    rw [Int.natAbs_natCast, Int.natAbs_natCast]
    refine ⟨_, rfl, _, rfl, _, _, rfl, rfl, ⟨by omega, by omega⟩, _, _, rfl, rfl, _, rfl, ?_⟩
    dsimp only
    rw [← Int.natCast_ediv]
    refine iteFb (decide_eq_false (by omega)) ?_
    refine ⟨_, rfl, _, rfl, _, _, rfl, rfl, ⟨by omega, by omega⟩, _, rfl, _, rfl, _, _, rfl, rfl, ⟨by omega, by omega⟩, by show 2 ≤ sizeLine; decide, fun t nt => ?_⟩
    dsimp only
    rw [← Int.natCast_ediv, ← Int.natCast_ediv]
    exact q' t nt
theorem ok_law_lowest (T : Txt K mg) : FnOk P w K mg base CX0 2 T.d_law_lowest.f T.d_law_lowest.fd ["x", "n"] sp_reduced0 := by
  refine T.d_law_lowest.F.ok sc_law_lowest (fun vs H Q E h => ?_) (fun cdv A outer s H vs Q E hr h => ?_)
  · obtain ⟨x, n, rfl, _⟩ := h; rfl
  · have hu := hu_of hr
    refine ⟨_, (pss_cons (ps_set (i := 2) sc_law_lowest.nd rfl (by first | exact .inl rfl | exact .inr rfl) (pe_op op_mod (pe_callTy call_int1 (by rfl) T.b_int (by decide +kernel) (pa_cons (pv 0) pa_nil)) (pv 1)))
      (pss_cons (ps_set (i := 3) sc_law_lowest.nd rfl (by first | exact .inl rfl | exact .inr rfl) (pe_call (ok_law_divisor T) (hr.mono (by decide)) (by rfl) T.d_law_divisor.m T.d_law_divisor.F.kp T.d_law_divisor.b .nil pass0 (pa_cons (pv 2) (pa_cons (pv 1) pa_nil))))
      (pss_one (ps_ret (pe_tup (pa_cons (pe_op op_fdiv (pv 2) (pv 3)) (pa_cons (pe_op op_fdiv (pv 1) (pv 3)) pa_nil))))))), ?_⟩
    obtain ⟨x, n, rfl, ⟨hn1, hn2⟩, q⟩ := h
    have hn0 : (0 : Int) < (n : Int) := by omega
    have hg0 : 0 < Nat.gcd (x % n) n := Nat.gcd_pos_of_pos_right _ hn1
    have hg1 : Nat.gcd (x % n) n ≤ n := Nat.gcd_le_right _ hn1
    refine ⟨_, rfl, .inl ⟨_, rfl, _, rfl, _, _, rfl, rfl, hn0, ?_⟩⟩
    dsimp only
    rw [← Int.natCast_emod]
    refine ⟨_, rfl, _, rfl, x % n, n, rfl, ?_⟩
    refine ⟨_, rfl, _, rfl, _, _, rfl, rfl, ⟨by omega, by omega⟩, _, rfl, _, rfl, _, _, rfl, rfl, ⟨by omega, by omega⟩, by show 2 ≤ sizeLine; decide, fun p np => ?_⟩
    dsimp only
    rw [← Int.natCast_ediv, ← Int.natCast_ediv]
    exact q p np
theorem ok_Dial_init (T : Txt K mg) : FnOk P w K mg base CX0 5 T.m_Dial_init T.fd_Dial_init ["self", "base", "fraction"] (sp_Dial_init T) := by
  refine T.F_Dial_init.ok sc_Dial_init (fun vs H Q E h => ?_) (fun cdv A outer s H vs Q E hr h => ?_)
  · obtain ⟨a, dx, b, p, x, n, rfl, _⟩ := h; rfl
  · have hu := hu_of hr
    refine ⟨_, (pss_cons (ps_fld (pv 0) (pe_call (ok_need_base T) (hr.mono (by decide)) (by rfl) T.d_need_base.m T.d_need_base.F.kp T.d_need_base.b .nil pass0 (pa_cons (pv 1) pa_nil)) rfl)
      (pss_cons (ps_fld (pv 0) (pe_call (ok_need_fraction T) (hr.mono (by decide)) (by rfl) T.d_need_fraction.m T.d_need_fraction.F.kp T.d_need_fraction.b .nil pass0 (pa_cons (pv 2) pa_nil)) rfl)
      (pss_one (ps_fld (pv 0) (pe_lst pa_nil) rfl)))), ?_⟩
    obtain ⟨a, dx, b, p, x, n, rfl, ha, hp, ⟨hb1, hb2⟩, ⟨hx, hn, hg⟩, q⟩ := h
    have nap : p ≠ a := ne_of hp ha (by intro z; cases z)
    refine ⟨_, rfl, b, rfl, ⟨by omega, by omega⟩, _, rfl, a, _, dx, _, rfl, ha, T.cl_Dial, T.nf_Dial_base, by show 0 < 1000; decide, ?_⟩
    refine ⟨_, rfl, p, x, n, rfl, by rw [upd_ne nap]; exact hp, ⟨hx, hn, hg⟩, _, rfl, a, _, dx, _, rfl, upd_same, T.cl_Dial, T.nf_Dial_shown, by show 1 < 1000; decide, ?_⟩
    refine ⟨Nat.zero_le _, fun l nl => ?_⟩
    have nla : l ≠ a := fun z => by rw [z, upd_same] at nl; cases nl
    have nl0 : H l = none := by rw [upd_ne nla, upd_ne nla] at nl; exact nl
    refine ⟨_, rfl, a, _, dx, _, rfl, by rw [upd_ne (Ne.symm nla), upd_same], T.cl_Dial, T.nf_Dial_past, by show 2 < 1000; decide, ?_⟩
    
    rw [init_eq nla]
    exact q l nl0
theorem ok_Dial_base (T : Txt K mg) : FnOk P w K mg base CX0 1 T.m_Dial_base T.fd_Dial_base ["self"] (sp_Dial_base T) := by
  refine T.F_Dial_base.ok sc_Dial_base (fun vs H Q E h => ?_) (fun cdv A outer s H vs Q E hr h => ?_)
  · obtain ⟨a, dx, l, p, b, rfl, _⟩ := h; rfl
  · have hu := hu_of hr
    refine ⟨_, (pss_one (ps_ret (pe_fld (pv 0) rfl))), ?_⟩
    obtain ⟨a, dx, l, p, b, rfl, ha, q⟩ := h
    exact ⟨_, rfl, a, _, dx, _, _, rfl, ha, T.cl_Dial, T.nf_Dial_base, lk_base _ _ _, q⟩
theorem ok_Dial_fraction (T : Txt K mg) : FnOk P w K mg base CX0 1 T.m_Dial_fraction T.fd_Dial_fraction ["self"] (sp_Dial_fraction T) := by
  refine T.F_Dial_fraction.ok sc_Dial_fraction (fun vs H Q E h => ?_) (fun cdv A outer s H vs Q E hr h => ?_)
  · obtain ⟨a, dx, l, p, b, rfl, _⟩ := h; rfl
  · have hu := hu_of hr
    refine ⟨_, (pss_one (ps_ret (pe_fld (pv 0) rfl))), ?_⟩
    obtain ⟨a, dx, l, p, b, rfl, ha, q⟩ := h
    exact ⟨_, rfl, a, _, dx, _, _, rfl, ha, T.cl_Dial, T.nf_Dial_shown, lk_shown _ _ _, q⟩
theorem ok_Dial_first (T : Txt K mg) : FnOk P w K mg base CX0 1 T.m_Dial_first T.fd_Dial_first ["self"] (sp_Dial_first T) := by
  refine T.F_Dial_first.ok sc_Dial_first (fun vs H Q E h => ?_) (fun cdv A outer s H vs Q E hr h => ?_)
  · obtain ⟨a, dx, l, p, b, x, n, rfl, _⟩ := h; rfl
  · have hu := hu_of hr
    refine ⟨_, (pss_one (ps_ret (pe_op op_fdiv (pe_op op_mul (pe_fld (pv 0) rfl) (pe_ix (r := rIxT K) ix_tup (pe_fld (pv 0) rfl) pe_int (fun _ _ => rfl))) (pe_ix (r := rIxT K) ix_tup (pe_fld (pv 0) rfl) pe_int (fun _ _ => rfl))))), ?_⟩
    obtain ⟨a, dx, l, p, b, x, n, rfl, ha, hp, ⟨hb, hx, hn⟩, q⟩ := h
    refine ⟨_, rfl, a, _, dx, _, _, rfl, ha, T.cl_Dial, T.nf_Dial_base, lk_base _ _ _, _, rfl, a, _, dx, _, _, rfl, ha, T.cl_Dial, T.nf_Dial_shown, lk_shown _ _ _, p, _, 0, .int x, rfl, rfl, sq_tup hp, atI_nat (j := 0) rfl, _, _, rfl, rfl, .inl ⟨by omega, by omega⟩, ?_⟩
    refine ⟨_, rfl, a, _, dx, _, _, rfl, ha, T.cl_Dial, T.nf_Dial_shown, lk_shown _ _ _, p, _, 1, .int n, rfl, rfl, sq_tup hp, atI_nat (j := 1) rfl, _, _, rfl, rfl, ⟨by omega, by omega⟩, ?_⟩
    dsimp only
    rw [← Int.natCast_mul, ← Int.natCast_ediv]
    exact q
theorem ok_Dial_move (T : Txt K mg) : FnOk P w K mg base CX0 1 T.m_Dial_move T.fd_Dial_move ["self", "fraction"] (sp_Dial_move T) := by
  refine T.F_Dial_move.ok sc_Dial_move (fun vs H Q E h => ?_) (fun cdv A outer s H vs Q E hr h => ?_)
  · obtain ⟨a, dx, l, p, q, b, past, rfl, _⟩ := h; rfl
  · have hu := hu_of hr
    refine ⟨_, (pss_cons (ps_expr (pe_bm PySem.F.plainAttrs_list PySem.F.slot_list_append PySem.F.type_list_append mt_append (pe_fld (pv 0) rfl) (pa_cons (pe_fld (pv 0) rfl) pa_nil)))
      (pss_one (ps_fld (pv 0) (pv 1) rfl))), ?_⟩
    obtain ⟨a, dx, l, p, q', b, past, rfl, ha, hl, hz, q⟩ := h
    have nal : a ≠ l := ne_of ha hl (by intro z; cases z)
    refine ⟨_, rfl, a, _, dx, _, _, rfl, ha, T.cl_Dial, T.nf_Dial_past, lk_past _ _ _, .inl ⟨rfl, _, sq_lst hl⟩, _, rfl, a, _, dx, _, _, rfl, ha, T.cl_Dial, T.nf_Dial_shown, lk_shown _ _ _, l, _, _, rfl, rfl, hl, Nat.lt_of_lt_of_le (show past.length < 6000 by omega) (by decide), ?_⟩
    refine ⟨_, rfl, _, rfl, a, _, dx, _, rfl, by rw [upd_ne nal]; exact ha, T.cl_Dial, T.nf_Dial_shown, by show 3 < 1000; decide, ?_⟩
    
    exact q
theorem ok_Dial_len (T : Txt K mg) : FnOk P w K mg base CX0 1 T.m_Dial_len T.fd_Dial_len ["self"] (sp_Dial_len T) := by
  refine T.F_Dial_len.ok sc_Dial_len (fun vs H Q E h => ?_) (fun cdv A outer s H vs Q E hr h => ?_)
  · obtain ⟨a, dx, l, p, b, past, rfl, _⟩ := h; rfl
  · have hu := hu_of hr
    refine ⟨_, (pss_one (ps_ret (pe_callB (r := rLn K) call_ln (by rfl) T.b_len PySem.boot_len (pa_cons (pe_fld (pv 0) rfl) pa_nil)))), ?_⟩
    obtain ⟨a, dx, l, p, b, past, rfl, ha, hl, q⟩ := h
    exact ⟨_, rfl, a, _, dx, _, _, rfl, ha, T.cl_Dial, T.nf_Dial_past, lk_past _ _ _, l, _, rfl, .inl (sq_lst hl), q⟩
theorem ok_Dial_turn (T : Txt K mg) : FnOk P w K mg base CX0 9 T.m_Dial_turn T.fd_Dial_turn ["self", "many"] (sp_Dial_turn T) := by
  refine T.F_Dial_turn.ok sc_Dial_turn (fun vs H Q E h => ?_) (fun cdv A outer s H vs Q E hr h => ?_)
  · obtain ⟨a, dx, l, p, b, x, n, k, past, rfl, _⟩ := h; rfl
  · have hu := hu_of hr
    refine ⟨_, (pss_one (ps_expr (pe_meth (pv 0) T.cl_Dial T.me_Dial_move (ok_Dial_move T) (hr.mono (by decide)) T.b_Dial_move .nil pass0 (pa_cons (pe_call (ok_reduced T) (hr.mono (by decide)) (by rfl) T.d_reduced.m T.d_reduced.F.kp T.d_reduced.b .nil pass0 (pa_cons (pe_call (ok_remainder_at T) (hr.mono (by decide)) (by rfl) T.d_remainder_at.m T.d_remainder_at.F.kp T.d_remainder_at.b .nil pass0 (pa_cons (pe_fld (pv 0) rfl) (pa_cons (pe_fld (pv 0) rfl) (pa_cons (pv 1) pa_nil)))) (pa_cons (pe_ix (r := rIxT K) ix_tup (pe_fld (pv 0) rfl) pe_int (fun _ _ => rfl)) pa_nil))) pa_nil)))), ?_⟩
    obtain ⟨a, dx, l, p, b, x, n, k, past, rfl, ha, hl, hp, hz, hf, hk, q⟩ := h
    obtain ⟨⟨hb1, hb2, hn1, hn2⟩, hx, hg⟩ := id hf
    refine ⟨_, rfl, a, dx, _, rfl, ha, by rfl, ?_⟩
    refine ⟨_, rfl, a, _, dx, _, _, rfl, ha, T.cl_Dial, T.nf_Dial_base, lk_base _ _ _, _, rfl, a, _, dx, _, _, rfl, ha, T.cl_Dial, T.nf_Dial_shown, lk_shown _ _ _, _, rfl, b, x, n, k, p, rfl, hp, hf, hk, _, rfl, a, _, dx, _, _, rfl, ha, T.cl_Dial, T.nf_Dial_shown, lk_shown _ _ _, p, _, 1, .int n, rfl, rfl, sq_tup hp, atI_nat (j := 1) rfl, ?_⟩
    refine ⟨_, n, rfl, ⟨hn1, hn2⟩, fun t nt => ?_⟩
    refine ⟨a, dx, l, p, t, b, past, rfl, ?_, ?_, hz, ?_⟩
    · rw [upd_ne (ne_of_none ha nt)]
      exact ha
    · rw [upd_ne (ne_of_none hl nt)]
      exact hl
    exact q t nt
theorem ok_Dial_scale (T : Txt K mg) : FnOk P w K mg base CX0 5 T.m_Dial_scale T.fd_Dial_scale ["self", "times"] (sp_Dial_scale T) := by
  refine T.F_Dial_scale.ok sc_Dial_scale (fun vs H Q E h => ?_) (fun cdv A outer s H vs Q E hr h => ?_)
  · obtain ⟨a, dx, l, p, b, x, n, k, past, rfl, _⟩ := h; rfl
  · have hu := hu_of hr
    refine ⟨_, (pss_cons (ps_if (pt_not (pt_val (pe_call (ok_is_within T) (hr.mono (by decide)) (by rfl) T.d_is_within.m T.d_is_within.F.kp T.d_is_within.b .nil pass0 (pa_cons (pv 1) (pa_cons pe_int (pa_cons (pe_glob (v := .int 1000000000000000000000000000000) (by rfl) T.c_MOST_TIMES ⟨_, rfl⟩) pa_nil)))))) (pss_one ps_never) pss_nil)
      (pss_one (ps_expr (pe_meth (pv 0) T.cl_Dial T.me_Dial_move (ok_Dial_move T) (hr.mono (by decide)) T.b_Dial_move .nil pass0 (pa_cons (pe_call (ok_reduced T) (hr.mono (by decide)) (by rfl) T.d_reduced.m T.d_reduced.F.kp T.d_reduced.b .nil pass0 (pa_cons (pe_op op_mul (pe_ix (r := rIxT K) ix_tup (pe_fld (pv 0) rfl) pe_int (fun _ _ => rfl)) (pv 1)) (pa_cons (pe_ix (r := rIxT K) ix_tup (pe_fld (pv 0) rfl) pe_int (fun _ _ => rfl)) pa_nil))) pa_nil))))), ?_⟩
    obtain ⟨a, dx, l, p, b, x, n, k, past, rfl, ha, hl, hp, hz, hf, hk, q⟩ := h
    obtain ⟨⟨hb1, hb2, hn1, hn2⟩, hx, hg⟩ := id hf
    obtain ⟨Z, eZ⟩ : ∃ Z : Nat, Z = 10 ^ 30 := ⟨_, rfl⟩
    refine ⟨_, rfl, k, 0, (10 ^ 30 : Nat), rfl, ⟨by omega, by rw [← eZ] at hk ⊢; omega⟩, _, rfl, iteF ?_⟩
    refine ⟨_, rfl, a, dx, _, rfl, ha, by rfl, ?_⟩
    refine ⟨_, rfl, a, _, dx, _, _, rfl, ha, T.cl_Dial, T.nf_Dial_shown, lk_shown _ _ _, p, _, 0, .int x, rfl, rfl, sq_tup hp, atI_nat (j := 0) rfl, _, rfl, _, _, rfl, rfl, .inl ⟨by omega, by omega⟩, _, rfl, a, _, dx, _, _, rfl, ha, T.cl_Dial, T.nf_Dial_shown, lk_shown _ _ _, p, _, 1, .int n, rfl, rfl, sq_tup hp, atI_nat (j := 1) rfl, ?_⟩
    dsimp only
    rw [← Int.natCast_mul]
    refine ⟨_, n, rfl, ⟨hn1, hn2⟩, fun t nt => ?_⟩
    refine ⟨a, dx, l, p, t, b, past, rfl, ?_, ?_, hz, ?_⟩
    · rw [upd_ne (ne_of_none ha nt)]
      exact ha
    · rw [upd_ne (ne_of_none hl nt)]
      exact hl
    exact q t nt
theorem ok_Dial_add (T : Txt K mg) : FnOk P w K mg base CX0 5 T.m_Dial_add T.fd_Dial_add ["self", "other"] (sp_Dial_add T) := by
  refine T.F_Dial_add.ok sc_Dial_add (fun vs H Q E h => ?_) (fun cdv A outer s H vs Q E hr h => ?_)
  · obtain ⟨a, dx, l, p, q, b, x, n, y, m, past, rfl, _⟩ := h; rfl
  · have hu := hu_of hr
    refine ⟨_, (pss_one (ps_expr (pe_meth (pv 0) T.cl_Dial T.me_Dial_move (ok_Dial_move T) (hr.mono (by decide)) T.b_Dial_move .nil pass0 (pa_cons (pe_call (ok_added T) (hr.mono (by decide)) (by rfl) T.d_added.m T.d_added.F.kp T.d_added.b .nil pass0 (pa_cons (pe_fld (pv 0) rfl) (pa_cons (pe_call (ok_need_fraction T) (hr.mono (by decide)) (by rfl) T.d_need_fraction.m T.d_need_fraction.F.kp T.d_need_fraction.b .nil pass0 (pa_cons (pv 1) pa_nil)) pa_nil))) pa_nil)))), ?_⟩
    obtain ⟨a, dx, l, p, q', b, x, n, y, m, past, rfl, ha, hl, hp, hq, hz, hf, ⟨hy, hm, hgm⟩, h5, q⟩ := h
    obtain ⟨⟨hb1, hb2, hn1, hn2⟩, hx, hg⟩ := id hf
    refine ⟨_, rfl, a, dx, _, rfl, ha, by rfl, ?_⟩
    refine ⟨_, rfl, a, _, dx, _, _, rfl, ha, T.cl_Dial, T.nf_Dial_shown, lk_shown _ _ _, _, rfl, q', y, m, rfl, hq, ⟨hy, hm, hgm⟩, ?_⟩
    refine ⟨p, q', x, n, y, m, rfl, hp, hq, ⟨hx, hn2, hy, hm⟩, h5, fun t nt => ?_⟩
    refine ⟨a, dx, l, p, t, b, past, rfl, ?_, ?_, hz, ?_⟩
    · rw [upd_ne (ne_of_none ha nt)]
      exact ha
    · rw [upd_ne (ne_of_none hl nt)]
      exact hl
    exact q t nt
theorem ok_Dial_call (T : Txt K mg) : FnOk P w K mg base CX0 8 T.m_Dial_call T.fd_Dial_call ["self", "place"] (sp_Dial_call T) := by
  refine T.F_Dial_call.ok sc_Dial_call (fun vs H Q E h => ?_) (fun cdv A outer s H vs Q E hr h => ?_)
  · obtain ⟨a, dx, l, p, b, x, n, k, rfl, _⟩ := h; rfl
  · have hu := hu_of hr
    refine ⟨_, (pss_one (ps_ret (pe_call (ok_digit_at T) (hr.mono (by decide)) (by rfl) T.d_digit_at.m T.d_digit_at.F.kp T.d_digit_at.b .nil pass0 (pa_cons (pe_fld (pv 0) rfl) (pa_cons (pe_fld (pv 0) rfl) (pa_cons (pv 1) pa_nil)))))), ?_⟩
    obtain ⟨a, dx, l, p, b, x, n, k, rfl, ha, hp, hf, hk, q⟩ := h
    exact ⟨_, rfl, a, _, dx, _, _, rfl, ha, T.cl_Dial, T.nf_Dial_base, lk_base _ _ _, _, rfl, a, _, dx, _, _, rfl, ha, T.cl_Dial, T.nf_Dial_shown, lk_shown _ _ _, _, rfl, b, x, n, k, p, rfl, hp, hf, hk, q⟩

end
end Wn
namespace Wn
open PySem PySem.Spec PyProof.Rows L2
open LamX (Tabs ExtN tLam)
local macro_rules | `(tactic| walk_at "vc") => `(tactic| simp only [cxK, cxK2, start1, start2, start3, tRet, tRetN, tSeq, tNext, tIfS, tAsg, gName, tDrop, tVar, tC, tOp, tUn, tTest, tB, tNot, tAnd, tOr, tAndV, tOrV, tNotV, tIf, tCons, tNil, tCB, tCall, tChain, tAug, ipI, rI, rI0, rU, rIs, rGcd, rEq, rNe, scal,
  List.getElem?_cons_zero, List.getElem?_cons_succ, List.set_cons_zero, List.set_cons_succ, Option.some.injEq, List.cons.injEq, V.int.injEq, V.bl.injEq, V.ref.injEq, V.str.injEq, and_true, true_and, exists_eq_left, exists_eq_left', exists_and_left, exists_and_right, List.append_nil, List.nil_append, List.cons_append, exists_eq_right, exists_eq_right', and_assoc, exists_const, V.ty.injEq, ↓reduceIte, Bool.false_eq_true, Bool.not_true, Bool.not_false, decide_eq_true_eq])

section
variable {P : Program} {w : World} {K : PySem.W.Frag} {mg : Str → Option Value} {base : Heap}
theorem tabsKeep {T : List (Addr × Str)} {H H' : Hp} (t : Tabs T H) (k : ∀ w o, H w = some o → (∀ C dx fs, o ≠ .ins C dx fs) → (∀ xs, o ≠ .lst xs) → H' w = some o) : Tabs T H' := fun p hp => by
  obtain ⟨ps, h1, h2, h3⟩ := t p hp
  refine ⟨ps, k _ _ h1 (fun _ _ _ z => by cases z) (fun _ z => by cases z), h2, fun pos cv hc => ?_⟩
  obtain ⟨c, e1, e2⟩ := h3 pos cv hc
  exact ⟨c, e1, k _ _ e2 (fun _ _ _ z => by cases z) (fun _ z => by cases z)⟩
/-- references to pairs -/
inductive PL (H : Hp) : List V → List (Nat × Nat) → Prop
  | nil : PL H [] []
  | cons {t : Addr} {q : Nat × Nat} {vs : List V} {ps : List (Nat × Nat)} : H t = some (pv2 q) → PL H vs ps → PL H (.ref t :: vs) (q :: ps)
def TK (H H' : Hp) : Prop := ∀ a xs, H a = some (.tup xs) → H' a = some (.tup xs)
theorem PL.tk {H H' : Hp} (g : TK H H') : ∀ {vs : List V} {ps : List (Nat × Nat)}, PL H vs ps → PL H' vs ps
  | _, _, .nil => .nil
  | _, _, .cons h r => .cons (g _ _ h) (PL.tk g r)
theorem PL.len {H : Hp} : ∀ {vs : List V} {ps : List (Nat × Nat)}, PL H vs ps → vs.length = ps.length
  | _, _, .nil => rfl
  | _, _, .cons _ r => congrArg (· + 1) (PL.len r)
theorem PL.app {H : Hp} {t : Addr} {q : Nat × Nat} (h : H t = some (pv2 q)) : ∀ {vs : List V} {ps : List (Nat × Nat)}, PL H vs ps → PL H (vs ++ [.ref t]) (ps ++ [q])
  | _, _, .nil => .cons h .nil
  | _, _, .cons a r => .cons a (PL.app h r)
theorem PL.last {H : Hp} {q : Nat × Nat} : ∀ {vs : List V} {ps : List (Nat × Nat)}, PL H vs (ps ++ [q]) → ∃ vs' t, vs = vs' ++ [.ref t] ∧ H t = some (pv2 q)
  | _, [], .cons (t := t) h .nil => ⟨[], t, rfl, h⟩
  | _, p :: ps, .cons (t := t) h r => by
    obtain ⟨vs', t', e, h'⟩ := PL.last (ps := ps) r
    exact ⟨.ref t :: vs', t', by rw [e]; rfl, h'⟩
theorem PL.dp {K : PySem.W.Frag} {H : Hp} : ∀ {vs : List V} {ps : List (Nat × Nat)}, PL H vs ps → DpAll K H vs (ps.map fun q => .tuple [.int (q.1 : Nat), .int (q.2 : Nat)])
  | _, _, .nil => .nil
  | _, _, .cons h r => .cons (dp_tup h (.cons (.int _) (.cons (.int _) .nil))) (PL.dp r)
theorem tk_gr {H H' : Hp} (g : Gr [] H H') : TK H H' := fun a xs e => g a _ (by simp) e
theorem tk_wr {H : Hp} {a : Addr} {o u : HO} (h : H a = some u) (hu : ∀ xs, u ≠ .tup xs) : TK H (upd H a o) := fun b xs e => by
  rw [upd_ne (fun z => by rw [z, h] at e; exact hu xs (Option.some.inj e))]
  exact e
theorem TK.trans {H H1 H2 : Hp} (a : TK H H1) (b : TK H1 H2) : TK H H2 := fun c xs e => b c xs (a c xs e)
theorem dlO_ne {T : Txt K mg} {dx p l : Addr} {b : Nat} : (∀ xs, dlO T dx b p l ≠ .tup xs) ∧ (∀ xs, dlO T dx b p l ≠ .lst xs) ∧ (∀ kvs, dlO T dx b p l ≠ .dK kvs) := ⟨fun _ z => (by cases z), fun _ z => (by cases z), fun _ z => (by cases z)⟩
/-- the dial at a and the law's own record at f -/
structure St (T : Txt K mg) (H : Hp) (dm c a dx l f p : Addr) (k b x n : Nat) (past fv : List V) (ps : List (Nat × Nat)) : Prop where
  M : MOkC H dm c k
  D : H a = some (dlO T dx b p l)
  L : H l = some (.lst past)
  F : H f = some (.lst (.int b :: fv))
  P : H p = some (pv2 (x, n))
  pl : PL H past ps
  fl : PL H fv (ps ++ [(x, n)])
  ne : c ≠ l ∧ c ≠ f ∧ l ≠ f
  fr : FR b x n
  sz : ps.length ≤ 1000
  al : ∀ q ∈ ps, q.1 ≤ 5000 ∧ q.2 ≤ 5000
  tb : Tabs (tl T) H
section
variable {T : Txt K mg} {H H' : Hp} {dm c a dx l f p : Addr} {k k' b x n : Nat} {past fv : List V} {ps : List (Nat × Nat)}
theorem St.gr (S : St T H dm c a dx l f p k b x n past fv ps) (g : Gr [] H H') : St T H' dm c a dx l f p k b x n past fv ps :=
  ⟨S.M.gr g, g a _ (by simp) S.D, g l _ (by simp) S.L, g f _ (by simp) S.F, g p _ (by simp) S.P, S.pl.tk (tk_gr g), S.fl.tk (tk_gr g), S.ne, S.fr, S.sz, S.al, tabsGr S.tb g⟩
theorem St.dk (S : St T H dm c a dx l f p k b x n past fv ps) : ∃ kvs, H dm = some (.dK kvs) := by
  obtain ⟨_, _, _, z, _⟩ := S.M
  exact ⟨_, z⟩
theorem St.off (S : St T H dm c a dx l f p k b x n past fv ps) {u : Addr} {o : HO} (h : H u = some o) (ho : ∀ kvs, o ≠ .dK kvs) : u ∉ [dm] := fun z => by
  obtain ⟨kvs, e⟩ := S.dk
  rw [List.mem_singleton] at z
  rw [z, e] at h
  exact ho _ (Option.some.inj h).symm
theorem St.drw (S : St T H dm c a dx l f p k b x n past fv ps) (g : Gr [dm] H H') (M' : MOkC H' dm c k') : St T H' dm c a dx l f p k' b x n past fv ps :=
  have tk : TK H H' := fun u xs e => g u _ (S.off e (fun _ z => by cases z)) e
  ⟨M', g a _ (S.off S.D (fun _ z => by cases z)) S.D, g l _ (S.off S.L (fun _ z => by cases z)) S.L, g f _ (S.off S.F (fun _ z => by cases z)) S.F, g p _ (S.off S.P (fun _ z => by cases z)) S.P, S.pl.tk tk, S.fl.tk tk, S.ne, S.fr, S.sz, S.al, tabsGrM S.tb g S.dk⟩
/-- the record with one more pair -/
def fmH (H : Hp) (f t : Addr) (b : Nat) (fv : List V) : Hp := upd H f (.lst (.int b :: (fv ++ [.ref t])))
theorem St.fm (S : St T H dm c a dx l f p k b x n past fv ps) (t : Addr) : fmH H f t b fv a = some (dlO T dx b p l) ∧ fmH H f t b fv l = some (.lst past) ∧ fmH H f t b fv p = some (pv2 (x, n)) ∧ TK H (fmH H f t b fv) ∧ fmH H f t b fv f = some (.lst (.int b :: (fv ++ [.ref t]))) := by
  refine ⟨?_, ?_, ?_, tk_wr S.F (fun _ z => by cases z), upd_same⟩
  · unfold fmH
    rw [upd_ne (ne_of S.D S.F (dlO_ne.2.1 _))]
    exact S.D
  · unfold fmH
    rw [upd_ne S.ne.2.2]
    exact S.L
  · unfold fmH
    rw [upd_ne (ne_of S.P S.F (fun z => by cases z))]
    exact S.P
/-- one move, of the dial and of the record -/
theorem St.mv (S : St T H dm c a dx l f p k b x n past fv ps) {t u : Addr} {q : Nat × Nat} (ht : H t = some (pv2 q)) (hu : fmH H f t b fv u = none) (hq : FR b q.1 q.2) (hs : ps.length < 1000) :
    St T (mvH T (fmH H f t b fv) a dx l p u b past q) dm c a dx l f u k b q.1 q.2 (past ++ [.ref p]) (fv ++ [.ref t]) (ps ++ [(x, n)]) := by
  obtain ⟨h1, h2, h3, tk, h4⟩ := S.fm t
  have nua : u ≠ a := fun z => by rw [z, h1] at hu; cases hu
  have nul : u ≠ l := fun z => by rw [z, h2] at hu; cases hu
  have nuf : u ≠ f := fun z => by rw [z, h4] at hu; cases hu
  have nal : a ≠ l := ne_of h1 h2 (dlO_ne.2.1 _)
  have naf : a ≠ f := ne_of h1 h4 (dlO_ne.2.1 _)
  have tk2 : TK (fmH H f t b fv) (mvH T (fmH H f t b fv) a dx l p u b past q) := fun w xs e => by
    unfold mvH
    rw [upd_ne (fun z => by rw [z, h1] at e; cases e), upd_ne (fun z => by rw [z, h2] at e; cases e), upd_ne (fun z => by rw [z, hu] at e; cases e)]
    exact e
  obtain ⟨kvs, hdm⟩ := S.dk
  obtain ⟨xs, lz, sz, m1, m2, m3⟩ := S.M
  have keep : ∀ {w : Addr} {o : HO}, H w = some o → w ≠ a → w ≠ l → w ≠ f → mvH T (fmH H f t b fv) a dx l p u b past q w = some o := fun {w o} e n1 n2 n3 => by
    have nwu : w ≠ u := fun z => by
      have : fmH H f t b fv w = some o := by unfold fmH; rw [upd_ne n3]; exact e
      rw [z, hu] at this
      cases this
    unfold mvH fmH
    rw [upd_ne n1, upd_ne n2, upd_ne nwu, upd_ne n3]
    exact e
  refine ⟨⟨xs, lz, sz, ?_, ?_, m3⟩, ?_, ?_, ?_, ?_, ?_, ?_, S.ne, hq, by rw [List.length_append]; exact hs, fun w hw => (List.mem_append.mp hw).elim (S.al w) (fun z => by rw [List.mem_singleton] at z; subst z; exact ⟨Nat.le_of_lt (Nat.lt_of_lt_of_le S.fr.2.1 S.fr.1.2.2.2), S.fr.1.2.2.2⟩), tabsKeep S.tb fun w o e1 e2 e3 => keep e1 (fun z => by rw [z, S.D] at e1; exact e2 _ _ _ (Option.some.inj e1).symm) (fun z => by rw [z, S.L] at e1; exact e3 _ (Option.some.inj e1).symm) (fun z => by rw [z, S.F] at e1; exact e3 _ (Option.some.inj e1).symm)⟩
  · exact keep m1 (ne_of m1 S.D (fun z => by cases z)) (ne_of m1 S.L (fun z => by cases z)) (ne_of m1 S.F (fun z => by cases z))
  · exact keep m2 (ne_of m2 S.D (fun z => by cases z)) S.ne.1 S.ne.2.1
  · unfold mvH
    rw [upd_same]
  · unfold mvH
    rw [upd_ne (Ne.symm nal), upd_same]
  · unfold mvH
    rw [upd_ne (Ne.symm naf), upd_ne (Ne.symm S.ne.2.2), upd_ne (Ne.symm nuf)]
    exact h4
  · unfold mvH
    rw [upd_ne nua, upd_ne nul, upd_same]
  · exact (S.pl.tk (tk.trans tk2)).app ((tk.trans tk2) p _ S.P)
  · exact (S.fl.tk (tk.trans tk2)).app ((tk.trans tk2) t _ ht)
end

end
end Wn
namespace Wn
open PySem PySem.Spec PyProof.Rows L2
open LamX (Tabs ExtN tLam)
local macro_rules | `(tactic| walk_at "vc") => `(tactic| simp only [cxK, cxK2, start1, start2, start3, tRet, tRetN, tSeq, tNext, tIfS, tAsg, gName, tDrop, tVar, tC, tOp, tUn, tTest, tB, tNot, tAnd, tOr, tAndV, tOrV, tNotV, tIf, tCons, tNil, tCB, tCall, tChain, tAug, ipI, rI, rI0, rU, rIs, rGcd, rEq, rNe, scal,
  List.getElem?_cons_zero, List.getElem?_cons_succ, List.set_cons_zero, List.set_cons_succ, Option.some.injEq, List.cons.injEq, V.int.injEq, V.bl.injEq, V.ref.injEq, V.str.injEq, and_true, true_and, exists_eq_left, exists_eq_left', exists_and_left, exists_and_right, List.append_nil, List.nil_append, List.cons_append, exists_eq_right, exists_eq_right', and_assoc, exists_const, V.ty.injEq, ↓reduceIte, Bool.false_eq_true, Bool.not_true, Bool.not_false, decide_eq_true_eq])

section
variable {P : Program} {w : World} {K : PySem.W.Frag} {mg : Str → Option Value} {base : Heap}
abbrev W30 : Int := 1000000000000000000000000000000
def sp_is_integerZ (K : PySem.W.Frag) : Sp := fun vs H Q _ => ∃ (v : V) (d : PyData), vs = [v] ∧ Dz K H v d ∧ Q (.bl (isI d)) H
def sp_is_withinZ (K : PySem.W.Frag) : Sp := fun vs H Q _ => ∃ (v : V) (d : PyData) (lo hi : Int), vs = [v, .int lo, .int hi] ∧ Dz K H v d ∧ Q (.bl (isW lo hi d)) H
theorem okZ_is_integer (T : Txt K mg) : FnOk P w K mg base CX0 1 T.d_is_integer.f T.d_is_integer.fd ["value"] (sp_is_integerZ K) := by
  refine T.d_is_integer.F.ok sc_is_integer (fun vs H Q E h => ?_) (fun cdv A outer s H vs Q E hr h => ?_)
  · obtain ⟨v, d, rfl, _⟩ := h; rfl
  · have hu := hu_of hr
    refine ⟨_, (pss_one (ps_ret (pe_and (pe_callB (r := rIs K) call_is (by rfl) T.b_isinstance (by decide +kernel) (pa_cons (pv 0) (pa_cons (pe_bltn (v := .ty "int") (by rfl) T.b_int (by decide +kernel) rfl) pa_nil))) (pe_one (pe_not (pe_callB (r := rIs K) call_is (by rfl) T.b_isinstance (by decide +kernel) (pa_cons (pv 0) (pa_cons (pe_bltn (v := .ty "bool") (by rfl) T.b_bool (by decide +kernel) rfl) pa_nil)))))))), ?_⟩
    obtain ⟨v, d, rfl, hd, q⟩ := h
    refine ⟨_, rfl, v, "int", rfl, tyD d, ⟨(dz_ty hd).1, (dz_ty hd).2, by decide⟩, _, rfl, ?_⟩
    rw [isI_of] at q
    cases h1 : isB (tyD d) "int" with
    | false =>
      rw [h1, Bool.false_and] at q
      exact iteF q
    | true =>
      rw [h1, Bool.true_and] at q
      exact iteT ⟨_, rfl, v, "bool", rfl, tyD d, ⟨(dz_ty hd).1, (dz_ty hd).2, by decide⟩, _, rfl, q⟩
theorem okZ_is_within (T : Txt K mg) : FnOk P w K mg base CX0 2 T.d_is_within.f T.d_is_within.fd ["value", "low", "high"] (sp_is_withinZ K) := by
  refine T.d_is_within.F.ok sc_is_within (fun vs H Q E h => ?_) (fun cdv A outer s H vs Q E hr h => ?_)
  · obtain ⟨v, d, lo, hi, rfl, _⟩ := h; rfl
  · have hu := hu_of hr
    refine ⟨_, (pss_one (ps_ret (pe_and (pe_call (okZ_is_integer T) (hr.mono (by decide)) (by rfl) T.d_is_integer.m T.d_is_integer.F.kp T.d_is_integer.b .nil pass0 (pa_cons (pv 0) pa_nil)) (pe_one (pe_chain op_le op_le (pv 1) (pv 0) (pv 2)))))), ?_⟩
    obtain ⟨v, d, lo, hi, rfl, hd, q⟩ := h
    refine ⟨_, rfl, v, d, rfl, hd, _, rfl, ?_⟩
    cases d with
    | int i =>
      obtain rfl := dz_int hd
      refine iteT ?_
      walk_at "vc"
      by_cases h1 : lo ≤ i
      · have e : isW lo hi (.int i) = decide (i ≤ hi) := by
          show (decide (lo ≤ i) && decide (i ≤ hi)) = _
          rw [decide_eq_true h1, Bool.true_and]
        rw [if_pos h1, ← e]
        exact q
      · have e : isW lo hi (.int i) = false := by
          show (decide (lo ≤ i) && decide (i ≤ hi)) = _
          rw [decide_eq_false h1, Bool.false_and]
        rw [if_neg h1, ← e]
        exact q
    | none => exact iteF q
    | bool b => exact iteF q
    | str x => exact iteF q
    | list x => exact iteF q
    | tuple x => exact iteF q
    | dict x => exact iteF q
/-- judged: the very value, or an error with it -/
def spJ (K : PySem.W.Frag) (ok : PyData → Bool) (C : Addr) : Sp := fun vs H Q E => ∃ (v : V) (d : PyData), vs = [v] ∧ Dz K H v d ∧ (ok d = true → ∀ H', Gr [] H H' → Q v H') ∧ (ok d = false → ∀ dd H', Gr [] H H' → H' dd = some (.xd [("value", v)]) → E (.ref C) (some dd) H')
def frI (x n : PyData) : Bool := match x, n with
  | .int x, .int n => decide (1 ≤ n) && decide (n ≤ 5000) && (decide (0 ≤ x) && decide (x ≤ n - 1)) && decide (Int.gcd x n = 1)
  | _, _ => false
def frB : PyData → Bool
  | .tuple [x, n] => frI x n
  | _ => false
theorem frB_two (x n : PyData) : frB (.tuple [x, n]) = frI x n := rfl
theorem frB_tup {d : PyData} (h : isB (tyD d) "tuple" = false) : frB d = false := by
  cases d with
  | tuple s => cases h
  | _ => rfl
theorem frB_len {ds : List PyData} (h : ds.length ≠ 2) : frB (.tuple ds) = false := by
  match ds, h with
  | [], _ => rfl
  | [_], _ => rfl
  | [_, _], h => exact absurd rfl h
  | _ :: _ :: _ :: _, _ => rfl
theorem isW_int {lo hi : Int} {d : PyData} (h : isW lo hi d = true) : ∃ i, d = .int i ∧ lo ≤ i ∧ i ≤ hi := by
  cases d with
  | int i =>
    have h : (decide (lo ≤ i) && decide (i ≤ hi)) = true := h
    rw [Bool.and_eq_true, decide_eq_true_iff, decide_eq_true_iff] at h
    exact ⟨i, rfl, h.1, h.2⟩
  | _ => cases h
theorem frI_n {x n : PyData} (h : isW 1 5000 n = false) : frI x n = false := by
  cases x <;> cases n <;> try rfl
  rename_i a b
  have h : (decide (1 ≤ b) && decide (b ≤ 5000)) = false := h
  show (decide (1 ≤ b) && decide (b ≤ 5000) && (decide (0 ≤ a) && decide (a ≤ b - 1)) && decide (Int.gcd a b = 1)) = false
  rw [h, Bool.false_and, Bool.false_and]
theorem frI_x {x : PyData} {n : Int} (h : isW 0 (n - 1) x = false) : frI x (.int n) = false := by
  cases x <;> try rfl
  rename_i a
  have h : (decide (0 ≤ a) && decide (a ≤ n - 1)) = false := h
  show (decide (1 ≤ n) && decide (n ≤ 5000) && (decide (0 ≤ a) && decide (a ≤ n - 1)) && decide (Int.gcd a n = 1)) = false
  rw [h, Bool.and_false, Bool.false_and]
theorem frI_g {x n : Int} (h1 : isW 1 5000 (.int n) = true) (h2 : isW 0 (n - 1) (.int x) = true) : frI (.int x) (.int n) = decide (Int.gcd x n = 1) := by
  have h1 : (decide (1 ≤ n) && decide (n ≤ 5000)) = true := h1
  have h2 : (decide (0 ≤ x) && decide (x ≤ n - 1)) = true := h2
  show (decide (1 ≤ n) && decide (n ≤ 5000) && (decide (0 ≤ x) && decide (x ≤ n - 1)) && decide (Int.gcd x n = 1)) = _
  rw [h1, h2, Bool.true_and, Bool.true_and]
theorem okX_need_base (T : Txt K mg) : FnOk P w K mg base (L2.CX P w) 3 T.d_need_base.f T.d_need_base.fd ["value"] (spJ K (isW 2 1000) T.C_BadBase) := by
  refine T.d_need_base.F.okX sc_need_base (fun vs H Q E h => ?_) (fun cdv A outer s H vs Q E hr h => ?_)
  · obtain ⟨v, d, rfl, _⟩ := h; rfl
  · have hu := hu_of hr
    refine ⟨_, (pss_cons (ps_if (pt_not (pt_val (pe_call (okZ_is_within T) (hr.mono (by decide)) (by rfl) T.d_is_within.m T.d_is_within.F.kp T.d_is_within.b .nil pass0 (pa_cons (pv 0) (pa_cons pe_int (pa_cons (pe_glob (v := .int 1000) (by rfl) T.c_MOST_BASE ⟨_, rfl⟩) pa_nil)))))) (pss_one (ps_raise rfl (takes_of rfl rfl rfl rfl) (pmkE T.T_BadBase (ok_init_BadBase T) (hr.mono (by decide)) T.b_BadBase pass0 (by rfl) T.g_BadBase (pa_cons (pv 0) pa_nil)))) pss_nil)
      (PSs.nox (pss_one (ps_ret (pv 0))))), ?_⟩
    obtain ⟨v, d, rfl, hd, q, e⟩ := h
    refine ⟨_, rfl, v, d, 2, 1000, rfl, hd, _, rfl, ?_⟩
    cases hw : isW 2 1000 d with
    | true => exact iteF ⟨_, rfl, q hw H (Gr.refl _ _)⟩
    | false => exact iteT ⟨_, rfl, mk1_go fun dd nd => e hw dd _ (Gr.new nd) upd_same⟩
theorem okX_need_fraction (T : Txt K mg) : FnOk P w K mg base (L2.CX P w) 3 T.d_need_fraction.f T.d_need_fraction.fd ["value"] (spJ K frB T.C_BadFraction) := by
  refine T.d_need_fraction.F.okX sc_need_fraction (fun vs H Q E h => ?_) (fun cdv A outer s H vs Q E hr h => ?_)
  · obtain ⟨v, d, rfl, _⟩ := h; rfl
  · have hu := hu_of hr
    refine ⟨_, (pss_cons (ps_if (PW.pt (pw_or (pt_not (pt_val (pe_callB (r := rIs K) call_is (by rfl) T.b_isinstance (by decide +kernel) (pa_cons (pv 0) (pa_cons (pe_bltn (v := .ty "tuple") (by rfl) T.b_tuple (by decide +kernel) rfl) pa_nil))))) (pw_or1 (pt_cmpR op_ne (pe_callB (r := rLn K) call_ln (by rfl) T.b_len PySem.boot_len (pa_cons (pv 0) pa_nil)) pe_int (nomark _))))) (pss_one (ps_raise rfl (takes_of rfl rfl rfl rfl) (pmkE T.T_BadFraction (ok_init_BadFraction T) (hr.mono (by decide)) T.b_BadFraction pass0 (by rfl) T.g_BadFraction (pa_cons (pv 0) pa_nil)))) pss_nil)
      (pss_cons (ps_asg (pv 0) (pg_tup (by rfl) (pgs_cons (pg_name (i := 1) sc_need_fraction.nd rfl (by first | exact .inl rfl | exact .inr rfl)) (pgs_cons (pg_name (i := 2) sc_need_fraction.nd rfl (by first | exact .inl rfl | exact .inr rfl)) pgs_nil))))
      (pss_cons (ps_if (PW.pt (pw_or (pt_not (pt_val (pe_call (okZ_is_within T) (hr.mono (by decide)) (by rfl) T.d_is_within.m T.d_is_within.F.kp T.d_is_within.b .nil pass0 (pa_cons (pv 2) (pa_cons pe_int (pa_cons (pe_glob (v := .int 5000) (by rfl) T.c_MOST_DENOMINATOR ⟨_, rfl⟩) pa_nil)))))) (pw_or1 (pt_not (pt_val (pe_call (okZ_is_within T) (hr.mono (by decide)) (by rfl) T.d_is_within.m T.d_is_within.F.kp T.d_is_within.b .nil pass0 (pa_cons (pv 1) (pa_cons pe_int (pa_cons (pe_op op_sub (pv 2) pe_int) pa_nil))))))))) (pss_one (ps_raise rfl (takes_of rfl rfl rfl rfl) (pmkE T.T_BadFraction (ok_init_BadFraction T) (hr.mono (by decide)) T.b_BadFraction pass0 (by rfl) T.g_BadFraction (pa_cons (pv 0) pa_nil)))) pss_nil)
      (pss_cons (ps_if (pt_cmpR op_ne (pe_callBfun cr_gcd (by rfl) T.b_gcd (pa_cons (pv 1) (pa_cons (pv 2) pa_nil))) pe_int (nomark _)) (pss_one (ps_raise rfl (takes_of rfl rfl rfl rfl) (pmkE T.T_BadFraction (ok_init_BadFraction T) (hr.mono (by decide)) T.b_BadFraction pass0 (by rfl) T.g_BadFraction (pa_cons (pv 0) pa_nil)))) pss_nil)
      (PSs.nox (pss_one (ps_ret (pv 0)))))))), ?_⟩
    obtain ⟨v, d, rfl, hd, q, e⟩ := h
    refine ⟨_, rfl, v, "tuple", rfl, tyD d, ⟨(dz_ty hd).1, (dz_ty hd).2, by decide⟩, _, rfl, ?_⟩
    cases ht : isB (tyD d) "tuple" with
    | false => exact iteT (iteT ⟨_, rfl, mk1_go fun dd nd => e (frB_tup ht) dd _ (Gr.new nd) upd_same⟩)
    | true =>
    obtain ⟨ds, rfl⟩ := isTup_of ht
    refine iteF ?_
    have hd0 := hd
    cases hd with
    | @tup a xs _ hx hA =>
    have hlx := dzAll_len hA
    refine ⟨_, rfl, a, xs, rfl, .inr hx, rfl, _, rfl, ?_⟩
    by_cases hl : ds.length = 2
    case neg =>
      refine iteTb ?_ ⟨_, rfl, mk1_go fun dd nd => e (frB_len hl) dd _ (Gr.new nd) upd_same⟩
      rw [decide_eq_false (fun z => hl (by have := V.int.inj z; omega))]
      rfl
    case pos =>
    match ds, hl, hA, hlx, q, e, hd0 with
    | [dx, dn], _, .cons (v := x) h1 (.cons (v := n) h2 .nil), _, q, e, hd0 =>
    refine iteFb (by rfl) ?_
    refine ⟨_, rfl, a, _, rfl, hx, rfl, _, _, rfl, _, _, rfl, rfl, ?_⟩
    refine ⟨_, rfl, n, dn, 1, 5000, rfl, h2, _, rfl, ?_⟩
    cases hn : isW 1 5000 dn with
    | false => exact iteT (iteT ⟨_, rfl, mk1_go fun dd nd => e (frI_n hn) dd _ (Gr.new nd) upd_same⟩)
    | true =>
    obtain ⟨ni, rfl, hn1, hn2⟩ := isW_int hn
    obtain rfl := dz_int h2
    refine iteF ?_
    refine ⟨_, rfl, _, rfl, _, _, rfl, rfl, x, dx, 0, ni - 1, rfl, h1, _, rfl, ?_⟩
    cases hx0 : isW 0 (ni - 1) dx with
    | false => exact iteT ⟨_, rfl, mk1_go fun dd nd => e (frI_x hx0) dd _ (Gr.new nd) upd_same⟩
    | true =>
    obtain ⟨xi, rfl, hx1, hx2⟩ := isW_int hx0
    obtain rfl := dz_int h1
    refine iteF ?_
    have ef := frI_g hn hx0
    obtain ⟨xn, rfl⟩ := Int.eq_ofNat_of_zero_le hx1
    obtain ⟨nn, rfl⟩ := Int.eq_ofNat_of_zero_le (show (0 : Int) ≤ ni by omega)
    refine ⟨_, rfl, _, rfl, xn, nn, rfl, rfl, _, rfl, ?_⟩
    have eg : Int.gcd (xn : Int) (nn : Int) = Nat.gcd xn nn := rfl
    rw [eg] at ef
    by_cases hg : Nat.gcd xn nn = 1
    · refine iteFb (by rw [decide_eq_true (show V.int ((Nat.gcd (xn : Int).natAbs (nn : Int).natAbs : Nat) : Int) = V.int 1 by rw [Int.natAbs_natCast, Int.natAbs_natCast, hg]; rfl)]; rfl) ⟨_, rfl, q ?_ H (Gr.refl _ _)⟩
      rw [frB_two]
      rw [ef, decide_eq_true hg]
    · refine iteTb (by simp only [Int.natAbs_natCast]; rw [decide_eq_false (fun z => hg (by have := V.int.inj z; omega))]; rfl) ⟨_, rfl, mk1_go fun dd nd => e ?_ dd _ (Gr.new nd) upd_same⟩
      rw [frB_two]
      rw [ef, decide_eq_false hg]
/-- an error with a value that reaches the caller -/
def Rf (C : Addr) (f : Str) (v : V) (H : Hp) (E : XK) : Prop := ∀ dd H', Gr [] H H' → H' dd = some (.xd [(f, v)]) → E (.ref C) (some dd) H'
def sp_remX (T : Txt K mg) : Sp := fun vs H _ E => ∃ (b : Nat) (p : Addr) (x n : Nat) (v : V) (d : PyData), vs = [.int b, .ref p, v] ∧ H p = some (.tup [.int x, .int n]) ∧ FR b x n ∧ Dz K H v d ∧ isW 0 W30 d = false ∧ Rf T.C_BadNumber "value" v H E
def sp_addedX (T : Txt K mg) : Sp := fun vs H _ E => ∃ (p q : Addr) (x n y m : Nat), vs = [.ref p, .ref q] ∧ H p = some (.tup [.int x, .int n]) ∧ H q = some (.tup [.int y, .int m]) ∧ (x < n ∧ n ≤ 5000 ∧ y < m ∧ m ≤ 5000) ∧ 5000 < (lw (x * m + y * n) (n * m)).2 ∧ Rf T.C_TooGreat "most" (.int 5000) H E
def sp_turnX (T : Txt K mg) : Sp := fun vs H _ E => ∃ (a dx l p : Addr) (b x n : Nat) (v : V) (d : PyData), vs = [.ref a, v] ∧ H a = some (dlO T dx b p l) ∧ H p = some (.tup [.int x, .int n]) ∧ FR b x n ∧ Dz K H v d ∧ isW 0 W30 d = false ∧ Rf T.C_BadNumber "value" v H E
def sp_addX (T : Txt K mg) : Sp := fun vs H _ E => ∃ (a dx l p : Addr) (b x n : Nat) (v : V) (d : PyData), vs = [.ref a, v] ∧ H a = some (dlO T dx b p l) ∧ H p = some (.tup [.int x, .int n]) ∧ FR b x n ∧ Dz K H v d ∧
  (frB d = false → Rf T.C_BadFraction "value" v H E) ∧ (frB d = true → ∃ (q : Addr) (y m : Nat), v = .ref q ∧ H q = some (.tup [.int y, .int m]) ∧ (y < m ∧ m ≤ 5000) ∧ 5000 < (lw (x * m + y * n) (n * m)).2 ∧ Rf T.C_TooGreat "most" (.int 5000) H E)
def sp_undoX (T : Txt K mg) : Sp := fun vs H _ E => ∃ (a dx l p : Addr) (b : Nat) (past : List V) (v : V) (d : PyData), vs = [.ref a, v] ∧ H a = some (dlO T dx b p l) ∧ H l = some (.lst past) ∧ past.length ≤ 5000 ∧ Dz K H v d ∧
  ((isI d = false ∨ ∃ i : Int, d = .int i ∧ i < 1) ∧ Rf T.C_BadNumber "value" v H E ∨ (∃ i : Int, d = .int i ∧ 1 ≤ i ∧ (past.length : Int) < i) ∧ Rf T.C_Nothing "value" v H E)
def sp_initX (T : Txt K mg) : Sp := fun vs H _ E => ∃ (H0 : Hp) (a dx : Addr) (v w : V) (d e : PyData), vs = [.ref a, v, w] ∧ H0 a = none ∧ H0 dx = none ∧ dx ≠ a ∧ H = upd (upd H0 dx (.own a)) a (.ins T.C_Dial dx []) ∧ Dz K H0 v d ∧ Dz K H0 w e ∧
  (isW 2 1000 d = false → Rf T.C_BadBase "value" v H0 E) ∧ (isW 2 1000 d = true → frB e = false ∧ Rf T.C_BadFraction "value" w H0 E)
theorem okX_remainder_at (T : Txt K mg) : FnOk P w K mg base (L2.CX P w) 4 T.d_remainder_at.f T.d_remainder_at.fd ["base", "fraction", "place"] (sp_remX T) := by
  refine T.d_remainder_at.F.okX sc_remainder_at (fun vs H Q E h => ?_) (fun cdv A outer s H vs Q E hr h => ?_)
  · obtain ⟨b, p, x, n, v, d, rfl, _⟩ := h; rfl
  · have hu := hu_of hr
    refine ⟨_, (pss_cons (ps_expr (pe_call (ok_need_base T) (hr.mono (by decide)) (by rfl) T.d_need_base.m T.d_need_base.F.kp T.d_need_base.b .nil pass0 (pa_cons (pv 0) pa_nil)))
      (pss_cons (ps_asg (pe_call (ok_need_fraction T) (hr.mono (by decide)) (by rfl) T.d_need_fraction.m T.d_need_fraction.F.kp T.d_need_fraction.b .nil pass0 (pa_cons (pv 1) pa_nil)) (pg_tup (by rfl) (pgs_cons (pg_name (i := 3) sc_remainder_at.nd rfl (by first | exact .inl rfl | exact .inr rfl)) (pgs_cons (pg_name (i := 4) sc_remainder_at.nd rfl (by first | exact .inl rfl | exact .inr rfl)) pgs_nil))))
      (pss_cons (ps_if (pt_not (pt_val (pe_call (okZ_is_within T) (hr.mono (by decide)) (by rfl) T.d_is_within.m T.d_is_within.F.kp T.d_is_within.b .nil pass0 (pa_cons (pv 2) (pa_cons pe_int (pa_cons (pe_glob (v := .int 1000000000000000000000000000000) (by rfl) T.c_LAST_PLACE ⟨_, rfl⟩) pa_nil)))))) (pss_one (ps_raise rfl (takes_of rfl rfl rfl rfl) (pmkE T.T_BadNumber (ok_init_BadNumber T) (hr.mono (by decide)) T.b_BadNumber pass0 (by rfl) T.g_BadNumber (pa_cons (pv 2) pa_nil)))) pss_nil)
      (PSs.nox (pss_one (ps_ret (pe_op op_mod (pe_op op_mul (pv 3) (pe_call (ok_power_rest T) (hr.mono (by decide)) (by rfl) T.d_power_rest.m T.d_power_rest.F.kp T.d_power_rest.b .nil pass0 (pa_cons (pv 0) (pa_cons (pv 2) (pa_cons (pv 4) pa_nil))))) (pv 4)))))))), ?_⟩
    obtain ⟨b, p, x, n, v, d, rfl, hp, hf, hd, hw, e⟩ := h
    obtain ⟨⟨hb1, hb2, hn1, hn2⟩, hx, hg⟩ := id hf
    refine ⟨_, rfl, b, rfl, ⟨by omega, by omega⟩, ?_⟩
    refine ⟨_, rfl, p, x, n, rfl, hp, ⟨hx, hn2, hg⟩, p, _, rfl, sq_tup hp, rfl, _, _, rfl, _, _, rfl, rfl, ?_⟩
    refine ⟨_, rfl, v, d, 0, W30, rfl, hd, _, rfl, ?_⟩
    rw [hw]
    exact iteT ⟨_, rfl, mk1_go fun dd nd => e dd _ (Gr.new nd) upd_same⟩
theorem okX_digit_at (T : Txt K mg) : FnOk P w K mg base (L2.CX P w) 5 T.d_digit_at.f T.d_digit_at.fd ["base", "fraction", "place"] (sp_remX T) := by
  refine T.d_digit_at.F.okX sc_digit_at (fun vs H Q E h => ?_) (fun cdv A outer s H vs Q E hr h => ?_)
  · obtain ⟨b, p, x, n, v, d, rfl, _⟩ := h; rfl
  · have hu := hu_of hr
    refine ⟨_, (pss_one (ps_ret (pe_op op_fdiv (pe_op op_mul (pv 0) (pe_call (okX_remainder_at T) (hr.mono (by decide)) (by rfl) T.d_remainder_at.m T.d_remainder_at.F.kp T.d_remainder_at.b .nil (passes_call (takes_of rfl rfl rfl rfl) (fun _ _ _ _ z => z)) (pa_cons (pv 0) (pa_cons (pv 1) (pa_cons (pv 2) pa_nil))))) (pe_ix (r := rIxT K) ix_tup (pv 1) pe_int (fun _ _ => rfl))))), ?_⟩
    obtain ⟨b, p, x, n, v, d, rfl, hp, hf, hd, hw, e⟩ := h
    exact ⟨_, rfl, _, rfl, _, rfl, _, rfl, b, p, x, n, v, d, rfl, hp, hf, hd, hw, e⟩
theorem okX_added (T : Txt K mg) : FnOk P w K mg base (L2.CX P w) 3 T.d_added.f T.d_added.fd ["fraction", "other"] (sp_addedX T) := by
  refine T.d_added.F.okX sc_added (fun vs H Q E h => ?_) (fun cdv A outer s H vs Q E hr h => ?_)
  · obtain ⟨p, q, x, n, y, m, rfl, _⟩ := h; rfl
  · have hu := hu_of hr
    refine ⟨_, (pss_cons (ps_set (i := 2) sc_added.nd rfl (by first | exact .inl rfl | exact .inr rfl) (pe_op op_add (pe_op op_mul (pe_ix (r := rIxT K) ix_tup (pv 0) pe_int (fun _ _ => rfl)) (pe_ix (r := rIxT K) ix_tup (pv 1) pe_int (fun _ _ => rfl))) (pe_op op_mul (pe_ix (r := rIxT K) ix_tup (pv 1) pe_int (fun _ _ => rfl)) (pe_ix (r := rIxT K) ix_tup (pv 0) pe_int (fun _ _ => rfl)))))
      (pss_cons (ps_set (i := 3) sc_added.nd rfl (by first | exact .inl rfl | exact .inr rfl) (pe_op op_mul (pe_ix (r := rIxT K) ix_tup (pv 0) pe_int (fun _ _ => rfl)) (pe_ix (r := rIxT K) ix_tup (pv 1) pe_int (fun _ _ => rfl))))
      (pss_cons (ps_set (i := 4) sc_added.nd rfl (by first | exact .inl rfl | exact .inr rfl) (pe_op op_mod (pv 2) (pv 3)))
      (pss_cons (ps_set (i := 5) sc_added.nd rfl (by first | exact .inl rfl | exact .inr rfl) (pe_callBfun cr_gcd (by rfl) T.b_gcd (pa_cons (pv 4) (pa_cons (pv 3) pa_nil))))
      (pss_cons (ps_if (pt_cmpR op_gt (pe_op op_fdiv (pv 3) (pv 5)) (pe_glob (v := .int 5000) (by rfl) T.c_MOST_DENOMINATOR ⟨_, rfl⟩) (nomark _)) (pss_one (ps_raise rfl (takes_of rfl rfl rfl rfl) (pmkE T.T_TooGreat (ok_init_TooGreat T) (hr.mono (by decide)) T.b_TooGreat pass0 (by rfl) T.g_TooGreat (pa_cons (pe_glob (v := .int 5000) (by rfl) T.c_MOST_DENOMINATOR ⟨_, rfl⟩) pa_nil)))) pss_nil)
      (PSs.nox (pss_one (ps_ret (pe_tup (pa_cons (pe_op op_fdiv (pv 4) (pv 5)) (pa_cons (pe_op op_fdiv (pv 3) (pv 5)) pa_nil))))))))))), ?_⟩
    obtain ⟨p, q', x, n, y, m, rfl, hp, hq, ⟨hx, hn, hy, hm⟩, h5, e⟩ := h
    have hnm : 1 ≤ n * m := Nat.mul_pos (by omega) (by omega)
    have hnm2 : n * m ≤ 25000000 := Nat.mul_le_mul hn hm
    have hg0 : 0 < Nat.gcd ((x * m + y * n) % (n * m)) (n * m) := Nat.gcd_pos_of_pos_right _ hnm
    have hg1 : Nat.gcd ((x * m + y * n) % (n * m)) (n * m) ≤ n * m := Nat.gcd_le_right _ hnm
    refine ⟨_, rfl, p, _, 0, .int x, rfl, rfl, sq_tup hp, atI_nat (j := 0) rfl, _, rfl, q', _, 1, .int m, rfl, rfl, sq_tup hq, atI_nat (j := 1) rfl, _, _, rfl, rfl, .inl ⟨by omega, by omega⟩, ?_⟩
    refine ⟨_, rfl, q', _, 0, .int y, rfl, rfl, sq_tup hq, atI_nat (j := 0) rfl, _, rfl, p, _, 1, .int n, rfl, rfl, sq_tup hp, atI_nat (j := 1) rfl, _, _, rfl, rfl, .inl ⟨by omega, by omega⟩, _, _, rfl, rfl, ?_⟩
    dsimp only
    refine ⟨_, rfl, p, _, 1, .int n, rfl, rfl, sq_tup hp, atI_nat (j := 1) rfl, _, rfl, q', _, 1, .int m, rfl, rfl, sq_tup hq, atI_nat (j := 1) rfl, _, _, rfl, rfl, .inl ⟨by omega, by omega⟩, ?_⟩
    dsimp only
    rw [← Int.natCast_mul, ← Int.natCast_mul, ← Int.natCast_mul, ← Int.natCast_add]
    have h5' : 5000 < n * m / Nat.gcd ((x * m + y * n) % (n * m)) (n * m) := h5
    generalize n * m = D at *
    generalize x * m + y * n = N at *
    have hn0 : (0 : Int) < (D : Int) := by omega
    refine ⟨_, rfl, _, rfl, _, _, rfl, rfl, hn0, ?_⟩
    dsimp only
    rw [← Int.natCast_emod]
    refine ⟨_, rfl, _, rfl, (N % D : Nat), D, rfl, ?_⟩
    rw [Int.natAbs_natCast, Int.natAbs_natCast]
    refine ⟨_, rfl, _, rfl, _, _, rfl, rfl, ⟨by omega, by omega⟩, _, _, rfl, rfl, _, rfl, ?_⟩
    dsimp only
    rw [← Int.natCast_ediv]
    refine iteTb (decide_eq_true (by omega)) ?_
    exact mk1_go fun dd nd => e dd _ (Gr.new nd) upd_same
theorem okX_Dial_turn (T : Txt K mg) : FnOk P w K mg base (L2.CX P w) 6 T.m_Dial_turn T.fd_Dial_turn ["self", "many"] (sp_turnX T) := by
  refine T.F_Dial_turn.okX sc_Dial_turn (fun vs H Q E h => ?_) (fun cdv A outer s H vs Q E hr h => ?_)
  · obtain ⟨a, dx, l, p, b, x, n, v, d, rfl, _⟩ := h; rfl
  · have hu := hu_of hr
    refine ⟨_, (pss_one (ps_expr (pe_meth (pv 0) T.cl_Dial T.me_Dial_move (ok_Dial_move T) (hr.mono (by decide)) T.b_Dial_move .nil pass0 (pa_cons (pe_call (ok_reduced T) (hr.mono (by decide)) (by rfl) T.d_reduced.m T.d_reduced.F.kp T.d_reduced.b .nil pass0 (pa_cons (pe_call (okX_remainder_at T) (hr.mono (by decide)) (by rfl) T.d_remainder_at.m T.d_remainder_at.F.kp T.d_remainder_at.b .nil (passes_call (takes_of rfl rfl rfl rfl) (fun _ _ _ _ z => z)) (pa_cons (pe_fld (pv 0) rfl) (pa_cons (pe_fld (pv 0) rfl) (pa_cons (pv 1) pa_nil)))) (pa_cons (pe_ix (r := rIxT K) ix_tup (pe_fld (pv 0) rfl) pe_int (fun _ _ => rfl)) pa_nil))) pa_nil)))), ?_⟩
    obtain ⟨a, dx, l, p, b, x, n, v, d, rfl, ha, hp, hf, hd, hw, e⟩ := h
    refine ⟨_, rfl, a, dx, _, rfl, ha, by rfl, ?_⟩
    exact ⟨_, rfl, a, _, dx, _, _, rfl, ha, T.cl_Dial, T.nf_Dial_base, lk_base _ _ _, _, rfl, a, _, dx, _, _, rfl, ha, T.cl_Dial, T.nf_Dial_shown, lk_shown _ _ _, _, rfl, b, p, x, n, v, d, rfl, hp, hf, hd, hw, e⟩
theorem okX_Dial_scale (T : Txt K mg) : FnOk P w K mg base (L2.CX P w) 6 T.m_Dial_scale T.fd_Dial_scale ["self", "times"] (sp_turnX T) := by
  refine T.F_Dial_scale.okX sc_Dial_scale (fun vs H Q E h => ?_) (fun cdv A outer s H vs Q E hr h => ?_)
  · obtain ⟨a, dx, l, p, b, x, n, v, d, rfl, _⟩ := h; rfl
  · have hu := hu_of hr
    refine ⟨_, (pss_cons (ps_if (pt_not (pt_val (pe_call (okZ_is_within T) (hr.mono (by decide)) (by rfl) T.d_is_within.m T.d_is_within.F.kp T.d_is_within.b .nil pass0 (pa_cons (pv 1) (pa_cons pe_int (pa_cons (pe_glob (v := .int 1000000000000000000000000000000) (by rfl) T.c_MOST_TIMES ⟨_, rfl⟩) pa_nil)))))) (pss_one (ps_raise rfl (takes_of rfl rfl rfl rfl) (pmkE T.T_BadNumber (ok_init_BadNumber T) (hr.mono (by decide)) T.b_BadNumber pass0 (by rfl) T.g_BadNumber (pa_cons (pv 1) pa_nil)))) pss_nil)
      (PSs.nox (pss_one (ps_expr (pe_meth (pv 0) T.cl_Dial T.me_Dial_move (ok_Dial_move T) (hr.mono (by decide)) T.b_Dial_move .nil pass0 (pa_cons (pe_call (ok_reduced T) (hr.mono (by decide)) (by rfl) T.d_reduced.m T.d_reduced.F.kp T.d_reduced.b .nil pass0 (pa_cons (pe_op op_mul (pe_ix (r := rIxT K) ix_tup (pe_fld (pv 0) rfl) pe_int (fun _ _ => rfl)) (pv 1)) (pa_cons (pe_ix (r := rIxT K) ix_tup (pe_fld (pv 0) rfl) pe_int (fun _ _ => rfl)) pa_nil))) pa_nil)))))), ?_⟩
    obtain ⟨a, dx, l, p, b, x, n, v, d, rfl, ha, hp, hf, hd, hw, e⟩ := h
    refine ⟨_, rfl, v, d, 0, W30, rfl, hd, _, rfl, ?_⟩
    rw [hw]
    exact iteT ⟨_, rfl, mk1_go fun dd nd => e dd _ (Gr.new nd) upd_same⟩
theorem okX_Dial_call (T : Txt K mg) : FnOk P w K mg base (L2.CX P w) 6 T.m_Dial_call T.fd_Dial_call ["self", "place"] (sp_turnX T) := by
  refine T.F_Dial_call.okX sc_Dial_call (fun vs H Q E h => ?_) (fun cdv A outer s H vs Q E hr h => ?_)
  · obtain ⟨a, dx, l, p, b, x, n, v, d, rfl, _⟩ := h; rfl
  · have hu := hu_of hr
    refine ⟨_, (pss_one (ps_ret (pe_call (okX_digit_at T) (hr.mono (by decide)) (by rfl) T.d_digit_at.m T.d_digit_at.F.kp T.d_digit_at.b .nil (passes_call (takes_of rfl rfl rfl rfl) (fun _ _ _ _ z => z)) (pa_cons (pe_fld (pv 0) rfl) (pa_cons (pe_fld (pv 0) rfl) (pa_cons (pv 1) pa_nil)))))), ?_⟩
    obtain ⟨a, dx, l, p, b, x, n, v, d, rfl, ha, hp, hf, hd, hw, e⟩ := h
    exact ⟨_, rfl, a, _, dx, _, _, rfl, ha, T.cl_Dial, T.nf_Dial_base, lk_base _ _ _, _, rfl, a, _, dx, _, _, rfl, ha, T.cl_Dial, T.nf_Dial_shown, lk_shown _ _ _, _, rfl, b, p, x, n, v, d, rfl, hp, hf, hd, hw, e⟩
theorem okX_Dial_add (T : Txt K mg) : FnOk P w K mg base (L2.CX P w) 6 T.m_Dial_add T.fd_Dial_add ["self", "other"] (sp_addX T) := by
  refine T.F_Dial_add.okX sc_Dial_add (fun vs H Q E h => ?_) (fun cdv A outer s H vs Q E hr h => ?_)
  · obtain ⟨a, dx, l, p, b, x, n, v, d, rfl, _⟩ := h; rfl
  · have hu := hu_of hr
    refine ⟨_, (pss_one (ps_expr (pe_meth (pv 0) T.cl_Dial T.me_Dial_move (ok_Dial_move T) (hr.mono (by decide)) T.b_Dial_move .nil pass0 (pa_cons (pe_call (okX_added T) (hr.mono (by decide)) (by rfl) T.d_added.m T.d_added.F.kp T.d_added.b .nil (passes_call (takes_of rfl rfl rfl rfl) (fun _ _ _ _ z => z)) (pa_cons (pe_fld (pv 0) rfl) (pa_cons (pe_call (okX_need_fraction T) (hr.mono (by decide)) (by rfl) T.d_need_fraction.m T.d_need_fraction.F.kp T.d_need_fraction.b .nil (passes_call (takes_of rfl rfl rfl rfl) (fun _ _ _ _ z => z)) (pa_cons (pv 1) pa_nil)) pa_nil))) pa_nil)))), ?_⟩
    obtain ⟨a, dx, l, p, b, x, n, v, d, rfl, ha, hp, hf, hd, e1, e2⟩ := h
    obtain ⟨⟨hb1, hb2, hn1, hn2⟩, hx, hg⟩ := id hf
    refine ⟨_, rfl, a, dx, _, rfl, ha, by rfl, ?_⟩
    refine ⟨_, rfl, a, _, dx, _, _, rfl, ha, T.cl_Dial, T.nf_Dial_shown, lk_shown _ _ _, _, rfl, v, d, rfl, hd, fun hb H' g => ?_, fun hb dd H' g hx => e1 hb dd H' g hx⟩
    obtain ⟨q, y, m, rfl, hq, ⟨hy, hm⟩, h5, e⟩ := e2 hb
    exact ⟨p, q, x, n, y, m, rfl, g p _ (by simp) hp, g q _ (by simp) hq, ⟨hx, hn2, hy, hm⟩, h5, fun dd H2 g2 => e dd H2 (g.trans g2)⟩
theorem okX_Dial_undo (T : Txt K mg) : FnOk P w K mg base (L2.CX P w) 6 T.m_Dial_undo T.fd_Dial_undo ["self", "many"] (sp_undoX T) := by
  refine T.F_Dial_undo.ok sc_Dial_undo (fun vs H Q E h => ?_) (fun cdv A outer s H vs Q E hr h => ?_)
  · obtain ⟨a, dx, l, p, b, past, v, d, rfl, _⟩ := h; rfl
  · have hu := hu_of hr
    refine ⟨_, (pss_cons (ps_if (PW.pt (pw_or (pt_not (pt_val (pe_call (okZ_is_integer T) (hr.mono (by decide)) (by rfl) T.d_is_integer.m T.d_is_integer.F.kp T.d_is_integer.b .nil pass0 (pa_cons (pv 1) pa_nil)))) (pw_or1 (pt_cmpR op_lt (pv 1) pe_int (nomark _))))) (pss_one (ps_raise rfl (takes_of rfl rfl rfl rfl) (pmkE T.T_BadNumber (ok_init_BadNumber T) (hr.mono (by decide)) T.b_BadNumber pass0 (by rfl) T.g_BadNumber (pa_cons (pv 1) pa_nil)))) pss_nil)
      (pss_cons (ps_if (pt_cmpR op_gt (pv 1) (pe_callB (r := rLn K) call_ln (by rfl) T.b_len PySem.boot_len (pa_cons (pe_fld (pv 0) rfl) pa_nil)) (nomark _)) (pss_one (ps_raise rfl (takes_of rfl rfl rfl rfl) (pmkE T.T_Nothing (ok_init_Nothing T) (hr.mono (by decide)) T.b_Nothing pass0 (by rfl) T.g_Nothing (pa_cons (pv 1) pa_nil)))) pss_nil)
      (PSs.nox (pss_one (ps_for PassesOwn.never rfl (pi_range1 (by rfl) T.b_range (pa_cons (pv 1) pa_nil)) (pg_name (i := 2) sc_Dial_undo.nd rfl (by first | exact .inl rfl | exact .inr rfl)) (pss_one (ps_fld (pv 0) (pe_bm0 PySem.F.plainAttrs_list PySem.F.slot_list_pop PySem.F.type_list_pop mt_pop (pe_fld (pv 0) rfl)) rfl))))))), ?_⟩
    obtain ⟨a, dx, l, p, b, past, v, d, rfl, ha, hl, hz, hd, hc⟩ := h
    refine ⟨_, rfl, v, d, rfl, hd, _, rfl, ?_⟩
    rcases hc with ⟨hc, e⟩ | ⟨⟨i, rfl, h1, h2⟩, e⟩
    · rcases hc with hc | ⟨i, rfl, hi⟩
      · rw [hc]
        exact iteT (iteT ⟨_, rfl, mk1_go fun dd nd => e dd _ (Gr.new nd) upd_same⟩)
      · obtain rfl := dz_int hd
        refine iteF ?_
        refine ⟨_, rfl, _, _, rfl, rfl, _, rfl, iteTb (decide_eq_true hi) ⟨_, rfl, mk1_go fun dd nd => e dd _ (Gr.new nd) upd_same⟩⟩
    · obtain rfl := dz_int hd
      refine iteF ?_
      refine ⟨_, rfl, _, _, rfl, rfl, _, rfl, iteFb (decide_eq_false (by omega)) ?_⟩
      refine ⟨_, rfl, _, rfl, a, _, dx, _, _, rfl, ha, T.cl_Dial, T.nf_Dial_past, lk_past _ _ _, l, _, rfl, .inl (sq_lst hl), _, _, rfl, rfl, _, rfl, iteTb (decide_eq_true h2) ?_⟩
      exact ⟨_, rfl, mk1_go fun dd nd => e dd _ (Gr.new nd) upd_same⟩
theorem okX_Dial_init (T : Txt K mg) : FnOk P w K mg base (L2.CX P w) 6 T.m_Dial_init T.fd_Dial_init ["self", "base", "fraction"] (sp_initX T) := by
  refine T.F_Dial_init.okX sc_Dial_init (fun vs H Q E h => ?_) (fun cdv A outer s H vs Q E hr h => ?_)
  · obtain ⟨H0, a, dx, v, w, d, e, rfl, _⟩ := h; rfl
  · have hu := hu_of hr
    refine ⟨_, (pss_cons (ps_fld (pv 0) (pe_call (okX_need_base T) (hr.mono (by decide)) (by rfl) T.d_need_base.m T.d_need_base.F.kp T.d_need_base.b .nil (passes_call (takes_of rfl rfl rfl rfl) (fun _ _ _ _ z => z)) (pa_cons (pv 1) pa_nil)) rfl)
      (pss_cons (ps_fld (pv 0) (pe_call (okX_need_fraction T) (hr.mono (by decide)) (by rfl) T.d_need_fraction.m T.d_need_fraction.F.kp T.d_need_fraction.b .nil (passes_call (takes_of rfl rfl rfl rfl) (fun _ _ _ _ z => z)) (pa_cons (pv 2) pa_nil)) rfl)
      (PSs.nox (pss_one (ps_fld (pv 0) (pe_lst pa_nil) rfl))))), ?_⟩
    obtain ⟨H0, a, dx, v, w, d, e, rfl, na, ndx, hne, rfl, hv, hw, e1, e2⟩ := h
    have g0 : Gr [] H0 (upd (upd H0 dx (.own a)) a (.ins T.C_Dial dx [])) := fun u o _ z => by
      rw [upd_ne (ne_of_none z na), upd_ne (ne_of_none z ndx)]
      exact z
    refine ⟨_, rfl, v, d, rfl, Dz.gr g0 hv, fun hb H' g => ?_, fun hb dd H' g hx => e1 hb dd H' (g0.trans g) hx⟩
    obtain ⟨hf, e3⟩ := e2 hb
    have ha : H' a = some (.ins T.C_Dial dx []) := g a _ (by simp) upd_same
    refine ⟨_, rfl, a, _, dx, _, rfl, ha, T.cl_Dial, T.nf_Dial_base, by show 0 < 1000; decide, ?_⟩
    have g1 : Gr [] H0 (upd H' a (.ins T.C_Dial dx [("_base", v)])) := fun u o _ z => by
      rw [upd_ne (ne_of_none z na)]
      exact g u o (by simp) (g0 u o (by simp) z)
    refine ⟨_, rfl, w, e, rfl, Dz.gr g1 hw, fun hb => ?_, fun _ dd H2 g2 hx => e3 dd H2 (g1.trans g2) hx⟩
    rw [hf] at hb
    cases hb

end
end Wn
namespace Wn
open PySem PySem.Spec PyProof.Rows L2
open LamX (Tabs ExtN tLam)
local macro_rules | `(tactic| walk_at "vc") => `(tactic| simp only [cxK, cxK2, start1, start2, start3, tRet, tRetN, tSeq, tNext, tIfS, tAsg, gName, tDrop, tVar, tC, tOp, tUn, tTest, tB, tNot, tAnd, tOr, tAndV, tOrV, tNotV, tIf, tCons, tNil, tCB, tCall, tChain, tAug, ipI, rI, rI0, rU, rIs, rGcd, rEq, rNe, scal,
  List.getElem?_cons_zero, List.getElem?_cons_succ, List.set_cons_zero, List.set_cons_succ, Option.some.injEq, List.cons.injEq, V.int.injEq, V.bl.injEq, V.ref.injEq, V.str.injEq, and_true, true_and, exists_eq_left, exists_eq_left', exists_and_left, exists_and_right, List.append_nil, List.nil_append, List.cons_append, exists_eq_right, exists_eq_right', and_assoc, exists_const, V.ty.injEq, ↓reduceIte, Bool.false_eq_true, Bool.not_true, Bool.not_false, decide_eq_true_eq])

section
variable {P : Program} {w : World} {K : PySem.W.Frag} {mg : Str → Option Value} {base : Heap}
def qD (q : Nat × Nat) : PyData := .tuple [.int (q.1 : Nat), .int (q.2 : Nat)]

def sp_law_baseC (lo hi : Nat) : Sp := fun vs H Q _ => ∃ (d c : Addr) (n : Nat), vs = [.ref d] ∧ MOkC H d c n ∧ n ≤ 1000000000 ∧ ∀ (b : Nat) H', 2 ≤ b → b ≤ 1000 → Gr [d] H H' → MOkC H' d c (n + 3) → Q (.int b) H'
theorem okC_law_base (T : Txt K mg) : FnOk P w K mg base CX0 3 T.d_law_base.f T.d_law_base.fd ["m"] (sp_law_baseC 2 1000) := by
  refine T.d_law_base.F.ok sc_law_base (fun vs H Q E h => ?_) (fun cdv A outer s H vs Q E hr h => ?_)
  · obtain ⟨d, c, n, rfl, _⟩ := h; rfl
  · have hu := hu_of hr
    refine ⟨_, (pss_one (ps_ret (pe_call (okC_law_of T) (hr.mono (by decide)) (by rfl) T.d_law_of.m T.d_law_of.F.kp T.d_law_of.b .nil pass0 (pa_cons (pv 0) (pa_cons (pe_lst (pa_cons pe_int (pa_cons pe_int (pa_cons pe_int (pa_cons pe_int (pa_cons pe_int (pa_cons (pe_op op_add pe_int (pe_call (okC_law_draw T) (hr.mono (by decide)) (by rfl) T.d_law_draw.m T.d_law_draw.F.kp T.d_law_draw.b .nil pass0 (pa_cons (pv 0) (pa_cons pe_int pa_nil)))) (pa_cons (pe_op op_add pe_int (pe_call (okC_law_draw T) (hr.mono (by decide)) (by rfl) T.d_law_draw.m T.d_law_draw.F.kp T.d_law_draw.b .nil pass0 (pa_cons (pv 0) (pa_cons pe_int pa_nil)))) pa_nil)))))))) pa_nil))))), ?_⟩
    obtain ⟨d, c, n, rfl, M, h1, q⟩ := h
    refine ⟨_, rfl, _, rfl, d, c, 30, n, rfl, M, ⟨by omega, by omega, by omega⟩, fun r1 H1 hr1 g1 M1 => ?_⟩
    refine ⟨_, _, rfl, rfl, _, rfl, d, c, 999, n + 1, rfl, M1, ⟨by omega, by omega, by omega⟩, fun r2 H2 hr2 g2 M2 => ?_⟩
    refine ⟨_, _, rfl, rfl, by show 7 ≤ sizeLine; decide, fun p np => ?_⟩
    refine ⟨d, c, p, n + 2, _, rfl, M2.gr (Gr.new np), upd_same, ⟨by simp, by show 7 ≤ 100000; decide, by omega⟩, fun v H' hv g M' => ?_⟩
    have hg : Gr [d] H H' := (g1.trans g2).trans ((Gr.new np).trans g)
    have fin : ∀ b : Nat, v = .int b → 2 ≤ b → b ≤ 1000 → Q v H' := fun b e h2 h3 => by
      rw [e]
      exact q b H' h2 h3 hg M'
    simp only [List.mem_cons, List.not_mem_nil, or_false] at hv
    rcases hv with e | e | e | e | e | e | e
    · exact fin 2 e (by omega) (by omega)
    · exact fin 3 e (by omega) (by omega)
    · exact fin 10 e (by omega) (by omega)
    · exact fin 10 e (by omega) (by omega)
    · exact fin 12 e (by omega) (by omega)
    · exact fin (2 + r1) (by rw [e]; rfl) (by omega) (by omega)
    · exact fin (2 + r2) (by rw [e]; rfl) (by omega) (by omega)

def sp_law_partC : Sp := fun vs H Q _ => ∃ (d c : Addr) (most n : Nat), vs = [.ref d, .int most] ∧ MOkC H d c n ∧ (1 ≤ most ∧ most ≤ 5000 ∧ n ≤ 1000000000) ∧
  ∀ (a : Addr) (x k : Nat) H', H' a = some (.tup [.int x, .int k]) → x < k → k ≤ most → Nat.gcd x k = 1 → Gr [d] H H' → MOkC H' d c (n + 2) → Q (.ref a) H'
theorem okC_law_part (T : Txt K mg) : FnOk P w K mg base CX0 2 T.d_law_part.f T.d_law_part.fd ["m", "most"] sp_law_partC := by
  refine T.d_law_part.F.ok sc_law_part (fun vs H Q E h => ?_) (fun cdv A outer s H vs Q E hr h => ?_)
  · obtain ⟨d, c, most, n, rfl, _⟩ := h; rfl
  · have hu := hu_of hr
    refine ⟨_, (pss_cons (ps_set (i := 2) sc_law_part.nd rfl (by first | exact .inl rfl | exact .inr rfl) (pe_op op_add pe_int (pe_call (okC_law_draw T) (hr.mono (by decide)) (by rfl) T.d_law_draw.m T.d_law_draw.F.kp T.d_law_draw.b .nil pass0 (pa_cons (pv 0) (pa_cons (pv 1) pa_nil)))))
      (pss_cons (ps_set (i := 3) sc_law_part.nd rfl (by first | exact .inl rfl | exact .inr rfl) (pe_call (okC_law_draw T) (hr.mono (by decide)) (by rfl) T.d_law_draw.m T.d_law_draw.F.kp T.d_law_draw.b .nil pass0 (pa_cons (pv 0) (pa_cons (pv 2) pa_nil))))
      (pss_cons (ps_while PassesOwn.never (pt_cmpR op_ne (pe_call (ok_law_divisor T) (hr.mono (by decide)) (by rfl) T.d_law_divisor.m T.d_law_divisor.F.kp T.d_law_divisor.b .nil pass0 (pa_cons (pv 3) (pa_cons (pv 2) pa_nil))) pe_int (nomark _)) (pss_one (ps_set (i := 3) sc_law_part.nd rfl (by first | exact .inl rfl | exact .inr rfl) (pe_op op_mod (pe_callTy call_int1 (by rfl) T.b_int (by decide +kernel) (pa_cons (pe_op op_add (pv 3) pe_int) pa_nil)) (pv 2)))))
      (pss_one (ps_ret (pe_tup (pa_cons (pv 3) (pa_cons (pv 2) pa_nil)))))))), ?_⟩
    obtain ⟨d, c, most, n, rfl, M, ⟨h1, h2, h3⟩, q⟩ := h
    refine ⟨_, rfl, _, rfl, d, c, most, n, rfl, M, ⟨h1, by omega, by omega⟩, fun r1 H1 hr1 g1 M1 => ?_⟩
    refine ⟨1, r1, rfl, rfl, ?_⟩
    have e1 : (1 : Int) + (r1 : Int) = ((1 + r1 : Nat) : Int) := by omega
    dsimp only
    rw [e1]
    generalize hk : 1 + r1 = k
    refine ⟨_, rfl, _, rfl, d, c, k, n + 1, rfl, M1, ⟨by omega, by omega, by omega⟩, fun x H2 hx g2 M2 => ?_⟩
    refine ⟨fun m σ H' => H' = H2 ∧ ∃ y : Nat, m = k - y ∧ y < k ∧ σ = [some (.ref d), some (.int most), some (.int k), some (.int y)], ⟨k - x, rfl, x, rfl, hx, rfl⟩, ?_⟩
    rintro m σ H' ⟨rfl, y, rfl, hy, rfl⟩
    refine ⟨_, rfl, _, rfl, y, k, rfl, rfl, _, rfl, ?_⟩
    by_cases hc : Nat.gcd y k = 1
    · rw [show (!decide (V.int ((Nat.gcd y k : Nat) : Int) = V.int 1)) = false by rw [hc]; rfl]
      refine iteF ⟨_, rfl, _, rfl, by show 2 ≤ sizeLine; decide, fun t nt => ?_⟩
      exact q t y k _ upd_same hy (by omega) hc ((g1.trans g2).trans (Gr.new nt)) (M2.gr (Gr.new nt))
    · rw [show (!decide (V.int ((Nat.gcd y k : Nat) : Int) = V.int 1)) = true by rw [decide_eq_false (fun z => hc (by have := V.int.inj z; omega))]; rfl]
      have hyk : y + 1 < k := by
        rcases Nat.lt_or_eq_of_le (show y + 1 ≤ k from hy) with l | l
        · exact l
        · subst l
          exact absurd (by rw [Nat.gcd_comm, show Nat.gcd (y + 1) y = 1 by simp] ) hc
      refine iteT ⟨fun σ' H3 => H3 = H' ∧ σ' = [some (.ref d), some (.int most), some (.int k), some (.int (y + 1 : Nat))], ?_, ?_⟩
      · rintro σ' H3 ⟨rfl, rfl⟩
        exact ⟨k - (y + 1), by omega, rfl, y + 1, rfl, hyk, rfl⟩
      · refine ⟨_, rfl, _, _, rfl, rfl, .inl ⟨_, rfl, _, rfl, _, _, rfl, rfl, (show (0 : Int) < (k : Int) by omega), ?_⟩⟩
        dsimp only
        have e2 : ((y : Int) + 1) % (k : Int) = ((y + 1 : Nat) : Int) := by
          rw [show (y : Int) + 1 = ((y + 1 : Nat) : Int) by omega, ← Int.natCast_emod, Nat.mod_eq_of_lt hyk]
        rw [e2]
        exact ⟨rfl, rfl⟩

end
end Wn
namespace Wn
open PySem PySem.Spec PyProof.Rows L2
open LamX (Tabs ExtN tLam)
local macro_rules | `(tactic| walk_at "vc") => `(tactic| simp only [cxK, cxK2, start1, start2, start3, tRet, tRetN, tSeq, tNext, tIfS, tAsg, gName, tDrop, tVar, tC, tOp, tUn, tTest, tB, tNot, tAnd, tOr, tAndV, tOrV, tNotV, tIf, tCons, tNil, tCB, tCall, tChain, tAug, ipI, rI, rI0, rU, rIs, rGcd, rEq, rNe, scal,
  List.getElem?_cons_zero, List.getElem?_cons_succ, List.set_cons_zero, List.set_cons_succ, Option.some.injEq, List.cons.injEq, V.int.injEq, V.bl.injEq, V.ref.injEq, V.str.injEq, and_true, true_and, exists_eq_left, exists_eq_left', exists_and_left, exists_and_right, List.append_nil, List.nil_append, List.cons_append, exists_eq_right, exists_eq_right', and_assoc, exists_const, V.ty.injEq, ↓reduceIte, Bool.false_eq_true, Bool.not_true, Bool.not_false, decide_eq_true_eq])

section
variable {P : Program} {w : World} {K : PySem.W.Frag} {mg : Str → Option Value} {base : Heap}
def LenOk (d : PyData) : Prop := ∀ zs, d = .tuple zs → zs.length ≤ 5000
def So (d : PyData) : Prop := Sz d 60 1 20 ∧ LenOk d
def Jz (d : PyData) : Prop := Sz d 60 3 13000 ∧ LenOk d
theorem so_int {i : Int} (h : i.natAbs < 10 ^ 58) : So (.int i) := ⟨(Sz.int (k := 58) (W := 20) (by decide) h).mono (by decide) (Nat.le_refl _), fun zs e => by cases e⟩
theorem So.jz {d : PyData} (h : So d) : Jz d := ⟨h.1.mono (by decide) (by decide), h.2⟩
theorem small58 {k : Nat} (h : k ≤ 100000) : ((k : Nat) : Int).natAbs < 10 ^ 58 := by
  rw [Int.natAbs_natCast]
  exact Nat.lt_of_le_of_lt h (by decide)
theorem jz_tup {ds : List PyData} (h : ∀ x ∈ ds, So x) (hl : ds.length ≤ 600) : Jz (.tuple ds) :=
  ⟨(Sz.tup 600 (fun x hx => (h x hx).1) hl).mono (by decide) (by decide), fun zs e => by cases e; omega⟩
theorem jz_lst {ds : List PyData} (h : ∀ x ∈ ds, So x) (hl : ds.length ≤ 600) : Jz (.list ds) :=
  ⟨(Sz.lst 600 (fun x hx => (h x hx).1) hl).mono (by decide) (by decide), fun zs e => by cases e⟩
theorem so_all2 {x y : PyData} (h1 : So x) (h2 : So y) : ∀ d ∈ [x, y], So d := fun d hd => by
  simp only [List.mem_cons, List.not_mem_nil, or_false] at hd
  rcases hd with rfl | rfl
  · exact h1
  · exact h2
theorem merge2 {α β : Type} {S F : α → β → Prop} {G : Prop} (h1 : (∀ a b, S a b → F a b) → G) (h2 : ∀ a b, S a b → F a b) : G := h1 h2
def Jw (wd : Str) : Prop := Sz (.str wd) 60 0 40
/-- what the lambda gives: the thing itself, or an error of its word with it -/
def Heard (es : List (Addr × Str × Str)) (K : PySem.W.Frag) (tl : XK → Hp → VK → Prop) (H : Hp) (d : PyData) (wd : Str) (b : Bool) : Prop := ∀ (E : XK) (H2 : Hp) (Qn : VK), Gr [] H H2 → (b = true → ∀ v H3, Gr [] H2 H3 → Dz K H3 v d → Qn v H3) →
  (b = false → ∀ (C : Addr) (f : Str) (dd : Addr) (v : V) H3, (C, f, wd) ∈ es → Gr [] H2 H3 → H3 dd = some (.xd [(f, v)]) → Dz K H3 v d → E (.ref C) (some dd) H3) → tl E H2 Qn
def dueD (b : Bool) (wd : Str) (d : PyData) : PyData := if b = true then .list [d] else .tuple [.str wd, d]
theorem heard_go {es : List (Addr × Str × Str)} {K : PySem.W.Frag} {tl : XK → Hp → VK → Prop} {H : Hp} {d : PyData} {wd : Str} {b : Bool} (h : Heard es K tl H d wd b) {H1 : Hp} (g : Gr [] H H1) {Q : VK} (q : ∀ p H2, Gr [] H1 H2 → Dz K H2 (.ref p) (dueD b wd d) → Q (.ref p) H2) : TTg es tl H1 Q := fun H2 Qn E g2 k1 k2 =>
  h E H2 Qn (g.trans g2) (fun hb v H3 g3 hv => k1 v H3 fun p np => q p _ ((g2.trans g3).trans (Gr.new np)) (by subst hb; exact dz_lst upd_same (.cons (Dz.gr (Gr.new np) hv) .nil)))
    (fun hb C f dd v H3 hm g3 hx hv => k2 C dd f wd v H3 hm hx fun t H4 g4 h4 => q t H4 ((g2.trans g3).trans g4) (by subst hb; exact dz_tup h4 (.cons (.str _) (.cons (Dz.gr g4 hv) .nil))))
theorem due_sz {b : Bool} {wd : Str} {d : PyData} (h : Jz d) (hw : Jw wd) : Sz (dueD b wd d) 60 4 26002 := by
  cases b with
  | true => exact (Sz.lst (xs := [d]) 1 (fun x hx => by rw [List.mem_singleton] at hx; rw [hx]; exact h.1) (Nat.le_refl _)).mono (Nat.le_refl _) (by decide)
  | false => exact (Sz.tup (xs := [.str wd, d]) (B := 60) (D := 3) (W := 13000) 2 (fun x hx => by
      simp only [List.mem_cons, List.not_mem_nil, or_false] at hx
      rcases hx with rfl | rfl
      · exact hw.mono (by decide) (by decide)
      · exact h.1) (Nat.le_refl _)).mono (Nat.le_refl _) (by decide)
theorem due_fit {b : Bool} {wd : Str} {d : PyData} (h : Jz d) (hw : Jw wd) : FitZ (.list [dueD b wd d, dueD b wd d]) := by
  refine (Sz.lst (B := 60) (W := 26002) (D := 4) 2 (fun x hx => ?_) (Nat.le_refl _)).fit
  simp only [List.mem_cons, List.not_mem_nil, or_false] at hx
  rcases hx with rfl | rfl <;> exact due_sz h hw
def TTi (T : Txt K mg) : (XK → Hp → VK → Prop) → List V → Hp → VK → Prop := fun tl ws H Q => ∃ (p : V) (wd : Str) (d : PyData), ws = [p] ∧ Dz K H p (dueD false wd d) ∧ Jz d ∧ Jw wd ∧ Heard (errs T) K tl H d wd false ∧ ∀ H', Gr [] H H' → Q (.bl true) H'

theorem gives_is {X : Cx} {j : Nat} (T : Txt K mg) (hK : X.K = K) (hm : X.mg = mg) (hgd : X.A.guards = some []) {q : Str} : Gives2 X (j + 2) ["call", "due"] "_law_is" (defScope s_law_is) T.d_law_is.f T.d_law_is.fd.code (defBody s_law_is) "_law_outcome" "call" q (TTout T) (TTi T) := by
  subst hK hm
  intro f c' ws s H Q tl hr act hc h
  have hu := hu_of hr
  refine ⟨_, (pss_one (ps_ret (pe_cmpR op_eq (pe_callB (r := rReprZ X.K) (call_reprZ hgd (gu_of hr)) (by rfl) T.b_repr (by decide +kernel) (pa_cons (pe_lst (pa_cons (act _ _ _) (pa_cons (act _ _ _) pa_nil))) pa_nil)) (pe_callB (r := rReprZ X.K) (call_reprZ hgd (gu_of hr)) (by rfl) T.b_repr (by decide +kernel) (pa_cons (pe_lst (pa_cons (pv 1) (pa_cons (pv 1) pa_nil))) pa_nil)) (nomark _)))), ?_⟩
  obtain ⟨p, wd, d, rfl, hp, hJ, hW, hh, q⟩ := h
  refine ⟨rfl, hc, heard_go hh (Gr.refl _ _) fun p2 H2 g2 h2 => ?_⟩
  refine ⟨rfl, g2 c' _ (by simp) hc, heard_go hh g2 fun p3 H3 g3 h3 => ?_⟩
  refine ⟨by show 2 ≤ sizeLine; decide, fun l nl => ?_⟩
  have gl := Gr.new (W := []) (o := .lst [.ref p2, .ref p3]) nl
  have hl : Dz X.K (upd H3 l (.lst [.ref p2, .ref p3])) (.ref l) (.list [dueD false wd d, dueD false wd d]) := dz_lst upd_same (.cons (Dz.gr (g3.trans gl) h2) (.cons (Dz.gr gl h3) .nil))
  have hp4 := Dz.gr ((g2.trans g3).trans gl) hp
  have G4 := (g2.trans g3).trans gl
  generalize upd H3 l (.lst [.ref p2, .ref p3]) = H4 at gl hl hp4 G4 ⊢
  refine ⟨.ref l, _, rfl, hl, due_fit hJ hW, ?_⟩
  refine ⟨_, rfl, _, rfl, by show 2 ≤ sizeLine; decide, fun l2 nl2 => ?_⟩
  have g5 := Gr.new (W := []) (o := .lst [p, p]) nl2
  have hp5 := Dz.gr g5 hp4
  refine ⟨.ref l2, .list [dueD false wd d, dueD false wd d], rfl, dz_lst upd_same (.cons hp5 (.cons hp5 .nil)), due_fit hJ hW, rfl, ?_⟩
  rw [decide_eq_true rfl]
  exact q _ (G4.trans g5)

end
end Wn
namespace Wn
open PySem PySem.Spec PyProof.Rows L2
open LamX (Tabs ExtN tLam)
local macro_rules | `(tactic| walk_at "vc") => `(tactic| simp only [cxK, cxK2, start1, start2, start3, tRet, tRetN, tSeq, tNext, tIfS, tAsg, gName, tDrop, tVar, tC, tOp, tUn, tTest, tB, tNot, tAnd, tOr, tAndV, tOrV, tNotV, tIf, tCons, tNil, tCB, tCall, tChain, tAug, ipI, rI, rI0, rU, rIs, rGcd, rEq, rNe, scal,
  List.getElem?_cons_zero, List.getElem?_cons_succ, List.set_cons_zero, List.set_cons_succ, Option.some.injEq, List.cons.injEq, V.int.injEq, V.bl.injEq, V.ref.injEq, V.str.injEq, and_true, true_and, exists_eq_left, exists_eq_left', exists_and_left, exists_and_right, List.append_nil, List.nil_append, List.cons_append, exists_eq_right, exists_eq_right', and_assoc, exists_const, V.ty.injEq, ↓reduceIte, Bool.false_eq_true, Bool.not_true, Bool.not_false, decide_eq_true_eq])

section
variable {P : Program} {w : World} {K : PySem.W.Frag} {mg : Str → Option Value} {base : Heap}
def oddN (lo hi : Int) : List PyData := [.none, .int (lo - 1), .int (hi + 1), .bool true, .bool false, .str (Str.ofString "1"), .tuple [.int 1], .list [], .dict [], .int (-(((10) ^ (30 : Int).toNat))), .int (hi + ((10) ^ (40 : Int).toNat))]
def oddFa : List PyData := [.none, .int 0, .str (Str.ofString "1/7"), .tuple [], .tuple [.int 1], .list [.int 1, .int 7], .tuple [.int 1, .int 7, .int 0], .tuple [.int 7, .int 7], .tuple [.int 2, .int 4], .tuple [.int (-(1)), .int 7], .tuple [.int 0, .int 2], .tuple [.int 1, .int 5001], .tuple [.int 1, .int 0], .tuple [.int 0, .int 0]]
def oddFb : List PyData := [.tuple [.bool true, .int 7], .tuple [.int 0, .bool true], .tuple [.str (Str.ofString "1"), .int 7], .tuple [.int 1, .none], .tuple [.tuple [.int 1, .int 7]], .dict [], .tuple [.int 8, .int 7], .tuple [.int ((10) ^ (30 : Int).toNat), .int ((10) ^ (31 : Int).toNat)]]
def oddF : List PyData := oddFa ++ oddFb
theorem ez_pw {K : PySem.W.Frag} {W : List Addr} {σ : L2.St} {H : Hp} {a c : Int} (h : CPow a c) : EzW K W (tOp (rI CPow fun i j => .int (i ^ j.toNat)) (tC (.int a)) (tC (.int c))) σ H (.int (a ^ c.toNat)) := fun H1 _ _ Q q => ⟨a, c, rfl, rfl, h, q _ H1 (Gr.refl _ _) (.int _)⟩
theorem ez_varI {K : PySem.W.Frag} {σ : L2.St} {H : Hp} {W : List Addr} {i : Nat} {x : Int} (e : σ[i]? = some (some (.int x))) : EzW K W (tVar i) σ H (.int x) := ez_var e (.int x)
theorem ezl_lst {K : PySem.W.Frag} {σ : L2.St} {H : Hp} {W : List Addr} {ta : TA} {ds : List PyData} (h : EszW K W ta σ H ds) (hz : ds.length ≤ 1000) {H1 : Hp} (g : Gr W H H1) (s : Wst W H1) {Q : VK} (q : ∀ p vs H2, Gr [] H1 H2 → H2 p = some (.lst vs) → DzAll K (hid W H2) vs ds → Q (.ref p) H2) : tLst ta σ H1 Q :=
  h H1 g s _ fun vs H2 g2 a => ⟨by rw [dzAll_len a]; exact Nat.le_of_lt (small1000 hz), fun p np => q p vs _ (g2.trans (Gr.new np)) upd_same (DzAll.gr (hid_gr (gr0 (Gr.new np))) a)⟩
theorem wst0 {H : Hp} : Wst [] H := fun a ha => by simp at ha
theorem jz_k {d : PyData} (h : (d.showable && d.leavesShort 60 && decide (d.depth ≤ 3) && decide (d.bulk ≤ 13000) && (match d with | .tuple zs => decide (zs.length ≤ 5000) | _ => true)) = true) : Jz d := by
  simp only [Bool.and_eq_true, decide_eq_true_eq] at h
  obtain ⟨⟨⟨⟨h1, h2⟩, h3⟩, h4⟩, h5⟩ := h
  refine ⟨⟨h1, h2, h3, h4⟩, fun zs e => ?_⟩
  subst e
  simpa using h5
def sp_odd_numbers (K : PySem.W.Frag) : Sp := fun vs H Q _ => ∃ lo hi : Int, vs = [.int lo, .int hi] ∧ ∀ p xs H', Gr [] H H' → H' p = some (.lst xs) → DzAll K H' xs (oddN lo hi) → Q (.ref p) H'
def sp_odd_fractions (K : PySem.W.Frag) : Sp := fun vs H Q _ => vs = [] ∧ ∀ p xs H', Gr [] H H' → H' p = some (.lst xs) → DzAll K H' xs oddF → Q (.ref p) H'
theorem oddN_m : ∀ d ∈ oddN 0 W30, isW 0 W30 d = false ∧ Jz d := by
  intro d h
  unfold oddN at h
  simp only [List.mem_cons, List.not_mem_nil, or_false] at h
  rcases h with rfl | rfl | rfl | rfl | rfl | rfl | rfl | rfl | rfl | rfl | rfl
  · exact ⟨by decide +kernel, jz_k (by decide +kernel)⟩
  · exact ⟨by decide +kernel, jz_k (by decide +kernel)⟩
  · exact ⟨by decide +kernel, jz_k (by decide +kernel)⟩
  · exact ⟨by decide +kernel, jz_k (by decide +kernel)⟩
  · exact ⟨by decide +kernel, jz_k (by decide +kernel)⟩
  · exact ⟨by decide +kernel, jz_k (by decide +kernel)⟩
  · exact ⟨by decide +kernel, jz_k (by decide +kernel)⟩
  · exact ⟨by decide +kernel, jz_k (by decide +kernel)⟩
  · exact ⟨by decide +kernel, jz_k (by decide +kernel)⟩
  · exact ⟨by decide +kernel, jz_k (by decide +kernel)⟩
  · exact ⟨by decide +kernel, jz_k (by decide +kernel)⟩
theorem oddN_b : ∀ d ∈ oddN 2 1000, isW 2 1000 d = false ∧ Jz d := by
  intro d h
  unfold oddN at h
  simp only [List.mem_cons, List.not_mem_nil, or_false] at h
  rcases h with rfl | rfl | rfl | rfl | rfl | rfl | rfl | rfl | rfl | rfl | rfl
  · exact ⟨by decide +kernel, jz_k (by decide +kernel)⟩
  · exact ⟨by decide +kernel, jz_k (by decide +kernel)⟩
  · exact ⟨by decide +kernel, jz_k (by decide +kernel)⟩
  · exact ⟨by decide +kernel, jz_k (by decide +kernel)⟩
  · exact ⟨by decide +kernel, jz_k (by decide +kernel)⟩
  · exact ⟨by decide +kernel, jz_k (by decide +kernel)⟩
  · exact ⟨by decide +kernel, jz_k (by decide +kernel)⟩
  · exact ⟨by decide +kernel, jz_k (by decide +kernel)⟩
  · exact ⟨by decide +kernel, jz_k (by decide +kernel)⟩
  · exact ⟨by decide +kernel, jz_k (by decide +kernel)⟩
  · exact ⟨by decide +kernel, jz_k (by decide +kernel)⟩
theorem oddF_a : ∀ d ∈ oddFa, frB d = false ∧ Jz d := by
  intro d h
  unfold oddFa at h
  simp only [List.mem_cons, List.not_mem_nil, or_false] at h
  rcases h with rfl | rfl | rfl | rfl | rfl | rfl | rfl | rfl | rfl | rfl | rfl | rfl | rfl | rfl
  · exact ⟨by decide +kernel, jz_k (by decide +kernel)⟩
  · exact ⟨by decide +kernel, jz_k (by decide +kernel)⟩
  · exact ⟨by decide +kernel, jz_k (by decide +kernel)⟩
  · exact ⟨by decide +kernel, jz_k (by decide +kernel)⟩
  · exact ⟨by decide +kernel, jz_k (by decide +kernel)⟩
  · exact ⟨by decide +kernel, jz_k (by decide +kernel)⟩
  · exact ⟨by decide +kernel, jz_k (by decide +kernel)⟩
  · exact ⟨by decide +kernel, jz_k (by decide +kernel)⟩
  · exact ⟨by decide +kernel, jz_k (by decide +kernel)⟩
  · exact ⟨by decide +kernel, jz_k (by decide +kernel)⟩
  · exact ⟨by decide +kernel, jz_k (by decide +kernel)⟩
  · exact ⟨by decide +kernel, jz_k (by decide +kernel)⟩
  · exact ⟨by decide +kernel, jz_k (by decide +kernel)⟩
  · exact ⟨by decide +kernel, jz_k (by decide +kernel)⟩
theorem oddF_b : ∀ d ∈ oddFb, frB d = false ∧ Jz d := by
  intro d h
  unfold oddFb at h
  simp only [List.mem_cons, List.not_mem_nil, or_false] at h
  rcases h with rfl | rfl | rfl | rfl | rfl | rfl | rfl | rfl
  · exact ⟨by decide +kernel, jz_k (by decide +kernel)⟩
  · exact ⟨by decide +kernel, jz_k (by decide +kernel)⟩
  · exact ⟨by decide +kernel, jz_k (by decide +kernel)⟩
  · exact ⟨by decide +kernel, jz_k (by decide +kernel)⟩
  · exact ⟨by decide +kernel, jz_k (by decide +kernel)⟩
  · exact ⟨by decide +kernel, jz_k (by decide +kernel)⟩
  · exact ⟨by decide +kernel, jz_k (by decide +kernel)⟩
  · exact ⟨by decide +kernel, jz_k (by decide +kernel)⟩
theorem oddF_ok : ∀ d ∈ oddF, frB d = false ∧ Jz d := fun d h => (List.mem_append.mp h).elim (oddF_a d) (oddF_b d)
theorem ok_law_odd_numbers (T : Txt K mg) : FnOk P w K mg base CX0 1 T.d_law_odd_numbers.f T.d_law_odd_numbers.fd ["low", "most"] (sp_odd_numbers K) := by
  refine T.d_law_odd_numbers.F.ok sc_law_odd_numbers (fun vs H Q E h => ?_) (fun cdv A outer s H vs Q E hr h => ?_)
  · obtain ⟨lo, hi, rfl, _⟩ := h; rfl
  · have hu := hu_of hr
    refine ⟨_, (pss_one (ps_ret (pe_lst (pa_cons pe_non (pa_cons (pe_op op_sub (pv 0) pe_int) (pa_cons (pe_op op_add (pv 1) pe_int) (pa_cons pe_bl (pa_cons pe_bl (pa_cons pe_str (pa_cons (pe_tup (pa_cons pe_int pa_nil)) (pa_cons (pe_lst pa_nil) (pa_cons pe_dnewK (pa_cons (pe_un un_neg (pe_op op_pow pe_int pe_int)) (pa_cons (pe_op op_add (pv 1) (pe_op op_pow pe_int pe_int)) pa_nil)))))))))))))), ?_⟩
    obtain ⟨lo, hi, rfl, q⟩ := h
    exact ezl_lst (K := K) (W := []) (H := H) (ds := oddN lo hi) (ezs_cons ez_non (ezs_cons (ez_i0 (g := fun i j => i - j) (ez_varI rfl) ez_int) (ezs_cons (ez_i0 (g := fun i j => i + j) (ez_varI rfl) ez_int) (ezs_cons ez_bl (ezs_cons ez_bl (ezs_cons ez_str (ezs_cons (ez_tup (ezs_cons ez_int ezs_nil)) (ezs_cons (ez_lst ezs_nil) (ezs_cons ez_dct (ezs_cons (ez_neg (g := fun i => -i) (ez_pw (a := 10) (c := 30) ⟨by decide, by decide, by decide⟩)) (ezs_cons (ez_i0 (g := fun i j => i + j) (ez_varI rfl) (ez_pw (a := 10) (c := 40) ⟨by decide, by decide, by decide⟩)) ezs_nil))))))))))) (by show 11 ≤ 1000; decide) (Gr.refl _ _) wst0 fun p xs H' g e a => q p xs H' g e a.out
theorem ok_law_odd_fractions (T : Txt K mg) : FnOk P w K mg base CX0 1 T.d_law_odd_fractions.f T.d_law_odd_fractions.fd [] (sp_odd_fractions K) := by
  refine T.d_law_odd_fractions.F.ok sc_law_odd_fractions (fun vs H Q E h => ?_) (fun cdv A outer s H vs Q E hr h => ?_)
  · obtain ⟨rfl, _⟩ := h; rfl
  · have hu := hu_of hr
    refine ⟨_, (pss_cons (ps_set (i := 0) sc_law_odd_fractions.nd rfl (by first | exact .inl rfl | exact .inr rfl) (pe_lst (pa_cons pe_non (pa_cons pe_int (pa_cons pe_str (pa_cons (pe_tup pa_nil) (pa_cons (pe_tup (pa_cons pe_int pa_nil)) (pa_cons (pe_lst (pa_cons pe_int (pa_cons pe_int pa_nil))) (pa_cons (pe_tup (pa_cons pe_int (pa_cons pe_int (pa_cons pe_int pa_nil)))) (pa_cons (pe_tup (pa_cons pe_int (pa_cons pe_int pa_nil))) (pa_cons (pe_tup (pa_cons pe_int (pa_cons pe_int pa_nil))) (pa_cons (pe_tup (pa_cons (pe_un un_neg pe_int) (pa_cons pe_int pa_nil))) (pa_cons (pe_tup (pa_cons pe_int (pa_cons pe_int pa_nil))) (pa_cons (pe_tup (pa_cons pe_int (pa_cons pe_int pa_nil))) (pa_cons (pe_tup (pa_cons pe_int (pa_cons pe_int pa_nil))) (pa_cons (pe_tup (pa_cons pe_int (pa_cons pe_int pa_nil))) pa_nil))))))))))))))))
      (pss_one (ps_ret (pe_op op_cat (pv 0) (pe_lst (pa_cons (pe_tup (pa_cons pe_bl (pa_cons pe_int pa_nil))) (pa_cons (pe_tup (pa_cons pe_int (pa_cons pe_bl pa_nil))) (pa_cons (pe_tup (pa_cons pe_str (pa_cons pe_int pa_nil))) (pa_cons (pe_tup (pa_cons pe_int (pa_cons pe_non pa_nil))) (pa_cons (pe_tup (pa_cons (pe_tup (pa_cons pe_int (pa_cons pe_int pa_nil))) pa_nil)) (pa_cons pe_dnewK (pa_cons (pe_tup (pa_cons pe_int (pa_cons pe_int pa_nil))) (pa_cons (pe_tup (pa_cons (pe_op op_pow pe_int pe_int) (pa_cons (pe_op op_pow pe_int pe_int) pa_nil))) pa_nil))))))))))))), ?_⟩
    obtain ⟨rfl, q⟩ := h
    unfold tSeq tAsg
    refine ezl_lst (K := K) (W := []) (H := H) (ds := oddFa) (ezs_cons ez_non (ezs_cons ez_int (ezs_cons ez_str (ezs_cons (ez_tup ezs_nil) (ezs_cons (ez_tup (ezs_cons ez_int ezs_nil)) (ezs_cons (ez_lst (ezs_cons ez_int (ezs_cons ez_int ezs_nil))) (ezs_cons (ez_tup (ezs_cons ez_int (ezs_cons ez_int (ezs_cons ez_int ezs_nil)))) (ezs_cons (ez_tup (ezs_cons ez_int (ezs_cons ez_int ezs_nil))) (ezs_cons (ez_tup (ezs_cons ez_int (ezs_cons ez_int ezs_nil))) (ezs_cons (ez_tup (ezs_cons (ez_neg (g := fun i => -i) ez_int) (ezs_cons ez_int ezs_nil))) (ezs_cons (ez_tup (ezs_cons ez_int (ezs_cons ez_int ezs_nil))) (ezs_cons (ez_tup (ezs_cons ez_int (ezs_cons ez_int ezs_nil))) (ezs_cons (ez_tup (ezs_cons ez_int (ezs_cons ez_int ezs_nil))) (ezs_cons (ez_tup (ezs_cons ez_int (ezs_cons ez_int ezs_nil))) ezs_nil)))))))))))))) (by decide) (Gr.refl _ _) wst0 fun p1 xs1 H1 g1 e1 a1 => ?_
    refine ⟨_, rfl, ?_⟩
    refine ezl_lst (K := K) (W := []) (H := H1) (ds := oddFb) (ezs_cons (ez_tup (ezs_cons ez_bl (ezs_cons ez_int ezs_nil))) (ezs_cons (ez_tup (ezs_cons ez_int (ezs_cons ez_bl ezs_nil))) (ezs_cons (ez_tup (ezs_cons ez_str (ezs_cons ez_int ezs_nil))) (ezs_cons (ez_tup (ezs_cons ez_int (ezs_cons ez_non ezs_nil))) (ezs_cons (ez_tup (ezs_cons (ez_tup (ezs_cons ez_int (ezs_cons ez_int ezs_nil))) ezs_nil)) (ezs_cons ez_dct (ezs_cons (ez_tup (ezs_cons ez_int (ezs_cons ez_int ezs_nil))) (ezs_cons (ez_tup (ezs_cons (ez_pw (a := 10) (c := 30) ⟨by decide, by decide, by decide⟩) (ezs_cons (ez_pw (a := 10) (c := 31) ⟨by decide, by decide, by decide⟩) ezs_nil))) ezs_nil)))))))) (by decide) (Gr.refl _ _) wst0 fun p2 xs2 H2 g2 e2 a2 => ?_
    have l1 := dzAll_len a1.out
    have l2 := dzAll_len a2.out
    refine ⟨p1, p2, xs1, xs2, rfl, rfl, g2 p1 _ (by simp) e1, e2, ?_, fun p np => ?_⟩
    · rw [l1, l2]
      exact Nat.le_of_lt (small1000 (by decide))
    exact q p _ _ ((g1.trans g2).trans (Gr.new np)) upd_same (DzAll.gr (Gr.new np) (dzAll_append (DzAll.gr g2 a1.out) a2.out))

end
end Wn
namespace Wn
open PySem PySem.Spec PyProof.Rows L2
open LamX (Tabs ExtN tLam)
local macro_rules | `(tactic| walk_at "vc") => `(tactic| simp only [cxK, cxK2, start1, start2, start3, tRet, tRetN, tSeq, tNext, tIfS, tAsg, gName, tDrop, tVar, tC, tOp, tUn, tTest, tB, tNot, tAnd, tOr, tAndV, tOrV, tNotV, tIf, tCons, tNil, tCB, tCall, tChain, tAug, ipI, rI, rI0, rU, rIs, rGcd, rEq, rNe, scal,
  List.getElem?_cons_zero, List.getElem?_cons_succ, List.set_cons_zero, List.set_cons_succ, Option.some.injEq, List.cons.injEq, V.int.injEq, V.bl.injEq, V.ref.injEq, V.str.injEq, and_true, true_and, exists_eq_left, exists_eq_left', exists_and_left, exists_and_right, List.append_nil, List.nil_append, List.cons_append, exists_eq_right, exists_eq_right', and_assoc, exists_const, V.ty.injEq, ↓reduceIte, Bool.false_eq_true, Bool.not_true, Bool.not_false, decide_eq_true_eq])

section
variable {P : Program} {w : World} {K : PySem.W.Frag} {mg : Str → Option Value} {base : Heap}
theorem kb_Dial_undo (T : Txt K mg) : KBn K T.fd_Dial_undo ["self", "many"] 1 ["many"] (fun us ws => us ++ ws) (fun vs zs => vs ++ zs) := by
  obtain ⟨oc, od, dV, kV, doc, pm, an, cdv, ct, osl, e, lk, hcd, hD, hK⟩ := T.F_Dial_undo.ex
  rcases hD with ⟨_, e2⟩ | ⟨z, _⟩
  · subst e2
    refine ⟨fun s us ws _ l1 l2 => ?_, fun r1 r2 => r1.append r2⟩
    rw [e]
    match us, ws, l1, l2 with
    | [_], [_], _, _ => exact .of_eq rfl
  · exact absurd rfl z
theorem b0_ex (T : Txt K mg) : ∃ ds, Vals [V.int 1] ds ∧ Binds K T.fd_Dial_undo ["self", "many"] ds := by
  refine T.F_Dial_undo.binds0 1 (by simp) rfl (fun D doc pm an cdv ct us ks l1 l2 => ?_)
  match us, ks, l1, l2 with
  | [_], [_], _, _ => exact ⟨_, _, _, _, _, _, rfl, rfl, rfl⟩
noncomputable def ds_undo (T : Txt K mg) : List Value := Classical.choose (b0_ex T)
theorem d0_Dial_undo (T : Txt K mg) : Vals [V.int 1] (ds_undo T) := (Classical.choose_spec (b0_ex T)).1
theorem b0_Dial_undo (T : Txt K mg) : Binds K T.fd_Dial_undo ["self", "many"] (ds_undo T) := (Classical.choose_spec (b0_ex T)).2
theorem jw_num : Jw "number" := ⟨rfl, by decide +kernel, by decide, by decide +kernel⟩
theorem jw_fr : Jw "fraction" := ⟨rfl, by decide +kernel, by decide, by decide +kernel⟩
theorem jw_base : Jw "base" := ⟨rfl, by decide +kernel, by decide, by decide +kernel⟩
theorem jw_no : Jw "nothing" := ⟨rfl, by decide +kernel, by decide, by decide +kernel⟩
theorem jw_gr : Jw "great" := ⟨rfl, by decide +kernel, by decide, by decide +kernel⟩
theorem hm_base (T : Txt K mg) : (T.C_BadBase, ("value" : Str), ("base" : Str)) ∈ errs T := by unfold errs; simp
theorem hm_fr (T : Txt K mg) : (T.C_BadFraction, ("value" : Str), ("fraction" : Str)) ∈ errs T := by unfold errs; simp
theorem hm_num (T : Txt K mg) : (T.C_BadNumber, ("value" : Str), ("number" : Str)) ∈ errs T := by unfold errs; simp
theorem hm_gr (T : Txt K mg) : (T.C_TooGreat, ("most" : Str), ("great" : Str)) ∈ errs T := by unfold errs; simp
theorem hm_no (T : Txt K mg) : (T.C_Nothing, ("value" : Str), ("nothing" : Str)) ∈ errs T := by unfold errs; simp
/-- a dial on the heap, whatever it showed before -/
structure Dl (T : Txt K mg) (H : Hp) (a dx l p : Addr) (b x n : Nat) (past : List V) : Prop where
  D : H a = some (dlO T dx b p l)
  L : H l = some (.lst past)
  P : H p = some (.tup [.int x, .int n])
  fr : FR b x n
  sz : past.length ≤ 1000
section
variable {T : Txt K mg} {H H' : Hp} {a dx l p : Addr} {b x n : Nat} {past : List V}
theorem Dl.ext (S : Dl T H a dx l p b x n past) (g : ExtN H H') : Dl T H' a dx l p b x n past := ⟨g _ _ S.D (fun _ z => by cases z), g _ _ S.L (fun _ z => by cases z), g _ _ S.P (fun _ z => by cases z), S.fr, S.sz⟩
theorem Dl.gr (S : Dl T H a dx l p b x n past) (g : Gr [] H H') : Dl T H' a dx l p b x n past := S.ext (extOf g)
variable {σ : L2.St} {i j : Nat} {v : V} {d : PyData}
theorem heardT {m : Str} (hm : List.lookup m [(Str.ofString "_base", V.int b), (Str.ofString "_shown", V.ref p), (Str.ofString "_past", V.ref l)] = none) (S : Dl T H a dx l p b x n past) (e0 : σ[i]? = some (some (.ref a))) (e1 : σ[j]? = some (some v)) (hz : Dz K H v d) (hw : isW 0 W30 d = false) :
    Heard (errs T) K (fun E H' Q' => tMeth T.C_Dial m (sp_turnX T) [] E (tVar i) (tCons (tVar j) tNil) σ H' Q') H d "number" false := fun E H2 Qn g2 _ k2 =>
  ⟨_, e0, a, dx, _, rfl, (S.gr g2).D, hm, _, e1, a, dx, l, p, b, x, n, v, d, rfl, (S.gr g2).D, (S.gr g2).P, S.fr, Dz.gr g2 hz, hw, fun dd H3 g3 hx => k2 rfl T.C_BadNumber "value" dd v H3 (hm_num T) g3 hx (Dz.gr (g2.trans g3) hz)⟩
theorem heardC (S : Dl T H a dx l p b x n past) (e0 : σ[i]? = some (some (.ref a))) (e1 : σ[j]? = some (some v)) (hz : Dz K H v d) (hw : isW 0 W30 d = false) :
    Heard (errs T) K (fun E H' Q' => tCallIX T.C_Dial (sp_turnX T) E (tVar i) (tCons (tVar j) tNil) σ H' Q') H d "number" false := fun E H2 Qn g2 _ k2 =>
  ⟨_, e0, a, rfl, _, e1, ⟨dx, _, (S.gr g2).D⟩, a, dx, l, p, b, x, n, v, d, rfl, (S.gr g2).D, (S.gr g2).P, S.fr, Dz.gr g2 hz, hw, fun dd H3 g3 hx => k2 rfl T.C_BadNumber "value" dd v H3 (hm_num T) g3 hx (Dz.gr (g2.trans g3) hz)⟩
theorem heardA (S : Dl T H a dx l p b x n past) (e0 : σ[i]? = some (some (.ref a))) (e1 : σ[j]? = some (some v)) (hz : Dz K H v d) (hw : frB d = false) :
    Heard (errs T) K (fun E H' Q' => tMeth T.C_Dial "add" (sp_addX T) [] E (tVar i) (tCons (tVar j) tNil) σ H' Q') H d "fraction" false := fun E H2 Qn g2 _ k2 =>
  ⟨_, e0, a, dx, _, rfl, (S.gr g2).D, by rfl, _, e1, a, dx, l, p, b, x, n, v, d, rfl, (S.gr g2).D, (S.gr g2).P, S.fr, Dz.gr g2 hz, fun _ dd H3 g3 hx => k2 rfl T.C_BadFraction "value" dd v H3 (hm_fr T) g3 hx (Dz.gr (g2.trans g3) hz), fun z => by rw [hw] at z; cases z⟩
/-- undo(many=v) refused -/
theorem heardU {tv : TE} (S : Dl T H a dx l p b x n past) (e0 : σ[i]? = some (some (.ref a))) (e1 : ∀ H' (Q : VK), Gr [] H H' → (∀ H2, Gr [] H' H2 → Dz K H2 v d → Q v H2) → tv σ H' Q) (hw : isI d = false ∨ ∃ i : Int, d = .int i ∧ i < 1) :
    Heard (errs T) K (fun E H' Q' => tMethK T.C_Dial "undo" (sp_undoX T) (fun vs zs => vs ++ zs) 1 E (tVar i) (tCons tv tNil) σ H' Q') H d "number" false := fun E H2 Qn g2 _ k2 =>
  ⟨_, e0, a, dx, _, rfl, (S.gr g2).D, by rfl, e1 H2 _ g2 fun H3 g3 hz => ⟨rfl, a, dx, l, p, b, past, v, d, rfl, ((S.gr g2).gr g3).D, ((S.gr g2).gr g3).L, Nat.le_trans S.sz (by decide), hz, .inl ⟨hw, fun dd H4 g4 hx => k2 rfl T.C_BadNumber "value" dd v H4 (hm_num T) (g3.trans g4) hx (Dz.gr g4 hz)⟩⟩⟩
theorem heardN {tv : TE} {k : Int} (S : Dl T H a dx l p b x n past) (e0 : σ[i]? = some (some (.ref a))) (e1 : ∀ H' (Q : VK), Q (.int k) H' → tv σ H' Q) (h1 : 1 ≤ k) (h2 : (past.length : Int) < k) :
    Heard (errs T) K (fun E H' Q' => tMethK T.C_Dial "undo" (sp_undoX T) (fun vs zs => vs ++ zs) 1 E (tVar i) (tCons tv tNil) σ H' Q') H (.int k) "nothing" false := fun E H2 Qn g2 _ k2 =>
  ⟨_, e0, a, dx, _, rfl, (S.gr g2).D, by rfl, e1 H2 _ ⟨rfl, a, dx, l, p, b, past, .int k, .int k, rfl, (S.gr g2).D, (S.gr g2).L, Nat.le_trans S.sz (by decide), .int k, .inr ⟨⟨k, rfl, h1, h2⟩, fun dd H4 g4 hx => k2 rfl T.C_Nothing "value" dd (.int k) H4 (hm_no T) g4 hx (.int k)⟩⟩⟩
end
def sp_law_moves (T : Txt K mg) : Sp := fun vs H Q _ => ∃ (a dx l p : Addr) (b x n : Nat) (past : List V), vs = [.ref a] ∧ Dl T H a dx l p b x n past ∧ Tabs (tl T) H ∧ ∀ H', ExtN H H' → Tabs (tl T) H' → Q (.bl true) H'
def shD (b x n k : Nat) : PyData := .list [.int (b : Nat), qD (x, n), .int (k : Nat)]
theorem shD_fit {b x n k : Nat} (F : FR b x n) (hk : k ≤ 1000) : FitZ (shD b x n k) := by
  obtain ⟨⟨hb1, hb2, hn1, hn2⟩, hx, hg⟩ := F
  refine (Sz.lst (B := 60) (D := 1) (W := 20) 3 (fun d hd => ?_) (Nat.le_refl _)).fit
  simp only [List.mem_cons, List.not_mem_nil, or_false] at hd
  rcases hd with rfl | rfl | rfl
  · exact (so_int (small58 (by omega))).1
  · exact (Sz.tup (B := 60) (D := 0) (W := 9) 2 (fun d hd => by
      simp only [List.mem_cons, List.not_mem_nil, or_false] at hd
      rcases hd with rfl | rfl
      · exact Sz.int (k := 58) (by decide) (small58 (by omega))
      · exact Sz.int (k := 58) (by decide) (small58 (by omega))) (Nat.le_refl _)).mono (by decide) (by decide)
  · exact (so_int (small58 (by omega))).1

end
end Wn
namespace Wn
open PySem PySem.Spec PyProof.Rows L2
open LamX (Tabs ExtN tLam)
local macro_rules | `(tactic| walk_at "vc") => `(tactic| simp only [cxK, cxK2, start1, start2, start3, tRet, tRetN, tSeq, tNext, tIfS, tAsg, gName, tDrop, tVar, tC, tOp, tUn, tTest, tB, tNot, tAnd, tOr, tAndV, tOrV, tNotV, tIf, tCons, tNil, tCB, tCall, tChain, tAug, ipI, rI, rI0, rU, rIs, rGcd, rEq, rNe, scal,
  List.getElem?_cons_zero, List.getElem?_cons_succ, List.set_cons_zero, List.set_cons_succ, Option.some.injEq, List.cons.injEq, V.int.injEq, V.bl.injEq, V.ref.injEq, V.str.injEq, and_true, true_and, exists_eq_left, exists_eq_left', exists_and_left, exists_and_right, List.append_nil, List.nil_append, List.cons_append, exists_eq_right, exists_eq_right', and_assoc, exists_const, V.ty.injEq, ↓reduceIte, Bool.false_eq_true, Bool.not_true, Bool.not_false, decide_eq_true_eq])

section
variable {P : Program} {w : World} {K : PySem.W.Frag} {mg : Str → Option Value} {base : Heap}
def oddU : List PyData := [.none, .int 0, .int (-(1)), .bool true, .bool false, .str (Str.ofString "1"), .tuple [.int 1], .list [], .dict []]
theorem oddU_ok : ∀ d ∈ oddU, (isI d = false ∨ ∃ i : Int, d = .int i ∧ i < 1) ∧ Jz d := by
  intro d h
  unfold oddU at h
  simp only [List.mem_cons, List.not_mem_nil, or_false] at h
  rcases h with rfl | rfl | rfl | rfl | rfl | rfl | rfl | rfl | rfl
  · exact ⟨by first | exact .inl rfl | exact .inr ⟨_, rfl, by decide⟩, jz_k (by decide +kernel)⟩
  · exact ⟨by first | exact .inl rfl | exact .inr ⟨_, rfl, by decide⟩, jz_k (by decide +kernel)⟩
  · exact ⟨by first | exact .inl rfl | exact .inr ⟨_, rfl, by decide⟩, jz_k (by decide +kernel)⟩
  · exact ⟨by first | exact .inl rfl | exact .inr ⟨_, rfl, by decide⟩, jz_k (by decide +kernel)⟩
  · exact ⟨by first | exact .inl rfl | exact .inr ⟨_, rfl, by decide⟩, jz_k (by decide +kernel)⟩
  · exact ⟨by first | exact .inl rfl | exact .inr ⟨_, rfl, by decide⟩, jz_k (by decide +kernel)⟩
  · exact ⟨by first | exact .inl rfl | exact .inr ⟨_, rfl, by decide⟩, jz_k (by decide +kernel)⟩
  · exact ⟨by first | exact .inl rfl | exact .inr ⟨_, rfl, by decide⟩, jz_k (by decide +kernel)⟩
  · exact ⟨by first | exact .inl rfl | exact .inr ⟨_, rfl, by decide⟩, jz_k (by decide +kernel)⟩
theorem dz_tup_inv {K : PySem.W.Frag} {H : Hp} {v : V} {ds : List PyData} (h : Dz K H v (.tuple ds)) : ∃ a xs, v = .ref a ∧ SqT K H a xs ∧ DzAll K H xs ds := by
  cases h with
  | tup h1 h2 => exact ⟨_, _, rfl, h1, h2⟩
/-- for .. in a tuple that is made here -/
theorem for_tupZ {K : PySem.W.Frag} {te : TE} {g : TG} {tb : TS} {D : Ends} {σ : L2.St} {H : Hp} {ds : List PyData} (h : EzW K [] te σ H (.tuple ds))
    (k : ∀ a xs H2, Gr [] H H2 → SqT K H2 a xs → DzAll K H2 xs ds → ∃ Pv : Nat → L2.St → Hp → Prop, Pv 0 σ H2 ∧ (∀ i σ H, i ≤ xs.length → Pv i σ H → SqT K H a xs) ∧
      (∀ i x σ H, xs[i]? = some x → Pv i σ H → g x σ H fun σ2 H2 => tb { D with nx := Pv (i + 1), ct := Pv (i + 1), bk := D.nx } σ2 H2) ∧ (∀ σ H, Pv xs.length σ H → D.nx σ H)) : tFor (iTup K te) g tb D σ H := by
  refine h H (Gr.refl _ _) (fun a z => by simp at z) _ fun v H2 g2 hz => ?_
  obtain ⟨a, xs, rfl, h1, h2⟩ := dz_tup_inv hz.out
  obtain ⟨Pv, p0, pl, ps, pd⟩ := k a xs H2 g2 h1 h2
  exact ⟨a, rfl, ⟨xs, h1⟩, for_tup Pv p0 pl ps pd⟩
theorem okG_law_moves_right (T : Txt K mg) (B : Tbs T base) : FnG P w K mg base CX0 10 T.d_law_moves_right.f T.d_law_moves_right.fd ["live"] (sp_law_moves T) := by
  refine fnGc0 T.d_law_moves_right.F sc_law_moves_right (fun vs H Q E h => ?_) (fun cdv A outer s H vs Q E hcc hgd hr h => ?_)
  · obtain ⟨a, dx, l, p, b, x, n, past, rfl, _⟩ := h; rfl
  · have hu := hu_of hr
    have hcode : cdv = .ref T.k_law_moves_right := hcc.symm.trans T.e_law_moves_right
    refine ⟨_, (pss_cons (ps_set (i := 1) sc_law_moves_right.nd rfl (by first | exact .inl rfl | exact .inr rfl) (pe_callB (r := rReprZ K) (call_reprZ hgd (gu_of hr)) (by rfl) T.b_repr (by decide +kernel) (pa_cons (pe_lst (pa_cons (pe_prop (pv 0) T.cl_Dial T.pr_Dial_base (ok_Dial_base T) (hr.mono (by decide)) T.b_Dial_base .nil pass0 rfl) (pa_cons (pe_prop (pv 0) T.cl_Dial T.pr_Dial_fraction (ok_Dial_fraction T) (hr.mono (by decide)) T.b_Dial_fraction .nil pass0 rfl) (pa_cons (pe_callB (r := rLenO T.C_Dial (sp_Dial_len T)) (call_lenO T.at_Dial_len T.fn_Dial_len (ok_Dial_len T) (hr.mono (by decide)) T.b_Dial_len) (by rfl) T.b_len PySem.boot_len (pa_cons (pv 0) pa_nil)) pa_nil)))) pa_nil)))
      (pss_cons (ps_for PassesOwn.never rfl (pi_list (pe_call (ok_law_odd_numbers T) (hr.mono (by decide)) (by rfl) T.d_law_odd_numbers.m T.d_law_odd_numbers.F.kp T.d_law_odd_numbers.b .nil pass0 (pa_cons pe_int (pa_cons (pe_op op_pow pe_int pe_int) pa_nil)))) (pg_name (i := 2) sc_law_moves_right.nd rfl (by first | exact .inl rfl | exact .inr rfl)) (pss_one (ps_for PassesOwn.never rfl (pi_tup (pe_tup (pa_cons (pe_lamE (T := tl T) (B.tb_law_moves_right) hcode (hm_law_moves_right T) (hu_law_moves_right T) rfl (lamD_by (N := ["live", "shown", "odd", "call", "kept", "steps"]) (sc := defScope s_law_moves_right) (by decide +kernel)) (fun _ _ _ _ _ _ => rfl)) (pa_cons (pe_lamD (T := tl T) (B.tb_law_moves_right) hcode (hm_law_moves_right T) (hu_law_moves_right T) rfl rfl (lamD_by (N := ["live", "shown", "odd", "call", "kept", "steps"]) (sc := defScope s_law_moves_right) (by decide +kernel)) (fun _ _ _ _ _ _ _ _ => ⟨_, rfl, rfl⟩) rfl) (pa_cons (pe_lamD (T := tl T) (B.tb_law_moves_right) hcode (hm_law_moves_right T) (hu_law_moves_right T) rfl rfl (lamD_by (N := ["live", "shown", "odd", "call", "kept", "steps"]) (sc := defScope s_law_moves_right) (by decide +kernel)) (fun _ _ _ _ _ _ _ _ => ⟨_, rfl, rfl⟩) rfl) pa_nil))))) (pg_name (i := 3) sc_law_moves_right.nd rfl (by first | exact .inl rfl | exact .inr rfl)) (pss_one (ps_if (pt_not (pt_val (PE.or (pe_outT2 (params := lamP (tupAt (forIter ((forBody ((defBody s_law_moves_right).getD 1 (.Pass ⟨0, 0, 0, 0⟩))).getD 0 (.Pass ⟨0, 0, 0, 0⟩))) 0)) (body := lamB (tupAt (forIter ((forBody ((defBody s_law_moves_right).getD 1 (.Pass ⟨0, 0, 0, 0⟩))).getD 0 (.Pass ⟨0, 0, 0, 0⟩))) 0)) (scope := lamS (tupAt (forIter ((forBody ((defBody s_law_moves_right).getD 1 (.Pass ⟨0, 0, 0, 0⟩))).getD 0 (.Pass ⟨0, 0, 0, 0⟩))) 0)) (TT := TTout T) (TT2 := TTi T) (k := 6) (n := 1) (x := "_law_outcome") (by rfl) T.d_law_is.m T.d_law_is.F.kp T.d_law_is.F rfl T.d_law_is.b sc_law_is rfl (by first | exact .inl rfl | exact .inr (.inl rfl)) rfl T.d_law_outcome.m T.d_law_outcome.F.kp T.d_law_outcome.F rfl T.d_law_outcome.b sc_law_outcome rfl (by first | exact .inl rfl | exact .inr (.inl rfl)) (fun _ _ => by rfl) (fun _ _ => gives_out T rfl rfl) (gives_is T rfl rfl hgd) (pv 3) (hr.mono (by decide)) (lamD_by (N := ["live", "shown", "odd", "call", "kept", "steps"]) (sc := defScope s_law_moves_right) (by decide +kernel)) (fun _ _ _ _ _ _ _ hr => (pe_meth (pv 0) T.cl_Dial T.me_Dial_turn (okX_Dial_turn T) (hr.mono (by decide)) T.b_Dial_turn .nil (passes_call (takes_of rfl rfl rfl rfl) (fun _ _ _ _ z => z)) (pa_cons (pv 2) pa_nil))) (pa_cons (pe_tup (pa_cons pe_str (pa_cons (pv 2) pa_nil))) pa_nil)) (PE.or (pe_outT2 (params := lamP (tupAt (forIter ((forBody ((defBody s_law_moves_right).getD 1 (.Pass ⟨0, 0, 0, 0⟩))).getD 0 (.Pass ⟨0, 0, 0, 0⟩))) 1)) (body := lamB (tupAt (forIter ((forBody ((defBody s_law_moves_right).getD 1 (.Pass ⟨0, 0, 0, 0⟩))).getD 0 (.Pass ⟨0, 0, 0, 0⟩))) 1)) (scope := lamS (tupAt (forIter ((forBody ((defBody s_law_moves_right).getD 1 (.Pass ⟨0, 0, 0, 0⟩))).getD 0 (.Pass ⟨0, 0, 0, 0⟩))) 1)) (TT := TTout T) (TT2 := TTi T) (k := 6) (n := 1) (x := "_law_outcome") (by rfl) T.d_law_is.m T.d_law_is.F.kp T.d_law_is.F rfl T.d_law_is.b sc_law_is rfl (by first | exact .inl rfl | exact .inr (.inl rfl)) rfl T.d_law_outcome.m T.d_law_outcome.F.kp T.d_law_outcome.F rfl T.d_law_outcome.b sc_law_outcome rfl (by first | exact .inl rfl | exact .inr (.inl rfl)) (fun _ _ => by rfl) (fun _ _ => gives_out T rfl rfl) (gives_is T rfl rfl hgd) (pv 3) (hr.mono (by decide)) (lamD_by (N := ["live", "shown", "odd", "call", "kept", "steps"]) (sc := defScope s_law_moves_right) (by decide +kernel)) (fun _ _ _ _ _ _ _ hr => (pe_meth (pv 0) T.cl_Dial T.me_Dial_scale (okX_Dial_scale T) (hr.mono (by decide)) T.b_Dial_scale .nil (passes_call (takes_of rfl rfl rfl rfl) (fun _ _ _ _ z => z)) (pa_cons (pv 2) pa_nil))) (pa_cons (pe_tup (pa_cons pe_str (pa_cons (pv 2) pa_nil))) pa_nil)) (pe_outT2 (params := lamP (tupAt (forIter ((forBody ((defBody s_law_moves_right).getD 1 (.Pass ⟨0, 0, 0, 0⟩))).getD 0 (.Pass ⟨0, 0, 0, 0⟩))) 2)) (body := lamB (tupAt (forIter ((forBody ((defBody s_law_moves_right).getD 1 (.Pass ⟨0, 0, 0, 0⟩))).getD 0 (.Pass ⟨0, 0, 0, 0⟩))) 2)) (scope := lamS (tupAt (forIter ((forBody ((defBody s_law_moves_right).getD 1 (.Pass ⟨0, 0, 0, 0⟩))).getD 0 (.Pass ⟨0, 0, 0, 0⟩))) 2)) (TT := TTout T) (TT2 := TTi T) (k := 6) (n := 1) (x := "_law_outcome") (by rfl) T.d_law_is.m T.d_law_is.F.kp T.d_law_is.F rfl T.d_law_is.b sc_law_is rfl (by first | exact .inl rfl | exact .inr (.inl rfl)) rfl T.d_law_outcome.m T.d_law_outcome.F.kp T.d_law_outcome.F rfl T.d_law_outcome.b sc_law_outcome rfl (by first | exact .inl rfl | exact .inr (.inl rfl)) (fun _ _ => by rfl) (fun _ _ => gives_out T rfl rfl) (gives_is T rfl rfl hgd) (pv 3) (hr.mono (by decide)) (lamD_by (N := ["live", "shown", "odd", "call", "kept", "steps"]) (sc := defScope s_law_moves_right) (by decide +kernel)) (fun _ _ _ _ _ _ _ hr => (pe_callIX (pv 0) T.ca_Dial (okX_Dial_call T) (hr.mono (by decide)) T.b_Dial_call (passes_call (takes_of rfl rfl rfl rfl) (fun _ _ _ _ z => z)) (pa_cons (pv 2) pa_nil))) (pa_cons (pe_tup (pa_cons pe_str (pa_cons (pv 2) pa_nil))) pa_nil)))))) (pss_one (ps_ret pe_bl)) pss_nil)))))
      (pss_cons (ps_for PassesOwn.never rfl (pi_list (pe_call0 (ok_law_odd_fractions T) (hr.mono (by decide)) (by rfl) T.d_law_odd_fractions.m T.d_law_odd_fractions.F.kp T.d_law_odd_fractions.b .nil pass0)) (pg_name (i := 2) sc_law_moves_right.nd rfl (by first | exact .inl rfl | exact .inr rfl)) (pss_cons (ps_set (i := 4) sc_law_moves_right.nd rfl (by first | exact .inl rfl | exact .inr rfl) (pe_callB (r := rReprZ K) (call_reprZ hgd (gu_of hr)) (by rfl) T.b_repr (by decide +kernel) (pa_cons (pv 2) pa_nil)))
      (pss_one (ps_if (PW.pt (pw_or (pt_not (pt_val (pe_outT2L (TT := TTout T) (TT2 := TTi T) (k := 6) (n := 1) (x := "_law_outcome") (by rfl) T.d_law_is.m T.d_law_is.F.kp T.d_law_is.F rfl T.d_law_is.b sc_law_is rfl (by first | exact .inl rfl | exact .inr (.inl rfl)) rfl T.d_law_outcome.m T.d_law_outcome.F.kp T.d_law_outcome.F rfl T.d_law_outcome.b sc_law_outcome rfl (by first | exact .inl rfl | exact .inr (.inl rfl)) (fun _ _ => by rfl) (fun _ _ => gives_out T rfl rfl) (gives_is T rfl rfl hgd) (pe_lamE (T := tl T) (B.tb_law_moves_right) hcode (hm_law_moves_right T) (hu_law_moves_right T) rfl (lamD_by (N := ["live", "shown", "odd", "call", "kept", "steps"]) (sc := defScope s_law_moves_right) (by decide +kernel)) (fun _ _ _ _ _ _ => rfl)) (hr.mono (by decide)) (lamD_by (N := ["live", "shown", "odd", "call", "kept", "steps"]) (sc := defScope s_law_moves_right) (by decide +kernel)) (fun _ _ _ _ _ _ _ hr => (pe_meth (pv 0) T.cl_Dial T.me_Dial_add (okX_Dial_add T) (hr.mono (by decide)) T.b_Dial_add .nil (passes_call (takes_of rfl rfl rfl rfl) (fun _ _ _ _ z => z)) (pa_cons (pv 2) pa_nil))) (pa_cons (pe_tup (pa_cons pe_str (pa_cons (pv 2) pa_nil))) pa_nil)))) (pw_or1 (pt_cmpR op_ne (pe_callB (r := rReprZ K) (call_reprZ hgd (gu_of hr)) (by rfl) T.b_repr (by decide +kernel) (pa_cons (pv 2) pa_nil)) (pv 4) (nomark _))))) (pss_one (ps_ret pe_bl)) pss_nil))))
      (pss_cons (ps_for PassesOwn.never rfl (pi_tup (pe_tup (pa_cons pe_non (pa_cons pe_int (pa_cons (pe_un un_neg pe_int) (pa_cons pe_bl (pa_cons pe_bl (pa_cons pe_str (pa_cons (pe_tup (pa_cons pe_int pa_nil)) (pa_cons (pe_lst pa_nil) (pa_cons pe_dnewK pa_nil))))))))))) (pg_name (i := 2) sc_law_moves_right.nd rfl (by first | exact .inl rfl | exact .inr rfl)) (pss_one (ps_if (pt_not (pt_val (pe_outT2L (TT := TTout T) (TT2 := TTi T) (k := 6) (n := 1) (x := "_law_outcome") (by rfl) T.d_law_is.m T.d_law_is.F.kp T.d_law_is.F rfl T.d_law_is.b sc_law_is rfl (by first | exact .inl rfl | exact .inr (.inl rfl)) rfl T.d_law_outcome.m T.d_law_outcome.F.kp T.d_law_outcome.F rfl T.d_law_outcome.b sc_law_outcome rfl (by first | exact .inl rfl | exact .inr (.inl rfl)) (fun _ _ => by rfl) (fun _ _ => gives_out T rfl rfl) (gives_is T rfl rfl hgd) (pe_lamE (T := tl T) (B.tb_law_moves_right) hcode (hm_law_moves_right T) (hu_law_moves_right T) rfl (lamD_by (N := ["live", "shown", "odd", "call", "kept", "steps"]) (sc := defScope s_law_moves_right) (by decide +kernel)) (fun _ _ _ _ _ _ => rfl)) (hr.mono (by decide)) (lamD_by (N := ["live", "shown", "odd", "call", "kept", "steps"]) (sc := defScope s_law_moves_right) (by decide +kernel)) (fun _ _ _ _ _ _ _ hr => (pe_methK (pv 0) T.cl_Dial T.me_Dial_undo (okX_Dial_undo T) (hr.mono (by decide)) (kb_Dial_undo T) (passes_call (takes_of rfl rfl rfl rfl) (fun _ _ _ _ z => z)) (pk_cons (pv 2) pk_nil))) (pa_cons (pe_tup (pa_cons pe_str (pa_cons (pv 2) pa_nil))) pa_nil)))) (pss_one (ps_ret pe_bl)) pss_nil)))
      (pss_cons (ps_set (i := 5) sc_law_moves_right.nd rfl (by first | exact .inl rfl | exact .inr rfl) (pe_op op_add (pe_callB (r := rLenO T.C_Dial (sp_Dial_len T)) (call_lenO T.at_Dial_len T.fn_Dial_len (ok_Dial_len T) (hr.mono (by decide)) T.b_Dial_len) (by rfl) T.b_len PySem.boot_len (pa_cons (pv 0) pa_nil)) pe_int))
      (pss_cons (ps_if (pt_not (pt_val (pe_outT2L (TT := TTout T) (TT2 := TTi T) (k := 6) (n := 1) (x := "_law_outcome") (by rfl) T.d_law_is.m T.d_law_is.F.kp T.d_law_is.F rfl T.d_law_is.b sc_law_is rfl (by first | exact .inl rfl | exact .inr (.inl rfl)) rfl T.d_law_outcome.m T.d_law_outcome.F.kp T.d_law_outcome.F rfl T.d_law_outcome.b sc_law_outcome rfl (by first | exact .inl rfl | exact .inr (.inl rfl)) (fun _ _ => by rfl) (fun _ _ => gives_out T rfl rfl) (gives_is T rfl rfl hgd) (pe_lamE (T := tl T) (B.tb_law_moves_right) hcode (hm_law_moves_right T) (hu_law_moves_right T) rfl (lamD_by (N := ["live", "shown", "odd", "call", "kept", "steps"]) (sc := defScope s_law_moves_right) (by decide +kernel)) (fun _ _ _ _ _ _ => rfl)) (hr.mono (by decide)) (lamD_by (N := ["live", "shown", "odd", "call", "kept", "steps"]) (sc := defScope s_law_moves_right) (by decide +kernel)) (fun _ _ _ _ _ _ _ hr => (pe_methK (pv 0) T.cl_Dial T.me_Dial_undo (okX_Dial_undo T) (hr.mono (by decide)) (kb_Dial_undo T) (passes_call (takes_of rfl rfl rfl rfl) (fun _ _ _ _ z => z)) (pk_cons (pv 5) pk_nil))) (pa_cons (pe_tup (pa_cons pe_str (pa_cons (pv 5) pa_nil))) pa_nil)))) (pss_one (ps_ret pe_bl)) pss_nil)
      (pss_cons (ps_if (pt_not (pt_val (pe_outT2L (TT := TTout T) (TT2 := TTi T) (k := 6) (n := 1) (x := "_law_outcome") (by rfl) T.d_law_is.m T.d_law_is.F.kp T.d_law_is.F rfl T.d_law_is.b sc_law_is rfl (by first | exact .inl rfl | exact .inr (.inl rfl)) rfl T.d_law_outcome.m T.d_law_outcome.F.kp T.d_law_outcome.F rfl T.d_law_outcome.b sc_law_outcome rfl (by first | exact .inl rfl | exact .inr (.inl rfl)) (fun _ _ => by rfl) (fun _ _ => gives_out T rfl rfl) (gives_is T rfl rfl hgd) (pe_lamE (T := tl T) (B.tb_law_moves_right) hcode (hm_law_moves_right T) (hu_law_moves_right T) rfl (lamD_by (N := ["live", "shown", "odd", "call", "kept", "steps"]) (sc := defScope s_law_moves_right) (by decide +kernel)) (fun _ _ _ _ _ _ => rfl)) (hr.mono (by decide)) (lamD_by (N := ["live", "shown", "odd", "call", "kept", "steps"]) (sc := defScope s_law_moves_right) (by decide +kernel)) (fun _ _ _ _ _ _ _ hr => (pe_methK (pv 0) T.cl_Dial T.me_Dial_undo (okX_Dial_undo T) (hr.mono (by decide)) (kb_Dial_undo T) (passes_call (takes_of rfl rfl rfl rfl) (fun _ _ _ _ z => z)) (pk_cons (pe_op op_pow pe_int pe_int) pk_nil))) (pa_cons (pe_tup (pa_cons pe_str (pa_cons (pe_op op_pow pe_int pe_int) pa_nil))) pa_nil)))) (pss_one (ps_ret pe_bl)) pss_nil)
      (pss_one (ps_ret (pe_cmpR op_eq (pe_callB (r := rReprZ K) (call_reprZ hgd (gu_of hr)) (by rfl) T.b_repr (by decide +kernel) (pa_cons (pe_lst (pa_cons (pe_prop (pv 0) T.cl_Dial T.pr_Dial_base (ok_Dial_base T) (hr.mono (by decide)) T.b_Dial_base .nil pass0 rfl) (pa_cons (pe_prop (pv 0) T.cl_Dial T.pr_Dial_fraction (ok_Dial_fraction T) (hr.mono (by decide)) T.b_Dial_fraction .nil pass0 rfl) (pa_cons (pe_callB (r := rLenO T.C_Dial (sp_Dial_len T)) (call_lenO T.at_Dial_len T.fn_Dial_len (ok_Dial_len T) (hr.mono (by decide)) T.b_Dial_len) (by rfl) T.b_len PySem.boot_len (pa_cons (pv 0) pa_nil)) pa_nil)))) pa_nil)) (pv 1) (nomark _))))))))))), ?_⟩
    obtain ⟨a, dx, l, p, b, x, n, past, rfl, S, hT, q⟩ := h
    obtain ⟨⟨hb1, hb2, hn1, hn2⟩, hx, hg⟩ := id S.fr
    have hz := S.sz
    refine ⟨_, rfl, a, dx, _, rfl, S.D, a, dx, l, p, b, rfl, S.D, ?_⟩
    refine ⟨_, rfl, a, dx, _, rfl, S.D, a, dx, l, p, b, rfl, S.D, ?_⟩
    refine ⟨_, rfl, a, dx, _, rfl, S.D, a, dx, l, p, b, past, rfl, S.D, S.L, past.length, rfl, by omega, ?_⟩
    refine ⟨by show 3 ≤ sizeLine; decide, fun p1 np1 => ?_⟩
    have g1 := Gr.new (W := []) (o := .lst [.int (b : Nat), .ref p, .int (past.length : Nat)]) np1
    have h1 : (upd H p1 (.lst [.int (b : Nat), .ref p, .int (past.length : Nat)])) p1 = some (.lst [.int (b : Nat), .ref p, .int (past.length : Nat)]) := upd_same
    have S1 := S.gr g1
    have t1 := tabsGr hT g1
    generalize upd H p1 (.lst [.int (b : Nat), .ref p, .int (past.length : Nat)]) = H1 at g1 h1 S1 t1 ⊢
    have dq : ∀ {H' : Hp}, H' p = some (.tup [.int x, .int n]) → Dz K H' (.ref p) (qD (x, n)) := fun h => dz_tup h (.cons (.int _) (.cons (.int _) .nil))
    have hfit := shD_fit (k := past.length) S.fr S.sz
    refine ⟨.ref p1, shD b x n past.length, rfl, dz_lst h1 (.cons (.int _) (.cons (dq S1.P) (.cons (.int _) .nil))), hfit, ?_⟩
    generalize hsh : (shD b x n past.length).shown = sh
    refine ⟨10, 30, rfl, rfl, ⟨by decide, by decide, by decide⟩, ?_⟩
    have eW : (10 : Int) ^ (30 : Int).toNat = W30 := by decide +kernel
    refine ⟨0, _, rfl, fun pl xs H2 g2 e2 a2 => ?_⟩
    rw [eW] at a2
    have S2 := S1.gr g2
    have t2 := tabsGr t1 g2
    refine ⟨pl, rfl, ⟨_, sq_lst e2⟩, ?_⟩
    refine for_list (D := ⟨_, Q, fun _ _ => False, fun _ _ => False⟩) (K := K) (a := pl) (xs := xs) (fun i σ H' => ExtN H2 H' ∧ Tabs (tl T) H' ∧ ∃ v2 v3, σ = [some (.ref a), some (.str sh), v2, v3, none, none]) ⟨ExtN.refl _, t2, _, _, rfl⟩ (fun i σ H' _ z => sq_lst (ExtN.lst z.1 e2)) ?_ ?_
    · rintro i y σ H' hy ⟨e, t', v2, v3, rfl⟩
      obtain ⟨d, hd, zd⟩ := dzAll_atV a2 hy
      obtain ⟨hw, hJ⟩ := oddN_m d (List.mem_of_getElem? hd)
      refine ⟨t', fun f1 c1 H3 e3 t3 L1 => ⟨t3, fun f2 c2 H4 e4 t4 L2 => ⟨t4, fun f3 c3 H5 e5 t5 L3 => ?_⟩⟩⟩
      refine ⟨by show 3 ≤ sizeLine; decide, fun pt npt => ?_⟩
      have gt := Gr.new (W := []) (o := .tup [.ref f1, .ref f2, .ref f3]) npt
      have ht : (upd H5 pt (.tup [.ref f1, .ref f2, .ref f3])) pt = some (.tup [.ref f1, .ref f2, .ref f3]) := upd_same
      have t6 := tabsGr t5 gt
      have E6 : ExtN H2 (upd H5 pt (.tup [.ref f1, .ref f2, .ref f3])) := (((e.trans e3).trans e4).trans e5).trans (extOf gt)
      have E1 : ExtN H3 (upd H5 pt (.tup [.ref f1, .ref f2, .ref f3])) := (e4.trans e5).trans (extOf gt)
      have E2 : ExtN H4 (upd H5 pt (.tup [.ref f1, .ref f2, .ref f3])) := e5.trans (extOf gt)
      have E3 := extOf gt
      generalize upd H5 pt (.tup [.ref f1, .ref f2, .ref f3]) = H6 at gt ht t6 E6 E1 E2 E3 ⊢
      refine ⟨pt, rfl, ⟨_, sq_tup ht⟩, ?_⟩
      refine for_tup (K := K) (a := pt) (xs := [.ref f1, .ref f2, .ref f3]) (fun i σ H' => ExtN H6 H' ∧ Tabs (tl T) H' ∧ ∃ v3, σ = [some (.ref a), some (.str sh), some y, v3, none, none]) ⟨ExtN.refl _, t6, _, rfl⟩ (fun i σ H' _ z => sq_tup (ExtN.tup z.1 ht)) ?_ ?_
      · rintro i f σ H' hf ⟨e7, t7, v3, rfl⟩
        have zy : Dz K H' y d := Dz.ext (E6.trans e7) zd
        have S7 := S2.ext (E6.trans e7)
        have go : ∀ (pq : Addr), H' pq = none → Gr [] H' (upd H' pq (.tup [.str "number", y])) ∧ Dz K (upd H' pq (.tup [.str "number", y])) (.ref pq) (dueD false "number" d) := fun pq nq =>
          ⟨Gr.new nq, dz_tup upd_same (.cons (.str _) (.cons (Dz.gr (Gr.new nq) zy) .nil))⟩
        match i, hf with
        | 0, hf =>
          obtain rfl : V.ref f1 = f := by simpa using hf
          refine .inl ⟨_, rfl, f1, c1, rfl, _, rfl, by show 2 ≤ sizeLine; decide, fun pq nq => ⟨rfl, L1.ext ((E1.trans e7).trans (extOf (go pq nq).1)), ?_⟩⟩
          exact ⟨.ref pq, "number", d, rfl, (go pq nq).2, hJ, jw_num, heardT (by rfl) (S7.gr (go pq nq).1) rfl rfl (Dz.gr (go pq nq).1 zy) hw, fun H8 g8 => ⟨_, rfl, iteF ⟨e7.trans (extOf ((go pq nq).1.trans g8)), tabsGr t7 ((go pq nq).1.trans g8), _, rfl⟩⟩⟩
        | 1, hf =>
          obtain rfl : V.ref f2 = f := by simpa using hf
          refine .inr (.inl ⟨_, rfl, f2, c2, rfl, _, rfl, by show 2 ≤ sizeLine; decide, fun pq nq => ⟨rfl, L2.ext ((E2.trans e7).trans (extOf (go pq nq).1)), ?_⟩⟩)
          exact ⟨.ref pq, "number", d, rfl, (go pq nq).2, hJ, jw_num, heardT (by rfl) (S7.gr (go pq nq).1) rfl rfl (Dz.gr (go pq nq).1 zy) hw, fun H8 g8 => ⟨_, rfl, iteF ⟨e7.trans (extOf ((go pq nq).1.trans g8)), tabsGr t7 ((go pq nq).1.trans g8), _, rfl⟩⟩⟩
        | 2, hf =>
          obtain rfl : V.ref f3 = f := by simpa using hf
          refine .inr (.inr ⟨_, rfl, f3, c3, rfl, _, rfl, by show 2 ≤ sizeLine; decide, fun pq nq => ⟨rfl, L3.ext ((E3.trans e7).trans (extOf (go pq nq).1)), ?_⟩⟩)
          exact ⟨.ref pq, "number", d, rfl, (go pq nq).2, hJ, jw_num, heardC (S7.gr (go pq nq).1) rfl rfl (Dz.gr (go pq nq).1 zy) hw, fun H8 g8 => ⟨_, rfl, iteF ⟨e7.trans (extOf ((go pq nq).1.trans g8)), tabsGr t7 ((go pq nq).1.trans g8), _, rfl⟩⟩⟩
        | k + 3, hf => simp at hf
      rintro σ H' ⟨e7, t7, v3, rfl⟩
      exact ⟨E6.trans e7, t7, _, _, rfl⟩
    rintro σ H3 ⟨e3, t3, v2, v3, rfl⟩
    have S3 := S2.ext e3
    refine ⟨rfl, fun pl2 xs2 H4 g4 e4 a4 => ?_⟩
    have S4 := S3.gr g4
    have t4 := tabsGr t3 g4
    refine ⟨pl2, rfl, ⟨_, sq_lst e4⟩, ?_⟩
    refine for_list (D := ⟨_, Q, fun _ _ => False, fun _ _ => False⟩) (K := K) (a := pl2) (xs := xs2) (fun i σ H' => ExtN H4 H' ∧ Tabs (tl T) H' ∧ ∃ v2 v3 v4, σ = [some (.ref a), some (.str sh), v2, v3, v4, none]) ⟨ExtN.refl _, t4, _, _, _, rfl⟩ (fun i σ H' _ z => sq_lst (ExtN.lst z.1 e4)) ?_ ?_
    · rintro i y σ H' hy ⟨e, t', v2, v3, v4, rfl⟩
      obtain ⟨d, hd, zd⟩ := dzAll_atV a4 hy
      obtain ⟨hw, hJ⟩ := oddF_ok d (List.mem_of_getElem? hd)
      have zy0 : Dz K H' y d := Dz.ext e zd
      refine ⟨_, rfl, y, d, rfl, zy0, hJ.1.fit, ?_⟩
      refine ⟨t', fun f c H5 e5 t5 LA => ⟨f, c, rfl, _, rfl, by show 2 ≤ sizeLine; decide, fun pq nq => ⟨rfl, LA.ext (extOf (Gr.new nq)), ?_⟩⟩⟩
      have gq := Gr.new (W := []) (o := .tup [.str "fraction", y]) nq
      have zq : Dz K (upd H5 pq (.tup [.str "fraction", y])) (.ref pq) (dueD false "fraction" d) := dz_tup upd_same (.cons (.str _) (.cons (Dz.gr gq (Dz.ext e5 zy0)) .nil))
      refine ⟨.ref pq, "fraction", d, rfl, zq, hJ, jw_fr, heardA (S4.ext ((e.trans e5).trans (extOf gq))) rfl rfl (Dz.gr gq (Dz.ext e5 zy0)) hw, fun H8 g8 => ⟨_, rfl, iteF ?_⟩⟩
      have E8 := e5.trans (extOf (gq.trans g8))
      refine ⟨_, rfl, y, d, rfl, Dz.ext E8 zy0, hJ.1.fit, _, rfl, rfl, _, rfl, iteFb (by rw [decide_eq_true rfl]; rfl) ?_⟩
      exact ⟨e.trans E8, tabsGr t5 (gq.trans g8), _, _, _, rfl⟩
    rintro σ H5 ⟨e5, t5, v2, v3, v4, rfl⟩
    have S5 := S4.ext e5
    unfold tSeq
    refine for_tupZ (K := K) (ds := oddU) (ez_tup (ezs_cons ez_non (ezs_cons ez_int (ezs_cons (ez_neg (g := fun i => -i) ez_int) (ezs_cons ez_bl (ezs_cons ez_bl (ezs_cons ez_str (ezs_cons (ez_tup (ezs_cons ez_int ezs_nil)) (ezs_cons (ez_lst ezs_nil) (ezs_cons ez_dct ezs_nil)))))))))) fun pa xs H6 g6 sa za => ⟨fun i σ H' => ExtN H6 H' ∧ Tabs (tl T) H' ∧ ∃ v2 v3 v4, σ = [some (.ref a), some (.str sh), v2, v3, v4, none], ⟨ExtN.refl _, tabsGr t5 g6, _, _, _, rfl⟩, fun i σ H' _ z => (kpExt z.1).sqT sa, ?_, ?_⟩
    · rintro i y σ H' hy ⟨e, t', v2, v3, v4, rfl⟩
      obtain ⟨d, hd, zd⟩ := dzAll_atV za hy
      obtain ⟨hw, hJ⟩ := oddU_ok d (List.mem_of_getElem? hd)
      have zy0 : Dz K H' y d := Dz.ext e zd
      refine ⟨t', fun f c H7 e7 t7 LA => ⟨f, c, rfl, _, rfl, by show 2 ≤ sizeLine; decide, fun pq nq => ⟨rfl, LA.ext (extOf (Gr.new nq)), ?_⟩⟩⟩
      have gq := Gr.new (W := []) (o := .tup [.str "number", y]) nq
      have zq : Dz K (upd H7 pq (.tup [.str "number", y])) (.ref pq) (dueD false "number" d) := dz_tup upd_same (.cons (.str _) (.cons (Dz.gr gq (Dz.ext e7 zy0)) .nil))
      have zy1 := Dz.gr gq (Dz.ext e7 zy0)
      refine ⟨.ref pq, "number", d, rfl, zq, hJ, jw_num, heardU (S5.ext (((extOf g6).trans (e.trans e7)).trans (extOf gq))) rfl (fun H8 Q8 g8 k8 => ⟨_, rfl, k8 H8 (Gr.refl _ _) (Dz.gr g8 zy1)⟩) hw, fun H8 g8 => ⟨_, rfl, iteF ?_⟩⟩
      exact ⟨(e.trans e7).trans (extOf (gq.trans g8)), tabsGr t7 (gq.trans g8), _, _, _, rfl⟩
    rintro σ H7 ⟨e7, t7, v2, v3, v4, rfl⟩
    have S7 := S5.ext ((extOf g6).trans e7)
    refine ⟨_, rfl, a, dx, _, rfl, S7.D, a, dx, l, p, b, past, rfl, S7.D, S7.L, past.length, rfl, by omega, _, _, rfl, rfl, ?_⟩
    dsimp only
    refine ⟨t7, fun f c H8 e8 t8 LA => ⟨f, c, rfl, _, rfl, by show 2 ≤ sizeLine; decide, fun pq nq => ⟨rfl, LA.ext (extOf (Gr.new nq)), ?_⟩⟩⟩
    have gq := Gr.new (W := []) (o := .tup [.str "nothing", .int ((past.length : Nat) + 1 : Int)]) nq
    have S8 := S7.ext (e8.trans (extOf gq))
    refine ⟨.ref pq, "nothing", .int ((past.length : Nat) + 1 : Int), rfl, dz_tup upd_same (.cons (.str _) (.cons (.int _) .nil)), (so_int (by have := small58 (k := past.length + 1) (by omega); rw [Int.natAbs_natCast] at this; omega)).jz, jw_no, heardN S8 rfl (fun H' Q' q' => ⟨_, rfl, q'⟩) (by omega) (by omega), fun H9 g9 => ⟨_, rfl, iteF ?_⟩⟩
    have t9 := tabsGr t8 (gq.trans g9)
    have S9 := S8.gr g9
    have E9 := e8.trans (extOf (gq.trans g9))
    refine ⟨t9, fun f2 c2 H10 e10 t10 LB => ⟨f2, c2, rfl, 10, 30, rfl, rfl, ⟨by decide, by decide, by decide⟩, by show 2 ≤ sizeLine; decide, fun pq2 nq2 => ⟨rfl, LB.ext (extOf (Gr.new nq2)), ?_⟩⟩⟩
    have gq2 := Gr.new (W := []) (o := .tup [.str "nothing", .int ((10 : Int) ^ (30 : Int).toNat)]) nq2
    have S10 := S9.ext (e10.trans (extOf gq2))
    refine ⟨.ref pq2, "nothing", .int ((10 : Int) ^ (30 : Int).toNat), rfl, dz_tup upd_same (.cons (.str _) (.cons (.int _) .nil)), (so_int (by decide +kernel)).jz, jw_no, heardN S10 rfl (fun H' Q' q' => ⟨10, 30, rfl, rfl, ⟨by decide, by decide, by decide⟩, q'⟩) (by decide +kernel) (by rw [eW]; exact Int.lt_of_le_of_lt (Int.ofNat_le.mpr hz) (by decide)), fun H11 g11 => ⟨_, rfl, iteF ?_⟩⟩
    have t11 := tabsGr t10 (gq2.trans g11)
    have S11 := S10.gr g11
    have EA : ExtN H H11 := (extOf (g1.trans g2)).trans (e3.trans ((extOf g4).trans (e5.trans ((extOf g6).trans (e7.trans (E9.trans (e10.trans (extOf (gq2.trans g11)))))))))
    refine ⟨_, rfl, a, dx, _, rfl, S11.D, a, dx, l, p, b, rfl, S11.D, ?_⟩
    refine ⟨_, rfl, a, dx, _, rfl, S11.D, a, dx, l, p, b, rfl, S11.D, ?_⟩
    refine ⟨_, rfl, a, dx, _, rfl, S11.D, a, dx, l, p, b, past, rfl, S11.D, S11.L, past.length, rfl, by omega, ?_⟩
    refine ⟨by show 3 ≤ sizeLine; decide, fun p2 np2 => ?_⟩
    have g12 := Gr.new (W := []) (o := .lst [.int (b : Nat), .ref p, .int (past.length : Nat)]) np2
    refine ⟨.ref p2, shD b x n past.length, rfl, dz_lst upd_same (.cons (.int _) (.cons (dq (S11.gr g12).P) (.cons (.int _) .nil))), hfit, _, rfl, rfl, ?_⟩
    rw [hsh, decide_eq_true rfl]
    exact q _ (EA.trans (extOf g12)) (tabsGr t11 g12)

end
end Wn
namespace Wn
open PySem PySem.Spec PyProof.Rows L2
open LamX (Tabs ExtN tLam)
local macro_rules | `(tactic| walk_at "vc") => `(tactic| simp only [cxK, cxK2, start1, start2, start3, tRet, tRetN, tSeq, tNext, tIfS, tAsg, gName, tDrop, tVar, tC, tOp, tUn, tTest, tB, tNot, tAnd, tOr, tAndV, tOrV, tNotV, tIf, tCons, tNil, tCB, tCall, tChain, tAug, ipI, rI, rI0, rU, rIs, rGcd, rEq, rNe, scal,
  List.getElem?_cons_zero, List.getElem?_cons_succ, List.set_cons_zero, List.set_cons_succ, Option.some.injEq, List.cons.injEq, V.int.injEq, V.bl.injEq, V.ref.injEq, V.str.injEq, and_true, true_and, exists_eq_left, exists_eq_left', exists_and_left, exists_and_right, List.append_nil, List.nil_append, List.cons_append, exists_eq_right, exists_eq_right', and_assoc, exists_const, V.ty.injEq, ↓reduceIte, Bool.false_eq_true, Bool.not_true, Bool.not_false, decide_eq_true_eq])

section
variable {P : Program} {w : World} {K : PySem.W.Frag} {mg : Str → Option Value} {base : Heap}
section
variable {T : Txt K mg} {H H' : Hp} {a dx l p : Addr} {b x n : Nat} {past : List V} {σ : L2.St} {v : V} {d : PyData}
theorem heardB {ta : TA} {e : PyData} (et : ∀ H' (Q' : List V → Hp → Prop), Gr [] H H' → (∀ w H2, Gr [] H' H2 → Dz K H2 w e → Q' [v, w] H2) → ta σ H' Q') (hz : Dz K H v d) (hw : isW 2 1000 d = false) :
    Heard (errs T) K (fun E H' Q' => tMake T.C_Dial (sp_initX T) [] E ta σ H' Q') H d "base" false := fun E H2 Qn g2 _ k2 =>
  et H2 _ g2 fun w H3 g3 hw3 y dy ny ndy hne => ⟨H3, y, dy, v, w, d, e, rfl, ny, ndy, hne, rfl, Dz.gr (g2.trans g3) hz, hw3, fun _ dd H4 g4 hx => k2 rfl T.C_BadBase "value" dd v H4 (hm_base T) (g3.trans g4) hx (Dz.gr (g2.trans (g3.trans g4)) hz), fun z => by rw [hw] at z; cases z⟩
theorem heardF {i : Nat} (e1 : σ[i]? = some (some v)) (hz : Dz K H v d) (hw : frB d = false) :
    Heard (errs T) K (fun E H' Q' => tMake T.C_Dial (sp_initX T) [] E (tCons (tC (.int 10)) (tCons (tVar i) tNil)) σ H' Q') H d "fraction" false := fun E H2 Qn g2 _ k2 =>
  ⟨_, e1, fun y dy ny ndy hne => by
    refine ⟨H2, y, dy, .int 10, v, .int 10, d, rfl, ny, ndy, hne, rfl, .int 10, Dz.gr g2 hz, ?_, ?_⟩
    · intro z
      cases z
    · intro _
      exact ⟨hw, fun dd H4 g4 hx => k2 rfl T.C_BadFraction "value" dd v H4 (hm_fr T) g4 hx (Dz.gr (g2.trans g4) hz)⟩⟩
/-- a sum beyond the greatest denominator -/
theorem heardG {y m : Nat} {i : Nat} (S : Dl T H a dx l p b x n past) (e0 : σ[i]? = some (some (.ref a))) (hf : frB (.tuple [.int (y : Nat), .int (m : Nat)]) = true) (hy : y < m ∧ m ≤ 5000) (h5 : 5000 < (lw (x * m + y * n) (n * m)).2) :
    Heard (errs T) K (fun E H' Q' => tMeth T.C_Dial "add" (sp_addX T) [] E (tVar i) (tCons (tTup (tCons (tC (.int (y : Nat))) (tCons (tC (.int (m : Nat))) tNil))) tNil) σ H' Q') H (.int 5000) "great" false := fun E H2 Qn g2 _ k2 =>
  ⟨_, e0, a, dx, _, rfl, (S.gr g2).D, by rfl, by show 2 ≤ sizeLine; decide, fun u nu => by
    have gu := Gr.new (W := []) (o := .tup [.int (y : Nat), .int (m : Nat)]) nu
    have S3 := (S.gr g2).gr gu
    refine ⟨a, dx, l, p, b, x, n, .ref u, .tuple [.int (y : Nat), .int (m : Nat)], rfl, S3.D, S3.P, S.fr, dz_tup upd_same (.cons (.int _) (.cons (.int _) .nil)), ?_, ?_⟩
    · intro z
      rw [hf] at z
      cases z
    exact fun _ => ⟨u, y, m, rfl, upd_same, hy, h5, fun dd H4 g4 hx => k2 rfl T.C_TooGreat "most" dd (.int 5000) H4 (hm_gr T) (gu.trans g4) hx (.int _)⟩⟩
/-- undo() with nothing to take back -/
theorem heard0 {i : Nat} (S : Dl T H a dx l p b x n past) (e0 : σ[i]? = some (some (.ref a))) (h2 : past.length = 0) :
    Heard (errs T) K (fun E H' Q' => tMeth T.C_Dial "undo" (sp_undoX T) [.int 1] E (tVar i) tNil σ H' Q') H (.int 1) "nothing" false := fun E H2 Qn g2 _ k2 =>
  ⟨_, e0, a, dx, _, rfl, (S.gr g2).D, by rfl, a, dx, l, p, b, past, .int 1, .int 1, rfl, (S.gr g2).D, (S.gr g2).L, Nat.le_trans S.sz (by decide), .int 1, .inr ⟨⟨1, rfl, by decide, by omega⟩, fun dd H4 g4 hx => k2 rfl T.C_Nothing "value" dd (.int 1) H4 (hm_no T) g4 hx (.int 1)⟩⟩
/-- one move -/
theorem Dl.mv (S : Dl T H a dx l p b x n past) {t : Addr} {q : Nat × Nat} (ht : H t = none) (hq : FR b q.1 q.2) (hs : past.length < 1000) :
    Dl T (mvH T H a dx l p t b past q) a dx l t b q.1 q.2 (past ++ [.ref p]) ∧ ∀ u o, H u = some o → u ≠ a → u ≠ l → mvH T H a dx l p t b past q u = some o := by
  have nua : t ≠ a := fun z => by rw [z, S.D] at ht; cases ht
  have nul : t ≠ l := fun z => by rw [z, S.L] at ht; cases ht
  have nal : a ≠ l := ne_of S.D S.L (dlO_ne.2.1 _)
  refine ⟨⟨?_, ?_, ?_, hq, by rw [List.length_append]; exact hs⟩, fun u o e n1 n2 => ?_⟩
  · unfold mvH
    rw [upd_same]
  · unfold mvH
    rw [upd_ne (Ne.symm nal), upd_same]
  · unfold mvH
    rw [upd_ne nua, upd_ne nul, upd_same]
    rfl
  · unfold mvH
    rw [upd_ne n1, upd_ne n2, upd_ne (ne_of_none e ht)]
    exact e
theorem tabs_mv {TT : List (Addr × Str)} (S : Dl T H a dx l p b x n past) (t : Tabs TT H) (k : ∀ u o, H u = some o → u ≠ a → u ≠ l → H' u = some o) : Tabs TT H' := tabsKeep t fun w o e n1 n2 => k w o e (fun z => by rw [z, S.D] at e; exact n1 _ _ _ (Option.some.inj e).symm) (fun z => by rw [z, S.L] at e; exact n2 _ (Option.some.inj e).symm)
end
def sp_law_made (T : Txt K mg) : Sp := fun vs H Q _ => vs = [] ∧ Tabs (tl T) H ∧ ∀ H', ExtN H H' → Tabs (tl T) H' → Q (.bl true) H'
def sp_law_great (T : Txt K mg) : Sp := fun vs H Q _ => vs = [] ∧ Tabs (tl T) H ∧ ∀ H', Tabs (tl T) H' → Q (.bl true) H'
theorem rem_zeroK {k : Nat} (h : 2 ≤ k) : rem 1000 2500 1 k = 0 := by
  obtain ⟨j, rfl⟩ : ∃ j, k = 2 + j := ⟨k - 2, by omega⟩
  unfold rem
  rw [Nat.pow_add, Nat.one_mul, Nat.mul_comm]
  exact Nat.mod_eq_zero_of_dvd (Nat.dvd_mul_left_of_dvd (by decide : 2500 ∣ 1000 ^ 2) _)
theorem okG_law_made_right (T : Txt K mg) (B : Tbs T base) : FnG P w K mg base CX0 12 T.d_law_made_right.f T.d_law_made_right.fd [] (sp_law_made T) := by
  refine fnGc0 T.d_law_made_right.F sc_law_made_right (fun vs H Q E h => ?_) (fun cdv A outer s H vs Q E hcc hgd hr h => ?_)
  · rw [h.1]; rfl
  · have hu := hu_of hr
    have hcode : cdv = .ref T.k_law_made_right := hcc.symm.trans T.e_law_made_right
    refine ⟨_, (pss_cons (ps_for PassesOwn.never rfl (pi_list (pe_call (ok_law_odd_numbers T) (hr.mono (by decide)) (by rfl) T.d_law_odd_numbers.m T.d_law_odd_numbers.F.kp T.d_law_odd_numbers.b .nil pass0 (pa_cons pe_int (pa_cons pe_int pa_nil)))) (pg_name (i := 0) sc_law_made_right.nd rfl (by first | exact .inl rfl | exact .inr rfl)) (pss_one (ps_if (PW.pt (pw_or (pt_not (pt_val (pe_outT2L (TT := TTout T) (TT2 := TTi T) (k := 8) (n := 1) (x := "_law_outcome") (by rfl) T.d_law_is.m T.d_law_is.F.kp T.d_law_is.F rfl T.d_law_is.b sc_law_is rfl (by first | exact .inl rfl | exact .inr (.inl rfl)) rfl T.d_law_outcome.m T.d_law_outcome.F.kp T.d_law_outcome.F rfl T.d_law_outcome.b sc_law_outcome rfl (by first | exact .inl rfl | exact .inr (.inl rfl)) (fun _ _ => by rfl) (fun _ _ => gives_out T rfl rfl) (gives_is T rfl rfl hgd) (pe_lamE (T := tl T) (B.tb_law_made_right) hcode (hm_law_made_right T) (hu_law_made_right T) rfl (lamD_by (N := ["odd"]) (sc := defScope s_law_made_right) (by decide +kernel)) (fun _ _ _ _ _ _ => rfl)) (hr.mono (by decide)) (lamD_by (N := ["odd"]) (sc := defScope s_law_made_right) (by decide +kernel)) (fun _ _ _ _ _ _ _ hr => (pe_make T.mk_Dial (okX_Dial_init T) (hr.mono (by decide)) (by rfl) T.g_Dial T.b_Dial_init .nil (passes_call (takes_of rfl rfl rfl rfl) (fun _ _ _ _ z => z)) (pa_cons (pv 0) (pa_cons pe_non pa_nil)))) (pa_cons (pe_tup (pa_cons pe_str (pa_cons (pv 0) pa_nil))) pa_nil)))) (pw_or1 (pt_not (pt_val (pe_outT2L (TT := TTout T) (TT2 := TTi T) (k := 8) (n := 1) (x := "_law_outcome") (by rfl) T.d_law_is.m T.d_law_is.F.kp T.d_law_is.F rfl T.d_law_is.b sc_law_is rfl (by first | exact .inl rfl | exact .inr (.inl rfl)) rfl T.d_law_outcome.m T.d_law_outcome.F.kp T.d_law_outcome.F rfl T.d_law_outcome.b sc_law_outcome rfl (by first | exact .inl rfl | exact .inr (.inl rfl)) (fun _ _ => by rfl) (fun _ _ => gives_out T rfl rfl) (gives_is T rfl rfl hgd) (pe_lamD (T := tl T) (B.tb_law_made_right) hcode (hm_law_made_right T) (hu_law_made_right T) rfl rfl (lamD_by (N := ["odd"]) (sc := defScope s_law_made_right) (by decide +kernel)) (fun _ _ _ _ _ _ _ _ => ⟨_, rfl, rfl⟩) rfl) (hr.mono (by decide)) (lamD_by (N := ["odd"]) (sc := defScope s_law_made_right) (by decide +kernel)) (fun _ _ _ _ _ _ _ hr => (pe_make T.mk_Dial (okX_Dial_init T) (hr.mono (by decide)) (by rfl) T.g_Dial T.b_Dial_init .nil (passes_call (takes_of rfl rfl rfl rfl) (fun _ _ _ _ z => z)) (pa_cons (pv 0) (pa_cons (pe_tup (pa_cons pe_int (pa_cons pe_int pa_nil))) pa_nil)))) (pa_cons (pe_tup (pa_cons pe_str (pa_cons (pv 0) pa_nil))) pa_nil))))))) (pss_one (ps_ret pe_bl)) pss_nil)))
      (pss_cons (ps_for PassesOwn.never rfl (pi_list (pe_call0 (ok_law_odd_fractions T) (hr.mono (by decide)) (by rfl) T.d_law_odd_fractions.m T.d_law_odd_fractions.F.kp T.d_law_odd_fractions.b .nil pass0)) (pg_name (i := 0) sc_law_made_right.nd rfl (by first | exact .inl rfl | exact .inr rfl)) (pss_one (ps_if (pt_not (pt_val (pe_outT2L (TT := TTout T) (TT2 := TTi T) (k := 8) (n := 1) (x := "_law_outcome") (by rfl) T.d_law_is.m T.d_law_is.F.kp T.d_law_is.F rfl T.d_law_is.b sc_law_is rfl (by first | exact .inl rfl | exact .inr (.inl rfl)) rfl T.d_law_outcome.m T.d_law_outcome.F.kp T.d_law_outcome.F rfl T.d_law_outcome.b sc_law_outcome rfl (by first | exact .inl rfl | exact .inr (.inl rfl)) (fun _ _ => by rfl) (fun _ _ => gives_out T rfl rfl) (gives_is T rfl rfl hgd) (pe_lamE (T := tl T) (B.tb_law_made_right) hcode (hm_law_made_right T) (hu_law_made_right T) rfl (lamD_by (N := ["odd"]) (sc := defScope s_law_made_right) (by decide +kernel)) (fun _ _ _ _ _ _ => rfl)) (hr.mono (by decide)) (lamD_by (N := ["odd"]) (sc := defScope s_law_made_right) (by decide +kernel)) (fun _ _ _ _ _ _ _ hr => (pe_make T.mk_Dial (okX_Dial_init T) (hr.mono (by decide)) (by rfl) T.g_Dial T.b_Dial_init .nil (passes_call (takes_of rfl rfl rfl rfl) (fun _ _ _ _ z => z)) (pa_cons pe_int (pa_cons (pv 0) pa_nil)))) (pa_cons (pe_tup (pa_cons pe_str (pa_cons (pv 0) pa_nil))) pa_nil)))) (pss_one (ps_ret pe_bl)) pss_nil)))
      (pss_one (ps_ret pe_bl)))), ?_⟩
    obtain ⟨rfl, hT, q⟩ := h
    refine ⟨2, 1000, rfl, fun pl xs H2 g2 e2 a2 => ?_⟩
    have t2 := tabsGr hT g2
    refine ⟨pl, rfl, ⟨_, sq_lst e2⟩, ?_⟩
    refine for_list (D := ⟨_, Q, fun _ _ => False, fun _ _ => False⟩) (K := K) (a := pl) (xs := xs) (fun i σ H' => ExtN H2 H' ∧ Tabs (tl T) H' ∧ ∃ v0, σ = [v0]) ⟨ExtN.refl _, t2, _, rfl⟩ (fun i σ H' _ z => sq_lst (ExtN.lst z.1 e2)) ?_ ?_
    · rintro i y σ H' hy ⟨e, t', v0, rfl⟩
      obtain ⟨d, hd, zd⟩ := dzAll_atV a2 hy
      obtain ⟨hw, hJ⟩ := oddN_b d (List.mem_of_getElem? hd)
      have zy0 : Dz K H' y d := Dz.ext e zd
      refine ⟨t', fun f c H5 e5 t5 LA => ⟨f, c, rfl, _, rfl, by show 2 ≤ sizeLine; decide, fun pq nq => ⟨rfl, LA.ext (extOf (Gr.new nq)), ?_⟩⟩⟩
      have gq := Gr.new (W := []) (o := .tup [.str "base", y]) nq
      have zy1 := Dz.gr gq (Dz.ext e5 zy0)
      refine ⟨.ref pq, "base", d, rfl, dz_tup upd_same (.cons (.str _) (.cons zy1 .nil)), hJ, jw_base, heardB (e := .none) (fun H6 Q6 g6 k6 => ⟨_, rfl, k6 .non H6 (Gr.refl _ _) .non⟩) zy1 hw, fun H8 g8 => ⟨_, rfl, iteF ?_⟩⟩
      have E8 := e5.trans (extOf (gq.trans g8))
      have t8 := tabsGr t5 (gq.trans g8)
      have zy8 := Dz.ext E8 zy0
      refine ⟨t8, fun f2 c2 H9 e9 t9 LB => ⟨f2, c2, rfl, _, rfl, by show 2 ≤ sizeLine; decide, fun pq2 nq2 => ⟨rfl, LB.ext (extOf (Gr.new nq2)), ?_⟩⟩⟩
      have gq2 := Gr.new (W := []) (o := .tup [.str "base", y]) nq2
      have zy9 := Dz.gr gq2 (Dz.ext e9 zy8)
      refine ⟨.ref pq2, "base", d, rfl, dz_tup upd_same (.cons (.str _) (.cons zy9 .nil)), hJ, jw_base, heardB (e := .tuple [.int 0, .int 1]) (fun H6 Q6 g6 k6 => ⟨_, rfl, by show 2 ≤ sizeLine; decide, fun u nu => k6 (.ref u) _ (Gr.new nu) (dz_tup upd_same (.cons (.int _) (.cons (.int _) .nil)))⟩) zy9 hw, fun H10 g10 => ⟨_, rfl, iteF ?_⟩⟩
      exact ⟨e.trans (E8.trans (e9.trans (extOf (gq2.trans g10)))), tabsGr t9 (gq2.trans g10), _, rfl⟩
    rintro σ H3 ⟨e3, t3, v0, rfl⟩
    refine ⟨rfl, fun pl2 xs2 H4 g4 e4 a4 => ?_⟩
    have t4 := tabsGr t3 g4
    refine ⟨pl2, rfl, ⟨_, sq_lst e4⟩, ?_⟩
    refine for_list (D := ⟨_, Q, fun _ _ => False, fun _ _ => False⟩) (K := K) (a := pl2) (xs := xs2) (fun i σ H' => ExtN H4 H' ∧ Tabs (tl T) H' ∧ ∃ v0, σ = [v0]) ⟨ExtN.refl _, t4, _, rfl⟩ (fun i σ H' _ z => sq_lst (ExtN.lst z.1 e4)) ?_ ?_
    · rintro i y σ H' hy ⟨e, t', v0, rfl⟩
      obtain ⟨d, hd, zd⟩ := dzAll_atV a4 hy
      obtain ⟨hw, hJ⟩ := oddF_ok d (List.mem_of_getElem? hd)
      have zy0 : Dz K H' y d := Dz.ext e zd
      refine ⟨t', fun f c H5 e5 t5 LA => ⟨f, c, rfl, _, rfl, by show 2 ≤ sizeLine; decide, fun pq nq => ⟨rfl, LA.ext (extOf (Gr.new nq)), ?_⟩⟩⟩
      have gq := Gr.new (W := []) (o := .tup [.str "fraction", y]) nq
      have zy1 := Dz.gr gq (Dz.ext e5 zy0)
      refine ⟨.ref pq, "fraction", d, rfl, dz_tup upd_same (.cons (.str _) (.cons zy1 .nil)), hJ, jw_fr, heardF rfl zy1 hw, fun H8 g8 => ⟨_, rfl, iteF ?_⟩⟩
      exact ⟨e.trans (e5.trans (extOf (gq.trans g8))), tabsGr t5 (gq.trans g8), _, rfl⟩
    rintro σ H5 ⟨e5, t5, v0, rfl⟩
    exact q _ ((extOf g2).trans (e3.trans ((extOf g4).trans e5))) t5

end
end Wn
namespace Wn
open PySem PySem.Spec PyProof.Rows L2
open LamX (Tabs ExtN tLam)
local macro_rules | `(tactic| walk_at "vc") => `(tactic| simp only [cxK, cxK2, start1, start2, start3, tRet, tRetN, tSeq, tNext, tIfS, tAsg, gName, tDrop, tVar, tC, tOp, tUn, tTest, tB, tNot, tAnd, tOr, tAndV, tOrV, tNotV, tIf, tCons, tNil, tCB, tCall, tChain, tAug, ipI, rI, rI0, rU, rIs, rGcd, rEq, rNe, scal,
  List.getElem?_cons_zero, List.getElem?_cons_succ, List.set_cons_zero, List.set_cons_succ, Option.some.injEq, List.cons.injEq, V.int.injEq, V.bl.injEq, V.ref.injEq, V.str.injEq, and_true, true_and, exists_eq_left, exists_eq_left', exists_and_left, exists_and_right, List.append_nil, List.nil_append, List.cons_append, exists_eq_right, exists_eq_right', and_assoc, exists_const, V.ty.injEq, ↓reduceIte, Bool.false_eq_true, Bool.not_true, Bool.not_false, decide_eq_true_eq])

section
variable {P : Program} {w : World} {K : PySem.W.Frag} {mg : Str → Option Value} {base : Heap}
section
variable {T : Txt K mg} {H : Hp} {a dx l p : Addr} {b x n : Nat}
/-- a dial that is made -/
def mkH (T : Txt K mg) (H : Hp) (a dx l p : Addr) (b : Nat) : Hp := upd (upd (upd (upd H dx (.own a)) a (.ins T.C_Dial dx [])) l (.lst [])) a (dlO T dx b p l)
theorem mk_facts (na : H a = none) (ndx : H dx = none) (nl : (upd (upd H dx (.own a)) a (.ins T.C_Dial dx [])) l = none) : Gr [] H (mkH T H a dx l p b) ∧ mkH T H a dx l p b a = some (dlO T dx b p l) ∧ mkH T H a dx l p b l = some (.lst []) ∧ H l = none := by
  have nla : l ≠ a := fun z => by rw [z, upd_same] at nl; cases nl
  have nld : l ≠ dx := fun z => by rw [z, upd_ne (fun w => nla (z.trans w)), upd_same] at nl; cases nl
  have nl0 : H l = none := by rw [upd_ne nla, upd_ne nld] at nl; exact nl
  refine ⟨fun u o _ e => ?_, upd_same, ?_, nl0⟩
  · unfold mkH
    rw [upd_ne (ne_of_none e na), upd_ne (ne_of_none e nl0), upd_ne (ne_of_none e na), upd_ne (ne_of_none e ndx)]
    exact e
  · unfold mkH
    rw [upd_ne nla, upd_same]
end
theorem okG_law_great_right (T : Txt K mg) (B : Tbs T base) : FnG P w K mg base CX0 12 T.d_law_great_right.f T.d_law_great_right.fd [] (sp_law_great T) := by
  refine fnGc0 T.d_law_great_right.F sc_law_great_right (fun vs H Q E h => ?_) (fun cdv A outer s H vs Q E hcc hgd hr h => ?_)
  · rw [h.1]; rfl
  · have hu := hu_of hr
    have hcode : cdv = .ref T.k_law_great_right := hcc.symm.trans T.e_law_great_right
    refine ⟨_, (pss_cons (ps_set (i := 0) sc_law_great_right.nd rfl (by first | exact .inl rfl | exact .inr rfl) (pe_make T.mk_Dial (ok_Dial_init T) (hr.mono (by decide)) (by rfl) T.g_Dial T.b_Dial_init .nil pass0 (pa_cons pe_int (pa_cons (pe_tup (pa_cons pe_int (pa_cons pe_int pa_nil))) pa_nil))))
      (pss_cons (ps_if (PW.pt (pw_or (pt_not (pt_val (pe_outT2L (TT := TTout T) (TT2 := TTi T) (k := 7) (n := 1) (x := "_law_outcome") (by rfl) T.d_law_is.m T.d_law_is.F.kp T.d_law_is.F rfl T.d_law_is.b sc_law_is rfl (by first | exact .inl rfl | exact .inr (.inl rfl)) rfl T.d_law_outcome.m T.d_law_outcome.F.kp T.d_law_outcome.F rfl T.d_law_outcome.b sc_law_outcome rfl (by first | exact .inl rfl | exact .inr (.inl rfl)) (fun _ _ => by rfl) (fun _ _ => gives_out T rfl rfl) (gives_is T rfl rfl hgd) (pe_lamE (T := tl T) (B.tb_law_great_right) hcode (hm_law_great_right T) (hu_law_great_right T) rfl (lamD_by (N := ["live", "told"]) (sc := defScope s_law_great_right) (by decide +kernel)) (fun _ _ _ _ _ _ => rfl)) (hr.mono (by decide)) (lamD_by (N := ["live", "told"]) (sc := defScope s_law_great_right) (by decide +kernel)) (fun _ _ _ _ _ _ _ hr => (pe_meth (pv 0) T.cl_Dial T.me_Dial_add (okX_Dial_add T) (hr.mono (by decide)) T.b_Dial_add .nil (passes_call (takes_of rfl rfl rfl rfl) (fun _ _ _ _ z => z)) (pa_cons (pe_tup (pa_cons pe_int (pa_cons pe_int pa_nil))) pa_nil))) (pa_cons (pe_tup (pa_cons pe_str (pa_cons pe_int pa_nil))) pa_nil)))) (pw_or1 (pt_not (pt_val (pe_outT2L (TT := TTout T) (TT2 := TTi T) (k := 7) (n := 1) (x := "_law_outcome") (by rfl) T.d_law_is.m T.d_law_is.F.kp T.d_law_is.F rfl T.d_law_is.b sc_law_is rfl (by first | exact .inl rfl | exact .inr (.inl rfl)) rfl T.d_law_outcome.m T.d_law_outcome.F.kp T.d_law_outcome.F rfl T.d_law_outcome.b sc_law_outcome rfl (by first | exact .inl rfl | exact .inr (.inl rfl)) (fun _ _ => by rfl) (fun _ _ => gives_out T rfl rfl) (gives_is T rfl rfl hgd) (pe_lamD (T := tl T) (B.tb_law_great_right) hcode (hm_law_great_right T) (hu_law_great_right T) rfl rfl (lamD_by (N := ["live", "told"]) (sc := defScope s_law_great_right) (by decide +kernel)) (fun _ _ _ _ _ _ _ _ => ⟨_, rfl, rfl⟩) rfl) (hr.mono (by decide)) (lamD_by (N := ["live", "told"]) (sc := defScope s_law_great_right) (by decide +kernel)) (fun _ _ _ _ _ _ _ hr => (pe_meth (pv 0) T.cl_Dial T.me_Dial_add (okX_Dial_add T) (hr.mono (by decide)) T.b_Dial_add .nil (passes_call (takes_of rfl rfl rfl rfl) (fun _ _ _ _ z => z)) (pa_cons (pe_tup (pa_cons pe_int (pa_cons pe_int pa_nil))) pa_nil))) (pa_cons (pe_tup (pa_cons pe_str (pa_cons pe_int pa_nil))) pa_nil))))))) (pss_one (ps_ret pe_bl)) pss_nil)
      (pss_cons (ps_if (PW.pt (pw_or (pt_not (pt_val (pe_outT2L (TT := TTout T) (TT2 := TTi T) (k := 7) (n := 1) (x := "_law_outcome") (by rfl) T.d_law_is.m T.d_law_is.F.kp T.d_law_is.F rfl T.d_law_is.b sc_law_is rfl (by first | exact .inl rfl | exact .inr (.inl rfl)) rfl T.d_law_outcome.m T.d_law_outcome.F.kp T.d_law_outcome.F rfl T.d_law_outcome.b sc_law_outcome rfl (by first | exact .inl rfl | exact .inr (.inl rfl)) (fun _ _ => by rfl) (fun _ _ => gives_out T rfl rfl) (gives_is T rfl rfl hgd) (pe_lamE (T := tl T) (B.tb_law_great_right) hcode (hm_law_great_right T) (hu_law_great_right T) rfl (lamD_by (N := ["live", "told"]) (sc := defScope s_law_great_right) (by decide +kernel)) (fun _ _ _ _ _ _ => rfl)) (hr.mono (by decide)) (lamD_by (N := ["live", "told"]) (sc := defScope s_law_great_right) (by decide +kernel)) (fun _ _ _ _ _ _ _ hr => (pe_meth0 (pv 0) T.cl_Dial T.me_Dial_undo (okX_Dial_undo T) (hr.mono (by decide)) (b0_Dial_undo T) (d0_Dial_undo T) (passes_call (takes_of rfl rfl rfl rfl) (fun _ _ _ _ z => z)))) (pa_cons (pe_tup (pa_cons pe_str (pa_cons pe_int pa_nil))) pa_nil)))) (pw_or1 (pt_not (pt_val (pe_callG hgd (okG_law_moves_right T B) (hr.mono (by decide)) (by rfl) T.d_law_moves_right.m T.d_law_moves_right.F.kp T.d_law_moves_right.b .nil pass0 (pa_cons (pv 0) pa_nil))))))) (pss_one (ps_ret pe_bl)) pss_nil)
      (pss_cons (ps_set (i := 1) sc_law_great_right.nd rfl (by first | exact .inl rfl | exact .inr rfl) (pe_lst (pa_cons (pe_outc (T := tl T) (TT := TTout T) (k := 7) (by rfl) T.d_law_outcome.m T.d_law_outcome.F.kp T.d_law_outcome.F rfl T.d_law_outcome.b sc_law_outcome rfl (by first | exact .inl rfl | exact .inr (.inl rfl)) (gives_out T rfl rfl) (fun pins σ H s Q I hT h => lam_plain I (B.tb_law_great_right) hcode (hm_law_great_right T) (hu_law_great_right T) hT rfl (LamD.has (lamD_by (N := ["live", "told"]) (sc := defScope s_law_great_right) (by decide +kernel)) I.ok) (fun _ _ _ _ _ _ => rfl) h) (hr.mono (by decide)) (lamD_by (N := ["live", "told"]) (sc := defScope s_law_great_right) (by decide +kernel)) (fun _ _ _ _ _ _ _ hr => (pe_meth (pv 0) T.cl_Dial T.me_Dial_add (ok_Dial_add T) (hr.mono (by decide)) T.b_Dial_add .nil pass0 (pa_cons (pe_tup (pa_cons pe_int (pa_cons pe_int pa_nil))) pa_nil)))) (pa_cons (pe_prop (pv 0) T.cl_Dial T.pr_Dial_fraction (ok_Dial_fraction T) (hr.mono (by decide)) T.b_Dial_fraction .nil pass0 rfl) (pa_cons (pe_outc (T := tl T) (TT := TTout T) (k := 7) (by rfl) T.d_law_outcome.m T.d_law_outcome.F.kp T.d_law_outcome.F rfl T.d_law_outcome.b sc_law_outcome rfl (by first | exact .inl rfl | exact .inr (.inl rfl)) (gives_out T rfl rfl) (fun pins σ H s Q I hT h => lam_dflt I (B.tb_law_great_right) hcode (hm_law_great_right T) (hu_law_great_right T) hT rfl rfl (LamD.has (lamD_by (N := ["live", "told"]) (sc := defScope s_law_great_right) (by decide +kernel)) I.ok) (fun _ _ _ _ _ _ _ _ => ⟨_, rfl, rfl⟩) rfl (fun _ _ z => z) h) (hr.mono (by decide)) (lamD_by (N := ["live", "told"]) (sc := defScope s_law_great_right) (by decide +kernel)) (fun _ _ _ _ _ _ _ hr => (pe_meth (pv 0) T.cl_Dial T.me_Dial_add (ok_Dial_add T) (hr.mono (by decide)) T.b_Dial_add .nil pass0 (pa_cons (pe_tup (pa_cons pe_int (pa_cons pe_int pa_nil))) pa_nil)))) pa_nil)))))
      (pss_cons (ps_set (i := 1) sc_law_great_right.nd rfl (by first | exact .inl rfl | exact .inr rfl) (pe_op op_cat (pv 1) (pe_lst (pa_cons (pe_prop (pv 0) T.cl_Dial T.pr_Dial_fraction (ok_Dial_fraction T) (hr.mono (by decide)) T.b_Dial_fraction .nil pass0 rfl) (pa_cons (pe_outc (T := tl T) (TT := TTout T) (k := 7) (by rfl) T.d_law_outcome.m T.d_law_outcome.F.kp T.d_law_outcome.F rfl T.d_law_outcome.b sc_law_outcome rfl (by first | exact .inl rfl | exact .inr (.inl rfl)) (gives_out T rfl rfl) (fun pins σ H s Q I hT h => lam_plain I (B.tb_law_great_right) hcode (hm_law_great_right T) (hu_law_great_right T) hT rfl (LamD.has (lamD_by (N := ["live", "told"]) (sc := defScope s_law_great_right) (by decide +kernel)) I.ok) (fun _ _ _ _ _ _ => rfl) h) (hr.mono (by decide)) (lamD_by (N := ["live", "told"]) (sc := defScope s_law_great_right) (by decide +kernel)) (fun _ _ _ _ _ _ _ hr => (pe_meth (pv 0) T.cl_Dial T.me_Dial_add (ok_Dial_add T) (hr.mono (by decide)) T.b_Dial_add .nil pass0 (pa_cons (pe_tup (pa_cons pe_int (pa_cons pe_int pa_nil))) pa_nil)))) (pa_cons (pe_prop (pv 0) T.cl_Dial T.pr_Dial_fraction (ok_Dial_fraction T) (hr.mono (by decide)) T.b_Dial_fraction .nil pass0 rfl) pa_nil))))))
      (pss_cons (ps_if (PW.pt (pw_or (pt_cmpR (r := rNeD K) (op_neD hr.units) (pv 1) (pe_lst (pa_cons (pe_lst (pa_cons pe_non pa_nil)) (pa_cons (pe_tup (pa_cons pe_int (pa_cons pe_int pa_nil))) (pa_cons (pe_lst (pa_cons pe_non pa_nil)) (pa_cons (pe_tup (pa_cons pe_int (pa_cons pe_int pa_nil))) (pa_cons (pe_lst (pa_cons pe_non pa_nil)) (pa_cons (pe_tup (pa_cons pe_int (pa_cons pe_int pa_nil))) pa_nil))))))) (nomark _)) (pw_or1 (pt_cmpR op_ne (pe_callB (r := rLenO T.C_Dial (sp_Dial_len T)) (call_lenO T.at_Dial_len T.fn_Dial_len (ok_Dial_len T) (hr.mono (by decide)) T.b_Dial_len) (by rfl) T.b_len PySem.boot_len (pa_cons (pv 0) pa_nil)) pe_int (nomark _))))) (pss_one (ps_ret pe_bl)) pss_nil)
      (pss_cons (ps_set (i := 1) sc_law_great_right.nd rfl (by first | exact .inl rfl | exact .inr rfl) (pe_lst (pa_cons (pe_meth (pv 0) T.cl_Dial T.me_Dial_add (ok_Dial_add T) (hr.mono (by decide)) T.b_Dial_add .nil pass0 (pa_cons (pe_tup (pa_cons pe_int (pa_cons pe_int pa_nil))) pa_nil)) (pa_cons (pe_meth (pv 0) T.cl_Dial T.me_Dial_turn (ok_Dial_turn T) (hr.mono (by decide)) T.b_Dial_turn .nil pass0 (pa_cons (pe_op op_pow pe_int pe_int) pa_nil)) (pa_cons (pe_meth (pv 0) T.cl_Dial T.me_Dial_scale (ok_Dial_scale T) (hr.mono (by decide)) T.b_Dial_scale .nil pass0 (pa_cons (pe_op op_pow pe_int pe_int) pa_nil)) (pa_cons (pe_meth (pv 0) T.cl_Dial T.me_Dial_scale (ok_Dial_scale T) (hr.mono (by decide)) T.b_Dial_scale .nil pass0 (pa_cons pe_int pa_nil)) (pa_cons (pe_meth (pv 0) T.cl_Dial T.me_Dial_turn (ok_Dial_turn T) (hr.mono (by decide)) T.b_Dial_turn .nil pass0 (pa_cons pe_int pa_nil)) (pa_cons (pe_callI (pv 0) T.ca_Dial (ok_Dial_call T) (hr.mono (by decide)) T.b_Dial_call (pa_cons (pe_op op_pow pe_int pe_int) pa_nil)) pa_nil))))))))
      (pss_one (ps_ret (pe_and (pe_cmpR (r := rEqD K) (op_eqD hr.units) (pv 1) (pe_lst (pa_cons pe_non (pa_cons pe_non (pa_cons pe_non (pa_cons pe_non (pa_cons pe_non (pa_cons pe_int pa_nil))))))) (nomark _)) (pe_and (pe_cmpR (r := rEqD K) (op_eqD hr.units) (pe_prop (pv 0) T.cl_Dial T.pr_Dial_fraction (ok_Dial_fraction T) (hr.mono (by decide)) T.b_Dial_fraction .nil pass0 rfl) (pe_tup (pa_cons pe_int (pa_cons pe_int pa_nil))) (nomark _)) (pe_one (pe_callG hgd (okG_law_moves_right T B) (hr.mono (by decide)) (by rfl) T.d_law_moves_right.m T.d_law_moves_right.F.kp T.d_law_moves_right.b .nil pass0 (pa_cons (pv 0) pa_nil)))))))))))))), ?_⟩
    obtain ⟨rfl, hT, q⟩ := h
    refine ⟨by show 2 ≤ sizeLine; decide, fun p0 np0 => ?_⟩
    have g0 := Gr.new (W := []) (o := .tup [.int 1, .int 4999]) np0
    have e0 : (upd H p0 (.tup [.int 1, .int 4999])) p0 = some (pv2 (1, 4999)) := upd_same
    have t0 := tabsGr hT g0
    generalize upd H p0 (.tup [.int 1, .int 4999]) = H0 at e0 t0 ⊢
    refine fun a dx na ndx nax => ?_
    refine ⟨a, dx, 1000, p0, 1, 4999, rfl, upd_same, by rw [upd_ne (ne_of_none e0 na), upd_ne (ne_of_none e0 ndx)]; exact e0, ⟨by decide, by decide⟩, ⟨by decide, by decide, by decide +kernel⟩, fun l nl => ⟨rfl, ?_⟩⟩
    obtain ⟨gm, h0a, h0l, _⟩ := mk_facts (T := T) (p := p0) (b := 1000) na ndx nl
    have S0 : Dl T (mkH T H0 a dx l p0 1000) a dx l p0 1000 1 4999 [] := ⟨h0a, h0l, gm p0 _ (by simp) e0, ⟨⟨by decide, by decide, by decide, by decide⟩, by decide, by decide +kernel⟩, by decide⟩
    have t1 := tabsGr t0 gm
    generalize hH : mkH T H0 a dx l p0 1000 = H1 at S0 t1
    unfold mkH at hH
    rw [hH]
    clear hH nl na ndx nax gm h0a h0l e0 t0 g0 hT
    refine ⟨t1, fun f c H2 e2 t2 LA => ⟨f, c, rfl, by show 2 ≤ sizeLine; decide, fun pq nq => ⟨rfl, LA.ext (extOf (Gr.new nq)), ?_⟩⟩⟩
    have gq := Gr.new (W := []) (o := .tup [.str "great", .int 5000]) nq
    refine ⟨.ref pq, "great", .int 5000, rfl, dz_tup upd_same (.cons (.str _) (.cons (.int _) .nil)), (so_int (by decide +kernel)).jz, jw_gr, heardG (y := 1) (m := 2) (S0.ext (e2.trans (extOf gq))) rfl (by decide +kernel) ⟨by decide, by decide⟩ (by decide +kernel), fun H3 g3 => ⟨_, rfl, iteF ?_⟩⟩
    have E3 := e2.trans (extOf (gq.trans g3))
    have t3 := tabsGr t2 (gq.trans g3)
    clear gq g3 e2 t2 LA
    have S3 := S0.ext E3
    refine ⟨t3, fun f c H4 e4 t4 LA => ⟨f, c, rfl, by show 2 ≤ sizeLine; decide, fun pq nq => ⟨rfl, LA.ext (extOf (Gr.new nq)), ?_⟩⟩⟩
    have gq := Gr.new (W := []) (o := .tup [.str "great", .int 5000]) nq
    refine ⟨.ref pq, "great", .int 5000, rfl, dz_tup upd_same (.cons (.str _) (.cons (.int _) .nil)), (so_int (by decide +kernel)).jz, jw_gr, heardG (y := 1) (m := 5000) (S3.ext (e4.trans (extOf gq))) rfl (by decide +kernel) ⟨by decide, by decide⟩ (by decide +kernel), fun H5 g5 => ⟨_, rfl, iteF ?_⟩⟩
    have S5 := S3.ext (e4.trans (extOf (gq.trans g5)))
    have t5 := tabsGr t4 (gq.trans g5)
    clear gq e4 t4 LA S3 E3 t3
    refine ⟨t5, fun f c H6 e6 t6 LA => ⟨f, c, rfl, by show 2 ≤ sizeLine; decide, fun pq nq => ⟨rfl, LA.ext (extOf (Gr.new nq)), ?_⟩⟩⟩
    have gq := Gr.new (W := []) (o := .tup [.str "nothing", .int 1]) nq
    refine ⟨.ref pq, "nothing", .int 1, rfl, dz_tup upd_same (.cons (.str _) (.cons (.int _) .nil)), (so_int (by decide +kernel)).jz, jw_no, heard0 (S5.ext (e6.trans (extOf gq))) rfl rfl, fun H7 g7 => ⟨_, rfl, iteF ?_⟩⟩
    have S7 := S5.ext (e6.trans (extOf (gq.trans g7)))
    have t7 := tabsGr t6 (gq.trans g7)
    clear gq e6 t6 LA S5 t5
    refine ⟨_, rfl, a, dx, l, p0, 1000, 1, 4999, [], rfl, S7, t7, fun H8 e8 t8 => ⟨_, rfl, iteF ?_⟩⟩
    have S8 := S7.ext e8
    obtain ⟨Z, eZ⟩ : ∃ Z : Nat, Z = 10 ^ 30 := ⟨_, rfl⟩
    have hZ : (10 : Int) ^ (30 : Int).toNat = (Z : Int) := by rw [eZ]; decide +kernel
    have e2 := S8.P
    refine ⟨t8, fun HA1 eA1 tA1 => fun HB1 Qn1 E1 gB1 kn1 _ => ?_⟩
    have SA1 := (S8.ext eA1).gr gB1
    refine ⟨_, rfl, a, dx, _, rfl, SA1.D, by rfl, by show 2 ≤ sizeLine; decide, fun u1 nu1 => ?_⟩
    have gu1 := Gr.new (W := []) (o := .tup [.int 4998, .int 4999]) nu1
    have Su1 := SA1.gr gu1
    have tu1 := tabsGr (tabsGr tA1 gB1) gu1
    have e2 := gu1 _ _ (by simp) (gB1 _ _ (by simp) (eA1 _ _ e2 (fun _ z => by cases z)))
    refine ⟨a, dx, l, p0, u1, 1000, 1, 4999, 4998, 4999, [], rfl, Su1.D, Su1.L, Su1.P, upd_same, by show 0 ≤ 5000; decide, Su1.fr, ⟨by decide, by decide, by decide +kernel⟩, by decide +kernel, fun w1 nw1 => ?_⟩
    rw [show lw (1 * 4999 + 4998 * 4999) (4999 * 4999) = (0, 1) by decide +kernel]
    generalize upd HB1 u1 (.tup [.int 4998, .int 4999]) = HC1 at gu1 Su1 tu1 nw1 e2 ⊢
    refine kn1 .non _ fun r1 nr1 => ?_
    obtain ⟨Sn1, km1⟩ := Su1.mv (q := (0, 1)) nw1 ⟨⟨by decide, by decide, by decide, by decide⟩, by decide, by decide +kernel⟩ (by show 0 < 1000; decide)
    have Sm1 : Dl T _ a dx l w1 1000 0 1 [.ref p0] := Sn1
    have tm1 := tabs_mv Su1 tu1 km1
    clear Sn1
    have e2 := km1 _ _ e2 (ne_of e2 Su1.D (fun z => by cases z)) (ne_of e2 Su1.L (fun z => by cases z))
    have gr1 := Gr.new (W := []) (o := .lst [.non]) nr1
    have er1 : (upd (mvH T HC1 a dx l p0 w1 1000 [] (0, 1)) r1 (.lst [.non])) r1 = some (.lst [.non]) := upd_same
    have xr1 : r1 ≠ l := (ne_of_none Sm1.L nr1).symm
    have S101 := Sm1.gr gr1
    have t101 := tabsGr tm1 gr1
    have e2 := gr1 _ _ (by simp) e2
    generalize upd (mvH T HC1 a dx l p0 w1 1000 [] (0, 1)) r1 (.lst [.non]) = J1 at er1 S101 t101 e2 ⊢
    refine ⟨_, rfl, a, dx, _, rfl, S101.D, a, dx, l, w1, 1000, rfl, S101.D, ?_⟩
    have e4 := S101.P
    refine ⟨t101, fun HA3 eA3 tA3 => fun HB3 Qn3 E3 gB3 kn3 _ => ?_⟩
    have SA3 := (S101.ext eA3).gr gB3
    refine ⟨_, rfl, a, dx, _, rfl, SA3.D, by rfl, by show 2 ≤ sizeLine; decide, fun u3 nu3 => ?_⟩
    have gu3 := Gr.new (W := []) (o := .tup [.int 4999, .int 5000]) nu3
    have Su3 := SA3.gr gu3
    have tu3 := tabsGr (tabsGr tA3 gB3) gu3
    have e2 := gu3 _ _ (by simp) (gB3 _ _ (by simp) (eA3 _ _ e2 (fun _ z => by cases z)))
    have er1 := gu3 _ _ (by simp) (gB3 _ _ (by simp) (eA3 _ _ er1 (fun _ z => by cases z)))
    have e4 := gu3 _ _ (by simp) (gB3 _ _ (by simp) (eA3 _ _ e4 (fun _ z => by cases z)))
    refine ⟨a, dx, l, w1, u3, 1000, 0, 1, 4999, 5000, [.ref p0], rfl, Su3.D, Su3.L, Su3.P, upd_same, by show 1 ≤ 5000; decide, Su3.fr, ⟨by decide, by decide, by decide +kernel⟩, by decide +kernel, fun w3 nw3 => ?_⟩
    rw [show lw (0 * 5000 + 4999 * 1) (1 * 5000) = (4999, 5000) by decide +kernel]
    generalize upd HB3 u3 (.tup [.int 4999, .int 5000]) = HC3 at gu3 Su3 tu3 nw3 e2 er1 e4 ⊢
    refine kn3 .non _ fun r3 nr3 => ?_
    obtain ⟨Sn3, km3⟩ := Su3.mv (q := (4999, 5000)) nw3 ⟨⟨by decide, by decide, by decide, by decide⟩, by decide, by decide +kernel⟩ (by show 1 < 1000; decide)
    have Sm3 : Dl T _ a dx l w3 1000 4999 5000 [.ref p0, .ref w1] := Sn3
    have tm3 := tabs_mv Su3 tu3 km3
    clear Sn3
    have e2 := km3 _ _ e2 (ne_of e2 Su3.D (fun z => by cases z)) (ne_of e2 Su3.L (fun z => by cases z))
    have er1 := km3 _ _ er1 (ne_of er1 Su3.D (fun z => by cases z)) xr1
    have e4 := km3 _ _ e4 (ne_of e4 Su3.D (fun z => by cases z)) (ne_of e4 Su3.L (fun z => by cases z))
    have gr3 := Gr.new (W := []) (o := .lst [.non]) nr3
    have er3 : (upd (mvH T HC3 a dx l w1 w3 1000 [.ref p0] (4999, 5000)) r3 (.lst [.non])) r3 = some (.lst [.non]) := upd_same
    have xr3 : r3 ≠ l := (ne_of_none Sm3.L nr3).symm
    have S103 := Sm3.gr gr3
    have t103 := tabsGr tm3 gr3
    have e2 := gr3 _ _ (by simp) e2
    have er1 := gr3 _ _ (by simp) er1
    have e4 := gr3 _ _ (by simp) e4
    generalize upd (mvH T HC3 a dx l w1 w3 1000 [.ref p0] (4999, 5000)) r3 (.lst [.non]) = J3 at er3 S103 t103 e2 er1 e4 ⊢
    refine ⟨by show 3 ≤ sizeLine; decide, fun u5 nu5 => ?_⟩
    have g5 := Gr.new (W := []) (o := .lst [.ref r1, .ref w1, .ref r3]) nu5
    have e5 : (upd J3 u5 (.lst [.ref r1, .ref w1, .ref r3])) u5 = some (.lst [.ref r1, .ref w1, .ref r3]) := upd_same
    have x5 : u5 ≠ l := (ne_of_none S103.L nu5).symm
    have S105 := S103.gr g5
    have t105 := tabsGr t103 g5
    have e2 := g5 _ _ (by simp) e2
    have er1 := g5 _ _ (by simp) er1
    have e4 := g5 _ _ (by simp) e4
    have er3 := g5 _ _ (by simp) er3
    generalize upd J3 u5 (.lst [.ref r1, .ref w1, .ref r3]) = J5 at g5 e5 S105 t105 e2 er1 e4 er3 ⊢
    refine ⟨_, rfl, ?_⟩
    refine ⟨_, rfl, a, dx, _, rfl, S105.D, a, dx, l, w3, 1000, rfl, S105.D, ?_⟩
    have e7 := S105.P
    refine ⟨t105, fun HA6 eA6 tA6 => fun HB6 Qn6 E6 gB6 kn6 _ => ?_⟩
    have SA6 := (S105.ext eA6).gr gB6
    refine ⟨_, rfl, a, dx, _, rfl, SA6.D, by rfl, by show 2 ≤ sizeLine; decide, fun u6 nu6 => ?_⟩
    have gu6 := Gr.new (W := []) (o := .tup [.int 1, .int 2500]) nu6
    have Su6 := SA6.gr gu6
    have tu6 := tabsGr (tabsGr tA6 gB6) gu6
    have e2 := gu6 _ _ (by simp) (gB6 _ _ (by simp) (eA6 _ _ e2 (fun _ z => by cases z)))
    have er1 := gu6 _ _ (by simp) (gB6 _ _ (by simp) (eA6 _ _ er1 (fun _ z => by cases z)))
    have e4 := gu6 _ _ (by simp) (gB6 _ _ (by simp) (eA6 _ _ e4 (fun _ z => by cases z)))
    have er3 := gu6 _ _ (by simp) (gB6 _ _ (by simp) (eA6 _ _ er3 (fun _ z => by cases z)))
    have e5 := gu6 _ _ (by simp) (gB6 _ _ (by simp) (eA6 _ _ e5 (fun _ z => by cases z)))
    have e7 := gu6 _ _ (by simp) (gB6 _ _ (by simp) (eA6 _ _ e7 (fun _ z => by cases z)))
    refine ⟨a, dx, l, w3, u6, 1000, 4999, 5000, 1, 2500, [.ref p0, .ref w1], rfl, Su6.D, Su6.L, Su6.P, upd_same, by show 2 ≤ 5000; decide, Su6.fr, ⟨by decide, by decide, by decide +kernel⟩, by decide +kernel, fun w6 nw6 => ?_⟩
    rw [show lw (4999 * 2500 + 1 * 5000) (5000 * 2500) = (1, 5000) by decide +kernel]
    generalize upd HB6 u6 (.tup [.int 1, .int 2500]) = HC6 at gu6 Su6 tu6 nw6 e2 er1 e4 er3 e5 e7 ⊢
    refine kn6 .non _ fun r6 nr6 => ?_
    obtain ⟨Sn6, km6⟩ := Su6.mv (q := (1, 5000)) nw6 ⟨⟨by decide, by decide, by decide, by decide⟩, by decide, by decide +kernel⟩ (by show 2 < 1000; decide)
    have Sm6 : Dl T _ a dx l w6 1000 1 5000 [.ref p0, .ref w1, .ref w3] := Sn6
    have tm6 := tabs_mv Su6 tu6 km6
    clear Sn6
    have e2 := km6 _ _ e2 (ne_of e2 Su6.D (fun z => by cases z)) (ne_of e2 Su6.L (fun z => by cases z))
    have er1 := km6 _ _ er1 (ne_of er1 Su6.D (fun z => by cases z)) xr1
    have e4 := km6 _ _ e4 (ne_of e4 Su6.D (fun z => by cases z)) (ne_of e4 Su6.L (fun z => by cases z))
    have er3 := km6 _ _ er3 (ne_of er3 Su6.D (fun z => by cases z)) xr3
    have e5 := km6 _ _ e5 (ne_of e5 Su6.D (fun z => by cases z)) x5
    have e7 := km6 _ _ e7 (ne_of e7 Su6.D (fun z => by cases z)) (ne_of e7 Su6.L (fun z => by cases z))
    have gr6 := Gr.new (W := []) (o := .lst [.non]) nr6
    have er6 : (upd (mvH T HC6 a dx l w3 w6 1000 [.ref p0, .ref w1] (1, 5000)) r6 (.lst [.non])) r6 = some (.lst [.non]) := upd_same
    have xr6 : r6 ≠ l := (ne_of_none Sm6.L nr6).symm
    have S106 := Sm6.gr gr6
    have t106 := tabsGr tm6 gr6
    have e2 := gr6 _ _ (by simp) e2
    have er1 := gr6 _ _ (by simp) er1
    have e4 := gr6 _ _ (by simp) e4
    have er3 := gr6 _ _ (by simp) er3
    have e5 := gr6 _ _ (by simp) e5
    have e7 := gr6 _ _ (by simp) e7
    generalize upd (mvH T HC6 a dx l w3 w6 1000 [.ref p0, .ref w1] (1, 5000)) r6 (.lst [.non]) = J6 at er6 S106 t106 e2 er1 e4 er3 e5 e7 ⊢
    refine ⟨_, rfl, a, dx, _, rfl, S106.D, a, dx, l, w6, 1000, rfl, S106.D, ?_⟩
    have e8 := S106.P
    refine ⟨by show 3 ≤ sizeLine; decide, fun u9 nu9 => ?_⟩
    have g9 := Gr.new (W := []) (o := .lst [.ref w3, .ref r6, .ref w6]) nu9
    have e9 : (upd J6 u9 (.lst [.ref w3, .ref r6, .ref w6])) u9 = some (.lst [.ref w3, .ref r6, .ref w6]) := upd_same
    have x9 : u9 ≠ l := (ne_of_none S106.L nu9).symm
    have S109 := S106.gr g9
    have t109 := tabsGr t106 g9
    have e2 := g9 _ _ (by simp) e2
    have er1 := g9 _ _ (by simp) er1
    have e4 := g9 _ _ (by simp) e4
    have er3 := g9 _ _ (by simp) er3
    have e5 := g9 _ _ (by simp) e5
    have e7 := g9 _ _ (by simp) e7
    have er6 := g9 _ _ (by simp) er6
    have e8 := g9 _ _ (by simp) e8
    generalize upd J6 u9 (.lst [.ref w3, .ref r6, .ref w6]) = J9 at g9 e9 S109 t109 e2 er1 e4 er3 e5 e7 er6 e8 ⊢
    refine ⟨u5, u9, _, _, rfl, rfl, e5, e9, by show 6 ≤ sizeLine; decide, fun u10 nu10 => ?_⟩
    have g10 := Gr.new (W := []) (o := .lst [.ref r1, .ref w1, .ref r3, .ref w3, .ref r6, .ref w6]) nu10
    have e10 : (upd J9 u10 (.lst [.ref r1, .ref w1, .ref r3, .ref w3, .ref r6, .ref w6])) u10 = some (.lst [.ref r1, .ref w1, .ref r3, .ref w3, .ref r6, .ref w6]) := upd_same
    have x10 : u10 ≠ l := (ne_of_none S109.L nu10).symm
    have S110 := S109.gr g10
    have t110 := tabsGr t109 g10
    have e2 := g10 _ _ (by simp) e2
    have er1 := g10 _ _ (by simp) er1
    have e4 := g10 _ _ (by simp) e4
    have er3 := g10 _ _ (by simp) er3
    have e5 := g10 _ _ (by simp) e5
    have e7 := g10 _ _ (by simp) e7
    have er6 := g10 _ _ (by simp) er6
    have e8 := g10 _ _ (by simp) e8
    have e9 := g10 _ _ (by simp) e9
    generalize hJ : upd J9 u10 (.lst [.ref r1, .ref w1, .ref r3, .ref w3, .ref r6, .ref w6]) = J10 at g10 e10 S110 t110 e2 er1 e4 er3 e5 e7 er6 e8 e9
    simp only [List.cons_append, List.nil_append]
    rw [hJ]
    clear hJ
    refine ⟨_, rfl, ?_⟩
    refine ⟨by show 1 ≤ sizeLine; decide, fun u11 nu11 => ?_⟩
    have g11 := Gr.new (W := []) (o := .lst [.non]) nu11
    have e11 : (upd J10 u11 (.lst [.non])) u11 = some (.lst [.non]) := upd_same
    have x11 : u11 ≠ l := (ne_of_none S110.L nu11).symm
    have S111 := S110.gr g11
    have t111 := tabsGr t110 g11
    have e2 := g11 _ _ (by simp) e2
    have er1 := g11 _ _ (by simp) er1
    have e4 := g11 _ _ (by simp) e4
    have er3 := g11 _ _ (by simp) er3
    have e5 := g11 _ _ (by simp) e5
    have e7 := g11 _ _ (by simp) e7
    have er6 := g11 _ _ (by simp) er6
    have e8 := g11 _ _ (by simp) e8
    have e9 := g11 _ _ (by simp) e9
    have e10 := g11 _ _ (by simp) e10
    generalize upd J10 u11 (.lst [.non]) = J11 at g11 e11 S111 t111 e2 er1 e4 er3 e5 e7 er6 e8 e9 e10 ⊢
    refine ⟨by show 2 ≤ sizeLine; decide, fun u12 nu12 => ?_⟩
    have g12 := Gr.new (W := []) (o := .tup [.int 0, .int 1]) nu12
    have e12 : (upd J11 u12 (.tup [.int 0, .int 1])) u12 = some (.tup [.int 0, .int 1]) := upd_same
    have x12 : u12 ≠ l := (ne_of_none S111.L nu12).symm
    have S112 := S111.gr g12
    have t112 := tabsGr t111 g12
    have e2 := g12 _ _ (by simp) e2
    have er1 := g12 _ _ (by simp) er1
    have e4 := g12 _ _ (by simp) e4
    have er3 := g12 _ _ (by simp) er3
    have e5 := g12 _ _ (by simp) e5
    have e7 := g12 _ _ (by simp) e7
    have er6 := g12 _ _ (by simp) er6
    have e8 := g12 _ _ (by simp) e8
    have e9 := g12 _ _ (by simp) e9
    have e10 := g12 _ _ (by simp) e10
    have e11 := g12 _ _ (by simp) e11
    generalize upd J11 u12 (.tup [.int 0, .int 1]) = J12 at g12 e12 S112 t112 e2 er1 e4 er3 e5 e7 er6 e8 e9 e10 e11 ⊢
    refine ⟨by show 1 ≤ sizeLine; decide, fun u13 nu13 => ?_⟩
    have g13 := Gr.new (W := []) (o := .lst [.non]) nu13
    have e13 : (upd J12 u13 (.lst [.non])) u13 = some (.lst [.non]) := upd_same
    have x13 : u13 ≠ l := (ne_of_none S112.L nu13).symm
    have S113 := S112.gr g13
    have t113 := tabsGr t112 g13
    have e2 := g13 _ _ (by simp) e2
    have er1 := g13 _ _ (by simp) er1
    have e4 := g13 _ _ (by simp) e4
    have er3 := g13 _ _ (by simp) er3
    have e5 := g13 _ _ (by simp) e5
    have e7 := g13 _ _ (by simp) e7
    have er6 := g13 _ _ (by simp) er6
    have e8 := g13 _ _ (by simp) e8
    have e9 := g13 _ _ (by simp) e9
    have e10 := g13 _ _ (by simp) e10
    have e11 := g13 _ _ (by simp) e11
    have e12 := g13 _ _ (by simp) e12
    generalize upd J12 u13 (.lst [.non]) = J13 at g13 e13 S113 t113 e2 er1 e4 er3 e5 e7 er6 e8 e9 e10 e11 e12 ⊢
    refine ⟨by show 2 ≤ sizeLine; decide, fun u14 nu14 => ?_⟩
    have g14 := Gr.new (W := []) (o := .tup [.int 4999, .int 5000]) nu14
    have e14 : (upd J13 u14 (.tup [.int 4999, .int 5000])) u14 = some (.tup [.int 4999, .int 5000]) := upd_same
    have x14 : u14 ≠ l := (ne_of_none S113.L nu14).symm
    have S114 := S113.gr g14
    have t114 := tabsGr t113 g14
    have e2 := g14 _ _ (by simp) e2
    have er1 := g14 _ _ (by simp) er1
    have e4 := g14 _ _ (by simp) e4
    have er3 := g14 _ _ (by simp) er3
    have e5 := g14 _ _ (by simp) e5
    have e7 := g14 _ _ (by simp) e7
    have er6 := g14 _ _ (by simp) er6
    have e8 := g14 _ _ (by simp) e8
    have e9 := g14 _ _ (by simp) e9
    have e10 := g14 _ _ (by simp) e10
    have e11 := g14 _ _ (by simp) e11
    have e12 := g14 _ _ (by simp) e12
    have e13 := g14 _ _ (by simp) e13
    generalize upd J13 u14 (.tup [.int 4999, .int 5000]) = J14 at g14 e14 S114 t114 e2 er1 e4 er3 e5 e7 er6 e8 e9 e10 e11 e12 e13 ⊢
    refine ⟨by show 1 ≤ sizeLine; decide, fun u15 nu15 => ?_⟩
    have g15 := Gr.new (W := []) (o := .lst [.non]) nu15
    have e15 : (upd J14 u15 (.lst [.non])) u15 = some (.lst [.non]) := upd_same
    have x15 : u15 ≠ l := (ne_of_none S114.L nu15).symm
    have S115 := S114.gr g15
    have t115 := tabsGr t114 g15
    have e2 := g15 _ _ (by simp) e2
    have er1 := g15 _ _ (by simp) er1
    have e4 := g15 _ _ (by simp) e4
    have er3 := g15 _ _ (by simp) er3
    have e5 := g15 _ _ (by simp) e5
    have e7 := g15 _ _ (by simp) e7
    have er6 := g15 _ _ (by simp) er6
    have e8 := g15 _ _ (by simp) e8
    have e9 := g15 _ _ (by simp) e9
    have e10 := g15 _ _ (by simp) e10
    have e11 := g15 _ _ (by simp) e11
    have e12 := g15 _ _ (by simp) e12
    have e13 := g15 _ _ (by simp) e13
    have e14 := g15 _ _ (by simp) e14
    generalize upd J14 u15 (.lst [.non]) = J15 at g15 e15 S115 t115 e2 er1 e4 er3 e5 e7 er6 e8 e9 e10 e11 e12 e13 e14 ⊢
    refine ⟨by show 2 ≤ sizeLine; decide, fun u16 nu16 => ?_⟩
    have g16 := Gr.new (W := []) (o := .tup [.int 1, .int 5000]) nu16
    have e16 : (upd J15 u16 (.tup [.int 1, .int 5000])) u16 = some (.tup [.int 1, .int 5000]) := upd_same
    have x16 : u16 ≠ l := (ne_of_none S115.L nu16).symm
    have S116 := S115.gr g16
    have t116 := tabsGr t115 g16
    have e2 := g16 _ _ (by simp) e2
    have er1 := g16 _ _ (by simp) er1
    have e4 := g16 _ _ (by simp) e4
    have er3 := g16 _ _ (by simp) er3
    have e5 := g16 _ _ (by simp) e5
    have e7 := g16 _ _ (by simp) e7
    have er6 := g16 _ _ (by simp) er6
    have e8 := g16 _ _ (by simp) e8
    have e9 := g16 _ _ (by simp) e9
    have e10 := g16 _ _ (by simp) e10
    have e11 := g16 _ _ (by simp) e11
    have e12 := g16 _ _ (by simp) e12
    have e13 := g16 _ _ (by simp) e13
    have e14 := g16 _ _ (by simp) e14
    have e15 := g16 _ _ (by simp) e15
    generalize upd J15 u16 (.tup [.int 1, .int 5000]) = J16 at g16 e16 S116 t116 e2 er1 e4 er3 e5 e7 er6 e8 e9 e10 e11 e12 e13 e14 e15 ⊢
    refine ⟨by show 6 ≤ sizeLine; decide, fun u17 nu17 => ?_⟩
    have g17 := Gr.new (W := []) (o := .lst [.ref u11, .ref u12, .ref u13, .ref u14, .ref u15, .ref u16]) nu17
    have e17 : (upd J16 u17 (.lst [.ref u11, .ref u12, .ref u13, .ref u14, .ref u15, .ref u16])) u17 = some (.lst [.ref u11, .ref u12, .ref u13, .ref u14, .ref u15, .ref u16]) := upd_same
    have x17 : u17 ≠ l := (ne_of_none S116.L nu17).symm
    have S117 := S116.gr g17
    have t117 := tabsGr t116 g17
    have e2 := g17 _ _ (by simp) e2
    have er1 := g17 _ _ (by simp) er1
    have e4 := g17 _ _ (by simp) e4
    have er3 := g17 _ _ (by simp) er3
    have e5 := g17 _ _ (by simp) e5
    have e7 := g17 _ _ (by simp) e7
    have er6 := g17 _ _ (by simp) er6
    have e8 := g17 _ _ (by simp) e8
    have e9 := g17 _ _ (by simp) e9
    have e10 := g17 _ _ (by simp) e10
    have e11 := g17 _ _ (by simp) e11
    have e12 := g17 _ _ (by simp) e12
    have e13 := g17 _ _ (by simp) e13
    have e14 := g17 _ _ (by simp) e14
    have e15 := g17 _ _ (by simp) e15
    have e16 := g17 _ _ (by simp) e16
    generalize upd J16 u17 (.lst [.ref u11, .ref u12, .ref u13, .ref u14, .ref u15, .ref u16]) = J17 at g17 e17 S117 t117 e2 er1 e4 er3 e5 e7 er6 e8 e9 e10 e11 e12 e13 e14 e15 e16 ⊢
    refine ⟨.list [.list [.none], .tuple [.int ((0 : Nat) : Int), .int ((1 : Nat) : Int)], .list [.none], .tuple [.int ((4999 : Nat) : Int), .int ((5000 : Nat) : Int)], .list [.none], .tuple [.int ((1 : Nat) : Int), .int ((5000 : Nat) : Int)]], .list [.list [.none], .tuple [.int 0, .int 1], .list [.none], .tuple [.int 4999, .int 5000], .list [.none], .tuple [.int 1, .int 5000]], dp_lst e10 (.cons (dp_lst er1 (.cons .non .nil)) (.cons (dp_tup e4 (.cons (.int _) (.cons (.int _) .nil))) (.cons (dp_lst er3 (.cons .non .nil)) (.cons (dp_tup e7 (.cons (.int _) (.cons (.int _) .nil))) (.cons (dp_lst er6 (.cons .non .nil)) (.cons (dp_tup e8 (.cons (.int _) (.cons (.int _) .nil))) .nil)))))), dp_lst e17 (.cons (dp_lst e11 (.cons .non .nil)) (.cons (dp_tup e12 (.cons (.int _) (.cons (.int _) .nil))) (.cons (dp_lst e13 (.cons .non .nil)) (.cons (dp_tup e14 (.cons (.int _) (.cons (.int _) .nil))) (.cons (dp_lst e15 (.cons .non .nil)) (.cons (dp_tup e16 (.cons (.int _) (.cons (.int _) .nil))) .nil)))))), by decide +kernel, by decide +kernel, _, rfl, iteFb (by decide +kernel) ?_⟩
    refine ⟨_, rfl, a, dx, _, rfl, S117.D, a, dx, l, w6, 1000, [.ref p0, .ref w1, .ref w3], rfl, S117.D, S117.L, 3, rfl, by decide, ?_⟩
    refine ⟨rfl, _, rfl, iteFb (by decide +kernel) ?_⟩
    refine ⟨_, rfl, a, dx, _, rfl, S117.D, by rfl, ?_⟩
    refine ⟨by show 2 ≤ sizeLine; decide, fun u18 nu18 => ?_⟩
    have g18 := Gr.new (W := []) (o := .tup [.int 1, .int 5000]) nu18
    have e18 : (upd J17 u18 (.tup [.int 1, .int 5000])) u18 = some (.tup [.int 1, .int 5000]) := upd_same
    have x18 : u18 ≠ l := (ne_of_none S117.L nu18).symm
    have S118 := S117.gr g18
    have t118 := tabsGr t117 g18
    generalize upd J17 u18 (.tup [.int 1, .int 5000]) = J18 at g18 e18 S118 t118  ⊢
    have e20 := S118.P
    refine ⟨a, dx, l, w6, u18, 1000, 1, 5000, 1, 5000, [.ref p0, .ref w1, .ref w3], rfl, S118.D, S118.L, S118.P, e18, by show 3 ≤ 5000; decide, S118.fr, ⟨by decide, by decide, by decide +kernel⟩, by decide +kernel, fun w19 nw19 => ?_⟩
    rw [show lw (1 * 5000 + 1 * 5000) (5000 * 5000) = (1, 2500) by decide +kernel]
    obtain ⟨Sn19, km19⟩ := S118.mv (q := (1, 2500)) nw19 ⟨⟨by decide, by decide, by decide, by decide⟩, by decide, by decide +kernel⟩ (by show 3 < 1000; decide)
    have S119 : Dl T _ a dx l w19 1000 1 2500 [.ref p0, .ref w1, .ref w3, .ref w6] := Sn19
    clear Sn19
    have t119 := tabs_mv S118 t118 km19
    have e18 := km19 _ _ e18 (ne_of e18 S118.D (fun z => by cases z)) (ne_of e18 S118.L (fun z => by cases z))
    have e20 := km19 _ _ e20 (ne_of e20 S118.D (fun z => by cases z)) (ne_of e20 S118.L (fun z => by cases z))
    generalize mvH T J18 a dx l w6 w19 1000 [.ref p0, .ref w1, .ref w3] (1, 2500) = J19 at km19 S119 t119 e18 e20 ⊢
    have e22 := S119.P
    refine ⟨_, rfl, a, dx, _, rfl, S119.D, by rfl, ?_⟩
    refine ⟨10, 30, rfl, rfl, ⟨by decide, by decide, by decide⟩, ?_⟩
    dsimp only
    rw [hZ]
    refine ⟨a, dx, l, w19, 1000, 1, 2500, Z, [.ref p0, .ref w1, .ref w3, .ref w6], rfl, S119.D, S119.L, S119.P, by show 4 ≤ 5000; decide, S119.fr, Nat.le_of_eq eZ, fun w21 nw21 => ?_⟩
    rw [rem_zeroK (by rw [eZ]; decide : 2 ≤ Z), show lw 0 2500 = (0, 1) by decide +kernel]
    obtain ⟨Sn21, km21⟩ := S119.mv (q := (0, 1)) nw21 ⟨⟨by decide, by decide, by decide, by decide⟩, by decide, by decide +kernel⟩ (by show 4 < 1000; decide)
    have S121 : Dl T _ a dx l w21 1000 0 1 [.ref p0, .ref w1, .ref w3, .ref w6, .ref w19] := Sn21
    clear Sn21
    have t121 := tabs_mv S119 t119 km21
    have e18 := km21 _ _ e18 (ne_of e18 S119.D (fun z => by cases z)) (ne_of e18 S119.L (fun z => by cases z))
    have e20 := km21 _ _ e20 (ne_of e20 S119.D (fun z => by cases z)) (ne_of e20 S119.L (fun z => by cases z))
    have e22 := km21 _ _ e22 (ne_of e22 S119.D (fun z => by cases z)) (ne_of e22 S119.L (fun z => by cases z))
    generalize mvH T J19 a dx l w19 w21 1000 [.ref p0, .ref w1, .ref w3, .ref w6] (0, 1) = J21 at km21 S121 t121 e18 e20 e22 ⊢
    have e24 := S121.P
    refine ⟨_, rfl, a, dx, _, rfl, S121.D, by rfl, ?_⟩
    refine ⟨10, 30, rfl, rfl, ⟨by decide, by decide, by decide⟩, ?_⟩
    dsimp only
    rw [hZ]
    refine ⟨a, dx, l, w21, 1000, 0, 1, Z, [.ref p0, .ref w1, .ref w3, .ref w6, .ref w19], rfl, S121.D, S121.L, S121.P, by show 5 ≤ 5000; decide, S121.fr, Nat.le_of_eq eZ, fun w23 nw23 => ?_⟩
    rw [Nat.zero_mul, show lw 0 1 = (0, 1) by decide +kernel]
    obtain ⟨Sn23, km23⟩ := S121.mv (q := (0, 1)) nw23 ⟨⟨by decide, by decide, by decide, by decide⟩, by decide, by decide +kernel⟩ (by show 5 < 1000; decide)
    have S123 : Dl T _ a dx l w23 1000 0 1 [.ref p0, .ref w1, .ref w3, .ref w6, .ref w19, .ref w21] := Sn23
    clear Sn23
    have t123 := tabs_mv S121 t121 km23
    have e18 := km23 _ _ e18 (ne_of e18 S121.D (fun z => by cases z)) (ne_of e18 S121.L (fun z => by cases z))
    have e20 := km23 _ _ e20 (ne_of e20 S121.D (fun z => by cases z)) (ne_of e20 S121.L (fun z => by cases z))
    have e22 := km23 _ _ e22 (ne_of e22 S121.D (fun z => by cases z)) (ne_of e22 S121.L (fun z => by cases z))
    have e24 := km23 _ _ e24 (ne_of e24 S121.D (fun z => by cases z)) (ne_of e24 S121.L (fun z => by cases z))
    generalize mvH T J21 a dx l w21 w23 1000 [.ref p0, .ref w1, .ref w3, .ref w6, .ref w19] (0, 1) = J23 at km23 S123 t123 e18 e20 e22 e24 ⊢
    have e26 := S123.P
    refine ⟨_, rfl, a, dx, _, rfl, S123.D, by rfl, ?_⟩
    refine ⟨a, dx, l, w23, 1000, 0, 1, 0, [.ref p0, .ref w1, .ref w3, .ref w6, .ref w19, .ref w21], rfl, S123.D, S123.L, S123.P, by show 6 ≤ 5000; decide, S123.fr, by decide, fun w25 nw25 => ?_⟩
    rw [show lw (0 * 0) 1 = (0, 1) by decide +kernel]
    obtain ⟨Sn25, km25⟩ := S123.mv (q := (0, 1)) nw25 ⟨⟨by decide, by decide, by decide, by decide⟩, by decide, by decide +kernel⟩ (by show 6 < 1000; decide)
    have S125 : Dl T _ a dx l w25 1000 0 1 [.ref p0, .ref w1, .ref w3, .ref w6, .ref w19, .ref w21, .ref w23] := Sn25
    clear Sn25
    have t125 := tabs_mv S123 t123 km25
    have e18 := km25 _ _ e18 (ne_of e18 S123.D (fun z => by cases z)) (ne_of e18 S123.L (fun z => by cases z))
    have e20 := km25 _ _ e20 (ne_of e20 S123.D (fun z => by cases z)) (ne_of e20 S123.L (fun z => by cases z))
    have e22 := km25 _ _ e22 (ne_of e22 S123.D (fun z => by cases z)) (ne_of e22 S123.L (fun z => by cases z))
    have e24 := km25 _ _ e24 (ne_of e24 S123.D (fun z => by cases z)) (ne_of e24 S123.L (fun z => by cases z))
    have e26 := km25 _ _ e26 (ne_of e26 S123.D (fun z => by cases z)) (ne_of e26 S123.L (fun z => by cases z))
    generalize mvH T J23 a dx l w23 w25 1000 [.ref p0, .ref w1, .ref w3, .ref w6, .ref w19, .ref w21] (0, 1) = J25 at km25 S125 t125 e18 e20 e22 e24 e26 ⊢
    have e28 := S125.P
    refine ⟨_, rfl, a, dx, _, rfl, S125.D, by rfl, ?_⟩
    refine ⟨a, dx, l, w25, 1000, 0, 1, 0, [.ref p0, .ref w1, .ref w3, .ref w6, .ref w19, .ref w21, .ref w23], rfl, S125.D, S125.L, S125.P, by show 7 ≤ 5000; decide, S125.fr, by decide, fun w27 nw27 => ?_⟩
    rw [show lw (rem 1000 1 0 0) 1 = (0, 1) by decide +kernel]
    obtain ⟨Sn27, km27⟩ := S125.mv (q := (0, 1)) nw27 ⟨⟨by decide, by decide, by decide, by decide⟩, by decide, by decide +kernel⟩ (by show 7 < 1000; decide)
    have S127 : Dl T _ a dx l w27 1000 0 1 [.ref p0, .ref w1, .ref w3, .ref w6, .ref w19, .ref w21, .ref w23, .ref w25] := Sn27
    clear Sn27
    have t127 := tabs_mv S125 t125 km27
    have e18 := km27 _ _ e18 (ne_of e18 S125.D (fun z => by cases z)) (ne_of e18 S125.L (fun z => by cases z))
    have e20 := km27 _ _ e20 (ne_of e20 S125.D (fun z => by cases z)) (ne_of e20 S125.L (fun z => by cases z))
    have e22 := km27 _ _ e22 (ne_of e22 S125.D (fun z => by cases z)) (ne_of e22 S125.L (fun z => by cases z))
    have e24 := km27 _ _ e24 (ne_of e24 S125.D (fun z => by cases z)) (ne_of e24 S125.L (fun z => by cases z))
    have e26 := km27 _ _ e26 (ne_of e26 S125.D (fun z => by cases z)) (ne_of e26 S125.L (fun z => by cases z))
    have e28 := km27 _ _ e28 (ne_of e28 S125.D (fun z => by cases z)) (ne_of e28 S125.L (fun z => by cases z))
    generalize mvH T J25 a dx l w25 w27 1000 [.ref p0, .ref w1, .ref w3, .ref w6, .ref w19, .ref w21, .ref w23] (0, 1) = J27 at km27 S127 t127 e18 e20 e22 e24 e26 e28 ⊢
    refine ⟨_, rfl, a, rfl, ?_⟩
    refine ⟨10, 30, rfl, rfl, ⟨by decide, by decide, by decide⟩, ?_⟩
    dsimp only
    rw [hZ]
    refine ⟨⟨dx, _, S127.D⟩, a, dx, l, w27, 1000, 0, 1, Z, rfl, S127.D, S127.P, S127.fr, Nat.le_of_eq eZ, ?_⟩
    rw [show rem 1000 1 0 Z = 0 from Nat.mod_one _]
    refine ⟨by show 6 ≤ sizeLine; decide, fun u29 nu29 => ?_⟩
    have g29 := Gr.new (W := []) (o := .lst [.non, .non, .non, .non, .non, .int ((0 * 1000 / 1 : Nat) : Int)]) nu29
    have e29 : (upd J27 u29 (.lst [.non, .non, .non, .non, .non, .int ((0 * 1000 / 1 : Nat) : Int)])) u29 = some (.lst [.non, .non, .non, .non, .non, .int ((0 * 1000 / 1 : Nat) : Int)]) := upd_same
    have x29 : u29 ≠ l := (ne_of_none S127.L nu29).symm
    have S129 := S127.gr g29
    have t129 := tabsGr t127 g29
    have e18 := g29 _ _ (by simp) e18
    have e20 := g29 _ _ (by simp) e20
    have e22 := g29 _ _ (by simp) e22
    have e24 := g29 _ _ (by simp) e24
    have e26 := g29 _ _ (by simp) e26
    have e28 := g29 _ _ (by simp) e28
    generalize upd J27 u29 (.lst [.non, .non, .non, .non, .non, .int ((0 * 1000 / 1 : Nat) : Int)]) = J29 at g29 e29 S129 t129 e18 e20 e22 e24 e26 e28 ⊢
    refine ⟨_, rfl, ?_⟩
    refine ⟨by show 6 ≤ sizeLine; decide, fun u30 nu30 => ?_⟩
    have g30 := Gr.new (W := []) (o := .lst [.non, .non, .non, .non, .non, .int 0]) nu30
    have e30 : (upd J29 u30 (.lst [.non, .non, .non, .non, .non, .int 0])) u30 = some (.lst [.non, .non, .non, .non, .non, .int 0]) := upd_same
    have x30 : u30 ≠ l := (ne_of_none S129.L nu30).symm
    have S130 := S129.gr g30
    have t130 := tabsGr t129 g30
    have e18 := g30 _ _ (by simp) e18
    have e20 := g30 _ _ (by simp) e20
    have e22 := g30 _ _ (by simp) e22
    have e24 := g30 _ _ (by simp) e24
    have e26 := g30 _ _ (by simp) e26
    have e28 := g30 _ _ (by simp) e28
    have e29 := g30 _ _ (by simp) e29
    generalize upd J29 u30 (.lst [.non, .non, .non, .non, .non, .int 0]) = J30 at g30 e30 S130 t130 e18 e20 e22 e24 e26 e28 e29 ⊢
    refine ⟨.list [.none, .none, .none, .none, .none, .int ((0 * 1000 / 1 : Nat) : Int)], .list [.none, .none, .none, .none, .none, .int 0], dp_lst e29 (.cons .non (.cons .non (.cons .non (.cons .non (.cons .non (.cons (.int _) .nil)))))), dp_lst e30 (.cons .non (.cons .non (.cons .non (.cons .non (.cons .non (.cons (.int _) .nil)))))), by decide +kernel, by decide +kernel, ?_⟩
    refine ⟨_, rfl, iteTb (by decide +kernel) ?_⟩
    refine ⟨_, rfl, a, dx, _, rfl, S130.D, a, dx, l, w27, 1000, rfl, S130.D, ?_⟩
    refine ⟨by show 2 ≤ sizeLine; decide, fun u31 nu31 => ?_⟩
    have g31 := Gr.new (W := []) (o := .tup [.int 0, .int 1]) nu31
    have e31 : (upd J30 u31 (.tup [.int 0, .int 1])) u31 = some (.tup [.int 0, .int 1]) := upd_same
    have x31 : u31 ≠ l := (ne_of_none S130.L nu31).symm
    have S131 := S130.gr g31
    have t131 := tabsGr t130 g31
    have e18 := g31 _ _ (by simp) e18
    have e20 := g31 _ _ (by simp) e20
    have e22 := g31 _ _ (by simp) e22
    have e24 := g31 _ _ (by simp) e24
    have e26 := g31 _ _ (by simp) e26
    have e28 := g31 _ _ (by simp) e28
    have e29 := g31 _ _ (by simp) e29
    have e30 := g31 _ _ (by simp) e30
    generalize upd J30 u31 (.tup [.int 0, .int 1]) = J31 at g31 e31 S131 t131 e18 e20 e22 e24 e26 e28 e29 e30 ⊢
    refine ⟨qD (0, 1), qD (0, 1), dp_tup S131.P (.cons (.int _) (.cons (.int _) .nil)), dp_tup e31 (.cons (.int _) (.cons (.int _) .nil)), by decide +kernel, by decide +kernel, ?_⟩
    refine ⟨_, rfl, iteTb (by decide +kernel) ?_⟩
    refine ⟨_, rfl, a, dx, l, w27, 1000, 0, 1, [.ref p0, .ref w1, .ref w3, .ref w6, .ref w19, .ref w21, .ref w23, .ref w25], rfl, S131, t131, fun HZ eZ2 tZ => ?_⟩
    exact q _ tZ

end
end Wn
namespace Wn
open PySem PySem.Spec PyProof.Rows L2
open LamX (Tabs ExtN tLam)
local macro_rules | `(tactic| walk_at "vc") => `(tactic| simp only [cxK, cxK2, start1, start2, start3, tRet, tRetN, tSeq, tNext, tIfS, tAsg, gName, tDrop, tVar, tC, tOp, tUn, tTest, tB, tNot, tAnd, tOr, tAndV, tOrV, tNotV, tIf, tCons, tNil, tCB, tCall, tChain, tAug, ipI, rI, rI0, rU, rIs, rGcd, rEq, rNe, scal,
  List.getElem?_cons_zero, List.getElem?_cons_succ, List.set_cons_zero, List.set_cons_succ, Option.some.injEq, List.cons.injEq, V.int.injEq, V.bl.injEq, V.ref.injEq, V.str.injEq, and_true, true_and, exists_eq_left, exists_eq_left', exists_and_left, exists_and_right, List.append_nil, List.nil_append, List.cons_append, exists_eq_right, exists_eq_right', and_assoc, exists_const, V.ty.injEq, ↓reduceIte, Bool.false_eq_true, Bool.not_true, Bool.not_false, decide_eq_true_eq])

section
variable {P : Program} {w : World} {K : PySem.W.Frag} {mg : Str → Option Value} {base : Heap}
def sp_law_after : Sp := fun vs H Q _ => ∃ (b x n far : Nat) (a : Addr), vs = [.int b, .ref a, .int far] ∧ H a = some (.tup [.int x, .int n]) ∧ FR b x n ∧ ∀ t H', Gr [] H H' → H' t = some (pv2 (lw (rem b n x far) n)) → Q (.ref t) H'
theorem par_modL {b n p q h L x : Nat} (P : Par b n p q h L) (hn : 1 ≤ n) (hg : Nat.gcd x n = 1) {far : Nat} (hf : h ≤ far) : rem b n x (h + (far - h) % L) = rem b n x far := by
  have hL := P.hL.1
  have e := Nat.div_add_mod (far - h) L
  rcases Nat.eq_zero_or_pos ((far - h) / L) with z | z
  · rw [z, Nat.mul_zero, Nat.zero_add] at e
    rw [e, show h + (far - h) = far by omega]
  · have hlt : L * 1 ≤ L * ((far - h) / L) := Nat.mul_le_mul_left _ z
    refine (rem_eq hg P.e P.hp.1 (P.gq hn) P.hh P.hL (by omega)).mpr ⟨by omega, ?_⟩
    rw [show far - (h + (far - h) % L) = L * ((far - h) / L) by omega]
    exact Nat.dvd_mul_right _ _
def sp_law_deal (T : Txt K mg) : Sp := fun vs H Q _ => ∃ (dm c a dx l f p : Addr) (k b x n : Nat) (past fv : List V) (ps : List (Nat × Nat)), vs = [.ref dm, .ref a, .ref f] ∧ St T H dm c a dx l f p k b x n past fv ps ∧ k + 50 ≤ 900000000 ∧ ps.length < 900 ∧
  ∀ H' p' k' x' n' past' fv' ps', St T H' dm c a dx l f p' k' b x' n' past' fv' ps' → ps'.length = ps.length + 1 → k' ≤ k + 20 → Q (.bl true) H'
theorem FR.lw {b x n y N : Nat} (F : FR b x n) (hN : 1 ≤ N) (h5 : (lw y N).2 ≤ 5000) : FR b (lw y N).1 (lw y N).2 := by
  obtain ⟨h1, h2, h3, h4⟩ := lw_ok (x := y) hN
  exact ⟨⟨F.1.1, F.1.2.1, h2, h5⟩, h1, h4⟩
theorem ok_law_after (T : Txt K mg) : FnOk P w K mg base CX0 3 T.d_law_after.f T.d_law_after.fd ["b", "part", "far"] sp_law_after := by
  refine T.d_law_after.F.ok sc_law_after (fun vs H Q E h => ?_) (fun cdv A outer s H vs Q E hr h => ?_)
  · obtain ⟨b, x, n, far, a, rfl, _⟩ := h; rfl
  · have hu := hu_of hr
    refine ⟨_, (pss_cons (ps_asg (pe_call (ok_law_ring T) (hr.mono (by decide)) (by rfl) T.d_law_ring.m T.d_law_ring.F.kp T.d_law_ring.b .nil pass0 (pa_cons (pv 0) (pa_cons (pv 1) pa_nil))) (pg_tup (by rfl) (pgs_cons (pg_name (i := 3) sc_law_after.nd rfl (by first | exact .inl rfl | exact .inr rfl)) (pgs_cons (pg_name (i := 4) sc_law_after.nd rfl (by first | exact .inl rfl | exact .inr rfl)) pgs_nil))))
      (pss_cons (ps_if (pt_cmpR op_ge (pv 2) (pe_callB (r := rLn K) call_ln (by rfl) T.b_len PySem.boot_len (pa_cons (pv 3) pa_nil)) (nomark _)) (pss_one (ps_set (i := 2) sc_law_after.nd rfl (by first | exact .inl rfl | exact .inr rfl) (pe_op op_add (pv 4) (pe_op op_mod (pe_callTy call_int1 (by rfl) T.b_int (by decide +kernel) (pa_cons (pe_op op_sub (pv 2) (pv 4)) pa_nil)) (pe_op op_sub (pe_callB (r := rLn K) call_ln (by rfl) T.b_len PySem.boot_len (pa_cons (pv 3) pa_nil)) (pv 4)))))) pss_nil)
      (pss_one (ps_ret (pe_call (ok_law_lowest T) (hr.mono (by decide)) (by rfl) T.d_law_lowest.m T.d_law_lowest.F.kp T.d_law_lowest.b .nil pass0 (pa_cons (pe_ix (r := rIxL K) ix_list (pv 3) (pv 2) (fun _ _ => rfl)) (pa_cons (pe_ix (r := rIxT K) ix_tup (pv 1) pe_int (fun _ _ => rfl)) pa_nil))))))), ?_⟩
    obtain ⟨b, x, n, far, a, rfl, ha, hf, q⟩ := h
    obtain ⟨⟨hb1, hb2, hn1, hn2⟩, hx, hg⟩ := id hf
    refine ⟨_, rfl, _, rfl, b, x, n, a, rfl, ha, ⟨hb2, hn2, hx, hg⟩, fun t l H1 p q2 h L P g1 ht hl => ?_⟩
    refine ⟨t, _, rfl, sq_tup ht, rfl, _, _, rfl, _, _, rfl, rfl, ?_⟩
    have ha1 := g1 a _ (by simp) ha
    have hL1 := P.hL.1
    have rl : (rms b n x (h + L)).length = h + L := by unfold rms; simp
    have get : ∀ j, j < h + L → (rms b n x (h + L))[j]? = some (.int (rem b n x j : Nat)) := fun j hj => by
      unfold rms
      rw [List.getElem?_map, List.getElem?_range hj]
      rfl
    refine ⟨_, rfl, _, rfl, l, _, rfl, .inl (sq_lst hl), _, _, rfl, rfl, _, rfl, ?_⟩
    rw [rl]
    by_cases hfar : h + L ≤ far
    case neg =>
      refine iteFb (decide_eq_false (by omega)) ?_
      refine ⟨_, rfl, _, rfl, l, _, (far : Int), _, rfl, rfl, sq_lst hl, atI_nat (get far (by omega)), _, rfl, a, _, 1, .int n, rfl, rfl, sq_tup ha1, atI_nat (j := 1) rfl, _, n, rfl, ⟨hn1, by omega⟩, fun t' nt => ?_⟩
      exact q t' _ (g1.trans (Gr.new nt)) upd_same
    case pos =>
    refine iteTb (decide_eq_true (by omega)) ?_
    refine ⟨_, rfl, _, rfl, _, rfl, _, _, rfl, rfl, .inl ⟨_, rfl, ?_⟩⟩
    refine ⟨_, rfl, l, _, rfl, .inl (sq_lst hl), _, rfl, _, _, rfl, rfl, _, _, rfl, rfl, ?_, _, _, rfl, rfl, ?_⟩
    · rw [rl]
      show (0 : Int) < ((h + L : Nat) : Int) - (h : Int)
      omega
    rw [rl]
    have e1 : (h : Int) + ((far : Int) - (h : Int)) % (((h + L : Nat) : Int) - (h : Int)) = ((h + (far - h) % L : Nat) : Int) := by
      rw [show ((h + L : Nat) : Int) - (h : Int) = (L : Int) by omega, show (far : Int) - (h : Int) = ((far - h : Nat) : Int) by omega, ← Int.natCast_emod]
      omega
    dsimp only
    rw [e1]
    have hm : (far - h) % L < L := Nat.mod_lt _ (by omega)
    refine ⟨_, rfl, _, rfl, l, _, _, _, rfl, rfl, sq_lst hl, atI_nat (get (h + (far - h) % L) (by omega)), _, rfl, a, _, 1, .int n, rfl, rfl, sq_tup ha1, atI_nat (j := 1) rfl, _, n, rfl, ⟨hn1, by omega⟩, fun t' nt => ?_⟩
    rw [par_modL P hn1 hg (by omega)]
    exact q t' _ (g1.trans (Gr.new nt)) upd_same
theorem ok_law_deal (T : Txt K mg) : FnOk P w K mg base CX0 11 T.d_law_deal.f T.d_law_deal.fd ["m", "live", "film"] (sp_law_deal T) := by
  refine T.d_law_deal.F.ok sc_law_deal (fun vs H Q E h => ?_) (fun cdv A outer s H vs Q E hr h => ?_)
  · obtain ⟨dm, c, a, dx, l, f, p, k, b, x, n, past, fv, ps, rfl, _⟩ := h; rfl
  · have hu := hu_of hr
    refine ⟨_, (pss_cons (ps_par3 (i := 3) (j := 4) (l := 5) (by rfl) sc_law_deal.nd rfl rfl rfl (by decide) (by decide) (by decide) rfl rfl rfl (pa_cons (pe_ix (r := rIxL K) ix_list (pv 2) pe_int (fun _ _ => rfl)) (pa_cons (pe_ix (r := rIxL K) ix_list (pv 2) (pe_un un_neg pe_int) (fun _ _ => rfl)) (pa_cons (pe_call (okC_law_draw T) (hr.mono (by decide)) (by rfl) T.d_law_draw.m T.d_law_draw.F.kp T.d_law_draw.b .nil pass0 (pa_cons (pv 0) (pa_cons pe_int pa_nil))) pa_nil))) (by rfl))
      (pss_cons (ps_if (pt_cmpR op_eq (pv 5) pe_int (nomark _)) (pss_cons (ps_set (i := 6) sc_law_deal.nd rfl (by first | exact .inl rfl | exact .inr rfl) (pe_call (okC_law_of T) (hr.mono (by decide)) (by rfl) T.d_law_of.m T.d_law_of.F.kp T.d_law_of.b .nil pass0 (pa_cons (pv 0) (pa_cons (pe_lst (pa_cons pe_int (pa_cons pe_int (pa_cons pe_int (pa_cons (pe_call (okC_law_draw T) (hr.mono (by decide)) (by rfl) T.d_law_draw.m T.d_law_draw.F.kp T.d_law_draw.b .nil pass0 (pa_cons (pv 0) (pa_cons pe_int pa_nil))) (pa_cons (pe_op op_sub (pe_op op_pow pe_int pe_int) (pe_call (okC_law_draw T) (hr.mono (by decide)) (by rfl) T.d_law_draw.m T.d_law_draw.F.kp T.d_law_draw.b .nil pass0 (pa_cons (pv 0) (pa_cons pe_int pa_nil)))) pa_nil)))))) pa_nil))))
      (pss_cons (ps_expr (pe_bm PySem.F.plainAttrs_list PySem.F.slot_list_append PySem.F.type_list_append mt_append (pv 2) (pa_cons (pe_call (ok_law_after T) (hr.mono (by decide)) (by rfl) T.d_law_after.m T.d_law_after.F.kp T.d_law_after.b .nil pass0 (pa_cons (pv 3) (pa_cons (pv 4) (pa_cons (pv 6) pa_nil)))) pa_nil)))
      (pss_one (ps_ret (pe_cmpR op_isN (pe_meth (pv 1) T.cl_Dial T.me_Dial_turn (ok_Dial_turn T) (hr.mono (by decide)) T.b_Dial_turn .nil pass0 (pa_cons (pv 6) pa_nil)) pe_non (nomark _)))))) pss_nil)
      (pss_cons (ps_if (pt_cmpR op_eq (pv 5) pe_int (nomark _)) (pss_cons (ps_set (i := 7) sc_law_deal.nd rfl (by first | exact .inl rfl | exact .inr rfl) (pe_call (okC_law_of T) (hr.mono (by decide)) (by rfl) T.d_law_of.m T.d_law_of.F.kp T.d_law_of.b .nil pass0 (pa_cons (pv 0) (pa_cons (pe_lst (pa_cons pe_int (pa_cons pe_int (pa_cons pe_int (pa_cons (pe_call (okC_law_draw T) (hr.mono (by decide)) (by rfl) T.d_law_draw.m T.d_law_draw.F.kp T.d_law_draw.b .nil pass0 (pa_cons (pv 0) (pa_cons pe_int pa_nil))) (pa_cons (pe_op op_sub (pe_op op_pow pe_int pe_int) (pe_call (okC_law_draw T) (hr.mono (by decide)) (by rfl) T.d_law_draw.m T.d_law_draw.F.kp T.d_law_draw.b .nil pass0 (pa_cons (pv 0) (pa_cons pe_int pa_nil)))) pa_nil)))))) pa_nil))))
      (pss_cons (ps_expr (pe_bm PySem.F.plainAttrs_list PySem.F.slot_list_append PySem.F.type_list_append mt_append (pv 2) (pa_cons (pe_call (ok_law_lowest T) (hr.mono (by decide)) (by rfl) T.d_law_lowest.m T.d_law_lowest.F.kp T.d_law_lowest.b .nil pass0 (pa_cons (pe_op op_mul (pe_ix (r := rIxT K) ix_tup (pv 4) pe_int (fun _ _ => rfl)) (pv 7)) (pa_cons (pe_ix (r := rIxT K) ix_tup (pv 4) pe_int (fun _ _ => rfl)) pa_nil))) pa_nil)))
      (pss_one (ps_ret (pe_cmpR op_isN (pe_meth (pv 1) T.cl_Dial T.me_Dial_scale (ok_Dial_scale T) (hr.mono (by decide)) T.b_Dial_scale .nil pass0 (pa_cons (pv 7) pa_nil)) pe_non (nomark _)))))) pss_nil)
      (pss_cons (ps_set (i := 8) sc_law_deal.nd rfl (by first | exact .inl rfl | exact .inr rfl) (pe_call (okC_law_part T) (hr.mono (by decide)) (by rfl) T.d_law_part.m T.d_law_part.F.kp T.d_law_part.b .nil pass0 (pa_cons (pv 0) (pa_cons pe_int pa_nil))))
      (pss_cons (ps_set (i := 9) sc_law_deal.nd rfl (by first | exact .inl rfl | exact .inr rfl) (pe_call (ok_law_lowest T) (hr.mono (by decide)) (by rfl) T.d_law_lowest.m T.d_law_lowest.F.kp T.d_law_lowest.b .nil pass0 (pa_cons (pe_op op_add (pe_op op_mul (pe_ix (r := rIxT K) ix_tup (pv 4) pe_int (fun _ _ => rfl)) (pe_ix (r := rIxT K) ix_tup (pv 8) pe_int (fun _ _ => rfl))) (pe_op op_mul (pe_ix (r := rIxT K) ix_tup (pv 8) pe_int (fun _ _ => rfl)) (pe_ix (r := rIxT K) ix_tup (pv 4) pe_int (fun _ _ => rfl)))) (pa_cons (pe_op op_mul (pe_ix (r := rIxT K) ix_tup (pv 4) pe_int (fun _ _ => rfl)) (pe_ix (r := rIxT K) ix_tup (pv 8) pe_int (fun _ _ => rfl))) pa_nil))))
      (pss_cons (ps_if (pt_cmpR op_gt (pe_ix (r := rIxT K) ix_tup (pv 9) pe_int (fun _ _ => rfl)) pe_int (nomark _)) (pss_cons (ps_expr (pe_bm PySem.F.plainAttrs_list PySem.F.slot_list_append PySem.F.type_list_append mt_append (pv 2) (pa_cons (pe_call (ok_law_lowest T) (hr.mono (by decide)) (by rfl) T.d_law_lowest.m T.d_law_lowest.F.kp T.d_law_lowest.b .nil pass0 (pa_cons (pe_op op_mul (pe_ix (r := rIxT K) ix_tup (pv 4) pe_int (fun _ _ => rfl)) pe_int) (pa_cons (pe_ix (r := rIxT K) ix_tup (pv 4) pe_int (fun _ _ => rfl)) pa_nil))) pa_nil)))
      (pss_one (ps_ret (pe_cmpR op_isN (pe_meth (pv 1) T.cl_Dial T.me_Dial_scale (ok_Dial_scale T) (hr.mono (by decide)) T.b_Dial_scale .nil pass0 (pa_cons pe_int pa_nil)) pe_non (nomark _))))) pss_nil)
      (pss_cons (ps_expr (pe_bm PySem.F.plainAttrs_list PySem.F.slot_list_append PySem.F.type_list_append mt_append (pv 2) (pa_cons (pv 9) pa_nil)))
      (pss_one (ps_ret (pe_cmpR op_isN (pe_meth (pv 1) T.cl_Dial T.me_Dial_add (ok_Dial_add T) (hr.mono (by decide)) T.b_Dial_add .nil pass0 (pa_cons (pv 8) pa_nil)) pe_non (nomark _))))))))))), ?_⟩
    obtain ⟨dm, c, a, dx, l, f, p, k, b, x, n, past, fv, ps, rfl, S, hk, hs, q⟩ := h
    obtain ⟨⟨hb1, hb2, hn1, hn2⟩, hx, hg⟩ := id S.fr
    obtain ⟨fv', t0, efv, ht0⟩ := S.fl.last
    have F0 := S.F
    rw [efv] at F0
    refine ⟨_, rfl, f, _, 0, .int b, rfl, rfl, sq_lst F0, atI_nat (j := 0) rfl, ?_⟩
    refine ⟨_, rfl, 1, rfl, f, _, (-1 : Int), .ref t0, rfl, rfl, sq_lst F0, atI_last (V.int (b : Nat) :: fv') (.ref t0), ?_⟩
    refine ⟨_, rfl, dm, c, 4, k, rfl, S.M, ⟨by omega, by omega, by omega⟩, fun way H1 hw g1 M1 => ?_⟩
    have ht1 := g1 t0 _ (S.off ht0 (fun _ z => by cases z)) ht0
    have S1 := S.drw g1 M1
    refine ⟨_, _, _, rfl, ?_⟩
    obtain ⟨Z, eZ⟩ : ∃ Z : Nat, Z = 10 ^ 30 := ⟨_, rfl⟩
    have hZ : (10 : Int) ^ (30 : Int).toNat = (Z : Int) := by rw [eZ]; decide +kernel
    have lwle : ∀ y, (lw y n).2 ≤ 5000 := fun y => Nat.le_trans (lw_ok (x := y) hn1).2.2.1 hn2
    refine ⟨_, rfl, rfl, _, rfl, ?_⟩
    by_cases w0 : way = 0
    case pos =>
      refine iteTb (decide_eq_true (by rw [w0]; rfl)) ?_
      refine ⟨_, rfl, _, rfl, dm, c, 40, k + 1, rfl, M1, ⟨by omega, by omega, by omega⟩, fun r1 H2 hr1 g2 M2 => ?_⟩
      refine ⟨10, 30, rfl, rfl, ⟨by decide, by decide, by decide⟩, _, rfl, dm, c, 9, k + 2, rfl, M2, ⟨by omega, by omega, by omega⟩, fun r2 H3 hr2 g3 M3 => ?_⟩
      refine ⟨_, _, rfl, rfl, ?_⟩
      dsimp only
      rw [hZ, show (Z : Int) - (r2 : Int) = ((Z - r2 : Nat) : Int) by omega]
      refine ⟨by show 5 ≤ sizeLine; decide, fun lp nlp => ?_⟩
      have g4 := Gr.new (W := []) (o := .lst [.int 0, .int 1, .int 2, .int (r1 : Nat), .int ((Z - r2 : Nat) : Int)]) nlp
      refine ⟨dm, c, lp, k + 3, _, rfl, M3.gr g4, upd_same, ⟨by simp, by show 5 ≤ 100000; decide, by omega⟩, fun v H5 hv g5 M5 => ?_⟩
      obtain ⟨fr, rfl, hfr⟩ : ∃ fr : Nat, v = .int (fr : Nat) ∧ fr ≤ 10 ^ 30 := by
        rw [← eZ]
        simp only [List.mem_cons, List.not_mem_nil, or_false] at hv
        rcases hv with rfl | rfl | rfl | rfl | rfl
        · exact ⟨0, rfl, by omega⟩
        · exact ⟨1, rfl, by omega⟩
        · exact ⟨2, rfl, by omega⟩
        · exact ⟨r1, rfl, by omega⟩
        · exact ⟨Z - r2, rfl, by omega⟩
      have S5 := (((S1.drw g2 M2).drw g3 M3).gr g4).drw g5 M5
      have ht5 : H5 t0 = some (pv2 (x, n)) := by
        have z1 := g2 t0 _ (S1.off ht1 (fun _ z => by cases z)) ht1
        have z2 := g3 t0 _ ((S1.drw g2 M2).off z1 (fun _ z => by cases z)) z1
        have z3 := g4 t0 _ (by simp) z2
        exact g5 t0 _ ((((S1.drw g2 M2).drw g3 M3).gr g4).off z3 (fun _ z => by cases z)) z3
      refine ⟨_, rfl, .inl ⟨rfl, _, sq_lst S5.F⟩, ?_⟩
      refine ⟨_, rfl, _, rfl, _, rfl, b, x, n, fr, t0, rfl, ht5, S5.fr, fun t1 H6 g6 hq1 => ?_⟩
      have S6 := S5.gr g6
      refine ⟨f, _, _, rfl, rfl, S6.F, Nat.lt_of_lt_of_le (show (V.int (b : Nat) :: fv).length < 6000 by rw [List.length_cons, S.fl.len, List.length_append]; show ps.length + 1 + 1 < 6000; omega) (by decide), ?_⟩
      obtain ⟨h1, h2, h3, tk, h4⟩ := S6.fm t1
      refine ⟨_, rfl, a, dx, _, rfl, h1, by rfl, ?_⟩
      refine ⟨_, rfl, a, dx, l, p, b, x, n, fr, past, rfl, h1, h2, h3, (show past.length ≤ 5000 by rw [S.pl.len]; omega), S6.fr, hfr, fun t2 nt2 => ⟨rfl, ?_⟩⟩
      have e0 : decide (V.non = V.non) = true := decide_eq_true rfl
      rw [e0]
      exact q _ t2 _ _ _ _ _ _ (S6.mv hq1 nt2 (S6.fr.lw hn1 (lwle _)) (by omega)) (by rw [List.length_append]; rfl) (by omega)
    case neg =>
    refine iteFb (decide_eq_false (fun z => w0 (by have := V.int.inj z; omega))) ?_
    refine ⟨_, rfl, rfl, _, rfl, ?_⟩
    by_cases w1 : way = 1
    case pos =>
      refine iteTb (decide_eq_true (by rw [w1]; rfl)) ?_
      refine ⟨_, rfl, _, rfl, dm, c, 99, k + 1, rfl, M1, ⟨by omega, by omega, by omega⟩, fun r1 H2 hr1 g2 M2 => ?_⟩
      refine ⟨10, 30, rfl, rfl, ⟨by decide, by decide, by decide⟩, _, rfl, dm, c, 9, k + 2, rfl, M2, ⟨by omega, by omega, by omega⟩, fun r2 H3 hr2 g3 M3 => ?_⟩
      refine ⟨_, _, rfl, rfl, ?_⟩
      dsimp only
      rw [hZ, show (Z : Int) - (r2 : Int) = ((Z - r2 : Nat) : Int) by omega]
      refine ⟨by show 5 ≤ sizeLine; decide, fun lp nlp => ?_⟩
      have g4 := Gr.new (W := []) (o := .lst [.int 0, .int 1, .int 2, .int (r1 : Nat), .int ((Z - r2 : Nat) : Int)]) nlp
      refine ⟨dm, c, lp, k + 3, _, rfl, M3.gr g4, upd_same, ⟨by simp, by show 5 ≤ 100000; decide, by omega⟩, fun v H5 hv g5 M5 => ?_⟩
      obtain ⟨fr, rfl, hfr⟩ : ∃ fr : Nat, v = .int (fr : Nat) ∧ fr ≤ 10 ^ 30 := by
        rw [← eZ]
        simp only [List.mem_cons, List.not_mem_nil, or_false] at hv
        rcases hv with rfl | rfl | rfl | rfl | rfl
        · exact ⟨0, rfl, by omega⟩
        · exact ⟨1, rfl, by omega⟩
        · exact ⟨2, rfl, by omega⟩
        · exact ⟨r1, rfl, by omega⟩
        · exact ⟨Z - r2, rfl, by omega⟩
      have S5 := (((S1.drw g2 M2).drw g3 M3).gr g4).drw g5 M5
      have ht5 : H5 t0 = some (pv2 (x, n)) := by
        have z1 := g2 t0 _ (S1.off ht1 (fun _ z => by cases z)) ht1
        have z2 := g3 t0 _ ((S1.drw g2 M2).off z1 (fun _ z => by cases z)) z1
        have z3 := g4 t0 _ (by simp) z2
        exact g5 t0 _ ((((S1.drw g2 M2).drw g3 M3).gr g4).off z3 (fun _ z => by cases z)) z3
      refine ⟨_, rfl, .inl ⟨rfl, _, sq_lst S5.F⟩, ?_⟩
      refine ⟨_, rfl, t0, _, 0, .int x, rfl, rfl, sq_tup ht5, atI_nat (j := 0) rfl, _, rfl, _, _, rfl, rfl, .inl ⟨by omega, by omega⟩, _, rfl, t0, _, 1, .int n, rfl, rfl, sq_tup ht5, atI_nat (j := 1) rfl, ?_⟩
      dsimp only
      rw [← Int.natCast_mul]
      refine ⟨_, n, rfl, ⟨hn1, by omega⟩, fun t1 nt1 => ?_⟩
      have g6 := Gr.new (W := []) (o := pv2 (lw (x * fr) n)) nt1
      have hq1 : (upd H5 t1 (pv2 (lw (x * fr) n))) t1 = some (pv2 (lw (x * fr) n)) := upd_same
      have S6 := S5.gr g6
      refine ⟨f, _, _, rfl, rfl, S6.F, Nat.lt_of_lt_of_le (show (V.int (b : Nat) :: fv).length < 6000 by rw [List.length_cons, S.fl.len, List.length_append]; show ps.length + 1 + 1 < 6000; omega) (by decide), ?_⟩
      obtain ⟨h1, h2, h3, tk, h4⟩ := S6.fm t1
      refine ⟨_, rfl, a, dx, _, rfl, h1, by rfl, ?_⟩
      refine ⟨_, rfl, a, dx, l, p, b, x, n, fr, past, rfl, h1, h2, h3, (show past.length ≤ 5000 by rw [S.pl.len]; omega), S6.fr, hfr, fun t2 nt2 => ⟨rfl, ?_⟩⟩
      have e0 : decide (V.non = V.non) = true := decide_eq_true rfl
      rw [e0]
      exact q _ t2 _ _ _ _ _ _ (S6.mv hq1 nt2 (S6.fr.lw hn1 (lwle _)) (by omega)) (by rw [List.length_append]; rfl) (by omega)
    case neg =>
    refine iteFb (decide_eq_false (fun z => w1 (by have := V.int.inj z; omega))) ?_
    refine ⟨_, rfl, dm, c, 12, k + 1, rfl, M1, ⟨by omega, by omega, by omega⟩, fun q0 y m H2 hq0 hy hm hgm g2 M2 => ?_⟩
    have S2 := S1.drw g2 M2
    have ht2 := g2 t0 _ (S1.off ht1 (fun _ z => by cases z)) ht1
    have hnm : 1 ≤ n * m := Nat.mul_pos (by omega) (by omega)
    have hnm2 : n * m ≤ 5000 * 12 := Nat.mul_le_mul hn2 hm
    refine ⟨_, rfl, t0, _, 0, .int x, rfl, rfl, sq_tup ht2, atI_nat (j := 0) rfl, _, rfl, q0, _, 1, .int m, rfl, rfl, sq_tup hq0, atI_nat (j := 1) rfl, _, _, rfl, rfl, .inl ⟨by omega, by omega⟩, ?_⟩
    refine ⟨_, rfl, q0, _, 0, .int y, rfl, rfl, sq_tup hq0, atI_nat (j := 0) rfl, _, rfl, t0, _, 1, .int n, rfl, rfl, sq_tup ht2, atI_nat (j := 1) rfl, _, _, rfl, rfl, .inl ⟨by omega, by omega⟩, _, _, rfl, rfl, ?_⟩
    refine ⟨_, rfl, t0, _, 1, .int n, rfl, rfl, sq_tup ht2, atI_nat (j := 1) rfl, _, rfl, q0, _, 1, .int m, rfl, rfl, sq_tup hq0, atI_nat (j := 1) rfl, _, _, rfl, rfl, .inl ⟨by omega, by omega⟩, ?_⟩
    dsimp only
    rw [← Int.natCast_mul, ← Int.natCast_mul, ← Int.natCast_mul, ← Int.natCast_add]
    refine ⟨x * m + y * n, n * m, rfl, ⟨hnm, by omega⟩, fun t1 nt1 => ?_⟩
    have g3 := Gr.new (W := []) (o := pv2 (lw (x * m + y * n) (n * m))) nt1
    have hq1 : (upd H2 t1 (pv2 (lw (x * m + y * n) (n * m)))) t1 = some (pv2 (lw (x * m + y * n) (n * m))) := upd_same
    have S6 := S2.gr g3
    have ht3 := g3 t0 _ (by simp) ht2
    have hq03 := g3 q0 _ (by simp) hq0
    generalize upd H2 t1 (pv2 (lw (x * m + y * n) (n * m))) = H3 at g3 hq1 S6 ht3 hq03 ⊢
    refine ⟨_, rfl, t1, _, 1, .int ((lw (x * m + y * n) (n * m)).2 : Nat), rfl, rfl, sq_tup hq1, atI_nat (j := 1) rfl, _, _, rfl, rfl, _, rfl, ?_⟩
    by_cases h5 : (lw (x * m + y * n) (n * m)).2 ≤ 5000
    case pos =>
      refine iteFb (decide_eq_false (by omega)) ?_
      refine ⟨_, rfl, .inl ⟨rfl, _, sq_lst S6.F⟩, _, rfl, ?_⟩
      refine ⟨f, _, _, rfl, rfl, S6.F, Nat.lt_of_lt_of_le (show (V.int (b : Nat) :: fv).length < 6000 by rw [List.length_cons, S.fl.len, List.length_append]; show ps.length + 1 + 1 < 6000; omega) (by decide), ?_⟩
      obtain ⟨h1, h2, h3, tk, h4⟩ := S6.fm t1
      refine ⟨_, rfl, a, dx, _, rfl, h1, by rfl, ?_⟩
      refine ⟨_, rfl, a, dx, l, p, q0, b, x, n, y, m, past, rfl, h1, h2, h3, tk q0 _ hq03, (show past.length ≤ 5000 by rw [S.pl.len]; omega), S6.fr, ⟨hy, by omega, hgm⟩, h5, fun t2 nt2 => ⟨rfl, ?_⟩⟩
      have e0 : decide (V.non = V.non) = true := decide_eq_true rfl
      rw [e0]
      exact q _ t2 _ _ _ _ _ _ (S6.mv hq1 nt2 (S6.fr.lw hnm h5) (by omega)) (by rw [List.length_append]; rfl) (by omega)
    case neg =>
      refine iteTb (decide_eq_true (by omega)) ?_
      clear hq1 g3
      have S5 := S6
      have ht5 := ht3
      refine ⟨_, rfl, .inl ⟨rfl, _, sq_lst S5.F⟩, ?_⟩
      refine ⟨_, rfl, t0, _, 0, .int x, rfl, rfl, sq_tup ht5, atI_nat (j := 0) rfl, _, _, rfl, rfl, .inl ⟨by omega, by omega⟩, _, rfl, t0, _, 1, .int n, rfl, rfl, sq_tup ht5, atI_nat (j := 1) rfl, ?_⟩
      dsimp only
      rw [show (x : Int) * 3 = ((x * 3 : Nat) : Int) by omega]
      refine ⟨_, n, rfl, ⟨hn1, by omega⟩, fun t1 nt1 => ?_⟩
      have g6 := Gr.new (W := []) (o := pv2 (lw (x * 3) n)) nt1
      have hq1 : (upd H3 t1 (pv2 (lw (x * 3) n))) t1 = some (pv2 (lw (x * 3) n)) := upd_same
      have S6 := S5.gr g6
      refine ⟨f, _, _, rfl, rfl, S6.F, Nat.lt_of_lt_of_le (show (V.int (b : Nat) :: fv).length < 6000 by rw [List.length_cons, S.fl.len, List.length_append]; show ps.length + 1 + 1 < 6000; omega) (by decide), ?_⟩
      obtain ⟨h1, h2, h3, tk, h4⟩ := S6.fm t1
      refine ⟨_, rfl, a, dx, _, rfl, h1, by rfl, ?_⟩
      refine ⟨a, dx, l, p, b, x, n, 3, past, rfl, h1, h2, h3, (show past.length ≤ 5000 by rw [S.pl.len]; omega), S6.fr, (by decide), fun t2 nt2 => ⟨rfl, ?_⟩⟩
      have e0 : decide (V.non = V.non) = true := decide_eq_true rfl
      rw [e0]
      exact q _ t2 _ _ _ _ _ _ (S6.mv hq1 nt2 (S6.fr.lw hn1 (lwle _)) (by omega)) (by rw [List.length_append]; rfl) (by omega)

end
end Wn
namespace Wn
open PySem PySem.Spec PyProof.Rows L2
open LamX (Tabs ExtN tLam)
local macro_rules | `(tactic| walk_at "vc") => `(tactic| simp only [cxK, cxK2, start1, start2, start3, tRet, tRetN, tSeq, tNext, tIfS, tAsg, gName, tDrop, tVar, tC, tOp, tUn, tTest, tB, tNot, tAnd, tOr, tAndV, tOrV, tNotV, tIf, tCons, tNil, tCB, tCall, tChain, tAug, ipI, rI, rI0, rU, rIs, rGcd, rEq, rNe, scal,
  List.getElem?_cons_zero, List.getElem?_cons_succ, List.set_cons_zero, List.set_cons_succ, Option.some.injEq, List.cons.injEq, V.int.injEq, V.bl.injEq, V.ref.injEq, V.str.injEq, and_true, true_and, exists_eq_left, exists_eq_left', exists_and_left, exists_and_right, List.append_nil, List.nil_append, List.cons_append, exists_eq_right, exists_eq_right', and_assoc, exists_const, V.ty.injEq, ↓reduceIte, Bool.false_eq_true, Bool.not_true, Bool.not_false, decide_eq_true_eq])

section
variable {P : Program} {w : World} {K : PySem.W.Frag} {mg : Str → Option Value} {base : Heap}
def sp_law_stands (T : Txt K mg) : Sp := fun vs H Q _ => ∃ (dm c a dx l f p : Addr) (k b x n : Nat) (past fv : List V) (ps : List (Nat × Nat)), vs = [.ref a, .ref f] ∧ St T H dm c a dx l f p k b x n past fv ps ∧ ∀ H', Gr [] H H' → Q (.bl true) H'
theorem sm_q {q : Nat × Nat} (h1 : q.1 ≤ 5000) (h2 : q.2 ≤ 5000) : Sm (qD q) 13 1 2 := by
  refine Sm.tup (W := 0) 2 (fun d hd => ?_) (Nat.le_refl _)
  simp only [List.mem_cons, List.not_mem_nil, or_false] at hd
  rcases hd with rfl | rfl <;> exact Sm.int0 (k := 13) (by decide) (by rw [Int.natAbs_natCast]; omega) (by decide)
theorem sm_n {y : Nat} (h : y ≤ 5000) : Sm (.int (y : Nat)) 13 1 2 := (Sm.int0 (k := 13) (by decide) (by rw [Int.natAbs_natCast]; omega) (by decide) : Sm (.int (y : Nat)) 13 0 0).mono (by decide) (by decide)
theorem okG_law_stands (T : Txt K mg) : FnG P w K mg base CX0 3 T.d_law_stands.f T.d_law_stands.fd ["live", "film"] (sp_law_stands T) := by
  refine fnG0 T.d_law_stands.F sc_law_stands (fun vs H Q E h => ?_) (fun cdv A outer s H vs Q E hgd hr h => ?_)
  · obtain ⟨dm, c, a, dx, l, f, p, k, b, x, n, past, fv, ps, rfl, _⟩ := h; rfl
  · have hu := hu_of hr
    refine ⟨_, (pss_cons (ps_set (i := 2) sc_law_stands.nd rfl (by first | exact .inl rfl | exact .inr rfl) (pe_lst (pa_cons (pe_prop (pv 0) T.cl_Dial T.pr_Dial_base (ok_Dial_base T) (hr.mono (by decide)) T.b_Dial_base .nil pass0 rfl) (pa_cons (pe_prop (pv 0) T.cl_Dial T.pr_Dial_fraction (ok_Dial_fraction T) (hr.mono (by decide)) T.b_Dial_fraction .nil pass0 rfl) (pa_cons (pe_callB (r := rLenO T.C_Dial (sp_Dial_len T)) (call_lenO T.at_Dial_len T.fn_Dial_len (ok_Dial_len T) (hr.mono (by decide)) T.b_Dial_len) (by rfl) T.b_len PySem.boot_len (pa_cons (pv 0) pa_nil)) (pa_cons (pe_prop (pv 0) T.cl_Dial T.pr_Dial_first (ok_Dial_first T) (hr.mono (by decide)) T.b_Dial_first .nil pass0 rfl) (pa_cons (pe_prop (pv 0) T.cl_Dial T.pr_Dial_fraction (ok_Dial_fraction T) (hr.mono (by decide)) T.b_Dial_fraction .nil pass0 rfl) pa_nil)))))))
      (pss_one (ps_ret (pe_cmpR op_eq (pe_callB (r := rRepr K) (call_repr hgd (gu_of hr)) (by rfl) T.b_repr (by decide +kernel) (pa_cons (pv 2) pa_nil)) (pe_callB (r := rRepr K) (call_repr hgd (gu_of hr)) (by rfl) T.b_repr (by decide +kernel) (pa_cons (pe_lst (pa_cons (pe_ix (r := rIxL K) ix_list (pv 1) pe_int (fun _ _ => rfl)) (pa_cons (pe_ix (r := rIxL K) ix_list (pv 1) (pe_un un_neg pe_int) (fun _ _ => rfl)) (pa_cons (pe_op op_sub (pe_callB (r := rLn K) call_ln (by rfl) T.b_len PySem.boot_len (pa_cons (pv 1) pa_nil)) pe_int) (pa_cons (pe_op op_fdiv (pe_op op_mul (pe_ix (r := rIxT K) ix_tup (pe_ix (r := rIxL K) ix_list (pv 1) (pe_un un_neg pe_int) (fun _ _ => rfl)) pe_int (fun _ _ => rfl)) (pe_ix (r := rIxL K) ix_list (pv 1) pe_int (fun _ _ => rfl))) (pe_ix (r := rIxT K) ix_tup (pe_ix (r := rIxL K) ix_list (pv 1) (pe_un un_neg pe_int) (fun _ _ => rfl)) pe_int (fun _ _ => rfl))) (pa_cons (pe_ix (r := rIxL K) ix_list (pv 1) (pe_un un_neg pe_int) (fun _ _ => rfl)) pa_nil)))))) pa_nil)) (nomark _))))), ?_⟩
    obtain ⟨dm, c, a, dx, l, f, p, k, b, x, n, past, fv, ps, rfl, S, q⟩ := h
    obtain ⟨⟨hb1, hb2, hn1, hn2⟩, hx, hg⟩ := id S.fr
    obtain ⟨fv', t0, efv, ht0⟩ := S.fl.last
    have F0 := S.F
    rw [efv] at F0
    have lp := S.pl.len
    have lf : (V.int (b : Nat) :: (fv' ++ [V.ref t0])).length = ps.length + 2 := by
      rw [← efv, List.length_cons, S.fl.len, List.length_append]
      rfl
    have hsz := S.sz
    have hq1 : b * x / n ≤ 5000 := by
      have : b * x / n < b := by
        rw [Nat.div_lt_iff_lt_mul hn1]
        exact Nat.mul_lt_mul_of_pos_left hx (by omega)
      omega
    refine ⟨_, rfl, a, dx, _, rfl, S.D, a, dx, l, p, b, rfl, S.D, ?_⟩
    refine ⟨_, rfl, a, dx, _, rfl, S.D, a, dx, l, p, b, rfl, S.D, ?_⟩
    refine ⟨_, rfl, a, dx, _, rfl, S.D, a, dx, l, p, b, past, rfl, S.D, S.L, past.length, rfl, by omega, ?_⟩
    refine ⟨_, rfl, a, dx, _, rfl, S.D, a, dx, l, p, b, x, n, rfl, S.D, S.P, ⟨hb2, hx, hn2⟩, ?_⟩
    refine ⟨_, rfl, a, dx, _, rfl, S.D, a, dx, l, p, b, rfl, S.D, ?_⟩
    refine ⟨by show 5 ≤ sizeLine; decide, fun p1 np1 => ?_⟩
    rw [lp]
    have g1 := Gr.new (W := []) (o := .lst [.int (b : Nat), .ref p, .int (ps.length : Nat), .int (b * x / n : Nat), .ref p]) np1
    have h1 : (upd H p1 (.lst [.int (b : Nat), .ref p, .int (ps.length : Nat), .int (b * x / n : Nat), .ref p])) p1 = some (.lst [.int (b : Nat), .ref p, .int (ps.length : Nat), .int (b * x / n : Nat), .ref p]) := upd_same
    have S1 := S.gr g1
    have F1 := g1 f _ (by simp) F0
    have ht1 := g1 t0 _ (by simp) ht0
    generalize upd H p1 (.lst [.int (b : Nat), .ref p, .int (ps.length : Nat), .int (b * x / n : Nat), .ref p]) = H1 at g1 h1 S1 F1 ht1 ⊢
    have fD : Fits (.list [.int (b : Nat), qD (x, n), .int (ps.length : Nat), .int (b * x / n : Nat), qD (x, n)]) := ⟨13, 2, 5 * (2 + 1), Sm.lst (D := 1) (W := 2) 5 (fun d hd => by
      simp only [List.mem_cons, List.not_mem_nil, or_false] at hd
      rcases hd with rfl | rfl | rfl | rfl | rfl
      · exact sm_n (by omega)
      · exact sm_q (by show x ≤ 5000; omega) hn2
      · exact sm_n (by omega)
      · exact sm_n hq1
      · exact sm_q (by show x ≤ 5000; omega) hn2) (Nat.le_refl _), by decide, by decide, by decide⟩
    have dq : ∀ {H' : Hp} {t : Addr}, H' t = some (pv2 (x, n)) → Dp K H' (.ref t) (qD (x, n)) := fun h => dp_tup h (.cons (.int _) (.cons (.int _) .nil))
    refine ⟨_, rfl, .ref p1, _, rfl, dp_lst h1 (.cons (.int _) (.cons (dq S1.P) (.cons (.int _) (.cons (.int _) (.cons (dq S1.P) .nil))))), fD, ?_⟩
    have lastA := atI_last (V.int (b : Nat) :: fv') (.ref t0)
    refine ⟨_, rfl, f, _, 0, .int b, rfl, rfl, sq_lst F1, atI_nat (j := 0) rfl, ?_⟩
    refine ⟨_, rfl, 1, rfl, f, _, (-1 : Int), .ref t0, rfl, rfl, sq_lst F1, lastA, ?_⟩
    refine ⟨_, rfl, f, _, rfl, .inl (sq_lst F1), _, _, rfl, rfl, ?_⟩
    rw [lf]
    have e1 : ((ps.length + 2 : Nat) : Int) - 2 = ((ps.length : Nat) : Int) := by omega
    dsimp only
    rw [e1]
    refine ⟨_, rfl, 1, rfl, f, _, (-1 : Int), .ref t0, rfl, rfl, sq_lst F1, lastA, t0, _, 0, .int x, rfl, rfl, sq_tup ht1, atI_nat (j := 0) rfl, _, rfl, f, _, 0, .int b, rfl, rfl, sq_lst F1, atI_nat (j := 0) rfl, _, _, rfl, rfl, .inl ⟨by omega, by omega⟩, ?_⟩
    refine ⟨_, rfl, 1, rfl, f, _, (-1 : Int), .ref t0, rfl, rfl, sq_lst F1, lastA, t0, _, 1, .int n, rfl, rfl, sq_tup ht1, atI_nat (j := 1) rfl, _, _, rfl, rfl, ⟨by omega, by omega⟩, ?_⟩
    dsimp only
    rw [← Int.natCast_mul, ← Int.natCast_ediv, Nat.mul_comm x b]
    refine ⟨_, rfl, 1, rfl, f, _, (-1 : Int), .ref t0, rfl, rfl, sq_lst F1, lastA, ?_⟩
    refine ⟨by show 5 ≤ sizeLine; decide, fun p2 np2 => ?_⟩
    have g2 := Gr.new (W := []) (o := .lst [.int (b : Nat), .ref t0, .int (ps.length : Nat), .int (b * x / n : Nat), .ref t0]) np2
    have ht2 := g2 t0 _ (by simp) ht1
    refine ⟨.ref p2, _, rfl, dp_lst upd_same (.cons (.int _) (.cons (dq ht2) (.cons (.int _) (.cons (.int _) (.cons (dq ht2) .nil))))), fD, rfl, ?_⟩
    rw [decide_eq_true rfl]
    exact q _ (g1.trans g2)

end
end Wn
namespace Wn
open PySem PySem.Spec PyProof.Rows L2
open LamX (Tabs ExtN tLam)
local macro_rules | `(tactic| walk_at "vc") => `(tactic| simp only [cxK, cxK2, start1, start2, start3, tRet, tRetN, tSeq, tNext, tIfS, tAsg, gName, tDrop, tVar, tC, tOp, tUn, tTest, tB, tNot, tAnd, tOr, tAndV, tOrV, tNotV, tIf, tCons, tNil, tCB, tCall, tChain, tAug, ipI, rI, rI0, rU, rIs, rGcd, rEq, rNe, scal,
  List.getElem?_cons_zero, List.getElem?_cons_succ, List.set_cons_zero, List.set_cons_succ, Option.some.injEq, List.cons.injEq, V.int.injEq, V.bl.injEq, V.ref.injEq, V.str.injEq, and_true, true_and, exists_eq_left, exists_eq_left', exists_and_left, exists_and_right, List.append_nil, List.nil_append, List.cons_append, exists_eq_right, exists_eq_right', and_assoc, exists_const, V.ty.injEq, ↓reduceIte, Bool.false_eq_true, Bool.not_true, Bool.not_false, decide_eq_true_eq])

section
variable {P : Program} {w : World} {K : PySem.W.Frag} {mg : Str → Option Value} {base : Heap}
section
variable {T : Txt K mg} {H : Hp} {a dx l p : Addr} {b x n : Nat}
theorem St.mk0 {dm c f : Addr} {k : Nat} (M : MOkC H dm c k) (hp : H p = some (.tup [.int x, .int n])) (na : H a = none) (ndx : H dx = none) (nl : (upd (upd H dx (.own a)) a (.ins T.C_Dial dx [])) l = none) (nf : mkH T H a dx l p b f = none) (fr : FR b x n) (tb : Tabs (tl T) H) :
    St T (upd (mkH T H a dx l p b) f (.lst [.int b, .ref p])) dm c a dx l f p k b x n [] [.ref p] [] := by
  obtain ⟨g, h1, h2, nl0⟩ := mk_facts (p := p) (b := b) na ndx nl
  have g2 := g.trans (Gr.new (o := .lst [.int b, .ref p]) nf)
  have gn := Gr.new (W := []) (o := .lst [.int b, .ref p]) nf
  have hP : upd (mkH T H a dx l p b) f (.lst [.int b, .ref p]) p = some (pv2 (x, n)) := g2 p _ (by simp) hp
  obtain ⟨xs, lz, sz, m1, m2, m3⟩ := id M
  exact ⟨M.gr g2, gn a _ (by simp) h1, gn l _ (by simp) h2, upd_same, hP, .nil, .cons hP .nil, ⟨ne_of_none m2 nl0, ne_of_none (g c _ (by simp) m2) nf, ne_of_none h2 nf⟩, fr, Nat.zero_le _, fun q hq => (by cases hq), tabsGr (tabsGr tb g) gn⟩
end

theorem MOkC.isK {H : Hp} {d c : Addr} {k : Nat} (M : MOkC H d c k) : ∃ kvs, H d = some (.dK kvs) := by
  obtain ⟨_, _, _, z, _⟩ := M
  exact ⟨_, z⟩
theorem MOkC.ext {H H' : Hp} {d c : Addr} {n : Nat} (h : MOkC H d c n) (g : ExtN H H') : MOkC H' d c n := by
  obtain ⟨xs, l, s, h1, h2, h3⟩ := h
  exact ⟨xs, l, s, g _ _ h1 (fun _ z => by cases z), g _ _ h2 (fun _ z => by cases z), h3⟩
theorem St.ext {T : Txt K mg} {H H' : Hp} {dm c a dx l f p : Addr} {k b x n : Nat} {past fv : List V} {ps : List (Nat × Nat)} (S : St T H dm c a dx l f p k b x n past fv ps) (g : ExtN H H') (t : Tabs (tl T) H') : St T H' dm c a dx l f p k b x n past fv ps :=
  have tk : TK H H' := fun u xs e => g u _ e (fun _ z => by cases z)
  ⟨S.M.ext g, g a _ S.D (fun _ z => by cases z), g l _ S.L (fun _ z => by cases z), g f _ S.F (fun _ z => by cases z), g p _ S.P (fun _ z => by cases z), S.pl.tk tk, S.fl.tk tk, S.ne, S.fr, S.sz, S.al, t⟩
theorem St.dl {T : Txt K mg} {H : Hp} {dm c a dx l f p : Addr} {k b x n : Nat} {past fv : List V} {ps : List (Nat × Nat)} (S : St T H dm c a dx l f p k b x n past fv ps) : Dl T H a dx l p b x n past :=
  ⟨S.D, S.L, S.P, S.fr, by rw [S.pl.len]; exact S.sz⟩
def sp_law (T : Txt K mg) : Sp := fun vs H Q _ => ∃ (a : Addr) (ns : List Int), vs = [.ref a] ∧ Tabs (tl T) H ∧ SqL K H a (ns.map V.int) ∧ ns.length ≤ 63 ∧ ∀ H', Q (.bl true) H'
theorem okG_law (T : Txt K mg) (B : Tbs T base) : FnG P w K mg base CX0 14 T.d_law.f T.d_law.fd ["script"] (sp_law T) := by
  refine fnGc0 T.d_law.F sc_law (fun vs H Q E h => ?_) (fun cdv A outer s H vs Q E hcc hgd hr h => ?_)
  · obtain ⟨a, ns, rfl, _⟩ := h; rfl
  · have hu := hu_of hr
    refine ⟨_, (pss_cons (ps_set (i := 1) sc_law.nd rfl (by first | exact .inl rfl | exact .inr rfl) (pe_call (ok_law_begun T) (hr.mono (by decide)) (by rfl) T.d_law_begun.m T.d_law_begun.F.kp T.d_law_begun.b .nil pass0 (pa_cons (pv 0) pa_nil)))
      (pss_cons (ps_for PassesOwn.never rfl (pi_range1 (by rfl) T.b_range (pa_cons (pe_op op_add pe_int (pe_callB (call_min2 rfl) (by rfl) T.b_min (by decide +kernel) (pa_cons (pe_callB (r := rLn K) call_ln (by rfl) T.b_len PySem.boot_len (pa_cons (pv 0) pa_nil)) (pa_cons pe_int pa_nil)))) pa_nil)) (pg_name (i := 2) sc_law.nd rfl (by first | exact .inl rfl | exact .inr rfl)) (pss_cons (ps_par (i := 3) (j := 4) (by rfl) sc_law.nd rfl rfl (by decide) rfl rfl (pa_cons (pe_call (okC_law_base T) (hr.mono (by decide)) (by rfl) T.d_law_base.m T.d_law_base.F.kp T.d_law_base.b .nil pass0 (pa_cons (pv 1) pa_nil)) (pa_cons (pe_call (okC_law_part T) (hr.mono (by decide)) (by rfl) T.d_law_part.m T.d_law_part.F.kp T.d_law_part.b .nil pass0 (pa_cons (pv 1) (pa_cons pe_int pa_nil))) pa_nil)) (by rfl))
      (pss_cons (ps_par (i := 5) (j := 6) (by rfl) sc_law.nd rfl rfl (by decide) rfl rfl (pa_cons (pe_make T.mk_Dial (ok_Dial_init T) (hr.mono (by decide)) (by rfl) T.g_Dial T.b_Dial_init .nil pass0 (pa_cons (pv 3) (pa_cons (pv 4) pa_nil))) (pa_cons (pe_lst (pa_cons (pv 3) (pa_cons (pv 4) pa_nil))) pa_nil)) (by rfl))
      (pss_cons (ps_for PassesOwn.never rfl (pi_range1 (by rfl) T.b_range (pa_cons (pe_call (okC_law_draw T) (hr.mono (by decide)) (by rfl) T.d_law_draw.m T.d_law_draw.F.kp T.d_law_draw.b .nil pass0 (pa_cons (pv 1) (pa_cons pe_int pa_nil))) pa_nil)) (pg_name (i := 7) sc_law.nd rfl (by first | exact .inl rfl | exact .inr rfl)) (pss_one (ps_if (pt_not (pt_val (pe_call (ok_law_deal T) (hr.mono (by decide)) (by rfl) T.d_law_deal.m T.d_law_deal.F.kp T.d_law_deal.b .nil pass0 (pa_cons (pv 1) (pa_cons (pv 5) (pa_cons (pv 6) pa_nil)))))) (pss_one (ps_ret pe_bl)) pss_nil)))
      (pss_one (ps_if (PW.pt (pw_or (pt_not (pt_val (pe_callG hgd (okG_law_moves_right T B) (hr.mono (by decide)) (by rfl) T.d_law_moves_right.m T.d_law_moves_right.F.kp T.d_law_moves_right.b .nil pass0 (pa_cons (pv 5) pa_nil)))) (pw_or1 (pt_not (pt_val (pe_callG hgd (okG_law_stands T) (hr.mono (by decide)) (by rfl) T.d_law_stands.m T.d_law_stands.F.kp T.d_law_stands.b .nil pass0 (pa_cons (pv 5) (pa_cons (pv 6) pa_nil)))))))) (pss_one (ps_ret pe_bl)) pss_nil))))))
      (pss_one (ps_ret (pe_and (pe_callG0 hgd (okG_law_made_right T B) (hr.mono (by decide)) (by rfl) T.d_law_made_right.m T.d_law_made_right.F.kp T.d_law_made_right.b .nil pass0) (pe_one (pe_callG0 hgd (okG_law_great_right T B) (hr.mono (by decide)) (by rfl) T.d_law_great_right.m T.d_law_great_right.F.kp T.d_law_great_right.b .nil pass0))))))), ?_⟩
    obtain ⟨a, ns, rfl, hT, hS, hn, q⟩ := h
    refine ⟨_, rfl, a, ns, rfl, hS, hn, fun d H1 g1 M1 => ?_⟩
    have t1 := tabsGr hT g1
    obtain ⟨c, xs0, l0, s0, m1, m2, m3⟩ := M1
    have MC : MOkC H1 d c 0 := ⟨xs0, l0, s0, m1, m2, m3⟩
    refine ⟨_, rfl, a, _, rfl, .inl ((Kp.of g1).sqL hS), _, _, rfl, ?_⟩
    rw [List.length_map]
    obtain ⟨N, eN, hN⟩ : ∃ N : Nat, (2 : Int) + (if (3 : Int) < (ns.length : Int) then (3 : Int) else (ns.length : Int)) = (N : Int) ∧ N ≤ 10 := by
      split
      · exact ⟨5, rfl, by decide⟩
      · exact ⟨2 + ns.length, by omega, by omega⟩
    refine ⟨_, _, rfl, rfl, ?_⟩
    refine ⟨(N : Int), congrArg (fun z => [V.int z]) eN, by omega, by omega, ?_⟩
    refine for_range (D := ⟨_, Q, fun _ _ => False, fun _ _ => False⟩) (lo := 0) (n := ((N : Int)).toNat) (fun i σ H' => Tabs (tl T) H' ∧ ∃ k, k ≤ 350 * i ∧ MOkC H' d c k ∧ ∃ v2 v3 v4 v5 v6 v7, σ = [some (.ref a), some (.ref d), v2, v3, v4, v5, v6, v7]) ⟨t1, 0, by omega, MC, none, none, none, none, none, none, ?_⟩ ?_ ?_
    · rfl
    · rintro i σ H2 hi ⟨t2, k, hk, M, v2, v3, v4, v5, v6, v7, rfl⟩
      have hi24 : i < 10 := by
        rw [Int.toNat_natCast] at hi
        omega
      refine ⟨_, rfl, d, c, k, rfl, M, by omega, fun b H1 hb1 hb2 g1 M1 => ?_⟩
      have ta := tabsGrM t2 g1 M.isK
      refine ⟨_, rfl, d, c, 60, k + 3, rfl, M1, ⟨by omega, by omega, by omega⟩, fun pa x n H2 hp hx hn hg g2 M2 => ?_⟩
      have tb := tabsGrM ta g2 M1.isK
      refine ⟨_, _, rfl, ?_⟩
      refine ⟨_, rfl, _, rfl, fun a2 dx na ndx nax => ?_⟩
      have npa : pa ≠ a2 := ne_of_none hp na
      have npd : pa ≠ dx := ne_of_none hp ndx
      refine ⟨a2, dx, b, pa, x, n, rfl, upd_same, by rw [upd_ne npa, upd_ne npd]; exact hp, ⟨hb1, hb2⟩, ⟨hx, by omega, hg⟩, fun l nl => ⟨rfl, ?_⟩⟩
      refine ⟨_, rfl, _, rfl, by show 2 ≤ sizeLine; decide, fun f nf => ?_⟩
      have S := St.mk0 (T := T) (b := b) M2 hp na ndx nl nf ⟨⟨hb1, hb2, by omega, by omega⟩, hx, hg⟩ tb
      change _ = none at nf
      generalize hH : upd (mkH T H2 a2 dx l pa b) f (.lst [.int b, .ref pa]) = H3 at S
      unfold mkH at hH
      rw [hH]
      clear hH nf nl nax na ndx npa npd
      refine ⟨_, _, rfl, ?_⟩
      refine ⟨_, rfl, d, c, 5, k + 3 + 2, rfl, S.M, ⟨by omega, by omega, by omega⟩, fun r H5 hr g5 M5 => ?_⟩
      have S5 := S.drw g5 M5
      refine ⟨(r : Int), rfl, by omega, by omega, ?_⟩
      refine for_range (lo := 0) (n := ((r : Int)).toNat) (fun i σ H' => ∃ p k' x n past fv ps v2 v7, St T H' d c a2 dx l f p k' b x n past fv ps ∧ ps.length = i ∧ k' ≤ k + 6 + 20 * i ∧ σ = [some (.ref a), some (.ref d), v2, some (.int b), some (.ref pa), some (.ref a2), some (.ref f), v7]) ⟨_, _, _, _, _, _, _, _, _, S5, rfl, by omega, rfl⟩ ?_ ?_
      · rintro i σ H6 hi ⟨p, k', y, m, past, fv, ps, v2, v7, S6, hl, hk', rfl⟩
        have hi12 : i < 5 := by
          rw [Int.toNat_natCast] at hi
          omega
        refine ⟨_, rfl, _, rfl, _, rfl, d, c, a2, dx, l, f, p, k', b, y, m, past, fv, ps, rfl, S6, by omega, by omega, fun H7 p7 k7 x7 n7 past7 fv7 ps7 S7 hl7 hk7 => ⟨_, rfl, iteF ?_⟩⟩
        exact ⟨p7, k7, x7, n7, past7, fv7, ps7, _, _, S7, by omega, by omega, rfl⟩
      rintro σ H6 ⟨p, k', y, m, past, fv, ps, v2, v7, S6, hl, hk', rfl⟩
      rw [Int.toNat_natCast] at hl hk'
      refine ⟨_, rfl, a2, dx, l, p, b, y, m, past, rfl, S6.dl, S6.tb, fun H7 e7 t7 => ⟨_, rfl, iteF ?_⟩⟩
      have S7 := S6.ext e7 t7
      refine ⟨_, rfl, _, rfl, d, c, a2, dx, l, f, p, k', b, y, m, past, fv, ps, rfl, S7, fun H8 g8 => ⟨_, rfl, iteF ?_⟩⟩
      exact ⟨(S7.gr g8).tb, k', by omega, (S7.gr g8).M, _, _, _, _, _, _, rfl⟩
    rintro σ H2 ⟨t2, k, hk, M, v2, v3, v4, v5, v6, v7, rfl⟩
    refine ⟨rfl, t2, fun H3 e3 t3 => ⟨_, rfl, iteT ?_⟩⟩
    exact ⟨rfl, t3, fun H4 t4 => q _⟩

end
end Wn
namespace Wn
open PySem PySem.Spec PyProof.Rows L2
open LamX (Tabs ExtN tLam)
theorem all_mk {l : PySem.W.OpenLaw} {w : World} {K : PySem.W.Frag} {h : Heap} {mg : Str → Option Value} {fa : Addr} (X : K.In h) (G : h.Ns mainGlobals mg) (hfa : mg "law" = some (.ref fa))
    {f_is_integer : Addr} {oc_is_integer kV_is_integer dc_is_integer pm_is_integer cd_is_integer ct_is_integer : Value} {od_is_integer an_is_integer : Option Addr} {sl_is_integer : Array (Option Value)}
    {f_is_within : Addr} {oc_is_within kV_is_within dc_is_within pm_is_within cd_is_within ct_is_within : Value} {od_is_within an_is_within : Option Addr} {sl_is_within : Array (Option Value)}
    {f_need_base : Addr} {oc_need_base kV_need_base dc_need_base pm_need_base cd_need_base ct_need_base : Value} {od_need_base an_need_base : Option Addr} {sl_need_base : Array (Option Value)}
    {f_need_denominator : Addr} {oc_need_denominator kV_need_denominator dc_need_denominator pm_need_denominator cd_need_denominator ct_need_denominator : Value} {od_need_denominator an_need_denominator : Option Addr} {sl_need_denominator : Array (Option Value)}
    {f_need_fraction : Addr} {oc_need_fraction kV_need_fraction dc_need_fraction pm_need_fraction cd_need_fraction ct_need_fraction : Value} {od_need_fraction an_need_fraction : Option Addr} {sl_need_fraction : Array (Option Value)}
    {f_reduced : Addr} {oc_reduced kV_reduced dc_reduced pm_reduced cd_reduced ct_reduced : Value} {od_reduced an_reduced : Option Addr} {sl_reduced : Array (Option Value)}
    {f_power_rest : Addr} {oc_power_rest kV_power_rest dc_power_rest pm_power_rest cd_power_rest ct_power_rest : Value} {od_power_rest an_power_rest : Option Addr} {sl_power_rest : Array (Option Value)}
    {f_remainder_at : Addr} {oc_remainder_at kV_remainder_at dc_remainder_at pm_remainder_at cd_remainder_at ct_remainder_at : Value} {od_remainder_at an_remainder_at : Option Addr} {sl_remainder_at : Array (Option Value)}
    {f_digit_at : Addr} {oc_digit_at kV_digit_at dc_digit_at pm_digit_at cd_digit_at ct_digit_at : Value} {od_digit_at an_digit_at : Option Addr} {sl_digit_at : Array (Option Value)}
    {f_added : Addr} {oc_added kV_added dc_added pm_added cd_added ct_added : Value} {od_added an_added : Option Addr} {sl_added : Array (Option Value)}
    {f_law_begun : Addr} {oc_law_begun kV_law_begun dc_law_begun pm_law_begun cd_law_begun ct_law_begun : Value} {od_law_begun an_law_begun : Option Addr} {sl_law_begun : Array (Option Value)}
    {f_law_draw : Addr} {oc_law_draw kV_law_draw dc_law_draw pm_law_draw cd_law_draw ct_law_draw : Value} {od_law_draw an_law_draw : Option Addr} {sl_law_draw : Array (Option Value)}
    {f_law_of : Addr} {oc_law_of kV_law_of dc_law_of pm_law_of cd_law_of ct_law_of : Value} {od_law_of an_law_of : Option Addr} {sl_law_of : Array (Option Value)}
    {f_law_divisor : Addr} {oc_law_divisor kV_law_divisor dc_law_divisor pm_law_divisor cd_law_divisor ct_law_divisor : Value} {od_law_divisor an_law_divisor : Option Addr} {sl_law_divisor : Array (Option Value)}
    {f_law_part : Addr} {oc_law_part kV_law_part dc_law_part pm_law_part cd_law_part ct_law_part : Value} {od_law_part an_law_part : Option Addr} {sl_law_part : Array (Option Value)}
    {f_law_ring : Addr} {oc_law_ring kV_law_ring dc_law_ring pm_law_ring cd_law_ring ct_law_ring : Value} {od_law_ring an_law_ring : Option Addr} {sl_law_ring : Array (Option Value)}
    {f_law_base : Addr} {oc_law_base kV_law_base dc_law_base pm_law_base cd_law_base ct_law_base : Value} {od_law_base an_law_base : Option Addr} {sl_law_base : Array (Option Value)}
    {f_law_lowest : Addr} {oc_law_lowest kV_law_lowest dc_law_lowest pm_law_lowest cd_law_lowest ct_law_lowest : Value} {od_law_lowest an_law_lowest : Option Addr} {sl_law_lowest : Array (Option Value)}
    {f_law_after : Addr} {oc_law_after kV_law_after dc_law_after pm_law_after cd_law_after ct_law_after : Value} {od_law_after an_law_after : Option Addr} {sl_law_after : Array (Option Value)}
    {f_law_deal : Addr} {oc_law_deal kV_law_deal dc_law_deal pm_law_deal cd_law_deal ct_law_deal : Value} {od_law_deal an_law_deal : Option Addr} {sl_law_deal : Array (Option Value)}
    {f_law_stands : Addr} {oc_law_stands kV_law_stands dc_law_stands pm_law_stands cd_law_stands ct_law_stands : Value} {od_law_stands an_law_stands : Option Addr} {sl_law_stands : Array (Option Value)}
    {f_law_word : Addr} {oc_law_word kV_law_word dc_law_word pm_law_word cd_law_word ct_law_word : Value} {od_law_word an_law_word : Option Addr} {sl_law_word : Array (Option Value)}
    {f_law_outcome : Addr} {oc_law_outcome kV_law_outcome dc_law_outcome pm_law_outcome cd_law_outcome ct_law_outcome : Value} {od_law_outcome an_law_outcome : Option Addr} {sl_law_outcome : Array (Option Value)}
    {f_law_is : Addr} {oc_law_is kV_law_is dc_law_is pm_law_is cd_law_is ct_law_is : Value} {od_law_is an_law_is : Option Addr} {sl_law_is : Array (Option Value)}
    {f_law_odd_numbers : Addr} {oc_law_odd_numbers kV_law_odd_numbers dc_law_odd_numbers pm_law_odd_numbers cd_law_odd_numbers ct_law_odd_numbers : Value} {od_law_odd_numbers an_law_odd_numbers : Option Addr} {sl_law_odd_numbers : Array (Option Value)}
    {f_law_odd_fractions : Addr} {oc_law_odd_fractions kV_law_odd_fractions dc_law_odd_fractions pm_law_odd_fractions cd_law_odd_fractions ct_law_odd_fractions : Value} {od_law_odd_fractions an_law_odd_fractions : Option Addr} {sl_law_odd_fractions : Array (Option Value)}
    {f_law_moves_right : Addr} {oc_law_moves_right kV_law_moves_right dc_law_moves_right pm_law_moves_right cd_law_moves_right ct_law_moves_right : Value} {od_law_moves_right an_law_moves_right : Option Addr} {sl_law_moves_right : Array (Option Value)}
    {f_law_made_right : Addr} {oc_law_made_right kV_law_made_right dc_law_made_right pm_law_made_right cd_law_made_right ct_law_made_right : Value} {od_law_made_right an_law_made_right : Option Addr} {sl_law_made_right : Array (Option Value)}
    {f_law_great_right : Addr} {oc_law_great_right kV_law_great_right dc_law_great_right pm_law_great_right cd_law_great_right ct_law_great_right : Value} {od_law_great_right an_law_great_right : Option Addr} {sl_law_great_right : Array (Option Value)}
    {f_law : Addr} {oc_law kV_law dc_law pm_law cd_law ct_law : Value} {od_law an_law : Option Addr} {sl_law : Array (Option Value)}
    {C_WheelError : Addr}
    {C_BadBase : Addr}
    {I_BadBase : Addr} {ioc_BadBase ikV_BadBase idc_BadBase ipm_BadBase icd_BadBase ict_BadBase : Value} {iod_BadBase ian_BadBase : Option Addr} {isl_BadBase : Array (Option Value)}
    {C_BadDenominator : Addr}
    {C_BadFraction : Addr}
    {I_BadFraction : Addr} {ioc_BadFraction ikV_BadFraction idc_BadFraction ipm_BadFraction icd_BadFraction ict_BadFraction : Value} {iod_BadFraction ian_BadFraction : Option Addr} {isl_BadFraction : Array (Option Value)}
    {C_BadDigits : Addr}
    {C_BadNumber : Addr}
    {I_BadNumber : Addr} {ioc_BadNumber ikV_BadNumber idc_BadNumber ipm_BadNumber icd_BadNumber ict_BadNumber : Value} {iod_BadNumber ian_BadNumber : Option Addr} {isl_BadNumber : Array (Option Value)}
    {C_BadPaper : Addr}
    {C_BadText : Addr}
    {C_TooGreat : Addr}
    {I_TooGreat : Addr} {ioc_TooGreat ikV_TooGreat idc_TooGreat ipm_TooGreat icd_TooGreat ict_TooGreat : Value} {iod_TooGreat ian_TooGreat : Option Addr} {isl_TooGreat : Array (Option Value)}
    {C_Nothing : Addr}
    {I_Nothing : Addr} {ioc_Nothing ikV_Nothing idc_Nothing ipm_Nothing icd_Nothing ict_Nothing : Value} {iod_Nothing ian_Nothing : Option Addr} {isl_Nothing : Array (Option Value)}
    {C_Dial : Addr}
    {m_Dial_init : Addr} {oc_Dial_init kV_Dial_init dc_Dial_init pm_Dial_init cd_Dial_init ct_Dial_init : Value} {od_Dial_init an_Dial_init : Option Addr} {sl_Dial_init : Array (Option Value)}
    {m_Dial_base : Addr} {oc_Dial_base kV_Dial_base dc_Dial_base pm_Dial_base cd_Dial_base ct_Dial_base : Value} {od_Dial_base an_Dial_base : Option Addr} {sl_Dial_base : Array (Option Value)}
    {p_Dial_base : Addr} {re_Dial_base : List Value}
    {m_Dial_fraction : Addr} {oc_Dial_fraction kV_Dial_fraction dc_Dial_fraction pm_Dial_fraction cd_Dial_fraction ct_Dial_fraction : Value} {od_Dial_fraction an_Dial_fraction : Option Addr} {sl_Dial_fraction : Array (Option Value)}
    {p_Dial_fraction : Addr} {re_Dial_fraction : List Value}
    {m_Dial_first : Addr} {oc_Dial_first kV_Dial_first dc_Dial_first pm_Dial_first cd_Dial_first ct_Dial_first : Value} {od_Dial_first an_Dial_first : Option Addr} {sl_Dial_first : Array (Option Value)}
    {p_Dial_first : Addr} {re_Dial_first : List Value}
    {m_Dial_move : Addr} {oc_Dial_move kV_Dial_move dc_Dial_move pm_Dial_move cd_Dial_move ct_Dial_move : Value} {od_Dial_move an_Dial_move : Option Addr} {sl_Dial_move : Array (Option Value)}
    {m_Dial_turn : Addr} {oc_Dial_turn kV_Dial_turn dc_Dial_turn pm_Dial_turn cd_Dial_turn ct_Dial_turn : Value} {od_Dial_turn an_Dial_turn : Option Addr} {sl_Dial_turn : Array (Option Value)}
    {m_Dial_add : Addr} {oc_Dial_add kV_Dial_add dc_Dial_add pm_Dial_add cd_Dial_add ct_Dial_add : Value} {od_Dial_add an_Dial_add : Option Addr} {sl_Dial_add : Array (Option Value)}
    {m_Dial_scale : Addr} {oc_Dial_scale kV_Dial_scale dc_Dial_scale pm_Dial_scale cd_Dial_scale ct_Dial_scale : Value} {od_Dial_scale an_Dial_scale : Option Addr} {sl_Dial_scale : Array (Option Value)}
    {m_Dial_call : Addr} {oc_Dial_call kV_Dial_call dc_Dial_call pm_Dial_call cd_Dial_call ct_Dial_call : Value} {od_Dial_call an_Dial_call : Option Addr} {sl_Dial_call : Array (Option Value)}
    {m_Dial_undo : Addr} {oc_Dial_undo dc_Dial_undo pm_Dial_undo cd_Dial_undo ct_Dial_undo : Value} {od_Dial_undo an_Dial_undo : Option Addr} {sl_Dial_undo : Array (Option Value)}
    {D_Dial_undo : Addr} {tk_Dial_undo : Tok}
    {m_Dial_len : Addr} {oc_Dial_len kV_Dial_len dc_Dial_len pm_Dial_len cd_Dial_len ct_Dial_len : Value} {od_Dial_len an_Dial_len : Option Addr} {sl_Dial_len : Array (Option Value)}
    {kk_law_moves_right pp_law_moves_right : Addr}
    {c1_law_moves_right : Value} {d1_law_moves_right : Option Addr} {vs_law_moves_right : Array Value} {s1_law_moves_right : Array (Option Value)}
    {kk_law_made_right pp_law_made_right : Addr}
    {c1_law_made_right : Value} {d1_law_made_right : Option Addr} {vs_law_made_right : Array Value} {s1_law_made_right : Array (Option Value)}
    {kk_law_great_right pp_law_great_right : Addr}
    {c1_law_great_right : Value} {d1_law_great_right : Option Addr} {vs_law_great_right : Array Value} {s1_law_great_right : Array (Option Value)}
    {t_MOST_BASE : Tok}
    {t_MOST_DENOMINATOR : Tok}
    {t_LAST_PLACE : Tok}
    {t_MOST_TIMES : Tok}
    (a_is_integer : PySem.W.nsIn K mainGlobals "is_integer" = some (some (.ref f_is_integer)))
    (l_is_integer : K.lookup f_is_integer = some ⟨oc_is_integer, od_is_integer, .func (PySem.W.fnOf "is_integer" "is_integer" (defArgs s_is_integer) (defBody s_is_integer) (defScope s_is_integer) .none kV_is_integer dc_is_integer pm_is_integer an_is_integer cd_is_integer ct_is_integer), sl_is_integer⟩)
    (c_is_integer : PySem.W.codeIn K cd_is_integer "is_integer" = true)
    (k_is_integer : PySem.W.keepIn K (.ref f_is_integer) = true)
    (a_is_within : PySem.W.nsIn K mainGlobals "is_within" = some (some (.ref f_is_within)))
    (l_is_within : K.lookup f_is_within = some ⟨oc_is_within, od_is_within, .func (PySem.W.fnOf "is_within" "is_within" (defArgs s_is_within) (defBody s_is_within) (defScope s_is_within) .none kV_is_within dc_is_within pm_is_within an_is_within cd_is_within ct_is_within), sl_is_within⟩)
    (c_is_within : PySem.W.codeIn K cd_is_within "is_within" = true)
    (k_is_within : PySem.W.keepIn K (.ref f_is_within) = true)
    (a_need_base : PySem.W.nsIn K mainGlobals "need_base" = some (some (.ref f_need_base)))
    (l_need_base : K.lookup f_need_base = some ⟨oc_need_base, od_need_base, .func (PySem.W.fnOf "need_base" "need_base" (defArgs s_need_base) (defBody s_need_base) (defScope s_need_base) .none kV_need_base dc_need_base pm_need_base an_need_base cd_need_base ct_need_base), sl_need_base⟩)
    (c_need_base : PySem.W.codeIn K cd_need_base "need_base" = true)
    (k_need_base : PySem.W.keepIn K (.ref f_need_base) = true)
    (a_need_denominator : PySem.W.nsIn K mainGlobals "need_denominator" = some (some (.ref f_need_denominator)))
    (l_need_denominator : K.lookup f_need_denominator = some ⟨oc_need_denominator, od_need_denominator, .func (PySem.W.fnOf "need_denominator" "need_denominator" (defArgs s_need_denominator) (defBody s_need_denominator) (defScope s_need_denominator) .none kV_need_denominator dc_need_denominator pm_need_denominator an_need_denominator cd_need_denominator ct_need_denominator), sl_need_denominator⟩)
    (c_need_denominator : PySem.W.codeIn K cd_need_denominator "need_denominator" = true)
    (k_need_denominator : PySem.W.keepIn K (.ref f_need_denominator) = true)
    (a_need_fraction : PySem.W.nsIn K mainGlobals "need_fraction" = some (some (.ref f_need_fraction)))
    (l_need_fraction : K.lookup f_need_fraction = some ⟨oc_need_fraction, od_need_fraction, .func (PySem.W.fnOf "need_fraction" "need_fraction" (defArgs s_need_fraction) (defBody s_need_fraction) (defScope s_need_fraction) .none kV_need_fraction dc_need_fraction pm_need_fraction an_need_fraction cd_need_fraction ct_need_fraction), sl_need_fraction⟩)
    (c_need_fraction : PySem.W.codeIn K cd_need_fraction "need_fraction" = true)
    (k_need_fraction : PySem.W.keepIn K (.ref f_need_fraction) = true)
    (a_reduced : PySem.W.nsIn K mainGlobals "reduced" = some (some (.ref f_reduced)))
    (l_reduced : K.lookup f_reduced = some ⟨oc_reduced, od_reduced, .func (PySem.W.fnOf "reduced" "reduced" (defArgs s_reduced) (defBody s_reduced) (defScope s_reduced) .none kV_reduced dc_reduced pm_reduced an_reduced cd_reduced ct_reduced), sl_reduced⟩)
    (c_reduced : PySem.W.codeIn K cd_reduced "reduced" = true)
    (k_reduced : PySem.W.keepIn K (.ref f_reduced) = true)
    (a_power_rest : PySem.W.nsIn K mainGlobals "power_rest" = some (some (.ref f_power_rest)))
    (l_power_rest : K.lookup f_power_rest = some ⟨oc_power_rest, od_power_rest, .func (PySem.W.fnOf "power_rest" "power_rest" (defArgs s_power_rest) (defBody s_power_rest) (defScope s_power_rest) .none kV_power_rest dc_power_rest pm_power_rest an_power_rest cd_power_rest ct_power_rest), sl_power_rest⟩)
    (c_power_rest : PySem.W.codeIn K cd_power_rest "power_rest" = true)
    (k_power_rest : PySem.W.keepIn K (.ref f_power_rest) = true)
    (a_remainder_at : PySem.W.nsIn K mainGlobals "remainder_at" = some (some (.ref f_remainder_at)))
    (l_remainder_at : K.lookup f_remainder_at = some ⟨oc_remainder_at, od_remainder_at, .func (PySem.W.fnOf "remainder_at" "remainder_at" (defArgs s_remainder_at) (defBody s_remainder_at) (defScope s_remainder_at) .none kV_remainder_at dc_remainder_at pm_remainder_at an_remainder_at cd_remainder_at ct_remainder_at), sl_remainder_at⟩)
    (c_remainder_at : PySem.W.codeIn K cd_remainder_at "remainder_at" = true)
    (k_remainder_at : PySem.W.keepIn K (.ref f_remainder_at) = true)
    (a_digit_at : PySem.W.nsIn K mainGlobals "digit_at" = some (some (.ref f_digit_at)))
    (l_digit_at : K.lookup f_digit_at = some ⟨oc_digit_at, od_digit_at, .func (PySem.W.fnOf "digit_at" "digit_at" (defArgs s_digit_at) (defBody s_digit_at) (defScope s_digit_at) .none kV_digit_at dc_digit_at pm_digit_at an_digit_at cd_digit_at ct_digit_at), sl_digit_at⟩)
    (c_digit_at : PySem.W.codeIn K cd_digit_at "digit_at" = true)
    (k_digit_at : PySem.W.keepIn K (.ref f_digit_at) = true)
    (a_added : PySem.W.nsIn K mainGlobals "added" = some (some (.ref f_added)))
    (l_added : K.lookup f_added = some ⟨oc_added, od_added, .func (PySem.W.fnOf "added" "added" (defArgs s_added) (defBody s_added) (defScope s_added) .none kV_added dc_added pm_added an_added cd_added ct_added), sl_added⟩)
    (c_added : PySem.W.codeIn K cd_added "added" = true)
    (k_added : PySem.W.keepIn K (.ref f_added) = true)
    (a_law_begun : PySem.W.nsIn K mainGlobals "_law_begun" = some (some (.ref f_law_begun)))
    (l_law_begun : K.lookup f_law_begun = some ⟨oc_law_begun, od_law_begun, .func (PySem.W.fnOf "_law_begun" "_law_begun" (defArgs s_law_begun) (defBody s_law_begun) (defScope s_law_begun) .none kV_law_begun dc_law_begun pm_law_begun an_law_begun cd_law_begun ct_law_begun), sl_law_begun⟩)
    (c_law_begun : PySem.W.codeIn K cd_law_begun "_law_begun" = true)
    (k_law_begun : PySem.W.keepIn K (.ref f_law_begun) = true)
    (a_law_draw : PySem.W.nsIn K mainGlobals "_law_draw" = some (some (.ref f_law_draw)))
    (l_law_draw : K.lookup f_law_draw = some ⟨oc_law_draw, od_law_draw, .func (PySem.W.fnOf "_law_draw" "_law_draw" (defArgs s_law_draw) (defBody s_law_draw) (defScope s_law_draw) .none kV_law_draw dc_law_draw pm_law_draw an_law_draw cd_law_draw ct_law_draw), sl_law_draw⟩)
    (c_law_draw : PySem.W.codeIn K cd_law_draw "_law_draw" = true)
    (k_law_draw : PySem.W.keepIn K (.ref f_law_draw) = true)
    (a_law_of : PySem.W.nsIn K mainGlobals "_law_of" = some (some (.ref f_law_of)))
    (l_law_of : K.lookup f_law_of = some ⟨oc_law_of, od_law_of, .func (PySem.W.fnOf "_law_of" "_law_of" (defArgs s_law_of) (defBody s_law_of) (defScope s_law_of) .none kV_law_of dc_law_of pm_law_of an_law_of cd_law_of ct_law_of), sl_law_of⟩)
    (c_law_of : PySem.W.codeIn K cd_law_of "_law_of" = true)
    (k_law_of : PySem.W.keepIn K (.ref f_law_of) = true)
    (a_law_divisor : PySem.W.nsIn K mainGlobals "_law_divisor" = some (some (.ref f_law_divisor)))
    (l_law_divisor : K.lookup f_law_divisor = some ⟨oc_law_divisor, od_law_divisor, .func (PySem.W.fnOf "_law_divisor" "_law_divisor" (defArgs s_law_divisor) (defBody s_law_divisor) (defScope s_law_divisor) .none kV_law_divisor dc_law_divisor pm_law_divisor an_law_divisor cd_law_divisor ct_law_divisor), sl_law_divisor⟩)
    (c_law_divisor : PySem.W.codeIn K cd_law_divisor "_law_divisor" = true)
    (k_law_divisor : PySem.W.keepIn K (.ref f_law_divisor) = true)
    (a_law_part : PySem.W.nsIn K mainGlobals "_law_part" = some (some (.ref f_law_part)))
    (l_law_part : K.lookup f_law_part = some ⟨oc_law_part, od_law_part, .func (PySem.W.fnOf "_law_part" "_law_part" (defArgs s_law_part) (defBody s_law_part) (defScope s_law_part) .none kV_law_part dc_law_part pm_law_part an_law_part cd_law_part ct_law_part), sl_law_part⟩)
    (c_law_part : PySem.W.codeIn K cd_law_part "_law_part" = true)
    (k_law_part : PySem.W.keepIn K (.ref f_law_part) = true)
    (a_law_ring : PySem.W.nsIn K mainGlobals "_law_ring" = some (some (.ref f_law_ring)))
    (l_law_ring : K.lookup f_law_ring = some ⟨oc_law_ring, od_law_ring, .func (PySem.W.fnOf "_law_ring" "_law_ring" (defArgs s_law_ring) (defBody s_law_ring) (defScope s_law_ring) .none kV_law_ring dc_law_ring pm_law_ring an_law_ring cd_law_ring ct_law_ring), sl_law_ring⟩)
    (c_law_ring : PySem.W.codeIn K cd_law_ring "_law_ring" = true)
    (k_law_ring : PySem.W.keepIn K (.ref f_law_ring) = true)
    (a_law_base : PySem.W.nsIn K mainGlobals "_law_base" = some (some (.ref f_law_base)))
    (l_law_base : K.lookup f_law_base = some ⟨oc_law_base, od_law_base, .func (PySem.W.fnOf "_law_base" "_law_base" (defArgs s_law_base) (defBody s_law_base) (defScope s_law_base) .none kV_law_base dc_law_base pm_law_base an_law_base cd_law_base ct_law_base), sl_law_base⟩)
    (c_law_base : PySem.W.codeIn K cd_law_base "_law_base" = true)
    (k_law_base : PySem.W.keepIn K (.ref f_law_base) = true)
    (a_law_lowest : PySem.W.nsIn K mainGlobals "_law_lowest" = some (some (.ref f_law_lowest)))
    (l_law_lowest : K.lookup f_law_lowest = some ⟨oc_law_lowest, od_law_lowest, .func (PySem.W.fnOf "_law_lowest" "_law_lowest" (defArgs s_law_lowest) (defBody s_law_lowest) (defScope s_law_lowest) .none kV_law_lowest dc_law_lowest pm_law_lowest an_law_lowest cd_law_lowest ct_law_lowest), sl_law_lowest⟩)
    (c_law_lowest : PySem.W.codeIn K cd_law_lowest "_law_lowest" = true)
    (k_law_lowest : PySem.W.keepIn K (.ref f_law_lowest) = true)
    (a_law_after : PySem.W.nsIn K mainGlobals "_law_after" = some (some (.ref f_law_after)))
    (l_law_after : K.lookup f_law_after = some ⟨oc_law_after, od_law_after, .func (PySem.W.fnOf "_law_after" "_law_after" (defArgs s_law_after) (defBody s_law_after) (defScope s_law_after) .none kV_law_after dc_law_after pm_law_after an_law_after cd_law_after ct_law_after), sl_law_after⟩)
    (c_law_after : PySem.W.codeIn K cd_law_after "_law_after" = true)
    (k_law_after : PySem.W.keepIn K (.ref f_law_after) = true)
    (a_law_deal : PySem.W.nsIn K mainGlobals "_law_deal" = some (some (.ref f_law_deal)))
    (l_law_deal : K.lookup f_law_deal = some ⟨oc_law_deal, od_law_deal, .func (PySem.W.fnOf "_law_deal" "_law_deal" (defArgs s_law_deal) (defBody s_law_deal) (defScope s_law_deal) .none kV_law_deal dc_law_deal pm_law_deal an_law_deal cd_law_deal ct_law_deal), sl_law_deal⟩)
    (c_law_deal : PySem.W.codeIn K cd_law_deal "_law_deal" = true)
    (k_law_deal : PySem.W.keepIn K (.ref f_law_deal) = true)
    (a_law_stands : PySem.W.nsIn K mainGlobals "_law_stands" = some (some (.ref f_law_stands)))
    (l_law_stands : K.lookup f_law_stands = some ⟨oc_law_stands, od_law_stands, .func (PySem.W.fnOf "_law_stands" "_law_stands" (defArgs s_law_stands) (defBody s_law_stands) (defScope s_law_stands) .none kV_law_stands dc_law_stands pm_law_stands an_law_stands cd_law_stands ct_law_stands), sl_law_stands⟩)
    (c_law_stands : PySem.W.codeIn K cd_law_stands "_law_stands" = true)
    (k_law_stands : PySem.W.keepIn K (.ref f_law_stands) = true)
    (a_law_word : PySem.W.nsIn K mainGlobals "_law_word" = some (some (.ref f_law_word)))
    (l_law_word : K.lookup f_law_word = some ⟨oc_law_word, od_law_word, .func (PySem.W.fnOf "_law_word" "_law_word" (defArgs s_law_word) (defBody s_law_word) (defScope s_law_word) .none kV_law_word dc_law_word pm_law_word an_law_word cd_law_word ct_law_word), sl_law_word⟩)
    (c_law_word : PySem.W.codeIn K cd_law_word "_law_word" = true)
    (k_law_word : PySem.W.keepIn K (.ref f_law_word) = true)
    (a_law_outcome : PySem.W.nsIn K mainGlobals "_law_outcome" = some (some (.ref f_law_outcome)))
    (l_law_outcome : K.lookup f_law_outcome = some ⟨oc_law_outcome, od_law_outcome, .func (PySem.W.fnOf "_law_outcome" "_law_outcome" (defArgs s_law_outcome) (defBody s_law_outcome) (defScope s_law_outcome) .none kV_law_outcome dc_law_outcome pm_law_outcome an_law_outcome cd_law_outcome ct_law_outcome), sl_law_outcome⟩)
    (c_law_outcome : PySem.W.codeIn K cd_law_outcome "_law_outcome" = true)
    (k_law_outcome : PySem.W.keepIn K (.ref f_law_outcome) = true)
    (a_law_is : PySem.W.nsIn K mainGlobals "_law_is" = some (some (.ref f_law_is)))
    (l_law_is : K.lookup f_law_is = some ⟨oc_law_is, od_law_is, .func (PySem.W.fnOf "_law_is" "_law_is" (defArgs s_law_is) (defBody s_law_is) (defScope s_law_is) .none kV_law_is dc_law_is pm_law_is an_law_is cd_law_is ct_law_is), sl_law_is⟩)
    (c_law_is : PySem.W.codeIn K cd_law_is "_law_is" = true)
    (k_law_is : PySem.W.keepIn K (.ref f_law_is) = true)
    (a_law_odd_numbers : PySem.W.nsIn K mainGlobals "_law_odd_numbers" = some (some (.ref f_law_odd_numbers)))
    (l_law_odd_numbers : K.lookup f_law_odd_numbers = some ⟨oc_law_odd_numbers, od_law_odd_numbers, .func (PySem.W.fnOf "_law_odd_numbers" "_law_odd_numbers" (defArgs s_law_odd_numbers) (defBody s_law_odd_numbers) (defScope s_law_odd_numbers) .none kV_law_odd_numbers dc_law_odd_numbers pm_law_odd_numbers an_law_odd_numbers cd_law_odd_numbers ct_law_odd_numbers), sl_law_odd_numbers⟩)
    (c_law_odd_numbers : PySem.W.codeIn K cd_law_odd_numbers "_law_odd_numbers" = true)
    (k_law_odd_numbers : PySem.W.keepIn K (.ref f_law_odd_numbers) = true)
    (a_law_odd_fractions : PySem.W.nsIn K mainGlobals "_law_odd_fractions" = some (some (.ref f_law_odd_fractions)))
    (l_law_odd_fractions : K.lookup f_law_odd_fractions = some ⟨oc_law_odd_fractions, od_law_odd_fractions, .func (PySem.W.fnOf "_law_odd_fractions" "_law_odd_fractions" (defArgs s_law_odd_fractions) (defBody s_law_odd_fractions) (defScope s_law_odd_fractions) .none kV_law_odd_fractions dc_law_odd_fractions pm_law_odd_fractions an_law_odd_fractions cd_law_odd_fractions ct_law_odd_fractions), sl_law_odd_fractions⟩)
    (c_law_odd_fractions : PySem.W.codeIn K cd_law_odd_fractions "_law_odd_fractions" = true)
    (k_law_odd_fractions : PySem.W.keepIn K (.ref f_law_odd_fractions) = true)
    (a_law_moves_right : PySem.W.nsIn K mainGlobals "_law_moves_right" = some (some (.ref f_law_moves_right)))
    (l_law_moves_right : K.lookup f_law_moves_right = some ⟨oc_law_moves_right, od_law_moves_right, .func (PySem.W.fnOf "_law_moves_right" "_law_moves_right" (defArgs s_law_moves_right) (defBody s_law_moves_right) (defScope s_law_moves_right) .none kV_law_moves_right dc_law_moves_right pm_law_moves_right an_law_moves_right cd_law_moves_right ct_law_moves_right), sl_law_moves_right⟩)
    (c_law_moves_right : PySem.W.codeIn K cd_law_moves_right "_law_moves_right" = true)
    (k_law_moves_right : PySem.W.keepIn K (.ref f_law_moves_right) = true)
    (a_law_made_right : PySem.W.nsIn K mainGlobals "_law_made_right" = some (some (.ref f_law_made_right)))
    (l_law_made_right : K.lookup f_law_made_right = some ⟨oc_law_made_right, od_law_made_right, .func (PySem.W.fnOf "_law_made_right" "_law_made_right" (defArgs s_law_made_right) (defBody s_law_made_right) (defScope s_law_made_right) .none kV_law_made_right dc_law_made_right pm_law_made_right an_law_made_right cd_law_made_right ct_law_made_right), sl_law_made_right⟩)
    (c_law_made_right : PySem.W.codeIn K cd_law_made_right "_law_made_right" = true)
    (k_law_made_right : PySem.W.keepIn K (.ref f_law_made_right) = true)
    (a_law_great_right : PySem.W.nsIn K mainGlobals "_law_great_right" = some (some (.ref f_law_great_right)))
    (l_law_great_right : K.lookup f_law_great_right = some ⟨oc_law_great_right, od_law_great_right, .func (PySem.W.fnOf "_law_great_right" "_law_great_right" (defArgs s_law_great_right) (defBody s_law_great_right) (defScope s_law_great_right) .none kV_law_great_right dc_law_great_right pm_law_great_right an_law_great_right cd_law_great_right ct_law_great_right), sl_law_great_right⟩)
    (c_law_great_right : PySem.W.codeIn K cd_law_great_right "_law_great_right" = true)
    (k_law_great_right : PySem.W.keepIn K (.ref f_law_great_right) = true)
    (a_law : PySem.W.nsIn K mainGlobals "law" = some (some (.ref f_law)))
    (l_law : K.lookup f_law = some ⟨oc_law, od_law, .func (PySem.W.fnOf "law" "law" (defArgs s_law) (defBody s_law) (defScope s_law) .none kV_law dc_law pm_law an_law cd_law ct_law), sl_law⟩)
    (c_law : PySem.W.codeIn K cd_law "law" = true)
    (k_law : PySem.W.keepIn K (.ref f_law) = true)
    (zb_isinstance : PySem.W.nsIn K mainGlobals "isinstance" = some none)
    (zb_int : PySem.W.nsIn K mainGlobals "int" = some none)
    (zb_bool : PySem.W.nsIn K mainGlobals "bool" = some none)
    (zb_len : PySem.W.nsIn K mainGlobals "len" = some none)
    (zb_range : PySem.W.nsIn K mainGlobals "range" = some none)
    (zb_tuple : PySem.W.nsIn K mainGlobals "tuple" = some none)
    (zb_list : PySem.W.nsIn K mainGlobals "list" = some none)
    (zb_min : PySem.W.nsIn K mainGlobals "min" = some none)
    (zb_repr : PySem.W.nsIn K mainGlobals "repr" = some none)
    (zb_OverflowError : PySem.W.nsIn K mainGlobals "OverflowError" = some none)
    (zb_LookupError : PySem.W.nsIn K mainGlobals "LookupError" = some none)
    (zb_gcd : PySem.W.nsIn K mainGlobals "gcd" = some (some (.builtin "math.gcd")))
    (gc_WheelError : PySem.W.nsIn K mainGlobals "WheelError" = some (some (.ref C_WheelError)))
    (rd_WheelError : PySem.W.readsIn K C_WheelError (.type "type") = true)
    (rg_WheelError : PySem.W.specialIn K (.ref C_WheelError) "__getattribute__" = some (some (.builtin "type.__getattribute__")))
    (ri_WheelError : PySem.W.findCls K (.ref C_WheelError) (.type "type") "__init__" = some (.val (.builtin "ValueError.__init__")))
    (gc_BadBase : PySem.W.nsIn K mainGlobals "BadBase" = some (some (.ref C_BadBase)))
    (iC_BadBase : PySem.W.findIn K (.ref C_BadBase) "__init__" = some (some (.ref I_BadBase)))
    (ini_BadBase : PySem.W.excInitIn K C_BadBase [.type "ValueError", .type "Exception", .type "BaseException", .type "object"] "ValueError.__new__" = true)
    (ov_BadBase : PySem.W.excOver K C_BadBase [.type "ValueError", .type "Exception", .type "BaseException", .type "object"] = true)
    (hd_BadBase : PySem.W.hasDictIn K C_BadBase = true)
    (sa_BadBase : PySem.W.findIn K (.ref C_BadBase) "__setattr__" = some (some (.builtin "object.__setattr__")))
    (ex_BadBase : PySem.W.subIn K (.ref C_BadBase) (.type "BaseException") = some true)
    (ty_BadBase : PySem.W.typeIn K (.ref C_BadBase) = some (.type "type"))
    (kp_BadBase : PySem.W.keepIn K (.ref C_BadBase) = true)
    (tk_BadBase : PySem.W.takerIn K C_BadBase "value" = some none)
    (no_BadBase : PySem.W.findIn K (.ref C_BadBase) "value" = some none)
    (tI_BadBase : PySem.W.typeIn K (.ref I_BadBase) = some (.type "function"))
    (ga_BadBase : PySem.W.findIn K (.ref C_BadBase) "__getattribute__" = some (some (.builtin "BaseException.__getattribute__")))
    (gg_BadBase : PySem.W.findIn K (.ref C_BadBase) "__getattr__" = some none)
    (ha_BadBase : PySem.W.findIn K (.ref C_BadBase) "__class__" = some (some (.builtin "object.__class__")))
    (mr_BadBase : PySem.W.mroIn K C_BadBase (.type "object") = some true)
    (il_BadBase : K.lookup I_BadBase = some ⟨ioc_BadBase, iod_BadBase, .func (PySem.W.fnOf "__init__" "BadBase.__init__" (defArgs s_BadBase_init) (defBody s_BadBase_init) (defScope s_BadBase_init) .none ikV_BadBase idc_BadBase ipm_BadBase ian_BadBase icd_BadBase ict_BadBase), isl_BadBase⟩)
    (ic_BadBase : PySem.W.codeIn K icd_BadBase "BadBase.__init__" = true)
    (ik_BadBase : PySem.W.keepIn K (.ref I_BadBase) = true)
    (cl_BadBase : PySem.W.isClsIn K C_BadBase = true)
    (hn_BadBase : PySem.W.specialIn K (.builtin "object.__class__") "__get__" = some (some (.builtin "getset_descriptor.__get__")))
    (ht_BadBase : PySem.W.takesIn K (.builtin "object.__class__") = some true)
    (gc_BadDenominator : PySem.W.nsIn K mainGlobals "BadDenominator" = some (some (.ref C_BadDenominator)))
    (gc_BadFraction : PySem.W.nsIn K mainGlobals "BadFraction" = some (some (.ref C_BadFraction)))
    (iC_BadFraction : PySem.W.findIn K (.ref C_BadFraction) "__init__" = some (some (.ref I_BadFraction)))
    (ini_BadFraction : PySem.W.excInitIn K C_BadFraction [.type "ValueError", .type "Exception", .type "BaseException", .type "object"] "ValueError.__new__" = true)
    (ov_BadFraction : PySem.W.excOver K C_BadFraction [.type "ValueError", .type "Exception", .type "BaseException", .type "object"] = true)
    (hd_BadFraction : PySem.W.hasDictIn K C_BadFraction = true)
    (sa_BadFraction : PySem.W.findIn K (.ref C_BadFraction) "__setattr__" = some (some (.builtin "object.__setattr__")))
    (ex_BadFraction : PySem.W.subIn K (.ref C_BadFraction) (.type "BaseException") = some true)
    (ty_BadFraction : PySem.W.typeIn K (.ref C_BadFraction) = some (.type "type"))
    (kp_BadFraction : PySem.W.keepIn K (.ref C_BadFraction) = true)
    (tk_BadFraction : PySem.W.takerIn K C_BadFraction "value" = some none)
    (no_BadFraction : PySem.W.findIn K (.ref C_BadFraction) "value" = some none)
    (tI_BadFraction : PySem.W.typeIn K (.ref I_BadFraction) = some (.type "function"))
    (ga_BadFraction : PySem.W.findIn K (.ref C_BadFraction) "__getattribute__" = some (some (.builtin "BaseException.__getattribute__")))
    (gg_BadFraction : PySem.W.findIn K (.ref C_BadFraction) "__getattr__" = some none)
    (ha_BadFraction : PySem.W.findIn K (.ref C_BadFraction) "__class__" = some (some (.builtin "object.__class__")))
    (mr_BadFraction : PySem.W.mroIn K C_BadFraction (.type "object") = some true)
    (il_BadFraction : K.lookup I_BadFraction = some ⟨ioc_BadFraction, iod_BadFraction, .func (PySem.W.fnOf "__init__" "BadFraction.__init__" (defArgs s_BadFraction_init) (defBody s_BadFraction_init) (defScope s_BadFraction_init) .none ikV_BadFraction idc_BadFraction ipm_BadFraction ian_BadFraction icd_BadFraction ict_BadFraction), isl_BadFraction⟩)
    (ic_BadFraction : PySem.W.codeIn K icd_BadFraction "BadFraction.__init__" = true)
    (ik_BadFraction : PySem.W.keepIn K (.ref I_BadFraction) = true)
    (cl_BadFraction : PySem.W.isClsIn K C_BadFraction = true)
    (hn_BadFraction : PySem.W.specialIn K (.builtin "object.__class__") "__get__" = some (some (.builtin "getset_descriptor.__get__")))
    (ht_BadFraction : PySem.W.takesIn K (.builtin "object.__class__") = some true)
    (gc_BadDigits : PySem.W.nsIn K mainGlobals "BadDigits" = some (some (.ref C_BadDigits)))
    (gc_BadNumber : PySem.W.nsIn K mainGlobals "BadNumber" = some (some (.ref C_BadNumber)))
    (iC_BadNumber : PySem.W.findIn K (.ref C_BadNumber) "__init__" = some (some (.ref I_BadNumber)))
    (ini_BadNumber : PySem.W.excInitIn K C_BadNumber [.type "ValueError", .type "Exception", .type "BaseException", .type "object"] "ValueError.__new__" = true)
    (ov_BadNumber : PySem.W.excOver K C_BadNumber [.type "ValueError", .type "Exception", .type "BaseException", .type "object"] = true)
    (hd_BadNumber : PySem.W.hasDictIn K C_BadNumber = true)
    (sa_BadNumber : PySem.W.findIn K (.ref C_BadNumber) "__setattr__" = some (some (.builtin "object.__setattr__")))
    (ex_BadNumber : PySem.W.subIn K (.ref C_BadNumber) (.type "BaseException") = some true)
    (ty_BadNumber : PySem.W.typeIn K (.ref C_BadNumber) = some (.type "type"))
    (kp_BadNumber : PySem.W.keepIn K (.ref C_BadNumber) = true)
    (tk_BadNumber : PySem.W.takerIn K C_BadNumber "value" = some none)
    (no_BadNumber : PySem.W.findIn K (.ref C_BadNumber) "value" = some none)
    (tI_BadNumber : PySem.W.typeIn K (.ref I_BadNumber) = some (.type "function"))
    (ga_BadNumber : PySem.W.findIn K (.ref C_BadNumber) "__getattribute__" = some (some (.builtin "BaseException.__getattribute__")))
    (gg_BadNumber : PySem.W.findIn K (.ref C_BadNumber) "__getattr__" = some none)
    (ha_BadNumber : PySem.W.findIn K (.ref C_BadNumber) "__class__" = some (some (.builtin "object.__class__")))
    (mr_BadNumber : PySem.W.mroIn K C_BadNumber (.type "object") = some true)
    (il_BadNumber : K.lookup I_BadNumber = some ⟨ioc_BadNumber, iod_BadNumber, .func (PySem.W.fnOf "__init__" "BadNumber.__init__" (defArgs s_BadNumber_init) (defBody s_BadNumber_init) (defScope s_BadNumber_init) .none ikV_BadNumber idc_BadNumber ipm_BadNumber ian_BadNumber icd_BadNumber ict_BadNumber), isl_BadNumber⟩)
    (ic_BadNumber : PySem.W.codeIn K icd_BadNumber "BadNumber.__init__" = true)
    (ik_BadNumber : PySem.W.keepIn K (.ref I_BadNumber) = true)
    (cl_BadNumber : PySem.W.isClsIn K C_BadNumber = true)
    (hn_BadNumber : PySem.W.specialIn K (.builtin "object.__class__") "__get__" = some (some (.builtin "getset_descriptor.__get__")))
    (ht_BadNumber : PySem.W.takesIn K (.builtin "object.__class__") = some true)
    (gc_BadPaper : PySem.W.nsIn K mainGlobals "BadPaper" = some (some (.ref C_BadPaper)))
    (gc_BadText : PySem.W.nsIn K mainGlobals "BadText" = some (some (.ref C_BadText)))
    (gc_TooGreat : PySem.W.nsIn K mainGlobals "TooGreat" = some (some (.ref C_TooGreat)))
    (iC_TooGreat : PySem.W.findIn K (.ref C_TooGreat) "__init__" = some (some (.ref I_TooGreat)))
    (ini_TooGreat : PySem.W.excInitIn K C_TooGreat [.type "OverflowError", .type "ArithmeticError", .type "Exception", .type "BaseException", .type "object"] "OverflowError.__new__" = true)
    (ov_TooGreat : PySem.W.excOver K C_TooGreat [.type "OverflowError", .type "ArithmeticError", .type "Exception", .type "BaseException", .type "object"] = true)
    (hd_TooGreat : PySem.W.hasDictIn K C_TooGreat = true)
    (sa_TooGreat : PySem.W.findIn K (.ref C_TooGreat) "__setattr__" = some (some (.builtin "object.__setattr__")))
    (ex_TooGreat : PySem.W.subIn K (.ref C_TooGreat) (.type "BaseException") = some true)
    (ty_TooGreat : PySem.W.typeIn K (.ref C_TooGreat) = some (.type "type"))
    (kp_TooGreat : PySem.W.keepIn K (.ref C_TooGreat) = true)
    (tk_TooGreat : PySem.W.takerIn K C_TooGreat "most" = some none)
    (no_TooGreat : PySem.W.findIn K (.ref C_TooGreat) "most" = some none)
    (tI_TooGreat : PySem.W.typeIn K (.ref I_TooGreat) = some (.type "function"))
    (ga_TooGreat : PySem.W.findIn K (.ref C_TooGreat) "__getattribute__" = some (some (.builtin "BaseException.__getattribute__")))
    (gg_TooGreat : PySem.W.findIn K (.ref C_TooGreat) "__getattr__" = some none)
    (ha_TooGreat : PySem.W.findIn K (.ref C_TooGreat) "__class__" = some (some (.builtin "object.__class__")))
    (mr_TooGreat : PySem.W.mroIn K C_TooGreat (.type "object") = some true)
    (il_TooGreat : K.lookup I_TooGreat = some ⟨ioc_TooGreat, iod_TooGreat, .func (PySem.W.fnOf "__init__" "TooGreat.__init__" (defArgs s_TooGreat_init) (defBody s_TooGreat_init) (defScope s_TooGreat_init) .none ikV_TooGreat idc_TooGreat ipm_TooGreat ian_TooGreat icd_TooGreat ict_TooGreat), isl_TooGreat⟩)
    (ic_TooGreat : PySem.W.codeIn K icd_TooGreat "TooGreat.__init__" = true)
    (ik_TooGreat : PySem.W.keepIn K (.ref I_TooGreat) = true)
    (cl_TooGreat : PySem.W.isClsIn K C_TooGreat = true)
    (hn_TooGreat : PySem.W.specialIn K (.builtin "object.__class__") "__get__" = some (some (.builtin "getset_descriptor.__get__")))
    (ht_TooGreat : PySem.W.takesIn K (.builtin "object.__class__") = some true)
    (gc_Nothing : PySem.W.nsIn K mainGlobals "Nothing" = some (some (.ref C_Nothing)))
    (iC_Nothing : PySem.W.findIn K (.ref C_Nothing) "__init__" = some (some (.ref I_Nothing)))
    (ini_Nothing : PySem.W.excInitIn K C_Nothing [.type "LookupError", .type "Exception", .type "BaseException", .type "object"] "LookupError.__new__" = true)
    (ov_Nothing : PySem.W.excOver K C_Nothing [.type "LookupError", .type "Exception", .type "BaseException", .type "object"] = true)
    (hd_Nothing : PySem.W.hasDictIn K C_Nothing = true)
    (sa_Nothing : PySem.W.findIn K (.ref C_Nothing) "__setattr__" = some (some (.builtin "object.__setattr__")))
    (ex_Nothing : PySem.W.subIn K (.ref C_Nothing) (.type "BaseException") = some true)
    (ty_Nothing : PySem.W.typeIn K (.ref C_Nothing) = some (.type "type"))
    (kp_Nothing : PySem.W.keepIn K (.ref C_Nothing) = true)
    (tk_Nothing : PySem.W.takerIn K C_Nothing "value" = some none)
    (no_Nothing : PySem.W.findIn K (.ref C_Nothing) "value" = some none)
    (tI_Nothing : PySem.W.typeIn K (.ref I_Nothing) = some (.type "function"))
    (ga_Nothing : PySem.W.findIn K (.ref C_Nothing) "__getattribute__" = some (some (.builtin "BaseException.__getattribute__")))
    (gg_Nothing : PySem.W.findIn K (.ref C_Nothing) "__getattr__" = some none)
    (ha_Nothing : PySem.W.findIn K (.ref C_Nothing) "__class__" = some (some (.builtin "object.__class__")))
    (mr_Nothing : PySem.W.mroIn K C_Nothing (.type "object") = some true)
    (il_Nothing : K.lookup I_Nothing = some ⟨ioc_Nothing, iod_Nothing, .func (PySem.W.fnOf "__init__" "Nothing.__init__" (defArgs s_Nothing_init) (defBody s_Nothing_init) (defScope s_Nothing_init) .none ikV_Nothing idc_Nothing ipm_Nothing ian_Nothing icd_Nothing ict_Nothing), isl_Nothing⟩)
    (ic_Nothing : PySem.W.codeIn K icd_Nothing "Nothing.__init__" = true)
    (ik_Nothing : PySem.W.keepIn K (.ref I_Nothing) = true)
    (cl_Nothing : PySem.W.isClsIn K C_Nothing = true)
    (hn_Nothing : PySem.W.specialIn K (.builtin "object.__class__") "__get__" = some (some (.builtin "getset_descriptor.__get__")))
    (ht_Nothing : PySem.W.takesIn K (.builtin "object.__class__") = some true)
    (kit_BadBase_BadBase : PySem.W.kitOne K (.ref C_BadBase) (.ref C_BadBase) = some true)
    (kit_BadBase_BadDenominator : PySem.W.kitOne K (.ref C_BadBase) (.ref C_BadDenominator) = some false)
    (kit_BadBase_BadFraction : PySem.W.kitOne K (.ref C_BadBase) (.ref C_BadFraction) = some false)
    (kit_BadBase_BadDigits : PySem.W.kitOne K (.ref C_BadBase) (.ref C_BadDigits) = some false)
    (kit_BadBase_BadNumber : PySem.W.kitOne K (.ref C_BadBase) (.ref C_BadNumber) = some false)
    (kit_BadBase_BadPaper : PySem.W.kitOne K (.ref C_BadBase) (.ref C_BadPaper) = some false)
    (kit_BadBase_BadText : PySem.W.kitOne K (.ref C_BadBase) (.ref C_BadText) = some false)
    (kit_BadBase_TooGreat : PySem.W.kitOne K (.ref C_BadBase) (.ref C_TooGreat) = some false)
    (kit_BadBase_Nothing : PySem.W.kitOne K (.ref C_BadBase) (.ref C_Nothing) = some false)
    (exm_BadBase : PySem.W.exmAny K (.ref C_BadBase) [.ref C_WheelError, .ref C_Nothing, .ref C_TooGreat] = some true)
    (kit_BadFraction_BadBase : PySem.W.kitOne K (.ref C_BadFraction) (.ref C_BadBase) = some false)
    (kit_BadFraction_BadDenominator : PySem.W.kitOne K (.ref C_BadFraction) (.ref C_BadDenominator) = some false)
    (kit_BadFraction_BadFraction : PySem.W.kitOne K (.ref C_BadFraction) (.ref C_BadFraction) = some true)
    (kit_BadFraction_BadDigits : PySem.W.kitOne K (.ref C_BadFraction) (.ref C_BadDigits) = some false)
    (kit_BadFraction_BadNumber : PySem.W.kitOne K (.ref C_BadFraction) (.ref C_BadNumber) = some false)
    (kit_BadFraction_BadPaper : PySem.W.kitOne K (.ref C_BadFraction) (.ref C_BadPaper) = some false)
    (kit_BadFraction_BadText : PySem.W.kitOne K (.ref C_BadFraction) (.ref C_BadText) = some false)
    (kit_BadFraction_TooGreat : PySem.W.kitOne K (.ref C_BadFraction) (.ref C_TooGreat) = some false)
    (kit_BadFraction_Nothing : PySem.W.kitOne K (.ref C_BadFraction) (.ref C_Nothing) = some false)
    (exm_BadFraction : PySem.W.exmAny K (.ref C_BadFraction) [.ref C_WheelError, .ref C_Nothing, .ref C_TooGreat] = some true)
    (kit_BadNumber_BadBase : PySem.W.kitOne K (.ref C_BadNumber) (.ref C_BadBase) = some false)
    (kit_BadNumber_BadDenominator : PySem.W.kitOne K (.ref C_BadNumber) (.ref C_BadDenominator) = some false)
    (kit_BadNumber_BadFraction : PySem.W.kitOne K (.ref C_BadNumber) (.ref C_BadFraction) = some false)
    (kit_BadNumber_BadDigits : PySem.W.kitOne K (.ref C_BadNumber) (.ref C_BadDigits) = some false)
    (kit_BadNumber_BadNumber : PySem.W.kitOne K (.ref C_BadNumber) (.ref C_BadNumber) = some true)
    (kit_BadNumber_BadPaper : PySem.W.kitOne K (.ref C_BadNumber) (.ref C_BadPaper) = some false)
    (kit_BadNumber_BadText : PySem.W.kitOne K (.ref C_BadNumber) (.ref C_BadText) = some false)
    (kit_BadNumber_TooGreat : PySem.W.kitOne K (.ref C_BadNumber) (.ref C_TooGreat) = some false)
    (kit_BadNumber_Nothing : PySem.W.kitOne K (.ref C_BadNumber) (.ref C_Nothing) = some false)
    (exm_BadNumber : PySem.W.exmAny K (.ref C_BadNumber) [.ref C_WheelError, .ref C_Nothing, .ref C_TooGreat] = some true)
    (kit_TooGreat_BadBase : PySem.W.kitOne K (.ref C_TooGreat) (.ref C_BadBase) = some false)
    (kit_TooGreat_BadDenominator : PySem.W.kitOne K (.ref C_TooGreat) (.ref C_BadDenominator) = some false)
    (kit_TooGreat_BadFraction : PySem.W.kitOne K (.ref C_TooGreat) (.ref C_BadFraction) = some false)
    (kit_TooGreat_BadDigits : PySem.W.kitOne K (.ref C_TooGreat) (.ref C_BadDigits) = some false)
    (kit_TooGreat_BadNumber : PySem.W.kitOne K (.ref C_TooGreat) (.ref C_BadNumber) = some false)
    (kit_TooGreat_BadPaper : PySem.W.kitOne K (.ref C_TooGreat) (.ref C_BadPaper) = some false)
    (kit_TooGreat_BadText : PySem.W.kitOne K (.ref C_TooGreat) (.ref C_BadText) = some false)
    (kit_TooGreat_TooGreat : PySem.W.kitOne K (.ref C_TooGreat) (.ref C_TooGreat) = some true)
    (kit_TooGreat_Nothing : PySem.W.kitOne K (.ref C_TooGreat) (.ref C_Nothing) = some false)
    (exm_TooGreat : PySem.W.exmAny K (.ref C_TooGreat) [.ref C_WheelError, .ref C_Nothing, .ref C_TooGreat] = some true)
    (kit_Nothing_BadBase : PySem.W.kitOne K (.ref C_Nothing) (.ref C_BadBase) = some false)
    (kit_Nothing_BadDenominator : PySem.W.kitOne K (.ref C_Nothing) (.ref C_BadDenominator) = some false)
    (kit_Nothing_BadFraction : PySem.W.kitOne K (.ref C_Nothing) (.ref C_BadFraction) = some false)
    (kit_Nothing_BadDigits : PySem.W.kitOne K (.ref C_Nothing) (.ref C_BadDigits) = some false)
    (kit_Nothing_BadNumber : PySem.W.kitOne K (.ref C_Nothing) (.ref C_BadNumber) = some false)
    (kit_Nothing_BadPaper : PySem.W.kitOne K (.ref C_Nothing) (.ref C_BadPaper) = some false)
    (kit_Nothing_BadText : PySem.W.kitOne K (.ref C_Nothing) (.ref C_BadText) = some false)
    (kit_Nothing_TooGreat : PySem.W.kitOne K (.ref C_Nothing) (.ref C_TooGreat) = some false)
    (kit_Nothing_Nothing : PySem.W.kitOne K (.ref C_Nothing) (.ref C_Nothing) = some true)
    (exm_Nothing : PySem.W.exmAny K (.ref C_Nothing) [.ref C_WheelError, .ref C_Nothing, .ref C_TooGreat] = some true)
    (gc_Dial : PySem.W.nsIn K mainGlobals "Dial" = some (some (.ref C_Dial)))
    (opg_Dial : PySem.W.plainGet K C_Dial Str.empty = true)
    (ohd_Dial : PySem.W.hasDictIn K C_Dial = true)
    (opo_Dial : PySem.W.plainOver K C_Dial = true)
    (osa_Dial : PySem.W.findIn K (.ref C_Dial) "__setattr__" = some (some (.builtin "object.__setattr__")))
    (onf_Dial_base : PySem.W.findIn K (.ref C_Dial) "_base" = some none)
    (onf_Dial_shown : PySem.W.findIn K (.ref C_Dial) "_shown" = some none)
    (onf_Dial_past : PySem.W.findIn K (.ref C_Dial) "_past" = some none)
    (fi_Dial_init : PySem.W.findIn K (.ref C_Dial) "__init__" = some (some (.ref m_Dial_init)))
    (l_Dial_init : K.lookup m_Dial_init = some ⟨oc_Dial_init, od_Dial_init, .func (PySem.W.fnOf "__init__" "Dial.__init__" (defArgs s_Dial_init) (defBody s_Dial_init) (defScope s_Dial_init) .none kV_Dial_init dc_Dial_init pm_Dial_init an_Dial_init cd_Dial_init ct_Dial_init), sl_Dial_init⟩)
    (c_Dial_init : PySem.W.codeIn K cd_Dial_init "Dial.__init__" = true)
    (k_Dial_init : PySem.W.keepIn K (.ref m_Dial_init) = true)
    (if_Dial_init : PySem.W.isFn K (.ref m_Dial_init) = true)
    (mm_Dial : PySem.W.makesIn K C_Dial = true)
    (kc_Dial : PySem.W.keepIn K (.ref C_Dial) = true)
    (pa_Dial_base : PySem.W.findIn K (.ref C_Dial) "base" = some (some (.ref p_Dial_base)))
    (pb_Dial_base : PySem.W.specialIn K (.ref p_Dial_base) "__get__" = some (some (.builtin "property.__get__")))
    (pc_Dial_base : PySem.W.takesIn K (.ref p_Dial_base) = some true)
    (pd_Dial_base : PySem.W.recIn K p_Dial_base "property" = some (.ref m_Dial_base :: re_Dial_base))
    (l_Dial_base : K.lookup m_Dial_base = some ⟨oc_Dial_base, od_Dial_base, .func (PySem.W.fnOf "base" "Dial.base" (defArgs s_Dial_base) (defBody s_Dial_base) (defScope s_Dial_base) .none kV_Dial_base dc_Dial_base pm_Dial_base an_Dial_base cd_Dial_base ct_Dial_base), sl_Dial_base⟩)
    (c_Dial_base : PySem.W.codeIn K cd_Dial_base "Dial.base" = true)
    (k_Dial_base : PySem.W.keepIn K (.ref m_Dial_base) = true)
    (pa_Dial_fraction : PySem.W.findIn K (.ref C_Dial) "fraction" = some (some (.ref p_Dial_fraction)))
    (pb_Dial_fraction : PySem.W.specialIn K (.ref p_Dial_fraction) "__get__" = some (some (.builtin "property.__get__")))
    (pc_Dial_fraction : PySem.W.takesIn K (.ref p_Dial_fraction) = some true)
    (pd_Dial_fraction : PySem.W.recIn K p_Dial_fraction "property" = some (.ref m_Dial_fraction :: re_Dial_fraction))
    (l_Dial_fraction : K.lookup m_Dial_fraction = some ⟨oc_Dial_fraction, od_Dial_fraction, .func (PySem.W.fnOf "fraction" "Dial.fraction" (defArgs s_Dial_fraction) (defBody s_Dial_fraction) (defScope s_Dial_fraction) .none kV_Dial_fraction dc_Dial_fraction pm_Dial_fraction an_Dial_fraction cd_Dial_fraction ct_Dial_fraction), sl_Dial_fraction⟩)
    (c_Dial_fraction : PySem.W.codeIn K cd_Dial_fraction "Dial.fraction" = true)
    (k_Dial_fraction : PySem.W.keepIn K (.ref m_Dial_fraction) = true)
    (pa_Dial_first : PySem.W.findIn K (.ref C_Dial) "first" = some (some (.ref p_Dial_first)))
    (pb_Dial_first : PySem.W.specialIn K (.ref p_Dial_first) "__get__" = some (some (.builtin "property.__get__")))
    (pc_Dial_first : PySem.W.takesIn K (.ref p_Dial_first) = some true)
    (pd_Dial_first : PySem.W.recIn K p_Dial_first "property" = some (.ref m_Dial_first :: re_Dial_first))
    (l_Dial_first : K.lookup m_Dial_first = some ⟨oc_Dial_first, od_Dial_first, .func (PySem.W.fnOf "first" "Dial.first" (defArgs s_Dial_first) (defBody s_Dial_first) (defScope s_Dial_first) .none kV_Dial_first dc_Dial_first pm_Dial_first an_Dial_first cd_Dial_first ct_Dial_first), sl_Dial_first⟩)
    (c_Dial_first : PySem.W.codeIn K cd_Dial_first "Dial.first" = true)
    (k_Dial_first : PySem.W.keepIn K (.ref m_Dial_first) = true)
    (fi_Dial_move : PySem.W.findIn K (.ref C_Dial) "_move" = some (some (.ref m_Dial_move)))
    (l_Dial_move : K.lookup m_Dial_move = some ⟨oc_Dial_move, od_Dial_move, .func (PySem.W.fnOf "_move" "Dial._move" (defArgs s_Dial_move) (defBody s_Dial_move) (defScope s_Dial_move) .none kV_Dial_move dc_Dial_move pm_Dial_move an_Dial_move cd_Dial_move ct_Dial_move), sl_Dial_move⟩)
    (c_Dial_move : PySem.W.codeIn K cd_Dial_move "Dial._move" = true)
    (k_Dial_move : PySem.W.keepIn K (.ref m_Dial_move) = true)
    (if_Dial_move : PySem.W.isFn K (.ref m_Dial_move) = true)
    (fi_Dial_turn : PySem.W.findIn K (.ref C_Dial) "turn" = some (some (.ref m_Dial_turn)))
    (l_Dial_turn : K.lookup m_Dial_turn = some ⟨oc_Dial_turn, od_Dial_turn, .func (PySem.W.fnOf "turn" "Dial.turn" (defArgs s_Dial_turn) (defBody s_Dial_turn) (defScope s_Dial_turn) .none kV_Dial_turn dc_Dial_turn pm_Dial_turn an_Dial_turn cd_Dial_turn ct_Dial_turn), sl_Dial_turn⟩)
    (c_Dial_turn : PySem.W.codeIn K cd_Dial_turn "Dial.turn" = true)
    (k_Dial_turn : PySem.W.keepIn K (.ref m_Dial_turn) = true)
    (if_Dial_turn : PySem.W.isFn K (.ref m_Dial_turn) = true)
    (fi_Dial_add : PySem.W.findIn K (.ref C_Dial) "add" = some (some (.ref m_Dial_add)))
    (l_Dial_add : K.lookup m_Dial_add = some ⟨oc_Dial_add, od_Dial_add, .func (PySem.W.fnOf "add" "Dial.add" (defArgs s_Dial_add) (defBody s_Dial_add) (defScope s_Dial_add) .none kV_Dial_add dc_Dial_add pm_Dial_add an_Dial_add cd_Dial_add ct_Dial_add), sl_Dial_add⟩)
    (c_Dial_add : PySem.W.codeIn K cd_Dial_add "Dial.add" = true)
    (k_Dial_add : PySem.W.keepIn K (.ref m_Dial_add) = true)
    (if_Dial_add : PySem.W.isFn K (.ref m_Dial_add) = true)
    (fi_Dial_scale : PySem.W.findIn K (.ref C_Dial) "scale" = some (some (.ref m_Dial_scale)))
    (l_Dial_scale : K.lookup m_Dial_scale = some ⟨oc_Dial_scale, od_Dial_scale, .func (PySem.W.fnOf "scale" "Dial.scale" (defArgs s_Dial_scale) (defBody s_Dial_scale) (defScope s_Dial_scale) .none kV_Dial_scale dc_Dial_scale pm_Dial_scale an_Dial_scale cd_Dial_scale ct_Dial_scale), sl_Dial_scale⟩)
    (c_Dial_scale : PySem.W.codeIn K cd_Dial_scale "Dial.scale" = true)
    (k_Dial_scale : PySem.W.keepIn K (.ref m_Dial_scale) = true)
    (if_Dial_scale : PySem.W.isFn K (.ref m_Dial_scale) = true)
    (fi_Dial_call : PySem.W.findIn K (.ref C_Dial) "__call__" = some (some (.ref m_Dial_call)))
    (l_Dial_call : K.lookup m_Dial_call = some ⟨oc_Dial_call, od_Dial_call, .func (PySem.W.fnOf "__call__" "Dial.__call__" (defArgs s_Dial_call) (defBody s_Dial_call) (defScope s_Dial_call) .none kV_Dial_call dc_Dial_call pm_Dial_call an_Dial_call cd_Dial_call ct_Dial_call), sl_Dial_call⟩)
    (c_Dial_call : PySem.W.codeIn K cd_Dial_call "Dial.__call__" = true)
    (k_Dial_call : PySem.W.keepIn K (.ref m_Dial_call) = true)
    (if_Dial_call : PySem.W.isFn K (.ref m_Dial_call) = true)
    (fk_Dial_call : PySem.W.fnIn K m_Dial_call = true)
    (fi_Dial_undo : PySem.W.findIn K (.ref C_Dial) "undo" = some (some (.ref m_Dial_undo)))
    (l_Dial_undo : K.lookup m_Dial_undo = some ⟨oc_Dial_undo, od_Dial_undo, .func (PySem.W.fnOf "undo" "Dial.undo" (defArgs s_Dial_undo) (defBody s_Dial_undo) (defScope s_Dial_undo) .none (.ref D_Dial_undo) dc_Dial_undo pm_Dial_undo an_Dial_undo cd_Dial_undo ct_Dial_undo), sl_Dial_undo⟩)
    (kd_Dial_undo : PySem.W.nsIn K D_Dial_undo "many" = some (some (.int 1 tk_Dial_undo)))
    (c_Dial_undo : PySem.W.codeIn K cd_Dial_undo "Dial.undo" = true)
    (k_Dial_undo : PySem.W.keepIn K (.ref m_Dial_undo) = true)
    (if_Dial_undo : PySem.W.isFn K (.ref m_Dial_undo) = true)
    (fi_Dial_len : PySem.W.findIn K (.ref C_Dial) "__len__" = some (some (.ref m_Dial_len)))
    (l_Dial_len : K.lookup m_Dial_len = some ⟨oc_Dial_len, od_Dial_len, .func (PySem.W.fnOf "__len__" "Dial.__len__" (defArgs s_Dial_len) (defBody s_Dial_len) (defScope s_Dial_len) .none kV_Dial_len dc_Dial_len pm_Dial_len an_Dial_len cd_Dial_len ct_Dial_len), sl_Dial_len⟩)
    (c_Dial_len : PySem.W.codeIn K cd_Dial_len "Dial.__len__" = true)
    (k_Dial_len : PySem.W.keepIn K (.ref m_Dial_len) = true)
    (if_Dial_len : PySem.W.isFn K (.ref m_Dial_len) = true)
    (ir_LookupError : PySem.W.findCls K (.type "LookupError") (.type "type") "__init__" = some (.val (.builtin "LookupError.__init__")))
    (ir_OverflowError : PySem.W.findCls K (.type "OverflowError") (.type "type") "__init__" = some (.val (.builtin "OverflowError.__init__")))
    (e_law_moves_right : cd_law_moves_right = .ref kk_law_moves_right)
    (lk_law_moves_right : K.lookup kk_law_moves_right = some ⟨c1_law_moves_right, d1_law_moves_right, .fields vs_law_moves_right, s1_law_moves_right⟩)
    (tv_law_moves_right : vs_law_moves_right[11]? = some (.ref pp_law_moves_right))
    (np_law_moves_right : K.lookup pp_law_moves_right = none)
    (e_law_made_right : cd_law_made_right = .ref kk_law_made_right)
    (lk_law_made_right : K.lookup kk_law_made_right = some ⟨c1_law_made_right, d1_law_made_right, .fields vs_law_made_right, s1_law_made_right⟩)
    (tv_law_made_right : vs_law_made_right[11]? = some (.ref pp_law_made_right))
    (np_law_made_right : K.lookup pp_law_made_right = none)
    (e_law_great_right : cd_law_great_right = .ref kk_law_great_right)
    (lk_law_great_right : K.lookup kk_law_great_right = some ⟨c1_law_great_right, d1_law_great_right, .fields vs_law_great_right, s1_law_great_right⟩)
    (tv_law_great_right : vs_law_great_right[11]? = some (.ref pp_law_great_right))
    (np_law_great_right : K.lookup pp_law_great_right = none)
    (ne_law_moves_right_law_made_right : pp_law_moves_right ≠ pp_law_made_right)
    (ne_law_moves_right_law_great_right : pp_law_moves_right ≠ pp_law_great_right)
    (ne_law_made_right_law_great_right : pp_law_made_right ≠ pp_law_great_right)
    (zc_MOST_BASE : PySem.W.nsIn K mainGlobals "MOST_BASE" = some (some (.int 1000 t_MOST_BASE)))
    (zc_MOST_DENOMINATOR : PySem.W.nsIn K mainGlobals "MOST_DENOMINATOR" = some (some (.int 5000 t_MOST_DENOMINATOR)))
    (zc_LAST_PLACE : PySem.W.nsIn K mainGlobals "LAST_PLACE" = some (some (.int 1000000000000000000000000000000 t_LAST_PLACE)))
    (zc_MOST_TIMES : PySem.W.nsIn K mainGlobals "MOST_TIMES" = some (some (.int 1000000000000000000000000000000 t_MOST_TIMES)))
    : ∃ (fd : FuncData) (cs : List (Addr × Addr)) (sp : Sp), (∀ p ∈ cs, (∃ y ∈ (["_law_moves_right", "_law_made_right", "_law_great_right"] : List Str), PySem.W.tabIn K y = some p) ∧ K.lookup p.2 = none) ∧ (∀ (s : Shared) (v : Value), BindsTo s fd ⟨[v], []⟩ [("script", v)]) ∧
      (∀ (H : Hp) (a : Addr) (ns : List Int), ns.length ≤ 63 → (∀ p ∈ cs, H p.2 = some (.tbl #[])) → SqL K H a (ns.map V.int) → sp [.ref a] H (fun v _ => v = .bl true) fun _ _ _ => False) ∧
      ∀ base : Heap, K.In base → base.Ns mainGlobals mg → (∀ p ∈ cs, LamX.TabB base mg p.1 p.2) → FnG l.prog w K mg base CX0 14 fa fd ["script"] sp := by
  obtain ⟨T, hTT⟩ : ∃ T : Txt K mg, T = {
    d_is_integer := Dn.of X G (fun us hl => match us, hl with | [_], _ => rfl) a_is_integer l_is_integer c_is_integer k_is_integer
    d_is_within := Dn.of X G (fun us hl => match us, hl with | [_, _, _], _ => rfl) a_is_within l_is_within c_is_within k_is_within
    d_need_base := Dn.of X G (fun us hl => match us, hl with | [_], _ => rfl) a_need_base l_need_base c_need_base k_need_base
    d_need_denominator := Dn.of X G (fun us hl => match us, hl with | [_], _ => rfl) a_need_denominator l_need_denominator c_need_denominator k_need_denominator
    d_need_fraction := Dn.of X G (fun us hl => match us, hl with | [_], _ => rfl) a_need_fraction l_need_fraction c_need_fraction k_need_fraction
    d_reduced := Dn.of X G (fun us hl => match us, hl with | [_, _], _ => rfl) a_reduced l_reduced c_reduced k_reduced
    d_power_rest := Dn.of X G (fun us hl => match us, hl with | [_, _, _], _ => rfl) a_power_rest l_power_rest c_power_rest k_power_rest
    d_remainder_at := Dn.of X G (fun us hl => match us, hl with | [_, _, _], _ => rfl) a_remainder_at l_remainder_at c_remainder_at k_remainder_at
    d_digit_at := Dn.of X G (fun us hl => match us, hl with | [_, _, _], _ => rfl) a_digit_at l_digit_at c_digit_at k_digit_at
    d_added := Dn.of X G (fun us hl => match us, hl with | [_, _], _ => rfl) a_added l_added c_added k_added
    d_law_begun := Dn.of X G (fun us hl => match us, hl with | [_], _ => rfl) a_law_begun l_law_begun c_law_begun k_law_begun
    d_law_draw := Dn.of X G (fun us hl => match us, hl with | [_, _], _ => rfl) a_law_draw l_law_draw c_law_draw k_law_draw
    d_law_of := Dn.of X G (fun us hl => match us, hl with | [_, _], _ => rfl) a_law_of l_law_of c_law_of k_law_of
    d_law_divisor := Dn.of X G (fun us hl => match us, hl with | [_, _], _ => rfl) a_law_divisor l_law_divisor c_law_divisor k_law_divisor
    d_law_part := Dn.of X G (fun us hl => match us, hl with | [_, _], _ => rfl) a_law_part l_law_part c_law_part k_law_part
    d_law_ring := Dn.of X G (fun us hl => match us, hl with | [_, _], _ => rfl) a_law_ring l_law_ring c_law_ring k_law_ring
    d_law_base := Dn.of X G (fun us hl => match us, hl with | [_], _ => rfl) a_law_base l_law_base c_law_base k_law_base
    d_law_lowest := Dn.of X G (fun us hl => match us, hl with | [_, _], _ => rfl) a_law_lowest l_law_lowest c_law_lowest k_law_lowest
    d_law_after := Dn.of X G (fun us hl => match us, hl with | [_, _, _], _ => rfl) a_law_after l_law_after c_law_after k_law_after
    d_law_deal := Dn.of X G (fun us hl => match us, hl with | [_, _, _], _ => rfl) a_law_deal l_law_deal c_law_deal k_law_deal
    d_law_stands := Dn.of X G (fun us hl => match us, hl with | [_, _], _ => rfl) a_law_stands l_law_stands c_law_stands k_law_stands
    d_law_word := Dn.of X G (fun us hl => match us, hl with | [_], _ => rfl) a_law_word l_law_word c_law_word k_law_word
    d_law_outcome := Dn.of X G (fun us hl => match us, hl with | [_], _ => rfl) a_law_outcome l_law_outcome c_law_outcome k_law_outcome
    d_law_is := Dn.of X G (fun us hl => match us, hl with | [_, _], _ => rfl) a_law_is l_law_is c_law_is k_law_is
    d_law_odd_numbers := Dn.of X G (fun us hl => match us, hl with | [_, _], _ => rfl) a_law_odd_numbers l_law_odd_numbers c_law_odd_numbers k_law_odd_numbers
    d_law_odd_fractions := Dn.of X G (fun us hl => match us, hl with | [], _ => rfl) a_law_odd_fractions l_law_odd_fractions c_law_odd_fractions k_law_odd_fractions
    d_law_moves_right := Dn.of X G (fun us hl => match us, hl with | [_], _ => rfl) a_law_moves_right l_law_moves_right c_law_moves_right k_law_moves_right
    d_law_made_right := Dn.of X G (fun us hl => match us, hl with | [], _ => rfl) a_law_made_right l_law_made_right c_law_made_right k_law_made_right
    d_law_great_right := Dn.of X G (fun us hl => match us, hl with | [], _ => rfl) a_law_great_right l_law_great_right c_law_great_right k_law_great_right
    d_law := Dn.of X G (fun us hl => match us, hl with | [_], _ => rfl) a_law l_law c_law k_law
    b_isinstance := PySem.W.mg_none_of X G zb_isinstance
    b_int := PySem.W.mg_none_of X G zb_int
    b_bool := PySem.W.mg_none_of X G zb_bool
    b_len := PySem.W.mg_none_of X G zb_len
    b_range := PySem.W.mg_none_of X G zb_range
    b_tuple := PySem.W.mg_none_of X G zb_tuple
    b_list := PySem.W.mg_none_of X G zb_list
    b_min := PySem.W.mg_none_of X G zb_min
    b_repr := PySem.W.mg_none_of X G zb_repr
    b_OverflowError := PySem.W.mg_none_of X G zb_OverflowError
    b_LookupError := PySem.W.mg_none_of X G zb_LookupError
    b_gcd := PySem.W.mg_of X G zb_gcd
    C_WheelError := C_WheelError
    g_WheelError := PySem.W.mg_of X G gc_WheelError
    r_WheelError := ⟨rd_WheelError, rg_WheelError⟩
    i_WheelError := ri_WheelError
    C_BadBase := C_BadBase
    g_BadBase := PySem.W.mg_of X G gc_BadBase
    I_BadBase := I_BadBase
    T_BadBase := ⟨PySem.F.excBase_ValueError, PySem.F.store_ValueError, ini_BadBase, ov_BadBase, hd_BadBase, sa_BadBase, ex_BadBase, ty_BadBase, kp_BadBase, tk_BadBase, no_BadBase, iC_BadBase, tI_BadBase, ga_BadBase, gg_BadBase, ha_BadBase, mr_BadBase⟩
    fd_BadBase := _
    F_BadBase := fun_mk il_BadBase ic_BadBase ik_BadBase
    b_BadBase := .all (fun us hl => match us, hl with | [_, _], _ => rfl)
    is_BadBase := ⟨cl_BadBase, ga_BadBase, gg_BadBase, ex_BadBase, ha_BadBase, hn_BadBase, ht_BadBase, mr_BadBase⟩
    C_BadDenominator := C_BadDenominator
    g_BadDenominator := PySem.W.mg_of X G gc_BadDenominator
    C_BadFraction := C_BadFraction
    g_BadFraction := PySem.W.mg_of X G gc_BadFraction
    I_BadFraction := I_BadFraction
    T_BadFraction := ⟨PySem.F.excBase_ValueError, PySem.F.store_ValueError, ini_BadFraction, ov_BadFraction, hd_BadFraction, sa_BadFraction, ex_BadFraction, ty_BadFraction, kp_BadFraction, tk_BadFraction, no_BadFraction, iC_BadFraction, tI_BadFraction, ga_BadFraction, gg_BadFraction, ha_BadFraction, mr_BadFraction⟩
    fd_BadFraction := _
    F_BadFraction := fun_mk il_BadFraction ic_BadFraction ik_BadFraction
    b_BadFraction := .all (fun us hl => match us, hl with | [_, _], _ => rfl)
    is_BadFraction := ⟨cl_BadFraction, ga_BadFraction, gg_BadFraction, ex_BadFraction, ha_BadFraction, hn_BadFraction, ht_BadFraction, mr_BadFraction⟩
    C_BadDigits := C_BadDigits
    g_BadDigits := PySem.W.mg_of X G gc_BadDigits
    C_BadNumber := C_BadNumber
    g_BadNumber := PySem.W.mg_of X G gc_BadNumber
    I_BadNumber := I_BadNumber
    T_BadNumber := ⟨PySem.F.excBase_ValueError, PySem.F.store_ValueError, ini_BadNumber, ov_BadNumber, hd_BadNumber, sa_BadNumber, ex_BadNumber, ty_BadNumber, kp_BadNumber, tk_BadNumber, no_BadNumber, iC_BadNumber, tI_BadNumber, ga_BadNumber, gg_BadNumber, ha_BadNumber, mr_BadNumber⟩
    fd_BadNumber := _
    F_BadNumber := fun_mk il_BadNumber ic_BadNumber ik_BadNumber
    b_BadNumber := .all (fun us hl => match us, hl with | [_, _], _ => rfl)
    is_BadNumber := ⟨cl_BadNumber, ga_BadNumber, gg_BadNumber, ex_BadNumber, ha_BadNumber, hn_BadNumber, ht_BadNumber, mr_BadNumber⟩
    C_BadPaper := C_BadPaper
    g_BadPaper := PySem.W.mg_of X G gc_BadPaper
    C_BadText := C_BadText
    g_BadText := PySem.W.mg_of X G gc_BadText
    C_TooGreat := C_TooGreat
    g_TooGreat := PySem.W.mg_of X G gc_TooGreat
    I_TooGreat := I_TooGreat
    T_TooGreat := ⟨PySem.F.excBase_OverflowError, PySem.F.store_OverflowError, ini_TooGreat, ov_TooGreat, hd_TooGreat, sa_TooGreat, ex_TooGreat, ty_TooGreat, kp_TooGreat, tk_TooGreat, no_TooGreat, iC_TooGreat, tI_TooGreat, ga_TooGreat, gg_TooGreat, ha_TooGreat, mr_TooGreat⟩
    fd_TooGreat := _
    F_TooGreat := fun_mk il_TooGreat ic_TooGreat ik_TooGreat
    b_TooGreat := .all (fun us hl => match us, hl with | [_, _], _ => rfl)
    is_TooGreat := ⟨cl_TooGreat, ga_TooGreat, gg_TooGreat, ex_TooGreat, ha_TooGreat, hn_TooGreat, ht_TooGreat, mr_TooGreat⟩
    C_Nothing := C_Nothing
    g_Nothing := PySem.W.mg_of X G gc_Nothing
    I_Nothing := I_Nothing
    T_Nothing := ⟨PySem.F.excBase_LookupError, PySem.F.store_LookupError, ini_Nothing, ov_Nothing, hd_Nothing, sa_Nothing, ex_Nothing, ty_Nothing, kp_Nothing, tk_Nothing, no_Nothing, iC_Nothing, tI_Nothing, ga_Nothing, gg_Nothing, ha_Nothing, mr_Nothing⟩
    fd_Nothing := _
    F_Nothing := fun_mk il_Nothing ic_Nothing ik_Nothing
    b_Nothing := .all (fun us hl => match us, hl with | [_, _], _ => rfl)
    is_Nothing := ⟨cl_Nothing, ga_Nothing, gg_Nothing, ex_Nothing, ha_Nothing, hn_Nothing, ht_Nothing, mr_Nothing⟩
    kit_BadBase_BadBase := kit_BadBase_BadBase
    kit_BadBase_BadDenominator := kit_BadBase_BadDenominator
    kit_BadBase_BadFraction := kit_BadBase_BadFraction
    kit_BadBase_BadDigits := kit_BadBase_BadDigits
    kit_BadBase_BadNumber := kit_BadBase_BadNumber
    kit_BadBase_BadPaper := kit_BadBase_BadPaper
    kit_BadBase_BadText := kit_BadBase_BadText
    kit_BadBase_TooGreat := kit_BadBase_TooGreat
    kit_BadBase_Nothing := kit_BadBase_Nothing
    exm_BadBase := exm_BadBase
    kit_BadFraction_BadBase := kit_BadFraction_BadBase
    kit_BadFraction_BadDenominator := kit_BadFraction_BadDenominator
    kit_BadFraction_BadFraction := kit_BadFraction_BadFraction
    kit_BadFraction_BadDigits := kit_BadFraction_BadDigits
    kit_BadFraction_BadNumber := kit_BadFraction_BadNumber
    kit_BadFraction_BadPaper := kit_BadFraction_BadPaper
    kit_BadFraction_BadText := kit_BadFraction_BadText
    kit_BadFraction_TooGreat := kit_BadFraction_TooGreat
    kit_BadFraction_Nothing := kit_BadFraction_Nothing
    exm_BadFraction := exm_BadFraction
    kit_BadNumber_BadBase := kit_BadNumber_BadBase
    kit_BadNumber_BadDenominator := kit_BadNumber_BadDenominator
    kit_BadNumber_BadFraction := kit_BadNumber_BadFraction
    kit_BadNumber_BadDigits := kit_BadNumber_BadDigits
    kit_BadNumber_BadNumber := kit_BadNumber_BadNumber
    kit_BadNumber_BadPaper := kit_BadNumber_BadPaper
    kit_BadNumber_BadText := kit_BadNumber_BadText
    kit_BadNumber_TooGreat := kit_BadNumber_TooGreat
    kit_BadNumber_Nothing := kit_BadNumber_Nothing
    exm_BadNumber := exm_BadNumber
    kit_TooGreat_BadBase := kit_TooGreat_BadBase
    kit_TooGreat_BadDenominator := kit_TooGreat_BadDenominator
    kit_TooGreat_BadFraction := kit_TooGreat_BadFraction
    kit_TooGreat_BadDigits := kit_TooGreat_BadDigits
    kit_TooGreat_BadNumber := kit_TooGreat_BadNumber
    kit_TooGreat_BadPaper := kit_TooGreat_BadPaper
    kit_TooGreat_BadText := kit_TooGreat_BadText
    kit_TooGreat_TooGreat := kit_TooGreat_TooGreat
    kit_TooGreat_Nothing := kit_TooGreat_Nothing
    exm_TooGreat := exm_TooGreat
    kit_Nothing_BadBase := kit_Nothing_BadBase
    kit_Nothing_BadDenominator := kit_Nothing_BadDenominator
    kit_Nothing_BadFraction := kit_Nothing_BadFraction
    kit_Nothing_BadDigits := kit_Nothing_BadDigits
    kit_Nothing_BadNumber := kit_Nothing_BadNumber
    kit_Nothing_BadPaper := kit_Nothing_BadPaper
    kit_Nothing_BadText := kit_Nothing_BadText
    kit_Nothing_TooGreat := kit_Nothing_TooGreat
    kit_Nothing_Nothing := kit_Nothing_Nothing
    exm_Nothing := exm_Nothing
    C_Dial := C_Dial
    g_Dial := PySem.W.mg_of X G gc_Dial
    cl_Dial := ⟨opg_Dial, ohd_Dial, opo_Dial, osa_Dial⟩
    nf_Dial_base := onf_Dial_base
    nf_Dial_shown := onf_Dial_shown
    nf_Dial_past := onf_Dial_past
    m_Dial_init := m_Dial_init
    fd_Dial_init := _
    F_Dial_init := fun_mk l_Dial_init c_Dial_init k_Dial_init
    b_Dial_init := .all (fun us hl => match us, hl with | [_, _, _], _ => rfl)
    mk_Dial := ⟨mm_Dial, fi_Dial_init, if_Dial_init, kc_Dial⟩
    m_Dial_base := m_Dial_base
    fd_Dial_base := _
    F_Dial_base := fun_mk l_Dial_base c_Dial_base k_Dial_base
    b_Dial_base := .all (fun us hl => match us, hl with | [_], _ => rfl)
    p_Dial_base := p_Dial_base
    pr_Dial_base := ⟨pa_Dial_base, pb_Dial_base, pc_Dial_base, ⟨_, pd_Dial_base⟩⟩
    m_Dial_fraction := m_Dial_fraction
    fd_Dial_fraction := _
    F_Dial_fraction := fun_mk l_Dial_fraction c_Dial_fraction k_Dial_fraction
    b_Dial_fraction := .all (fun us hl => match us, hl with | [_], _ => rfl)
    p_Dial_fraction := p_Dial_fraction
    pr_Dial_fraction := ⟨pa_Dial_fraction, pb_Dial_fraction, pc_Dial_fraction, ⟨_, pd_Dial_fraction⟩⟩
    m_Dial_first := m_Dial_first
    fd_Dial_first := _
    F_Dial_first := fun_mk l_Dial_first c_Dial_first k_Dial_first
    b_Dial_first := .all (fun us hl => match us, hl with | [_], _ => rfl)
    p_Dial_first := p_Dial_first
    pr_Dial_first := ⟨pa_Dial_first, pb_Dial_first, pc_Dial_first, ⟨_, pd_Dial_first⟩⟩
    m_Dial_move := m_Dial_move
    fd_Dial_move := _
    F_Dial_move := fun_mk l_Dial_move c_Dial_move k_Dial_move
    b_Dial_move := .all (fun us hl => match us, hl with | [_, _], _ => rfl)
    me_Dial_move := ⟨fi_Dial_move, if_Dial_move, k_Dial_move⟩
    m_Dial_turn := m_Dial_turn
    fd_Dial_turn := _
    F_Dial_turn := fun_mk l_Dial_turn c_Dial_turn k_Dial_turn
    b_Dial_turn := .all (fun us hl => match us, hl with | [_, _], _ => rfl)
    me_Dial_turn := ⟨fi_Dial_turn, if_Dial_turn, k_Dial_turn⟩
    m_Dial_add := m_Dial_add
    fd_Dial_add := _
    F_Dial_add := fun_mk l_Dial_add c_Dial_add k_Dial_add
    b_Dial_add := .all (fun us hl => match us, hl with | [_, _], _ => rfl)
    me_Dial_add := ⟨fi_Dial_add, if_Dial_add, k_Dial_add⟩
    m_Dial_scale := m_Dial_scale
    fd_Dial_scale := _
    F_Dial_scale := fun_mk l_Dial_scale c_Dial_scale k_Dial_scale
    b_Dial_scale := .all (fun us hl => match us, hl with | [_, _], _ => rfl)
    me_Dial_scale := ⟨fi_Dial_scale, if_Dial_scale, k_Dial_scale⟩
    m_Dial_call := m_Dial_call
    fd_Dial_call := _
    F_Dial_call := fun_mk l_Dial_call c_Dial_call k_Dial_call
    b_Dial_call := .all (fun us hl => match us, hl with | [_, _], _ => rfl)
    ca_Dial := ⟨fi_Dial_call, if_Dial_call, fk_Dial_call⟩
    m_Dial_undo := m_Dial_undo
    fd_Dial_undo := _
    F_Dial_undo := ⟨⟨_, _, _, _, _, _, _, _, _, _, rfl, l_Dial_undo, c_Dial_undo, .inl ⟨rfl, rfl⟩, .inr ⟨D_Dial_undo, rfl, fun q hq => by rw [List.mem_singleton] at hq; subst hq; exact ⟨_, kd_Dial_undo, ⟨_, rfl⟩⟩⟩⟩, k_Dial_undo⟩
    me_Dial_undo := ⟨fi_Dial_undo, if_Dial_undo, k_Dial_undo⟩
    m_Dial_len := m_Dial_len
    fd_Dial_len := _
    F_Dial_len := fun_mk l_Dial_len c_Dial_len k_Dial_len
    b_Dial_len := .all (fun us hl => match us, hl with | [_], _ => rfl)
    at_Dial_len := fi_Dial_len
    fn_Dial_len := if_Dial_len
    i_LookupError := ir_LookupError
    i_OverflowError := ir_OverflowError
    k_law_moves_right := kk_law_moves_right
    p_law_moves_right := pp_law_moves_right
    e_law_moves_right := e_law_moves_right
    k_law_made_right := kk_law_made_right
    p_law_made_right := pp_law_made_right
    e_law_made_right := e_law_made_right
    k_law_great_right := kk_law_great_right
    p_law_great_right := pp_law_great_right
    e_law_great_right := e_law_great_right
    ne_law_moves_right_law_made_right := ne_law_moves_right_law_made_right
    ne_law_moves_right_law_great_right := ne_law_moves_right_law_great_right
    ne_law_made_right_law_great_right := ne_law_made_right_law_great_right
    t_MOST_BASE := t_MOST_BASE
    c_MOST_BASE := PySem.W.mg_of X G zc_MOST_BASE
    t_MOST_DENOMINATOR := t_MOST_DENOMINATOR
    c_MOST_DENOMINATOR := PySem.W.mg_of X G zc_MOST_DENOMINATOR
    t_LAST_PLACE := t_LAST_PLACE
    c_LAST_PLACE := PySem.W.mg_of X G zc_LAST_PLACE
    t_MOST_TIMES := t_MOST_TIMES
    c_MOST_TIMES := PySem.W.mg_of X G zc_MOST_TIMES
  } := ⟨_, rfl⟩
  have e := hfa.symm.trans T.d_law.m
  cases e
  refine ⟨T.d_law.fd, [(T.k_law_moves_right, T.p_law_moves_right), (T.k_law_made_right, T.p_law_made_right), (T.k_law_great_right, T.p_law_great_right)], (sp_law T), ?_, fun s v => .of_eq (T.d_law.e [v] rfl), ?_, fun base _ _ hB => okG_law T ⟨hB (T.k_law_moves_right, T.p_law_moves_right) (by simp), hB (T.k_law_made_right, T.p_law_made_right) (by simp), hB (T.k_law_great_right, T.p_law_great_right) (by simp)⟩⟩
  · intro p hp
    simp only [List.mem_cons, List.not_mem_nil, or_false] at hp
    subst hTT
    rcases hp with rfl | rfl | rfl
    · exact ⟨⟨"_law_moves_right", by simp, tab_mk a_law_moves_right l_law_moves_right e_law_moves_right lk_law_moves_right tv_law_moves_right⟩, np_law_moves_right⟩
    · exact ⟨⟨"_law_made_right", by simp, tab_mk a_law_made_right l_law_made_right e_law_made_right lk_law_made_right tv_law_made_right⟩, np_law_made_right⟩
    · exact ⟨⟨"_law_great_right", by simp, tab_mk a_law_great_right l_law_great_right e_law_great_right lk_law_great_right tv_law_great_right⟩, np_law_great_right⟩
  · intro H a ns hl hT hS
    refine ⟨a, ns, rfl, tabs0 fun p hp => ?_, hS, hl, fun _ => rfl⟩
    unfold tl at hp
    simp only [List.mem_cons, List.not_mem_nil, or_false] at hp
    rcases hp with rfl | rfl | rfl
    · exact hT (T.k_law_moves_right, T.p_law_moves_right) (by simp)
    · exact hT (T.k_law_made_right, T.p_law_made_right) (by simp)
    · exact hT (T.k_law_great_right, T.p_law_great_right) (by simp)
end Wn
open PySem PySem.W PyProof.Rows
set_option maxRecDepth 100000 in
set_option maxHeartbeats 0 in
theorem PySem.Challenge.cw_wheelnines_k16_dials_refused_holds : PySem.Challenge.rw_wheelnines_k16_dials_refused.Holds := by
  w_on; o_law; k_head; (case hw => w_witness2)
  k_fill
  refine Wn.walkGT (l := PySem.Challenge.rw_wheelnines_k16_dials_refused) (n := 63) (k := 14) (x := "script") (xs := ["_law_moves_right", "_law_made_right", "_law_great_right"]) rfl (by decide) rfl ⟨rfl, by decide, by decide⟩ (by decide +kernel) (fun w h Y => by first | exact PySem.W.km_in_of Y | exact PySem.W.kIn_of Y) ?F
  case F =>
    intro w mg fa h KX G hmg
    refine' Wn.all_mk KX G hmg ?a_is_integer ?l_is_integer ?c_is_integer ?k_is_integer ?a_is_within ?l_is_within ?c_is_within ?k_is_within ?a_need_base ?l_need_base ?c_need_base ?k_need_base ?a_need_denominator ?l_need_denominator ?c_need_denominator ?k_need_denominator ?a_need_fraction ?l_need_fraction ?c_need_fraction ?k_need_fraction ?a_reduced ?l_reduced ?c_reduced ?k_reduced ?a_power_rest ?l_power_rest ?c_power_rest ?k_power_rest ?a_remainder_at ?l_remainder_at ?c_remainder_at ?k_remainder_at ?a_digit_at ?l_digit_at ?c_digit_at ?k_digit_at ?a_added ?l_added ?c_added ?k_added ?a_law_begun ?l_law_begun ?c_law_begun ?k_law_begun ?a_law_draw ?l_law_draw ?c_law_draw ?k_law_draw ?a_law_of ?l_law_of ?c_law_of ?k_law_of ?a_law_divisor ?l_law_divisor ?c_law_divisor ?k_law_divisor ?a_law_part ?l_law_part ?c_law_part ?k_law_part ?a_law_ring ?l_law_ring ?c_law_ring ?k_law_ring ?a_law_base ?l_law_base ?c_law_base ?k_law_base ?a_law_lowest ?l_law_lowest ?c_law_lowest ?k_law_lowest ?a_law_after ?l_law_after ?c_law_after ?k_law_after ?a_law_deal ?l_law_deal ?c_law_deal ?k_law_deal ?a_law_stands ?l_law_stands ?c_law_stands ?k_law_stands ?a_law_word ?l_law_word ?c_law_word ?k_law_word ?a_law_outcome ?l_law_outcome ?c_law_outcome ?k_law_outcome ?a_law_is ?l_law_is ?c_law_is ?k_law_is ?a_law_odd_numbers ?l_law_odd_numbers ?c_law_odd_numbers ?k_law_odd_numbers ?a_law_odd_fractions ?l_law_odd_fractions ?c_law_odd_fractions ?k_law_odd_fractions ?a_law_moves_right ?l_law_moves_right ?c_law_moves_right ?k_law_moves_right ?a_law_made_right ?l_law_made_right ?c_law_made_right ?k_law_made_right ?a_law_great_right ?l_law_great_right ?c_law_great_right ?k_law_great_right ?a_law ?l_law ?c_law ?k_law ?zb_isinstance ?zb_int ?zb_bool ?zb_len ?zb_range ?zb_tuple ?zb_list ?zb_min ?zb_repr ?zb_OverflowError ?zb_LookupError ?zb_gcd ?gc_WheelError ?rd_WheelError ?rg_WheelError ?ri_WheelError ?gc_BadBase ?iC_BadBase ?ini_BadBase ?ov_BadBase ?hd_BadBase ?sa_BadBase ?ex_BadBase ?ty_BadBase ?kp_BadBase ?tk_BadBase ?no_BadBase ?tI_BadBase ?ga_BadBase ?gg_BadBase ?ha_BadBase ?mr_BadBase ?il_BadBase ?ic_BadBase ?ik_BadBase ?cl_BadBase ?hn_BadBase ?ht_BadBase ?gc_BadDenominator ?gc_BadFraction ?iC_BadFraction ?ini_BadFraction ?ov_BadFraction ?hd_BadFraction ?sa_BadFraction ?ex_BadFraction ?ty_BadFraction ?kp_BadFraction ?tk_BadFraction ?no_BadFraction ?tI_BadFraction ?ga_BadFraction ?gg_BadFraction ?ha_BadFraction ?mr_BadFraction ?il_BadFraction ?ic_BadFraction ?ik_BadFraction ?cl_BadFraction ?hn_BadFraction ?ht_BadFraction ?gc_BadDigits ?gc_BadNumber ?iC_BadNumber ?ini_BadNumber ?ov_BadNumber ?hd_BadNumber ?sa_BadNumber ?ex_BadNumber ?ty_BadNumber ?kp_BadNumber ?tk_BadNumber ?no_BadNumber ?tI_BadNumber ?ga_BadNumber ?gg_BadNumber ?ha_BadNumber ?mr_BadNumber ?il_BadNumber ?ic_BadNumber ?ik_BadNumber ?cl_BadNumber ?hn_BadNumber ?ht_BadNumber ?gc_BadPaper ?gc_BadText ?gc_TooGreat ?iC_TooGreat ?ini_TooGreat ?ov_TooGreat ?hd_TooGreat ?sa_TooGreat ?ex_TooGreat ?ty_TooGreat ?kp_TooGreat ?tk_TooGreat ?no_TooGreat ?tI_TooGreat ?ga_TooGreat ?gg_TooGreat ?ha_TooGreat ?mr_TooGreat ?il_TooGreat ?ic_TooGreat ?ik_TooGreat ?cl_TooGreat ?hn_TooGreat ?ht_TooGreat ?gc_Nothing ?iC_Nothing ?ini_Nothing ?ov_Nothing ?hd_Nothing ?sa_Nothing ?ex_Nothing ?ty_Nothing ?kp_Nothing ?tk_Nothing ?no_Nothing ?tI_Nothing ?ga_Nothing ?gg_Nothing ?ha_Nothing ?mr_Nothing ?il_Nothing ?ic_Nothing ?ik_Nothing ?cl_Nothing ?hn_Nothing ?ht_Nothing ?kit_BadBase_BadBase ?kit_BadBase_BadDenominator ?kit_BadBase_BadFraction ?kit_BadBase_BadDigits ?kit_BadBase_BadNumber ?kit_BadBase_BadPaper ?kit_BadBase_BadText ?kit_BadBase_TooGreat ?kit_BadBase_Nothing ?exm_BadBase ?kit_BadFraction_BadBase ?kit_BadFraction_BadDenominator ?kit_BadFraction_BadFraction ?kit_BadFraction_BadDigits ?kit_BadFraction_BadNumber ?kit_BadFraction_BadPaper ?kit_BadFraction_BadText ?kit_BadFraction_TooGreat ?kit_BadFraction_Nothing ?exm_BadFraction ?kit_BadNumber_BadBase ?kit_BadNumber_BadDenominator ?kit_BadNumber_BadFraction ?kit_BadNumber_BadDigits ?kit_BadNumber_BadNumber ?kit_BadNumber_BadPaper ?kit_BadNumber_BadText ?kit_BadNumber_TooGreat ?kit_BadNumber_Nothing ?exm_BadNumber ?kit_TooGreat_BadBase ?kit_TooGreat_BadDenominator ?kit_TooGreat_BadFraction ?kit_TooGreat_BadDigits ?kit_TooGreat_BadNumber ?kit_TooGreat_BadPaper ?kit_TooGreat_BadText ?kit_TooGreat_TooGreat ?kit_TooGreat_Nothing ?exm_TooGreat ?kit_Nothing_BadBase ?kit_Nothing_BadDenominator ?kit_Nothing_BadFraction ?kit_Nothing_BadDigits ?kit_Nothing_BadNumber ?kit_Nothing_BadPaper ?kit_Nothing_BadText ?kit_Nothing_TooGreat ?kit_Nothing_Nothing ?exm_Nothing ?gc_Dial ?opg_Dial ?ohd_Dial ?opo_Dial ?osa_Dial ?onf_Dial_base ?onf_Dial_shown ?onf_Dial_past ?fi_Dial_init ?l_Dial_init ?c_Dial_init ?k_Dial_init ?if_Dial_init ?mm_Dial ?kc_Dial ?pa_Dial_base ?pb_Dial_base ?pc_Dial_base ?pd_Dial_base ?l_Dial_base ?c_Dial_base ?k_Dial_base ?pa_Dial_fraction ?pb_Dial_fraction ?pc_Dial_fraction ?pd_Dial_fraction ?l_Dial_fraction ?c_Dial_fraction ?k_Dial_fraction ?pa_Dial_first ?pb_Dial_first ?pc_Dial_first ?pd_Dial_first ?l_Dial_first ?c_Dial_first ?k_Dial_first ?fi_Dial_move ?l_Dial_move ?c_Dial_move ?k_Dial_move ?if_Dial_move ?fi_Dial_turn ?l_Dial_turn ?c_Dial_turn ?k_Dial_turn ?if_Dial_turn ?fi_Dial_add ?l_Dial_add ?c_Dial_add ?k_Dial_add ?if_Dial_add ?fi_Dial_scale ?l_Dial_scale ?c_Dial_scale ?k_Dial_scale ?if_Dial_scale ?fi_Dial_call ?l_Dial_call ?c_Dial_call ?k_Dial_call ?if_Dial_call ?fk_Dial_call ?fi_Dial_undo ?l_Dial_undo ?kd_Dial_undo ?c_Dial_undo ?k_Dial_undo ?if_Dial_undo ?fi_Dial_len ?l_Dial_len ?c_Dial_len ?k_Dial_len ?if_Dial_len ?ir_LookupError ?ir_OverflowError ?e_law_moves_right ?lk_law_moves_right ?tv_law_moves_right ?np_law_moves_right ?e_law_made_right ?lk_law_made_right ?tv_law_made_right ?np_law_made_right ?e_law_great_right ?lk_law_great_right ?tv_law_great_right ?np_law_great_right ?ne_law_moves_right_law_made_right ?ne_law_moves_right_law_great_right ?ne_law_made_right_law_great_right ?zc_MOST_BASE ?zc_MOST_DENOMINATOR ?zc_LAST_PLACE ?zc_MOST_TIMES
    (case a_is_integer => k_is)
    (case l_is_integer => k_is)
    (case c_is_integer => k_is)
    (case k_is_integer => k_is)
    (case a_is_within => k_is)
    (case l_is_within => k_is)
    (case c_is_within => k_is)
    (case k_is_within => k_is)
    (case a_need_base => k_is)
    (case l_need_base => k_is)
    (case c_need_base => k_is)
    (case k_need_base => k_is)
    (case a_need_denominator => k_is)
    (case l_need_denominator => k_is)
    (case c_need_denominator => k_is)
    (case k_need_denominator => k_is)
    (case a_need_fraction => k_is)
    (case l_need_fraction => k_is)
    (case c_need_fraction => k_is)
    (case k_need_fraction => k_is)
    (case a_reduced => k_is)
    (case l_reduced => k_is)
    (case c_reduced => k_is)
    (case k_reduced => k_is)
    (case a_power_rest => k_is)
    (case l_power_rest => k_is)
    (case c_power_rest => k_is)
    (case k_power_rest => k_is)
    (case a_remainder_at => k_is)
    (case l_remainder_at => k_is)
    (case c_remainder_at => k_is)
    (case k_remainder_at => k_is)
    (case a_digit_at => k_is)
    (case l_digit_at => k_is)
    (case c_digit_at => k_is)
    (case k_digit_at => k_is)
    (case a_added => k_is)
    (case l_added => k_is)
    (case c_added => k_is)
    (case k_added => k_is)
    (case a_law_begun => k_is)
    (case l_law_begun => k_is)
    (case c_law_begun => k_is)
    (case k_law_begun => k_is)
    (case a_law_draw => k_is)
    (case l_law_draw => k_is)
    (case c_law_draw => k_is)
    (case k_law_draw => k_is)
    (case a_law_of => k_is)
    (case l_law_of => k_is)
    (case c_law_of => k_is)
    (case k_law_of => k_is)
    (case a_law_divisor => k_is)
    (case l_law_divisor => k_is)
    (case c_law_divisor => k_is)
    (case k_law_divisor => k_is)
    (case a_law_part => k_is)
    (case l_law_part => k_is)
    (case c_law_part => k_is)
    (case k_law_part => k_is)
    (case a_law_ring => k_is)
    (case l_law_ring => k_is)
    (case c_law_ring => k_is)
    (case k_law_ring => k_is)
    (case a_law_base => k_is)
    (case l_law_base => k_is)
    (case c_law_base => k_is)
    (case k_law_base => k_is)
    (case a_law_lowest => k_is)
    (case l_law_lowest => k_is)
    (case c_law_lowest => k_is)
    (case k_law_lowest => k_is)
    (case a_law_after => k_is)
    (case l_law_after => k_is)
    (case c_law_after => k_is)
    (case k_law_after => k_is)
    (case a_law_deal => k_is)
    (case l_law_deal => k_is)
    (case c_law_deal => k_is)
    (case k_law_deal => k_is)
    (case a_law_stands => k_is)
    (case l_law_stands => k_is)
    (case c_law_stands => k_is)
    (case k_law_stands => k_is)
    (case a_law_word => k_is)
    (case l_law_word => k_is)
    (case c_law_word => k_is)
    (case k_law_word => k_is)
    (case a_law_outcome => k_is)
    (case l_law_outcome => k_is)
    (case c_law_outcome => k_is)
    (case k_law_outcome => k_is)
    (case a_law_is => k_is)
    (case l_law_is => k_is)
    (case c_law_is => k_is)
    (case k_law_is => k_is)
    (case a_law_odd_numbers => k_is)
    (case l_law_odd_numbers => k_is)
    (case c_law_odd_numbers => k_is)
    (case k_law_odd_numbers => k_is)
    (case a_law_odd_fractions => k_is)
    (case l_law_odd_fractions => k_is)
    (case c_law_odd_fractions => k_is)
    (case k_law_odd_fractions => k_is)
    (case a_law_moves_right => k_is)
    (case l_law_moves_right => k_is)
    (case c_law_moves_right => k_is)
    (case k_law_moves_right => k_is)
    (case a_law_made_right => k_is)
    (case l_law_made_right => k_is)
    (case c_law_made_right => k_is)
    (case k_law_made_right => k_is)
    (case a_law_great_right => k_is)
    (case l_law_great_right => k_is)
    (case c_law_great_right => k_is)
    (case k_law_great_right => k_is)
    (case a_law => k_is)
    (case l_law => k_is)
    (case c_law => k_is)
    (case k_law => k_is)
    (case zb_isinstance => k_is)
    (case zb_int => k_is)
    (case zb_bool => k_is)
    (case zb_len => k_is)
    (case zb_range => k_is)
    (case zb_tuple => k_is)
    (case zb_list => k_is)
    (case zb_min => k_is)
    (case zb_repr => k_is)
    (case zb_OverflowError => k_is)
    (case zb_LookupError => k_is)
    (case zb_gcd => k_is)
    (case gc_WheelError => k_is)
    (case rd_WheelError => k_is)
    (case rg_WheelError => k_is)
    (case ri_WheelError => k_is)
    (case gc_BadBase => k_is)
    (case iC_BadBase => k_is)
    (case ini_BadBase => kx_is)
    (case ov_BadBase => kx_is)
    (case hd_BadBase => k_is)
    (case sa_BadBase => k_is)
    (case ex_BadBase => k_is)
    (case ty_BadBase => k_is)
    (case kp_BadBase => k_is)
    (case tk_BadBase => k_is)
    (case no_BadBase => k_is)
    (case tI_BadBase => k_is)
    (case ga_BadBase => k_is)
    (case gg_BadBase => k_is)
    (case ha_BadBase => k_is)
    (case mr_BadBase => k_is)
    (case il_BadBase => k_is)
    (case ic_BadBase => k_is)
    (case ik_BadBase => k_is)
    (case cl_BadBase => k_is)
    (case hn_BadBase => k_is)
    (case ht_BadBase => k_is)
    (case gc_BadDenominator => k_is)
    (case gc_BadFraction => k_is)
    (case iC_BadFraction => k_is)
    (case ini_BadFraction => kx_is)
    (case ov_BadFraction => kx_is)
    (case hd_BadFraction => k_is)
    (case sa_BadFraction => k_is)
    (case ex_BadFraction => k_is)
    (case ty_BadFraction => k_is)
    (case kp_BadFraction => k_is)
    (case tk_BadFraction => k_is)
    (case no_BadFraction => k_is)
    (case tI_BadFraction => k_is)
    (case ga_BadFraction => k_is)
    (case gg_BadFraction => k_is)
    (case ha_BadFraction => k_is)
    (case mr_BadFraction => k_is)
    (case il_BadFraction => k_is)
    (case ic_BadFraction => k_is)
    (case ik_BadFraction => k_is)
    (case cl_BadFraction => k_is)
    (case hn_BadFraction => k_is)
    (case ht_BadFraction => k_is)
    (case gc_BadDigits => k_is)
    (case gc_BadNumber => k_is)
    (case iC_BadNumber => k_is)
    (case ini_BadNumber => kx_is)
    (case ov_BadNumber => kx_is)
    (case hd_BadNumber => k_is)
    (case sa_BadNumber => k_is)
    (case ex_BadNumber => k_is)
    (case ty_BadNumber => k_is)
    (case kp_BadNumber => k_is)
    (case tk_BadNumber => k_is)
    (case no_BadNumber => k_is)
    (case tI_BadNumber => k_is)
    (case ga_BadNumber => k_is)
    (case gg_BadNumber => k_is)
    (case ha_BadNumber => k_is)
    (case mr_BadNumber => k_is)
    (case il_BadNumber => k_is)
    (case ic_BadNumber => k_is)
    (case ik_BadNumber => k_is)
    (case cl_BadNumber => k_is)
    (case hn_BadNumber => k_is)
    (case ht_BadNumber => k_is)
    (case gc_BadPaper => k_is)
    (case gc_BadText => k_is)
    (case gc_TooGreat => k_is)
    (case iC_TooGreat => k_is)
    (case ini_TooGreat => kx_is)
    (case ov_TooGreat => kx_is)
    (case hd_TooGreat => k_is)
    (case sa_TooGreat => k_is)
    (case ex_TooGreat => k_is)
    (case ty_TooGreat => k_is)
    (case kp_TooGreat => k_is)
    (case tk_TooGreat => k_is)
    (case no_TooGreat => k_is)
    (case tI_TooGreat => k_is)
    (case ga_TooGreat => k_is)
    (case gg_TooGreat => k_is)
    (case ha_TooGreat => k_is)
    (case mr_TooGreat => k_is)
    (case il_TooGreat => k_is)
    (case ic_TooGreat => k_is)
    (case ik_TooGreat => k_is)
    (case cl_TooGreat => k_is)
    (case hn_TooGreat => k_is)
    (case ht_TooGreat => k_is)
    (case gc_Nothing => k_is)
    (case iC_Nothing => k_is)
    (case ini_Nothing => kx_is)
    (case ov_Nothing => kx_is)
    (case hd_Nothing => k_is)
    (case sa_Nothing => k_is)
    (case ex_Nothing => k_is)
    (case ty_Nothing => k_is)
    (case kp_Nothing => k_is)
    (case tk_Nothing => k_is)
    (case no_Nothing => k_is)
    (case tI_Nothing => k_is)
    (case ga_Nothing => k_is)
    (case gg_Nothing => k_is)
    (case ha_Nothing => k_is)
    (case mr_Nothing => k_is)
    (case il_Nothing => k_is)
    (case ic_Nothing => k_is)
    (case ik_Nothing => k_is)
    (case cl_Nothing => k_is)
    (case hn_Nothing => k_is)
    (case ht_Nothing => k_is)
    (case kit_BadBase_BadBase => kit_is)
    (case kit_BadBase_BadDenominator => kit_is)
    (case kit_BadBase_BadFraction => kit_is)
    (case kit_BadBase_BadDigits => kit_is)
    (case kit_BadBase_BadNumber => kit_is)
    (case kit_BadBase_BadPaper => kit_is)
    (case kit_BadBase_BadText => kit_is)
    (case kit_BadBase_TooGreat => kit_is)
    (case kit_BadBase_Nothing => kit_is)
    (case exm_BadBase => kernel_rfl)
    (case kit_BadFraction_BadBase => kit_is)
    (case kit_BadFraction_BadDenominator => kit_is)
    (case kit_BadFraction_BadFraction => kit_is)
    (case kit_BadFraction_BadDigits => kit_is)
    (case kit_BadFraction_BadNumber => kit_is)
    (case kit_BadFraction_BadPaper => kit_is)
    (case kit_BadFraction_BadText => kit_is)
    (case kit_BadFraction_TooGreat => kit_is)
    (case kit_BadFraction_Nothing => kit_is)
    (case exm_BadFraction => kernel_rfl)
    (case kit_BadNumber_BadBase => kit_is)
    (case kit_BadNumber_BadDenominator => kit_is)
    (case kit_BadNumber_BadFraction => kit_is)
    (case kit_BadNumber_BadDigits => kit_is)
    (case kit_BadNumber_BadNumber => kit_is)
    (case kit_BadNumber_BadPaper => kit_is)
    (case kit_BadNumber_BadText => kit_is)
    (case kit_BadNumber_TooGreat => kit_is)
    (case kit_BadNumber_Nothing => kit_is)
    (case exm_BadNumber => kernel_rfl)
    (case kit_TooGreat_BadBase => kit_is)
    (case kit_TooGreat_BadDenominator => kit_is)
    (case kit_TooGreat_BadFraction => kit_is)
    (case kit_TooGreat_BadDigits => kit_is)
    (case kit_TooGreat_BadNumber => kit_is)
    (case kit_TooGreat_BadPaper => kit_is)
    (case kit_TooGreat_BadText => kit_is)
    (case kit_TooGreat_TooGreat => kit_is)
    (case kit_TooGreat_Nothing => kit_is)
    (case exm_TooGreat => kernel_rfl)
    (case kit_Nothing_BadBase => kit_is)
    (case kit_Nothing_BadDenominator => kit_is)
    (case kit_Nothing_BadFraction => kit_is)
    (case kit_Nothing_BadDigits => kit_is)
    (case kit_Nothing_BadNumber => kit_is)
    (case kit_Nothing_BadPaper => kit_is)
    (case kit_Nothing_BadText => kit_is)
    (case kit_Nothing_TooGreat => kit_is)
    (case kit_Nothing_Nothing => kit_is)
    (case exm_Nothing => kernel_rfl)
    (case gc_Dial => k_is)
    (case opg_Dial => k_is)
    (case ohd_Dial => k_is)
    (case opo_Dial => k_is)
    (case osa_Dial => k_is)
    (case onf_Dial_base => k_is)
    (case onf_Dial_shown => k_is)
    (case onf_Dial_past => k_is)
    (case fi_Dial_init => k_is)
    (case l_Dial_init => k_is)
    (case c_Dial_init => k_is)
    (case k_Dial_init => k_is)
    (case if_Dial_init => k_is)
    (case mm_Dial => k_is)
    (case kc_Dial => k_is)
    (case pa_Dial_base => k_is)
    (case pb_Dial_base => k_is)
    (case pc_Dial_base => k_is)
    (case pd_Dial_base => k_is)
    (case l_Dial_base => k_is)
    (case c_Dial_base => k_is)
    (case k_Dial_base => k_is)
    (case pa_Dial_fraction => k_is)
    (case pb_Dial_fraction => k_is)
    (case pc_Dial_fraction => k_is)
    (case pd_Dial_fraction => k_is)
    (case l_Dial_fraction => k_is)
    (case c_Dial_fraction => k_is)
    (case k_Dial_fraction => k_is)
    (case pa_Dial_first => k_is)
    (case pb_Dial_first => k_is)
    (case pc_Dial_first => k_is)
    (case pd_Dial_first => k_is)
    (case l_Dial_first => k_is)
    (case c_Dial_first => k_is)
    (case k_Dial_first => k_is)
    (case fi_Dial_move => k_is)
    (case l_Dial_move => k_is)
    (case c_Dial_move => k_is)
    (case k_Dial_move => k_is)
    (case if_Dial_move => k_is)
    (case fi_Dial_turn => k_is)
    (case l_Dial_turn => k_is)
    (case c_Dial_turn => k_is)
    (case k_Dial_turn => k_is)
    (case if_Dial_turn => k_is)
    (case fi_Dial_add => k_is)
    (case l_Dial_add => k_is)
    (case c_Dial_add => k_is)
    (case k_Dial_add => k_is)
    (case if_Dial_add => k_is)
    (case fi_Dial_scale => k_is)
    (case l_Dial_scale => k_is)
    (case c_Dial_scale => k_is)
    (case k_Dial_scale => k_is)
    (case if_Dial_scale => k_is)
    (case fi_Dial_call => k_is)
    (case l_Dial_call => k_is)
    (case c_Dial_call => k_is)
    (case k_Dial_call => k_is)
    (case if_Dial_call => k_is)
    (case fk_Dial_call => k_is)
    (case fi_Dial_undo => k_is)
    (case l_Dial_undo => k_is)
    (case kd_Dial_undo => k_is)
    (case c_Dial_undo => k_is)
    (case k_Dial_undo => k_is)
    (case if_Dial_undo => k_is)
    (case fi_Dial_len => k_is)
    (case l_Dial_len => k_is)
    (case c_Dial_len => k_is)
    (case k_Dial_len => k_is)
    (case if_Dial_len => k_is)
    (case ir_LookupError => k_is)
    (case ir_OverflowError => k_is)
    (case e_law_moves_right => rfl)
    (case lk_law_moves_right => k_is)
    (case tv_law_moves_right => rfl)
    (case np_law_moves_right => kernel_rfl)
    (case e_law_made_right => rfl)
    (case lk_law_made_right => k_is)
    (case tv_law_made_right => rfl)
    (case np_law_made_right => kernel_rfl)
    (case e_law_great_right => rfl)
    (case lk_law_great_right => k_is)
    (case tv_law_great_right => rfl)
    (case np_law_great_right => kernel_rfl)
    (case ne_law_moves_right_law_made_right => first | k_is | decide | (intro z; cases z))
    (case ne_law_moves_right_law_great_right => first | k_is | decide | (intro z; cases z))
    (case ne_law_made_right_law_great_right => first | k_is | decide | (intro z; cases z))
    (case zc_MOST_BASE => k_is)
    (case zc_MOST_DENOMINATOR => k_is)
    (case zc_LAST_PLACE => k_is)
    (case zc_MOST_TIMES => k_is)
