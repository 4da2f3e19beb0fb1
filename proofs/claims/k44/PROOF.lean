import PyProof.Rows.All
import Wide.All
import OpenK.AllK
import Wide.FinOn
import HandS.ForMost
import HandS.Wide
import HandS.Gcd
import HandS.IsInst
import HandS.TupAny
import HandS.Style
import PyProof.ReprBulk
import PyProof.ReprRoads
import PyProof.ReprLen
import PyProof.Rows.SumAny
import PyProof.WalksMore
import HandS.SetFor
import HandS.Strs
import HandS.TupMul
import HandS.ListItems
import HandS.SortRule
import KE.KExcInit
import HandS.ExcInit
import HandS.ExcValue
import HandS.ExcField
import HandS.ExcIs
import HandS.ClsMeth
import KE.KExcIs
import KE.KTryMore
import HandS.TryMany
import HandS.Lambda
import KE.KDflt
import HandS.EndTab
import KE.KExcLine
import HandS.ExcOwn
import KE.KMathG
import HandS.SortInts
import HandS.Zip
import HandS.Exc
import HandS.WordsExc
import KE.RegKIsAll
import PySem.Challenge.RW_wheelnines_k44_whole_seen
set_option Elab.async false
set_option linter.all false
set_option maxRecDepth 100000
set_option maxHeartbeats 4000000
namespace Wn
open PySem PySem.Spec PyProof.Rows L2
/-! a def of the text as it stands: where, its facts, its name -/
structure Dn (K : PySem.W.Frag) (mg : Str → Option Value) (x : Str) (st : Stmt) (ps : List Str) where
  f : Addr
  fd : FuncData
  F : Fun K x x st f fd
  e : ∀ us : List Value, us.length = ps.length → bindArgs fd ⟨us, []⟩ = pure (ps.zip us)
  m : mg x = some (.ref f)
theorem Dn.b {K : PySem.W.Frag} {mg : Str → Option Value} {x : Str} {st : Stmt} {ps : List Str} (D : Dn K mg x st ps) : Binds K D.fd ps [] := .all D.e
def Dn.of {K : PySem.W.Frag} {h : Heap} {mg : Str → Option Value} {x : Str} {st : Stmt} {ps : List Str} {f : Addr} {oc kV doc pm cdv ct : Value} {od an : Option Addr} {osl : Array (Option Value)} (X : K.In h) (G : h.Ns mainGlobals mg)
    (hb : ∀ us : List Value, us.length = ps.length → bindArgs (PySem.W.fnOf x x (defArgs st) (defBody st) (defScope st) .none kV doc pm an cdv ct) ⟨us, []⟩ = pure (ps.zip us))
    (a : PySem.W.nsIn K mainGlobals x = some (some (.ref f))) (l : K.lookup f = some ⟨oc, od, .func (PySem.W.fnOf x x (defArgs st) (defBody st) (defScope st) .none kV doc pm an cdv ct), osl⟩)
    (c : PySem.W.codeIn K cdv x = true) (k : PySem.W.keepIn K (.ref f) = true) : Dn K mg x st ps := ⟨f, _, fun_mk l c k, hb, PySem.W.mg_of X G a⟩
/-! all that stood stands, but what is at W -/
def Gr (W : List Addr) (H H' : Hp) : Prop := ∀ a o, a ∉ W → H a = some o → H' a = some o
theorem Gr.refl (W : List Addr) (H : Hp) : Gr W H H := fun _ _ _ h => h
theorem Gr.trans {W : List Addr} {H H1 H2 : Hp} (a : Gr W H H1) (b : Gr W H1 H2) : Gr W H H2 := fun x o n h => b x o n (a x o n h)
theorem Gr.new {W : List Addr} {H : Hp} {p : Addr} {o : HO} (h : H p = none) : Gr W H (upd H p o) := fun a u _ e => by
  rw [upd_ne (ne_of_none e h)]
  exact e
theorem Gr.wr {W : List Addr} {H : Hp} {p : Addr} {o : HO} (h : p ∈ W) : Gr W H (upd H p o) := fun a u n e => by
  have z : a ≠ p := fun z => by
    subst z
    exact n h
  rw [upd_ne z]
  exact e
theorem Gr.mono {W W' : List Addr} {H H' : Hp} (h : ∀ a, a ∈ W → a ∈ W') (g : Gr W H H') : Gr W' H H' := fun a o n e => g a o (fun z => n (h a z)) e
end Wn
/-! the mathematics: powers, remainders, pure parts, periods, heads -/
namespace Wn
theorem cop_pow {a b : Nat} (h : Nat.gcd a b = 1) (k : Nat) : Nat.gcd (a ^ k) b = 1 := Nat.Coprime.pow_left k h
theorem mod_iff {p a c : Nat} (h : a ≤ c) : a % p = c % p ↔ p ∣ c - a := by
  constructor
  · intro e
    exact Nat.dvd_of_mod_eq_zero (Nat.sub_mod_eq_zero_of_mod_eq e.symm)
  · rintro ⟨t, e⟩
    have : c = a + p * t := by omega
    rw [this, Nat.add_mul_mod_self_left]
/-! a pigeonhole -/
theorem nodup_le : ∀ (n : Nat) (l : List Nat), l.Nodup → (∀ x ∈ l, x < n) → l.length ≤ n := by
  intro n
  induction n with
  | zero =>
    intro l _ h
    cases l with
    | nil => exact Nat.le_refl _
    | cons x r => exact absurd (h x (List.mem_cons_self ..)) (Nat.not_lt_zero _)
  | succ n ih =>
    intro l nd h
    have h1 := ih (l.erase n) (nd.erase n) (fun x hx => by
      have hm := List.mem_of_mem_erase hx
      have hlt := h x hm
      have hne : x ≠ n := fun e => by
        subst e
        exact (List.Nodup.not_mem_erase nd) hx
      omega)
    by_cases hn : n ∈ l
    · rw [List.length_erase_of_mem hn] at h1
      omega
    · rw [List.erase_of_not_mem hn] at h1
      omega
/-- among n + 1 numbers below n two are the same -/
theorem pigeon (n : Nat) (f : Nat → Nat) (h : ∀ i, i ≤ n → f i < n) : ∃ i j, i < j ∧ j ≤ n ∧ f i = f j := by
  by_cases nd : ((List.range (n + 1)).map f).Nodup
  · have := nodup_le n _ nd (fun x hx => by
      obtain ⟨i, hi, e⟩ := List.mem_map.mp hx
      rw [← e]
      exact h i (by have := List.mem_range.mp hi; omega))
    rw [List.length_map, List.length_range] at this
    omega
  · rw [List.nodup_iff_pairwise_ne, List.pairwise_map] at nd
    apply Classical.byContradiction
    intro hc
    apply nd
    rw [List.pairwise_iff_getElem]
    intro i j hi hj hij e
    rw [List.getElem_range, List.getElem_range] at e
    rw [List.length_range] at hj
    exact hc ⟨i, j, hij, by omega, e⟩
/-! pure parts -/
def IsPure (b n p : Nat) : Prop := Nat.gcd b p = 1 ∧ ∃ q k, n = p * q ∧ q ∣ b ^ k
theorem cop_of_dvd_pow {b p q k : Nat} (h : Nat.gcd b p = 1) (hq : q ∣ b ^ k) : Nat.gcd p q = 1 := by
  have h1 : Nat.gcd (b ^ k) p = 1 := cop_pow h k
  have h2 : Nat.gcd p q ∣ Nat.gcd (b ^ k) p := Nat.dvd_gcd (Nat.dvd_trans (Nat.gcd_dvd_right p q) hq) (Nat.gcd_dvd_left p q)
  rw [h1] at h2
  exact Nat.dvd_one.mp h2
theorem IsPure.dvd {b n p p' : Nat} (h : IsPure b n p) (h' : IsPure b n p') : p ∣ p' := by
  obtain ⟨g, q, k, e, hq⟩ := h
  obtain ⟨g', q', k', e', hq'⟩ := h'
  have c : Nat.Coprime p q' := cop_of_dvd_pow g hq'
  refine c.dvd_of_dvd_mul_right ?_
  rw [← e', e]
  exact Nat.dvd_mul_right p q
theorem IsPure.uniq {b n p p' : Nat} (h : IsPure b n p) (h' : IsPure b n p') : p = p' := Nat.dvd_antisymm (h.dvd h') (h'.dvd h)
theorem IsPure.self {b n : Nat} (h : Nat.gcd b n = 1) : IsPure b n n := ⟨h, 1, 0, by simp, by simp⟩
/-! periods -/
def IsPer (b p d : Nat) : Prop := 1 ≤ d ∧ b ^ d % p = 1 % p ∧ ∀ j, 1 ≤ j → j < d → b ^ j % p ≠ 1 % p
theorem IsPer.uniq {b p d d' : Nat} (h : IsPer b p d) (h' : IsPer b p d') : d = d' := by
  obtain ⟨h1, h2, h3⟩ := h
  obtain ⟨g1, g2, g3⟩ := h'
  apply Nat.le_antisymm
  · apply Nat.le_of_not_lt
    intro l
    exact h3 d' g1 l g2
  · apply Nat.le_of_not_lt
    intro l
    exact g3 d h1 l h2
theorem least (P : Nat → Prop) [DecidablePred P] : ∀ n, P n → ∃ m, m ≤ n ∧ P m ∧ ∀ j, j < m → ¬ P j := by
  intro n
  induction n using Nat.strongRecOn with
  | _ n ih =>
    intro hn
    by_cases h : ∃ j, j < n ∧ P j
    · obtain ⟨j, hj, pj⟩ := h
      obtain ⟨m, hm, pm, q⟩ := ih j hj pj
      exact ⟨m, by omega, pm, q⟩
    · exact ⟨n, Nat.le_refl _, hn, fun j hj pj => h ⟨j, hj, pj⟩⟩
/-- a common factor that is pure may go: b ^ i * c ≡ b ^ i * d -/
theorem mod_cancel {p a c d : Nat} (g : Nat.gcd a p = 1) (h : a * c % p = a * d % p) : c % p = d % p := by
  have key : ∀ {c d : Nat}, c ≤ d → a * c % p = a * d % p → c % p = d % p := by
    intro c d hcd h
    have h1 : p ∣ a * (d - c) := by
      rw [Nat.mul_sub]
      exact (mod_iff (Nat.mul_le_mul_left a hcd)).mp h
    have h2 : p ∣ d - c := Nat.Coprime.dvd_of_dvd_mul_left (Nat.Coprime.symm g) h1
    exact (mod_iff hcd).mpr h2
  rcases Nat.le_total c d with l | l
  · exact key l h
  · exact (key l h.symm).symm
theorem per_exists {b p : Nat} (hp : 1 ≤ p) (g : Nat.gcd b p = 1) : ∃ d, d ≤ p ∧ IsPer b p d := by
  obtain ⟨i, j, hij, hj, e⟩ := pigeon p (fun k => b ^ k % p) (fun i _ => Nat.mod_lt _ hp)
  have e1 : b ^ (j - i) % p = 1 % p := by
    have e' : b ^ i * b ^ (j - i) % p = b ^ i * 1 % p := by
      rw [← Nat.pow_add, show i + (j - i) = j by omega, Nat.mul_one]
      exact e.symm
    exact mod_cancel (cop_pow g i) e'
  obtain ⟨m, hm, ⟨pm1, pm⟩, q⟩ := least (fun k => 1 ≤ k ∧ b ^ k % p = 1 % p) (j - i) ⟨by omega, e1⟩
  exact ⟨m, by omega, pm1, pm, fun k k1 kl z => q k kl ⟨k1, z⟩⟩
theorem pow_mod_step (b p k : Nat) : b ^ k % p * b % p = b ^ (k + 1) % p := by
  rw [Nat.mod_mul_mod, Nat.pow_succ]
theorem IsPer.mul {b p d : Nat} (h : IsPer b p d) (k : Nat) : b ^ (d * k) % p = 1 % p := by
  induction k with
  | zero => simp
  | succ k ih =>
    rw [Nat.mul_succ, Nat.pow_add, Nat.mul_mod, ih, h.2.1, ← Nat.mul_mod, Nat.mul_one]
theorem IsPer.iff {b p d : Nat} (h : IsPer b p d) (k : Nat) : b ^ k % p = 1 % p ↔ d ∣ k := by
  have e : b ^ k % p = b ^ (k % d) % p := by
    have := Nat.div_add_mod k d
    rw [show b ^ k = b ^ (d * (k / d) + k % d) by rw [this], Nat.pow_add, Nat.mul_mod, h.mul, ← Nat.mul_mod, Nat.one_mul]
  constructor
  · intro hk
    rw [e] at hk
    apply Nat.dvd_of_mod_eq_zero
    apply Classical.byContradiction
    intro hz
    exact h.2.2 (k % d) (by omega) (Nat.mod_lt _ h.1) hk
  · rintro ⟨m, rfl⟩
    exact h.mul m
/-! heads -/
def IsHead (b q h : Nat) : Prop := b ^ h % q = 0 ∧ ∀ j, j < h → b ^ j % q ≠ 0
theorem IsHead.uniq {b q h h' : Nat} (a : IsHead b q h) (c : IsHead b q h') : h = h' := by
  apply Nat.le_antisymm
  · apply Nat.le_of_not_lt
    intro l
    exact a.2 h' l c.1
  · apply Nat.le_of_not_lt
    intro l
    exact c.2 h l a.1
theorem head_exists {b q k : Nat} (h : q ∣ b ^ k) : ∃ m, m ≤ k ∧ IsHead b q m := by
  obtain ⟨m, hm, pm, r⟩ := least (fun j => b ^ j % q = 0) k (Nat.mod_eq_zero_of_dvd h)
  exact ⟨m, hm, pm, r⟩
theorem IsHead.iff {b q h : Nat} (a : IsHead b q h) (k : Nat) : q ∣ b ^ k ↔ h ≤ k := by
  constructor
  · intro d
    apply Nat.le_of_not_lt
    intro l
    exact a.2 k l (Nat.mod_eq_zero_of_dvd d)
  · intro l
    have d : q ∣ b ^ h := Nat.dvd_of_mod_eq_zero a.1
    rw [show k = h + (k - h) by omega, Nat.pow_add]
    exact Nat.dvd_trans d (Nat.dvd_mul_right _ _)
theorem head_le {b q h : Nat} (hq : 1 ≤ q) (a : IsHead b q h) : h ≤ q := by
  apply Nat.le_of_not_lt
  intro l
  -- among the first q + 1 remainders two are the same: then none is nought behind
  obtain ⟨i, j, hij, hj, e⟩ := pigeon q (fun k => b ^ k % q) (fun i _ => Nat.mod_lt _ hq)
  have key : ∀ k, b ^ (i + k) % q = b ^ (j + k) % q := by
    intro k
    rw [Nat.pow_add, Nat.pow_add, Nat.mul_mod, e, ← Nat.mul_mod]
  have hz : b ^ (j + (h - j)) % q = 0 := by
    rw [show j + (h - j) = h by omega]
    exact a.1
  rw [← key] at hz
  exact a.2 (i + (h - j)) (by omega) hz
/-! remainders -/
def rem (b n x i : Nat) : Nat := x * b ^ i % n
theorem rem_lt {b n x i : Nat} (h : 1 ≤ n) : rem b n x i < n := Nat.mod_lt _ h
theorem rem_succ (b n x i : Nat) : rem b n x i * b % n = rem b n x (i + 1) := by
  unfold rem
  rw [Nat.mod_mul_mod, Nat.pow_succ, Nat.mul_assoc]
theorem rem_zero {b n x : Nat} (h : x < n) : rem b n x 0 = x := by
  unfold rem
  rw [Nat.pow_zero, Nat.mul_one, Nat.mod_eq_of_lt h]
/-- THE RING: when remainders come again -/
theorem rem_eq {b n x p q h L i j : Nat} (gx : Nat.gcd x n = 1) (e : n = p * q) (gp : Nat.gcd b p = 1) (gq : Nat.gcd p q = 1) (hh : IsHead b q h) (hL : IsPer b p L) (hij : i < j) :
    rem b n x i = rem b n x j ↔ h ≤ i ∧ L ∣ j - i := by
  have hle : b ^ i ≤ b ^ j ∨ b = 0 := by
    rcases Nat.eq_zero_or_pos b with z | z
    · exact .inr z
    · exact .inl (Nat.pow_le_pow_right z (Nat.le_of_lt hij))
  have hs : b ^ j = b ^ i * b ^ (j - i) := by rw [← Nat.pow_add, show i + (j - i) = j by omega]
  unfold rem
  constructor
  · intro hr
    have h1 : b ^ i % n = b ^ j % n := mod_cancel gx hr
    have hp : b ^ i % p = b ^ j % p := by
      have := congrArg (· % p) h1
      rw [e, Nat.mod_mul_right_mod, Nat.mod_mul_right_mod] at this
      exact this
    have hq : b ^ i % q = b ^ j % q := by
      have := congrArg (· % q) h1
      rw [e, Nat.mod_mul_left_mod, Nat.mod_mul_left_mod] at this
      exact this
    have dL : L ∣ j - i := by
      rw [← hL.iff]
      refine mod_cancel (cop_pow gp i) ?_
      rw [← hs, Nat.mul_one]
      exact hp.symm
    refine ⟨?_, dL⟩
    rw [← hh.iff]
    -- q divides b ^ i * (b ^ (j - i) - 1), and b ^ (j - i) is a multiple that goes on: take many turns
    have key : ∀ k, b ^ i % q = b ^ (i + (j - i) * k) % q := by
      intro k
      induction k with
      | zero => simp
      | succ k ih =>
        rw [show i + (j - i) * (k + 1) = (j - i) + (i + (j - i) * k) by rw [Nat.mul_succ]; omega, Nat.pow_add, Nat.mul_mod, ← ih, ← Nat.mul_mod, ← Nat.pow_add, show (j - i) + i = j by omega]
        exact hq
    have hz : b ^ (i + (j - i) * h) % q = 0 := by
      apply Nat.mod_eq_zero_of_dvd
      rw [hh.iff]
      have : h ≤ (j - i) * h := Nat.le_mul_of_pos_left h (by omega)
      omega
    exact Nat.dvd_of_mod_eq_zero ((key h).trans hz)
  · rintro ⟨h1, h2⟩
    have hp : b ^ (j - i) % p = 1 % p := (hL.iff _).mpr h2
    have hqd : q ∣ b ^ i := (hh.iff i).mpr h1
    have hpd : b ^ i % p = b ^ j % p := by
      rw [hs, Nat.mul_mod, hp, ← Nat.mul_mod, Nat.mul_one]
    have both : b ^ i % n = b ^ j % n := by
      rcases hle with hle | hb
      · apply (mod_iff hle).mpr
        rw [e]
        refine Nat.Coprime.mul_dvd_of_dvd_of_dvd gq ?_ ?_
        · exact (mod_iff hle).mp hpd
        · rw [hs, ← Nat.mul_sub_one]
          exact Nat.dvd_trans hqd (Nat.dvd_mul_right _ _)
      · subst hb
        have hp1 : p = 1 := by rw [Nat.gcd_zero_left] at gp; exact gp
        subst hp1
        rw [Nat.one_mul] at e
        subst e
        rw [Nat.mod_eq_zero_of_dvd hqd, Nat.mod_eq_zero_of_dvd (by rw [hs]; exact Nat.dvd_trans hqd (Nat.dvd_mul_right _ _))]
    rw [Nat.mul_mod, both, ← Nat.mul_mod]
/-! all of a denominator in a base -/
structure Par (b n p q h L : Nat) : Prop where
  hp : IsPure b n p
  e : n = p * q
  hh : IsHead b q h
  hL : IsPer b p L
theorem pure_exists (b : Nat) : ∀ n, 1 ≤ n → ∃ p, IsPure b n p := by
  intro n
  induction n using Nat.strongRecOn with
  | _ n ih =>
    intro hn
    by_cases g : Nat.gcd b n = 1
    · exact ⟨n, IsPure.self g⟩
    · obtain ⟨c, hc⟩ := Nat.gcd_dvd_right b n
      have hg : 1 ≤ Nat.gcd b n := Nat.gcd_pos_of_pos_right b hn
      have hc1 : 1 ≤ c := by
        rcases Nat.eq_zero_or_pos c with z | z
        · rw [z] at hc
          omega
        · exact z
      have hcn : c < n := by
        have hg2 : 2 ≤ Nat.gcd b n := by omega
        have : 2 * c ≤ Nat.gcd b n * c := Nat.mul_le_mul_right c hg2
        omega
      obtain ⟨p, hp, q, k, e, d⟩ := ih c hcn hc1
      refine ⟨p, hp, Nat.gcd b n * q, k + 1, ?_, ?_⟩
      · conv => lhs; rw [hc, e]
        rw [Nat.mul_left_comm]
      · rw [Nat.pow_succ, Nat.mul_comm (b ^ k) b]
        exact Nat.mul_dvd_mul (Nat.gcd_dvd_left b n) d
theorem par_exists {b n : Nat} (hn : 1 ≤ n) : ∃ p q h L, Par b n p q h L := by
  obtain ⟨p, hp⟩ := pure_exists b n hn
  obtain ⟨g, q, k, e, d⟩ := id hp
  obtain ⟨h, _, hh⟩ := head_exists d
  have hp1 : 1 ≤ p := by
    rcases Nat.eq_zero_or_pos p with z | z
    · rw [z] at e
      omega
    · exact z
  obtain ⟨L, _, hL⟩ := per_exists hp1 g
  exact ⟨p, q, h, L, hp, e, hh, hL⟩
section
variable {b n p q h L : Nat}
theorem Par.p1 (P : Par b n p q h L) (hn : 1 ≤ n) : 1 ≤ p := by
  rcases Nat.eq_zero_or_pos p with z | z
  · have := P.e
    rw [z] at this
    omega
  · exact z
theorem Par.q1 (P : Par b n p q h L) (hn : 1 ≤ n) : 1 ≤ q := by
  rcases Nat.eq_zero_or_pos q with z | z
  · have := P.e
    rw [z] at this
    omega
  · exact z
theorem Par.pn (P : Par b n p q h L) (hn : 1 ≤ n) : p ≤ n := Nat.le_of_dvd hn ⟨q, P.e⟩
theorem Par.qn (P : Par b n p q h L) (hn : 1 ≤ n) : q ≤ n := Nat.le_of_dvd hn ⟨p, by rw [P.e, Nat.mul_comm]⟩
theorem Par.Ln (P : Par b n p q h L) (hn : 1 ≤ n) : L ≤ n := by
  obtain ⟨d, hd, hd'⟩ := per_exists (P.p1 hn) P.hp.1
  have := hd'.uniq P.hL
  have := P.pn hn
  omega
theorem Par.hn (P : Par b n p q h L) (hn : 1 ≤ n) : h ≤ n := Nat.le_trans (head_le (P.q1 hn) P.hh) (P.qn hn)
theorem Par.gq (P : Par b n p q h L) (hn : 1 ≤ n) : Nat.gcd p q = 1 := by
  obtain ⟨g, q', k, e, d⟩ := P.hp
  have : q' = q := by
    have := P.e
    rw [e] at this
    exact Nat.eq_of_mul_eq_mul_left (P.p1 hn) this
  subst this
  exact cop_of_dvd_pow g d
/-- the end of a row of remainders -/
theorem ring_end {x i j : Nat} (P : Par b n p q h L) (hn : 1 ≤ n) (gx : Nat.gcd x n = 1) (hd : ∀ u v, u < v → v < i → rem b n x u ≠ rem b n x v) (hj : j < i) (e : rem b n x j = rem b n x i) : i = h + L ∧ j = h := by
  have F := fun {u v : Nat} (l : u < v) => rem_eq (x := x) gx P.e P.hp.1 (P.gq hn) P.hh P.hL l
  obtain ⟨h1, h2⟩ := (F hj).mp e
  have hL1 := P.hL.1
  have hle := Nat.le_of_dvd (by omega) h2
  have hi : i ≤ h + L := by
    apply Nat.le_of_not_lt
    intro l
    exact hd h (h + L) (by omega) l ((F (by omega)).mpr ⟨Nat.le_refl _, by rw [show h + L - h = L by omega]; exact Nat.dvd_refl _⟩)
  omega
end
end Wn
namespace Wn
open PySem PySem.Spec PyProof.Rows L2
theorem CallR.imp {X : Cx} {f : Value} {r r' : List V → Hp → VK → Prop} (h : CallR X f r) (i : ∀ vs H Q, r' vs H Q → r vs H Q) : CallR X f r' :=
  fun pins s σ H vs us Q I rv x => h pins s σ H vs us Q I rv (i _ _ _ x)
/-! the built-in type of a value -/
def isB (T n : String) : Bool := T == n || (T == "bool" && n == "int")
def tyNames : List String := ["NoneType", "bool", "int", "str", "list", "tuple", "dict"]
def qyNames : List String := ["bool", "int", "str", "list", "tuple", "dict"]
theorem isB_ok : ∀ T ∈ tyNames, ∀ n ∈ qyNames, kitB T n = some (isB T n) := by decide +kernel
def rIs (K : PySem.W.Frag) : List V → Hp → VK → Prop := fun xs H Q => ∃ (x : V) (n : String), xs = [x, .ty n] ∧ ∃ T : String, (TyX K H x (.type T) ∧ T ∈ tyNames ∧ n ∈ qyNames) ∧ Q (.bl (isB T n)) H
theorem call_is {X : Cx} : CallR X (.builtin "isinstance") (rIs X.K) := CallR.imp call_isi fun vs H Q h => by
  obtain ⟨x, n, e, T, ⟨h1, h2, h3⟩, q⟩ := h
  exact ⟨x, .ty n, .type T, .type n, isB T n, e, .ty n, h1, kit_ty (isB_ok T h2 n h3), q⟩
theorem ty_int {K : PySem.W.Frag} {H : Hp} {i : Int} : TyX K H (.int i) (.type "int") := .base (.int i)
theorem ty_tup {K : PySem.W.Frag} {H : Hp} {a : Addr} {xs : List V} (h : H a = some (.tup xs)) : TyX K H (.ref a) (.type "tuple") := .base (.tup h)
theorem cxK {CX : CXT} {P : Program} {w : World} {K : PySem.W.Frag} {mg : Str → Option Value} {base : Heap} {N : List Str} {q : Str} {sc : Scope} {f : Addr} {cdv : Value} {A : Around} {outer : List Env} {s : Shared} {H : Hp} {E : XK} :
    (cxOf CX P w K mg base N q sc f cdv A outer s H E).nox.K = K := rfl
theorem cxK2 {CX : CXT} {P : Program} {w : World} {K : PySem.W.Frag} {mg : Str → Option Value} {base : Heap} {N : List Str} {q : Str} {sc : Scope} {f : Addr} {cdv : Value} {A : Around} {outer : List Env} {s : Shared} {H : Hp} {E : XK} :
    (cxOf CX P w K mg base N q sc f cdv A outer s H E).K = K := rfl
theorem start1 (x : Str) (N : List Str) (v : V) (vs : List V) : L2.start (x :: N) (v :: vs) = some v :: L2.start N vs := by
  unfold L2.start
  simp
theorem start2 (x : Str) (N : List Str) : L2.start (x :: N) [] = none :: L2.start N [] := by
  unfold L2.start
  simp [List.replicate_succ]
theorem start3 : L2.start [] [] = [] := rfl
theorem sq_tup {K : PySem.W.Frag} {H : Hp} {a : Addr} {xs : List V} (h : H a = some (.tup xs)) : SqT K H a xs := .inl (.inl h)
theorem sq_lst {K : PySem.W.Frag} {H : Hp} {a : Addr} {xs : List V} (h : H a = some (.lst xs)) : SqL K H a xs := .inl (.inl h)
theorem slA_of {K : PySem.W.Frag} {H : Hp} {a : Addr} {xs : List V} {lo hi : Option Int} {Q : VK} (h : H a = some (.tup xs)) (q : ∀ p H', Gr [] H H' → H' p = some (.tup (cutV xs lo hi)) → Q (.ref p) H') : rSlA K (.ref a) lo hi H Q := by
  refine ⟨a, xs, rfl, sq_tup h, ?_, ?_⟩
  · intro e
    refine q a H (Gr.refl _ _) ?_
    have z : cutV xs lo hi = xs := by
      unfold cutV
      rw [e.1, e.2, List.drop_zero, Nat.sub_zero, List.take_length]
    rw [z]
    exact h
  · intro _ p np
    exact q p _ (Gr.new np) upd_same
def rLn (K : PySem.W.Frag) : List V → Hp → VK → Prop := fun xs H Q => ∃ p ys, xs = [.ref p] ∧ (SqL K H p ys ∨ SqT K H p ys) ∧ Q (.int ys.length) H
theorem call_ln {X : Cx} : CallR X (.builtin "len") (rLn X.K) := call_len_seq
def rLsO (K : PySem.W.Frag) : List V → Hp → VK → Prop := fun xs H Q => ∃ p ys, xs = [.ref p] ∧ (SqL K H p ys ∨ SqT K H p ys) ∧ ∀ l, H l = none → Q (.ref l) (upd H l (.lst ys))
theorem call_lsO {X : Cx} : CallR X (.type "list") (rLsO X.K) := call_list_of
def rTpO (K : PySem.W.Frag) : List V → Hp → VK → Prop := fun xs H Q => ∃ p ys, xs = [.ref p] ∧ ((SqL K H p ys ∧ ∀ l, H l = none → Q (.ref l) (upd H l (.tup ys))) ∨ (SqT K H p ys ∧ Q (.ref p) H))
theorem call_tpO {X : Cx} : CallR X (.type "tuple") (rTpO X.K) := call_tuple_of
theorem cut_lo {xs : List V} {k : Nat} (h : k ≤ xs.length) : cutV xs none (some (k : Int)) = xs.take k := by
  unfold cutV
  rw [HT.sIx_nat, HT.sIx_none, List.drop_zero, Nat.sub_zero, Nat.min_eq_left h]
theorem cut_hi {xs : List V} {k : Nat} (h : k ≤ xs.length) : cutV xs (some (k : Int)) none = xs.drop k := by
  unfold cutV
  rw [HT.sIx_nat, HT.sIx_none, Nat.min_eq_left h]
  exact List.take_of_length_le (by rw [List.length_drop]; omega)
theorem icm (a b n : Nat) : (a : Int) * (b : Int) % (n : Int) = ((a * b % n : Nat) : Int) := by
  rw [← Int.natCast_mul, ← Int.natCast_emod]
theorem icd (a b n : Nat) : (a : Int) * (b : Int) / (n : Int) = ((a * b / n : Nat) : Int) := by
  rw [← Int.natCast_mul, ← Int.natCast_ediv]
local macro_rules | `(tactic| walk_at "vc") => `(tactic| simp only [cxK, cxK2, start1, start2, start3, tRet, tRetN, tSeq, tNext, tIfS, tAsg, gName, tDrop, tVar, tC, tOp, tUn, tTest, tB, tNot, tAnd, tOr, tAndV, tOrV, tNotV, tIf, tCons, tNil, tCB, tCall, tChain, tAug, ipI, rI, rI0, rU, rIs, rGcd, rEq, rNe, scal,
  List.getElem?_cons_zero, List.getElem?_cons_succ, List.set_cons_zero, List.set_cons_succ, Option.some.injEq, List.cons.injEq, V.int.injEq, V.bl.injEq, V.ref.injEq, V.str.injEq, and_true, true_and, exists_eq_left, exists_eq_left', exists_and_left, exists_and_right, List.append_nil, List.nil_append, List.cons_append, exists_eq_right, exists_eq_right', and_assoc, exists_const, V.ty.injEq, ↓reduceIte, Bool.false_eq_true, Bool.not_true, Bool.not_false, decide_eq_true_eq])
end Wn
/-! contracts where nothing is being shown (no repr runs around): for defs that ask repr of lists, tuples, dicts -/
namespace Wn
open PySem PySem.Spec PyProof.Rows L2
structure FnG (P : Program) (w : World) (K : PySem.W.Frag) (mg : Str → Option Value) (base : Heap) (CX : CXT) (k : Nat) (f : Addr) (fd : FuncData) (ps : List Str) (sp : Sp) : Prop where
  sz : ∀ vs H Q E, sp vs H Q E → vs.length = ps.length
  go : ∀ (A : Around), A.guards = some [] → Room k A → ∀ (outer : List Env) (s : Shared) (H : Hp) (args : Args) (us : List Value) (vs : List V) (Q : VK) (E : XK),
    Env0 P w K mg base A outer s H → BindsTo s fd args (ps.zip us) → Vals vs us → sp vs H Q E → codeAny (model P w) A (.call (.ref f) args) (CR CX outer P w H s Q E) s
section
variable {P : Program} {w : World} {K : PySem.W.Frag} {mg : Str → Option Value} {base : Heap} {CX : CXT} {k : Nat} {f : Addr} {fd : FuncData} {ps : List Str} {sp : Sp}
theorem FnG.of (F : FnOk P w K mg base CX k f fd ps sp) : FnG P w K mg base CX k f fd ps sp :=
  ⟨F.len, fun A _ hr outer s H args us vs Q E e b v h => F.run A outer s H args us vs Q E hr e b v h⟩
theorem FnG.up {j : Nat} (F : FnG P w K mg base CX j f fd ps sp) (h : j ≤ k) : FnG P w K mg base CX k f fd ps sp :=
  ⟨F.sz, fun A hg hr => F.go A hg (hr.mono h)⟩
/-- a def by its body -/
theorem fnG {x qual : Str} {st : Stmt} {N : List Str} (F : Fun K x qual st f fd) (S : FnScope N ps (defScope st)) (sz : ∀ vs H Q E, sp vs H Q E → vs.length = ps.length)
    (body : ∀ (cdv : Value) (A : Around) (outer : List Env) (s : Shared) (H : Hp) (vs : List V) (Q : VK) (E : XK), (A.deeper (envOfC qual (defScope st) s.heap.objs.size f cdv)).guards = some [] →
      Room k (A.deeper (envOfC qual (defScope st) s.heap.objs.size f cdv)) → sp vs H Q E →
      ∃ t, PSs (cxOf CX P w K mg base N qual (defScope st) f cdv A outer s H E) (defBody st) t ∧ t { nx := fun _ H' => Q .non H', rt := Q } (L2.start N vs) H) : FnG P w K mg base CX (k + 1) f fd ps sp := by
  obtain ⟨oc, od, kV, doc, pm, an, cdv, ct, osl, rfl, lk, hcd⟩ := F.ex
  refine ⟨sz, fun A hgd hr outer s H args us vs Q E e0 hb r h => ?_⟩
  have KI : K.In s.heap := e0.mod.kin.keeps fun b o e => (e0.bs b o e).1
  have NL : s.heap.NoLimit := e0.mod.nolimit.keeps fun b o e => (e0.bs b o e).1
  refine codeAny_call_function hr.depth (KI _ _ lk) rfl S.co S.gen rfl (PySem.W.codeRec_of KI hcd) (hb _ _ _ _ ?_)
  refine wpAny_newFunctionEnv_cells S.kind (fun y hy => ?_) fun env he s1 x => ?_
  · obtain ⟨n, v⟩ := y
    rcases S.par n (List.of_mem_zip hy).1 with q | q
    · exact .inl q
    · exact .inr ⟨q, PySem.W.cellsFrom_some _ _ _ (.inl q)⟩
  · subst he
    refine ⟨NL.keeps x.toInCall.keep, codeAny_func ?_⟩
    obtain ⟨t, ht, hq⟩ := body cdv A outer s H vs Q E hgd (hr.deeper _) h
    refine wpAny_mono (ht.run [] s1 _ H _ (inv_start S hr.hd e0 (sz _ _ _ _ h) r x) hq) (fun fl s' z => ?_) fun e s' z => z
    cases fl with
    | ret u =>
      obtain ⟨v, σ', H', J, rv, q⟩ := z
      exact ⟨v, H', J.os, J.bare, J.base, J.hok, rv, q⟩
    | next =>
      obtain ⟨σ', H', J, q⟩ := z
      exact ⟨.non, H', J.os, J.bare, J.base, J.hok, rfl, q⟩
    | brk =>
      obtain ⟨_, _, _, q⟩ := z
      exact q.elim
    | cont =>
      obtain ⟨_, _, _, q⟩ := z
      exact q.elim
/-- no exception leaves it -/
theorem fnG0 {x qual : Str} {st : Stmt} {N : List Str} (F : Fun K x qual st f fd) (S : FnScope N ps (defScope st)) (sz : ∀ vs H Q E, sp vs H Q E → vs.length = ps.length)
    (body : ∀ (cdv : Value) (A : Around) (outer : List Env) (s : Shared) (H : Hp) (vs : List V) (Q : VK) (E : XK), (A.deeper (envOfC qual (defScope st) s.heap.objs.size f cdv)).guards = some [] →
      Room k (A.deeper (envOfC qual (defScope st) s.heap.objs.size f cdv)) → sp vs H Q E →
      ∃ t, PSs (cxOf CX0 P w K mg base N qual (defScope st) f cdv A outer s H E).nox (defBody st) t ∧ t { nx := fun _ H' => Q .non H', rt := Q } (L2.start N vs) H) : FnG P w K mg base CX0 (k + 1) f fd ps sp :=
  fnG F S sz fun cdv A outer s H vs Q E g r h => let ⟨t, ht, q⟩ := body cdv A outer s H vs Q E g r h; ⟨t, ht.nox, q⟩
end
section
variable {X : Cx} {CX : CXT} {k : Nat} {f : Addr} {fd : FuncData} {ps : List Str} {sp : Sp} {dvs : List V} {ds : List Value} {E : XK} {x : Str} {p pos : Pos} {e : Expr} {es : List Expr} {t : TA}
theorem runG {pins : List (Addr × Obj)} {σ : L2.St} {H : Hp} {s : Shared} {Q : VK} {us : List Value} {vs : List V} (F : FnG X.prog X.w X.K X.mg X.base CX k f fd ps sp) (hgd : X.A.guards = some []) (hr : Room k X.A) (hb : Binds X.K fd ps ds) (hd : Vals dvs ds)
    (hx : Passes CX X E) (I : Inv X pins σ H s) (r : Vals vs us) (h : sp (vs ++ dvs) H Q E) : wpAny (model X.prog X.w) X.A (call (.ref f) us) (EP X pins σ Q) X.xe s := by
  have rr := r.append hd
  refine wpAny_call (codeAny_mono (F.go X.A hgd hr X.stack s H ⟨us, []⟩ (us ++ ds) (vs ++ dvs) Q E I.env0 (hb s us I.kIn (rr.length ▸ F.sz _ _ _ _ h)) rr h) fun z s' q => ?_)
  match z, q with
  | .error e, q => exact hx pins σ H s e s' I q
  | .ok (.ret u), q => exact I.after q
  | .ok .next, q => exact q.elim
  | .ok .brk, q => exact q.elim
  | .ok .cont, q => exact q.elim
theorem pe_callG (hgd : X.A.guards = some []) (F : FnG X.prog X.w X.K X.mg X.base CX k f fd ps sp) (hr : Room k X.A) (hg : Gl X x) (hm : X.mg x = some (.ref f)) (hk : PySem.W.keepIn X.K (.ref f) = true) (hb : Binds X.K fd ps ds) (hd : Vals dvs ds) (hx : Passes CX X E)
    (ha : PA X (e :: es) t) (hdb : (x == ("__debug__" : Str)) = false := by decide) (he : starEach (e :: es) X.env = (false, eval e X.env) :: starEach es X.env := by rfl) (hpl : (backTo pos (starEach es X.env)).any (·.1) = false := by rfl) :
    PE X (.Call (.Name x p) (e :: es) [] pos) (tCall sp dvs E t) :=
  ⟨fun pins s σ H Q I h => wpAny_Call_Name_kw (ld_glob I hg hm (PySem.W.callWith_K (h₀ := X.base) I.ok.mod.kin hk (thn (ha.run pos pins s σ H _ I h) fun us s1 ⟨vs, H1, I1, r, q⟩ => ⟨I1.kIn, runG F hgd hr hb hd hx I1 r q⟩) he hpl) hdb)⟩
theorem pe_callG0 (hgd : X.A.guards = some []) (F : FnG X.prog X.w X.K X.mg X.base CX k f fd ps sp) (hr : Room k X.A) (hg : Gl X x) (hm : X.mg x = some (.ref f)) (hk : PySem.W.keepIn X.K (.ref f) = true) (hb : Binds X.K fd ps ds) (hd : Vals dvs ds) (hx : Passes CX X E)
    (hdb : (x == ("__debug__" : Str)) = false := by decide) : PE X (.Call (.Name x p) [] [] pos) (tCall sp dvs E tNil) :=
  ⟨fun pins s σ H Q I h => wpAny_Call_Name_kw (ld_glob I hg hm (PySem.W.callWith_K0 I.kIn hk (runG (us := []) F hgd hr hb hd hx I .nil h)) hdb)⟩
end
/-! the law's own head -/
theorem law_callG {P : Program} {w : World} {K : PySem.W.Frag} {mg mb : Str → Option Value} {CX : CXT} {k : Nat} {fa a : Addr} {fd : FuncData} {x : Str} {sp : Sp} {s1 : Shared} {vs : List Value} {ns : List Int}
    (KX : K.In s1.heap) (hns : s1.heap.Ns mainGlobals mg) (hb : s1.heap.Ns builtinsNs mb) (hbb : ∀ x : Str, x ≠ "__name__" → mb x = bootBuiltins x) (hlim : s1.heap.NoLimit) (hg : s1.gens = #[])
    (ha : s1.heap.get? a = some { cls := .type "list", data := .seq vs.toArray }) (hi : IntsAre vs ns) (hl : ns.length ≤ sizeLine) (hr : Room k callerA)
    (F : ∀ base : Heap, K.In base → base.Ns mainGlobals mg → FnG P w K mg base CX k fa fd [x] sp) (hbind : ∀ (s : Shared) (u : Value), BindsTo s fd ⟨[u], []⟩ [(x, u)])
    (hsp : ∀ H : Hp, Only H → SqL K H a (ns.map V.int) → sp [.ref a] H (fun v _ => v = .bl true) fun _ _ _ => False)
    (hCX : ∀ H e s', CX [] H s1 (fun _ _ _ => False) e s' → False) :
    codeAny (model P w) callerA (.call (.ref fa) ⟨[.ref a], []⟩) (fun r s' => r = .ok (.ret (.bool true)) ∧ OldK s1.heap s'.heap ∧ s'.os = s1.os ∧ AllBare s'.gens) s1 := by
  -- the script is tracked, unless it is one of the text's own objects
  obtain ⟨H, hH⟩ : ∃ H : Hp, H = fun b => if b = a ∧ K.lookup a = none then some (.frz { cls := .type "list", data := .seq vs.toArray } (.lst (ns.map V.int))) else none := ⟨_, rfl⟩
  have at_ : ∀ b u, H b = some u → b = a ∧ K.lookup a = none ∧ u = .frz { cls := .type "list", data := .seq vs.toArray } (.lst (ns.map V.int)) := fun b u z => by
    rw [hH] at z
    dsimp only at z
    split at z
    · rename_i c
      exact ⟨c.1, c.2, (Option.some.inj z).symm⟩
    · cases z
  have off : ∀ b o, s1.heap.get? b = some o → (∀ q, K.lookup b = some q → True) → (∀ n, o.data ≠ .seq vs.toArray n) → H b = none := fun b o e _ d => by
    cases z : H b with
    | none => rfl
    | some u =>
      obtain ⟨rfl, _, _⟩ := at_ b u z
      rw [ha] at e
      cases e
      exact absurd rfl (d _)
  have kb : ∀ b o, K.lookup b = some o → H b = none := fun b o e => by
    cases z : H b with
    | none => rfl
    | some u =>
      obtain ⟨rfl, z2, _⟩ := at_ b u z
      rw [z2] at e
      cases e
  have ok : HOk P w H s1.heap := fun b u z => by
    obtain ⟨rfl, _, rfl⟩ := at_ b u z
    exact ⟨ha, by rw [List.length_map]; exact hl, vs, _, vals_ints hi, ha⟩
  have sq : SqL K H a (ns.map V.int) := by
    cases z : K.lookup a with
    | none =>
      refine .inl (.inr ⟨{ cls := .type "list", data := .seq vs.toArray }, ?_⟩)
      rw [hH]
      exact if_pos ⟨rfl, z⟩
    | some o =>
      have e := KX a o z
      rw [ha] at e
      cases e
      exact .inr ⟨_, vs.toArray, _, z, rfl, rfl, rfl, by rw [List.size_toArray, hi.length]; exact hl, by simpa using vals_ints hi⟩
  have only : Only H := fun b => by
    cases z : H b with
    | none => exact .inl rfl
    | some u =>
      obtain ⟨_, _, rfl⟩ := at_ b u z
      exact .inr ⟨_, _, rfl⟩
  have nsB : ∀ {b : Addr} {m : Str → Option Value}, s1.heap.Ns b m → (hidT s1.heap H).Ns b m := fun {b m} ⟨o, es, ep, e, d, r⟩ => ⟨o, es, ep, hidT_get e (off b o e (fun _ _ => trivial) fun n z => by rw [d] at z; cases z), d, r⟩
  have KB : K.In (hidT s1.heap H) := fun b o e => hidT_get (KX b o e) (kb b o e)
  have M : Mod K mg (hidT s1.heap H) := ⟨KB, nsB hns, ⟨mb, nsB hb, hbb⟩, let ⟨mc, h1, h2⟩ := hlim; ⟨mc, nsB h1, h2⟩⟩
  have E0' : Env0 P w K mg (hidT s1.heap H) callerA [] s1 H := ⟨rfl, M, fun b o e => of_hidT e, Nat.le_of_eq (hidT_size _ _), trivial, fun b z => absurd (show b ∈ ([] : List Addr) from z) (by simp), ok, .of_eq hg⟩
  refine codeAny_mono ((F _ KB (nsB hns)).go callerA rfl hr [] s1 H ⟨[.ref a], []⟩ [.ref a] [.ref a] _ _ E0' (hbind s1 (.ref a)) (.cons rfl .nil) (hsp H only sq)) fun r s' z => ?_
  match r, z with
  | .error e, z => exact (hCX H e s' z).elim
  | .ok .next, z => exact z.elim
  | .ok .brk, z => exact z.elim
  | .ok .cont, z => exact z.elim
  | .ok (.ret u), z =>
    obtain ⟨v, H', os, bare, un, ok', rv, q⟩ := z
    obtain rfl : v = .bl true := q
    obtain rfl : u = Value.bool true := rv
    refine ⟨rfl, OldK.of_keep fun b o e => ?_, os, bare⟩
    cases y : H b with
    | none => exact un.keep b o e y (fun c => absurd (show b ∈ ([] : List Addr) from c) (by simp)) (by simp)
    | some u =>
      obtain ⟨rfl, _, rfl⟩ := at_ b u y
      rw [ha] at e
      cases e
      exact (ok' _ _ (un.frzs _ _ _ y)).1
theorem walkG {l : PySem.W.OpenLaw} {n k : Nat} {q : Program} {loose : List Str} {XP : (Str → Option Value) → Heap → Prop} {YP : World → Heap → Prop} {d : DefRec} {K : Params → PySem.W.Frag} {sp : World → Sp} {x : Str}
    (hn : l.most = some n) (hn2 : n ≤ sizeLine) (hdf : d.params.defaults = []) (hr : Room k callerA) (hY : ∀ (w : World) (h : Heap), YP w h → (K w.params).In h)
    (F : ∀ (w : World) (mg : Str → Option Value) (fa : Addr) (h : Heap), (K w.params).In h → h.Ns mainGlobals mg → mg d.name = some (.ref fa) →
      ∃ fd : FuncData, (∀ (s : Shared) (u : Value), BindsTo s fd ⟨[u], []⟩ [(x, u)]) ∧ ∀ base : Heap, (K w.params).In base → base.Ns mainGlobals mg → FnG l.prog w (K w.params) mg base CX0 k fa fd [x] (sp w))
    (hsp : ∀ (w : World) (H : Hp) (a : Addr) (ns : List Int), ns.length ≤ n → Only H → SqL (K w.params) H a (ns.map V.int) → sp w [.ref a] H (fun v _ => v = .bl true) fun _ _ _ => False) :
    PySem.W.WalkO q loose XP YP l.row.toRowW d [] (fun f vs => PySem.call f vs) :=
  Att.attach_call hn hdf fun w s0 s1 mg mb fa o pm cd doc a vs ns G Y ho hd hcd hmg hobj hints hlen hg => by
    obtain ⟨fd, hb, hF⟩ := F w mg fa _ (hY w _ Y) G.T.g hmg
    exact law_callG (hY w _ Y) G.T.g G.T.b G.T.builtins G.T.nolimit hg hobj hints (Nat.le_trans hlen hn2) hr hF hb (fun H hO hS => hsp w H a ns hlen hO hS) fun H e s' z => z
end Wn
/-! repr of data -/
namespace Wn
open PySem PySem.Spec PyProof.Rows L2
/-- data that repr takes: leaves of at most B signs, weight at most W, depth at most D -/
structure Sm (d : PyData) (B D W : Nat) : Prop where
  show_ : d.showable = true
  leaf : d.leavesShort B = true
  nod : d.hasDict = false
  lay : d.canLay0 = true
  dep : d.depth ≤ D
  wei : d.bulk ≤ W
theorem Sm.all : ∀ {xs : List PyData} {B D W : Nat}, (∀ x ∈ xs, Sm x B D W) → PyData.showableAll xs = true ∧ PyData.leavesShortAll B xs = true ∧ PyData.hasDictAll xs = false ∧ PyData.canLayAll0 xs = true ∧ PyData.depthAll xs ≤ D ∧ PyData.bulkAll xs ≤ xs.length * (W + 1)
  | [], _, _, _, _ => ⟨rfl, rfl, rfl, rfl, Nat.zero_le _, Nat.zero_le _⟩
  | x :: xs, B, D, W, h => by
    obtain ⟨h1, h2, h3, h6, h4, h5⟩ := Sm.all (xs := xs) fun y hy => h y (List.mem_cons_of_mem _ hy)
    have hx := h x (List.mem_cons_self ..)
    refine ⟨?_, ?_, ?_, ?_, ?_, ?_⟩
    · show (x.showable && PyData.showableAll xs) = true
      rw [hx.show_, h1]
      rfl
    · show (x.leavesShort B && PyData.leavesShortAll B xs) = true
      rw [hx.leaf, h2]
      rfl
    · show (x.hasDict || PyData.hasDictAll xs) = false
      rw [hx.nod, h3]
      rfl
    · show (x.canLay0 && PyData.canLayAll0 xs) = true
      rw [hx.lay, h6]
      rfl
    · show max x.depth (PyData.depthAll xs) ≤ D
      exact Nat.max_le.mpr ⟨hx.dep, h4⟩
    · show x.bulk + 1 + PyData.bulkAll xs ≤ (xs.length + 1) * (W + 1)
      rw [Nat.succ_mul]
      have := hx.wei
      omega
theorem Sm.lst {xs : List PyData} {B D W : Nat} (n : Nat) (h : ∀ x ∈ xs, Sm x B D W) (hn : xs.length ≤ n) : Sm (.list xs) B (D + 1) (n * (W + 1)) := by
  obtain ⟨h1, h2, h3, h6, h4, h5⟩ := Sm.all h
  exact ⟨h1, h2, h3, h6, Nat.succ_le_succ h4, Nat.le_trans h5 (Nat.mul_le_mul_right _ hn)⟩
theorem Sm.tup {xs : List PyData} {B D W : Nat} (n : Nat) (h : ∀ x ∈ xs, Sm x B D W) (hn : xs.length ≤ n) : Sm (.tuple xs) B (D + 1) (n * (W + 1)) := by
  obtain ⟨h1, h2, h3, h6, h4, h5⟩ := Sm.all h
  exact ⟨h1, h2, h3, h6, Nat.succ_le_succ h4, Nat.le_trans h5 (Nat.mul_le_mul_right _ hn)⟩
theorem Sm.mono {d : PyData} {B D W D' W' : Nat} (h : Sm d B D W) (h1 : D ≤ D') (h2 : W ≤ W') : Sm d B D' W' := ⟨h.show_, h.leaf, h.nod, h.lay, Nat.le_trans h.dep h1, Nat.le_trans h.wei h2⟩
theorem log2_lt {a k : Nat} (hk : 1 ≤ k) (h : a < 2 ^ k) : a.log2 < k := by
  rcases Nat.eq_zero_or_pos a with z | z
  · rw [z, Nat.log2_zero]
    exact hk
  · exact (Nat.log2_lt (by omega)).mpr h
/-- a whole number below 10 ^ 12 and below 2 ^ k -/
theorem Sm.int {i : Int} {k : Nat} (hk : 1 ≤ k) (h : i.natAbs < 2 ^ k) (hk2 : k ≤ 39) : Sm (.int i) 13 0 k := by
  have hl := log2_lt hk h
  have h12 : i.natAbs < 10 ^ 12 := Nat.lt_of_lt_of_le h (Nat.le_trans (Nat.pow_le_pow_right (by decide) hk2) (by decide))
  refine ⟨?_, ?_, rfl, rfl, Nat.le_refl _, ?_⟩
  · show decide (i.natAbs.log2 < 1920) = true
    exact decide_eq_true (by omega)
  · show decide ((PyData.shown (.int i)).length ≤ 13) = true
    exact decide_eq_true (PyData.shown_int_le h12)
  · show 0 ≤ k
    omega
def Fits (d : PyData) : Prop := ∃ B D W, Sm d B D W ∧ 8 ≤ B ∧ D ≤ 100 ∧ (B + 2) * W + B ≤ 16777216
theorem Fits.len {d : PyData} (h : Fits d) : d.shown.length ≤ sizeLine := by
  obtain ⟨B, D, W, s, h1, h2, h3⟩ := h
  have := PyData.shown_le_bulk B h1 d s.leaf
  rw [sizeLine_eq]
  have : (B + 2) * d.bulk ≤ (B + 2) * W := Nat.mul_le_mul_left _ s.wei
  omega
theorem Fits.shaped {d : PyData} (h : d.canLay0 = true) (h2 : d.depth ≤ 64) : SeqAt.shaped d = true := by
  unfold SeqAt.shaped
  rw [h, decide_eq_true h2]
  rfl
theorem Sm.fits {d : PyData} {D W : Nat} (h : Sm d 13 D W) (h1 : D ≤ 64 := by decide) (h2 : W ≤ 1100000 := by decide) : Fits d := ⟨13, D, W, h, by decide, by omega, by omega⟩
theorem Sm.fitsB {d : PyData} {B D W : Nat} (h : Sm d B D W) (h0 : 8 ≤ B := by decide) (h1 : D ≤ 64 := by decide) (h2 : (B + 2) * W + B ≤ 16777216 := by decide) : Fits d := ⟨B, D, W, h, h0, by omega, h2⟩
theorem Sm.shaped {d : PyData} {B D W : Nat} (h : Sm d B D W) (h1 : D ≤ 64 := by decide) : SeqAt.shaped d = true := Fits.shaped h.lay (Nat.le_trans h.dep h1)
/-! data stands while lists and tuples stand -/
def Kp (H H' : Hp) : Prop := (∀ a xs, H a = some (.lst xs) → H' a = some (.lst xs)) ∧ (∀ a xs, H a = some (.tup xs) → H' a = some (.tup xs)) ∧ ∀ a o u, H a = some (.frz o u) → H' a = some (.frz o u)
theorem Kp.of {H H' : Hp} (g : Gr [] H H') : Kp H H' := ⟨fun a _ e => g a _ (by simp) e, fun a _ e => g a _ (by simp) e, fun a _ _ e => g a _ (by simp) e⟩
theorem Kp.ofM {H H' : Hp} {d : Addr} (g : Gr [d] H H') (h : ∃ kvs, H d = some (.dK kvs)) : Kp H H' := by
  obtain ⟨kvs, h⟩ := h
  have ne : ∀ {a o}, H a = some o → (∀ k, o ≠ .dK k) → a ∉ [d] := fun {a o} e k z => by
    rw [List.mem_singleton] at z
    subst z
    rw [h] at e
    exact k _ (Option.some.inj e).symm
  exact ⟨fun a _ e => g a _ (ne e fun _ z => by cases z) e, fun a _ e => g a _ (ne e fun _ z => by cases z) e, fun a _ _ e => g a _ (ne e fun _ z => by cases z) e⟩
theorem Kp.trans {H H1 H2 : Hp} (a : Kp H H1) (b : Kp H1 H2) : Kp H H2 := ⟨fun x _ e => b.1 x _ (a.1 x _ e), fun x _ e => b.2.1 x _ (a.2.1 x _ e), fun x _ _ e => b.2.2 x _ _ (a.2.2 x _ _ e)⟩
theorem Kp.sqL {K : PySem.W.Frag} {H H' : Hp} {a : Addr} {xs : List V} (k : Kp H H') (h : SqL K H a xs) : SqL K H' a xs := by
  rcases h with (h | ⟨o, h⟩) | h
  · exact .inl (.inl (k.1 _ _ h))
  · exact .inl (.inr ⟨o, k.2.2 _ _ _ h⟩)
  · exact .inr h
theorem Kp.sqT {K : PySem.W.Frag} {H H' : Hp} {a : Addr} {xs : List V} (k : Kp H H') (h : SqT K H a xs) : SqT K H' a xs := by
  rcases h with (h | ⟨o, h⟩) | h
  · exact .inl (.inl (k.2.1 _ _ h))
  · exact .inl (.inr ⟨o, k.2.2 _ _ _ h⟩)
  · exact .inr h
mutual
theorem Dp.kp {K : PySem.W.Frag} {H H' : Hp} (k : Kp H H') : ∀ {v : V} {d : PyData}, Dp K H v d → Dp K H' v d
  | _, _, .non => .non
  | _, _, .bl b => .bl b
  | _, _, .int i => .int i
  | _, _, .str x => .str x
  | _, _, .lst h1 h2 => .lst (k.sqL h1) (DpAll.kp k h2)
  | _, _, .tup h1 h2 => .tup (k.sqT h1) (DpAll.kp k h2)
theorem DpAll.kp {K : PySem.W.Frag} {H H' : Hp} (k : Kp H H') : ∀ {vs : List V} {ds : List PyData}, DpAll K H vs ds → DpAll K H' vs ds
  | _, _, .nil => .nil
  | _, _, .cons h1 h2 => .cons (Dp.kp k h1) (DpAll.kp k h2)
end
theorem dpAll_ints {K : PySem.W.Frag} {H : Hp} : ∀ ns : List Int, DpAll K H (ns.map V.int) (ns.map PyData.int)
  | [] => .nil
  | n :: r => .cons (.int n) (dpAll_ints r)
theorem dp_lst {K : PySem.W.Frag} {H : Hp} {a : Addr} {xs : List V} {ds : List PyData} (h : H a = some (.lst xs)) (h2 : DpAll K H xs ds) : Dp K H (.ref a) (.list ds) := .lst (sq_lst h) h2
theorem dp_tup {K : PySem.W.Frag} {H : Hp} {a : Addr} {xs : List V} {ds : List PyData} (h : H a = some (.tup xs)) (h2 : DpAll K H xs ds) : Dp K H (.ref a) (.tuple ds) := .tup (sq_tup h) h2
def rRepr (K : PySem.W.Frag) : List V → Hp → VK → Prop := fun xs H Q => ∃ (x : V) (d : PyData), xs = [x] ∧ Dp K H x d ∧ Fits d ∧ Q (.str d.shown) H
theorem call_repr {X : Cx} (hg : X.A.guards = some []) (hu : X.A.units + 200 < cLine) : CallR X (.builtin "repr") (rRepr X.K) := by
  intro pins s σ H xs us Q I r h
  obtain ⟨x, d, rfl, hd, hf, q⟩ := h
  obtain ⟨u, rfl, rx⟩ := vals1 r
  have fin : ∀ tk' tk, EP X pins σ Q (.str d.shown tk) { s with toks := tk' } := fun tk' tk => ⟨.str _, H, I.tok _, ⟨_, rfl⟩, q⟩
  have hl := hf.len
  cases hd with
  | non =>
    obtain rfl : u = Value.none := rx
    exact PySem.P.repr_of_none (fin _ _)
  | bl b =>
    obtain rfl : u = Value.bool b := rx
    exact PySem.P.repr_of_bool (fin _ _)
  | int i =>
    obtain ⟨t, rfl⟩ := rx
    obtain ⟨B, D, W, sm, _⟩ := hf
    exact PySem.P.repr_of_int (of_decide_eq_true sm.show_) (fin _ _)
  | str y =>
    obtain ⟨t, rfl⟩ := rx
    exact PySem.P.repr_of_str (fin _ _) hl
  | lst h1 h2 =>
    rename_i a xs ds
    obtain rfl : u = Value.ref a := rx
    obtain ⟨as, rd⟩ := Dp.reads I (.list ds) (.ref a) (.ref a) (.lst h1 h2) rfl
    obtain ⟨B, D, W, sm, _, hD, _⟩ := hf
    have := sm.dep
    refine repr_of_reads' rd sm.show_ (fun z => absurd (sm.nod.symm.trans z) (by decide)) hg (by omega) (fun _ _ e => e) (fun h' u tk k => ⟨.str _, H, I.un (Un.kept k) (I.hok.kept k), ⟨_, rfl⟩, q⟩) hl
  | tup h1 h2 =>
    rename_i a xs ds
    obtain rfl : u = Value.ref a := rx
    obtain ⟨as, rd⟩ := Dp.reads I (.tuple ds) (.ref a) (.ref a) (.tup h1 h2) rfl
    obtain ⟨B, D, W, sm, _, hD, _⟩ := hf
    have := sm.dep
    refine repr_of_reads' rd sm.show_ (fun z => absurd (sm.nod.symm.trans z) (by decide)) hg (by omega) (fun _ _ e => e) (fun h' u tk k => ⟨.str _, H, I.un (Un.kept k) (I.hok.kept k), ⟨_, rfl⟩, q⟩) hl
theorem gu_of {A : Around} {k : Nat} (hr : Room k A) : A.units + 200 < cLine := by
  have := hr.un
  omega
end Wn
/-! expressions that give data and leave all as it was -/
namespace Wn
open PySem PySem.Spec PyProof.Rows L2
section
variable {K : PySem.W.Frag} {σ : L2.St} {H : Hp}
def EvD (K : PySem.W.Frag) (te : TE) (σ : L2.St) (H : Hp) (d : PyData) : Prop := ∀ H1, Gr [] H H1 → ∀ Q : VK, (∀ v H2, Gr [] H1 H2 → Dp K H2 v d → Q v H2) → te σ H1 Q
def EvS (K : PySem.W.Frag) (ta : TA) (σ : L2.St) (H : Hp) (ds : List PyData) : Prop := ∀ H1, Gr [] H H1 → ∀ Q : List V → Hp → Prop, (∀ vs H2, Gr [] H1 H2 → DpAll K H2 vs ds → Q vs H2) → ta σ H1 Q
/-- a list that stands as such -/
def EvL (K : PySem.W.Frag) (te : TE) (σ : L2.St) (H : Hp) (ds : List PyData) : Prop := ∀ H1, Gr [] H H1 → ∀ Q : VK, (∀ p xs H2, Gr [] H1 H2 → H2 p = some (.lst xs) → DpAll K H2 xs ds → Q (.ref p) H2) → te σ H1 Q
theorem EvD.on {te : TE} {d : PyData} {H' : Hp} (h : EvD K te σ H d) (g : Gr [] H H') : EvD K te σ H' d := fun H1 g1 Q q => h H1 (g.trans g1) Q q
theorem EvL.d {te : TE} {ds : List PyData} (h : EvL K te σ H ds) : EvD K te σ H (.list ds) := fun H1 g Q q => h H1 g Q fun p xs H2 g2 e a => q _ H2 g2 (dp_lst e a)
theorem ev_var {i : Nat} {v : V} {d : PyData} (e : σ[i]? = some (some v)) (h : Dp K H v d) : EvD K (tVar i) σ H d := fun H1 g Q q => ⟨v, e, q v H1 (Gr.refl _ _) (Dp.kp (Kp.of g) h)⟩
theorem ev_varL {i : Nat} {p : Addr} {xs : List V} {ds : List PyData} (e : σ[i]? = some (some (.ref p))) (h : H p = some (.lst xs)) (a : DpAll K H xs ds) : EvL K (tVar i) σ H ds :=
  fun H1 g Q q => ⟨_, e, q p xs H1 (Gr.refl _ _) (g _ _ (by simp) h) (DpAll.kp (Kp.of g) a)⟩
theorem ev_int {i : Int} : EvD K (tC (.int i)) σ H (.int i) := fun H1 _ Q q => q _ H1 (Gr.refl _ _) (.int i)
theorem ev_bl {i : Bool} : EvD K (tC (.bl i)) σ H (.bool i) := fun H1 _ Q q => q _ H1 (Gr.refl _ _) (.bl i)
theorem ev_str {i : Str} : EvD K (tC (.str i)) σ H (.str i) := fun H1 _ Q q => q _ H1 (Gr.refl _ _) (.str i)
theorem ev_non : EvD K (tC .non) σ H .none := fun H1 _ Q q => q _ H1 (Gr.refl _ _) .non
theorem es_nil : EvS K tNil σ H [] := fun H1 _ Q q => q _ H1 (Gr.refl _ _) .nil
theorem es_cons {te : TE} {ta : TA} {d : PyData} {ds : List PyData} (h : EvD K te σ H d) (r : EvS K ta σ H ds) : EvS K (tCons te ta) σ H (d :: ds) := fun H1 g Q q =>
  h H1 g _ fun v H2 g2 dv => r H2 (g.trans g2) _ fun vs H3 g3 dvs => q _ H3 (g2.trans g3) (.cons (Dp.kp (Kp.of g3) dv) dvs)
theorem dpAll_len {H : Hp} : ∀ {vs : List V} {ds : List PyData}, DpAll K H vs ds → vs.length = ds.length
  | _, _, .nil => rfl
  | _, _, .cons _ t => congrArg (· + 1) (dpAll_len t)
theorem ev_tup {ta : TA} {ds : List PyData} (h : EvS K ta σ H ds) (hz : ds.length ≤ 1000 := by exact Nat.le_of_ble_eq_true rfl) : EvD K (tTup ta) σ H (.tuple ds) := fun H1 g Q q =>
  h H1 g _ fun vs H2 g2 a => ⟨by rw [dpAll_len a]; exact Nat.le_of_lt (small1000 hz), fun p np => q _ _ (g2.trans (Gr.new np)) (dp_tup upd_same (DpAll.kp (Kp.of (Gr.new np)) a))⟩
theorem el_lst {ta : TA} {ds : List PyData} (h : EvS K ta σ H ds) (hz : ds.length ≤ 1000 := by exact Nat.le_of_ble_eq_true rfl) : EvL K (tLst ta) σ H ds := fun H1 g Q q =>
  h H1 g _ fun vs H2 g2 a => ⟨by rw [dpAll_len a]; exact Nat.le_of_lt (small1000 hz), fun p np => q _ _ _ (g2.trans (Gr.new np)) upd_same (DpAll.kp (Kp.of (Gr.new np)) a)⟩
theorem ev_lst {ta : TA} {ds : List PyData} (h : EvS K ta σ H ds) (hz : ds.length ≤ 1000 := by exact Nat.le_of_ble_eq_true rfl) : EvD K (tLst ta) σ H (.list ds) := (el_lst h hz).d
theorem dpAll_append {H : Hp} : ∀ {vs ws : List V} {ds es : List PyData}, DpAll K H vs ds → DpAll K H ws es → DpAll K H (vs ++ ws) (ds ++ es)
  | _, _, _, _, .nil, b => b
  | _, _, _, _, .cons h t, b => .cons h (dpAll_append t b)
theorem el_cat {ta tb : TE} {ds es : List PyData} (h1 : EvL K ta σ H ds) (h2 : EvL K tb σ H es) (hz : ds.length + es.length ≤ 1000 := by exact Nat.le_of_ble_eq_true rfl) : EvL K (tOp rCat ta tb) σ H (ds ++ es) := fun H1 g Q q =>
  h1 H1 g _ fun p xs H2 g2 e2 a2 => h2 H2 (g.trans g2) _ fun p3 ys H3 g3 e3 a3 => by
    have e2' := g3 _ _ (by simp) e2
    refine ⟨p, p3, xs, ys, rfl, rfl, e2', e3, by rw [dpAll_len a2, dpAll_len a3]; exact Nat.le_of_lt (small1000 hz), fun p4 np => ?_⟩
    exact q p4 _ _ ((g2.trans g3).trans (Gr.new np)) upd_same (dpAll_append (DpAll.kp (Kp.of (g3.trans (Gr.new np))) a2) (DpAll.kp (Kp.of (Gr.new np)) a3))
/-! two data compared -/
theorem ev_eq {ta tb : TE} {d e : PyData} (h1 : EvD K ta σ H d) (h2 : EvD K tb σ H e) (s1 : SeqAt.shaped d = true) (s2 : SeqAt.shaped e = true) : EvD K (tOp (rEqD K) ta tb) σ H (.bool (PyData.eqv d e)) := fun H1 g Q q =>
  h1 H1 g _ fun v H2 g2 a => h2 H2 (g.trans g2) _ fun w H3 g3 b => ⟨d, e, Dp.kp (Kp.of g3) a, b, s1, s2, q _ H3 (g2.trans g3) (.bl _)⟩
theorem ev_ne {ta tb : TE} {d e : PyData} (h1 : EvD K ta σ H d) (h2 : EvD K tb σ H e) (s1 : SeqAt.shaped d = true) (s2 : SeqAt.shaped e = true) : EvD K (tOp (rNeD K) ta tb) σ H (.bool (!PyData.eqv d e)) := fun H1 g Q q =>
  h1 H1 g _ fun v H2 g2 a => h2 H2 (g.trans g2) _ fun w H3 g3 b => ⟨d, e, Dp.kp (Kp.of g3) a, b, s1, s2, q _ H3 (g2.trans g3) (.bl _)⟩
theorem iteFb {b : Bool} {A B : Prop} (h : b = false) (x : B) : if b = true then A else B := by
  rw [h]
  exact iteF x
theorem iteTb {b : Bool} {A B : Prop} (h : b = true) (x : A) : if b = true then A else B := by
  rw [h]
  exact iteT x
/-! statements over them -/
theorem st_asgD {te : TE} {i : Nat} {d : PyData} {D : Ends} (h : EvD K te σ H d) (k : ∀ v H2, Gr [] H H2 → Dp K H2 v d → D.nx (σ.set i (some v)) H2) : tAsg te (gName i) D σ H := h H (Gr.refl _ _) _ k
theorem st_asgL {te : TE} {i : Nat} {ds : List PyData} {D : Ends} (h : EvL K te σ H ds) (k : ∀ p xs H2, Gr [] H H2 → H2 p = some (.lst xs) → DpAll K H2 xs ds → D.nx (σ.set i (some (.ref p))) H2) : tAsg te (gName i) D σ H := h H (Gr.refl _ _) _ k
theorem dp_bool {H : Hp} {v : V} {b : Bool} (h : Dp K H v (.bool b)) : v = .bl b := by cases h; rfl
theorem dp_int {H : Hp} {v : V} {b : Int} (h : Dp K H v (.int b)) : v = .int b := by cases h; rfl
theorem st_retB {te : TE} {b : Bool} {D : Ends} (h : EvD K te σ H (.bool b)) (k : ∀ H2, Gr [] H H2 → D.rt (.bl b) H2) : tRet te D σ H := h H (Gr.refl _ _) _ fun v H2 g e => by rw [dp_bool e]; exact k H2 g
/-- a test that is data -/
theorem tt_of {te : TE} {b : Bool} {H1 : Hp} {Q : Bool → Hp → Prop} (h : EvD K te σ H (.bool b)) (g : Gr [] H H1) (q : ∀ H2, Gr [] H1 H2 → Q b H2) : tTest te σ H1 Q := h H1 g _ fun v H2 g2 e => ⟨b, dp_bool e, q H2 g2⟩
theorem tb_of {te : TE} {b : Bool} {H1 : Hp} {Q : Bool → Hp → Prop} (h : EvD K te σ H (.bool b)) (g : Gr [] H H1) (q : ∀ H2, Gr [] H1 H2 → Q b H2) : tB te σ H1 Q := h H1 g _ fun v H2 g2 e => ⟨b, dp_bool e, q H2 g2⟩
theorem ev_andV {ta tb : TE} {a b : Bool} (h1 : EvD K ta σ H (.bool a)) (h2 : EvD K tb σ H (.bool b)) : EvD K (tAndV ta tb) σ H (.bool (a && b)) := fun H1 g Q q =>
  h1 H1 g _ fun v H2 g2 e => ⟨a, dp_bool e, by
    cases a with
    | true => exact iteT (h2 H2 (g.trans g2) _ fun w H3 g3 e3 => q w H3 (g2.trans g3) e3)
    | false => exact iteF (q _ H2 g2 (.bl false))⟩
end
end Wn
/-! sum of a tuple of whole numbers -/
namespace Wn
open PySem PySem.Spec PyProof.Rows L2
section
variable {prog : Program} {w : World} {A : Around} {E : Value → Shared → Prop} {s : Shared} {l : Addr} {its : List Value} {ns : List Int} {Q : Value → Shared → Prop}
theorem sum_tup0 {xs : Array (Int × Tok)} (hh : A.handled = none) (hl : s.heap.IsTuple l (intItems xs))
    (h : ∀ h' tk t', (∀ b o, s.heap.get? b = some o → h'.get? b = some o) → Q (.int (preSum (numAt xs) xs.size) t') { s with heap := h', toks := tk }) : wpAny (model prog w) A (call (.builtin "sum") [.ref l]) Q E s := by
  refine call_sum_walkG (wpAny_pyIter_tuple hl ?_)
  obtain ⟨o, ho, hc, n, hd⟩ := hl
  have lt : l < s.heap.objs.size := Heap.lt_size ho
  have kp : ∀ b u, s.heap.get? b = some u → (s.heap.push { cls := .type "tuple_iterator", data := .fields #[.ref l, .int 0 0] }).get? b = some u := fun b u e => Heap.get?_push_of_some _ e
  refine ⟨s.heap.objs.size, _, _, _, _, _, numAt xs, rfl, Walks.tuple (A := A.in1) hh s.heap.objs.size l (Nat.ne_of_lt lt) (intItems xs), ⟨⟨_, Heap.get?_push_size _ rfl, rfl, rfl⟩, ⟨o, kp _ _ ho, hc, n, hd⟩⟩, fun b hb => ?_, fun _ _ => intItems_at, fun h' tk t' hk => ?_⟩
  · have hz : (s.heap.push { cls := .type "tuple_iterator", data := .fields #[.ref l, .int 0 0] }).objs.size = s.heap.objs.size + 1 := by simp [Heap.push]
    simp only [List.mem_cons, List.not_mem_nil, or_false] at hb
    show b < (s.heap.push _).objs.size
    rw [hz]
    rcases hb with rfl | rfl
    · exact Nat.lt_succ_self _
    · exact Nat.lt_succ_of_lt lt
  · have := h h' tk t' (fun b u e => hk b u (by
      rw [List.mem_singleton]
      exact Nat.ne_of_lt (Heap.lt_size e)) (kp b u e))
    simpa [intItems] using this
theorem sum_tup (hh : A.handled = none) (hl : s.heap.IsTuple l its.toArray) (hi : IntsAre its ns)
    (h : ∀ h' tk t', (∀ b o, s.heap.get? b = some o → h'.get? b = some o) → Q (.int ns.sum t') { s with heap := h', toks := tk }) : wpAny (model prog w) A (call (.builtin "sum") [.ref l]) Q E s := by
  obtain ⟨xs, e⟩ := hi.allInts.items
  have hn : numsOf (intItems xs).toList = ns := by
    rw [← e]
    exact hi.numsOf
  rw [nums_intItems] at hn
  rw [e] at hl
  refine sum_tup0 hh hl fun h' tk t' hk => ?_
  have := h h' tk t' hk
  rw [preSum_eq, List.take_of_length_le (by simp), hn]
  exact this
end
def rSumT (K : PySem.W.Frag) : List V → Hp → VK → Prop := fun vs H Q => ∃ (a : Addr) (ns : List Int), vs = [V.ref a] ∧ SqT K H a (ns.map V.int) ∧ Q (.int ns.sum) H
theorem cr_sumT {X : Cx} (hc : X.calm = true) : CallR X (.builtin "sum") (rSumT X.K) := by
  intro pins s σ H vs us Q I r h
  obtain ⟨a, ns, rfl, hs, q⟩ := h
  obtain ⟨its, rv, hl, _⟩ := I.tuple hs
  rw [Vals.ref1 r]
  exact sum_tup (I.ok.hd hc) hl rv.ints fun h' tk t' hk => ⟨.int _, H, I.kept hk, ⟨_, rfl⟩, q⟩
end Wn
/-! a list with a step: xs[::k] -/
namespace Wn
open PySem PySem.Spec PyProof.Rows L2
def stepV (xs : List V) (k : Nat) : List V := (List.range ((xs.length + k - 1) / k)).filterMap fun i => xs[k * i]?
theorem vals_picks {xs : List V} {us : List Value} (r : Vals xs us) (f : Nat → Nat) : ∀ js : List Nat, Vals (js.filterMap fun i => xs[f i]?) (js.filterMap fun i => us[f i]?)
  | [] => .nil
  | j :: js => by
    have ih := vals_picks r f js
    cases e : xs[f j]? with
    | none =>
      have e2 := r.none_of e
      rw [List.filterMap_cons, List.filterMap_cons, e, e2]
      exact ih
    | some x =>
      obtain ⟨u, e2, h⟩ := r.get e
      rw [List.filterMap_cons, List.filterMap_cons, e, e2]
      exact .cons h ih
theorem pick_step (us : List Value) {k : Nat} (hk : 1 ≤ k) : slicePick us.toArray none none (some (k : Int)) = ((List.range ((us.length + k - 1) / k)).filterMap fun i => us[k * i]?).toArray := by
  have e : sliceBounds none none (some (k : Int)) us.toArray.size = ((0 : Int), (us.length : Int), (k : Int)) := by
    have h : (k : Int) > 0 := by omega
    simp only [sliceBounds, Option.getD_some, h, if_true, List.size_toArray]
  unfold slicePick
  rw [e]
  show (List.filterMap (fun i => us.toArray[i]?) (sliceRange 0 (us.length : Int) (k : Int))).toArray = _
  congr 1
  have e2 : sliceRange 0 (us.length : Int) (k : Int) = (List.range ((us.length + k - 1) / k)).map fun i => k * i := by
    unfold sliceRange
    have h : (k : Int) > 0 := by omega
    rw [if_pos h]
    have c : (if (0 : Int) < (us.length : Int) then ((us.length : Int) - 0 + k - 1) / k else 0).toNat = (us.length + k - 1) / k := by
      by_cases z : (0 : Int) < (us.length : Int)
      · rw [if_pos z, show ((us.length : Int) - 0 + k - 1) = ((us.length + k - 1 : Nat) : Int) by omega, ← Int.natCast_ediv]
        rfl
      · rw [if_neg z]
        have : us.length = 0 := by omega
        rw [this, Nat.zero_add, Nat.div_eq_of_lt (by omega)]
        rfl
    dsimp only
    rw [c]
    apply List.map_congr_left
    intro i _
    rw [Int.zero_add, ← Int.natCast_mul]
    rfl
  rw [e2, List.filterMap_map]
  congr 1
  funext i
  simp
theorem stepV_len (xs : List V) (k : Nat) (hk : 1 ≤ k) : (stepV xs k).length ≤ xs.length := by
  unfold stepV
  refine Nat.le_trans (List.length_filterMap_le _ _) ?_
  rw [List.length_range]
  rcases Nat.eq_zero_or_pos xs.length with z | z
  · rw [z, Nat.zero_add, Nat.div_eq_of_lt (by omega)]
    exact Nat.le_refl _
  · refine Nat.lt_succ_iff.mp ((Nat.div_lt_iff_lt_mul (by omega)).mpr ?_)
    have : xs.length * 1 ≤ xs.length * k := Nat.mul_le_mul_left _ hk
    rw [Nat.succ_mul]
    omega
def rStL (K : PySem.W.Frag) : V → V → Hp → VK → Prop := fun x y H Q => ∃ (a : Addr) (xs : List V) (k : Nat), x = .ref a ∧ y = .int k ∧ 1 ≤ k ∧ SqL K H a xs ∧ ∀ p, H p = none → Q (.ref p) (upd H p (.lst (stepV xs k)))
def tStL (r : R2) (te ts : TE) : TE := fun σ H Q => te σ H fun x H1 => ts σ H1 fun y H2 => r x y H2 Q
variable {X : Cx} {e st : Expr} {te ts : TE} {pos p2 : Pos}
theorem pe_stepL {r : R2} (he : PE X e te) (hs : PE X st ts) (hr : r = rStL X.K := by rfl) : PE X (.Subscript e (.Slice none none (some st) p2) pos) (tStL r te ts) := by
  subst hr
  refine ⟨fun pins s σ H Q I h => ?_⟩
  refine Subscript_ (thn (he.run pins s σ H _ I h) fun v s1 ⟨x, H1, I1, r1, q1⟩ => ?_)
  refine wpAny_Slice ?_
  rw [evalPart_none]
  refine wpAny_pure (wpAny_pure ?_)
  rw [evalPart_some]
  refine thn (hs.run pins s1 σ H1 _ I1 q1) fun vs s3 ⟨y, H3, I3, ry, q3⟩ => ?_
  obtain ⟨a, xs, k, rfl, rfl, hk, hx, q⟩ := q3
  cases r1
  obtain ⟨t, rfl⟩ := ry
  have I4 : Inv X pins σ H3 { s3 with heap := s3.heap.push { cls := .type "slice", data := .fields #[.none, .none, .int k t] } } := I3.kept (t' := s3.toks) fun b ob q => Heap.get?_push_of_some _ q
  obtain ⟨its, r, ht, hz⟩ := I4.list hx
  have hlen := r.length
  have hg : wpAny (model X.prog X.w) X.A (getItem (.ref a) (.ref s3.heap.objs.size)) (EP X pins σ Q) X.xe { s3 with heap := s3.heap.push { cls := .type "slice", data := .fields #[.none, .none, .int k t] } } := by
    refine wpAny_getItem_list_slice (st := some (k : Int)) ht.isList (Heap.IsSliceOf.new ..) .none .none (.int _ _) (by intro z; have := Option.some.inj z; omega) ?_ (by rw [List.size_toArray] <;> omega)
    rw [pick_step its hk, ← hlen]
    refine ⟨.ref _, _, I4.laid (t' := s3.toks) (o := .lst (stepV xs k)) (fun b ob q => Heap.get?_push_of_some _ q) (Nat.le_refl _) ?_, rfl, q _ (I4.hok.fresh (Nat.le_refl _))⟩
    exact ⟨Nat.le_trans (stepV_len xs k hk) hz, _, 0, vals_picks r _ _, Heap.get?_push_size _ rfl⟩
  show wpAny (model X.prog X.w) X.A (subscriptTail e (.Slice none none (some st) p2) (.ref a) (.ref s3.heap.objs.size)) (EP X pins σ Q) X.xe { s3 with heap := s3.heap.push { cls := .type "slice", data := .fields #[.none, .none, .int k t] } }
  exact tail_any (ops := [.ref a, .ref s3.heap.objs.size]) ht.isList.typeIs slot_list_getitem.lookup hg (by with_unfolding_all rfl)
end Wn
/-! sums of powers, and which cuts balance -/
namespace Wn
open PySem PySem.Spec PyProof.Rows L2
def geo (g : Nat) : Nat → Nat
  | 0 => 0
  | c + 1 => geo g c + g ^ c
theorem geo_add (g a : Nat) : ∀ d, geo g (a + d) = geo g a + g ^ a * geo g d
  | 0 => by simp [geo]
  | d + 1 => by
    rw [← Nat.add_assoc]
    show geo g (a + d) + g ^ (a + d) = geo g a + g ^ a * (geo g d + g ^ d)
    rw [geo_add g a d, Nat.mul_add, Nat.pow_add, Nat.add_assoc]
theorem geo_mul (g m : Nat) : ∀ c, geo g (m * c) = geo g m * geo (g ^ m) c
  | 0 => by simp [geo]
  | c + 1 => by
    show geo g (m * c + m) = geo g m * (geo (g ^ m) c + (g ^ m) ^ c)
    rw [geo_add, geo_mul g m c, Nat.mul_add, ← Nat.pow_mul, Nat.mul_comm (g ^ (m * c))]
theorem geo_tel (g : Nat) : ∀ c, geo g c * g + 1 = geo g c + g ^ c
  | 0 => by simp [geo]
  | c + 1 => by
    show (geo g c + g ^ c) * g + 1 = geo g c + g ^ c + g ^ (c + 1)
    rw [Nat.add_mul, Nat.pow_succ]
    have := geo_tel g c
    omega
def restSum (b n x s c : Nat) : Nat := ((List.range c).map fun i => rem b n x (s * i)).sum
theorem restSum_succ (b n x s c : Nat) : restSum b n x s (c + 1) = restSum b n x s c + rem b n x (s * c) := by
  unfold restSum
  rw [List.range_succ, List.map_append, List.sum_append]
  simp
theorem restSum_mod (b n x s : Nat) : ∀ c, restSum b n x s c % n = x * geo (b ^ s) c % n
  | 0 => by simp [restSum, geo]
  | c + 1 => by
    rw [restSum_succ, Nat.add_mod, restSum_mod b n x s c]
    show (_ + rem b n x (s * c) % n) % n = x * (geo (b ^ s) c + (b ^ s) ^ c) % n
    rw [Nat.mul_add, Nat.add_mod (x * _)]
    unfold rem
    rw [Nat.mod_mod, Nat.pow_mul]
def bal (b n s c : Nat) : Bool := decide (restSum b n 1 s c % n = 0)
theorem bal_iff {b n s c : Nat} : bal b n s c = true ↔ n ∣ geo (b ^ s) c := by
  unfold bal
  rw [decide_eq_true_eq, restSum_mod, Nat.one_mul]
  exact (Nat.dvd_iff_mod_eq_zero ..).symm
theorem bal_mul {b n s c m : Nat} (h : bal b n (m * s) c = true) : bal b n s (m * c) = true := by
  rw [bal_iff] at h ⊢
  rw [geo_mul, ← Nat.pow_mul, Nat.mul_comm s m]
  exact Nat.dvd_trans h (Nat.dvd_mul_left _ _)
theorem bal_prime {b n s c L : Nat} (hb : 1 ≤ b) (hn : 2 ≤ n) (hp : ∀ k, 2 ≤ k → k < n → ¬ n % k = 0) (hL : IsPer b n L) (hc : 2 ≤ c) (hs : 1 ≤ s) (e : L = s * c) : bal b n s c = true := by
  rw [bal_iff]
  have hsL : s < L := by
    rw [e]
    have : s * 2 ≤ s * c := Nat.mul_le_mul_left _ hc
    omega
  have g1 : 1 ≤ b ^ s := Nat.one_le_pow _ _ hb
  have h1 : (b ^ s) ^ c % n = 1 % n := by
    rw [← Nat.pow_mul, ← e]
    exact hL.2.1
  have h2 : ¬ n ∣ b ^ s - 1 := fun z => hL.2.2 s hs hsL ((mod_iff g1).mpr z).symm
  have t := geo_tel (b ^ s) c
  have t2 : geo (b ^ s) c * (b ^ s - 1) = (b ^ s) ^ c - 1 := by
    rw [Nat.mul_sub, Nat.mul_one]
    omega
  have h3 : n ∣ geo (b ^ s) c * (b ^ s - 1) := by
    rw [t2]
    exact (mod_iff (Nat.one_le_pow _ _ g1)).mp h1.symm
  have hd : Nat.gcd n (b ^ s - 1) ∣ n := Nat.gcd_dvd_left _ _
  have hdn := Nat.le_of_dvd (by omega) hd
  have hd0 : 1 ≤ Nat.gcd n (b ^ s - 1) := Nat.gcd_pos_of_pos_left _ (by omega)
  have hd1 : Nat.gcd n (b ^ s - 1) = 1 := by
    rcases Nat.lt_or_eq_of_le hdn with z | z
    · rcases Nat.lt_or_eq_of_le hd0 with y | y
      · exact absurd (Nat.mod_eq_zero_of_dvd hd) (hp _ y z)
      · exact y.symm
    · exact absurd (z ▸ Nat.gcd_dvd_right n (b ^ s - 1)) h2
  exact Nat.Coprime.dvd_of_dvd_mul_right hd1 h3
/-! which cuts -/
def from2 (k : Nat) : List Nat := (List.range k).map (2 + ·)
theorem from2_succ (k : Nat) : from2 (k + 1) = from2 k ++ [2 + k] := by
  unfold from2
  rw [List.range_succ, List.map_append]
  rfl
theorem mem_from2 {k c : Nat} : c ∈ from2 k ↔ 2 ≤ c ∧ c < 2 + k := by
  unfold from2
  rw [List.mem_map]
  constructor
  · rintro ⟨i, hi, rfl⟩
    rw [List.mem_range] at hi
    omega
  · rintro ⟨h1, h2⟩
    exact ⟨c - 2, List.mem_range.mpr (by omega), by omega⟩
def splitsL (L : Nat) : List Nat := (from2 (L - 1)).filter fun c => decide (L % c = 0)
theorem mem_splits {L c : Nat} (hL : 1 ≤ L) : c ∈ splitsL L ↔ 2 ≤ c ∧ c ∣ L := by
  unfold splitsL
  rw [List.mem_filter, mem_from2, decide_eq_true_eq]
  constructor
  · rintro ⟨⟨h1, h2⟩, h3⟩
    exact ⟨h1, Nat.dvd_of_mod_eq_zero h3⟩
  · rintro ⟨h1, h2⟩
    have := Nat.le_of_dvd hL h2
    exact ⟨⟨h1, by omega⟩, Nat.mod_eq_zero_of_dvd h2⟩
def dueL (b n L : Nat) : List Nat := (splitsL L).filter fun c => bal b n (L / c) c
def below (xs : List Nat) (c : Nat) : List Nat := xs.filter fun k => decide (k < c) && decide (c % k = 0)
def isLeast (xs : List Nat) (c : Nat) : Bool := (below xs c).isEmpty
def leastL (xs : List Nat) : List Nat := xs.filter (isLeast xs)
theorem asc_splits (L : Nat) : (splitsL L).Pairwise (· < ·) := by
  unfold splitsL from2
  refine List.Pairwise.filter _ ?_
  rw [List.pairwise_map]
  exact List.Pairwise.imp (fun h => by omega) List.pairwise_lt_range
theorem asc_due (b n L : Nat) : (dueL b n L).Pairwise (· < ·) := (asc_splits L).filter _
theorem isLeast_iff {xs : List Nat} {c : Nat} : isLeast xs c = true ↔ ∀ k ∈ xs, k < c → ¬ c % k = 0 := by
  unfold isLeast below
  rw [List.isEmpty_iff, List.filter_eq_nil_iff]
  constructor
  · intro h k hk hc hm
    exact h k hk (by rw [decide_eq_true hc, decide_eq_true hm]; rfl)
  · intro h k hk hm
    rw [Bool.and_eq_true, decide_eq_true_eq, decide_eq_true_eq] at hm
    exact h k hk hm.1 hm.2
theorem least_under {xs : List Nat} (h2 : ∀ k ∈ xs, 1 ≤ k) : ∀ (m k : Nat), k ≤ m → k ∈ xs → ∃ k0 ∈ xs, k0 ∣ k ∧ isLeast xs k0 = true
  | 0, k, hm, hk => absurd (h2 k hk) (by omega)
  | m + 1, k, hm, hk => by
    by_cases h : isLeast xs k = true
    · exact ⟨k, hk, Nat.dvd_refl k, h⟩
    · rw [isLeast_iff] at h
      have : ∃ j, j ∈ xs ∧ j < k ∧ k % j = 0 := by
        apply Classical.byContradiction
        intro z
        exact h fun j hj hl hm' => z ⟨j, hj, hl, hm'⟩
      obtain ⟨j, hj, hl, hm'⟩ := this
      obtain ⟨k0, h0, hd, hs⟩ := least_under h2 m j (by omega) hj
      exact ⟨k0, h0, Nat.dvd_trans hd (Nat.dvd_of_mod_eq_zero hm'), hs⟩
/-- the look at the least ones found so far -/
theorem least_step {xs : List Nat} (h2 : ∀ k ∈ xs, 1 ≤ k) (asc : xs.Pairwise (· < ·)) {i : Nat} (hi : i < xs.length) :
    (((xs.take i).filter (isLeast xs)).map fun k => !decide (xs[i] % k = 0)).all id = isLeast xs xs[i] := by
  rw [Bool.eq_iff_iff, List.all_map, List.all_eq_true, isLeast_iff]
  have lt : ∀ k ∈ xs.take i, k < xs[i] := fun k hk => by
    obtain ⟨j, hj, rfl⟩ := List.mem_iff_getElem.mp hk
    rw [List.length_take] at hj
    rw [List.getElem_take]
    exact List.pairwise_iff_getElem.mp asc j i (by omega) hi (by omega)
  have back : ∀ k ∈ xs, k < xs[i] → k ∈ xs.take i := fun k hk hl => by
    obtain ⟨j, hj, rfl⟩ := List.mem_iff_getElem.mp hk
    rw [List.mem_iff_getElem]
    have hji : j < i := by
      rcases Nat.lt_trichotomy j i with z | z | z
      · exact z
      · subst z
        omega
      · have := List.pairwise_iff_getElem.mp asc i j hi hj z
        omega
    exact ⟨j, by rw [List.length_take]; omega, by rw [List.getElem_take]⟩
  constructor
  · intro h k hk hl hm
    obtain ⟨k0, h0, hd, hs⟩ := least_under h2 k k (Nat.le_refl _) hk
    have hk0 : k0 < xs[i] := Nat.lt_of_le_of_lt (Nat.le_of_dvd (h2 k hk) hd) hl
    have := h k0 (List.mem_filter.mpr ⟨back k0 h0 hk0, hs⟩)
    rw [Function.comp_apply, id_eq, Bool.not_eq_true', decide_eq_false_iff_not] at this
    exact this (Nat.mod_eq_zero_of_dvd (Nat.dvd_trans hd (Nat.dvd_of_mod_eq_zero hm)))
  · intro h k hk
    obtain ⟨hk1, hk2⟩ := List.mem_filter.mp hk
    rw [Function.comp_apply, id_eq, Bool.not_eq_true', decide_eq_false_iff_not]
    exact h k (List.mem_of_mem_take hk1) (lt k hk1)
theorem due_mul {b n L c k : Nat} (hL : 1 ≤ L) (hc : c ∈ dueL b n L) (hk : k ∈ splitsL L) (hd : k % c = 0) : k ∈ dueL b n L := by
  obtain ⟨hc1, hc2⟩ := List.mem_filter.mp hc
  refine List.mem_filter.mpr ⟨hk, ?_⟩
  obtain ⟨k1, k2⟩ := (mem_splits hL).mp hk
  obtain ⟨c1, c2⟩ := (mem_splits hL).mp hc1
  obtain ⟨m, rfl⟩ := Nat.dvd_of_mod_eq_zero hd
  obtain ⟨s, rfl⟩ := k2
  have hm : 1 ≤ m := by
    rcases Nat.eq_zero_or_pos m with z | z
    · subst z
      omega
    · exact z
  have e1 : c * m * s / c = m * s := by
    rw [Nat.mul_assoc]
    exact Nat.mul_div_cancel_left _ (by omega)
  have e2 : c * m * s / (c * m) = s := Nat.mul_div_cancel_left _ (by omega)
  rw [e1] at hc2
  rw [e2, Nat.mul_comm c m]
  exact bal_mul hc2
theorem due_prime {b n L : Nat} (hb : 1 ≤ b) (hn : 2 ≤ n) (hp : ∀ k, 2 ≤ k → k < n → ¬ n % k = 0) (hL : IsPer b n L) : dueL b n L = splitsL L := by
  unfold dueL
  rw [List.filter_eq_self]
  intro c hc
  obtain ⟨h1, s, e⟩ := (mem_splits hL.1).mp hc
  have hs : 1 ≤ s := by
    rcases Nat.eq_zero_or_pos s with z | z
    · rw [z, Nat.mul_zero] at e
      have := hL.1
      omega
    · exact z
  have : L / c = s := by
    rw [e]
    exact Nat.mul_div_cancel_left _ (by omega)
  rw [this]
  exact bal_prime hb hn hp hL h1 hs (by rw [e, Nat.mul_comm])
/-! lists of whole numbers from 0 on -/
def vn (xs : List Nat) : List V := xs.map fun k => V.int (k : Nat)
def ni (xs : List Nat) : List Int := xs.map fun k => ((k : Nat) : Int)
theorem vn_ni (xs : List Nat) : vn xs = (ni xs).map V.int := by
  unfold vn ni
  rw [List.map_map]
  rfl
theorem vn_len (xs : List Nat) : (vn xs).length = xs.length := by simp [vn]
theorem vn_snoc (xs : List Nat) (k : Nat) : vn xs ++ [V.int (k : Nat)] = vn (xs ++ [k]) := by simp [vn]
theorem vn_get {xs : List Nat} {i : Nat} {y : V} (h : (vn xs)[i]? = some y) : ∃ hi : i < xs.length, y = V.int (xs[i] : Nat) := by
  unfold vn at h
  rw [List.getElem?_map] at h
  cases e : xs[i]? with
  | none =>
    rw [e] at h
    cases h
  | some n =>
    rw [e] at h
    obtain ⟨hi, e2⟩ := List.getElem?_eq_some_iff.mp e
    subst e2
    exact ⟨hi, (Option.some.inj h).symm⟩
theorem ni_sum : ∀ xs : List Nat, (ni xs).sum = ((xs.sum : Nat) : Int)
  | [] => rfl
  | x :: r => by
    show (x : Int) + (ni r).sum = ((x + r.sum : Nat) : Int)
    rw [ni_sum r]
    omega
theorem filt_yes {xs : List Nat} {g : Nat → Bool} {i : Nat} (hi : i < xs.length) (h : g xs[i] = true) : (xs.take (i + 1)).filter g = (xs.take i).filter g ++ [xs[i]] := by
  rw [List.take_succ_eq_append_getElem hi, List.filter_append, List.filter_cons, if_pos h]
  rfl
theorem filt_no {xs : List Nat} {g : Nat → Bool} {i : Nat} (hi : i < xs.length) (h : g xs[i] = false) : (xs.take (i + 1)).filter g = (xs.take i).filter g := by
  rw [List.take_succ_eq_append_getElem hi, List.filter_append, List.filter_cons, if_neg (by rw [h]; decide)]
  simp
theorem from2_len (k : Nat) : (from2 k).length = k := by simp [from2]
theorem from2_get {k i : Nat} (h : i < k) : (from2 k)[i]'(by rw [from2_len]; exact h) = 2 + i := by simp [from2]
theorem eqv_niL (ys : List Nat) : PyData.eqv (.list ((ni ys).map PyData.int)) (.list []) = ys.isEmpty := by
  cases ys with
  | nil => rfl
  | cons y r => rfl
theorem inV_ni (k : Nat) : ∀ xs : List Nat, inV (.int (k : Nat)) (vn xs) = decide (k ∈ xs) := by
  intro xs
  induction xs with
  | nil => rfl
  | cons y r ih =>
    show ((((y : Nat) : Int) == ((k : Nat) : Int)) || inV (.int (k : Nat)) (vn r)) = _
    rw [ih, Bool.eq_iff_iff, Bool.or_eq_true, beq_iff_eq, decide_eq_true_eq, decide_eq_true_eq, List.mem_cons]
    constructor
    · rintro (h | h)
      · exact .inl (by omega)
      · exact .inr h
    · rintro (h | h)
      · exact .inl (by omega)
      · exact .inr h
theorem flat_ni : ∀ xs : List Nat, (vn xs).all flatV = true
  | [] => rfl
  | _ :: r => flat_ni r
theorem blkOk_of {N N0 : List Str} {sc sc0 scope : Scope} {own : List (Str × Nat)} (hN : N = N0) (hs : sc = sc0) (h : blkC N0 sc0 scope own = true) : BlkOk N sc scope own := by
  subst hN hs
  exact blkOk_by h
end Wn
/-! values of digits, and the sum of the pieces -/
namespace Wn
open PySem PySem.Spec PyProof.Rows L2
def wrt (b : Nat) (ds : List Nat) : Nat := ds.foldl (fun f d => f * b + d) 0
theorem wrt_snoc (b : Nat) (ds : List Nat) (d : Nat) : wrt b (ds ++ [d]) = wrt b ds * b + d := by simp [wrt]
def dg (b n x lo c : Nat) : List Nat := (List.range c).map fun i => rem b n x (lo + i) * b / n
theorem dg_len (b n x lo c : Nat) : (dg b n x lo c).length = c := by simp [dg]
theorem dg_succ (b n x lo c : Nat) : dg b n x lo (c + 1) = dg b n x lo c ++ [rem b n x (lo + c) * b / n] := by
  unfold dg
  rw [List.range_succ, List.map_append]
  rfl
theorem wrt_dg (b n x lo : Nat) : ∀ c, n * wrt b (dg b n x lo c) + rem b n x (lo + c) = rem b n x lo * b ^ c
  | 0 => by simp [dg, wrt]
  | c + 1 => by
    have ih := wrt_dg b n x lo c
    have dm := Nat.div_add_mod (rem b n x (lo + c) * b) n
    rw [rem_succ] at dm
    rw [dg_succ, wrt_snoc, Nat.pow_succ, ← Nat.mul_assoc, ← ih, Nat.mul_add, Nat.add_mul, ← Nat.mul_assoc]
    have e : lo + (c + 1) = lo + c + 1 := rfl
    rw [e]
    omega
/-- the value of piece number j of k digits -/
def pce (b n x k j : Nat) : Nat := wrt b (dg b n x (k * j) k)
def pcs (b n x k c : Nat) : List Nat := (List.range c).map (pce b n x k)
theorem pcs_len (b n x k c : Nat) : (pcs b n x k c).length = c := by simp [pcs]
theorem pcs_succ (b n x k c : Nat) : pcs b n x k (c + 1) = pcs b n x k c ++ [pce b n x k c] := by
  unfold pcs
  rw [List.range_succ, List.map_append]
  rfl
theorem pcs_sum (b n x k : Nat) : ∀ c, n * (pcs b n x k c).sum + restSum b n x k c + rem b n x (k * c) = b ^ k * restSum b n x k c + rem b n x 0
  | 0 => by simp [pcs, restSum]
  | c + 1 => by
    have ih := pcs_sum b n x k c
    have w := wrt_dg b n x (k * c) k
    have e : k * (c + 1) = k * c + k := rfl
    rw [e, pcs_succ, List.sum_append, restSum_succ, Nat.mul_add, Nat.mul_add]
    have e2 : ([pce b n x k c] : List Nat).sum = pce b n x k c := by simp
    rw [e2]
    unfold pce
    rw [Nat.mul_comm (b ^ k) (rem b n x (k * c)), ← w]
    omega
theorem pcs_all {b n x k c : Nat} (hb : 1 ≤ b) (h : rem b n x (k * c) = rem b n x 0) : n * (pcs b n x k c).sum = (b ^ k - 1) * restSum b n x k c := by
  have e := pcs_sum b n x k c
  rw [h] at e
  have h1 : 1 ≤ b ^ k := Nat.one_le_pow _ _ hb
  rw [Nat.sub_mul, Nat.one_mul]
  omega
theorem pcs_quot {b n x k c : Nat} (hb : 2 ≤ b) (hk : 1 ≤ k) (hn : 1 ≤ n) (h : rem b n x (k * c) = rem b n x 0) :
    ((pcs b n x k c).sum % (b ^ k - 1) = 0 ↔ restSum b n x k c % n = 0) ∧ (restSum b n x k c % n = 0 → (pcs b n x k c).sum / (b ^ k - 1) = restSum b n x k c / n) := by
  have e := pcs_all (b := b) (n := n) (x := x) (k := k) (c := c) (by omega) h
  have h1 : 2 ≤ b ^ k := Nat.le_trans hb (Nat.le_self_pow (by omega) b)
  generalize (pcs b n x k c).sum = S at e ⊢
  generalize restSum b n x k c = R at e ⊢
  generalize hm : b ^ k - 1 = m at e ⊢
  have m1 : 1 ≤ m := by omega
  refine ⟨⟨fun z => ?_, fun z => ?_⟩, fun z => ?_⟩
  · obtain ⟨q, rfl⟩ := Nat.dvd_of_mod_eq_zero z
    have : m * R = m * (n * q) := by rw [← e, Nat.mul_left_comm]
    rw [Nat.eq_of_mul_eq_mul_left m1 this]
    exact Nat.mul_mod_right _ _
  · obtain ⟨q, rfl⟩ := Nat.dvd_of_mod_eq_zero z
    have : n * S = n * (m * q) := by rw [e, Nat.mul_left_comm]
    rw [Nat.eq_of_mul_eq_mul_left hn this]
    exact Nat.mul_mod_right _ _
  · obtain ⟨q, rfl⟩ := Nat.dvd_of_mod_eq_zero z
    have : n * S = n * (m * q) := by rw [e, Nat.mul_left_comm]
    rw [Nat.eq_of_mul_eq_mul_left hn this, Nat.mul_div_cancel_left _ m1, Nat.mul_div_cancel_left _ hn]
theorem pce_lt {b n x k j : Nat} (hb : 1 ≤ b) (hn : 1 ≤ n) : pce b n x k j < b ^ k := by
  have w := wrt_dg b n x (k * j) k
  have r := rem_lt (b := b) (n := n) (x := x) (i := k * j) hn
  unfold pce
  have h1 : n * wrt b (dg b n x (k * j) k) ≤ rem b n x (k * j) * b ^ k := by omega
  have h2 : rem b n x (k * j) * b ^ k < n * b ^ k := Nat.mul_lt_mul_of_pos_right r (Nat.pow_pos hb)
  exact Nat.lt_of_mul_lt_mul_left (Nat.lt_of_le_of_lt h1 h2)
theorem rem_period {b n x L : Nat} (h : b ^ L % n = 1 % n) : rem b n x L = rem b n x 0 := by
  unfold rem
  rw [Nat.mul_mod, h, ← Nat.mul_mod, Nat.pow_zero]
/-! whole numbers of more signs -/
theorem Sm.intB {i : Int} {k : Nat} (hk : 1 ≤ k) (h : i.natAbs < 2 ^ k) (hk2 : k ≤ 1000) : Sm (.int i) 303 0 k := by
  have hl := log2_lt hk h
  have h12 : i.natAbs < 10 ^ 302 := Nat.lt_of_lt_of_le h (Nat.le_trans (Nat.pow_le_pow_right (by decide) hk2) (by decide +kernel))
  refine ⟨?_, ?_, rfl, rfl, Nat.le_refl _, ?_⟩
  · show decide (i.natAbs.log2 < 1920) = true
    exact decide_eq_true (by omega)
  · show decide ((PyData.shown (.int i)).length ≤ 303) = true
    refine decide_eq_true ?_
    have e := int_text_length_le10 (k := 302) (by decide) h12
    show (Str.ofString (toString i)).length ≤ 303
    rw [PySem.ofString_length]
    exact e
  · show 0 ≤ k
    omega
/-- .. of up to 1900 bits -/
theorem Sm.intW {i : Int} (h : i.natAbs < 2 ^ 1900) : Sm (.int i) 600 0 0 := by
  have hl := log2_lt (k := 1900) (by decide) h
  have h12 : i.natAbs < 10 ^ 599 := Nat.lt_of_lt_of_le h (by decide +kernel)
  refine ⟨?_, ?_, rfl, rfl, Nat.le_refl _, Nat.le_refl _⟩
  · show decide (i.natAbs.log2 < 1920) = true
    exact decide_eq_true (by omega)
  · show decide ((PyData.shown (.int i)).length ≤ 600) = true
    refine decide_eq_true ?_
    have e := int_text_length_le10 (k := 599) (by decide) h12
    show (Str.ofString (toString i)).length ≤ 600
    rw [PySem.ofString_length]
    exact e
theorem Sm.int0 {i : Int} {k : Nat} (hk : 1 ≤ k) (h : i.natAbs < 2 ^ k) (hk2 : k ≤ 39) : Sm (.int i) 13 0 0 := by
  obtain ⟨a, b, c, d, e, _⟩ := Sm.int hk h hk2
  exact ⟨a, b, c, d, e, Nat.le_refl _⟩
end Wn
/-! d.update(e) for dicts of whole numbers and texts; dict(xs) with a name -/
namespace Wn
open PySem PySem.Spec PyProof.Rows L2
def rUpd : V → List V → Hp → VK → Prop := fun x vs H Q => ∃ (a o : Addr) (kvs more : List (Key × V)), x = .ref a ∧ vs = [.ref o] ∧ a ≠ o ∧ H a = some (.dK kvs) ∧ H o = some (.dK more) ∧ kvs.length + more.length ≤ sizeLine ∧ Q .non (upd H a (.dK (mergeK kvs more)))
theorem mt_update {X : Cx} : MtR X "dict.update" rUpd := by
  intro pins s σ H x vs v us Q I rx rv h
  obtain ⟨a, o, kvs, more, rfl, rfl, hne, ha, ho, hz, q⟩ := h
  cases rx
  obtain ⟨u, rfl, ru⟩ := rv.one
  cases ru
  obtain ⟨z1, n1, vs1, rel1, d1⟩ := dk_of I.hok ha
  obtain ⟨z2, n2, vs2, rel2, d2⟩ := dk_of I.hok ho
  have l1 := rel1.length
  have l2 := rel2.length
  refine call_meetsIn PySem.F.slot_dict_update d1.typeIs PySem.F.entry_dict_update (PySem.F.args_dict_update_2 _ _) (meets_dict_update (mixKind X.prog X.w) a o hne n2) ⟨vs1, vs2, d1, d2, by omega, fun h' d1' d2' hs => ?_⟩
  have hlm := length_mergeK more kvs
  have he : ∃ q, h'.get? a = some q := let ⟨q, _, _, hq, _⟩ := d1'; ⟨q, hq⟩
  exact ⟨.non, _, d_write I (by rw [ha]; exact True.intro) hs he (dk_new (by omega) n1 (rel2.merge rel1) d1'), rfl, q⟩
def rDP (K : PySem.W.Frag) : List V → Hp → VK → Prop := fun xs H Q => ∃ (a : Addr) (ps : List Addr) (kvs : List (Key × V)), xs = [.ref a] ∧ SqL K H a (ps.map V.ref) ∧ Paired (fun p kv => SqT K H p [kV kv.1, kv.2]) ps kvs ∧
    ∀ p, H p = none → Q (.ref p) (upd H p (.dK (mergeK [] kvs)))
theorem call_dP {X : Cx} (h : X.calm = true) : CallR X (.type "dict") (rDP X.K) := call_dictP h
theorem valV_merge : ∀ (more kvs : List (Key × V)) (k : Key), (valV (mergeK kvs more) k).isSome = ((valV kvs k).isSome || decide (∃ kv ∈ more, kv.1 = k))
  | [], kvs, k => by simp [mergeK]
  | p :: r, kvs, k => by
    show (valV (mergeK (putK kvs p.1 p.2) r) k).isSome = _
    rw [valV_merge r, valV_put, Bool.eq_iff_iff]
    by_cases e : k = p.1
    · subst e
      simp
    · rw [if_neg e]
      have e' : ¬ p.1 = k := fun z => e z.symm
      simp [e']
end Wn
/-! wheels: rows of remainders -/
namespace Wn
open PySem PySem.Spec PyProof.Rows L2
def topB (b n L x : Nat) : Bool := decide (Nat.gcd x n = 1) && (List.range L).all fun i => decide (x ≤ rem b n x i)
def wl (b n L : Nat) : List Nat := (List.range n).filter (topB b n L)
def InOrb (b n L y r : Nat) : Prop := ∃ i, i < L ∧ rem b n y i = r
theorem top_iff {b n L x : Nat} : topB b n L x = true ↔ Nat.gcd x n = 1 ∧ ∀ i, i < L → x ≤ rem b n x i := by
  unfold topB
  rw [Bool.and_eq_true, decide_eq_true_eq, List.all_eq_true]
  constructor
  · rintro ⟨h1, h2⟩
    refine ⟨h1, fun i hi => ?_⟩
    have := h2 i (List.mem_range.mpr hi)
    rwa [decide_eq_true_eq] at this
  · rintro ⟨h1, h2⟩
    exact ⟨h1, fun i hi => decide_eq_true (h2 i (List.mem_range.mp hi))⟩
theorem rem_rem (b n y i j : Nat) : rem b n (rem b n y i) j = rem b n y (i + j) := by
  unfold rem
  rw [Nat.mod_mul_mod, Nat.mul_assoc, ← Nat.pow_add]
theorem rem_per {b n L y : Nat} (h : IsPer b n L) (hy : y < n) : rem b n y L = y := by
  unfold rem
  rw [Nat.mul_mod, h.2.1, ← Nat.mul_mod, Nat.mul_one, Nat.mod_eq_of_lt hy]
theorem orb_symm {b n L x y : Nat} (h : IsPer b n L) (hy : y < n) (o : InOrb b n L y x) : InOrb b n L x y := by
  obtain ⟨i, hi, e⟩ := o
  subst e
  rcases Nat.eq_zero_or_pos i with z | z
  · subst z
    exact ⟨0, h.1, by rw [rem_rem, rem_zero hy]⟩
  · exact ⟨L - i, by omega, by rw [rem_rem, show i + (L - i) = L by omega, rem_per h hy]⟩
theorem rem_cop {b n x : Nat} (g : Nat.gcd b n = 1) (gx : Nat.gcd x n = 1) (i : Nat) : Nat.gcd (rem b n x i) n = 1 := by
  unfold rem
  rw [← Nat.gcd_rec n (x * b ^ i), Nat.gcd_comm]
  exact Nat.Coprime.mul_left gx (cop_pow g i)
theorem not_top {b n L x : Nat} (g : Nat.gcd b n = 1) (h : IsPer b n L) (hx : x < n) (gx : Nat.gcd x n = 1) : topB b n L x = false ↔ ∃ y, y < x ∧ Nat.gcd y n = 1 ∧ InOrb b n L y x := by
  have hn : 1 ≤ n := by omega
  constructor
  · intro z
    have z' : ¬ topB b n L x = true := by rw [z]; decide
    rw [top_iff] at z'
    have : ∃ i, i < L ∧ rem b n x i < x := by
      apply Classical.byContradiction
      intro c
      exact z' ⟨gx, fun i hi => Nat.le_of_not_lt fun l => c ⟨i, hi, l⟩⟩
    obtain ⟨i, hi, l⟩ := this
    exact ⟨_, l, rem_cop g gx i, orb_symm h hx ⟨i, hi, rfl⟩⟩
  · rintro ⟨y, hy, gy, o⟩
    obtain ⟨j, hj, e⟩ := orb_symm h (by omega) o
    cases c : topB b n L x with
    | false => rfl
    | true =>
      have := (top_iff.mp c).2 j hj
      omega
/-- who has been met before x comes -/
def Met (b n L k r : Nat) : Prop := ∃ y, y < k ∧ Nat.gcd y n = 1 ∧ InOrb b n L y r
theorem met_top {b n L k r : Nat} (g : Nat.gcd b n = 1) (h : IsPer b n L) (hk : k ≤ n) : Met b n L k r ↔ ∃ y, y < k ∧ topB b n L y = true ∧ InOrb b n L y r := by
  constructor
  · rintro ⟨y, hy, gy, i, hi, e⟩
    -- the least of its row
    obtain ⟨m, hm, ⟨j, hj, ej⟩, q⟩ := least (fun z => ∃ j, j < L ∧ rem b n y j = z) y ⟨0, h.1, rem_zero (by omega)⟩
    have hjm : rem b n y j = m := ej
    refine ⟨m, by omega, top_iff.mpr ⟨?_, fun t ht => ?_⟩, ?_⟩
    · rw [← hjm]
      exact rem_cop g gy j
    · apply Nat.le_of_not_lt
      intro l
      refine q _ l ⟨(j + t) % L, Nat.mod_lt _ h.1, ?_⟩
      rw [← hjm, rem_rem]
      have := Nat.div_add_mod (j + t) L
      show rem b n y ((j + t) % L) = rem b n y (j + t)
      conv => rhs; rw [← this]
      rw [← rem_rem]
      congr 1
      unfold rem
      rw [Nat.mul_mod, h.mul, ← Nat.mul_mod, Nat.mul_one, Nat.mod_eq_of_lt (by omega)]
    · refine ⟨(L - j + i) % L, Nat.mod_lt _ h.1, ?_⟩
      have := Nat.div_add_mod (L - j + i) L
      rw [← e, ← hjm, rem_rem]
      have e2 : rem b n y (j + (L - j + i) % L) = rem b n y (j + (L - j + i)) := by
        conv => rhs; rw [← this]
        rw [show j + (L * ((L - j + i) / L) + (L - j + i) % L) = L * ((L - j + i) / L) + (j + (L - j + i) % L) by omega, ← rem_rem (i := L * ((L - j + i) / L))]
        congr 1
        unfold rem
        rw [Nat.mul_mod, h.mul, ← Nat.mul_mod, Nat.mul_one, Nat.mod_eq_of_lt (by omega)]
      rw [e2, show j + (L - j + i) = L + i by omega, ← rem_rem, rem_per h (by omega)]
  · rintro ⟨y, hy, t, o⟩
    exact ⟨y, hy, (top_iff.mp t).1, o⟩
theorem met_succ {b n L k r : Nat} : Met b n L (k + 1) r ↔ Met b n L k r ∨ (Nat.gcd k n = 1 ∧ InOrb b n L k r) := by
  constructor
  · rintro ⟨y, hy, gy, o⟩
    rcases Nat.lt_or_eq_of_le (show y ≤ k by omega) with z | z
    · exact .inl ⟨y, z, gy, o⟩
    · subst z
      exact .inr ⟨gy, o⟩
  · rintro (⟨y, hy, gy, o⟩ | ⟨gk, o⟩)
    · exact ⟨y, by omega, gy, o⟩
    · exact ⟨k, by omega, gk, o⟩
/-- a number whose least one stands before it brings nothing new -/
theorem met_skip {b n L k r : Nat} (g : Nat.gcd b n = 1) (h : IsPer b n L) (hk : k < n) (c : topB b n L k = false) : Met b n L (k + 1) r ↔ Met b n L k r := by
  rw [met_top g h (by omega), met_top g h (by omega)]
  constructor
  · rintro ⟨y, hy, t, o⟩
    rcases Nat.lt_or_eq_of_le (show y ≤ k by omega) with z | z
    · exact ⟨y, z, t, o⟩
    · subst z
      rw [c] at t
      cases t
  · rintro ⟨y, hy, t, o⟩
    exact ⟨y, by omega, t, o⟩
def rl (b n x L : Nat) : List Nat := (List.range L).map fun i => rem b n x i
theorem rl_len (b n x L : Nat) : (rl b n x L).length = L := by simp [rl]
theorem mem_rl {b n x L r : Nat} : r ∈ rl b n x L ↔ InOrb b n L x r := by
  unfold rl
  rw [List.mem_map]
  constructor
  · rintro ⟨i, hi, e⟩
    exact ⟨i, List.mem_range.mp hi, e⟩
  · rintro ⟨i, hi, e⟩
    exact ⟨i, List.mem_range.mpr hi, e⟩
theorem rl_lt {b n x L r : Nat} (hn : 1 ≤ n) (h : r ∈ rl b n x L) : r < n := by
  obtain ⟨i, _, rfl⟩ := mem_rl.mp h
  exact rem_lt hn
def copL (n : Nat) : List Nat := (List.range n).filter fun x => decide (Nat.gcd x n = 1)
theorem wl_take_succ {b n L k : Nat} (hk : k < n) : ((List.range n).take (k + 1)).filter (topB b n L) = ((List.range n).take k).filter (topB b n L) ++ (if topB b n L k = true then [k] else []) := by
  rw [List.take_succ_eq_append_getElem (by simpa using hk), List.filter_append, List.getElem_range, List.filter_cons]
  split <;> simp
end Wn
namespace Wn
open PySem PySem.Spec PyProof.Rows L2
theorem orb_trans {b n L x y r : Nat} (h : IsPer b n L) (hy : y < n) (o : InOrb b n L y x) (o2 : InOrb b n L x r) : InOrb b n L y r := by
  obtain ⟨i, hi, rfl⟩ := o
  obtain ⟨j, hj, rfl⟩ := o2
  refine ⟨(i + j) % L, Nat.mod_lt _ h.1, ?_⟩
  rw [rem_rem]
  have := Nat.div_add_mod (i + j) L
  show rem b n y ((i + j) % L) = rem b n y (i + j)
  conv => rhs; rw [← this]
  rw [← rem_rem]
  congr 1
  unfold rem
  rw [Nat.mul_mod, h.mul, ← Nat.mul_mod, Nat.mul_one, Nat.mod_eq_of_lt hy]
theorem asc_cop (n : Nat) : (copL n).Pairwise (· < ·) := List.Pairwise.filter _ List.pairwise_lt_range
theorem mem_cop {n x : Nat} : x ∈ copL n ↔ x < n ∧ Nat.gcd x n = 1 := by
  unfold copL
  rw [List.mem_filter, List.mem_range, decide_eq_true_eq]
theorem cop_len (n : Nat) : (copL n).length ≤ n := by
  unfold copL
  exact Nat.le_trans (List.length_filter_le _ _) (by simp)
theorem cop_take {n i y : Nat} (hi : i < (copL n).length) : y ∈ (copL n).take i ↔ y < (copL n)[i] ∧ Nat.gcd y n = 1 := by
  have hx := mem_cop.mp (List.getElem_mem hi)
  constructor
  · intro h
    obtain ⟨j, hj, rfl⟩ := List.mem_iff_getElem.mp h
    rw [List.length_take] at hj
    rw [List.getElem_take]
    exact ⟨List.pairwise_iff_getElem.mp (asc_cop n) j i (by omega) hi (by omega), (mem_cop.mp (List.getElem_mem _)).2⟩
  · rintro ⟨hl, hg⟩
    have hm : y ∈ copL n := mem_cop.mpr ⟨by omega, hg⟩
    obtain ⟨j, hj, rfl⟩ := List.mem_iff_getElem.mp hm
    rw [List.mem_iff_getElem]
    have hji : j < i := by
      rcases Nat.lt_trichotomy j i with z | z | z
      · exact z
      · subst z
        omega
      · have := List.pairwise_iff_getElem.mp (asc_cop n) i j hi hj z
        omega
    exact ⟨j, by rw [List.length_take]; omega, by rw [List.getElem_take]⟩
theorem cop_top (b n L : Nat) : (copL n).filter (topB b n L) = wl b n L := by
  unfold copL wl
  rw [List.filter_filter]
  congr 1
  funext x
  cases t : topB b n L x with
  | false => rfl
  | true => rw [decide_eq_true (top_iff.mp t).1]; rfl
theorem valV_mem : ∀ (l : List (Key × V)) (k : Key), (valV l k).isSome = true ↔ ∃ kv ∈ l, kv.1 = k
  | [], k => by simp [valV]
  | p :: r, k => by
    by_cases e : p.1 = k
    · rw [valV_pos e]
      simp [e]
    · rw [valV_neg e, valV_mem r]
      simp [e]
end Wn
/-! set(xs) of a list of whole numbers -/
namespace Wn
open PySem PySem.Spec PyProof.Rows L2
abbrev eSet (w : World) : Obj := { cls := .type "set", dict := none, data := .set #[] 0 (.fresh 0 0 (!w.params.followText "set-order")) }
section
variable {P : Program} {w : World} {A : Around} {E : Value → Shared → Prop} {z : Shared}
theorem set_lst {l : Addr} {us : Array Value} (ks : List Int) {Q : Value → Shared → Prop} (hh : A.handled = none) (hl : z.heap.IsList l us) (hu : IntsAre us.toList ks) (hb : ks.length + 1 < scanBound)
    (go : ∀ (hp : Heap) (tk c : Nat), SetR w hp z.heap.objs.size (fun j => decide (j ∈ ks)) c → (∀ b o, z.heap.get? b = some o → hp.get? b = some o) → Q (.ref z.heap.objs.size) { z with heap := hp, toks := tk }) :
    wpAny (model P w) A (call (.type "set") [.ref l]) Q E z := by
  have hsz : us.size = ks.length := Array.length_toList (xs := us) ▸ IntsAre.length hu
  obtain ⟨c0, t0, mr⟩ := F.called_set.mro
  have p1 := F.called_set.made; have p2 := F.called_set.sub
  refine wpAny_call (codeAny_of_tree (show wpAny _ _ (callAny (.type "set") _) _ _ _ from wpAny_pure ⟨Code.quiet_builtin _ (by decide +kernel), codeAny_builtin F.entry_type_call ?_⟩))
  rw [Around.under_plain (weight_type_call_type "set" [Value.ref l] []) rfl]
  have p3 := F.called_set.notType; have p4 := F.called_set.canCreate; have p5 := F.typeCall_set_1 (.ref l)
  repeat (any_goals (first | assumption | wp_step))
  refine codeAny_mono (code_set_led1 (.ref l) (E := E) (Q₁ := fun v s1 => v = .ref z.heap.objs.size ∧ s1 = { z with heap := z.heap.push (eSet w) }) ⟨rfl, rfl⟩) fun r s1 hr => ?_
  cases r with
  | error e => exact hr
  | ok fl =>
    cases fl with
    | ret v =>
      obtain ⟨rfl, rfl⟩ := hr
      have aS : (z.heap.push (eSet w)).get? z.heap.objs.size = some (eSet w) := Heap.get?_push_size _ rfl
      have tS : Shared.TypeIs { z with heap := z.heap.push (eSet w) } (.ref z.heap.objs.size) "set" := ⟨_, aS, rfl⟩
      have p6 := F.called_set.init.lookup; have p7 := F.called_set.init.bind (.ref z.heap.objs.size)
      repeat (any_goals (first | assumption | wp_step))
      refine codeAny_mono (codeAny_call_builtin (R := wants (fun r s2 => r = .none ∧ ∃ hp tk c, s2 = { z with heap := hp, toks := tk } ∧ SetR w hp z.heap.objs.size (fun j => decide (j ∈ ks)) c ∧ (∀ b o, z.heap.get? b = some o → hp.get? b = some o)) E)
        F.called_set.init.plain F.entry_set_init (check_set_init_1 tS ?_)) fun r2 s2 hr2 => ?_
      · obtain ⟨⟨oc, od, odata, osl⟩, ho, hc, nl, hd⟩ := hl
        simp only at hc hd; subst hc; subst hd
        have ho' : (z.heap.push (eSet w)).get? l = some { cls := .type "list", dict := od, data := .seq us nl, slots := osl } := Heap.get?_push_of_some _ ho
        have q1 := F.sub_list_set; have q2 := F.sub_list_frozenset
        have q3 : (Value.type "list" == Value.type "dict") = false := by decide
        have il : (z.heap.push (eSet w)).IsList l us := ⟨_, ho', rfl, nl, rfl⟩
        unfold Builtin.«set.__init__» noKeywords Builtin.Frozenset.updateFrom
        generalize eI : pyIter = PI; wp_walk; subst eI
        refine wpAny_pyIter_list il (wpAny_bind (wpAny_runValue ?_))
        have lt : l < z.heap.objs.size := Heap.lt_size ho
        have h3 : A.in1.in1.in1.handled = none := by simp [hh]
        have eI : (z.heap.push (eSet w)).objs.size = z.heap.objs.size + 1 := Heap.size_push ..
        have nI : l ≠ (z.heap.push (eSet w)).objs.size := by rw [eI]; exact Nat.ne_of_lt (Nat.lt_succ_of_lt lt)
        have nS : z.heap.objs.size ∉ [(z.heap.push (eSet w)).objs.size, l] := by
          rw [eI]; simp only [List.mem_cons, List.not_mem_nil, or_false]; exact fun h => h.elim (Nat.ne_of_lt (Nat.lt_succ_self _)) (Nat.ne_of_gt lt)
        have items : ∀ (i : Nat) (v : Value), us[i]? = some v → ∃ k t, ks[i]? = some k ∧ v = .int k t := fun i v hv => by
          have hi : i < ks.length := hsz ▸ (Array.getElem?_eq_some_iff.mp hv).1
          obtain ⟨t, e⟩ := PyProof.Rows.IntsAre.int_at hu i v (by simpa using hv)
          exact ⟨ks[i], t, by simp [hi], by rw [e]; simp [hi]⟩
        refine set_update_ints ((Walks.list h3 _ l nI us).toS) z.heap.objs.size nS ks hsz hb items (us.size - 0) 0 _ (by omega) (Nat.zero_le _) ⟨⟨_, Heap.get?_push_size _ rfl, rfl, rfl⟩, il.push _⟩ ⟨0, Nat.le_refl 0, setR_new_at (Heap.get?_push_of_some _ aS)⟩ fun s3 c3 mv hc3 R3 => ?_
        obtain ⟨h3', g3, d3, tk3, os3⟩ := s3
        have e1 : g3 = z.gens := mv.gens; have e2 : d3 = z.drawn := mv.drawn; have e3 : os3 = z.os := mv.os
        subst e1; subst e2; subst e3
        refine wpAny_pure (show wpAny _ _ (ret Value.none) _ _ _ from wpAny_pure ⟨rfl, h3', tk3, c3, rfl, R3, fun b o e => ?_⟩)
        have lb : b < z.heap.objs.size := Heap.lt_size e
        refine mv.heap b o ?_ (Heap.get?_push_of_some _ (Heap.get?_push_of_some _ e))
        simp only [List.mem_cons, List.not_mem_nil, or_false]; rw [eI]; exact fun h => h.elim (Nat.ne_of_lt lb) (Nat.ne_of_lt (Nat.lt_succ_of_lt lb))
      · cases r2 with
        | error e => exact hr2
        | ok fl2 =>
          cases fl2 with
          | ret r =>
            obtain ⟨rfl, hp, tk, c, rfl, R, kp⟩ := hr2
            repeat (any_goals (first | assumption | wp_step))
            exact go _ _ _ R kp
          | _ => exact hr2.elim
    | _ => exact hr.elim
end
theorem ints_vals : ∀ {ns : List Int} {us : List Value}, Vals (ns.map V.int) us → IntsAre us ns
  | [], _, .nil => .nil
  | _ :: _, _, .cons ⟨k, e⟩ t => e ▸ IntsAre.cons _ k (ints_vals t)
def rSetL (K : PySem.W.Frag) (w : World) : List V → Hp → VK → Prop := fun xs H Q => ∃ (l : Addr) (ns : List Int), xs = [V.ref l] ∧ SqL K H l (ns.map V.int) ∧ ns.length ≤ 4000 ∧
  ∀ (a : Addr) (ks : List Int), H a = none → ks.Nodup → (∀ k, k ∈ ks ↔ k ∈ ns) → Q (.ref a) (upd H a (SetO w a (fun j => decide (j ∈ ns)) ks.length))
theorem call_setL {X : Cx} (hc : X.calm = true) : CallR X (.type "set") (rSetL X.K X.w) := by
  intro pins s σ H xs us Q I r h
  obtain ⟨l, ns, rfl, hs, hz, q⟩ := h
  obtain ⟨its, rv, hl, _⟩ := I.list hs
  rw [Vals.ref1 r]
  refine set_lst ns (I.ok.hd hc) hl.isList (by simpa using ints_vals rv) (by unfold scanBound; omega) fun hp tk c R kp => ?_
  have R' := R
  obtain ⟨o, es, ep, t, _, _, _, _, nd, hm, _, _, hn, _⟩ := R
  have e : (es.toList.map keyOf).length = c := by rw [List.length_map, Array.length_toList, hn]
  have free := I.hok.fresh (Nat.le_refl s.heap.objs.size)
  have q' := q s.heap.objs.size (es.toList.map keyOf) free nd (fun k => by rw [← hm]; simp)
  rw [e] at q'
  exact ⟨.ref _, _, I.laid (t' := tk) kp (Nat.le_refl _) (setO_new R'), rfl, q'⟩
/-! ascending lists with the same members are one -/
theorem asc_eq : ∀ {xs ys : List Int}, xs.Pairwise (· < ·) → ys.Pairwise (· < ·) → (∀ k, k ∈ xs ↔ k ∈ ys) → xs = ys
  | [], [], _, _, _ => rfl
  | [], y :: ys, _, _, h => absurd ((h y).mpr List.mem_cons_self) (by simp)
  | x :: xs, [], _, _, h => absurd ((h x).mp List.mem_cons_self) (by simp)
  | x :: xs, y :: ys, hx, hy, h => by
    have hx' := List.pairwise_cons.mp hx
    have hy' := List.pairwise_cons.mp hy
    have e : x = y := by
      rcases List.mem_cons.mp ((h x).mp List.mem_cons_self) with z | z
      · exact z
      · rcases List.mem_cons.mp ((h y).mpr List.mem_cons_self) with z2 | z2
        · exact z2.symm
        · have h1 := hy'.1 x z
          have h2 := hx'.1 y z2
          omega
    subst e
    rw [asc_eq hx'.2 hy'.2 fun k => ?_]
    have hk := h k
    simp only [List.mem_cons] at hk
    constructor
    · intro z
      rcases hk.mp (.inr z) with z2 | z2
      · have := hx'.1 k z
        omega
      · exact z2
    · intro z
      rcases hk.mpr (.inr z) with z2 | z2
      · have := hy'.1 k z
        omega
      · exact z2
end Wn
/-! a tuple times any small number -/
namespace Wn
open PySem PySem.Spec PyProof.Rows L2
theorem tmul_same (l : Addr) (us : Array Value) (n : Nat) (dd : Option Addr) (sl : Array (Option Value)) (k : Int) (u : Tok) (c0 : (decide (k < -(2 ^ 63)) || decide (k ≥ 2 ^ 63)) = false) (c1 : (us.isEmpty || k == 1) = true) :
    Meets (Builtin.«tuple.__mul__» ⟨[.ref l, .int k u], []⟩) (fun _ R s => s.heap.get? l = some { cls := .type "tuple", dict := dd, data := .seq us n, slots := sl } ∧ R (.ok (.ret (Value.ref l))) s) :=
  .of_wp fun prog w A R s ⟨hl, go⟩ => by
    obtain ⟨hp, g, d, tk, os⟩ := s
    have f1 := AutoSeq1.idx_int
    wp_walk using wpAny_loadPart' hl
    repeat (first
      | (refine wpAny_ite_false (decide_eq_false (by rw [c0]; exact Bool.false_ne_true)) ?_; wp_walk using wpAny_loadPart' hl)
      | (refine wpAny_ite_true (decide_eq_true (by rw [c1])) ?_; wp_walk using wpAny_loadPart' hl))
    exact ⟨_, rfl, go⟩
theorem tmul_none (l : Addr) (us : Array Value) (n : Nat) (dd : Option Addr) (sl : Array (Option Value)) (k : Int) (u : Tok) (c0 : (decide (k < -(2 ^ 63)) || decide (k ≥ 2 ^ 63)) = false) (c1 : (us.isEmpty || k == 1) = false) (c2 : (decide (k ≤ 0) || us.isEmpty) = true) :
    Meets (Builtin.«tuple.__mul__» ⟨[.ref l, .int k u], []⟩) (fun _ R s => s.heap.get? l = some { cls := .type "tuple", dict := dd, data := .seq us n, slots := sl } ∧
      R (.ok (.ret (Value.ref s.heap.objs.size))) { s with heap := s.heap.push { cls := Value.type "tuple", data := Data.seq #[] }, toks := s.toks }) :=
  .of_wp fun prog w A R s ⟨hl, go⟩ => by
    obtain ⟨hp, g, d, tk, os⟩ := s
    have f1 := AutoSeq1.idx_int
    wp_walk using wpAny_loadPart' hl
    repeat (first
      | (refine wpAny_ite_false (decide_eq_false (by rw [c0]; exact Bool.false_ne_true)) ?_; wp_walk using wpAny_loadPart' hl)
      | (refine wpAny_ite_false (decide_eq_false (by rw [c1]; exact Bool.false_ne_true)) ?_; wp_walk using wpAny_loadPart' hl)
      | (refine wpAny_ite_true (decide_eq_true (by rw [c2])) ?_; wp_walk using wpAny_loadPart' hl))
    exact ⟨_, rfl, go⟩
def rRepG (K : PySem.W.Frag) : R2 := fun x y H Q => ∃ (l : Addr) (k : Int) (xs : List V), x = .ref l ∧ y = .int k ∧ SqT K H l xs ∧ (-1000 ≤ k ∧ k ≤ 1000 ∧ xs.length ≤ 1000) ∧
  ((k = 1 ∨ xs = []) → Q (.ref l) H) ∧ (k ≠ 1 → xs ≠ [] → ∀ p, H p = none → Q (.ref p) (upd H p (.tup (List.replicate k.toNat xs).flatten)))
theorem op_repG {X : Cx} : OpR X (binaryOp .Mult) (rRepG X.K) := by
  intro pins s σ H x y v u Q I rx ry h
  obtain ⟨l, k, xs, rfl, rfl, hT, ⟨h0, h1, hz⟩, q1, q2⟩ := h
  by_cases hb : 2 ≤ k ∧ xs ≠ []
  · exact op_repT pins s σ H _ _ _ _ _ I rx ry ⟨l, k, xs, rfl, rfl, hT, hb.2, hb.1, h1, hz, q2 (by omega) hb.2⟩
  cases rx
  obtain ⟨t, rfl⟩ := ry
  obtain ⟨its, r, ⟨⟨cls, dd, data, sl⟩, ho, hc, n, hd⟩, hs⟩ := I.tuple hT
  simp only at hc hd
  subst hc hd
  have c0 : (decide (k < -(2 ^ 63)) || decide (k ≥ 2 ^ 63)) = false := by
    rw [decide_eq_false (by omega), decide_eq_false (by omega)] <;> rfl
  have hne : its.toArray.isEmpty = true ↔ xs = [] := by
    cases r with
    | nil => exact ⟨fun _ => rfl, fun _ => rfl⟩
    | cons a b => exact ⟨fun z => by simp at z, fun z => by cases z⟩
  by_cases c1 : (its.toArray.isEmpty || k == 1) = true
  · have hk : k = 1 ∨ xs = [] := by
      rcases Bool.or_eq_true _ _ ▸ c1 with z | z
      · exact .inr (hne.mp z)
      · exact .inl (beq_iff_eq.mp z)
    refine wpAny_binaryOp_repeat_ref (T := "tuple") (U := "int") (by decide) ⟨_, ho, rfl⟩ (fun s' => typeIs_int s' k t) noFill_tuple_mul F.fills_int_mul F.slot_int_rmul repeat_tuple F.slot_int_index.lookup
      (call_meets F.slot_int_rmul (typeIs_int s k t) F.entry_int_rmul (F.args_int_rmul_2 _ _) (int_rmul_tuple k t l its.toArray n dd sl)
        ⟨ho, rfl, ⟨_, ho, rfl⟩, call_meets F.slot_tuple_mul ⟨_, ho, rfl⟩ F.entry_tuple_mul (F.args_tuple_mul_2 _ _) (tmul_same l its.toArray n dd sl k t c0 c1) ⟨ho, .ref l, H, I, rfl, q1 hk⟩⟩)
  · have c1' : (its.toArray.isEmpty || k == 1) = false := by simpa using c1
    rw [Bool.or_eq_false_iff] at c1'
    have hx : xs ≠ [] := fun z => by
      rw [hne.mpr z] at c1'
      cases c1'.1
    have hk1 : k ≠ 1 := fun z => by
      have := c1'.2
      rw [z] at this
      cases this
    have hk0 : k ≤ 0 := by
      rcases Int.lt_or_le 0 k with z | z
      · exact absurd ⟨by omega, hx⟩ hb
      · exact z
    have q3 := q2 hk1 hx s.heap.objs.size (I.hok.fresh (Nat.le_refl _))
    rw [show k.toNat = 0 by omega] at q3
    refine wpAny_binaryOp_repeat_ref (T := "tuple") (U := "int") (by decide) ⟨_, ho, rfl⟩ (fun s' => typeIs_int s' k t) noFill_tuple_mul F.fills_int_mul F.slot_int_rmul repeat_tuple F.slot_int_index.lookup
      (call_meets F.slot_int_rmul (typeIs_int s k t) F.entry_int_rmul (F.args_int_rmul_2 _ _) (int_rmul_tuple k t l its.toArray n dd sl)
        ⟨ho, rfl, ⟨_, ho, rfl⟩, call_meets F.slot_tuple_mul ⟨_, ho, rfl⟩ F.entry_tuple_mul (F.args_tuple_mul_2 _ _) (tmul_none l its.toArray n dd sl k t c0 (by rw [c1'.1, c1'.2]; rfl) (by rw [decide_eq_true hk0]; rfl)) ⟨ho, ?_⟩⟩)
    refine ⟨.ref s.heap.objs.size, _, I.laid (t' := s.toks) (o := .tup (List.replicate 0 xs).flatten) (fun b ob q => Heap.get?_push_of_some _ q) (Nat.le_refl _) ?_, rfl, q3⟩
    exact ⟨Nat.zero_le _, [], .nil, IsTup.new _ _⟩
end Wn
/-! rotations -/
namespace Wn
open PySem PySem.Spec PyProof.Rows L2
def rotL (ds : List Nat) (k : Nat) : List Nat := ds.drop k ++ ds.take k
theorem rotL_len (ds : List Nat) (k : Nat) : (rotL ds k).length = ds.length := by
  unfold rotL
  rw [List.length_append, List.length_drop, List.length_take]
  omega
theorem rotL_zero (ds : List Nat) : rotL ds 0 = ds := by simp [rotL]
theorem rotL_succ {ds : List Nat} {k : Nat} (h : k < ds.length) : (rotL ds k).drop 1 ++ (rotL ds k).take 1 = rotL ds (k + 1) := by
  unfold rotL
  rw [List.drop_eq_getElem_cons h]
  simp only [List.cons_append, List.drop_succ_cons, List.drop_zero, List.take_succ_cons, List.take_zero]
  rw [List.append_assoc, List.take_succ_eq_append_getElem h]
theorem mem_rotL {ds : List Nat} {k x : Nat} (h : x ∈ rotL ds k) : x ∈ ds := by
  unfold rotL at h
  rcases List.mem_append.mp h with z | z
  · exact List.mem_of_mem_drop z
  · exact List.mem_of_mem_take z
/-- the repeating digits -/
def dgl (b n x L : Nat) : List Nat := (List.range L).map fun i => rem b n x i * b / n
theorem dgl_len (b n x L : Nat) : (dgl b n x L).length = L := by simp [dgl]
theorem rem_cyc {b n x L : Nat} (h : IsPer b n L) (i : Nat) : rem b n x (i + L) = rem b n x i := by
  unfold rem
  rw [Nat.pow_add, ← Nat.mul_assoc, Nat.mul_mod, h.2.1, ← Nat.mul_mod, Nat.mul_one]
theorem dgl_rot {b n x L k : Nat} (h : IsPer b n L) (hk : k ≤ L) : rotL (dgl b n x L) k = dgl b n (rem b n x k) L := by
  unfold rotL
  apply List.ext_getElem
  · rw [List.length_append, List.length_drop, List.length_take, dgl_len, dgl_len]
    omega
  · intro i h1 h2
    rw [dgl_len] at h2
    rw [List.getElem_append]
    split
    · rename_i hi
      rw [List.length_drop, dgl_len] at hi
      rw [List.getElem_drop]
      simp only [dgl, List.getElem_map, List.getElem_range]
      rw [rem_rem]
    · rename_i hi
      rw [List.length_drop, dgl_len] at hi
      rw [List.getElem_take]
      simp only [dgl, List.getElem_map, List.getElem_range, List.length_drop, List.length_map, List.length_range]
      rw [rem_rem, show k + i = i - (L - k) + L by omega, rem_cyc h]
theorem dgl_inj {b n x y L : Nat} (hb : 2 ≤ b) (h : IsPer b n L) (hx : x < n) (hy : y < n) (e : dgl b n x L = dgl b n y L) : x = y := by
  have hn : 1 ≤ n := by omega
  have hd : ∀ i, i < L → rem b n x i * b / n = rem b n y i * b / n := fun i hi => by
    have h1 : (dgl b n x L)[i]'(by rw [dgl_len]; exact hi) = (dgl b n y L)[i]'(by rw [dgl_len]; exact hi) := by simp only [e]
    simp only [dgl, List.getElem_map, List.getElem_range] at h1
    exact h1
  have st : ∀ z i, rem b n z i * b = n * (rem b n z i * b / n) + rem b n z (i + 1) := fun z i => by
    rw [← rem_succ]
    exact (Nat.div_add_mod _ _).symm
  -- the difference grows by the base at each step
  have key : ∀ i, i ≤ L → (rem b n x i : Int) - rem b n y i = ((x : Int) - y) * (b : Int) ^ i := by
    intro i
    induction i with
    | zero =>
      intro _
      rw [rem_zero hx, rem_zero hy]
      simp
    | succ i ih =>
      intro hi
      have h1 := ih (by omega)
      have h2 := st x i
      have h3 := st y i
      rw [hd i (by omega)] at h2
      generalize rem b n y i * b / n = q at h2 h3
      have h4 : (rem b n x i : Int) * b = n * q + rem b n x (i + 1) := by exact_mod_cast h2
      have h5 : (rem b n y i : Int) * b = n * q + rem b n y (i + 1) := by exact_mod_cast h3
      rw [Int.pow_succ, ← Int.mul_assoc, ← h1, Int.sub_mul]
      omega
  have k := key L (Nat.le_refl _)
  rw [rem_per h hx, rem_per h hy] at k
  have hL := h.1
  have hp : (2 : Int) ≤ (b : Int) ^ L := by
    have : 2 ≤ b ^ L := Nat.le_trans hb (Nat.le_self_pow (by omega) b)
    exact_mod_cast this
  have : ((x : Int) - y) * ((b : Int) ^ L - 1) = 0 := by
    rw [Int.mul_sub, Int.mul_one]
    omega
  rcases Int.mul_eq_zero.mp this with z | z <;> omega
/-- among the first ones each comes once -/
theorem rem_once {b n x L i j : Nat} (g : Nat.gcd b n = 1) (gx : Nat.gcd x n = 1) (h : IsPer b n L) (hi : i < L) (hj : j < L) (e : rem b n x i = rem b n x j) : i = j := by
  have key : ∀ {i j : Nat}, i < j → j < L → rem b n x i = rem b n x j → False := fun {i j} hij hj e => by
    have e1 : b ^ i % n = b ^ j % n := mod_cancel gx e
    have e2 : b ^ (j - i) % n = 1 % n := by
      refine mod_cancel (cop_pow g i) ?_
      rw [← Nat.pow_add, show i + (j - i) = j by omega, Nat.mul_one]
      exact e1.symm
    exact h.2.2 (j - i) (by omega) (by omega) e2
  rcases Nat.lt_trichotomy i j with z | z | z
  · exact (key z hj e).elim
  · exact z
  · exact (key z hi e.symm).elim
/-- the first place from which y comes; the period where there is none -/
def topI (b n x y L : Nat) : Nat := ((List.range L).find? fun i => decide (rem b n x i = y)).getD L
theorem topI_hit {b n x y L i : Nat} (hi : i < L) (e : rem b n x i = y) (no : ∀ j, j < i → rem b n x j ≠ y) : topI b n x y L = i := by
  unfold topI
  have : (List.range L).find? (fun i => decide (rem b n x i = y)) = some i := by
    rw [List.find?_range_eq_some]
    refine ⟨decide_eq_true e, List.mem_range.mpr hi, fun j hj => ?_⟩
    simp only [Bool.not_eq_true', decide_eq_false_iff_not]
    exact no j hj
  rw [this]
  rfl
theorem topI_miss {b n x y L : Nat} (no : ∀ j, j < L → rem b n x j ≠ y) : topI b n x y L = L := by
  unfold topI
  have : (List.range L).find? (fun i => decide (rem b n x i = y)) = none := by
    rw [List.find?_eq_none]
    intro i hi
    rw [decide_eq_true_eq]
    exact no i (List.mem_range.mp hi)
  rw [this]
  rfl
theorem topI_cases (b n x y L : Nat) : (topI b n x y L < L ∧ rem b n x (topI b n x y L) = y ∧ ∀ j, j < topI b n x y L → rem b n x j ≠ y) ∨ (topI b n x y L = L ∧ ∀ j, j < L → rem b n x j ≠ y) := by
  by_cases h : ∃ i, i < L ∧ rem b n x i = y
  · obtain ⟨i, hi, e⟩ := h
    obtain ⟨m, hm, pm, q⟩ := least (fun i => rem b n x i = y) i e
    have e1 := topI_hit (L := L) (show m < L by omega) pm (fun j hj z => q j hj z)
    rw [e1]
    exact .inl ⟨by omega, pm, fun j hj z => q j hj z⟩
  · have no : ∀ j, j < L → rem b n x j ≠ y := fun j hj z => h ⟨j, hj, z⟩
    exact .inr ⟨topI_miss no, no⟩
end Wn
/-! values of digits and of their rotations; multipliers -/
namespace Wn
open PySem PySem.Spec PyProof.Rows L2
theorem wrt_from (b : Nat) : ∀ (ds : List Nat) (f : Nat), ds.foldl (fun f d => f * b + d) f = f * b ^ ds.length + wrt b ds
  | [], f => by simp [wrt]
  | d :: r, f => by
    have h1 := wrt_from b r (f * b + d)
    have h2 := wrt_from b r (0 * b + d)
    unfold wrt at h1 h2 ⊢
    simp only [List.foldl_cons, List.length_cons]
    rw [h1, h2, Nat.pow_succ, Nat.add_mul, Nat.zero_mul, Nat.zero_add, Nat.mul_assoc, Nat.mul_comm b]
    omega
theorem wrt_cons (b x : Nat) (r : List Nat) : wrt b (x :: r) = x * b ^ r.length + wrt b r := by
  have := wrt_from b r (0 * b + x)
  rw [Nat.zero_mul, Nat.zero_add] at this
  rw [← this]
  simp [wrt]
theorem wrt_append (b : Nat) (xs ys : List Nat) : wrt b (xs ++ ys) = wrt b xs * b ^ ys.length + wrt b ys := by
  rw [← wrt_from b ys (wrt b xs)]
  simp [wrt, List.foldl_append]
theorem wrt_lt {b : Nat} : ∀ {ds : List Nat}, (∀ d ∈ ds, d < b) → wrt b ds < b ^ ds.length
  | [], _ => by simp [wrt]
  | x :: r, h => by
    have ih := wrt_lt (ds := r) fun d hd => h d (List.mem_cons_of_mem _ hd)
    have hx := h x List.mem_cons_self
    rw [wrt_cons, List.length_cons, Nat.pow_succ, Nat.mul_comm (b ^ r.length)]
    have : (x + 1) * b ^ r.length ≤ b * b ^ r.length := Nat.mul_le_mul_right _ hx
    rw [Nat.succ_mul] at this
    omega
theorem rot_at {ds : List Nat} {i : Nat} (h : i < ds.length) : rotL ds i = ds[i] :: (ds.drop (i + 1) ++ ds.take i) := by
  unfold rotL
  rw [List.drop_eq_getElem_cons h]
  rfl
theorem wrt_rot {b : Nat} {ds : List Nat} {i : Nat} (h : i < ds.length) (hb : 1 ≤ b) : ((wrt b (rotL ds i) : Nat) : Int) * (b : Int) - ((ds[i] : Nat) : Int) * (((b ^ ds.length : Nat) : Int) - 1) = ((wrt b (rotL ds (i + 1)) : Nat) : Int) := by
  have e : rotL ds (i + 1) = (ds.drop (i + 1) ++ ds.take i) ++ [ds[i]] := by
    rw [← rotL_succ h, rot_at h]
    rfl
  have hl : (ds.drop (i + 1) ++ ds.take i).length + 1 = ds.length := by
    rw [List.length_append, List.length_drop, List.length_take]
    omega
  rw [rot_at h, e, wrt_cons, wrt_snoc, ← hl]
  generalize ds.drop (i + 1) ++ ds.take i = r
  generalize wrt b r = w
  generalize ds[i] = x
  rw [Nat.pow_succ]
  generalize b ^ r.length = p
  push_cast
  rw [Int.add_mul, Int.mul_sub, Int.mul_one, Int.mul_assoc (x : Int) (p : Int) (b : Int)]
  omega
/-- k times their value is that of a rotation -/
def IsMul (b : Nat) (ds : List Nat) (k : Nat) : Prop := ∃ j, j < ds.length ∧ wrt b (rotL ds j) = k * wrt b ds
/-- those met among the first i rotations -/
def mulL (b : Nat) (ds : List Nat) (i : Nat) : List Nat := ((List.range i).filter fun j => decide (wrt b (rotL ds j) % wrt b ds = 0)).map fun j => wrt b (rotL ds j) / wrt b ds
theorem mulL_succ (b : Nat) (ds : List Nat) (i : Nat) : mulL b ds (i + 1) = mulL b ds i ++ (if wrt b (rotL ds i) % wrt b ds = 0 then [wrt b (rotL ds i) / wrt b ds] else []) := by
  unfold mulL
  rw [List.range_succ, List.filter_append, List.map_append]
  congr 1
  by_cases h : wrt b (rotL ds i) % wrt b ds = 0
  · rw [if_pos h, List.filter_cons_of_pos (by simpa using h)]
    rfl
  · rw [if_neg h, List.filter_cons_of_neg (by simpa using h)]
    rfl
theorem mulL_len (b : Nat) (ds : List Nat) (i : Nat) : (mulL b ds i).length ≤ i := by
  unfold mulL
  rw [List.length_map]
  exact Nat.le_trans (List.length_filter_le _ _) (by simp)
theorem mem_mulL {b : Nat} {ds : List Nat} {k i : Nat} (hv : 1 ≤ wrt b ds) : k ∈ mulL b ds i ↔ ∃ j, j < i ∧ wrt b (rotL ds j) = k * wrt b ds := by
  unfold mulL
  rw [List.mem_map]
  constructor
  · rintro ⟨j, hj, rfl⟩
    rw [List.mem_filter, List.mem_range, decide_eq_true_eq] at hj
    exact ⟨j, hj.1, (Nat.div_mul_cancel (Nat.dvd_of_mod_eq_zero hj.2)).symm⟩
  · rintro ⟨j, hj, e⟩
    refine ⟨j, ?_, ?_⟩
    · rw [List.mem_filter, List.mem_range, decide_eq_true_eq, e]
      exact ⟨hj, Nat.mul_mod_left _ _⟩
    · rw [e, Nat.mul_div_cancel _ hv]
/-- there are few of them -/
def Few (b : Nat) (ds : List Nat) : Prop := ∀ ks : List Nat, ks.Nodup → (∀ k ∈ ks, IsMul b ds k) → ks.length < 64
theorem nodup_sub {xs : List Nat} : ∀ {ys : List Nat}, xs.Nodup → (∀ x ∈ xs, x ∈ ys) → xs.length ≤ ys.length := by
  intro ys
  induction ys generalizing xs with
  | nil =>
    intro _ h
    cases xs with
    | nil => exact Nat.le_refl _
    | cons x r => exact absurd (h x List.mem_cons_self) (by simp)
  | cons y ys ih =>
    intro nd h
    have h1 := ih (nd.erase y) fun x hx => by
      have hm := List.mem_of_mem_erase hx
      rcases List.mem_cons.mp (h x hm) with e | e
      · subst e
        exact absurd hx (List.Nodup.not_mem_erase nd)
      · exact e
    rw [List.length_cons]
    by_cases hy : y ∈ xs
    · rw [List.length_erase_of_mem hy] at h1
      omega
    · rw [List.erase_of_not_mem hy] at h1
      omega
theorem few_of {b p : Nat} {ds : List Nat} (hv : 1 ≤ wrt b ds) (hp : p < 64) (h : ∀ j, j < ds.length → ∃ i, i < p ∧ rotL ds j = rotL ds i) : Few b ds := fun ks nd hk => by
  have := nodup_sub (ys := (List.range p).map fun i => wrt b (rotL ds i) / wrt b ds) nd fun k hm => by
    obtain ⟨j, hj, e⟩ := hk k hm
    obtain ⟨i, hi, e2⟩ := h j hj
    exact List.mem_map.mpr ⟨i, List.mem_range.mpr hi, by rw [← e2, e, Nat.mul_div_cancel _ hv]⟩
  rw [List.length_map, List.length_range] at this
  omega
theorem few_len {b : Nat} {ds : List Nat} (hv : 1 ≤ wrt b ds) (h : ds.length < 64) : Few b ds := few_of hv h fun j hj => ⟨j, hj, rfl⟩
/-- digits twice over -/
theorem rot_twice {ds : List Nat} {j : Nat} (h1 : ds.length ≤ j) (h2 : j < (ds ++ ds).length) : rotL (ds ++ ds) j = rotL (ds ++ ds) (j - ds.length) := by
  unfold rotL
  rw [List.length_append] at h2
  rw [List.drop_append, List.take_append, List.drop_append, List.take_append, List.drop_eq_nil_of_le h1, List.take_of_length_le h1, show j - ds.length - ds.length = 0 by omega]
  simp only [List.nil_append, List.drop_zero, List.take_zero, List.append_nil, List.append_assoc]
theorem few_twice {b : Nat} {ds : List Nat} (hv : 1 ≤ wrt b (ds ++ ds)) (h : ds.length < 64) : Few b (ds ++ ds) := few_of hv h fun j hj => by
  rcases Nat.lt_or_ge j ds.length with z | z
  · exact ⟨j, z, rfl⟩
  · refine ⟨j - ds.length, ?_, rot_twice z hj⟩
    rw [List.length_append] at hj
    omega
/-- a number up to 1000 has no common divisor with one of two primes -/
theorem gcd_prime {b p : Nat} (hp : ∀ g, g ≤ p → g ∣ p → g = 1 ∨ g = p) (h0 : 1 ≤ p) (h : Nat.gcd b p ≠ 1) : p ∣ b := by
  rcases hp _ (Nat.le_of_dvd h0 (Nat.gcd_dvd_right b p)) (Nat.gcd_dvd_right b p) with e | e
  · exact absurd e h
  · rw [← e]
    exact Nat.gcd_dvd_left b p
theorem cop_two {b p q : Nat} (hb : 1 ≤ b) (hp : ∀ g, g ≤ p → g ∣ p → g = 1 ∨ g = p) (hq : ∀ g, g ≤ q → g ∣ q → g = 1 ∨ g = q) (p0 : 1 ≤ p) (q0 : 1 ≤ q) (c : Nat.gcd p q = 1) (hl : b < p * q) : Nat.gcd b p = 1 ∨ Nat.gcd b q = 1 := by
  by_cases h1 : Nat.gcd b p = 1
  · exact .inl h1
  · by_cases h2 : Nat.gcd b q = 1
    · exact .inr h2
    · have := Nat.le_of_dvd hb (Nat.Coprime.mul_dvd_of_dvd_of_dvd c (gcd_prime hp p0 h1) (gcd_prime hq q0 h2))
      omega
theorem cop_43_47 {b : Nat} (h1 : 1 ≤ b) (h2 : b ≤ 1000) : Nat.gcd b 43 = 1 ∨ Nat.gcd b 47 = 1 := cop_two h1 (by decide) (by decide) (by decide) (by decide) (by decide) (by omega)
/-- two ascending rows of numbers with the same members -/
theorem ascN_eq {xs ys : List Nat} (hx : xs.Pairwise (· < ·)) (hy : ys.Pairwise (· < ·)) (h : ∀ k, k ∈ xs ↔ k ∈ ys) : xs = ys := by
  have key : ∀ {zs : List Nat}, zs.Pairwise (· < ·) → (ni zs).Pairwise (· < ·) := fun hz => List.Pairwise.map _ (fun a b h => by omega) hz
  have := asc_eq (key hx) (key hy) fun k => by
    unfold ni
    rw [List.mem_map, List.mem_map]
    exact ⟨fun ⟨a, ha, e⟩ => ⟨a, (h a).mp ha, e⟩, fun ⟨a, ha, e⟩ => ⟨a, (h a).mpr ha, e⟩⟩
  unfold ni at this
  exact (List.map_inj_right (fun a b e => by omega)).mp this
/-- rows of whole numbers whose members are natural ones -/
theorem ni_of : ∀ {zs : List Int}, (∀ k ∈ zs, 0 ≤ k) → ∃ xs : List Nat, zs = ni xs
  | [], _ => ⟨[], rfl⟩
  | z :: zs, h => by
    obtain ⟨xs, e⟩ := ni_of (zs := zs) fun k hk => h k (List.mem_cons_of_mem _ hk)
    have := h z List.mem_cons_self
    exact ⟨z.toNat :: xs, by rw [e]; show z :: ni xs = ((z.toNat : Nat) : Int) :: ni xs; rw [Int.toNat_of_nonneg this]⟩
theorem mem_ni {xs : List Nat} {k : Nat} : ((k : Nat) : Int) ∈ ni xs ↔ k ∈ xs := by
  unfold ni
  rw [List.mem_map]
  constructor
  · rintro ⟨a, ha, e⟩
    rw [show k = a by omega]
    exact ha
  · exact fun h => ⟨k, h, rfl⟩
end Wn
open PySem PySem.W PySem.Calls PyProof.Rows Builtin
open L2
namespace Wn
/-! counts by keys -/
def kvP (ps : List (Nat × Nat)) : List (Key × V) := ps.map fun p => ((Sum.inl ((p.1 : Nat) : Int) : Key), V.int (p.2 : Nat))
structure Cnt (g : Nat → Nat) (ps : List (Nat × Nat)) : Prop where
  nd : (ps.map Prod.fst).Nodup
  mem : ∀ q c, (q, c) ∈ ps ↔ g q = c ∧ 1 ≤ c
theorem Cnt.nil : Cnt (fun _ => 0) [] := ⟨List.nodup_nil, fun q c => ⟨fun h => (by cases h), fun ⟨h1, h2⟩ => by omega⟩⟩
theorem Cnt.congr {g g' : Nat → Nat} {ps : List (Nat × Nat)} (h : Cnt g ps) (e : ∀ q, g q = g' q) : Cnt g' ps := ⟨h.nd, fun q c => by rw [h.mem, e]⟩
theorem kvP_key {ps : List (Nat × Nat)} {q : Nat} {kv : Key × V} (h : kv ∈ kvP ps) (e : kv.1 = (Sum.inl ((q : Nat) : Int) : Key)) : ∃ c, (q, c) ∈ ps ∧ kv.2 = .int (c : Nat) := by
  obtain ⟨⟨q', c⟩, hp, rfl⟩ := List.mem_map.mp h
  have e2 : ((q' : Nat) : Int) = (q : Int) := Sum.inl.inj e
  have : q' = q := by omega
  subst this
  exact ⟨c, hp, rfl⟩
theorem Cnt.get {g : Nat → Nat} {ps : List (Nat × Nat)} (h : Cnt g ps) (q : Nat) : valV (kvP ps) (Sum.inl ((q : Nat) : Int) : Key) = if g q = 0 then none else some (.int (g q : Nat)) := by
  unfold valV
  cases e : (kvP ps).find? fun kv => decide (kv.1 = (Sum.inl ((q : Nat) : Int) : Key)) with
  | none =>
    by_cases g0 : g q = 0
    · rw [if_pos g0]
      rfl
    · exfalso
      have hm := (h.mem q (g q)).mpr ⟨rfl, by omega⟩
      have := List.find?_eq_none.mp e _ (List.mem_map.mpr ⟨_, hm, rfl⟩)
      simp at this
  | some kv =>
    have h1 := List.mem_of_find?_eq_some e
    have h2 := List.find?_some e
    obtain ⟨c, hc, hv⟩ := kvP_key h1 (of_decide_eq_true h2)
    obtain ⟨h3, h4⟩ := (h.mem q c).mp hc
    rw [if_neg (by omega), h3]
    exact congrArg some hv
theorem Cnt.put {g : Nat → Nat} {ps : List (Nat × Nat)} (h : Cnt g ps) (q d : Nat) (hd : 1 ≤ d) :
    ∃ ps', putK (kvP ps) (Sum.inl ((q : Nat) : Int) : Key) (.int ((g q + d : Nat) : Int)) = kvP ps' ∧ Cnt (fun z => g z + if z = q then d else 0) ps' := by
  by_cases g0 : g q = 0
  · refine ⟨ps ++ [(q, g q + d)], ?_, ?_, fun q' c => ?_⟩
    · rw [putK_new _ (by rw [h.get, if_pos g0])]
      unfold kvP
      rw [List.map_append]
      rfl
    · rw [List.map_append, List.nodup_append]
      refine ⟨h.nd, by simp, ?_⟩
      intro x hx y hy e
      rw [List.map_cons, List.map_nil, List.mem_singleton] at hy
      obtain ⟨⟨q', c⟩, hp, e3⟩ := List.mem_map.mp hx
      obtain ⟨h3, h4⟩ := (h.mem q' c).mp hp
      have e4 : q' = q := (show q' = x from e3).trans (e.trans hy)
      rw [e4] at h3
      omega
    · rw [List.mem_append, List.mem_singleton, h.mem]
      by_cases e : q' = q
      · subst e
        rw [if_pos rfl]
        constructor
        · rintro (⟨h1, h2⟩ | h1)
          · omega
          · have := (Prod.mk.inj h1).2
            omega
        · rintro ⟨h1, h2⟩
          exact .inr (by rw [h1])
      · rw [if_neg e, Nat.add_zero]
        constructor
        · rintro (h1 | h1)
          · exact h1
          · exact absurd (Prod.mk.inj h1).1 e
        · exact fun h1 => .inl h1
  · have hm := (h.mem q (g q)).mpr ⟨rfl, by omega⟩
    refine ⟨ps.map fun p => if p.1 = q then (p.1, g q + d) else p, ?_, ?_, fun q' c => ?_⟩
    · unfold putK
      rw [if_pos]
      · unfold kvP
        rw [List.map_map, List.map_map]
        refine List.map_congr_left fun p _ => ?_
        show (if (Sum.inl ((p.1 : Nat) : Int) : Key) = Sum.inl ((q : Nat) : Int) then _ else _) = _
        by_cases e : p.1 = q
        · rw [if_pos (by rw [e])]
          show _ = (fun p : Nat × Nat => ((Sum.inl ((p.1 : Nat) : Int) : Key), V.int (p.2 : Nat))) (if p.1 = q then (p.1, g q + d) else p)
          rw [if_pos e]
        · rw [if_neg (fun z => e (by have := Sum.inl.inj z; omega))]
          show _ = (fun p : Nat × Nat => ((Sum.inl ((p.1 : Nat) : Int) : Key), V.int (p.2 : Nat))) (if p.1 = q then (p.1, g q + d) else p)
          rw [if_neg e]
      · rw [List.any_eq_true]
        exact ⟨_, List.mem_map.mpr ⟨_, hm, rfl⟩, decide_eq_true rfl⟩
    · rw [List.map_map, show ps.map (Prod.fst ∘ fun p => if p.1 = q then (p.1, g q + d) else p) = ps.map Prod.fst from List.map_congr_left fun p _ => by
        show (if p.1 = q then (p.1, g q + d) else p).1 = p.1
        split <;> rfl]
      exact h.nd
    · rw [List.mem_map]
      by_cases e : q' = q
      · subst e
        rw [if_pos rfl]
        constructor
        · rintro ⟨⟨q2, c2⟩, hp, e2⟩
          by_cases e3 : q2 = q'
          · rw [if_pos e3] at e2
            have := (Prod.mk.inj e2).2
            omega
          · rw [if_neg e3] at e2
            exact absurd (Prod.mk.inj e2).1 e3
        · rintro ⟨h1, h2⟩
          refine ⟨_, hm, ?_⟩
          rw [if_pos rfl, h1]
      · rw [if_neg e, Nat.add_zero, ← h.mem]
        constructor
        · rintro ⟨⟨q2, c2⟩, hp, e2⟩
          by_cases e3 : q2 = q
          · rw [if_pos e3] at e2
            exact absurd ((Prod.mk.inj e2).1.symm.trans e3) e
          · rw [if_neg e3] at e2
            rw [← e2]
            exact hp
        · intro hp
          exact ⟨_, hp, if_neg e⟩
/-- all keys are values of a list -/
theorem Cnt.len {g : Nat → Nat} {ps : List (Nat × Nat)} {ks : List Nat} (h : Cnt g ps) (hk : ∀ q, 1 ≤ g q → q ∈ ks) : ps.length ≤ ks.length := by
  have := nodup_sub (ys := ks) h.nd fun x hx => by
    obtain ⟨⟨q, c⟩, hp, rfl⟩ := List.mem_map.mp hx
    obtain ⟨h1, h2⟩ := (h.mem q c).mp hp
    exact hk q (by omega)
  rwa [List.length_map] at this
/-- the keys in their order -/
def IsKeys (g : Nat → Nat) (ks : List Nat) : Prop := ks.Pairwise (· < ·) ∧ ∀ q, q ∈ ks ↔ 1 ≤ g q
theorem IsKeys.uniq {g : Nat → Nat} {ks ks' : List Nat} (h : IsKeys g ks) (h' : IsKeys g ks') : ks = ks' := ascN_eq h.1 h'.1 fun k => (h.2 k).trans (h'.2 k).symm
def prs (g : Nat → Nat) (ks : List Nat) : List (Nat × Nat) := ks.map fun q => (q, g q)
/-- a list of the pairs, ascending -/
theorem Cnt.sorted {g : Nat → Nat} {ps ys : List (Nat × Nat)} (h : Cnt g ps) (hp : ys.Perm ps) (hs : ys.Pairwise fun x y => ¬ (y.1 < x.1)) : IsKeys g (ys.map Prod.fst) ∧ ys = prs g (ys.map Prod.fst) := by
  have nd : (ys.map Prod.fst).Nodup := (hp.map Prod.fst).nodup_iff.mpr h.nd
  refine ⟨⟨?_, fun q => ?_⟩, ?_⟩
  · rw [List.pairwise_map]
    rw [List.nodup_iff_pairwise_ne, List.pairwise_map] at nd
    exact (hs.and nd).imp fun ⟨h1, h2⟩ => by omega
  · rw [List.mem_map]
    constructor
    · rintro ⟨⟨q', c⟩, hm, rfl⟩
      obtain ⟨h1, h2⟩ := (h.mem q' c).mp (hp.mem_iff.mp hm)
      show 1 ≤ g q'
      omega
    · intro hq
      exact ⟨(q, g q), hp.mem_iff.mpr ((h.mem q (g q)).mpr ⟨rfl, hq⟩), rfl⟩
  · unfold prs
    rw [List.map_map]
    conv => lhs; rw [← List.map_id ys]
    refine List.map_congr_left fun p hm => ?_
    obtain ⟨q, c⟩ := p
    obtain ⟨h1, h2⟩ := (h.mem q c).mp (hp.mem_iff.mp hm)
    show (q, c) = (q, g q)
    rw [h1]
def cntQ (f : Nat → Nat) (ms : List Nat) (q : Nat) : Nat := (ms.filter fun x => decide (f x = q)).length
theorem cntQ_perm {f : Nat → Nat} {ms ms' : List Nat} (h : ms.Perm ms') (q : Nat) : cntQ f ms q = cntQ f ms' q := (h.filter _).length_eq
theorem cntQ_app (f : Nat → Nat) (ms ms' : List Nat) (q : Nat) : cntQ f (ms ++ ms') q = cntQ f ms q + cntQ f ms' q := by
  unfold cntQ
  rw [List.filter_append, List.length_append]
theorem cntQ_const {f : Nat → Nat} {ms : List Nat} {q0 : Nat} (h : ∀ x ∈ ms, f x = q0) (q : Nat) : cntQ f ms q = if q = q0 then ms.length else 0 := by
  unfold cntQ
  by_cases e : q = q0
  · rw [if_pos e, List.filter_eq_self.mpr fun x hx => decide_eq_true (by rw [h x hx, e])]
  · rw [if_neg e, List.filter_eq_nil_iff.mpr fun x hx => by
      rw [decide_eq_true_eq, h x hx]
      exact fun z => e z.symm]
    rfl
theorem cntQ_pos {f : Nat → Nat} {ms : List Nat} {q : Nat} (h : 1 ≤ cntQ f ms q) : q ∈ ms.map f := by
  unfold cntQ at h
  obtain ⟨x, hx⟩ := List.exists_mem_of_length_pos h
  obtain ⟨h1, h2⟩ := List.mem_filter.mp hx
  rw [decide_eq_true_eq] at h2
  exact List.mem_map.mpr ⟨x, h1, h2⟩
end Wn
namespace Wn
open PySem PySem.Spec PyProof.Rows L2
theorem rem_pow (b n x k j : Nat) : rem (b ^ k) n x j = rem b n x (k * j) := by
  unfold rem
  rw [Nat.pow_mul]
theorem IsPer.pow {b n k c : Nat} (h : IsPer b n (k * c)) (hk : 1 ≤ k) (hc : 1 ≤ c) : IsPer (b ^ k) n c := by
  obtain ⟨h1, h2, h3⟩ := h
  refine ⟨hc, by rw [← Nat.pow_mul]; exact h2, fun j hj1 hj2 => ?_⟩
  rw [← Nat.pow_mul]
  exact h3 (k * j) (Nat.mul_pos hk hj1) ((Nat.mul_lt_mul_left hk).mpr hj2)
theorem restSum_rl (b n x k c : Nat) : restSum b n x k c = (rl (b ^ k) n x c).sum := by
  unfold restSum rl
  refine congrArg List.sum (List.map_congr_left fun i _ => ?_)
  rw [rem_pow]
theorem rest_shift (b n x k : Nat) : ∀ m, restSum b n (rem b n x k) k m + rem b n x 0 = restSum b n x k (m + 1)
  | 0 => by
    rw [restSum_succ]
    simp [restSum]
  | m + 1 => by
    rw [restSum_succ, restSum_succ b n x k (m + 1), ← rest_shift b n x k m, rem_rem, show k + k * m = k * (m + 1) by rw [Nat.mul_succ, Nat.add_comm]]
    omega
theorem rest_next {b n x k c : Nat} (h : IsPer b n (k * c)) : restSum b n (rem b n x k) k c = restSum b n x k c := by
  have h1 := rest_shift b n x k c
  rw [restSum_succ, show rem b n x (k * c) = rem b n x 0 from by have := rem_cyc (x := x) h 0; rwa [Nat.zero_add] at this] at h1
  omega
theorem rest_orb {b n x k c : Nat} (h : IsPer b n (k * c)) (hx : x < n) : ∀ i, restSum b n (rem b n x (k * i)) k c = restSum b n x k c
  | 0 => by rw [Nat.mul_zero, rem_zero hx]
  | i + 1 => by
    rw [Nat.mul_succ, ← rem_rem, rest_next h]
    exact rest_orb h hx i
theorem rest_mem {b n x k c r : Nat} (h : IsPer b n (k * c)) (hx : x < n) (hr : r ∈ rl (b ^ k) n x c) : restSum b n r k c = restSum b n x k c := by
  obtain ⟨i, _, e⟩ := mem_rl.mp hr
  rw [← e, rem_pow]
  exact rest_orb h hx i
theorem rest_bal {b n k c x : Nat} (h : bal b n k c = true) : restSum b n x k c % n = 0 := by
  unfold bal at h
  rw [decide_eq_true_eq, restSum_mod, Nat.one_mul] at h
  rw [restSum_mod, Nat.mul_mod, h, Nat.mul_zero, Nat.zero_mod]
/-- the sum of the pieces is nines times the sum of the remainders over n -/
theorem pcs_div {b n x k c : Nat} (hb : 2 ≤ b) (hk : 1 ≤ k) (hn : 1 ≤ n) (h : IsPer b n (k * c)) : ((pcs b n x k c).sum % (b ^ k - 1) = 0 ↔ restSum b n x k c % n = 0) ∧ (restSum b n x k c % n = 0 → (pcs b n x k c).sum / (b ^ k - 1) = restSum b n x k c / n) := by
  have e := pcs_all (b := b) (n := n) (x := x) (k := k) (c := c) (by omega) (by have := rem_cyc (x := x) h 0; rwa [Nat.zero_add] at this)
  have b2 : 2 ≤ b ^ k := Nat.le_trans (by simpa using hb) (Nat.pow_le_pow_right (by omega) hk)
  have b1 : 1 ≤ b ^ k - 1 := by omega
  generalize b ^ k - 1 = m at e b1
  generalize (pcs b n x k c).sum = S at e
  generalize restSum b n x k c = R at e
  have h1 : ∀ t, R = n * t → S = m * t := fun t z => by
    rw [z] at e
    have : n * S = n * (m * t) := by
      rw [e]
      exact Nat.mul_left_comm m n t
    exact Nat.eq_of_mul_eq_mul_left hn this
  have h2 : ∀ t, S = m * t → R = n * t := fun t z => by
    rw [z] at e
    have : m * R = m * (n * t) := by
      rw [← e]
      exact Nat.mul_left_comm n m t
    exact Nat.eq_of_mul_eq_mul_left b1 this
  refine ⟨⟨fun z => ?_, fun z => ?_⟩, fun z => ?_⟩
  · obtain ⟨t, ht⟩ := Nat.dvd_of_mod_eq_zero z
    rw [h2 t ht, Nat.mul_mod_right]
  · obtain ⟨t, ht⟩ := Nat.dvd_of_mod_eq_zero z
    rw [h1 t ht, Nat.mul_mod_right]
  · obtain ⟨t, ht⟩ := Nat.dvd_of_mod_eq_zero z
    rw [h1 t ht, ht, Nat.mul_div_cancel_left _ b1, Nat.mul_div_cancel_left _ hn]
/-! the members of the orbits of the least ones -/
def msQ (B n c i : Nat) : List Nat := ((List.range i).filter (topB B n c)).flatMap fun y => rl B n y c
theorem msQ_succ (B n c i : Nat) : msQ B n c (i + 1) = msQ B n c i ++ (if topB B n c i = true then rl B n i c else []) := by
  unfold msQ
  rw [List.range_succ, List.filter_append, List.flatMap_append]
  by_cases h : topB B n c i = true
  · rw [if_pos h, List.filter_cons, if_pos h]
    simp
  · rw [if_neg h, List.filter_cons, if_neg h]
    simp
theorem mem_msQ {B n c i r : Nat} (g : Nat.gcd B n = 1) (h : IsPer B n c) (hi : i ≤ n) : r ∈ msQ B n c i ↔ Met B n c i r := by
  rw [met_top g h hi]
  unfold msQ
  rw [List.mem_flatMap]
  constructor
  · rintro ⟨y, hy, hr⟩
    obtain ⟨h1, h2⟩ := List.mem_filter.mp hy
    exact ⟨y, List.mem_range.mp h1, h2, mem_rl.mp hr⟩
  · rintro ⟨y, h1, h2, h3⟩
    exact ⟨y, List.mem_filter.mpr ⟨List.mem_range.mpr h1, h2⟩, mem_rl.mpr h3⟩
theorem rl_nodup {B n c x : Nat} (g : Nat.gcd B n = 1) (h : IsPer B n c) (gx : Nat.gcd x n = 1) : (rl B n x c).Nodup := by
  unfold rl
  rw [List.nodup_iff_pairwise_ne, List.pairwise_map, List.pairwise_iff_getElem]
  intro u v hu hv huv e
  rw [List.getElem_range, List.getElem_range] at e
  rw [List.length_range] at hu hv
  have := rem_once g gx h hu hv e
  omega
theorem msQ_nodup {B n c : Nat} (g : Nat.gcd B n = 1) (h : IsPer B n c) : ∀ i, i ≤ n → (msQ B n c i).Nodup
  | 0, _ => by simp [msQ]
  | i + 1, hi => by
    rw [msQ_succ]
    by_cases ht : topB B n c i = true
    · rw [if_pos ht]
      have gi := (top_iff.mp ht).1
      refine List.nodup_append.mpr ⟨msQ_nodup g h i (by omega), rl_nodup g h gi, fun x hx y hy e => ?_⟩
      subst e
      obtain ⟨y, h1, h2, h3⟩ := (mem_msQ g h (by omega)).mp hx
      have back := orb_symm h (by omega) (mem_rl.mp hy)
      have := orb_trans h (by omega) h3 back
      have nt := (not_top g h (by omega) gi).mpr ⟨y, h1, h2, this⟩
      rw [nt] at ht
      cases ht
    · rw [if_neg ht, List.append_nil]
      exact msQ_nodup g h i (by omega)
theorem filt_len {xs ys : List Nat} {p : Nat → Bool} (hx : xs.Nodup) (hy : ys.Nodup) (h : ∀ r, r ∈ xs ↔ r ∈ ys) : (xs.filter p).length = (ys.filter p).length := by
  refine Nat.le_antisymm (nodup_sub (hx.filter _) fun r hr => ?_) (nodup_sub (hy.filter _) fun r hr => ?_)
  · obtain ⟨h1, h2⟩ := List.mem_filter.mp hr
    exact List.mem_filter.mpr ⟨(h r).mp h1, h2⟩
  · obtain ⟨h1, h2⟩ := List.mem_filter.mp hr
    exact List.mem_filter.mpr ⟨(h r).mpr h1, h2⟩
/-- in the end all that have no common divisor with n -/
theorem met_all {B n c r : Nat} (hn : 1 ≤ n) (g : Nat.gcd B n = 1) (h : IsPer B n c) : Met B n c n r ↔ r < n ∧ Nat.gcd r n = 1 := by
  constructor
  · rintro ⟨y, h1, h2, i, h3, rfl⟩
    exact ⟨rem_lt hn, rem_cop g h2 i⟩
  · rintro ⟨h1, h2⟩
    exact ⟨r, h1, h2, 0, h.1, rem_zero h1⟩
theorem cnt_all {B n c : Nat} {f : Nat → Nat} {ts : List Nat} (hn : 1 ≤ n) (g : Nat.gcd B n = 1) (h : IsPer B n c) (ht : ts.Nodup) (hm : ∀ r, r ∈ ts ↔ r < n ∧ Nat.gcd r n = 1) (q : Nat) : cntQ f (msQ B n c n) q = cntQ f ts q :=
  filt_len (msQ_nodup g h n (Nat.le_refl _)) ht fun r => ((mem_msQ g h (Nat.le_refl _)).trans (met_all hn g h)).trans (hm r).symm
end Wn
/-! counts from both ends; how many there are -/
namespace Wn
open PySem PySem.Spec PyProof.Rows L2
theorem cnt_sum {f : Nat → Nat} {ks : List Nat} (nd : ks.Nodup) : ∀ ms : List Nat, (∀ x ∈ ms, f x ∈ ks) → (ks.map fun q => cntQ f ms q).sum = ms.length
  | [], hh => by
    clear hh
    induction ks with
    | nil => rfl
    | cons k r ih =>
      rw [List.map_cons, List.sum_cons, ih (List.nodup_cons.mp nd).2]
      rfl
  | x :: ms, h => by
    have ih := cnt_sum nd ms fun y hy => h y (List.mem_cons_of_mem _ hy)
    have one : ∀ q, cntQ f (x :: ms) q = (if f x = q then 1 else 0) + cntQ f ms q := fun q => by
      unfold cntQ
      rw [List.filter_cons]
      by_cases e : f x = q
      · rw [if_pos (decide_eq_true e), if_pos e, List.length_cons, Nat.add_comm]
      · rw [if_neg (by simpa using e), if_neg e, Nat.zero_add]
    have split : ∀ l : List Nat, (l.map fun q => cntQ f (x :: ms) q).sum = (l.map fun q => if f x = q then 1 else 0).sum + (l.map fun q => cntQ f ms q).sum := fun l => by
      induction l with
      | nil => rfl
      | cons a r ih =>
        rw [List.map_cons, List.map_cons, List.map_cons, List.sum_cons, List.sum_cons, List.sum_cons, ih, one]
        omega
    have hit : ∀ l : List Nat, l.Nodup → (l.map fun q => if f x = q then 1 else 0).sum = if f x ∈ l then 1 else 0 := fun l nl => by
      induction l with
      | nil => rfl
      | cons a r ih =>
        obtain ⟨n1, n2⟩ := List.nodup_cons.mp nl
        rw [List.map_cons, List.sum_cons, ih n2]
        by_cases e : f x = a
        · rw [if_pos e, if_neg (by rw [e]; exact n1), if_pos (by rw [e]; simp)]
        · rw [if_neg e]
          by_cases m : f x ∈ r
          · rw [if_pos m, if_pos (by simp [m])]
          · rw [if_neg m, if_neg (by simp [m, e])]
    rw [split, hit ks nd, if_pos (h x (by simp)), ih, List.length_cons, Nat.add_comm]
/-- the remainder of the other end -/
theorem rem_neg {b n x i : Nat} (hx : 1 ≤ x) (hxn : x < n) (g : Nat.gcd b n = 1) (gx : Nat.gcd x n = 1) (hn : 2 ≤ n) : rem b n (n - x) i + rem b n x i = n := by
  have h1 : (rem b n (n - x) i + rem b n x i) % n = 0 := by
    unfold rem
    rw [← Nat.add_mod, ← Nat.add_mul, Nat.sub_add_cancel (by omega), Nat.mul_mod_right]
  have h2 := rem_lt (b := b) (n := n) (x := x) (i := i) (by omega)
  have h3 := rem_lt (b := b) (n := n) (x := n - x) (i := i) (by omega)
  have h4 : 1 ≤ rem b n x i := by
    rcases Nat.eq_zero_or_pos (rem b n x i) with z | z
    · have := rem_cop g gx i
      rw [z, Nat.gcd_zero_left] at this
      omega
    · exact z
  obtain ⟨t, ht⟩ := Nat.dvd_of_mod_eq_zero h1
  have : t = 1 := by
    rcases Nat.lt_or_ge t 2 with z | z
    · have : t ≠ 0 := fun z => by
        rw [z, Nat.mul_zero] at ht
        omega
      omega
    · have : n * 2 ≤ n * t := Nat.mul_le_mul_left _ z
      omega
  rw [this, Nat.mul_one] at ht
  exact ht
theorem rest_neg {b n x k : Nat} (hx : 1 ≤ x) (hxn : x < n) (g : Nat.gcd b n = 1) (gx : Nat.gcd x n = 1) (hn : 2 ≤ n) : ∀ c, restSum b n (n - x) k c + restSum b n x k c = n * c
  | 0 => by simp [restSum]
  | c + 1 => by
    have e1 := rest_neg (b := b) (k := k) hx hxn g gx hn c
    have e2 := rem_neg (b := b) (i := k * c) hx hxn g gx hn
    rw [restSum_succ, restSum_succ, Nat.mul_succ]
    omega
theorem rest_pos {b n x k c : Nat} (hx : 1 ≤ x) (hxn : x < n) (g : Nat.gcd b n = 1) (gx : Nat.gcd x n = 1) (hn : 2 ≤ n) (hc : 1 ≤ c) : 1 ≤ restSum b n x k c := by
  obtain ⟨c, rfl⟩ : ∃ d, c = d + 1 := ⟨c - 1, by omega⟩
  rw [restSum_succ]
  have h4 : 1 ≤ rem b n x (k * c) := by
    rcases Nat.eq_zero_or_pos (rem b n x (k * c)) with z | z
    · have := rem_cop g gx (k * c)
      rw [z, Nat.gcd_zero_left] at this
      omega
    · exact z
  omega
/-- the quotient of the other end -/
theorem quo_neg {b n x k c : Nat} (hx : 1 ≤ x) (hxn : x < n) (g : Nat.gcd b n = 1) (gx : Nat.gcd x n = 1) (hn : 2 ≤ n) (h : restSum b n x k c % n = 0) : restSum b n (n - x) k c / n + restSum b n x k c / n = c := by
  have e := rest_neg (b := b) (k := k) hx hxn g gx hn c
  obtain ⟨t, ht⟩ := Nat.dvd_of_mod_eq_zero h
  rw [ht] at e ⊢
  have hle : n * t ≤ n * c := by omega
  have htc : t ≤ c := Nat.le_of_mul_le_mul_left hle (by omega)
  have e2 : restSum b n (n - x) k c = n * (c - t) := by
    rw [Nat.mul_sub]
    omega
  rw [e2, Nat.mul_div_cancel_left _ (by omega), Nat.mul_div_cancel_left _ (by omega)]
  omega
theorem neg_cop {n x : Nat} (hx : x ≤ n) (g : Nat.gcd x n = 1) : Nat.gcd (n - x) n = 1 := by
  have h := Nat.gcd_dvd_left (n - x) n
  have h2 := Nat.gcd_dvd_right (n - x) n
  have h3 : Nat.gcd (n - x) n ∣ x := by
    have := Nat.dvd_sub h2 h
    rwa [show n - (n - x) = x by omega] at this
  have := Nat.dvd_gcd h3 h2
  rw [g] at this
  exact Nat.dvd_one.mp this
end Wn
namespace Wn
open PySem PySem.Spec PyProof.Rows L2
/-! list.count of flat items -/
theorem count_vals {y : V} : ∀ {ys : List V} {its : List Value}, Vals ys its → ys.all flatV = true → its.countP (eqU y) = ys.countP fun z => eqV z y
  | [], _, h, _ => by cases h; rfl
  | z :: ys, _, h, f => by
    cases h with
    | cons rz rt =>
      rw [List.all_cons, Bool.and_eq_true] at f
      rw [List.countP_cons, List.countP_cons, count_vals rt f.2, eqU_of rz f.1]
section
variable {X : Cx}
def rCount (K : PySem.W.Frag) : V → List V → Hp → VK → Prop := fun x xs H Q => ∃ (a : Addr) (ys : List V) (y : V), x = V.ref a ∧ xs = [y] ∧ SqL K H a ys ∧ flatV y = true ∧ ys.all flatV = true ∧ Q (.int ((ys.countP fun z => eqV z y : Nat) : Int)) H
theorem mt_count : MtR X "list.count" (rCount X.K) := by
  intro pins s σ H x xs v us Q I rx rxs h
  obtain ⟨a, ys, y, rfl, rfl, hs, fy, fys, q⟩ := h
  cases rx
  cases rxs with
  | cons ry rt =>
    rename_i uy ut
    cases rt
    obtain ⟨its, rv, ⟨⟨cls, dd, data, sl⟩, n, ho, hc, hdn, hd⟩, hlen⟩ := I.list hs
    simp only at hc hd
    subst hc hd
    refine call_meets PySem.F.slot_list_count ⟨_, ho, rfl⟩ PySem.F.entry_list_count (PySem.F.args_list_count_2 _ _)
      (SeqAt.list_countAt a its.toArray n dd sl uy (eqU y)) ⟨ho, fun u' hu' => mem_eqAt ry fy rv fys u' (by simpa using hu'), ?_⟩
    rw [← count_vals rv fys] at q
    exact ⟨.int (its.countP (eqU y) : Nat), H, I.tok _, ⟨_, rfl⟩, q⟩
variable {T : String} {name id : Str} {r : V → List V → Hp → VK → Prop} {o e : Expr} {es : List Expr} {to : TE} {t : TA} {apos cpos : Pos}
theorem pe_bmC {K' : PySem.W.Frag} {idn : String} {nm : Str} (pa : PlainAttrs T) (slot : Slot T nm idn) (hty : typeOf (.builtin idn) = pure (.type "method_descriptor")) (hm : MtR X idn r) (ho : PE X o to) (ha : PA X (e :: es) t) (hK : X.K = K')
    (hbase : attributeBase o nm X.env (eval o X.env) = eval o X.env := by rfl)
    (hfew : ((backTo cpos (starEach (e :: es) X.env)).all (fun x => !x.1) && (backToKw cpos (keywordEach [] X.env)).all (fun x => x.1.isSome)
      && decide ((e :: es).length + ([] : List Keyword).length + (if ([] : List Keyword).isEmpty then 0 else 1) < 30)) = true := by rfl)
    (hline : (apos.endLine == cpos.line) = true := by rfl) (hs : starEach (e :: es) X.env = (false, eval e X.env) :: starEach es X.env := by rfl) (hplain : (backTo cpos (starEach es X.env)).any (·.1) = false := by rfl) :
    PE X (.Call (.Attribute o nm apos) (e :: es) [] cpos) (tBM K' T r to t) := hK ▸ pe_bm pa slot hty hm ho ha hbase hfew hline hs hplain
end
end Wn
/-! errors of one's own, over any built-in one: made, kept as values, looked at -/
namespace Wn
open PySem PySem.Spec PyProof.Rows L2
/-! the first store to such an error -/
section
open PySem.W PySem.HandSPX Builtin Builtin.ObjectAttr
variable {prog : Program} {w : World} {A : Around} {E : Value → Shared → Prop} {s : Shared} {K : PySem.W.Frag} {C : Addr} {B : String} {bmB : List Value}
theorem osa_one {x t : Addr} {name : Str} {tk : Tok} {v : Value} {R : Result → Shared → Prop} (SF : StoreFacts B bmB "object.__setattr__" "object") (X : K.In s.heap) (hx : s.heap.get? x = some (PySem.W.excObj C t none .none))
    (hp : PySem.W.excOver K C bmB = true) (ht : PySem.W.takerIn K C name = some none) (hh : PySem.W.hasDictIn K C = true)
    (h : ∀ dx h' tk', (∀ b o, b ≠ x → s.heap.get? b = some o → h'.get? b = some o) → s.heap.objs.size ≤ dx → dx ≠ x → h'.get? x = some (PySem.W.excObj C t (some dx) .none) → h'.Ns1 dx (fun y => if y = name then some v else none) → R (.ok (.ret .none)) { s with heap := h', toks := tk' }) :
    codeAny (model prog w) A (.call (.builtin "object.__setattr__") ⟨[.ref x, .str name tk, v], []⟩) R s := by
  have hlt := Heap.lt_size hx
  have hne : s.heap.objs.size ≠ x := Nat.ne_of_gt hlt
  refine osa_openX (od := none) SF X ⟨hx, rfl, rfl, trivial⟩ hp ht fun b => ?_
  obtain ⟨cd, hc, hd⟩ := any_some hh
  refine wpAny_bind (wpAny_pure (wpAny_bind (instanceDict_exc hx (looks_clsIn X hc) hd ?_)))
  have e1 : (s.heap.push (dictOf [] 0)).get? x = some (PySem.W.excObj C t none .none) := Heap.get?_push_of_some _ hx
  obtain ⟨G, hG⟩ : ∃ G, G = (s.heap.push (dictOf [] 0)).update x (fun o => { o with dict := some s.heap.objs.size }) := ⟨_, rfl⟩
  have gx : G.get? x = some (PySem.W.excObj C t (some s.heap.objs.size) .none) := by
    rw [hG]
    exact Heap.get?_update_self _ e1 rfl
  have go : ∀ b, b ≠ x → G.get? b = (s.heap.push (dictOf [] 0)).get? b := fun b hb => by
    rw [hG]
    exact Heap.get?_update_ne _ _ _ _ hb
  have gd : G.Ns s.heap.objs.size (fun _ => none) := by
    refine ⟨_, #[], 0, (go _ hne).trans (Heap.get?_push_size _ rfl), rfl, fun e he => ?_, fun _ => rfl⟩
    exact absurd he (by simp)
  rw [← hG]
  show wpAny (model prog w) A.in1 (storeInDict s.heap.objs.size (.str name tk) name v) _ _ { s with heap := G }
  obtain ⟨hp0, g, d, tt, os⟩ := s
  refine store_in_new gd fun h' tk' hn hs => ?_
  refine h _ h' tk' (fun b o hb e => ?_) (Nat.le_refl _) hne ((hs.2 x hne.symm).trans gx) hn
  have hbs : b ≠ hp0.objs.size := Nat.ne_of_lt (Heap.lt_size e)
  exact (hs.2 b hbs).trans ((go b hb).trans (Heap.get?_push_of_some _ e))
end
/-- what the text says of an error's class: C, over the built-in B, with the field f and its own __init__ at fI -/
structure ErrC (K : PySem.W.Frag) (C fI : Addr) (f : Str) (B newId initId : String) (bmB : List Value) : Prop where
  F : ExcBaseFacts B newId initId bmB
  SF : StoreFacts B bmB "object.__setattr__" "object"
  ini : PySem.W.excInitIn K C bmB newId = true
  ov : PySem.W.excOver K C bmB = true
  hd : PySem.W.hasDictIn K C = true
  sa : PySem.W.findIn K (.ref C) "__setattr__" = some (some (.builtin "object.__setattr__"))
  exC : PySem.W.subIn K (.ref C) (.type "BaseException") = some true
  tyC : PySem.W.typeIn K (.ref C) = some (.type "type")
  kC : PySem.W.keepIn K (.ref C) = true
  tk : PySem.W.takerIn K C f = some none
  no : PySem.W.findIn K (.ref C) f = some none
  iC : PySem.W.findIn K (.ref C) "__init__" = some (some (.ref fI))
  tI : PySem.W.typeIn K (.ref fI) = some (.type "function")
  ga : PySem.W.findIn K (.ref C) "__getattribute__" = some (some (.builtin "BaseException.__getattribute__"))
  gg : PySem.W.findIn K (.ref C) "__getattr__" = some none
  ha : PySem.W.findIn K (.ref C) "__class__" = some (some (.builtin "object.__class__"))
  mr : PySem.W.mroIn K C (.type "object") = some true
section
variable {X : Cx} {pins : List (Addr × Obj)} {σ : L2.St} {H : Hp} {s : Shared} {a C fI dx : Addr} {f : Str} {y : V} {u : Value} {B newId initId : String} {bmB : List Value} {A : Around} {E : Value → Shared → Prop}
theorem ErrC.xf {K : PySem.W.Frag} (T : ErrC K C fI f B newId initId bmB) : XfC K C := ⟨T.ga, T.gg, T.exC, T.hd⟩
/-- self.f = y, the first one -/
theorem ostE {Q : Unit → Shared → Prop} (T : ErrC X.K C fI f B newId initId bmB) (I : Inv X pins σ H s) (e : H a = some (exo a C none)) (ry : RelV y u)
    (h : ∀ dx s', H dx = none → dx ≠ a → Inv X pins σ (upd (upd H dx (exd dx [(f, y)])) a (exo a C (some dx))) s' → Q () s') : wpAny (model X.prog X.w) A (setAttr (.ref a) f u) Q E s := by
  obtain ⟨t1, ho⟩ := exo_at I.hok e
  refine PySem.W.set_plain I.kIn (od := none) ⟨ho, rfl, rfl, trivial⟩ T.sa ?_
  refine osa_one (s := { s with toks := s.toks + 1 }) T.SF I.kIn ho T.ov T.tk T.hd fun d2 G tk2 keep lo ne gx gn => ?_
  have free2 : H d2 = none := I.hok.fresh lo
  have lt2 : ∀ {b : Addr} {o : Obj}, s.heap.get? b = some o → b ≠ d2 := fun z => Nat.ne_of_lt (Nat.lt_of_lt_of_le (Heap.lt_size z) lo)
  have nA : ∀ {b : Addr}, H b = none → b ≠ a := fun z w => by
    rw [w, e] at z
    cases z
  have un : Un X.fs [] H (upd (upd H d2 (exd d2 [(f, y)])) a (exo a C (some d2))) s.heap G := by
    constructor
    · exact fun b o q n _ _ => keep b o (nA n) q
    · exact fun b o q n _ _ => ⟨o.slots, keep b o (nA n) q⟩
    · intro b o q n _
      rw [upd_ne (nA n), upd_ne (lt2 q)]
      exact n
    · intro b o q _
      by_cases w : b = a
      · subst w
        exact ⟨_, gx⟩
      · exact ⟨o, keep b o w q⟩
    · intro b xs q
      rw [upd_ne (at_ne e q exo_tup), upd_ne (ne_of_none q free2)]
      exact q
    · intro b o v q
      rw [upd_ne (at_ne e q exo_frz), upd_ne (ne_of_none q free2)]
      exact q
    · intro b ps q
      refine ⟨#[], ?_⟩
      rw [upd_ne (at_ne e q exo_tbl), upd_ne (ne_of_none q free2), q]
      simp
  refine h d2 _ free2 ne (I.un (t' := tk2) un fun b o q => ?_)
  by_cases w : b = a
  · subst w
    rw [upd_same] at q
    cases q
    exact exo_ok gx
  rw [upd_ne w] at q
  by_cases w2 : b = d2
  · subst w2
    rw [upd_same] at q
    cases q
    exact exd_ok gn (relO_put (fs := []) ry fun g => True.intro)
  rw [upd_ne w2] at q
  refine (I.hok b o q).stay (fun c v hc z => keep c v ?_ z) (fun c hc => ?_) (fun c xs hc => ?_)
  · rcases hc with hc | hc
    · rw [hc]
      exact w
    · exact at_ne e hc exo_own
  · rw [upd_ne (at_ne e hc exo_own), upd_ne (ne_of_none hc free2)]
    exact hc
  · rw [upd_ne (at_ne e hc exo_tup), upd_ne (ne_of_none hc free2)]
    exact hc
/-- the built-in's __init__: nothing of it is told -/
theorem oinitE {us : List Value} {Q : Value → Shared → Prop} (T : ErrC X.K C fI f B newId initId bmB) (I : Inv X pins σ H s) (e : H a = some (exo a C none)) (hl : us.length ≤ sizeLine) (h : ∀ s', Inv X pins σ H s' → Q .none s') :
    wpAny (model X.prog X.w) A (call (.builtin initId) (.ref a :: us)) Q E s := by
  obtain ⟨t1, ho⟩ := exo_at I.hok e
  obtain ⟨nm, N, qn, bs, bm, hdct, sn, sub, ab, col, dd, k0, k1, k2, k3, k5, hC, hT⟩ := PySem.W.excInit_of I.kIn T.ini
  obtain ⟨hp, g, d, t, os⟩ := s
  refine wpAny_call (PySem.HandSPX.init_base T.F hT hC ho hl fun G t2 k gx => ?_)
  have J := I.write (t' := t) (x := a) (e := a) (o := exo a C none) (by rw [e]; exact True.intro) (.inl rfl) k ⟨_, gx⟩ (exo_ok gx)
  rw [show upd H a (exo a C none) = H from funext fun b => by
    by_cases w : b = a
    · rw [w, upd_same, e]
    · rw [upd_ne w]] at J
  exact h _ J
end
/-- W.__init__(self, ..), W one's own class or a built-in one -/
def tInitE (K : PySem.W.Frag) (C : Addr) (ta : TA) : TE := fun σ H Q => ta σ H fun vs H1 => ∃ (a : Addr) (ws : List V), vs = .ref a :: ws ∧ ws.length ≤ 1000 ∧ H1 a = some (exo a C none) ∧ Q .non H1
/-- self.f = e -/
def tOstE (K : PySem.W.Frag) (C : Addr) (f : Str) (to te : TE) : TS := fun D σ H => te σ H fun y H1 => to σ H1 fun x H2 => ∃ a : Addr, x = .ref a ∧ H2 a = some (exo a C none) ∧ ∀ dx, H2 dx = none → dx ≠ a → D.nx σ (upd (upd H2 dx (exd dx [(f, y)])) a (exo a C (some dx)))
section
variable {X : Cx} {o e : Expr} {es : List Expr} {to te : TE} {ta : TA} {f : Str} {p p' p1 p2 pos : Pos} {C fI W : Addr} {B newId initId : String} {bmB : List Value} {mc : Value} {wn : Str}
theorem call_initE {pl : Sem Bool} (T : ErrC X.K C fI f B newId initId bmB) (ha : PA X (e :: es) ta) {pins : List (Addr × Obj)} {s : Shared} {σ : L2.St} {H : Hp} {Q : VK} (I : Inv X pins σ H s) (h : tInitE X.K C ta σ H Q)
    (he : starEach (e :: es) X.env = (false, eval e X.env) :: starEach es X.env := by rfl) (hpl : (backTo pos (starEach es X.env)).any (·.1) = false := by rfl) :
    wpAny (model X.prog X.w) X.A (callWith pos (Value.builtin initId) [] (backTo pos (starEach (e :: es) X.env)) []) (EP X pins σ Q) X.xe s := by
  refine PyProof.Rows.callWith_method1 (thn (ha.run pos pins s σ H _ I h) fun us s1 ⟨vs, H1, I1, r1, a, ws, ev, hl, ea, q⟩ => ?_) he hpl
  subst ev
  cases r1 with
  | @cons _ u0 _ ur ra rw' =>
    obtain rfl : u0 = Value.ref a := ra
    have hlen : ur.length ≤ sizeLine := by
      rw [← Paired.length rw', sizeLine_eq]
      omega
    exact oinitE T I1 ea hlen fun s' J => ⟨.non, H1, J, rfl, q⟩
/-- a class of one's own: its name holds W, whose __init__ is the built-in's -/
theorem pe_initW {pl : Sem Bool} (T : ErrC X.K C fI f B newId initId bmB) (hg : Gl X wn) (hm : X.mg wn = some (.ref W)) (r : ClX.CRead X.K W mc) (at_ : PySem.W.findCls X.K (.ref W) mc "__init__" = some (.val (.builtin initId))) (hh : PySem.W.handedIn (.builtin initId) = true) (ha : PA X (e :: es) ta)
    (hc : eval (.Call (.Attribute (.Name wn p1) "__init__" p2) (e :: es) [] pos) X.env = (do
      let ov ← eval (.Name wn p1) X.env
      standAt p2.atName
      let (f, first) ← holding [ov] (getMethod ov "__init__" pl)
      callWith pos f first (backTo pos (starEach (e :: es) X.env)) (backToKw pos (keywordEach [] X.env))) := by rfl)
    (hdb : (wn == ("__debug__" : Str)) = false := by decide)
    (he : starEach (e :: es) X.env = (false, eval e X.env) :: starEach es X.env := by rfl) (hpl : (backTo pos (starEach es X.env)).any (·.1) = false := by rfl) :
    PE X (.Call (.Attribute (.Name wn p1) "__init__" p2) (e :: es) [] pos) (tInitE X.K C ta) := by
  refine ⟨fun pins s σ H Q I h => ?_⟩
  refine PySem.W.methodCall_KW (ld_glob I hg hm ?_ hdb) hc
  refine PySem.W.method_cls I.kIn r.ga ?_
  refine PySem.W.cls_value I.kIn r.rd at_ hh ?_
  show wpAny _ _ (callWith pos (Value.builtin initId) [] (backTo pos (starEach (e :: es) X.env)) []) _ _ _
  exact call_initE (pl := pl) T ha (I.tok _) h he hpl
end
end Wn
namespace Wn
open PySem PySem.Spec PyProof.Rows L2
/-! C(e): the error made by its own __init__, which keeps sp -/
section
variable {X : Cx} {e : Expr} {es : List Expr} {ta : TA} {f : Str} {p pos : Pos} {C fI : Addr} {B newId initId : String} {bmB : List Value}
theorem pmkE {CX : CXT} {x : Str} {k : Nat} {fd : FuncData} {ps : List Str} {sp : Sp} (T : ErrC X.K C fI f B newId initId bmB) (F1 : FnOk X.prog X.w X.K X.mg X.base CX k fI fd ps sp) (hr : Room (k + 1) X.A) (hb : Binds X.K fd ps []) (hx : Passes CX X (fun _ _ _ => False))
    (hg : Gl X x) (hm : X.mg x = some (.ref C)) (ha : PA X (e :: es) ta)
    (hdb : (x == ("__debug__" : Str)) = false := by decide) (he : starEach (e :: es) X.env = (false, eval e X.env) :: starEach es X.env := by rfl) (hpl : (backTo pos (starEach es X.env)).any (·.1) = false := by rfl) :
    PMk X (.Call (.Name x p) (e :: es) [] pos) (tMkO C sp [] ta) := by
  intro pins s σ H Q I h
  refine wpAny_Call_Name_kw (ld_glob I hg hm ?_ hdb)
  refine PySem.W.callWith_K (h₀ := X.base) I.ok.mod.kin T.kC (thn (ha.run pos pins s σ H _ I h) fun us s1 hh => ?_) he hpl
  obtain ⟨vs, H1, I1, r1, hz, q1⟩ := hh
  refine ⟨I1.kIn, ?_⟩
  show wpAny _ _ (call (.ref C) us) _ _ _
  obtain ⟨nm, N, qn, bs, bm, hdct, sn, sub, ab, col, dd, k0, k1, k2, k3, k5, hC, hT⟩ := PySem.W.excInit_of I1.kIn T.ini
  obtain ⟨h0, g, dr, tk, os⟩ := s1
  obtain ⟨a, haa⟩ : ∃ a, a = h0.objs.size + 1 := ⟨_, rfl⟩
  have lo : h0.objs.size ≤ a := by rw [haa]; exact Nat.le_succ _
  have fresh : H1 a = none := I1.hok.fresh lo
  obtain ⟨G, hG⟩ : ∃ G, G = (h0.push (PySem.W.kdv_tup us)).push (PySem.HandSPX.excO C h0.objs.size) := ⟨_, rfl⟩
  have keep : ∀ b o, h0.get? b = some o → G.get? b = some o := fun b o z => by
    rw [hG]
    exact Heap.get?_push_of_some _ (Heap.get?_push_of_some _ z)
  have gA : G.get? a = some (PySem.HandSPX.excO C h0.objs.size) := by
    rw [hG, haa]
    heap_get
  have I2 : Inv X pins σ (upd H1 a (exo a C none)) ⟨G, g, dr, tk, os⟩ := I1.laid (t' := tk) (a := a) (o := exo a C none) (h' := G) keep lo (exo_ok gA)
  have want := q1 a fresh
  have r2 : Vals (V.ref a :: (vs ++ [])) (Value.ref a :: us) := .cons rfl (by rw [List.append_nil]; exact r1)
  have cnt : (Value.ref a :: us ++ []).length = ps.length := by
    rw [← F1.len _ _ _ _ want, List.append_nil]
    exact r2.length.symm
  have b2 := hb ⟨G, g, dr, tk, os⟩ (Value.ref a :: us) I2.kIn cnt
  rw [List.append_nil] at b2
  have few : us.length ≤ sizeLine := by
    rw [← Paired.length r1, sizeLine_eq]
    omega
  refine wpAny_call (PySem.HandSPX.call_own T.F hT hC (PySem.W.looks_findIn I1.kIn T.iC) (fun self => PySem.W.bind_fn I1.kIn self T.tI) few ?_)
  rw [← hG, ← haa]
  refine codeAny_mono (F1.run _ X.stack _ _ ⟨Value.ref a :: us, []⟩ (Value.ref a :: us) _ _ (fun _ _ _ => False) (hr.make C us []) (I2.env0.make C us []) b2 r2 want) fun r s' back => ?_
  match r, back with
  | .error er, back => exact hx pins σ _ _ er s' I2 back
  | .ok .next, back => exact back.elim
  | .ok .brk, back => exact back.elim
  | .ok .cont, back => exact back.elim
  | .ok (.ret u), back =>
    obtain ⟨v, H2, os2, bare2, un2, hok2, rv, ev, d, fs, ea, ed, hd1, q2⟩ := back
    subst ev
    obtain ⟨h2, g2, d2, t2, os'⟩ := s'
    exact ⟨rv, mk_end (raises_own T.exC T.tyC) I1 lo keep un2 hok2 os2 bare2 ea ed hd1 q2⟩
end
/-! an error kept as a value: its class, its own dict -/
def ExV (cls : Value) (d : Option Addr) (a : Addr) : HO := .ext fun h => ∃ (oe : Obj) (vs : Array Value), h.get? a = some oe ∧ Zc cls d oe ∧ oe.data = .fields vs
theorem exV_ok {P : Program} {w : World} {H : Hp} {h : Heap} {a : Addr} {cls : Value} {d : Option Addr} {oe : Obj} {vs : Array Value} (e : h.get? a = some oe) (z : Zc cls d oe) (hd : oe.data = .fields vs) : ObjOk P w H h a (ExV cls d a) :=
  ⟨⟨oe, vs, e, z, hd⟩, ⟨oe, e⟩, fun _ _ ⟨o, v, q, r⟩ k => ⟨o, v, k o q, r⟩⟩
theorem exV_at {P : Program} {w : World} {H : Hp} {h : Heap} {a : Addr} {cls : Value} {d : Option Addr} (hok : HOk P w H h) (e : H a = some (ExV cls d a)) : ∃ (oe : Obj) (vs : Array Value), h.get? a = some oe ∧ Zc cls d oe ∧ oe.data = .fields vs := by
  have x : ObjOk P w H h a (.ext fun h => ∃ (oe : Obj) (vs : Array Value), h.get? a = some oe ∧ Zc cls d oe ∧ oe.data = .fields vs) := hok a _ e
  exact x.1
section
variable {X : Cx} {pins : List (Addr × Obj)} {σ σ0 : L2.St} {H H0 : Hp} {s s0 : Shared} {a : Addr} {o : HO}
/-- what stands there, and was not there before, is tracked from now on -/
theorem track (I : Inv X pins σ H s) (I0 : Inv X pins σ0 H0 s0) (n0 : s0.heap.get? a = none) (hn : H a = none) (new : ObjOk X.prog X.w (upd H a o) s.heap a o) : Inv X pins σ (upd H a o) s := by
  have nb : ∀ {b : Addr} {u : Obj}, s0.heap.get? b = some u → b ≠ a := fun z w => by
    rw [w, n0] at z
    cases z
  have nt : ∀ {b : Addr} {u : HO}, H b = some u → b ≠ a := fun z => ne_of_none z hn
  refine ⟨I.ok, I.os, I.bare, ⟨I.base.keep, I.base.slot, fun b u z n hx => ?_, I.base.there, fun b xs z => ?_, fun b u v z => ?_, fun b ps z => ?_⟩, I.loc, I.cell, ?_, fun x c z => ?_, fun p hp => ?_, fun b u z => ?_, I.len⟩
  · obtain ⟨u', z'⟩ := I0.base.there b u z hx
    rw [upd_ne (nb z')]
    exact I.base.free b u z n hx
  · have := I.base.tups b xs z
    rw [upd_ne (nt this)]
    exact this
  · have := I.base.frzs b u v z
    rw [upd_ne (nt this)]
    exact this
  · obtain ⟨more, this⟩ := I.base.tbls b ps z
    exact ⟨more, by rw [upd_ne (nt this)]; exact this⟩
  · obtain ⟨m, hm, _⟩ := I0.loc
    obtain ⟨ob, _, _, e, _⟩ := hm
    rw [upd_ne (nb e)]
    exact I.free
  · obtain ⟨v, ob, e, _⟩ := I0.cell x c z
    rw [upd_ne (nb e)]
    exact I.freeC x c z
  · obtain ⟨h1, h2, h3⟩ := I.pin p hp
    exact ⟨h1, by rw [upd_ne (nb (I0.pin p hp).1)]; exact h2, h3⟩
  · by_cases w : b = a
    · subst w
      rw [upd_same] at z
      cases z
      exact new
    · rw [upd_ne w] at z
      exact (I.hok b u z).stay (fun c v hc q => q) (fun c hc => by rw [upd_ne (nt hc)]; exact hc) fun c xs hc => by rw [upd_ne (nt hc)]; exact hc
end
/-- C(e) as a value -/
def tVal (t : L2.St → Hp → XK → Prop) : TE := fun σ H Q => t σ H fun cls d H' => ∀ a, H' a = none → Q (.ref a) (upd H' a (ExV cls d a))
theorem pe_mkV {X : Cx} {e : Expr} {t : L2.St → Hp → XK → Prop} (he : PMk X e t) : PE X e (tVal t) := by
  refine ⟨fun pins s σ H Q I h => thn (he pins s σ H _ I h) fun u s1 hh => ?_⟩
  obtain ⟨a, oe, vs, sI, H', cls, d, eu, J, keep, n0, ha, hz, hd, h1, na, os, ag, r, q⟩ := hh
  have J1 := J.landed (B := sI.heap) (fun _ _ z _ => z) keep (Heap.UpToSlots.of_keeps keep) os ag
  subst eu
  exact ⟨.ref a, _, track J1 J n0 na (exV_ok ha hz hd), rfl, q a na⟩
/-! its field, its class -/
def tFldE (K : PySem.W.Frag) (f : Str) (te : TE) : TE := fun σ H Q => te σ H fun x H1 => ∃ (a C d : Addr) (fs : List (Str × V)) (v : V), x = .ref a ∧ XfC K C ∧ PySem.W.findIn K (.ref C) f = some none ∧ H1 a = some (ExV (.ref C) (some d) a) ∧ H1 d = some (.xd fs) ∧ fs.lookup f = some v ∧ Q v H1
theorem pe_fldE {X : Cx} {e : Expr} {te : TE} {pos : Pos} {n : Str} (he : PE X e te) (hb : attributeBase e n X.env (eval e X.env) = eval e X.env := by rfl) : PE X (.Attribute e n pos) (tFldE X.K n te) := by
  refine ⟨fun pins s σ H Q I h => attr_of hb (thn (he.run pins s σ H _ I h) fun u s1 hh => ?_)⟩
  obtain ⟨x, H1, I1, rx, a, C, d, fs, v, ex, T, hno, ea, ed, l, q⟩ := hh
  subst ex
  obtain rfl : u = Value.ref a := rx
  obtain ⟨oe, vs, ha, hz, hd⟩ := exV_at I1.hok ea
  have hx : ObjOk X.prog X.w H1 s1.heap d (.xd fs) := I1.hok d _ ed
  obtain ⟨mA, hns, hr⟩ := hx
  obtain ⟨od, ho, hl⟩ := lookIn_ns hns
  obtain ⟨u, hu, ru⟩ := RelO.some_of (v := v) (o := mA n) (by rw [← l]; exact hr n)
  have J : PySem.W.InstAt s1.heap a oe C (some od) := by
    refine ⟨ha, hz.1, ?_, ?_⟩
    · unfold PySem.W.notCls
      rw [hd]
    · rw [hz.2]
      exact ho
  exact PySem.HandSPX.exc_get I1.kIn J T.ga T.gg T.exC (PySem.W.findObj_own T.hdC hno rfl (by rw [hl, hu])) (handed_of ru) ⟨v, H1, I1.tok _, ru, q⟩
end Wn
/-! errors caught and kept; isinstance of such -/
namespace Wn
open PySem PySem.Spec PyProof.Rows L2
/-- what isinstance asks of the class C of an error -/
structure IsC (K : PySem.W.Frag) (C : Addr) : Prop where
  cl : (PySem.W.clsIn K C).isSome = true
  ga : PySem.W.findIn K (.ref C) "__getattribute__" = some (some (.builtin "BaseException.__getattribute__"))
  gg : PySem.W.findIn K (.ref C) "__getattr__" = some none
  exC : PySem.W.subIn K (.ref C) (.type "BaseException") = some true
  ha : PySem.W.findIn K (.ref C) "__class__" = some (some (.builtin "object.__class__"))
  hn : PySem.W.specialIn K (.builtin "object.__class__") "__get__" = some (some (.builtin "getset_descriptor.__get__"))
  ht : PySem.W.takesIn K (.builtin "object.__class__") = some true
  mr : PySem.W.mroIn K C (.type "object") = some true
def rIsV (K : PySem.W.Frag) : List V → Hp → VK → Prop := fun xs H Q => ∃ (a C d : Addr) (fs : List (Str × V)) (c : V) (cv : Value) (b : Bool), xs = [.ref a, c] ∧ IsC K C ∧ H a = some (ExV (.ref C) (some d) a) ∧ H d = some (.xd fs) ∧ (∀ u, RelV c u → u = cv) ∧ PySem.W.kitOne K (.ref C) cv = some b ∧ Q (.bl b) H
theorem call_isV {X : Cx} : CallR X (.builtin "isinstance") (rIsV X.K) := by
  intro pins s σ H xs us Q I r h
  obtain ⟨a, C, d, fs, c, cv, b, rfl, T, ea, ed, hcv, e, q⟩ := h
  obtain ⟨oe, vs, ha, hz, hd⟩ := exV_at I.hok ea
  have hx : ObjOk X.prog X.w H s.heap d (.xd fs) := I.hok d _ ed
  obtain ⟨mA, hns, hr⟩ := hx
  obtain ⟨od, ho, hl⟩ := lookIn_ns hns
  have J : PySem.W.InstAt s.heap a oe C (some od) := by
    refine ⟨ha, hz.1, ?_, ?_⟩
    · unfold PySem.W.notCls
      rw [hd]
    · rw [hz.2]
      exact ho
  cases r with
  | cons rx rr =>
    cases rr with
    | cons rt rr =>
      cases rr
      cases rx
      have ec := hcv _ rt
      subst ec
      exact PySem.W.kia_one (PySem.W.kitx_exc T.cl T.ga T.gg T.exC T.ha T.hn T.ht T.mr) I.kIn J e (fun z => nomatch z) fun tk => ⟨.bl b, H, I.kept (t' := tk) fun _ _ z => z, rfl, q⟩
/-! try: body, except (A, B, C) as n: m = n; what was caught is kept in m -/
/-- what the three names of a tuple of classes hold -/
structure Names3 (X : Cx) (x1 x2 x3 : Str) (c1 c2 c3 : Addr) : Prop where
  n1 : Gl X x1 ∧ (x1 == ("__debug__" : Str)) = false ∧ X.mg x1 = some (.ref c1)
  n2 : Gl X x2 ∧ (x2 == ("__debug__" : Str)) = false ∧ X.mg x2 = some (.ref c2)
  n3 : Gl X x3 ∧ (x3 == ("__debug__" : Str)) = false ∧ X.mg x3 = some (.ref c3)
def wKeep (K : PySem.W.Frag) (cs : List Value) (i j : Nat) (D : Ends) : WX := fun cls d σ H =>
  PySem.W.exmAny K cls cs = some true ∧ ∀ a, H a = none → D.nx ((σ.set j (some (.ref a))).set i none) (upd H a (ExV cls d a))
theorem flying_keep {B h h' : Heap} {l : List Env} {a : Addr} {Z : Obj → Prop} (k : ∀ b o, h.get? b = some o → h'.get? b = some o) (f : PySem.HandSPX.FlyingZ B l a Z h) : PySem.HandSPX.FlyingZ B l a Z h' := by
  obtain ⟨f1, f2, f3, oe, vs, T, oT, ts, e1, e2, e3, e4, e5, e6, e7, e8, e9⟩ := f
  exact ⟨fun b o z => k b o (f1 b o z), f2, Heap.FunFrames.of_keeps (fun b o z _ => ⟨o, k b o z, rfl⟩) f3, oe, vs, T, oT, ts, k _ _ e1, e2, e3, e4, e5, e6, k _ _ e7, e8, e9⟩
section
variable {X : Cx} {x1 x2 x3 n m : Str} {c1 c2 c3 : Addr} {i j : Nat} {body : List Stmt} {q1 q2 q3 qt qm qn pa pos pos' : Pos} {kt : Nat} {tb : WX → TS}
theorem ps_try_keep (hs : X.stack = X.env :: X.outer) (hf : X.env.frame = some X.env.locals) (hN : X.N.Nodup) (hi : X.N[i]? = some n) (hj : X.N[j]? = some m) (hij : i ≠ j) (hln : X.env.kindOf n = some .local) (hlm : X.env.kindOf m = some .local) (hc : Names3 X x1 x2 x3 c1 c2 c3)
    (hb : ∀ (W : WX) (pn : List (Addr × Obj)) (xe : Value → Shared → Prop), Takes (X.tr pn xe) W → PassesOwn (model X.prog X.w) X.A X.env xe → PSs (X.tr pn xe) body (tb W))
    (hsw : swapsWith (.Name n qn) (some (.Name m qm)) pa.line X.env = pure false := by rfl) (hdn : (n == ("__debug__" : Str)) = false := by decide) (hcn : (n == ("__classdict__" : Str)) = false := by decide) :
    PS X (.Try body [.ExceptHandler (some (.Tuple [.Name x1 q1, .Name x2 q2, .Name x3 q3] kt qt)) (some n) [.Assign [.Name m qm] (.Name n qn) pa] pos'] [] [] pos) (fun D σ H => tb (wKeep X.K [.ref c1, .ref c2, .ref c3] i j D) D σ H) := by
  refine ⟨fun pins s σ H D I h => ?_⟩
  have ok := I.ok
  have hfr : X.A.frames = some (X.env :: X.outer) := by rw [ok.frames, hs]
  have hloc : Loc X.env.scope n := .inl hln
  have hlocm : Loc X.env.scope m := .inl hlm
  refine wpAny_Try_except ?_
  refine wpAny_mono ((hb (wKeep X.K [.ref c1, .ref c2, .ref c3] i j D) (X.pn ++ pins) (fun e s₁ => wpAny (model X.prog X.w) X.A (noteFrame e X.env) (fun _ s₂ => wpAny (model X.prog X.w) X.A (setFlight e none) (fun _ s₃ =>
    wpAny (model X.prog X.w) X.A (handleBy e X.env [.ExceptHandler (some (.Tuple [.Name x1 q1, .Name x2 q2, .Name x3 q3] kt qt)) (some n) [.Assign [.Name m qm] (.Name n qn) pa] pos']) (SP X pins D) X.xe s₃) X.xe s₂) X.xe s₁) (fun u s' xx => ?_) PassesOwn.looking).run [] s σ H D (I.toTry _) h) (fun f s1 hsp => ?_) (fun e s1 he => he)
  · obtain ⟨a, B, sI, pins', σ', H', cls, d, rfl, J', nb, up, sky, na, os, ag, hb1, hyes⟩ := xx
    have J : Inv X pins σ' H' sI := J'.ofTry ok
    have sky2 : Sky B (X.env :: X.outer) a (Zc cls d) X.env.locals s'.heap := by
      rw [← hs]
      exact sky
    show wpAny (model X.prog X.w) X.A (noteFrame (.ref a) X.env) _ _ _
    refine Sky.land Zc.steady hfr hf sky2 fun h3 fl3 up3 => ?_
    have J3 : Inv X pins σ' H' { s' with heap := h3 } := J.landed nb fl3.1 (up.trans up3) os ag
    obtain ⟨oe3, vs3, he3, hz3, hd3⟩ := fl3.there
    have nfr : a ∉ frs (X.env :: X.outer) := fun hm => by
      obtain ⟨_, o', e', hnf⟩ := fl3.2.2.1.mem hm
      rw [he3] at e'
      cases e'
      exact hnf _ hd3
    have nL : a ≠ X.env.locals := fun z => nfr (List.mem_filterMap.mpr ⟨X.env, List.mem_cons_self, by rw [hf, z]⟩)
    have nF : a ∉ X.fs := fun hm => by
      obtain ⟨e, he, q⟩ := List.mem_filterMap.mp hm
      exact nfr (List.mem_filterMap.mpr ⟨e, List.mem_cons_of_mem _ he, q⟩)
    have n0 : sI.heap.get? a = none := by
      cases z : sI.heap.get? a with
      | none => rfl
      | some o =>
        have := nb a o z (by rw [hs]; exact nfr)
        rw [fl3.2.1] at this
        cases this
    have S3 := J3.suite he3 hd3 na nL nF
    refine wpAny_handleBy_cons (codeAny_handlers_test ?_) (by intro q; cases q)
    have LT : PySem.W.Looks (model X.prog X.w) h3 (typeOf (.ref a)) cls := fun A Q E s k q => wpAny_typeOf_ref (k _ _ he3) (by rw [hz3.1]; exact q)
    refine wpAny_Tuple ?_
    refine wpAny_items_cons (ld_glob (X := X.suite a ((a, oe3) :: (X.pn ++ pins))) S3 hc.n1.1 hc.n1.2.2 ?_ hc.n1.2.1)
    refine wpAny_items_cons (ld_glob (X := X.suite a ((a, oe3) :: (X.pn ++ pins))) S3 hc.n2.1 hc.n2.2.2 ?_ hc.n2.2.1)
    refine wpAny_items_cons (ld_glob (X := X.suite a ((a, oe3) :: (X.pn ++ pins))) S3 hc.n3.1 hc.n3.2.2 ?_ hc.n3.2.1)
    refine wpAny_items_nil ⟨by size_fits, ?_⟩
    obtain ⟨G, hG⟩ : ∃ G, G = h3.push { cls := .type "tuple", data := .seq [.ref c1, .ref c2, .ref c3].toArray } := ⟨_, rfl⟩
    have kp : ∀ b o, h3.get? b = some o → G.get? b = some o := fun _ _ z => by
      rw [hG]
      exact Heap.get?_push_of_some _ z
    have gt : G.get? h3.objs.size = some { cls := .type "tuple", data := .seq [.ref c1, .ref c2, .ref c3].toArray } := by
      rw [hG]
      exact Heap.get?_push_size h3 rfl
    rw [← hG]
    refine (PySem.W.exm_tup3 (M := model X.prog X.w) (J3.kIn.keeps kp) (LT.keeps kp) gt hb1).here ?_
    have fl4 := flying_keep kp fl3
    have upG : h3.UpToSlots G := Heap.UpToSlots.of_keeps kp
    refine codeAny_handlers_suite_as ?_
    refine PySem.HandSPX.lands_againZ fl4 fun h4 fl5 up4 => ?_
    have J4 : Inv X pins σ' H' { s' with heap := h4 } := J.landed nb fl5.1 (((up.trans up3).trans upG).trans up4) os ag
    obtain ⟨oe4, vs4, he4, hz4, hd4⟩ := fl5.there
    have S4 := J4.suite he4 hd4 na nL nF
    refine store_ok (X := X.suite a ((a, oe4) :: (X.pn ++ pins))) (v := .ref a) S4 hN hi hloc rfl (fun s5 S5 => ?_) (.inr hln)
    have hp : PSs (X.suite a ((a, oe4) :: (X.pn ++ pins))) [.Assign [.Name m qm] (.Name n qn) pa] (tSeq (tAsg (tVar i) (gName j)) tNext) :=
      pss_cons (ps_set (X := X.suite a ((a, oe4) :: (X.pn ++ pins))) hN hj hlocm (pe_var (X := X.suite a ((a, oe4) :: (X.pn ++ pins))) hi (.inl hln) hdn hcn) hsw (.inr hlm)) pss_nil
    have hlen : i < σ'.length := by
      rw [J4.len]
      exact (List.getElem?_eq_some_iff.mp hi).1
    refine wpAny_mono (hp.run [] s5 _ H' { nx := fun σ6 H6 => H6 = H' ∧ σ6 = (σ'.set i (some (.ref a))).set j (some (.ref a)), rt := fun _ _ => False } S5 ⟨_, List.getElem?_set_self hlen, rfl, rfl⟩) (fun f s6 hsp => ?_) (fun _ _ z => False.elim z)
    cases f with
    | next =>
      obtain ⟨σ6, H6, S6, rfl, rfl⟩ := hsp
      have gA := (S6.pin (a, oe4) (List.mem_append_left _ List.mem_cons_self)).1
      have J6 := track (S6.unsuite ok) J n0 na (exV_ok (cls := cls) (d := d) gA hz4 hd4)
      refine gone_ok J6 hN hi hln fun s7 J7 => ⟨_, _, J7, ?_⟩
      have e1 : (((σ'.set i (some (V.ref a))).set j (some (V.ref a))).set i none) = ((σ'.set j (some (V.ref a))).set i none) := by
        rw [List.set_comm _ _ hij, List.set_set]
      rw [e1]
      exact hyes a na
    | brk =>
      obtain ⟨_, _, _, z⟩ := hsp
      exact False.elim z
    | cont =>
      obtain ⟨_, _, _, z⟩ := hsp
      exact False.elim z
    | ret u =>
      obtain ⟨_, _, _, _, _, z⟩ := hsp
      exact False.elim z
  · cases f with
    | next =>
      obtain ⟨σ', H', J', q⟩ := hsp
      exact wpAny_execs_nil ⟨σ', H', J'.ofTry ok, q⟩
    | brk =>
      obtain ⟨σ', H', J', q⟩ := hsp
      exact ⟨σ', H', J'.ofTry ok, q⟩
    | cont =>
      obtain ⟨σ', H', J', q⟩ := hsp
      exact ⟨σ', H', J'.ofTry ok, q⟩
    | ret u =>
      obtain ⟨v, σ', H', J', r, q⟩ := hsp
      exact ⟨v, σ', H', J'.ofTry ok, r, q⟩
end
end Wn
/-! a lambda handed to a def that calls it, without a parameter or with one that has a written default -/
namespace Wn
open PySem PySem.Spec PyProof.Rows L2 LamX
def clos (X : Cx) (scope : Scope) : List (Str × Addr) := cloFrom X.env.cells scope.names []
abbrev lamO (X : Cx) (params : Arguments) (body : Expr) (scope : Scope) (dV doc pm : Value) (c' : Addr) (ctv : Value) : Obj :=
  PySem.W.kdv_obj "<lambda>" (X.env.qual ++ "<lambda>") params (.expr body) scope (clos X scope) dV doc pm c' ctv
/-- the lambda's names: no cell of its own; its own parameter is no name of the def around -/
structure LamD (N : List Str) (sc scope : Scope) : Prop where
  kind : scope.kind = .function
  co : scope.isCoroutine = false
  gen : scope.isGenerator = false
  own : ∀ y ∈ scope.names, y.2 ≠ .cell ∧ (y.2 = .local → y.1 ∉ N)
  free : ∀ y ∈ scope.names, y.2 = .free → sc.names.lookup y.1 = some .cell ∨ sc.names.lookup y.1 = some .free
def lamDB (N : List Str) (sc scope : Scope) : Bool :=
  decide (scope.kind = .function) && !scope.isCoroutine && !scope.isGenerator && scope.names.all fun y => !decide (y.2 = .cell) && (!decide (y.2 = .local) || !decide (y.1 ∈ N)) && (!decide (y.2 = .free) || decide (sc.names.lookup y.1 = some .cell) || decide (sc.names.lookup y.1 = some .free))
theorem lamD_by {N : List Str} {sc scope : Scope} (h : lamDB N sc scope = true) : LamD N sc scope := by
  unfold lamDB at h
  simp only [Bool.and_eq_true, Bool.or_eq_true, Bool.not_eq_true', decide_eq_true_eq, decide_eq_false_iff_not, List.all_eq_true] at h
  obtain ⟨⟨⟨h1, h2⟩, h3⟩, h4⟩ := h
  refine ⟨h1, h2, h3, fun y hy => ⟨(h4 y hy).1.1, fun e => ?_⟩, fun y hy e => ?_⟩
  · rcases (h4 y hy).1.2 with z | z
    · exact absurd e z
    · exact z
  · rcases (h4 y hy).2 with (z | z) | z
    · exact absurd e z
    · exact .inl z
    · exact .inr z
theorem LamD.has {X : Cx} {scope : Scope} (L : LamD X.N X.env.scope scope) (ok : X.Ok) : ∀ y ∈ scope.names, y.2 = .free → ∃ c, X.env.cells.lookup y.1 = some c := fun y hy e =>
  (L.free y hy e).elim (fun k => ok.has _ (.inl k)) (fun k => ok.has _ (.inr k))
section
variable {X : Cx} {pins : List (Addr × Obj)} {σ : L2.St} {H : Hp} {s : Shared}
/-- the function is made: its code object is new, or found in the table -/
theorem mk_tail {M : Model} {A : Around} {T : List (Addr × Str)} {c P : Addr} {params : Arguments} {body : Expr} {scope : Scope} {pos : Pos} {dV : Value} {E : Value → Shared → Prop} {Q : Value → Shared → Prop} (I : Inv X pins σ H s) (TB : TabB X.base X.mg c P) (hcode : X.env.code = .ref c)
    (hm : (P, X.env.qual ++ "<lambda>") ∈ T) (hu : ∀ p ∈ T, p.1 = P → p.2 = X.env.qual ++ "<lambda>") (hT : Tabs T H) (hfree : ∀ y ∈ scope.names, y.2 = .free → ∃ c, X.env.cells.lookup y.1 = some c)
    (h : ∀ (f c' : Addr) (doc pm ctv : Value) (H1 : Hp) (s' : Shared), Inv X pins σ H1 s' → ExtN H H1 → Tabs T H1 → (∀ b o, b ≠ P → s.heap.get? b = some o → s'.heap.get? b = some o) → (∀ b, H b = none → b < s.heap.objs.size → H1 b = none) →
      s'.heap.get? f = some (lamO X params body scope dV doc pm c' ctv) → H1 f = none → f ∉ frs X.stack → H1 c' = some (CodeO c' (X.env.qual ++ "<lambda>")) → Q (.ref f) s') :
    wpAny M A (makeTail "<lambda>" (X.env.qual ++ "<lambda>") params (.expr body) scope X.env dV .none none pos pos.line) Q E s := by
  obtain ⟨ps, hP, ht, ha⟩ := hT _ hm
  have bP : s.heap.BuiltinsAt X.mg P := TB.bm.keeps I.bk
  have gP : s.heap.get? P = some { cls := .none, data := .fields ps } := I.hok P _ hP
  have off : ∀ f, s.heap.objs.size ≤ f → f ∉ frs X.stack := fun f hf z => by
    rcases List.mem_cons.mp (I.stkSub _ z) with e | e
    · have h1 := I.lt
      rw [← e] at h1
      exact Nat.lt_irrefl _ (Nat.lt_of_lt_of_le h1 hf)
    · exact I.nofs hf e
  cases hc : codeAmong pos ps.toList with
  | some cv =>
    obtain ⟨c', e, hco⟩ := ha pos cv hc
    subst e
    refine PySem.W.kdv_makeTailHit (mg := X.mg) (c := c) (P := P) (ps := ps) (closure_ok hfree) I.ok.glob (I.mod.glob.keeps I.bk) hcode (TB.code.keeps I.bk) gP ht hc bP fun ctv doc h' tk hx hsz => ?_
    have I1 : Inv X pins σ H { s with heap := h'.push (lamO X params body scope dV doc ((X.mg "__name__").getD .none) c' ctv), toks := tk } := I.kept fun b o e => Heap.get?_push_of_some _ (hx b o e)
    exact h h'.objs.size c' doc ((X.mg "__name__").getD .none) ctv H _ I1 (ExtN.refl H) hT (fun b o _ e => Heap.get?_push_of_some _ (hx b o e)) (fun b z _ => z) (Heap.get?_push_size _ rfl) (I.hok.fresh hsz) (off _ hsz) hco
  | none =>
    refine PySem.W.kdv_makeTail (mg := X.mg) (c := c) (P := P) (ps := ps) (closure_ok hfree) I.ok.glob (I.mod.glob.keeps I.bk) hcode (TB.code.keeps I.bk) gP ht hc TB.gP bP fun c' ctv doc h' tk hx hge hlt hrec htb => ?_
    obtain ⟨c2, oc, vs, t, e2, hoc, hd, hv⟩ := hrec
    cases e2
    have grow : s.heap.objs.size ≤ h'.objs.size := Nat.le_trans hge (Nat.le_of_lt hlt)
    have nC : H c' = none := I.hok.fresh hge
    obtain ⟨F0, hF0⟩ : ∃ F0, F0 = lamO X params body scope dV doc ((X.mg "__name__").getD .none) c' ctv := ⟨_, rfl⟩
    have I1 := inv_table (t' := tk) (more := #[rawInt pos.line, rawInt pos.col, .ref c']) (h' := h'.push F0) I hP
      (fun b o hb e => Heap.get?_push_of_some _ (hx b o hb e)) (Heap.get?_push_of_some _ htb) hge ⟨oc, vs, t, Heap.get?_push_of_some _ hoc, hd, hv⟩
    have far : ∀ {b : Addr} {o : HO}, H b = some o → (∀ ps, o ≠ .tbl ps) → b ≠ P := fun e n z => by
      rw [z, hP] at e
      exact n ps (Option.some.inj e).symm
    have ext : ExtN H (upd (upd H P (.tbl (ps ++ #[rawInt pos.line, rawInt pos.col, .ref c']))) c' (CodeO c' (X.env.qual ++ "<lambda>"))) := fun b o e n => by
      rw [upd_ne (ne_of_none e nC), upd_ne (far e n)]
      exact e
    have lst : (ps ++ #[rawInt pos.line, rawInt pos.col, .ref c']).toList = ps.toList ++ [rawInt pos.line, rawInt pos.col, .ref c'] := by simp
    subst hF0
    refine h h'.objs.size c' doc ((X.mg "__name__").getD .none) ctv _ _ I1 ext (fun p hp => ?_) (fun b o hb e => Heap.get?_push_of_some _ (hx b o hb e)) (fun b z lt => ?_) (Heap.get?_push_size _ rfl) ?_ (off _ grow) upd_same
    · by_cases hb : p.1 = P
      · rw [hu p hp hb, hb]
        refine ⟨_, by rw [upd_ne (ne_of_none hP nC), upd_same], by rw [lst]; exact PySem.TriplesOk_snoc _ _ _ _ ht, fun p' cv hcv => ?_⟩
        rw [lst] at hcv
        rcases among_app _ ht hcv with z | z
        · obtain ⟨c0, e1, e2⟩ := ha p' cv z
          exact ⟨c0, e1, ext _ _ e2 codeO_ne⟩
        · exact ⟨c', z, upd_same⟩
      · obtain ⟨ps', a1, a2, a3⟩ := hT p hp
        refine ⟨ps', by rw [upd_ne (ne_of_none a1 nC), upd_ne hb]; exact a1, a2, fun p' cv hcv => ?_⟩
        obtain ⟨c0, e1, e2⟩ := a3 p' cv hcv
        exact ⟨c0, e1, ext _ _ e2 codeO_ne⟩
    · have n1 : b ≠ c' := Nat.ne_of_lt (Nat.lt_of_lt_of_le lt hge)
      have n2 : b ≠ P := fun w => by
        rw [w, hP] at z
        cases z
      rw [upd_ne n1, upd_ne n2]
      exact z
    · have n1 : h'.objs.size ≠ c' := Nat.ne_of_gt hlt
      have n2 : h'.objs.size ≠ P := Nat.ne_of_gt (Nat.lt_of_lt_of_le (Heap.lt_size gP) grow)
      rw [upd_ne n1, upd_ne n2]
      exact I.hok.fresh grow
/-- what is made of the lambda: objects that stay, the function at f among them -/
structure Made (X : Cx) (H1 : Hp) (s' : Shared) (params : Arguments) (body : Expr) (scope : Scope) (f c' : Addr) (dV doc pm ctv : Value) (D : List (Addr × Obj)) : Prop where
  at_ : (f, lamO X params body scope dV doc pm c' ctv) ∈ D
  there : ∀ p ∈ D, s'.heap.get? p.1 = some p.2 ∧ H1 p.1 = none ∧ p.1 ∉ frs X.stack
  code : H1 c' = some (CodeO c' (X.env.qual ++ "<lambda>"))
  binds : ∃ bs : List (Str × Value), (∀ s2 : Shared, (∀ p ∈ D, s2.heap.get? p.1 = some p.2) → BindsTo s2 (PySem.W.kdv_fn "<lambda>" (X.env.qual ++ "<lambda>") params (.expr body) scope (clos X scope) dV doc pm (.ref c') ctv) ⟨[], []⟩ bs) ∧ ∀ y ∈ bs, scope.names.lookup y.1 = some .local
/-- lambda: e -/
theorem lam_plain {T : List (Addr × Str)} {c P : Addr} {params : Arguments} {body : Expr} {scope : Scope} {pos : Pos} {E : Value → Shared → Prop} {Q : Value → Shared → Prop} (I : Inv X pins σ H s) (TB : TabB X.base X.mg c P) (hcode : X.env.code = .ref c)
    (hm : (P, X.env.qual ++ "<lambda>") ∈ T) (hu : ∀ p ∈ T, p.1 = P → p.2 = X.env.qual ++ "<lambda>") (hT : Tabs T H) (hdef : defaultsOf params X.env = ([], [])) (hfree : ∀ y ∈ scope.names, y.2 = .free → ∃ c, X.env.cells.lookup y.1 = some c)
    (hbind : ∀ (q : Str) (cl : List (Str × Addr)) (doc pm cv ctv : Value), bindArgs (PySem.W.kdv_fn "<lambda>" q params (.expr body) scope cl .none doc pm cv ctv) ⟨[], []⟩ = pure [])
    (h : ∀ (f c' : Addr) (dV doc pm ctv : Value) (D : List (Addr × Obj)) (H1 : Hp) (s' : Shared), Inv X pins σ H1 s' → ExtN H H1 → Tabs T H1 → Made X H1 s' params body scope f c' dV doc pm ctv D → Q (.ref f) s') :
    wpAny (model X.prog X.w) X.A (eval (.Lambda params body scope pos) X.env) Q E s := by
  refine PySem.W.kla_eval hdef ?_
  rw [makeFunction_eq]
  simp only [List.zip_nil_right, List.filterMap_nil, List.isEmpty_nil, if_true, pure_bind]
  refine mk_tail I TB hcode hm hu hT hfree fun f c' doc pm ctv H1 s' I1 eN T1 _ _ hf hfn hfr hco => ?_
  refine h f c' .none doc pm ctv [(f, lamO X params body scope .none doc pm c' ctv)] H1 s' I1 eN T1 ⟨List.mem_cons_self, fun p hp => ?_, hco, [], fun s2 _ => .of_eq (hbind _ _ _ _ _ _), fun y hy => absurd hy (by simp)⟩
  rw [List.mem_singleton] at hp
  subst hp
  exact ⟨hf, hfn, hfr⟩
/-- lambda a=0: e -/
theorem lam_dflt {T : List (Addr × Str)} {c P : Addr} {params : Arguments} {body : Expr} {scope : Scope} {pos p0 : Pos} {j0 : Nat} {n : Int} {x : Str} {E : Value → Shared → Prop} {Q : Value → Shared → Prop} (I : Inv X pins σ H s) (TB : TabB X.base X.mg c P) (hcode : X.env.code = .ref c)
    (hm : (P, X.env.qual ++ "<lambda>") ∈ T) (hu : ∀ p ∈ T, p.1 = P → p.2 = X.env.qual ++ "<lambda>") (hT : Tabs T H) (hkw : params.kwonlyargs = []) (hdef : defaultsOf params X.env = ([eval (.Constant (.int n) j0 p0) X.env], [])) (hfree : ∀ y ∈ scope.names, y.2 = .free → ∃ c, X.env.cells.lookup y.1 = some c)
    (hbind : ∀ (q : Str) (cl : List (Str × Addr)) (T0 : Addr) (doc pm cv ctv v : Value), ∃ k, bindArgs (PySem.W.kdv_fn "<lambda>" q params (.expr body) scope cl (.ref T0) doc pm cv ctv) ⟨[], []⟩ = seqItems? (.ref T0) >>= k ∧ k (some #[v]) = pure [(x, v)]) (hloc : scope.names.lookup x = some .local)
    (hE : ∀ e s, X.xe e s → E e s)
    (h : ∀ (f c' : Addr) (dV doc pm ctv : Value) (D : List (Addr × Obj)) (H1 : Hp) (s' : Shared), Inv X pins σ H1 s' → ExtN H H1 → Tabs T H1 → Made X H1 s' params body scope f c' dV doc pm ctv D → Q (.ref f) s') :
    wpAny (model X.prog X.w) X.A (eval (.Lambda params body scope pos) X.env) Q E s := by
  rw [arm_eval_Lambda, hdef]
  show wpAny _ _ (do let dv ← evalAll [eval (.Constant (.int n) j0 p0) X.env]; let kdv ← holding dv (evalAllOpt []); makeFunction "<lambda>" (X.env.qual ++ "<lambda>") params (.expr body) scope X.env dv kdv [] pos pos.line) Q E s
  have hc : PE X (.Constant (.int n) j0 p0) (tC (.int n)) := pe_int
  refine wpAny_bind ?_
  unfold evalAll
  refine wpAny_bind (wpAny_mono (hc.run pins s σ H (fun v H' => v = .int n ∧ H' = H) I ⟨rfl, rfl⟩) (fun u s1 hh => ?_) hE)
  obtain ⟨v, H', I1, r1, rfl, rfl⟩ := hh
  unfold evalAll
  refine wpAny_bind (wpAny_holding (wpAny_pure (wpAny_pure (wpAny_bind (wpAny_holding (wpAny_pure ?_))))))
  rw [makeFunction_eq, hkw]
  simp only [List.zip_nil_right, List.zip_nil_left, List.filterMap_nil, List.isEmpty_nil, List.isEmpty_cons, if_true, Bool.false_eq_true, if_false, pure_bind]
  refine wpAny_bind (wpAny_newTextTuple ?_)
  obtain ⟨T0, hT0⟩ : ∃ T0, T0 = s1.heap.objs.size := ⟨_, rfl⟩
  have I2 : Inv X pins σ H' { s1 with heap := s1.heap.push (PySem.W.kdv_tup [u]) } := I1.kept fun b o e => Heap.get?_push_of_some _ e
  have g0 : (s1.heap.push (PySem.W.kdv_tup [u])).get? T0 = some (PySem.W.kdv_tup [u]) := by
    rw [hT0]
    exact Heap.get?_push_size _ rfl
  have z0 : H' T0 = none := I1.hok.fresh (Nat.le_of_eq hT0.symm)
  have nf : T0 ∉ frs X.stack := fun z => by
    rcases List.mem_cons.mp (I1.stkSub _ z) with e | e
    · have h1 := I1.lt
      rw [← e, hT0] at h1
      exact Nat.lt_irrefl _ h1
    · exact I1.nofs (Nat.le_of_eq hT0.symm) e
  rw [← hT0]
  obtain ⟨ps, hP, _, _⟩ := hT _ hm
  have nP : T0 ≠ P := fun w => by
    rw [w, hP] at z0
    cases z0
  refine mk_tail I2 TB hcode hm hu hT hfree fun f c' doc pm ctv H1 s' I3 eN T1 kp low hf hfn hfr hco => ?_
  have g1 := kp T0 _ nP g0
  have z1 : H1 T0 = none := low T0 z0 (by
    show T0 < (s1.heap.push _).objs.size
    rw [Heap.size_push, hT0]
    exact Nat.lt_succ_self _)
  refine h f c' (.ref T0) doc pm ctv [(f, lamO X params body scope (.ref T0) doc pm c' ctv), (T0, PySem.W.kdv_tup [u])] H1 s' I3 eN T1 ⟨List.mem_cons_self, fun p hp => ?_, hco, [(x, u)], fun s2 k2 => ?_, fun y hy => ?_⟩
  · rcases List.mem_cons.mp hp with e | e
    · subst e
      exact ⟨hf, hfn, hfr⟩
    · rw [List.mem_singleton] at e
      subst e
      exact ⟨g1, z1, nf⟩
  · obtain ⟨k, b1, b2⟩ := hbind (X.env.qual ++ "<lambda>") (clos X scope) T0 doc pm (.ref c') ctv u
    exact BindsTo.of_defaults (o := PySem.W.kdv_tup [u]) rfl (k2 (T0, _) (by simp)) rfl b1 b2
  · rw [List.mem_singleton] at hy
    subst hy
    exact hloc
end
end Wn
namespace Wn
open PySem PySem.Spec PyProof.Rows L2 LamX
section
variable {X : Cx} {pins : List (Addr × Obj)} {σ : L2.St} {H HZ : Hp} {s s1 : Shared}
/-- the lambda's body begins: bs its own names -/
theorem lamW_start {A : Around} {outer : List Env} {E : XK} {scope : Scope} {f c' : Addr} {h1 : Heap} {tk : Nat} {bs : List (Str × Value)} (I : Inv X pins σ H s) (L : LamD X.N X.env.scope scope) (e0 : Env0 X.prog X.w X.K X.mg X.base A outer s1 HZ) (hd : A.handled = none)
    (un : Un (frs X.stack) [] H HZ s.heap s1.heap) (hns : h1.Ns s1.heap.objs.size fun y => bs.reverse.lookup y) (kp : ∀ b o, s1.heap.get? b = some o → h1.get? b = some o) :
    Inv (lamCx X A outer s1 HZ E scope f c') [] σ HZ { s1 with heap := h1, toks := tk } := by
  have hfree := L.has I.ok
  have up : ∀ {y c}, (cloFrom X.env.cells scope.names []).lookup y = some c → X.env.cells.lookup y = some c := fun {y c} e => by
    rcases cloFrom_mem (PySem.mem_of_lookup e) with z | ⟨z1, z2⟩
    · cases z
    · obtain ⟨c1, hc⟩ := hfree _ z1 rfl
      have hc : X.env.cells.lookup y = some c1 := hc
      rw [show c = c1 by rw [z2, hc] <;> rfl]
      exact hc
  have down : ∀ {y}, scope.names.lookup y = some .free → ∃ c, (cloFrom X.env.cells scope.names []).lookup y = some c := fun {y} hl => by
    have hy : (y, NameKind.free) ∈ scope.names := PySem.mem_of_lookup hl
    exact mem_lookup (cloFrom_has (cells := X.env.cells) (acc := []) hy)
  have cellK : ∀ {c : Addr} {v : Option Value}, H c = none → s.heap.IsCell c v → h1.IsCell c v := fun {c v} n ⟨o, ho, hd⟩ => by
    obtain ⟨sl, q⟩ := un.any ho n (by simp)
    exact ⟨_, kp _ _ q, hd⟩
  have ex0 : ∀ b : Addr, b ∉ (lamCx X A outer s1 HZ E scope f c').ex := fun b z => absurd (show b ∈ ([] : List Addr) from z) (by simp)
  refine ⟨⟨e0.mod, L.kind, rfl, rfl, Nat.le_refl _, fun y z c e1 e2 => I.ok.inj y z c (up e1) (up e2), fun y hy => ?_, fun y c z _ => ?_, fun _ => hd, Around.frames_deeper e0.frames, .inr ⟨rfl, rfl⟩, fun b z => absurd z (ex0 b), e0.bs, e0.bsz, fun b _ _ => ex0 b,
      fun b z => absurd z (ex0 b), e0.funs, e0.frf⟩,
    rfl, e0.bare, Un.kept kp, ⟨_, hns, fun i y v e1 e2 e3 => ?_⟩, fun y c e => ?_, e0.hok.fresh (Nat.le_refl _), fun y c e => ?_, fun q hq => absurd (show q ∈ ([] : List (Addr × Obj)) ++ [] from hq) (by simp), e0.hok.kept kp, I.len⟩
  · have hy : scope.names.lookup y = some .cell ∨ scope.names.lookup y = some .free := hy
    rcases hy with hy | hy
    · exact absurd rfl (L.own _ (PySem.mem_of_lookup hy)).1
    · exact down hy
  · have z : false = true := z
    cases z
  · have e3 : Vis scope y := e3
    rcases e3 with k | k | k
    · exact absurd (List.mem_iff_getElem?.mpr ⟨i, e1⟩) ((L.own _ (PySem.mem_of_lookup k)).2 rfl)
    · exact absurd rfl (L.own _ (PySem.mem_of_lookup k)).1
    · obtain ⟨m, hn, hl⟩ := I.loc
      have hvis : Vis X.env.scope y := (L.free _ (PySem.mem_of_lookup k) rfl).elim (fun k => .inr (.inl k)) (fun k => .inr (.inr k))
      obtain ⟨w', r, q⟩ := hl i y v e1 e2 hvis
      obtain ⟨c2, h2⟩ := down k
      refine ⟨w', r, .inr ⟨.inr k, c2, h2, ?_⟩⟩
      have c1 := up h2
      rcases q with ⟨k', _⟩ | ⟨_, c3, e', z⟩
      · have k' : X.env.scope.names.lookup y = some .local := k'
        rcases L.free _ (PySem.mem_of_lookup k) rfl with k2 | k2 <;> rw [show X.env.scope.names.lookup y = _ from k2] at k' <;> cases k'
      · rw [c1] at e'
        cases e'
        exact cellK (I.freeC y _ c1) z
  · obtain ⟨w', z⟩ := I.cell y c (up e)
    exact ⟨w', cellK (I.freeC y c (up e)) z⟩
  · obtain ⟨v, o, ho, hd⟩ := I.cell y c (up e)
    exact un.free c o ho (I.freeC y c (up e)) (by simp)
/-- x(), in the def that got the lambda; what is raised is wished for at its slots -/
theorem pe_actW {CXg : CXT} {Eg : XK} {Ng : List Str} {qg : Str} {sg : Scope} {g f c' : Addr} {cdg dV doc pm ctv : Value} {params : Arguments} {body : Expr} {scope : Scope} {D : List (Addr × Obj)} {k i : Nat} {a : Str} {pn : List (Addr × Obj)} {xe : Value → Shared → Prop} {W : WX} {tb : XK → TE} {p1 p2 : Pos}
    (I : Inv X pins σ H s) (L : LamD X.N X.env.scope scope) (M : Made X H s params body scope f c' dV doc pm ctv D)
    (tk : Takes ((cxOf CXg X.prog X.w X.K X.mg X.base Ng qg sg g cdg X.A X.stack s H Eg).tr pn xe) W) (hr : Room (k + 1) (X.A.deeper (envOfC qg sg s.heap.objs.size g cdg)))
    (hbody : ∀ (A : Around) (outer : List Env) (s : Shared) (H : Hp) (E : XK), Room k (A.deeper (lamEnv X scope s.heap.objs.size f c')) → PE (lamCx X A outer s H E scope f c') body (tb E))
    (hN : Ng[i]? = some a) (hv : Vis sg a) (hd : (a == ("__debug__" : Str)) = false := by decide) (hcd : (a == ("__classdict__" : Str)) = false := by decide) :
    PE ((cxOf CXg X.prog X.w X.K X.mg X.base Ng qg sg g cdg X.A X.stack s H Eg).tr pn xe) (.Call (.Name a p1) [] [] p2)
      (fun σZ HZ Q => σZ[i]? = some (some (.ref f)) ∧ HZ c' = some (CodeO c' (X.env.qual ++ "<lambda>")) ∧ ∃ E : XK, (∀ cls d H', E cls d H' → W cls d σZ H') ∧ tb E σ HZ Q) := by
  refine ⟨fun pinsZ sZ σZ HZ Q IZ h => ?_⟩
  obtain ⟨hs, hc, E, hW, ht⟩ := h
  refine wpAny_Call_Name_kw (thn ((pe_var (pos := p1) (i := i) hN hv hd hcd).run pinsZ sZ σZ HZ (fun v H1 => v = .ref f ∧ H1 = HZ) IZ ⟨.ref f, hs, rfl, rfl⟩) fun u s1 hh => ?_)
  obtain ⟨v, H1, I1, r1, ev, eH⟩ := hh
  subst ev
  rw [eH] at I1
  obtain rfl : u = Value.ref f := r1
  have un : Un (frs X.stack) [] H HZ s.heap s1.heap := I1.base
  have stay : ∀ p ∈ D, s1.heap.get? p.1 = some p.2 := fun p hp => un.keep _ _ (M.there p hp).1 (M.there p hp).2.1 (M.there p hp).2.2 (by simp)
  have of1 := stay _ M.at_
  refine PySem.W.callWith_F0 ⟨_, _, _, _, of1⟩ ?_
  obtain ⟨⟨oc, vs, t, hoc, hdc, hvc⟩, _, _⟩ := I1.hok c' _ hc
  obtain ⟨bs, hbind, hloc⟩ := M.binds
  have rc : codeAny (model X.prog X.w) (X.A.deeper (envOfC qg sg s.heap.objs.size g cdg)) (.call (.ref f) ⟨[], []⟩) (CR (L2.CX X.prog X.w) (envOfC qg sg s.heap.objs.size g cdg :: X.stack) X.prog X.w HZ s1 Q E) s1 := by
    refine PySem.W.kla_callFunE hr.depth of1 rfl L.co L.gen rfl ⟨c', oc, vs, t, rfl, hoc, hdc, hvc⟩ (hbind s1 stay _ _ _ _ ?_)
    refine wpAny_newFunctionEnv (fun y hy => (L.own y hy).1) hloc (fun h1 hns hsb => ⟨I1.nolimit.fresh _ hsb, ?_⟩) L.kind
    show codeAny _ _ (.expr body (lamEnv X scope s1.heap.objs.size f c')) _ _
    have kp : ∀ b o, s1.heap.get? b = some o → h1.get? b = some o := fun b o e => hsb.extBut b o (Nat.ne_of_lt (Heap.lt_size e)) (Heap.get?_push_of_some _ e)
    have J : Inv (lamCx X (X.A.deeper (envOfC qg sg s.heap.objs.size g cdg)) (envOfC qg sg s.heap.objs.size g cdg :: X.stack) s1 HZ E scope f c') [] σ HZ { s1 with heap := h1, toks := s1.toks + bs.length } :=
      lamW_start I L I1.env0 hr.hd un hns kp
    refine PySem.W.kla_codeExpr (wpAny_mono ((hbody _ _ s1 HZ E (hr.deeper _)).run [] _ _ HZ Q J ht) (fun v s' hq => ?_) fun e s' hq => hq)
    obtain ⟨w', H', J', rv, q⟩ := hq
    exact ⟨w', H', J'.os, J'.bare, J'.base, J'.hok, rv, q⟩
  refine wpAny_call (codeAny_mono rc fun r s' hq => ?_)
  match r, hq with
  | .error e, hq => exact tk e s' (XE.of_call I1 hW hq)
  | .ok (.ret u), hq => exact I1.after hq
  | .ok .next, hq => exact hq.elim
  | .ok .brk, hq => exact hq.elim
  | .ok .cont, hq => exact hq.elim
end
/-- how a lambda is made here -/
def MkLam (X : Cx) (T : List (Addr × Str)) (params : Arguments) (body : Expr) (scope : Scope) (lpos : Pos) : Prop :=
  ∀ (pins : List (Addr × Obj)) (σ : L2.St) (H : Hp) (s : Shared) (Q : Value → Shared → Prop), Inv X pins σ H s → Tabs T H →
    (∀ (f c' : Addr) (dV doc pm ctv : Value) (D : List (Addr × Obj)) (H1 : Hp) (s' : Shared), Inv X pins σ H1 s' → ExtN H H1 → Tabs T H1 → Made X H1 s' params body scope f c' dV doc pm ctv D → Q (.ref f) s') →
    wpAny (model X.prog X.w) X.A (eval (.Lambda params body scope lpos) X.env) Q X.xe s
/-- the def that calls what it got: a calls it; TT: what it makes of the lambda's reading -/
def Gives (X : Cx) (Ng : List Str) (x : Str) (sg : Scope) (g : Addr) (cdg : Value) (bg : List Stmt) (a : Str) (q : Str) (TT : (XK → Hp → VK → Prop) → Hp → VK → Prop) : Prop :=
  ∀ (f c' : Addr) (s : Shared) (H : Hp) (Q : VK) (tl : XK → Hp → VK → Prop), Room 1 (X.A.deeper (envOfC x sg s.heap.objs.size g cdg)) →
    (∀ (W : WX) (pn : List (Addr × Obj)) (xe : Value → Shared → Prop) (p1 p2 : Pos), Takes ((cxOf CX0 X.prog X.w X.K X.mg X.base Ng x sg g cdg X.A X.stack s H E0).tr pn xe) W →
      PE ((cxOf CX0 X.prog X.w X.K X.mg X.base Ng x sg g cdg X.A X.stack s H E0).tr pn xe) (.Call (.Name a p1) [] [] p2) (fun σZ HZ Q => σZ[0]? = some (some (.ref f)) ∧ HZ c' = some (CodeO c' q) ∧ ∃ E : XK, (∀ cls d H', E cls d H' → W cls d σZ H') ∧ tl E HZ Q)) →
    H c' = some (CodeO c' q) → TT tl H Q →
    ∃ t, PSs (cxOf CX0 X.prog X.w X.K X.mg X.base Ng x sg g cdg X.A X.stack s H E0).nox bg t ∧ t { nx := fun _ H' => Q .non H', rt := Q } (L2.start Ng [.ref f]) H
section
variable {X : Cx}
/-- x(lambda: body) -/
theorem pe_outc {T : List (Addr × Str)} {TT : (XK → Hp → VK → Prop) → Hp → VK → Prop} {x a : Str} {g : Addr} {k : Nat} {st : Stmt} {fd : FuncData} {Ng : List Str} {cdg : Value}
    {params : Arguments} {body : Expr} {scope : Scope} {t : XK → TE} {p lpos pos : Pos} (hg : Gl X x) (hm : X.mg x = some (.ref g)) (hk : PySem.W.keepIn X.K (.ref g) = true) (F : Fun X.K x x st g fd) (hcd : fd.code = cdg) (hb : L2.Binds X.K fd [a] []) (Sg : FnScope Ng [a] (defScope st)) (hNg : Ng[0]? = some a) (hva : Vis (defScope st) a)
    (hG : Gives X Ng x (defScope st) g cdg (defBody st) a (X.env.qual ++ "<lambda>") TT) (ML : MkLam X T params body scope lpos) (hr : Room (k + 2) X.A) (L : LamD X.N X.env.scope scope)
    (hbody : ∀ (A : Around) (outer : List Env) (s : Shared) (H : Hp) (E : XK) (f c' : Addr), Room k (A.deeper (lamEnv X scope s.heap.objs.size f c')) → PE (lamCx X A outer s H E scope f c') body (t E))
    (hdb : (x == ("__debug__" : Str)) = false := by decide) (hd : (a == ("__debug__" : Str)) = false := by decide) (hcc : (a == ("__classdict__" : Str)) = false := by decide) :
    PE X (.Call (.Name x p) [.Lambda params body scope lpos] [] pos) (tLam T TT t) := by
  refine ⟨fun pins s σ H Q I h => ?_⟩
  obtain ⟨hT, h⟩ := h
  obtain ⟨oc, od, kV, doc0, pm0, an, cdv, ct, osl, rfl, lk, hcg⟩ := F.ex
  obtain rfl : cdv = cdg := hcd
  refine wpAny_Call_Name_kw (ld_glob I hg hm ?_ hdb)
  refine PySem.W.callWith_K (h₀ := X.base) I.ok.mod.kin hk ?_ (by rfl) (by rfl)
  show wpAny _ _ (spliced ((false, eval (.Lambda params body scope lpos) X.env) :: backTo pos (starEach [] X.env))) _ _ s
  refine Calls.spliced_cons (ML pins σ H s _ I hT fun f c' dV doc pm ctv D H1 s' I1 eN T1 M => ?_)
  refine Calls.spliced_nil ⟨I1.kIn, ?_⟩
  have rc : codeAny (model X.prog X.w) X.A (.call (.ref g) ⟨[.ref f], []⟩) (CR CX0 X.stack X.prog X.w H1 s' Q E0) s' := by
    refine run_ofS (N := Ng) (ps := [a]) (us := [.ref f]) (vs := [.ref f]) lk hcg Sg hr I1.env0 (hb s' [.ref f] I1.kIn rfl) (.cons rfl .nil) rfl fun hr' => ?_
    obtain ⟨t', ht', hq'⟩ := hG f c' s' H1 Q (fun E H' Q' => t E σ H' Q') (hr'.mono (by omega)) (fun W pn xe p1 p2 tk => pe_actW (i := 0) I1 L M tk hr' (fun A outer s H E hr2 => hbody A outer s H E f c' hr2) hNg hva hd hcc) M.code (h H1 eN T1)
    exact ⟨t', ht'.nox, hq'⟩
  refine wpAny_call (codeAny_mono rc fun r s2 hq => ?_)
  match r, hq with
  | .error e, hq => exact (show False from hq).elim
  | .ok (.ret u), hq => exact I1.after hq
  | .ok .next, hq => exact hq.elim
  | .ok .brk, hq => exact hq.elim
  | .ok .cont, hq => exact hq.elim
end
end Wn
/-! a law whose defs make lambdas: the end, by the tables of their code -/
namespace Wn
open PySem PySem.Spec PyProof.Rows L2 LamX
/-- a def by its body, its code told -/
theorem fnGc {P : Program} {w : World} {K : PySem.W.Frag} {mg : Str → Option Value} {base : Heap} {CX : CXT} {k : Nat} {f : Addr} {fd : FuncData} {ps : List Str} {sp : Sp} {x qual : Str} {st : Stmt} {N : List Str} (F : Fun K x qual st f fd) (S : FnScope N ps (defScope st)) (sz : ∀ vs H Q E, sp vs H Q E → vs.length = ps.length)
    (body : ∀ (cdv : Value) (A : Around) (outer : List Env) (s : Shared) (H : Hp) (vs : List V) (Q : VK) (E : XK), fd.code = cdv → (A.deeper (envOfC qual (defScope st) s.heap.objs.size f cdv)).guards = some [] →
      Room k (A.deeper (envOfC qual (defScope st) s.heap.objs.size f cdv)) → sp vs H Q E →
      ∃ t, PSs (cxOf CX P w K mg base N qual (defScope st) f cdv A outer s H E) (defBody st) t ∧ t { nx := fun _ H' => Q .non H', rt := Q } (L2.start N vs) H) : FnG P w K mg base CX (k + 1) f fd ps sp := by
  obtain ⟨oc, od, kV, doc, pm, an, cdv, ct, osl, rfl, lk, hcd⟩ := F.ex
  refine ⟨sz, fun A hgd hr outer s H args us vs Q E e0 hb r h => ?_⟩
  have KI : K.In s.heap := e0.mod.kin.keeps fun b o e => (e0.bs b o e).1
  have NL : s.heap.NoLimit := e0.mod.nolimit.keeps fun b o e => (e0.bs b o e).1
  refine codeAny_call_function hr.depth (KI _ _ lk) rfl S.co S.gen rfl (PySem.W.codeRec_of KI hcd) (hb _ _ _ _ ?_)
  refine wpAny_newFunctionEnv_cells S.kind (fun y hy => ?_) fun env he s1 x => ?_
  · obtain ⟨n, v⟩ := y
    rcases S.par n (List.of_mem_zip hy).1 with q | q
    · exact .inl q
    · exact .inr ⟨q, PySem.W.cellsFrom_some _ _ _ (.inl q)⟩
  · subst he
    refine ⟨NL.keeps x.toInCall.keep, codeAny_func ?_⟩
    obtain ⟨t, ht, hq⟩ := body cdv A outer s H vs Q E rfl hgd (hr.deeper _) h
    refine wpAny_mono (ht.run [] s1 _ H _ (inv_start S hr.hd e0 (sz _ _ _ _ h) r x) hq) (fun fl s' z => ?_) fun e s' z => z
    cases fl with
    | ret u =>
      obtain ⟨v, σ', H', J, rv, q⟩ := z
      exact ⟨v, H', J.os, J.bare, J.base, J.hok, rv, q⟩
    | next =>
      obtain ⟨σ', H', J, q⟩ := z
      exact ⟨.non, H', J.os, J.bare, J.base, J.hok, rfl, q⟩
    | brk =>
      obtain ⟨_, _, _, q⟩ := z
      exact q.elim
    | cont =>
      obtain ⟨_, _, _, q⟩ := z
      exact q.elim
theorem fnGc0 {P : Program} {w : World} {K : PySem.W.Frag} {mg : Str → Option Value} {base : Heap} {k : Nat} {f : Addr} {fd : FuncData} {ps : List Str} {sp : Sp} {x qual : Str} {st : Stmt} {N : List Str} (F : Fun K x qual st f fd) (S : FnScope N ps (defScope st)) (sz : ∀ vs H Q E, sp vs H Q E → vs.length = ps.length)
    (body : ∀ (cdv : Value) (A : Around) (outer : List Env) (s : Shared) (H : Hp) (vs : List V) (Q : VK) (E : XK), fd.code = cdv → (A.deeper (envOfC qual (defScope st) s.heap.objs.size f cdv)).guards = some [] →
      Room k (A.deeper (envOfC qual (defScope st) s.heap.objs.size f cdv)) → sp vs H Q E →
      ∃ t, PSs (cxOf CX0 P w K mg base N qual (defScope st) f cdv A outer s H E).nox (defBody st) t ∧ t { nx := fun _ H' => Q .non H', rt := Q } (L2.start N vs) H) : FnG P w K mg base CX0 (k + 1) f fd ps sp :=
  fnGc F S sz fun cdv A outer s H vs Q E hc g r h => let ⟨t, ht, q⟩ := body cdv A outer s H vs Q E hc g r h; ⟨t, ht.nox, q⟩
/-- the law's call; cs: the code objects and their tables -/
theorem law_callGT {P : Program} {w : World} {K : PySem.W.Frag} {mg mb : Str → Option Value} {CX : CXT} {k : Nat} {fa a : Addr} {cs : List (Addr × Addr)} {fd : FuncData} {x : Str} {sp : Sp} {s1 : Shared} {vs : List Value} {ns : List Int}
    (KX : K.In s1.heap) (hns : s1.heap.Ns mainGlobals mg) (hb : s1.heap.Ns builtinsNs mb) (hbb : ∀ x : Str, x ≠ "__name__" → mb x = bootBuiltins x) (hlim : s1.heap.NoLimit) (hg : s1.gens = #[])
    (hT : ∀ p ∈ cs, s1.heap.get? p.2 = some { cls := .none, data := .fields #[] }) (nT : ∀ p ∈ cs, K.lookup p.2 = none) (C : ∀ p ∈ cs, PySem.W.CodeHd s1.heap p.1 p.2)
    (hbm : ∃ (bm : Addr) (ob : Obj), mg "__builtins__" = some (.ref bm) ∧ bm ≠ builtinsNs ∧ s1.heap.get? bm = some ob ∧ ob.cls = .type "module" ∧ ob.dict = some builtinsNs ∧ ob.data = .plain)
    (ha : s1.heap.get? a = some { cls := .type "list", data := .seq vs.toArray }) (hi : IntsAre vs ns) (hl : ns.length ≤ sizeLine) (hr : Room k callerA)
    (F : ∀ base : Heap, K.In base → base.Ns mainGlobals mg → (∀ p ∈ cs, TabB base mg p.1 p.2) → FnG P w K mg base CX k fa fd [x] sp) (hbind : ∀ (s : Shared) (u : Value), BindsTo s fd ⟨[u], []⟩ [(x, u)])
    (hsp : ∀ H : Hp, (∀ p ∈ cs, H p.2 = some (.tbl #[])) → SqL K H a (ns.map V.int) → sp [.ref a] H (fun v _ => v = .bl true) fun _ _ _ => False)
    (hCX : ∀ H e s', CX [] H s1 (fun _ _ _ => False) e s' → False) :
    codeAny (model P w) callerA (.call (.ref fa) ⟨[.ref a], []⟩) (fun r s' => r = .ok (.ret (.bool true)) ∧ OldK s1.heap s'.heap ∧ s'.os = s1.os ∧ AllBare s'.gens) s1 := by
  obtain ⟨ts, hts⟩ : ∃ ts, ts = cs.map (·.2) := ⟨_, rfl⟩
  have inT : ∀ {p : Addr × Addr}, p ∈ cs → p.2 ∈ ts := fun hp => by
    rw [hts]
    exact List.mem_map.mpr ⟨_, hp, rfl⟩
  have outT : ∀ {b : Addr}, b ∈ ts → s1.heap.get? b = some { cls := .none, data := .fields #[] } ∧ K.lookup b = none := fun hb => by
    rw [hts] at hb
    obtain ⟨p, hp, e⟩ := List.mem_map.mp hb
    rw [← e]
    exact ⟨hT p hp, nT p hp⟩
  have na : a ∉ ts := fun z => by
    have q := (outT z).1
    rw [ha] at q
    cases q
  obtain ⟨H, hH⟩ : ∃ H : Hp, H = fun b => if b ∈ ts then some (.tbl #[]) else if b = a ∧ K.lookup a = none then some (.frz { cls := .type "list", data := .seq vs.toArray } (.lst (ns.map V.int))) else none := ⟨_, rfl⟩
  have at_ : ∀ b u, H b = some u → (b ∈ ts ∧ u = .tbl #[]) ∨ (b = a ∧ K.lookup a = none ∧ u = .frz { cls := .type "list", data := .seq vs.toArray } (.lst (ns.map V.int))) := fun b u z => by
    rw [hH] at z
    dsimp only at z
    split at z
    · rename_i c
      exact .inl ⟨c, (Option.some.inj z).symm⟩
    · split at z
      · rename_i c
        exact .inr ⟨c.1, c.2, (Option.some.inj z).symm⟩
      · cases z
  have off : ∀ b o, s1.heap.get? b = some o → (∀ n, o.data ≠ .seq vs.toArray n) → o.data ≠ .fields #[] → H b = none := fun b o e d d2 => by
    cases z : H b with
    | none => rfl
    | some u =>
      rcases at_ b u z with ⟨w1, _⟩ | ⟨rfl, _, _⟩
      · rw [(outT w1).1] at e
        cases e
        exact absurd rfl d2
      · rw [ha] at e
        cases e
        exact absurd rfl (d _)
  have kb : ∀ b o, K.lookup b = some o → H b = none := fun b o e => by
    cases z : H b with
    | none => rfl
    | some u =>
      rcases at_ b u z with ⟨w1, _⟩ | ⟨rfl, z2, _⟩
      · rw [(outT w1).2] at e
        cases e
      · rw [z2] at e
        cases e
  have ok : HOk P w H s1.heap := fun b u z => by
    rcases at_ b u z with ⟨w1, rfl⟩ | ⟨rfl, _, rfl⟩
    · exact (outT w1).1
    · exact ⟨ha, by rw [List.length_map]; exact hl, vs, _, vals_ints hi, ha⟩
  have sq : SqL K H a (ns.map V.int) := by
    cases z : K.lookup a with
    | none =>
      refine .inl (.inr ⟨{ cls := .type "list", data := .seq vs.toArray }, ?_⟩)
      rw [hH]
      dsimp only
      rw [if_neg na]
      exact if_pos ⟨rfl, z⟩
    | some o =>
      have e := KX a o z
      rw [ha] at e
      cases e
      exact .inr ⟨_, vs.toArray, _, z, rfl, rfl, rfl, by rw [List.size_toArray, hi.length]; exact hl, by simpa using vals_ints hi⟩
  have tabs : ∀ p ∈ cs, H p.2 = some (.tbl #[]) := fun p hp => by
    rw [hH]
    exact if_pos (inT hp)
  have nsB : ∀ {b : Addr} {m : Str → Option Value}, s1.heap.Ns b m → (hidT s1.heap H).Ns b m := fun {b m} ⟨o, es, ep, e, d, r⟩ => ⟨o, es, ep, hidT_get e (off b o e (fun n z => by rw [d] at z; cases z) fun z => by rw [d] at z; cases z), d, r⟩
  have KB : K.In (hidT s1.heap H) := fun b o e => hidT_get (KX b o e) (kb b o e)
  have M : Mod K mg (hidT s1.heap H) := ⟨KB, nsB hns, ⟨mb, nsB hb, hbb⟩, let ⟨mc, h1, h2⟩ := hlim; ⟨mc, nsB h1, h2⟩⟩
  have TB : ∀ p ∈ cs, TabB (hidT s1.heap H) mg p.1 p.2 := fun p hp => by
    have g0 := hT p hp
    refine ⟨?_, ?_, fun z => ?_⟩
    · obtain ⟨o, us, file, tf, flags, tg, inF, text, tt, e1, r1, r2, r3, r⟩ := C p hp
      refine ⟨o, us, file, tf, flags, tg, inF, text, tt, hidT_get e1 (off _ _ e1 (fun n z => ?_) fun z => ?_), r1, r2, r3, r⟩
      · rw [r2] at z
        cases z
      · rw [r2] at z
        cases z
        simp at r3
    · obtain ⟨bm, ob, b1, b2, b3, b4, b5, b6⟩ := hbm
      have nG : bm ≠ mainGlobals := fun q => by
        obtain ⟨o, es, ep, e, hd, _⟩ := hns
        rw [q, e] at b3
        cases b3
        rw [hd] at b6
        cases b6
      have nP : bm ≠ p.2 := fun q => by
        rw [q, g0] at b3
        cases b3
        cases b6
      exact ⟨bm, ob, b1, b2, nG, nP, hidT_get b3 (off _ _ b3 (fun n z => by rw [b6] at z; cases z) fun z => by rw [b6] at z; cases z), b4, b5, b6⟩
    · obtain ⟨o, es, ep, e, hd, _⟩ := hns
      rw [z, g0] at e
      cases e
      cases hd
  have env : Env0 P w K mg (hidT s1.heap H) callerA [] s1 H := ⟨rfl, M, fun b o e => of_hidT e, Nat.le_of_eq (hidT_size _ _), trivial, fun b z => absurd (show b ∈ ([] : List Addr) from z) (by simp), ok, .of_eq hg⟩
  refine codeAny_mono ((F _ KB (nsB hns) TB).go callerA rfl hr [] s1 H ⟨[.ref a], []⟩ [.ref a] [.ref a] _ _ env (hbind s1 (.ref a)) (.cons rfl .nil) (hsp H tabs sq)) fun r s' z => ?_
  match r, z with
  | .error e, z => exact (hCX H e s' z).elim
  | .ok .next, z => exact z.elim
  | .ok .brk, z => exact z.elim
  | .ok .cont, z => exact z.elim
  | .ok (.ret u), z =>
    obtain ⟨v, H', os, bare, un, ok', rv, q⟩ := z
    obtain rfl : v = .bl true := q
    obtain rfl : u = Value.bool true := rv
    have grown : ∀ p ∈ cs, ∃ more : Array Value, s'.heap.get? p.2 = some { cls := .none, data := .fields more } := fun p hp => by
      obtain ⟨more, z⟩ := un.tbls p.2 #[] (tabs p hp)
      exact ⟨_, ok' p.2 _ z⟩
    have same : ∀ b o, b ∉ ts → s1.heap.get? b = some o → s'.heap.get? b = some o := fun b o nb e => by
      cases y : H b with
      | none => exact un.keep b o e y (fun c => absurd (show b ∈ ([] : List Addr) from c) (by simp)) (by simp)
      | some u =>
        rcases at_ b u y with ⟨w1, _⟩ | ⟨rfl, _, rfl⟩
        · exact absurd w1 nb
        · rw [ha] at e
          cases e
          exact (ok' _ _ (un.frzs _ _ _ y)).1
    refine ⟨rfl, ⟨fun b o e => ?_, fun b o e => ?_⟩, os, bare⟩
    · by_cases w1 : b ∈ ts
      · have w2 := w1
        rw [hts] at w2
        obtain ⟨p, hp, ep⟩ := List.mem_map.mp w2
        obtain ⟨more, hm⟩ := grown p hp
        rw [← ep] at e ⊢
        rw [hT p hp] at e
        cases e
        exact .inr (.inl ⟨((C p hp).tab (hT p hp)).isCodeTable, rfl, #[], more, rfl, by rw [Array.empty_append]; exact hm⟩)
      · exact .inl (same b o w1 e)
    · by_cases w1 : b ∈ ts
      · rw [hts] at w1
        obtain ⟨p, hp, ep⟩ := List.mem_map.mp w1
        obtain ⟨more, hm⟩ := grown p hp
        rw [← ep]
        exact ⟨_, hm⟩
      · exact ⟨o, same b o w1 e⟩
theorem walkGT {l : PySem.W.OpenLaw} {n k : Nat} {q : Program} {loose : List Str} {XP : (Str → Option Value) → Heap → Prop} {YP : World → Heap → Prop} {d : DefRec} {K : Params → PySem.W.Frag} {x : Str} {xs : List Str}
    (hn : l.most = some n) (hn2 : n ≤ sizeLine) (hdf : d.params.defaults = []) (hr : Room k callerA) (hxs : xs.all (fun y => ((recsOf q).find? fun e => e.name == y).isSome) = true) (hY : ∀ (w : World) (h : Heap), YP w h → (K w.params).In h)
    (F : ∀ (w : World) (mg : Str → Option Value) (fa : Addr) (h : Heap), (K w.params).In h → h.Ns mainGlobals mg → mg d.name = some (.ref fa) →
      ∃ (fd : FuncData) (cs : List (Addr × Addr)) (sp : Sp), (∀ p ∈ cs, (∃ y ∈ xs, PySem.W.tabIn (K w.params) y = some p) ∧ (K w.params).lookup p.2 = none) ∧ (∀ (s : Shared) (u : Value), BindsTo s fd ⟨[u], []⟩ [(x, u)]) ∧
        (∀ (H : Hp) (a : Addr) (ns : List Int), ns.length ≤ n → (∀ p ∈ cs, H p.2 = some (.tbl #[])) → SqL (K w.params) H a (ns.map V.int) → sp [.ref a] H (fun v _ => v = .bl true) fun _ _ _ => False) ∧
        ∀ base : Heap, (K w.params).In base → base.Ns mainGlobals mg → (∀ p ∈ cs, TabB base mg p.1 p.2) → FnG l.prog w (K w.params) mg base CX0 k fa fd [x] sp) :
    PySem.W.WalkO q loose XP YP l.row.toRowW d [] (fun f vs => PySem.call f vs) :=
  Att.attach_call hn hdf fun w s0 s1 mg mb fa o pm cd doc a vs ns G Y ho hd hcd hmg hobj hints hlen hg => by
    have KX := hY w _ Y
    obtain ⟨fd, cs, sp, hc, hb, hsp, hF⟩ := F w mg fa _ KX G.T.g hmg
    have tab : ∀ p ∈ cs, PySem.W.CodeHd s1.heap p.1 p.2 ∧ s1.heap.get? p.2 = some { cls := .none, data := .fields #[] } := fun p hp => by
      obtain ⟨⟨y, hy, e⟩, _⟩ := hc p hp
      have z := List.all_eq_true.mp hxs y hy
      obtain ⟨d2, e2⟩ := Option.isSome_iff_exists.mp z
      exact PySem.W.tab_of G.T KX e2 e
    exact law_callGT KX G.T.g G.T.b G.T.builtins G.T.nolimit hg (fun p hp => (tab p hp).2) (fun p hp => (hc p hp).2) (fun p hp => (tab p hp).1) G.T.bmain hobj hints (Nat.le_trans hlen hn2) hr hF hb (fun H hT hS => hsp H a ns hlen hT hS) fun H e s' z => z
end Wn
/-! C(e) for an error whose __init__ keeps e in its one field; raise C(e) -/
namespace Wn
open PySem PySem.Spec PyProof.Rows L2
def spInit (C : Addr) (f : Str) : Sp := fun vs H Q _ => ∃ (a : Addr) (v : V), vs = [.ref a, v] ∧ H a = some (exo a C none) ∧ ∀ d, H d = none → d ≠ a → Q .non (upd (upd H d (exd d [(f, v)])) a (exo a C (some d)))
section
variable {X : Cx} {o e : Expr} {to te : TE} {f x : Str} {p p' p1 p2 pos : Pos} {C fI W : Addr} {B newId initId : String} {bmB : List Value} {mc : Value} {wn : Str}
theorem ps_ostE (T : ErrC X.K C fI f B newId initId bmB) (ho : PE X o to) (he : PE X e te) (hs : swapsWith e (some (.Attribute o f p')) pos.line X.env = pure false := by rfl) : PS X (.Assign [.Attribute o f p'] e pos) (tOstE X.K C f to te) := by
  refine ⟨fun pins s σ H D I h => plainObj_wpAny_Assign_Attribute (thn (he.run pins s σ H _ I h) fun v s1 z1 => ?_) hs⟩
  obtain ⟨y, H1, I1, r1, q1⟩ := z1
  refine thn (ho.run pins s1 σ H1 _ I1 q1) fun u s2 z2 => ?_
  obtain ⟨w, H2, I2, r2, a, ew, ea, q⟩ := z2
  subst ew
  obtain rfl : u = Value.ref a := r2
  exact ostE T I2 ea r1 fun dx s' n ne J => ⟨σ, _, J, q dx n ne⟩
/-- the built-in class's own name -/
theorem pe_initB {es : List Expr} {ta : TA} {pl : Sem Bool} (T : ErrC X.K C fI f B newId initId bmB) (hg : Gl X wn) (hm : X.mg wn = none) (hv : bootBuiltins wn = some (.type B)) (hnn : wn ≠ "__name__") (hdb : (wn == ("__debug__" : Str)) = false) (ty : typeOf (.type B) = pure (.type "type")) (stub : Manifest.isStub B = false)
    (at_ : PySem.W.findCls X.K (.type B) (.type "type") "__init__" = some (.val (.builtin initId))) (hh : PySem.W.handedIn (.builtin initId) = true) (ha : PA X (e :: es) ta)
    (hc : eval (.Call (.Attribute (.Name wn p1) "__init__" p2) (e :: es) [] pos) X.env = (do
      let ov ← eval (.Name wn p1) X.env
      standAt p2.atName
      let (f, first) ← holding [ov] (getMethod ov "__init__" pl)
      callWith pos f first (backTo pos (starEach (e :: es) X.env)) (backToKw pos (keywordEach [] X.env))) := by rfl)
    (he : starEach (e :: es) X.env = (false, eval e X.env) :: starEach es X.env := by rfl) (hpl : (backTo pos (starEach es X.env)).any (·.1) = false := by rfl) :
    PE X (.Call (.Attribute (.Name wn p1) "__init__" p2) (e :: es) [] pos) (tInitE X.K C ta) := by
  refine ⟨fun pins s σ H Q I h => ?_⟩
  refine PySem.W.methodCall_KW (ld_blt I hg hm hv ?_ hnn hdb) hc
  obtain ⟨m, fr⟩ := I.fr
  refine PySem.W.method_type fr I.ok.mod.kin ty stub at_ hh ?_
  show wpAny _ _ (callWith pos (Value.builtin initId) [] (backTo pos (starEach (e :: es) X.env)) []) _ _ _
  exact call_initE (pl := pl) T ha (I.tok _) h he hpl
end
/-- what such a making asks, once its one value is there -/
theorem mk1_go {C : Addr} {f : Str} {v : V} {H1 : Hp} {Q : XK} (h : ∀ d, H1 d = none → Q (.ref C) (some d) (upd H1 d (.xd [(f, v)]))) :
    [v].length ≤ 1000 ∧ ∀ a, H1 a = none → spInit C f (.ref a :: ([v] ++ [])) (upd H1 a (exo a C none))
      (fun u H2 => u = .non ∧ ∃ (d : Addr) (fs : List (Str × V)), H2 a = some (exo a C (some d)) ∧ H2 d = some (exd d fs) ∧ H1 d = none ∧ Q (.ref C) (some d) (upd (del H2 a) d (.xd fs))) (fun _ _ _ => False) := by
  refine ⟨by show 1 ≤ 1000; decide, fun a na => ⟨a, v, rfl, upd_same, fun d nd da => ?_⟩⟩
  have nd1 : H1 d = none := by
    rw [upd_ne da] at nd
    exact nd
  refine ⟨rfl, d, [(f, v)], upd_same, ?_, nd1, ?_⟩
  · rw [upd_ne da, upd_same]
  · have e1 : upd (del (upd (upd (upd H1 a (exo a C none)) d (exd d [(f, v)])) a (exo a C (some d))) a) d (.xd [(f, v)]) = upd H1 d (.xd [(f, v)]) := by
      funext b
      by_cases hb : b = d
      · rw [hb, upd_same, upd_same]
      · rw [upd_ne hb, upd_ne hb]
        by_cases ha : b = a
        · rw [ha, del_same, na]
        · rw [del_ne ha, upd_ne ha, upd_ne hb, upd_ne ha]
    rw [e1]
    exact h d nd1
end Wn
/-! what gives data, where lambdas are made on the way: all but the tables of code stays -/
namespace Wn
open PySem PySem.Spec PyProof.Rows L2 LamX
theorem extOf {H H' : Hp} (g : Gr [] H H') : ExtN H H' := fun b o h _ => g b o (by simp) h
theorem tabsGr {T : List (Addr × Str)} {H H' : Hp} (t : Tabs T H) (g : Gr [] H H') : Tabs T H' := fun p hp => (t p hp).ext fun b o e => g b o (by simp) e
theorem kpExt {H H' : Hp} (g : ExtN H H') : Kp H H' := ⟨fun a _ e => g a _ e (fun _ z => by cases z), fun a _ e => g a _ e (fun _ z => by cases z), fun a _ _ e => g a _ e (fun _ z => by cases z)⟩
theorem ExtN.lst {H H' : Hp} {a : Addr} {xs : List V} (g : ExtN H H') (h : H a = some (.lst xs)) : H' a = some (.lst xs) := g a _ h (fun _ z => by cases z)
theorem ExtN.tup {H H' : Hp} {a : Addr} {xs : List V} (g : ExtN H H') (h : H a = some (.tup xs)) : H' a = some (.tup xs) := g a _ h (fun _ z => by cases z)
theorem ExtN.dK {H H' : Hp} {a : Addr} {xs : List (Key × V)} (g : ExtN H H') (h : H a = some (.dK xs)) : H' a = some (.dK xs) := g a _ h (fun _ z => by cases z)
/-- what an error's outcome is: class, field, word -/
def TTg (es : List (Addr × Str × Str)) : (XK → Hp → VK → Prop) → Hp → VK → Prop := fun tl H Q =>
  ∀ (H2 : Hp) (Qn : VK) (E : XK), Gr [] H H2 → (∀ v H3, (∀ p, H3 p = none → Q (.ref p) (upd H3 p (.lst [v]))) → Qn v H3) →
    (∀ (C d : Addr) (f w : Str) (v : V) (H3 : Hp), (C, f, w) ∈ es → H3 d = some (.xd [(f, v)]) → (∀ t H4, Gr [] H3 H4 → H4 t = some (.tup [.str w, v]) → Q (.ref t) H4) → E (.ref C) (some d) H3) → tl E H2 Qn
section
variable {K : PySem.W.Frag} {T : List (Addr × Str)} {σ : L2.St} {H : Hp}
def EvT (K : PySem.W.Frag) (T : List (Addr × Str)) (te : TE) (σ : L2.St) (H : Hp) (d : PyData) : Prop := ∀ H1, ExtN H H1 → Tabs T H1 → ∀ Q : VK, (∀ v H2, ExtN H1 H2 → Tabs T H2 → Dp K H2 v d → Q v H2) → te σ H1 Q
def EvTS (K : PySem.W.Frag) (T : List (Addr × Str)) (ta : TA) (σ : L2.St) (H : Hp) (ds : List PyData) : Prop := ∀ H1, ExtN H H1 → Tabs T H1 → ∀ Q : List V → Hp → Prop, (∀ vs H2, ExtN H1 H2 → Tabs T H2 → DpAll K H2 vs ds → Q vs H2) → ta σ H1 Q
def EvTL (K : PySem.W.Frag) (T : List (Addr × Str)) (te : TE) (σ : L2.St) (H : Hp) (ds : List PyData) : Prop := ∀ H1, ExtN H H1 → Tabs T H1 → ∀ Q : VK, (∀ p xs H2, ExtN H1 H2 → Tabs T H2 → H2 p = some (.lst xs) → DpAll K H2 xs ds → Q (.ref p) H2) → te σ H1 Q
theorem EvTL.d {te : TE} {ds : List PyData} (h : EvTL K T te σ H ds) : EvT K T te σ H (.list ds) := fun H1 g t Q q => h H1 g t Q fun p xs H2 g2 t2 e a => q _ H2 g2 t2 (dp_lst e a)
/-- what makes no lambda, whatever stands -/
theorem et_of {te : TE} {d : PyData} (h : ∀ H, EvD K te σ H d) : EvT K T te σ H d := fun H1 _ t Q q => h H1 H1 (Gr.refl _ _) Q fun v H2 g2 a => q v H2 (extOf g2) (tabsGr t g2) a
theorem el_of {te : TE} {ds : List PyData} (h : ∀ H, EvL K te σ H ds) : EvTL K T te σ H ds := fun H1 _ t Q q => h H1 H1 (Gr.refl _ _) Q fun p xs H2 g2 e a => q p xs H2 (extOf g2) (tabsGr t g2) e a
theorem et_var {i : Nat} {v : V} {d : PyData} (e : σ[i]? = some (some v)) (h : Dp K H v d) : EvT K T (tVar i) σ H d := fun H1 g t Q q => ⟨v, e, q v H1 (ExtN.refl _) t (Dp.kp (kpExt g) h)⟩
theorem etl_var {i : Nat} {p : Addr} {xs : List V} {ds : List PyData} (e : σ[i]? = some (some (.ref p))) (h : H p = some (.lst xs)) (a : DpAll K H xs ds) : EvTL K T (tVar i) σ H ds :=
  fun H1 g t Q q => ⟨_, e, q p xs H1 (ExtN.refl _) t (ExtN.lst g h) (DpAll.kp (kpExt g) a)⟩
theorem ets_nil : EvTS K T tNil σ H [] := fun H1 _ t Q q => q _ H1 (ExtN.refl _) t .nil
theorem ets_cons {te : TE} {ta : TA} {d : PyData} {ds : List PyData} (h : EvT K T te σ H d) (r : EvTS K T ta σ H ds) : EvTS K T (tCons te ta) σ H (d :: ds) := fun H1 g t Q q =>
  h H1 g t _ fun v H2 g2 t2 dv => r H2 (g.trans g2) t2 _ fun vs H3 g3 t3 dvs => q _ H3 (g2.trans g3) t3 (.cons (Dp.kp (kpExt g3) dv) dvs)
theorem et_tup {ta : TA} {ds : List PyData} (h : EvTS K T ta σ H ds) (hz : ds.length ≤ 1000 := by exact Nat.le_of_ble_eq_true rfl) : EvT K T (tTup ta) σ H (.tuple ds) := fun H1 g t Q q =>
  h H1 g t _ fun vs H2 g2 t2 a => ⟨by rw [dpAll_len a]; exact Nat.le_of_lt (small1000 hz), fun p np => q _ _ (g2.trans (extOf (Gr.new np))) (tabsGr t2 (Gr.new np)) (dp_tup upd_same (DpAll.kp (Kp.of (Gr.new np)) a))⟩
theorem etl_lst {ta : TA} {ds : List PyData} (h : EvTS K T ta σ H ds) (hz : ds.length ≤ 1000 := by exact Nat.le_of_ble_eq_true rfl) : EvTL K T (tLst ta) σ H ds := fun H1 g t Q q =>
  h H1 g t _ fun vs H2 g2 t2 a => ⟨by rw [dpAll_len a]; exact Nat.le_of_lt (small1000 hz), fun p np => q _ _ _ (g2.trans (extOf (Gr.new np))) (tabsGr t2 (Gr.new np)) upd_same (DpAll.kp (Kp.of (Gr.new np)) a)⟩
theorem etl_cat {ta tb : TE} {ds es : List PyData} (h1 : EvTL K T ta σ H ds) (h2 : EvTL K T tb σ H es) (hz : ds.length + es.length ≤ 1000 := by exact Nat.le_of_ble_eq_true rfl) : EvTL K T (tOp rCat ta tb) σ H (ds ++ es) := fun H1 g t Q q =>
  h1 H1 g t _ fun p xs H2 g2 t2 e2 a2 => h2 H2 (g.trans g2) t2 _ fun p3 ys H3 g3 t3 e3 a3 => by
    have e2' := ExtN.lst g3 e2
    refine ⟨p, p3, xs, ys, rfl, rfl, e2', e3, by rw [dpAll_len a2, dpAll_len a3]; exact Nat.le_of_lt (small1000 hz), fun p4 np => ?_⟩
    exact q p4 _ _ ((g2.trans g3).trans (extOf (Gr.new np))) (tabsGr t3 (Gr.new np)) upd_same (dpAll_append (DpAll.kp (kpExt (g3.trans (extOf (Gr.new np)))) a2) (DpAll.kp (Kp.of (Gr.new np)) a3))
theorem et_eq {ta tb : TE} {d e : PyData} (h1 : EvT K T ta σ H d) (h2 : EvT K T tb σ H e) (s1 : SeqAt.shaped d = true) (s2 : SeqAt.shaped e = true) : EvT K T (tOp (rEqD K) ta tb) σ H (.bool (PyData.eqv d e)) := fun H1 g t Q q =>
  h1 H1 g t _ fun v H2 g2 t2 a => h2 H2 (g.trans g2) t2 _ fun w H3 g3 t3 b => ⟨d, e, Dp.kp (kpExt g3) a, b, s1, s2, q _ H3 (g2.trans g3) t3 (.bl _)⟩
theorem et_ne {ta tb : TE} {d e : PyData} (h1 : EvT K T ta σ H d) (h2 : EvT K T tb σ H e) (s1 : SeqAt.shaped d = true) (s2 : SeqAt.shaped e = true) : EvT K T (tOp (rNeD K) ta tb) σ H (.bool (!PyData.eqv d e)) := fun H1 g t Q q =>
  h1 H1 g t _ fun v H2 g2 t2 a => h2 H2 (g.trans g2) t2 _ fun w H3 g3 t3 b => ⟨d, e, Dp.kp (kpExt g3) a, b, s1, s2, q _ H3 (g2.trans g3) t3 (.bl _)⟩
/-- what comes of a lambda whose body gives d -/
theorem et_out {es : List (Addr × Str × Str)} {t : XK → TE} {d : PyData} (h : ∀ E H, EvD K (t E) σ H d) : EvT K T (tLam T (TTg es) t) σ H (.list [d]) := fun H1 _ t1 Q q =>
  ⟨t1, fun H2 g2 t2 H3 Qn E g3 kn _ => h E H3 H3 (Gr.refl _ _) Qn fun v H4 g4 a => kn v H4 fun p np =>
    q _ _ (g2.trans (extOf ((g3.trans g4).trans (Gr.new np)))) (tabsGr t2 ((g3.trans g4).trans (Gr.new np))) (dp_lst upd_same (.cons (Dp.kp (Kp.of (Gr.new np)) a) .nil))⟩
/-- .. whose body raises an error with the value d -/
theorem et_outE {es : List (Addr × Str × Str)} {t : XK → TE} {d : PyData} {C : Addr} {f w : Str} (hm : (C, f, w) ∈ es)
    (h : ∀ (E : XK) (H1 : Hp) (Q : VK), (∀ (dd : Addr) (v : V) H2, Gr [] H1 H2 → H2 dd = some (.xd [(f, v)]) → Dp K H2 v d → E (.ref C) (some dd) H2) → t E σ H1 Q) : EvT K T (tLam T (TTg es) t) σ H (.tuple [.str w, d]) := fun H1 _ t1 Q q =>
  ⟨t1, fun H2 g2 t2 H3 Qn E g3 _ ke => h E H3 Qn fun dd v H4 g4 hd a => ke C dd f w v H4 hm hd fun t' H5 g5 h5 =>
    q _ _ (g2.trans (extOf ((g3.trans g4).trans g5))) (tabsGr t2 ((g3.trans g4).trans g5)) (dp_tup h5 (.cons (.str _) (.cons (Dp.kp (Kp.of g5) a) .nil)))⟩
theorem stt_asgL {te : TE} {i : Nat} {ds : List PyData} {D : Ends} (t : Tabs T H) (h : EvTL K T te σ H ds) (k : ∀ p xs H2, ExtN H H2 → Tabs T H2 → H2 p = some (.lst xs) → DpAll K H2 xs ds → D.nx (σ.set i (some (.ref p))) H2) : tAsg te (gName i) D σ H := h H (ExtN.refl _) t _ k
theorem stt_retB {te : TE} {b : Bool} {D : Ends} (t : Tabs T H) (h : EvT K T te σ H (.bool b)) (k : ∀ H2, ExtN H H2 → Tabs T H2 → D.rt (.bl b) H2) : tRet te D σ H := h H (ExtN.refl _) t _ fun v H2 g t2 e => by rw [dp_bool e]; exact k H2 g t2
theorem ttt_of {te : TE} {b : Bool} {H1 : Hp} {Q : Bool → Hp → Prop} (t : Tabs T H1) (h : EvT K T te σ H (.bool b)) (g : ExtN H H1) (q : ∀ H2, ExtN H1 H2 → Tabs T H2 → Q b H2) : tTest te σ H1 Q := h H1 g t _ fun v H2 g2 t2 e => ⟨b, dp_bool e, q H2 g2 t2⟩
theorem ttb_of {te : TE} {b : Bool} {H1 : Hp} {Q : Bool → Hp → Prop} (t : Tabs T H1) (h : EvT K T te σ H (.bool b)) (g : ExtN H H1) (q : ∀ H2, ExtN H1 H2 → Tabs T H2 → Q b H2) : tB te σ H1 Q := h H1 g t _ fun v H2 g2 t2 e => ⟨b, dp_bool e, q H2 g2 t2⟩
theorem et_andV {ta tb : TE} {a b : Bool} (h1 : EvT K T ta σ H (.bool a)) (h2 : EvT K T tb σ H (.bool b)) : EvT K T (tAndV ta tb) σ H (.bool (a && b)) := fun H1 g t Q q =>
  h1 H1 g t _ fun v H2 g2 t2 e => ⟨a, dp_bool e, by
    cases a with
    | true => exact iteT (h2 H2 (g.trans g2) t2 _ fun w H3 g3 t3 e3 => q w H3 (g2.trans g3) t3 e3)
    | false => exact iteF (q _ H2 g2 t2 (.bl false))⟩
theorem et_orV {ta tb : TE} {a b : Bool} (h1 : EvT K T ta σ H (.bool a)) (h2 : EvT K T tb σ H (.bool b)) : EvT K T (tOrV ta tb) σ H (.bool (a || b)) := fun H1 g t Q q =>
  h1 H1 g t _ fun v H2 g2 t2 e => ⟨a, dp_bool e, by
    cases a with
    | true => exact iteT (q _ H2 g2 t2 (.bl true))
    | false => exact iteF (h2 H2 (g.trans g2) t2 _ fun w H3 g3 t3 e3 => q w H3 (g2.trans g3) t3 e3)⟩
end
end Wn
namespace Wn
open PySem PySem.Spec PyProof.Rows L2 LamX
theorem tabsGrM {T : List (Addr × Str)} {H H' : Hp} {d : Addr} (t : Tabs T H) (g : Gr [d] H H') (h : ∃ kvs, H d = some (.dK kvs)) : Tabs T H' := fun p hp => by
  obtain ⟨kvs, hd⟩ := h
  obtain ⟨ps, h1, h2, h3⟩ := t p hp
  refine ⟨ps, g _ _ (by simp; exact ne_of h1 hd (by intro z; cases z)) h1, h2, fun pos cv hc => ?_⟩
  obtain ⟨c, e1, e2⟩ := h3 pos cv hc
  exact ⟨c, e1, g _ _ (by simp; exact ne_of e2 hd (by intro z; cases z)) e2⟩
theorem tabs0 {T : List (Addr × Str)} {H : Hp} (h : ∀ p ∈ T, H p.1 = some (.tbl #[])) : Tabs T H := fun p hp =>
  ⟨#[], h p hp, by trivial, fun pos cv hc => by cases hc⟩
def tInts : List Int → TA
  | [] => tNil
  | i :: r => tCons (tC (.int i)) (tInts r)
theorem tInts_go {σ : L2.St} {H : Hp} : ∀ {is : List Int} {Q : List V → Hp → Prop}, Q (is.map V.int) H → tInts is σ H Q
  | [], _, q => q
  | i :: r, Q, q => tInts_go (is := r) (Q := fun vs H2 => Q (.int i :: vs) H2) q
section
variable {K : PySem.W.Frag} {T : List (Addr × Str)} {σ : L2.St} {H : Hp}
theorem ev_powN {a c : Nat} (h : CPow a c) : EvD K (tOp (rI CPow fun i j => .int (i ^ j.toNat)) (tC (.int (a : Nat))) (tC (.int (c : Nat)))) σ H (.int ((a ^ c : Nat) : Int)) := fun H1 _ Q q => ⟨a, c, rfl, rfl, h, by
  have e : ((a : Nat) : Int) ^ ((c : Nat) : Int).toNat = ((a ^ c : Nat) : Int) := by rw [Int.toNat_natCast, Int.natCast_pow]
  show Q (.int (((a : Nat) : Int) ^ ((c : Nat) : Int).toNat)) H1
  rw [e]
  exact q _ H1 (Gr.refl _ _) (.int _)⟩
theorem ev_pow {a c : Int} (h : CPow a c) : EvD K (tOp (rI CPow fun i j => .int (i ^ j.toNat)) (tC (.int a)) (tC (.int c))) σ H (.int (a ^ c.toNat)) := fun H1 _ Q q => ⟨a, c, rfl, rfl, h, q _ H1 (Gr.refl _ _) (.int _)⟩
end
end Wn
namespace Wn
open PySem PySem.Spec PyProof.Rows L2
theorem tab_mk {K : PySem.W.Frag} {x : Str} {f c P : Addr} {oc c1 : Value} {od d1 : Option Addr} {fd : FuncData} {sl s1 : Array (Option Value)} {vs : Array Value} (a : PySem.W.nsIn K mainGlobals x = some (some (.ref f))) (l : K.lookup f = some ⟨oc, od, .func fd, sl⟩) (e : fd.code = .ref c)
    (l2 : K.lookup c = some ⟨c1, d1, .fields vs, s1⟩) (h : vs[11]? = some (.ref P)) : PySem.W.tabIn K x = some (c, P) := by
  unfold PySem.W.tabIn
  rw [a]
  dsimp only
  rw [l]
  dsimp only
  rw [e]
  dsimp only
  rw [l2]
  dsimp only
  rw [h]
end Wn
namespace Wn
open PySem PySem.Spec PyProof.Rows L2 LamX
section
variable {K : PySem.W.Frag} {T : List (Addr × Str)} {σ : L2.St} {H : Hp} {es : List (Addr × Str × Str)} {t : XK → TE} {d : PyData}
/-- .. over what stands here -/
theorem et_outV (h : ∀ (E : XK) (H1 : Hp), ExtN H H1 → ∀ Q : VK, (∀ v H2, Gr [] H1 H2 → Dp K H2 v d → Q v H2) → t E σ H1 Q) : EvT K T (tLam T (TTg es) t) σ H (.list [d]) := fun H1 g0 t1 Q q =>
  ⟨t1, fun H2 g2 t2 H3 Qn E g3 kn _ => h E H3 ((g0.trans g2).trans (extOf g3)) Qn fun v H4 g4 a => kn v H4 fun p np =>
    q _ _ (g2.trans (extOf ((g3.trans g4).trans (Gr.new np)))) (tabsGr t2 ((g3.trans g4).trans (Gr.new np))) (dp_lst upd_same (.cons (Dp.kp (Kp.of (Gr.new np)) a) .nil))⟩
theorem et_outX {C : Addr} {f w : Str} (hm : (C, f, w) ∈ es)
    (h : ∀ (E : XK) (H1 : Hp), ExtN H H1 → ∀ (Q : VK), (∀ (dd : Addr) (v : V) H2, Gr [] H1 H2 → H2 dd = some (.xd [(f, v)]) → Dp K H2 v d → E (.ref C) (some dd) H2) → t E σ H1 Q) : EvT K T (tLam T (TTg es) t) σ H (.tuple [.str w, d]) := fun H1 g0 t1 Q q =>
  ⟨t1, fun H2 g2 t2 H3 Qn E g3 _ ke => h E H3 ((g0.trans g2).trans (extOf g3)) Qn fun dd v H4 g4 hd a => ke C dd f w v H4 hm hd fun t' H5 g5 h5 =>
    q _ _ (g2.trans (extOf ((g3.trans g4).trans g5))) (tabsGr t2 ((g3.trans g4).trans g5)) (dp_tup h5 (.cons (.str _) (.cons (Dp.kp (Kp.of g5) a) .nil)))⟩
theorem EvT.on {te : TE} {H' : Hp} (h : EvT K T te σ H d) (g : ExtN H H') : EvT K T te σ H' d := fun H1 g1 t1 Q q => h H1 (g.trans g1) t1 Q q
end
end Wn
namespace Wn
open PySem PySem.Spec PyProof.Rows L2 LamX
section
variable {K : PySem.W.Frag} {T : List (Addr × Str)} {σ : L2.St} {H : Hp}
/-- the first part of «or» in a test, false -/
theorem ttt_orL {te : TE} {u : TT} {b : Bool} {Q : Bool → Hp → Prop} (t : Tabs T H) (h : EvT K T te σ H (.bool b)) (hb : b = false) (q : ∀ H2, ExtN H H2 → Tabs T H2 → u σ H2 Q) : tOr (tTest te) u σ H Q := h H (ExtN.refl _) t _ fun v H2 g2 t2 e => ⟨b, dp_bool e, iteFb hb (q H2 g2 t2)⟩
end
end Wn
namespace Wn
open PySem PySem.Spec PyProof.Rows L2
/-! a list grown: data in which no list of its size stands, stay -/
mutual
def noLen (n : Nat) : PyData → Bool
  | .list xs => decide (xs.length ≠ n) && noLenAll n xs
  | .tuple xs => noLenAll n xs
  | _ => true
def noLenAll (n : Nat) : List PyData → Bool
  | [] => true
  | x :: xs => noLen n x && noLenAll n xs
end
mutual
theorem Dp.app {K : PySem.W.Frag} {H : Hp} {l : Addr} {xs : List V} {y : V} (h : H l = some (.lst xs)) : ∀ {v : V} {d : PyData}, Dp K H v d → noLen xs.length d = true → Dp K (upd H l (.lst (xs ++ [y]))) v d
  | _, _, .non, _ => .non
  | _, _, .bl b, _ => .bl b
  | _, _, .int i, _ => .int i
  | _, _, .str z, _ => .str z
  | _, _, .lst (a := a) (xs := zs) (ds := ds) s t, n => by
    rw [noLen, Bool.and_eq_true, decide_eq_true_eq] at n
    have hl := dpAll_len t
    refine .lst ?_ (DpAll.app h t n.2)
    rcases s with (s | ⟨o, s⟩) | s
    · by_cases e : a = l
      · subst e
        rw [h] at s
        cases s
        exact absurd hl.symm n.1
      · exact .inl (.inl (by rw [upd_ne e]; exact s))
    · exact .inl (.inr ⟨o, by rw [upd_ne (fun e => by rw [e, h] at s; cases s)]; exact s⟩)
    · exact .inr s
  | _, _, .tup (a := a) (xs := zs) (ds := ds) s t, n => by
    rw [noLen] at n
    refine .tup ?_ (DpAll.app h t n)
    rcases s with (s | ⟨o, s⟩) | s
    · exact .inl (.inl (by rw [upd_ne (fun e => by rw [e, h] at s; cases s)]; exact s))
    · exact .inl (.inr ⟨o, by rw [upd_ne (fun e => by rw [e, h] at s; cases s)]; exact s⟩)
    · exact .inr s
theorem DpAll.app {K : PySem.W.Frag} {H : Hp} {l : Addr} {xs : List V} {y : V} (h : H l = some (.lst xs)) : ∀ {vs : List V} {ds : List PyData}, DpAll K H vs ds → noLenAll xs.length ds = true → DpAll K (upd H l (.lst (xs ++ [y]))) vs ds
  | _, _, .nil, _ => .nil
  | _, _, .cons a b, n => by
    rw [noLenAll, Bool.and_eq_true] at n
    exact .cons (Dp.app h a n.1) (DpAll.app h b n.2)
end
/-- the tables stay where a list grows -/
theorem tabsApp {T : List (Addr × Str)} {H : Hp} {l : Addr} {xs ys : List V} (t : LamX.Tabs T H) (h : H l = some (.lst xs)) : LamX.Tabs T (upd H l (.lst ys)) := fun p hp => by
  obtain ⟨ps, h1, h2, h3⟩ := t p hp
  refine ⟨ps, by rw [upd_ne (ne_of h1 h (by intro z; cases z))]; exact h1, h2, fun pos cv hc => ?_⟩
  obtain ⟨c, e1, e2⟩ := h3 pos cv hc
  exact ⟨c, e1, by rw [upd_ne (ne_of e2 h (by intro z; cases z))]; exact e2⟩
end Wn
namespace Wn
open PySem PySem.Spec PyProof.Rows L2 LamX
section
variable {K : PySem.W.Frag} {T : List (Addr × Str)} {σ : L2.St} {H : Hp}
theorem noLenAll_app (n : Nat) : ∀ xs ys : List PyData, noLenAll n (xs ++ ys) = (noLenAll n xs && noLenAll n ys)
  | [], ys => by simp [noLenAll]
  | x :: xs, ys => by
    have ih := noLenAll_app n xs ys
    show noLenAll n (x :: (xs ++ ys)) = _
    rw [noLenAll, noLenAll, ih, Bool.and_assoc]
/-- l.append(e) -/
theorem stt_app {te : TE} {i : Nat} {l : Addr} {xs : List V} {ds : List PyData} {d : PyData} {D : Ends} (t : Tabs T H) (hi : σ[i]? = some (some (.ref l))) (e : H l = some (.lst xs)) (a : DpAll K H xs ds) (h : EvT K T te σ H d) (hn : noLenAll ds.length (ds ++ [d]) = true) (hz : ds.length < 1000)
    (k : ∀ ys H2, Tabs T H2 → H2 l = some (.lst ys) → DpAll K H2 ys (ds ++ [d]) → D.nx σ H2) : tDrop (tBM K "list" rAppend (tVar i) (tCons te tNil)) D σ H := by
  refine ⟨_, hi, .inl ⟨rfl, _, sq_lst e⟩, ?_⟩
  refine h H (ExtN.refl _) t _ fun v H2 g2 t2 dv => ?_
  have hl := dpAll_len a
  have e2 := ExtN.lst g2 e
  have a2 := DpAll.kp (kpExt g2) a
  rw [noLenAll_app, Bool.and_eq_true] at hn
  have n2 : noLen ds.length d = true := by
    have := hn.2
    rw [noLenAll, Bool.and_eq_true] at this
    exact this.1
  refine ⟨l, xs, v, rfl, rfl, e2, Nat.lt_of_lt_of_le (show xs.length < 6000 by omega) (by decide), ?_⟩
  refine k (xs ++ [v]) _ (tabsApp t2 e2) upd_same (dpAll_append (DpAll.app e2 a2 (by rw [hl]; exact hn.1)) (.cons (Dp.app e2 dv (by rw [hl]; exact n2)) .nil))
theorem stt_set {te : TE} {i : Nat} {d : PyData} {D : Ends} (t : Tabs T H) (h : EvT K T te σ H d) (k : ∀ v H2, ExtN H H2 → Tabs T H2 → Dp K H2 v d → D.nx (σ.set i (some v)) H2) : tAsg te (gName i) D σ H := h H (ExtN.refl _) t _ k
theorem et_repr {te : TE} {d : PyData} (h : EvT K T te σ H d) (f : Fits d) : EvT K T (tCB (rRepr K) (tCons te tNil)) σ H (.str d.shown) := fun H1 g t Q q =>
  h H1 g t _ fun v H2 g2 t2 a => ⟨v, d, rfl, a, f, q _ H2 g2 t2 (.str _)⟩
/-- two texts compared -/
theorem et_eqS {ta tb : TE} {x y : Str} (h1 : EvT K T ta σ H (.str x)) (h2 : EvT K T tb σ H (.str y)) : EvT K T (tOp rEq ta tb) σ H (.bool (decide (x = y))) := fun H1 g t Q q =>
  h1 H1 g t _ fun v H2 g2 t2 a => h2 H2 (g.trans g2) t2 _ fun w H3 g3 t3 b => by
    have e1 : v = .str x := by cases a; rfl
    have e2 : w = .str y := by cases b; rfl
    subst e1 e2
    refine ⟨rfl, ?_⟩
    have e3 : decide (V.str x = V.str y) = decide (x = y) := by
      rw [decide_eq_decide]
      exact ⟨fun z => V.str.inj z, fun z => by rw [z]⟩
    show Q (.bl (decide (V.str x = V.str y))) H3
    rw [e3]
    exact q _ H3 (g2.trans g3) t3 (.bl _)
end
end Wn
namespace Wn
open PySem PySem.Spec PyProof.Rows L2
open PySem.HandSPX
section
variable {X : Cx} {C : Addr} {f : Str}
/-- error.f, the error that the suite holds (at a; its class cls, its dict d) -/
def tByE (C : Addr) (f : Str) (a : Addr) (cls : Value) (d : Option Addr) (te : TE) : TE := fun σ H Q => te σ H fun x H1 => x = .ref a ∧ cls = .ref C ∧ ∃ (dd : Addr) (v : V), d = some dd ∧ H1 dd = some (.xd [(f, v)]) ∧ Q v H1
theorem pe_byE {a : Addr} {oe : Obj} {cls : Value} {d : Option Addr} {pn : List (Addr × Obj)} {e : Expr} {te : TE} {pos : Pos} (T : XfC X.K C) (hno : PySem.W.findIn X.K (.ref C) f = some none) (hz : Zc cls d oe) (hf : ∃ vs, oe.data = .fields vs) (he : PE (X.suite a ((a, oe) :: pn)) e te)
    (hb : attributeBase e f X.env (eval e X.env) = eval e X.env := by rfl) :
    PE (X.suite a ((a, oe) :: pn)) (.Attribute e f pos) (tByE C f a cls d te) := by
  refine ⟨fun pins s σ H Q I h => ?_⟩
  refine attr_of hb (thn (he.run pins s σ H _ I h) fun u s1 hh => ?_)
  obtain ⟨x, H1, I1, rx, ex, ec, dd, v, ed, ea, q⟩ := hh
  subst ex
  obtain rfl : u = Value.ref a := rx
  subst ec
  subst ed
  obtain ⟨ha, _⟩ := I1.pin (a, oe) (List.mem_append_left _ List.mem_cons_self)
  obtain ⟨vs, hd⟩ := hf
  have hx : ObjOk X.prog X.w H1 s1.heap dd (.xd [(f, v)]) := I1.hok dd _ ea
  obtain ⟨mA, hns, hr⟩ := hx
  obtain ⟨od, ho, hl⟩ := lookIn_ns hns
  have l : List.lookup f [(f, v)] = some v := by simp [List.lookup]
  obtain ⟨u, hu, ru⟩ := RelO.some_of (v := v) (o := mA f) (by rw [← l]; exact hr f)
  have J : PySem.W.InstAt s1.heap a oe C (some od) := ⟨ha, hz.1, by unfold PySem.W.notCls; rw [hd] <;> rfl, by rw [hz.2]; exact ho⟩
  exact PySem.HandSPX.exc_get I1.kIn J T.ga T.gg T.exC (PySem.W.findObj_own T.hdC hno rfl (by rw [hl, hu])) (handed_of ru) ⟨v, H1, I1.tok _, ru, q⟩
end
section
variable {X : Cx}
def rLcm : List V → Hp → VK → Prop := fun vs H Q => ∃ a b : Nat, vs = [.int a, .int b] ∧ (a ≤ 100000 ∧ b ≤ 100000) ∧ Q (.int ((Nat.lcm a b : Nat) : Int)) H
theorem cr_lcm : CallR X (.builtin "math.lcm") rLcm := by
  intro pins s σ H vs us Q I r h
  obtain ⟨a, b, rfl, ⟨ha, hb⟩, q⟩ := h
  obtain ⟨t, u, rfl⟩ := Vals.int2 r
  have e : (((Nat.lcm 1 (a : Int).natAbs).lcm (b : Int).natAbs : Nat) : Int) = ((Nat.lcm a b : Nat) : Int) := by
    rw [Int.natAbs_natCast, Int.natAbs_natCast, Nat.lcm_one_left]
  refine PySem.W.mg_lcm (by rw [Int.natAbs_natCast]; omega) (by rw [Int.natAbs_natCast]; omega) ?_ ?_
  · rw [e, Int.natAbs_natCast]
    have h1 : Nat.lcm a b ≤ a * b := by
      unfold Nat.lcm
      exact Nat.div_le_self _ _
    have h2 : a * b ≤ 100000 * 100000 := Nat.mul_le_mul ha hb
    have h3 : Nat.lcm a b < 2 ^ 40 := Nat.lt_of_le_of_lt (Nat.le_trans h1 h2) (by decide)
    exact Nat.lt_trans (PySem.Flt.log2_lt_of (by decide) h3) (by decide)
  · rw [e]
    exact ⟨.int _, H, I.tok _, ⟨_, rfl⟩, q⟩
/-- t.index(x), ints, the first place -/
def rIdxT (K : PySem.W.Frag) : V → List V → Hp → VK → Prop := fun x xs H Q => ∃ (p : Addr) (ys : List Nat) (z j : Nat), x = .ref p ∧ xs = [.int (z : Nat)] ∧ SqT K H p (vn ys) ∧ ys[j]? = some z ∧ (∀ m, m < j → ys[m]? ≠ some z) ∧ Q (.int (j : Nat)) H
theorem flat_vnT : ∀ xs : List Nat, (vn xs).all flatV = true
  | [] => rfl
  | x :: r => by
    show (true && (vn r).all flatV) = true
    rw [flat_vnT r]
    rfl
theorem mt_tup_indexN : MtR X "tuple.index" (rIdxT X.K) := by
  intro pins s σ H x xs v us Q I rx rs h
  obtain ⟨p, ys, z, j, rfl, rfl, hq, hy, hno, q⟩ := h
  cases rx
  obtain ⟨u, rfl, t, rfl⟩ := vals1 rs
  obtain ⟨its, r, pl, hz⟩ := I.tuple hq
  obtain ⟨⟨cls, dd, dt, sl⟩, ho, hc, n, hd⟩ := pl
  simp only at hc hd
  subst hc
  subst hd
  have hl : its.toArray.size = ys.length := by rw [List.size_toArray, ← r.length, vn_len]
  have hj : j < its.toArray.size := by rw [hl]; exact (List.getElem?_eq_some_iff.mp hy).1
  have at' : ∀ (m : Nat) (hm : m < its.toArray.size), ∃ (y : Nat) (t' : Tok), ys[m]? = some y ∧ its.toArray[m] = Value.int (y : Nat) t' := fun m hm => by
    have hm' : m < ys.length := by rw [← hl]; exact hm
    obtain ⟨w, hw, t', hw'⟩ := r.get (i := m) (x := .int (ys[m] : Nat)) (by simp [vn, hm'])
    refine ⟨ys[m], t', List.getElem?_eq_getElem hm', ?_⟩
    have e := (List.getElem?_eq_some_iff.mp hw).2
    rw [← hw', ← e]
    simp
  refine call_meets PySem.F.slot_tuple_index ⟨_, ho, rfl⟩ PySem.F.entry_tuple_index (PySem.F.args_tuple_index_2 _ _) (TI.tuple_indexAt p its.toArray n dd sl (.int (z : Nat) t) (eqU (.int (z : Nat))) j hj ?_ ?_)
    ⟨ho, fun w hw => mem_eqAt (x := .int (z : Nat)) ⟨t, rfl⟩ rfl r (flat_vnT ys) w (by simpa using hw), ⟨.int (j : Nat), H, I.tok _, ⟨_, rfl⟩, q⟩⟩
  · obtain ⟨y, t', h1, h2⟩ := at' j hj
    rw [hy] at h1
    cases h1
    rw [h2]
    show (((z : Nat) : Int) == ((z : Nat) : Int)) = true
    exact beq_self_eq_true _
  · intro m hm hmj
    obtain ⟨y, t', h1, h2⟩ := at' m hm
    rw [h2]
    show (((y : Nat) : Int) == ((z : Nat) : Int)) = false
    rw [beq_eq_false_iff_ne]
    intro e
    have : y = z := by omega
    exact hno m hmj (by rw [h1, this])
/-- tuple(xs), xs a list: the object is known whole, so that its methods may be called -/
def rTpF (K : PySem.W.Frag) : List V → Hp → VK → Prop := fun xs H Q => ∃ p ys, xs = [.ref p] ∧ SqL K H p ys ∧ ∀ l o, o.dict = none → H l = none → Q (.ref l) (upd H l (.frz o (.tup ys)))
theorem call_tpF : CallR X (.type "tuple") (rTpF X.K) := by
  intro pins s σ H xs us Q I r h
  obtain ⟨p, ys, rfl, hq, q⟩ := h
  obtain ⟨u, rfl, rx⟩ := vals1 r
  cases rx
  obtain ⟨its, r', pl, hz⟩ := I.list hq
  have hlen := r'.length
  refine call_tuple_list pl.isList (fun h' kp => ?_) (by simp only [List.size_toArray] <;> omega)
  have I1 : Inv X pins σ H { s with heap := h' } := I.kept (t' := s.toks) kp
  have I2 : Inv X pins σ (upd H h'.objs.size (.frz { cls := .type "tuple", data := .seq its.toArray } (.tup ys))) { s with heap := h'.push { cls := .type "tuple", data := .seq its.toArray } } :=
    I1.laid (t' := s.toks) (fun b o e => Heap.get?_push_of_some _ e) (Nat.le_refl _) (show ObjOk X.prog X.w _ _ _ (.frz { cls := .type "tuple", data := .seq its.toArray } (.tup ys)) from ⟨Heap.get?_push_size _ rfl, hz, its, r', IsTup.new _ _⟩)
  exact ⟨.ref h'.objs.size, _, I2, rfl, q _ _ rfl (I1.hok.fresh (Nat.le_refl _))⟩
variable {name : Str} {idn : String} {r : V → List V → Hp → VK → Prop} {o e : Expr} {es : List Expr} {to : TE} {t : TA} {apos cpos : Pos}
def tBMT (r : V → List V → Hp → VK → Prop) (to : TE) (t : TA) : TE := fun σ H Q => to σ H fun x H1 => (∃ (p : Addr) (ob : Obj) (xs : List V), x = .ref p ∧ H1 p = some (.frz ob (.tup xs)) ∧ ob.dict = none) ∧ t σ H1 fun xs H2 => r x xs H2 Q
theorem pe_bmT (pa : PlainAttrs "tuple") (slot : Slot "tuple" name idn) (hty : typeOf (.builtin idn) = pure (.type "method_descriptor")) (hm : MtR X idn r) (ho : PE X o to) (ha : PA X (e :: es) t)
    (hbase : attributeBase o name X.env (eval o X.env) = eval o X.env := by rfl)
    (hfew : ((backTo cpos (starEach (e :: es) X.env)).all (fun x => !x.1) && (backToKw cpos (keywordEach [] X.env)).all (fun x => x.1.isSome)
      && decide ((e :: es).length + ([] : List Keyword).length + (if ([] : List Keyword).isEmpty then 0 else 1) < 30)) = true := by rfl)
    (hline : (apos.endLine == cpos.line) = true := by rfl) (hs : starEach (e :: es) X.env = (false, eval e X.env) :: starEach es X.env := by rfl) (hplain : (backTo cpos (starEach es X.env)).any (·.1) = false := by rfl) :
    PE X (.Call (.Attribute o name apos) (e :: es) [] cpos) (tBMT r to t) := by
  refine ⟨fun pins s σ H Q I h => ?_⟩
  refine wpAny_Call_method_late hbase hfew hline rfl (thn (ho.run pins s σ H _ I h) fun v s1 ⟨x, H1, I1, r1, ty, q1⟩ => ?_)
  obtain ⟨p, ob, xs, rfl, hp, hd⟩ := ty
  obtain rfl : v = Value.ref p := r1
  obtain ⟨hg, _, its, _, o2, hg2, hc2, _⟩ := I1.hok p _ hp
  rw [hg] at hg2
  cases hg2
  have h1 : s1.TypeIs (.ref p) "tuple" := ⟨ob, hg, hc2⟩
  have h2 : ∀ a, Value.ref p = .ref a → ∃ ob, s1.heap.get? a = some ob ∧ ob.dict = none := fun a e => by
    cases e
    exact ⟨ob, hg, hd⟩
  refine ⟨"tuple", idn, pa, slot, hty, h1, h2, ?_⟩
  have hA := ha.run cpos pins s1 σ H1 _ I1 q1
  rw [hs] at hA ⊢
  refine Calls.callWith_builtin (by show (false || (backTo cpos (starEach es X.env)).any (·.1)) = false; rw [hplain] <;> rfl) (Calls.evalArgs_plain ?_)
  exact thn hA fun us s2 ⟨vs, H2, I2, r2, q2⟩ => hm pins s2 σ H2 (.ref p) vs (.ref p) us Q I2 rfl r2 q2
end
end Wn
/-! a list backwards: xs[::-1] -/
namespace Wn
open PySem PySem.Spec PyProof.Rows L2
theorem pick_rev (us : List Value) : slicePick us.toArray none none (some (-1)) = us.reverse.toArray := by
  have e : sliceBounds none none (some (-1)) us.toArray.size = (((us.length : Int) - 1), (-1 : Int), (-1 : Int)) := by
    simp [sliceBounds]
  unfold slicePick
  rw [e]
  show (List.filterMap (fun i => us.toArray[i]?) (sliceRange ((us.length : Int) - 1) (-1) (-1))).toArray = _
  congr 1
  have e2 : sliceRange ((us.length : Int) - 1) (-1) (-1) = (List.range us.length).map fun i => us.length - 1 - i := by
    unfold sliceRange
    have c : (if (-1 : Int) > 0 then (if ((us.length : Int) - 1) < -1 then ((-1) - ((us.length : Int) - 1) + (-1) - 1) / (-1) else 0) else (if ((us.length : Int) - 1) > -1 then (((us.length : Int) - 1) - (-1) - (-1) - 1) / (-(-1)) else 0)).toNat = us.length := by
      rw [if_neg (by decide)]
      by_cases z : ((us.length : Int) - 1) > -1
      · rw [if_pos z, show (-(-1 : Int)) = 1 from rfl, Int.ediv_one]
        omega
      · rw [if_neg z]
        omega
    dsimp only
    rw [c]
    apply List.map_congr_left
    intro i hi
    have := List.mem_range.mp hi
    omega
  rw [e2, List.filterMap_map]
  apply List.ext_getElem?
  intro i
  have key : ∀ n, n ≤ us.length → (List.filterMap ((fun i => us.toArray[i]?) ∘ fun i => us.length - 1 - i) (List.range n)) = us.reverse.take n := by
    intro n
    induction n with
    | zero => intro _; rfl
    | succ n ih =>
      intro hn
      rw [List.range_succ, List.filterMap_append, ih (by omega), List.take_succ_eq_append_getElem (by rw [List.length_reverse]; omega), List.getElem_reverse]
      refine congrArg (fun z => us.reverse.take n ++ z) ?_
      show List.filterMap (fun i => us.toArray[us.length - 1 - i]?) [n] = _
      rw [List.filterMap_cons]
      have : us.toArray[us.length - 1 - n]? = some us[us.length - 1 - n] := by
        rw [List.getElem?_toArray, List.getElem?_eq_getElem]
      rw [this]
      rfl
  rw [key us.length (Nat.le_refl _), List.take_of_length_le (by rw [List.length_reverse]; exact Nat.le_refl _)]
def rRvL (K : PySem.W.Frag) : V → V → Hp → VK → Prop := fun x y H Q => ∃ (a : Addr) (xs : List V), x = .ref a ∧ y = .int (-1) ∧ SqL K H a xs ∧ ∀ p, H p = none → Q (.ref p) (upd H p (.lst xs.reverse))
variable {X : Cx} {e st : Expr} {te ts : TE} {pos p2 : Pos}
theorem pe_revL {r : R2} (he : PE X e te) (hs : PE X st ts) (hr : r = rRvL X.K := by rfl) : PE X (.Subscript e (.Slice none none (some st) p2) pos) (tStL r te ts) := by
  subst hr
  refine ⟨fun pins s σ H Q I h => ?_⟩
  refine Subscript_ (thn (he.run pins s σ H _ I h) fun v s1 ⟨x, H1, I1, r1, q1⟩ => ?_)
  refine wpAny_Slice ?_
  rw [evalPart_none]
  refine wpAny_pure (wpAny_pure ?_)
  rw [evalPart_some]
  refine thn (hs.run pins s1 σ H1 _ I1 q1) fun vs s3 ⟨y, H3, I3, ry, q3⟩ => ?_
  obtain ⟨a, xs, rfl, rfl, hx, q⟩ := q3
  cases r1
  obtain ⟨t, rfl⟩ := ry
  have I4 : Inv X pins σ H3 { s3 with heap := s3.heap.push { cls := .type "slice", data := .fields #[.none, .none, .int (-1) t] } } := I3.kept (t' := s3.toks) fun b ob q => Heap.get?_push_of_some _ q
  obtain ⟨its, r, ht, hz⟩ := I4.list hx
  have hlen := r.length
  have hg : wpAny (model X.prog X.w) X.A (getItem (.ref a) (.ref s3.heap.objs.size)) (EP X pins σ Q) X.xe { s3 with heap := s3.heap.push { cls := .type "slice", data := .fields #[.none, .none, .int (-1) t] } } := by
    refine wpAny_getItem_list_slice (st := some (-1)) ht.isList (Heap.IsSliceOf.new ..) .none .none (.int _ _) (by intro z; have := Option.some.inj z; omega) ?_ (by rw [List.size_toArray] <;> omega)
    rw [pick_rev its]
    refine ⟨.ref _, _, I4.laid (t' := s3.toks) (o := .lst xs.reverse) (fun b ob q => Heap.get?_push_of_some _ q) (Nat.le_refl _) ?_, rfl, q _ (I4.hok.fresh (Nat.le_refl _))⟩
    exact ⟨by rw [List.length_reverse]; exact hz, _, 0, r.reverse, Heap.get?_push_size _ rfl⟩
  show wpAny (model X.prog X.w) X.A (subscriptTail e (.Slice none none (some st) p2) (.ref a) (.ref s3.heap.objs.size)) (EP X pins σ Q) X.xe { s3 with heap := s3.heap.push { cls := .type "slice", data := .fields #[.none, .none, .int (-1) t] } }
  exact tail_any (ops := [.ref a, .ref s3.heap.objs.size]) ht.isList.typeIs slot_list_getitem.lookup hg (by with_unfolding_all rfl)
end Wn
/-! a tuple backwards: xs[::-1] -/
namespace Wn
open PySem PySem.Spec PyProof.Rows L2 HT
theorem pickT_rev (us : List Value) : ((List.range us.length).filterMap fun (k : Nat) => us.toArray[(((us.length : Int) - 1) + (k : Int) * (-1)).toNat]?).toArray = us.reverse.toArray := by
  congr 1
  have key : ∀ n, n ≤ us.length → (List.filterMap (fun (k : Nat) => us.toArray[(((us.length : Int) - 1) + (k : Int) * (-1)).toNat]?) (List.range n)) = us.reverse.take n := by
    intro n
    induction n with
    | zero => intro _; rfl
    | succ n ih =>
      intro hn
      rw [List.range_succ, List.filterMap_append, ih (by omega), List.take_succ_eq_append_getElem (by rw [List.length_reverse]; omega), List.getElem_reverse]
      refine congrArg (fun z => us.reverse.take n ++ z) ?_
      rw [List.filterMap_cons]
      have e : (((us.length : Int) - 1) + (n : Int) * (-1)).toNat = us.length - 1 - n := by omega
      have : us.toArray[us.length - 1 - n]? = some us[us.length - 1 - n] := by
        rw [List.getElem?_toArray, List.getElem?_eq_getElem]
      rw [e, this]
      rfl
  rw [key us.length (Nat.le_refl _), List.take_of_length_le (by rw [List.length_reverse]; exact Nat.le_refl _)]
section
variable {prog : Program} {w : World} {A : Around} {E : Value → Shared → Prop} {s : Shared}
theorem applied_rev {sl : Addr} {u : Tok} {n : Nat} {Q : Int × Int × Nat → Shared → Prop} (hs : s.heap.IsSliceOf sl .none .none (.int (-1) u)) (h : Q (((n : Int) - 1), -1, n) s) : wpAny (model prog w) A (Builtin.Slice.sliceApplied (.ref sl) (pure (n : Int))) Q E s := by
  obtain ⟨os, hos, hcs, hds⟩ := id hs
  unfold Builtin.Slice.sliceApplied Builtin.Slice.sliceFields
  refine wpAny_bind (wpAny_bind (wpAny_field hos hds (x := .none) rfl (wpAny_bind (wpAny_field hos hds (x := .none) rfl (wpAny_bind (wpAny_field hos hds (x := .int (-1) u) rfl (wpAny_pure ?_)))))))
  refine wpAny_bind (slicePart_int ?_)
  show wpAny _ _ (if ((-1 : Int) == 0) = true then _ else _) _ _ s
  rw [if_neg (by decide)]
  refine wpAny_bind (slicePart_none (wpAny_bind (slicePart_none (wpAny_bind (wpAny_pure ?_)))))
  show wpAny _ _ (pure (((n : Int) - 1), (-1 : Int), Builtin.Slice.slicePlaces ((n : Int) - 1) (-1) (-1))) _ _ s
  have e : Builtin.Slice.slicePlaces ((n : Int) - 1) (-1) (-1) = n := by
    unfold Builtin.Slice.slicePlaces
    rw [if_neg (by decide)]
    by_cases z : ((n : Int) - 1) > -1
    · rw [if_pos z, show (-(-1 : Int)) = 1 from rfl, Int.ediv_one]
      omega
    · rw [if_neg z]
      omega
  rw [e]
  exact wpAny_pure h
theorem getItem_tuple_rev {t sl : Addr} {items : List Value} {u : Tok} {Q : Value → Shared → Prop} (ht : IsTup s.heap t items.toArray) (hs : s.heap.IsSliceOf sl .none .none (.int (-1) u))
    (h : Q (.ref s.heap.objs.size) { s with heap := s.heap.push { cls := .type "tuple", data := .seq items.reverse.toArray } }) (hsz : items.length ≤ sizeLine) : wpAny (model prog w) A (getItem (.ref t) (.ref sl)) Q E s := by
  have hok : sizeOk (.seq items.reverse.toArray) := by
    show items.reverse.toArray.size ≤ sizeLine
    rw [List.size_toArray, List.length_reverse]
    exact hsz
  obtain ⟨os, hos, hcs, hds⟩ := id hs
  have hTs : s.TypeIs (.ref sl) "slice" := ⟨os, hos, hcs⟩
  unfold getItem
  try with_reducible refine wpAny_holding ?_
  first | refine wpAny_bind (wpAny_pure ?_) | skip
  refine wpAny_bind (wpAny_sequenceKey ht.typeIs (by decide) ?_)
  refine wpAny_bind (wpAny_callSpecial?_slot (name := Str.ofString "__getitem__") ht.typeIs PyProof.Rows.slot_tuple_getitem
    (wpAny_call_entry PyProof.Rows.slot_tuple_getitem ht.typeIs entry_tuple_getitem ?_ (args_tuple_getitem _ _)))
  show wpAny _ _ (Builtin.Tuple.tupleItemsOf (.ref t) >>= _) _ _ s
  refine wpAny_bind (tupleItemsOf_ ht ?_)
  refine wpAny_bind (wpAny_typeOf hTs ?_)
  rw [if_pos (by decide)]
  have e0 : items.toArray.size = items.length := List.size_toArray
  rw [e0]
  refine wpAny_bind (applied_rev hs ?_)
  have hno : ¬ ((((items.length : Int) - 1) == 0 && (-1 : Int) == 1 && items.length == items.length) = true) := by
    intro q
    rw [Bool.and_eq_true, Bool.and_eq_true] at q
    exact absurd q.1.2 (by decide)
  show wpAny _ _ (if (((items.length : Int) - 1) == 0 && (-1 : Int) == 1 && items.length == items.length) = true then _ else _) _ _ s
  rw [if_neg hno, pickT_rev]
  first
    | exact wpAny_bind (m := Builtin.Tuple.tupleExact _) (wpAny_newObj_type (wpAny_pure ⟨_, rfl, wpAny_pure h⟩) hok)
    | exact wpAny_bind (m := Builtin.Tuple.tupleExact _) (wpAny_newObj_type (wpAny_bind (wpAny_pure (wpAny_pure ⟨_, rfl, wpAny_pure h⟩))) hok)
    | exact wpAny_bind (wpAny_bind (m := Builtin.Tuple.tupleExact _) (wpAny_newObj_type (wpAny_pure (wpAny_pure ⟨_, rfl, wpAny_pure h⟩)) hok))
    | exact wpAny_bind (wpAny_bind (m := Builtin.Tuple.tupleExact _) (wpAny_newObj_type (wpAny_pure ⟨_, rfl, wpAny_pure h⟩) hok))
end
def rRvT (K : PySem.W.Frag) : V → V → Hp → VK → Prop := fun x y H Q => ∃ (a : Addr) (xs : List V), x = .ref a ∧ y = .int (-1) ∧ SqT K H a xs ∧ ∀ p, H p = none → Q (.ref p) (upd H p (.tup xs.reverse))
variable {X : Cx} {e st : Expr} {te ts : TE} {pos p2 : Pos}
theorem pe_revT {r : R2} (he : PE X e te) (hs : PE X st ts) (hr : r = rRvT X.K := by rfl) : PE X (.Subscript e (.Slice none none (some st) p2) pos) (tStL r te ts) := by
  subst hr
  refine ⟨fun pins s σ H Q I h => ?_⟩
  refine Subscript_ (thn (he.run pins s σ H _ I h) fun v s1 ⟨x, H1, I1, r1, q1⟩ => ?_)
  refine wpAny_Slice ?_
  rw [evalPart_none]
  refine wpAny_pure (wpAny_pure ?_)
  rw [evalPart_some]
  refine thn (hs.run pins s1 σ H1 _ I1 q1) fun vs s3 ⟨y, H3, I3, ry, q3⟩ => ?_
  obtain ⟨a, xs, rfl, rfl, hx, q⟩ := q3
  cases r1
  obtain ⟨t, rfl⟩ := ry
  have I4 : Inv X pins σ H3 { s3 with heap := s3.heap.push { cls := .type "slice", data := .fields #[.none, .none, .int (-1) t] } } := I3.kept (t' := s3.toks) fun b ob q => Heap.get?_push_of_some _ q
  obtain ⟨its, r, ht, hz⟩ := I4.tuple hx
  have hlen := r.length
  have hg : wpAny (model X.prog X.w) X.A (getItem (.ref a) (.ref s3.heap.objs.size)) (EP X pins σ Q) X.xe { s3 with heap := s3.heap.push { cls := .type "slice", data := .fields #[.none, .none, .int (-1) t] } } := by
    refine getItem_tuple_rev ht (Heap.IsSliceOf.new ..) ?_ (by omega)
    refine ⟨.ref _, _, I4.laid (t' := s3.toks) (o := .tup xs.reverse) (fun b ob q => Heap.get?_push_of_some _ q) (Nat.le_refl _) ?_, rfl, q _ (I4.hok.fresh (Nat.le_refl _))⟩
    exact ⟨by rw [List.length_reverse]; exact hz, _, r.reverse, IsTup.new _ _⟩
  show wpAny (model X.prog X.w) X.A (subscriptTail e (.Slice none none (some st) p2) (.ref a) (.ref s3.heap.objs.size)) (EP X pins σ Q) X.xe { s3 with heap := s3.heap.push { cls := .type "slice", data := .fields #[.none, .none, .int (-1) t] } }
  exact tail_any (ops := [.ref a, .ref s3.heap.objs.size]) ht.typeIs PyProof.Rows.slot_tuple_getitem.lookup hg (by with_unfolding_all rfl)
end Wn
/-! values beside lists that still grow: the heap without them; expressions over it -/
namespace Wn
open PySem PySem.Spec PyProof.Rows L2

def di (xs : List Nat) : PyData := .tuple ((ni xs).map PyData.int)
theorem sm_ni {xs : List Nat} {m : Nat} (h : ∀ k ∈ xs, k < 8192) (hm : xs.length ≤ m) : Sm (di xs) 13 1 (m * 14) := by
  refine Sm.tup (W := 13) m (fun d hd => ?_) (by unfold ni; rw [List.length_map, List.length_map]; exact hm)
  obtain ⟨z, hz, rfl⟩ := List.mem_map.mp hd
  obtain ⟨k, hk, rfl⟩ := List.mem_map.mp hz
  exact Sm.int (by decide) (by rw [Int.natAbs_natCast]; exact h k hk) (by decide)
theorem sml_ni {xs : List Nat} {m : Nat} (h : ∀ k ∈ xs, k < 8192) (hm : xs.length ≤ m) : Sm (.list ((ni xs).map PyData.int)) 13 1 (m * 14) := by
  refine Sm.lst (W := 13) m (fun d hd => ?_) (by unfold ni; rw [List.length_map, List.length_map]; exact hm)
  obtain ⟨z, hz, rfl⟩ := List.mem_map.mp hd
  obtain ⟨k, hk, rfl⟩ := List.mem_map.mp hz
  exact Sm.int (by decide) (by rw [Int.natAbs_natCast]; exact h k hk) (by decide)
theorem dp_vnT {K : PySem.W.Frag} {H : Hp} {t : Addr} {xs : List Nat} (h : H t = some (.tup (vn xs))) : Dp K H (.ref t) (di xs) := by
  rw [vn_ni] at h
  exact dp_tup h (dpAll_ints _)
theorem dp_vnL {K : PySem.W.Frag} {H : Hp} {t : Addr} {xs : List Nat} (h : H t = some (.lst (vn xs))) : Dp K H (.ref t) (.list ((ni xs).map PyData.int)) := by
  rw [vn_ni] at h
  exact dp_lst h (dpAll_ints _)

/-! values beside lists that still grow: the heap without them -/
def hid (W : List Addr) (H : Hp) : Hp := fun a => if a ∈ W then none else H a
theorem hid_get {W : List Addr} {H : Hp} {a : Addr} {o : HO} (h : H a = some o) (n : a ∉ W) : hid W H a = some o := by
  unfold hid
  rw [if_neg n]
  exact h
theorem hid_inv {W : List Addr} {H : Hp} {a : Addr} {o : HO} (h : hid W H a = some o) : a ∉ W ∧ H a = some o := by
  unfold hid at h
  by_cases m : a ∈ W
  · rw [if_pos m] at h
    cases h
  · rw [if_neg m] at h
    exact ⟨m, h⟩
theorem hid_kp {W : List Addr} {H H' : Hp} (g : Gr W H H') : Kp (hid W H) (hid W H') :=
  ⟨fun a _ e => hid_get (g a _ (hid_inv e).1 (hid_inv e).2) (hid_inv e).1, fun a _ e => hid_get (g a _ (hid_inv e).1 (hid_inv e).2) (hid_inv e).1, fun a _ _ e => hid_get (g a _ (hid_inv e).1 (hid_inv e).2) (hid_inv e).1⟩
theorem hid_out {W : List Addr} {H : Hp} : Kp (hid W H) H := ⟨fun a _ e => (hid_inv e).2, fun a _ e => (hid_inv e).2, fun a _ _ e => (hid_inv e).2⟩
theorem hid_in0 {H : Hp} : Kp H (hid [] H) := ⟨fun a _ e => hid_get e (by simp), fun a _ e => hid_get e (by simp), fun a _ _ e => hid_get e (by simp)⟩
theorem ne_none {H : Hp} {a S : Addr} {o : HO} (e : H a = some o) (n : H S = none) : a ∉ [S] := fun m => by
  rw [List.mem_singleton] at m
  subst m
  rw [n] at e
  cases e
theorem hid_in {H H' : Hp} {S : Addr} (n : H S = none) (g : Gr [S] H H') : Kp H (hid [S] H') :=
  ⟨fun a _ e => hid_get (g a _ (ne_none e n) e) (ne_none e n), fun a _ e => hid_get (g a _ (ne_none e n) e) (ne_none e n), fun a _ _ e => hid_get (g a _ (ne_none e n) e) (ne_none e n)⟩
def Wst (W : List Addr) (H : Hp) : Prop := ∀ a, a ∈ W → H a ≠ none
theorem Wst.gr {W : List Addr} {H H' : Hp} (s : Wst W H) (g : Gr [] H H') : Wst W H' := fun a m z => by
  cases e : H a with
  | none => exact s a m e
  | some o =>
    rw [g a o (by simp) e] at z
    cases z
theorem Wst.ne {W : List Addr} {H : Hp} {p : Addr} (s : Wst W H) (n : H p = none) : p ∉ W := fun m => s p m n
theorem gr0 {W : List Addr} {H H' : Hp} (g : Gr [] H H') : Gr W H H' := g.mono (by simp)
section
variable {K : PySem.W.Frag} {σ : L2.St} {H : Hp} {W : List Addr}
theorem dpAll_take {H : Hp} : ∀ {vs : List V} {ds : List PyData} (j : Nat), DpAll K H vs ds → DpAll K H (vs.take j) (ds.take j)
  | _, _, 0, _ => by
    rw [List.take_zero, List.take_zero]
    exact .nil
  | _, _, j + 1, .nil => .nil
  | _, _, j + 1, .cons a b => .cons a (dpAll_take j b)
def EvW (K : PySem.W.Frag) (W : List Addr) (te : TE) (σ : L2.St) (H : Hp) (d : PyData) : Prop := ∀ H1, Gr W H H1 → Wst W H1 → ∀ Q : VK, (∀ v H2, Gr [] H1 H2 → Dp K (hid W H2) v d → Q v H2) → te σ H1 Q
def EsW (K : PySem.W.Frag) (W : List Addr) (ta : TA) (σ : L2.St) (H : Hp) (ds : List PyData) : Prop := ∀ H1, Gr W H H1 → Wst W H1 → ∀ Q : List V → Hp → Prop, (∀ vs H2, Gr [] H1 H2 → DpAll K (hid W H2) vs ds → Q vs H2) → ta σ H1 Q
def ElW (W : List Addr) (te : TE) (σ : L2.St) (H : Hp) (xs : List Nat) : Prop := ∀ H1, Gr W H H1 → Wst W H1 → ∀ Q : VK, (∀ p H2, Gr [] H1 H2 → p ∉ W → H2 p = some (.lst (vn xs)) → Q (.ref p) H2) → te σ H1 Q
theorem ew_var {i : Nat} {v : V} {d : PyData} (e : σ[i]? = some (some v)) (h : Dp K (hid W H) v d) : EvW K W (tVar i) σ H d := fun H1 g _ Q q => ⟨v, e, q v H1 (Gr.refl _ _) (Dp.kp (hid_kp g) h)⟩
theorem ew_int {i : Int} : EvW K W (tC (.int i)) σ H (.int i) := fun H1 _ _ Q q => q _ H1 (Gr.refl _ _) (.int i)
theorem ew_bl {i : Bool} : EvW K W (tC (.bl i)) σ H (.bool i) := fun H1 _ _ Q q => q _ H1 (Gr.refl _ _) (.bl i)
theorem ew_str {i : Str} : EvW K W (tC (.str i)) σ H (.str i) := fun H1 _ _ Q q => q _ H1 (Gr.refl _ _) (.str i)
theorem ew_non : EvW K W (tC .non) σ H .none := fun H1 _ _ Q q => q _ H1 (Gr.refl _ _) .non
theorem esw_nil : EsW K W tNil σ H [] := fun H1 _ _ Q q => q _ H1 (Gr.refl _ _) .nil
theorem esw_cons {te : TE} {ta : TA} {d : PyData} {ds : List PyData} (h : EvW K W te σ H d) (r : EsW K W ta σ H ds) : EsW K W (tCons te ta) σ H (d :: ds) := fun H1 g s Q q =>
  h H1 g s _ fun v H2 g2 dv => r H2 (g.trans (gr0 g2)) (s.gr g2) _ fun vs H3 g3 dvs => q _ H3 (g2.trans g3) (.cons (Dp.kp (hid_kp (gr0 g3)) dv) dvs)
theorem ew_tup {ta : TA} {ds : List PyData} (h : EsW K W ta σ H ds) (hz : ds.length ≤ 1000 := by exact Nat.le_of_ble_eq_true rfl) : EvW K W (tTup ta) σ H (.tuple ds) := fun H1 g s Q q =>
  h H1 g s _ fun vs H2 g2 a => ⟨by rw [dpAll_len a]; exact Nat.le_of_lt (small1000 hz), fun p np => q _ _ (g2.trans (Gr.new np)) (dp_tup (hid_get upd_same ((s.gr g2).ne np)) (DpAll.kp (hid_kp (Gr.new np)) a))⟩
theorem ew_lst {ta : TA} {ds : List PyData} (h : EsW K W ta σ H ds) (hz : ds.length ≤ 1000 := by exact Nat.le_of_ble_eq_true rfl) : EvW K W (tLst ta) σ H (.list ds) := fun H1 g s Q q =>
  h H1 g s _ fun vs H2 g2 a => ⟨by rw [dpAll_len a]; exact Nat.le_of_lt (small1000 hz), fun p np => q _ _ (g2.trans (Gr.new np)) (dp_lst (hid_get upd_same ((s.gr g2).ne np)) (DpAll.kp (hid_kp (Gr.new np)) a))⟩
theorem elw_var {i : Nat} {r : Addr} {xs : List Nat} (e : σ[i]? = some (some (.ref r))) (h : H r = some (.lst (vn xs))) (n : r ∉ W) : ElW W (tVar i) σ H xs := fun H1 g _ Q q => ⟨_, e, q r H1 (Gr.refl _ _) n (g r _ n h)⟩
def lstD (xs : List Nat) : PyData := .list ((ni xs).map PyData.int)
theorem elw_d {te : TE} {xs : List Nat} (h : ElW W te σ H xs) : EvW K W te σ H (lstD xs) := fun H1 g s Q q => h H1 g s _ fun p H2 g2 n e => q _ H2 g2 (dp_vnL (hid_get e n))
theorem elw_take {te : TE} {xs : List Nat} {j : Nat} (h : ElW W te σ H xs) (hj : j ≤ xs.length) : ElW W (tSl (rSlL K) te tNoPart (tPart (tC (.int (j : Nat))))) σ H (xs.take j) := fun H1 g s Q q =>
  h H1 g s _ fun p H2 g2 n e => ⟨(j : Int), rfl, p, vn xs, rfl, sq_lst e, fun t nt => q t _ (g2.trans (Gr.new nt)) ((s.gr g2).ne nt) (by
    rw [upd_same, cut_lo (by rw [vn_len]; exact hj)]
    unfold vn
    rw [List.map_take])⟩
theorem elw_drop {te : TE} {xs : List Nat} {j : Nat} (h : ElW W te σ H xs) (hj : j ≤ xs.length) : ElW W (tSl (rSlL K) te (tPart (tC (.int (j : Nat)))) tNoPart) σ H (xs.drop j) := fun H1 g s Q q =>
  h H1 g s _ fun p H2 g2 n e => ⟨(j : Int), rfl, p, vn xs, rfl, sq_lst e, fun t nt => q t _ (g2.trans (Gr.new nt)) ((s.gr g2).ne nt) (by
    rw [upd_same, cut_hi (by rw [vn_len]; exact hj)]
    unfold vn
    rw [List.map_drop])⟩
theorem cut_init {xs : List Nat} {y : Nat} : cutV (vn (xs ++ [y])) none (some (-1)) = vn xs := by
  unfold cutV
  have e : HT.sIx (vn (xs ++ [y])).length (vn (xs ++ [y])).length (some (-1)) = xs.length := by
    have e0 : ∀ n d : Nat, HT.sIx n d (some (-1)) = ((-1 : Int) + (n : Int)).toNat := fun n d => by
      unfold HT.sIx
      exact if_pos (by decide)
    rw [e0, vn_len, List.length_append]
    show ((-1 : Int) + ((xs.length + 1 : Nat) : Int)).toNat = _
    omega
  rw [e, HT.sIx_none, List.drop_zero, Nat.sub_zero]
  unfold vn
  rw [← List.map_take, List.take_append_of_le_length (Nat.le_refl _), List.take_length]
theorem elw_init {te : TE} {xs : List Nat} {y : Nat} (h : ElW W te σ H (xs ++ [y])) : ElW W (tSl (rSlL K) te tNoPart (tPart (tUn (rU fun i => V.int (-i)) (tC (.int 1))))) σ H xs := fun H1 g s Q q =>
  h H1 g s _ fun p H2 g2 n e => ⟨1, rfl, (-1 : Int), rfl, p, vn (xs ++ [y]), rfl, sq_lst e, fun t nt => q t _ (g2.trans (Gr.new nt)) ((s.gr g2).ne nt) (by rw [upd_same, cut_init])⟩
theorem elw_cat {ta tb : TE} {xs ys : List Nat} (h1 : ElW W ta σ H xs) (h2 : ElW W tb σ H ys) (hz : xs.length + ys.length ≤ 6000) : ElW W (tOp rCat ta tb) σ H (xs ++ ys) := fun H1 g s Q q =>
  h1 H1 g s _ fun p H2 g2 n2 e2 => h2 H2 (g.trans (gr0 g2)) (s.gr g2) _ fun p3 H3 g3 n3 e3 =>
    ⟨p, p3, vn xs, vn ys, rfl, rfl, g3 p _ (by simp) e2, e3, by rw [vn_len, vn_len]; exact Nat.le_trans hz (by decide), fun t nt => q t _ ((g2.trans g3).trans (Gr.new nt)) (((s.gr g2).gr g3).ne nt) (by
      rw [upd_same]
      unfold vn
      rw [List.map_append])⟩
theorem ew_tupOf {te : TE} {xs : List Nat} (h : ElW W te σ H xs) : EvW K W (tCB (rTpO K) (tCons te tNil)) σ H (di xs) := fun H1 g s Q q =>
  h H1 g s _ fun p H2 g2 n e => ⟨p, vn xs, rfl, .inl ⟨sq_lst e, fun t nt => q _ _ (g2.trans (Gr.new nt)) (dp_vnT (hid_get upd_same ((s.gr g2).ne nt)))⟩⟩
theorem ew_listOf {te : TE} {ds : List PyData} (h : EvW K W te σ H (.tuple ds)) : EvW K W (tCB (rLsO K) (tCons te tNil)) σ H (.list ds) := fun H1 g s Q q =>
  h H1 g s _ fun v H2 g2 e => by
    cases e with
    | tup s' a' => exact ⟨_, _, rfl, .inr (hid_out.sqT s'), fun l nl => q _ _ (g2.trans (Gr.new nl)) (dp_lst (hid_get upd_same ((s.gr g2).ne nl)) (DpAll.kp (hid_kp (Gr.new nl)) a'))⟩
theorem ew_slT {te : TE} {ds : List PyData} {j : Nat} (h : EvW K W te σ H (.tuple ds)) (hj : j ≤ ds.length) : EvW K W (tSl (rSlA K) te tNoPart (tPart (tC (.int (j : Nat))))) σ H (.tuple (ds.take j)) := fun H1 g s Q q =>
  h H1 g s _ fun v H2 g2 e => by
    cases e with
    | @tup a ys _ s' t =>
      have hl := dpAll_len t
      refine ⟨(j : Int), rfl, a, ys, rfl, hid_out.sqT s', fun z => ?_, fun _ p np => ?_⟩
      · have e1 := z.2
        rw [HT.sIx_nat] at e1
        have e2 : ds.take j = ds := List.take_of_length_le (by omega)
        refine q _ H2 g2 ?_
        rw [e2]
        exact .tup s' t
      · refine q _ _ (g2.trans (Gr.new np)) (dp_tup (hid_get upd_same ((s.gr g2).ne np)) ?_)
        rw [cut_lo (by omega)]
        exact DpAll.kp (hid_kp (Gr.new np)) (dpAll_take j t)
theorem ew_catT {ta tb : TE} {ds es : List PyData} (h1 : EvW K W ta σ H (.tuple ds)) (h2 : EvW K W tb σ H (.tuple es)) (hz : ds.length + es.length ≤ 6000) : EvW K W (tOp (rCatA K) ta tb) σ H (.tuple (ds ++ es)) := fun H1 g s Q q =>
  h1 H1 g s _ fun v H2 g2 e2 => h2 H2 (g.trans (gr0 g2)) (s.gr g2) _ fun v3 H3 g3 e3 => by
    have e2 := Dp.kp (hid_kp (gr0 g3)) e2
    cases e2 with
    | @tup a xs _ s1 t1 =>
      cases e3 with
      | @tup b ys _ s2 t2 =>
        have l1 := dpAll_len t1
        have l2 := dpAll_len t2
        refine ⟨a, b, xs, ys, rfl, rfl, hid_out.sqT s1, hid_out.sqT s2, Nat.le_trans (show _ ≤ 6000 by omega) (by decide), fun z => ?_, fun _ z => ?_, fun _ _ p np => ?_⟩
        · subst z
          cases t1
          exact q _ H3 (g2.trans g3) (.tup s2 t2)
        · subst z
          cases t2
          rw [List.append_nil] at q
          exact q _ H3 (g2.trans g3) (.tup s1 t1)
        · exact q _ _ ((g2.trans g3).trans (Gr.new np)) (dp_tup (hid_get upd_same (((s.gr g2).gr g3).ne np)) (DpAll.kp (hid_kp (Gr.new np)) (dpAll_append t1 t2)))
/-- a pair put to a list that grows -/
theorem hid_put {H : Hp} {S p : Addr} {vs : List V} {ds : List PyData} {s : Str} {v : V} {d : PyData} (e : H S = some (.lst vs)) (a : DpAll K (hid [S] H) vs ds) (h : Dp K (hid [S] H) v d) (np : H p = none) :
    (upd H p (.tup [.str s, v])) S = some (.lst vs) ∧ Gr [S] H (upd (upd H p (.tup [.str s, v])) S (.lst (vs ++ [.ref p]))) ∧ DpAll K (hid [S] (upd (upd H p (.tup [.str s, v])) S (.lst (vs ++ [.ref p])))) (vs ++ [.ref p]) (ds ++ [.tuple [.str s, d]]) := by
  have hne : p ≠ S := fun z => by
    subst z
    rw [np] at e
    cases e
  have g1 : Gr [] H (upd H p (.tup [.str s, v])) := Gr.new np
  have g2 : Gr [S] H (upd (upd H p (.tup [.str s, v])) S (.lst (vs ++ [.ref p]))) := (gr0 g1).trans (Gr.wr (by simp))
  have hp : hid [S] (upd (upd H p (.tup [.str s, v])) S (.lst (vs ++ [.ref p]))) p = some (.tup [.str s, v]) := hid_get (by rw [upd_ne hne, upd_same]) (by simpa using hne)
  exact ⟨g1 S _ (by simp) e, g2, dpAll_append (DpAll.kp (hid_kp g2) a) (.cons (dp_tup hp (.cons (.str _) (.cons (Dp.kp (hid_kp g2) h) .nil))) .nil)⟩
end

theorem EvW.evd {K : PySem.W.Frag} {te : TE} {σ : L2.St} {H : Hp} {d : PyData} (h : EvW K [] te σ H d) : EvD K te σ H d := fun H1 g Q q => h H1 g (fun a m => by simp at m) Q fun v H2 g2 e => q v H2 g2 (Dp.kp hid_out e)
theorem EvD.evw {K : PySem.W.Frag} {te : TE} {σ : L2.St} {H : Hp} {d : PyData} (h : EvD K te σ H d) : EvW K [] te σ H d := fun H1 g _ Q q => h H1 g Q fun v H2 g2 e => q v H2 g2 (Dp.kp hid_in0 e)
theorem dpA_at {K : PySem.W.Frag} {H : Hp} : ∀ {xs : List V} {ds : List PyData} {i : Nat} {y : V}, DpAll K H xs ds → xs[i]? = some y → ∃ d, ds[i]? = some d ∧ Dp K H y d
  | _, _, i, y, .nil, h => by simp at h
  | _, _, 0, y, .cons a b, h => by
    simp at h
    subst h
    exact ⟨_, rfl, a⟩
  | _, _, i + 1, y, .cons a b, h => by
    obtain ⟨d, e1, e2⟩ := dpA_at (i := i) b (by simpa using h)
    exact ⟨d, by simpa using e1, e2⟩
theorem dpA_get {K : PySem.W.Frag} {H : Hp} : ∀ {xs : List V} {ds : List PyData} {i : Nat} {d : PyData}, DpAll K H xs ds → ds[i]? = some d → ∃ y, xs[i]? = some y ∧ Dp K H y d
  | _, _, i, y, .nil, h => by simp at h
  | _, _, 0, y, .cons a b, h => by
    simp at h
    subst h
    exact ⟨_, rfl, a⟩
  | _, _, i + 1, y, .cons a b, h => by
    obtain ⟨d, e1, e2⟩ := dpA_get (i := i) b (by simpa using h)
    exact ⟨d, by simpa using e1, e2⟩
theorem dpA_drop {K : PySem.W.Frag} {H : Hp} : ∀ {vs : List V} {ds : List PyData} (j : Nat), DpAll K H vs ds → DpAll K H (vs.drop j) (ds.drop j)
  | _, _, 0, h => by
    rw [List.drop_zero, List.drop_zero]
    exact h
  | _, _, j + 1, .nil => .nil
  | _, _, j + 1, .cons a b => dpA_drop j b
theorem dpA_rev {K : PySem.W.Frag} {H : Hp} : ∀ {vs : List V} {ds : List PyData}, DpAll K H vs ds → DpAll K H vs.reverse ds.reverse
  | _, _, .nil => .nil
  | _, _, .cons a b => by
    rw [List.reverse_cons, List.reverse_cons]
    exact dpAll_append (dpA_rev b) (.cons a .nil)
theorem hid_ofM {W : List Addr} {H H' : Hp} {d : Addr} (g : Gr [d] H H') (h : ∃ kvs, H d = some (.dK kvs)) (n : d ∉ W) : Kp (hid W H) (hid W H') :=
  Kp.ofM (d := d) (fun a o m e => hid_get (g a o m (hid_inv e).2) (hid_inv e).1) (by
    obtain ⟨kvs, h⟩ := h
    exact ⟨kvs, hid_get h n⟩)
theorem fresh_keep {H H1 H2 : Hp} {d : Addr} (nd : H d = none) (g1 : Gr [] H H1) (g2 : Gr [d] H1 H2) : Gr [] H H2 := fun u o _ e => g2 u o (by rw [List.mem_singleton]; exact ne_of_none e nd) (g1 u o (by simp) e)
theorem cut_hi' {xs : List V} {j : Nat} : cutV xs (some (j : Int)) none = xs.drop j := by
  unfold cutV
  rw [HT.sIx_nat, HT.sIx_none]
  rcases Nat.le_total j xs.length with h | h
  · rw [Nat.min_eq_left h]
    exact List.take_of_length_le (by rw [List.length_drop]; omega)
  · rw [Nat.min_eq_right h, List.drop_eq_nil_of_le h, Nat.sub_self, List.take_zero]
theorem cut_lo' {xs : List V} {j : Nat} : cutV xs none (some (j : Int)) = xs.take j := by
  unfold cutV
  rw [HT.sIx_nat, HT.sIx_none, List.drop_zero, Nat.sub_zero]
  rcases Nat.le_total j xs.length with h | h
  · rw [Nat.min_eq_left h]
  · rw [Nat.min_eq_right h, List.take_of_length_le h, List.take_of_length_le (Nat.le_refl _)]
section
variable {K : PySem.W.Frag} {σ : L2.St} {H : Hp} {W : List Addr}
theorem EvW.on {te : TE} {d : PyData} {H' : Hp} (h : EvW K W te σ H d) (g : Gr W H H') : EvW K W te σ H' d := fun H1 g1 s Q q => h H1 (g.trans g1) s Q q
theorem ew_i0 {g : Int → Int → Int} {ta tb : TE} {i j : Int} (h1 : EvW K W ta σ H (.int i)) (h2 : EvW K W tb σ H (.int j)) : EvW K W (tOp (rI0 fun i j => .int (g i j)) ta tb) σ H (.int (g i j)) := fun H1 gr s Q q =>
  h1 H1 gr s _ fun v H2 g2 e => h2 H2 (gr.trans (gr0 g2)) (s.gr g2) _ fun w H3 g3 e3 => by
    obtain rfl := dp_int e
    obtain rfl := dp_int e3
    exact ⟨i, j, rfl, rfl, q _ H3 (g2.trans g3) (.int _)⟩
theorem ew_iC {C : Int → Int → Prop} {g : Int → Int → Int} {ta tb : TE} {i j : Int} (h1 : EvW K W ta σ H (.int i)) (h2 : EvW K W tb σ H (.int j)) (hc : C i j) : EvW K W (tOp (rI C fun i j => .int (g i j)) ta tb) σ H (.int (g i j)) := fun H1 gr s Q q =>
  h1 H1 gr s _ fun v H2 g2 e => h2 H2 (gr.trans (gr0 g2)) (s.gr g2) _ fun w H3 g3 e3 => by
    obtain rfl := dp_int e
    obtain rfl := dp_int e3
    exact ⟨i, j, rfl, rfl, hc, q _ H3 (g2.trans g3) (.int _)⟩
theorem ew_neg {g : Int → Int} {ta : TE} {i : Int} (h1 : EvW K W ta σ H (.int i)) : EvW K W (tUn (rU fun i => .int (g i)) ta) σ H (.int (g i)) := fun H1 gr s Q q =>
  h1 H1 gr s _ fun v H2 g2 e => by
    obtain rfl := dp_int e
    exact ⟨i, rfl, q _ H2 g2 (.int _)⟩
theorem ew_to {te : TE} {d e : PyData} (h : EvW K W te σ H d) (z : d = e) : EvW K W te σ H e := z ▸ h
theorem ew_take {te tp : TE} {ds : List PyData} {j : Nat} (h : EvW K W te σ H (.tuple ds)) (hp : EvW K W tp σ H (.int (j : Nat))) : EvW K W (tSl (rSlA K) te tNoPart (tPart tp)) σ H (.tuple (ds.take j)) := fun H1 g s Q q =>
  h H1 g s _ fun v H2 g2 e => hp H2 (g.trans (gr0 g2)) (s.gr g2) _ fun vj H3 g3 ej => by
    obtain rfl := dp_int ej
    have e := Dp.kp (hid_kp (gr0 g3)) e
    cases e with
    | @tup a ys _ s' t =>
      have hl := dpAll_len t
      refine ⟨(j : Int), rfl, a, ys, rfl, hid_out.sqT s', fun z => ?_, fun _ p np => ?_⟩
      · have e1 := z.2
        rw [HT.sIx_nat] at e1
        have e2 : ds.take j = ds := List.take_of_length_le (by omega)
        refine q _ H3 (g2.trans g3) ?_
        rw [e2]
        exact .tup s' t
      · refine q _ _ ((g2.trans g3).trans (Gr.new np)) (dp_tup (hid_get upd_same (((s.gr g2).gr g3).ne np)) ?_)
        rw [cut_lo']
        exact DpAll.kp (hid_kp (Gr.new np)) (dpAll_take j t)
theorem ew_drop {te tp : TE} {ds : List PyData} {j : Nat} (h : EvW K W te σ H (.tuple ds)) (hp : EvW K W tp σ H (.int (j : Nat))) : EvW K W (tSl (rSlA K) te (tPart tp) tNoPart) σ H (.tuple (ds.drop j)) := fun H1 g s Q q =>
  h H1 g s _ fun v H2 g2 e => hp H2 (g.trans (gr0 g2)) (s.gr g2) _ fun vj H3 g3 ej => by
    obtain rfl := dp_int ej
    have e := Dp.kp (hid_kp (gr0 g3)) e
    cases e with
    | @tup a ys _ s' t =>
      have hl := dpAll_len t
      refine ⟨(j : Int), rfl, a, ys, rfl, hid_out.sqT s', fun z => ?_, fun _ p np => ?_⟩
      · have e1 := z.1
        rw [HT.sIx_nat] at e1
        refine q _ H3 (g2.trans g3) ?_
        have e2 : ds.drop j = ds := by
          rcases Nat.eq_zero_or_pos j with z | z
          · subst z
            rfl
          · have : ds.length = 0 := by omega
            rw [List.length_eq_zero_iff.mp this]
            cases j <;> rfl
        rw [e2]
        exact .tup s' t
      · refine q _ _ ((g2.trans g3).trans (Gr.new np)) (dp_tup (hid_get upd_same (((s.gr g2).gr g3).ne np)) ?_)
        rw [cut_hi']
        exact DpAll.kp (hid_kp (Gr.new np)) (dpA_drop j t)
theorem ew_rev {te : TE} {ds : List PyData} (h : EvW K W te σ H (.tuple ds)) : EvW K W (tStL (rRvT K) te (tUn (rU fun i => V.int (-i)) (tC (.int 1)))) σ H (.tuple ds.reverse) := fun H1 g s Q q =>
  h H1 g s _ fun v H2 g2 e => by
    cases e with
    | @tup a ys _ s' t =>
      exact ⟨1, rfl, a, ys, rfl, rfl, hid_out.sqT s', fun p np => q _ _ (g2.trans (Gr.new np)) (dp_tup (hid_get upd_same ((s.gr g2).ne np)) (DpAll.kp (hid_kp (Gr.new np)) (dpA_rev t)))⟩
theorem ew_ixT {te ti : TE} {ds : List PyData} {d : PyData} {j : Nat} (h : EvW K W te σ H (.tuple ds)) (hi : EvW K W ti σ H (.int (j : Nat))) (hj : ds[j]? = some d) : EvW K W (tOp (rIxT K) te ti) σ H d := fun H1 g s Q q =>
  h H1 g s _ fun v H2 g2 e => hi H2 (g.trans (gr0 g2)) (s.gr g2) _ fun vi H3 g3 ei => by
    obtain rfl := dp_int ei
    have e := Dp.kp (hid_kp (gr0 g3)) e
    cases e with
    | @tup a ys _ s' t =>
      obtain ⟨y, hy, dy⟩ := dpA_get t hj
      exact ⟨a, ys, (j : Int), y, rfl, rfl, hid_out.sqT s', atI_nat hy, q _ H3 (g2.trans g3) dy⟩
theorem ew_ixL {te ti : TE} {ds : List PyData} {d : PyData} {j : Nat} (h : EvW K W te σ H (.list ds)) (hi : EvW K W ti σ H (.int (j : Nat))) (hj : ds[j]? = some d) : EvW K W (tOp (rIxL K) te ti) σ H d := fun H1 g s Q q =>
  h H1 g s _ fun v H2 g2 e => hi H2 (g.trans (gr0 g2)) (s.gr g2) _ fun vi H3 g3 ei => by
    obtain rfl := dp_int ei
    have e := Dp.kp (hid_kp (gr0 g3)) e
    cases e with
    | @lst a ys _ s' t =>
      obtain ⟨y, hy, dy⟩ := dpA_get t hj
      exact ⟨a, ys, (j : Int), y, rfl, rfl, hid_out.sqL s', atI_nat hy, q _ H3 (g2.trans g3) dy⟩
theorem ew_lenT {te : TE} {ds : List PyData} (h : EvW K W te σ H (.tuple ds)) : EvW K W (tCB (rLn K) (tCons te tNil)) σ H (.int (ds.length : Nat)) := fun H1 g s Q q =>
  h H1 g s _ fun v H2 g2 e => by
    cases e with
    | @tup a ys _ s' t => exact ⟨a, ys, rfl, .inr (hid_out.sqT s'), by rw [dpAll_len t]; exact q _ H2 g2 (.int _)⟩
theorem ew_lenL {te : TE} {ds : List PyData} (h : EvW K W te σ H (.list ds)) : EvW K W (tCB (rLn K) (tCons te tNil)) σ H (.int (ds.length : Nat)) := fun H1 g s Q q =>
  h H1 g s _ fun v H2 g2 e => by
    cases e with
    | @lst a ys _ s' t => exact ⟨a, ys, rfl, .inl (hid_out.sqL s'), by rw [dpAll_len t]; exact q _ H2 g2 (.int _)⟩
theorem ew_repr {te : TE} {d : PyData} (h : EvW K W te σ H d) (f : Fits d) : EvW K W (tCB (rRepr K) (tCons te tNil)) σ H (.str d.shown) := fun H1 g s Q q =>
  h H1 g s _ fun v H2 g2 a => ⟨v, d, rfl, Dp.kp hid_out a, f, q _ H2 g2 (.str _)⟩
theorem ew_neS {ta tb : TE} {x y : Str} (h1 : EvW K W ta σ H (.str x)) (h2 : EvW K W tb σ H (.str y)) : EvW K W (tOp rNe ta tb) σ H (.bool (!decide (x = y))) := fun H1 g s Q q =>
  h1 H1 g s _ fun v H2 g2 a => h2 H2 (g.trans (gr0 g2)) (s.gr g2) _ fun w H3 g3 b => by
    have e1 : v = .str x := by cases a; rfl
    have e2 : w = .str y := by cases b; rfl
    subst e1 e2
    refine ⟨rfl, ?_⟩
    have e3 : decide (V.str x = V.str y) = decide (x = y) := by
      rw [decide_eq_decide]
      exact ⟨fun z => V.str.inj z, fun z => by rw [z]⟩
    show Q (.bl (!decide (V.str x = V.str y))) H3
    rw [e3]
    exact q _ H3 (g2.trans g3) (.bl _)
theorem ew_eqD {ta tb : TE} {d e : PyData} (h1 : EvW K W ta σ H d) (h2 : EvW K W tb σ H e) (s1 : SeqAt.shaped d = true) (s2 : SeqAt.shaped e = true) : EvW K W (tOp (rEqD K) ta tb) σ H (.bool (PyData.eqv d e)) := fun H1 g s Q q =>
  h1 H1 g s _ fun v H2 g2 a => h2 H2 (g.trans (gr0 g2)) (s.gr g2) _ fun w H3 g3 b => ⟨d, e, Dp.kp hid_out (Dp.kp (hid_kp (gr0 g3)) a), Dp.kp hid_out b, s1, s2, q _ H3 (g2.trans g3) (.bl _)⟩
theorem ew_neD {ta tb : TE} {d e : PyData} (h1 : EvW K W ta σ H d) (h2 : EvW K W tb σ H e) (s1 : SeqAt.shaped d = true) (s2 : SeqAt.shaped e = true) : EvW K W (tOp (rNeD K) ta tb) σ H (.bool (!PyData.eqv d e)) := fun H1 g s Q q =>
  h1 H1 g s _ fun v H2 g2 a => h2 H2 (g.trans (gr0 g2)) (s.gr g2) _ fun w H3 g3 b => ⟨d, e, Dp.kp hid_out (Dp.kp (hid_kp (gr0 g3)) a), Dp.kp hid_out b, s1, s2, q _ H3 (g2.trans g3) (.bl _)⟩
/-- a test that is data, under hidden lists -/
theorem tw_of {te : TE} {b : Bool} {Q : Bool → Hp → Prop} (wst : Wst W H) (h : EvW K W te σ H (.bool b)) (q : ∀ H2, Gr [] H H2 → Q b H2) : tTest te σ H Q := h H (Gr.refl _ _) wst _ fun v H2 g2 e => ⟨b, dp_bool e, q H2 g2⟩
theorem twb_of {te : TE} {b : Bool} {Q : Bool → Hp → Prop} (wst : Wst W H) (h : EvW K W te σ H (.bool b)) (q : ∀ H2, Gr [] H H2 → Q b H2) : tB te σ H Q := h H (Gr.refl _ _) wst _ fun v H2 g2 e => ⟨b, dp_bool e, q H2 g2⟩
theorem st_asgW {ta : TA} {i : Nat} {ds : List PyData} {D : Ends} (h : EsW K [] ta σ H ds) (hz : ds.length ≤ 1000) (k : ∀ vs H2 S, Gr [] H H2 → H2 S = none → DpAll K H2 vs ds → D.nx (σ.set i (some (.ref S))) (upd H2 S (.lst vs))) : tAsg (tLst ta) (gName i) D σ H :=
  h H (Gr.refl _ _) (fun a m => by simp at m) _ fun vs H2 g2 a => ⟨by rw [dpAll_len a]; exact Nat.le_of_lt (small1000 hz), fun S nS => k vs H2 S g2 nS (DpAll.kp hid_out a)⟩
theorem st_asgV {ta : TA} {i : Nat} {ds : List PyData} {D : Ends} (wst : Wst W H) (h : EsW K W ta σ H ds) (hz : ds.length ≤ 1000) (k : ∀ os H2 p, Gr [] H H2 → H2 p = none → p ∉ W → DpAll K (hid W H2) os ds → D.nx (σ.set i (some (.ref p))) (upd H2 p (.lst os))) : tAsg (tLst ta) (gName i) D σ H :=
  h H (Gr.refl _ _) wst _ fun vs H2 g2 a => ⟨by rw [dpAll_len a]; exact Nat.le_of_lt (small1000 hz), fun p np => k vs H2 p g2 np ((wst.gr g2).ne np) a⟩
/-- xs.append(e), by the size of the list -/
theorem st_appD {te : TE} {i : Nat} {l : Addr} {xs : List V} {ds : List PyData} {d : PyData} {D : Ends} (hi : σ[i]? = some (some (.ref l))) (e : H l = some (.lst xs)) (a : DpAll K H xs ds) (h : EvW K [] te σ H d) (hn : noLenAll ds.length (ds ++ [d]) = true) (hz : ds.length < 1000)
    (k : ∀ ys H2, Gr [l] H H2 → H2 l = some (.lst ys) → DpAll K H2 ys (ds ++ [d]) → (∀ v d, Dp K H v d → noLen ds.length d = true → Dp K H2 v d) → D.nx σ H2) : tDrop (tBM K "list" rAppend (tVar i) (tCons te tNil)) D σ H := by
  refine ⟨_, hi, .inl ⟨rfl, _, sq_lst e⟩, ?_⟩
  refine h H (Gr.refl _ _) (fun a m => by simp at m) _ fun v H2 g2 dv => ?_
  have dv := Dp.kp hid_out dv
  have hl := dpAll_len a
  have e2 := g2 l _ (by simp) e
  have a2 := DpAll.kp (Kp.of g2) a
  rw [noLenAll_app, Bool.and_eq_true] at hn
  have n2 : noLen ds.length d = true := by
    have := hn.2
    rw [noLenAll, Bool.and_eq_true] at this
    exact this.1
  refine ⟨l, xs, v, rfl, rfl, e2, Nat.lt_of_lt_of_le (show xs.length < 6000 by omega) (by decide), ?_⟩
  refine k (xs ++ [v]) _ ((gr0 g2).trans (Gr.wr (by simp))) upd_same (dpAll_append (DpAll.app e2 a2 (by rw [hl]; exact hn.1)) (.cons (Dp.app e2 dv (by rw [hl]; exact n2)) .nil)) fun w dd hw hn => ?_
  exact Dp.app e2 (Dp.kp (Kp.of g2) hw) (by rw [hl]; exact hn)
theorem dpA_ints : ∀ {H : Hp} {vs : List V} {zs : List Int}, DpAll K H vs (zs.map PyData.int) → vs = zs.map V.int
  | _, _, [], .nil => rfl
  | _, _, z :: zs, .cons a b => by
    rw [dp_int a, dpA_ints b]
    rfl
theorem dpA_int2 {H : Hp} {vs : List V} {x : Int} {d : PyData} (h : DpAll K H vs [.int x, d]) : ∃ v, vs = [.int x, v] ∧ Dp K H v d := by
  cases h with
  | cons a h =>
    cases h with
    | cons b h =>
      cases h
      obtain rfl := dp_int a
      exact ⟨_, rfl, b⟩
theorem dpA_int3 {H : Hp} {vs : List V} {x y : Int} {d : PyData} (h : DpAll K H vs [.int x, .int y, d]) : ∃ v, vs = [.int x, .int y, v] ∧ Dp K H v d := by
  cases h with
  | cons a h =>
    obtain rfl := dp_int a
    obtain ⟨v, rfl, e⟩ := dpA_int2 h
    exact ⟨v, rfl, e⟩
theorem dp_two {H : Hp} {v : V} {i j : Int} (h : Dp K H v (.tuple [.int i, .int j])) : ∃ a, v = .ref a ∧ SqT K H a [.int i, .int j] := by
  cases h with
  | @tup a xs _ s t =>
    cases t with
    | cons h1 t =>
      cases t with
      | cons h2 t =>
        cases t
        obtain rfl := dp_int h1
        obtain rfl := dp_int h2
        exact ⟨a, rfl, s⟩
theorem two_dp {H : Hp} {a : Addr} {i j : Int} (s : SqT K H a [.int i, .int j]) : Dp K H (.ref a) (.tuple [.int i, .int j]) := .tup s (.cons (.int _) (.cons (.int _) .nil))
/-- a call that gives data -/
def SpD (K : PySem.W.Frag) (sp : Sp) (E : XK) (ds : List PyData) (d : PyData) : Prop := ∀ vs H1 Q, DpAll K H1 vs ds → (∀ v H2, Gr [] H1 H2 → Dp K H2 v d → Q v H2) → sp vs H1 Q E
theorem ew_call {sp : Sp} {ta : TA} {E : XK} {ds : List PyData} {d : PyData} (h : EsW K [] ta σ H ds) (hs : SpD K sp E ds d) : EvW K [] (tCall sp [] E ta) σ H d := fun H1 g s Q q =>
  h H1 g s _ fun vs H2 g2 a => by
    show sp (vs ++ []) H2 Q E
    rw [List.append_nil]
    exact hs vs H2 Q (DpAll.kp hid_out a) fun v H3 g3 dv => q v H3 (g2.trans g3) (Dp.kp hid_in0 dv)
theorem ew_andV {ta tb : TE} {a b : Bool} (h1 : EvW K W ta σ H (.bool a)) (h2 : EvW K W tb σ H (.bool b)) : EvW K W (tAndV ta tb) σ H (.bool (a && b)) := fun H1 g s Q q =>
  h1 H1 g s _ fun v H2 g2 e => ⟨a, dp_bool e, by
    cases a with
    | true => exact iteT (h2 H2 (g.trans (gr0 g2)) (s.gr g2) _ fun w H3 g3 e3 => q w H3 (g2.trans g3) e3)
    | false => exact iteF (q _ H2 g2 (.bl false))⟩
theorem ew_orV {ta tb : TE} {a b : Bool} (h1 : EvW K W ta σ H (.bool a)) (h2 : EvW K W tb σ H (.bool b)) : EvW K W (tOrV ta tb) σ H (.bool (a || b)) := fun H1 g s Q q =>
  h1 H1 g s _ fun v H2 g2 e => ⟨a, dp_bool e, by
    cases a with
    | true => exact iteT (q _ H2 g2 (.bl true))
    | false => exact iteF (h2 H2 (g.trans (gr0 g2)) (s.gr g2) _ fun w H3 g3 e3 => q w H3 (g2.trans g3) e3)⟩
theorem ew_catL {ta tb : TE} {ds es : List PyData} (h1 : EvL K ta σ H ds) (h2 : EvL K tb σ H es) (hz : ds.length + es.length ≤ 1000) : EvW K [] (tOp rCat ta tb) σ H (.list (ds ++ es)) := (el_cat h1 h2 hz).d.evw
/-- scalars compared -/
theorem ew_eqI {ta tb : TE} {x y : Int} (h1 : EvW K W ta σ H (.int x)) (h2 : EvW K W tb σ H (.int y)) : EvW K W (tOp rEq ta tb) σ H (.bool (decide (x = y))) := fun H1 g s Q q =>
  h1 H1 g s _ fun v H2 g2 a => h2 H2 (g.trans (gr0 g2)) (s.gr g2) _ fun w H3 g3 b => by
    obtain rfl := dp_int a
    obtain rfl := dp_int b
    refine ⟨rfl, ?_⟩
    have e3 : decide (V.int x = V.int y) = decide (x = y) := by
      rw [decide_eq_decide]
      exact ⟨fun z => V.int.inj z, fun z => by rw [z]⟩
    show Q (.bl (decide (V.int x = V.int y))) H3
    rw [e3]
    exact q _ H3 (g2.trans g3) (.bl _)
theorem ew_neI {ta tb : TE} {x y : Int} (h1 : EvW K W ta σ H (.int x)) (h2 : EvW K W tb σ H (.int y)) : EvW K W (tOp rNe ta tb) σ H (.bool (!decide (x = y))) := fun H1 g s Q q =>
  h1 H1 g s _ fun v H2 g2 a => h2 H2 (g.trans (gr0 g2)) (s.gr g2) _ fun w H3 g3 b => by
    obtain rfl := dp_int a
    obtain rfl := dp_int b
    refine ⟨rfl, ?_⟩
    have e3 : decide (V.int x = V.int y) = decide (x = y) := by
      rw [decide_eq_decide]
      exact ⟨fun z => V.int.inj z, fun z => by rw [z]⟩
    show Q (.bl (!decide (V.int x = V.int y))) H3
    rw [e3]
    exact q _ H3 (g2.trans g3) (.bl _)
theorem ew_bool {te : TE} {a b : Bool} (h : EvW K W te σ H (.bool a)) (e : a = b) : EvW K W te σ H (.bool b) := e ▸ h
/-- x = e, e data, beside hidden lists -/
theorem st_setW {te : TE} {i : Nat} {d : PyData} {D : Ends} (wst : Wst W H) (h : EvW K W te σ H d) (k : ∀ v H2, Gr [] H H2 → Dp K (hid W H2) v d → D.nx (σ.set i (some v)) H2) : tAsg te (gName i) D σ H := h H (Gr.refl _ _) wst _ k
/-- xs = xs + [..], the list and what it holds; all else stays -/
theorem st_catW {ta : TA} {i j : Nat} {S : Addr} {vs : List V} {ds es : List PyData} {D : Ends} (hj : σ[j]? = some (some (.ref S))) (hS : H S = some (.lst vs)) (a : DpAll K H vs ds) (h : EsW K [] ta σ H es) (hz : ds.length + es.length ≤ 1000)
    (k : ∀ ws H2 S2, Gr [] H H2 → H2 S2 = none → DpAll K H2 ws (ds ++ es) → D.nx (σ.set i (some (.ref S2))) (upd H2 S2 (.lst ws))) : tAsg (tOp rCat (tVar j) (tLst ta)) (gName i) D σ H :=
  ⟨_, hj, h H (Gr.refl _ _) (fun a m => by simp at m) _ fun ws H2 g2 b => ⟨by rw [dpAll_len b]; exact Nat.le_of_lt (small1000 (by omega)), fun p np => by
    have g3 : Gr [] H2 (upd H2 p (.lst ws)) := Gr.new np
    have l1 := dpAll_len a
    have l2 := dpAll_len b
    refine ⟨S, p, vs, ws, rfl, rfl, (g2.trans g3) S _ (by simp) hS, upd_same, Nat.le_trans (show _ ≤ 6000 by omega) (by decide), fun S2 n2 => ?_⟩
    exact k _ _ S2 (g2.trans g3) n2 (dpAll_append (DpAll.kp (Kp.of (g2.trans g3)) a) (DpAll.kp (Kp.of g3) (DpAll.kp hid_out b)))⟩⟩
/-- xs.append(e) -/
theorem st_appW {te : TE} {i : Nat} {S : Addr} {vs : List V} {ds : List PyData} {e : PyData} {D : Ends} (hi : σ[i]? = some (some (.ref S))) (hS : H S = some (.lst vs)) (a : DpAll K (hid [S] H) vs ds) (h : EvW K [S] te σ H e) (hz : ds.length ≤ 6000)
    (k : ∀ ws H2, Gr [S] H H2 → H2 S = some (.lst ws) → DpAll K (hid [S] H2) ws (ds ++ [e]) → D.nx σ H2) : tDrop (tBM K "list" rAppend (tVar i) (tCons te tNil)) D σ H := by
  refine ⟨_, hi, .inl ⟨rfl, _, sq_lst hS⟩, h H (Gr.refl _ _) (fun a m => by rw [List.mem_singleton] at m; subst m; rw [hS]; exact fun z => by cases z) _ fun v H2 g2 ev => ?_⟩
  have hS2 := g2 S _ (by simp) hS
  have g3 : Gr [S] H2 (upd H2 S (.lst (vs ++ [v]))) := Gr.wr (by simp)
  have l1 := dpAll_len a
  refine ⟨S, vs, v, rfl, rfl, hS2, Nat.lt_of_lt_of_le (show vs.length < 7000 by omega) (by decide), ?_⟩
  refine k (vs ++ [v]) _ ((gr0 g2).trans g3) upd_same (dpAll_append (DpAll.kp ((hid_kp (gr0 g2)).trans (hid_kp g3)) a) (.cons (Dp.kp (hid_kp g3) ev) .nil))
/-- for x in xs: ys.append(..) -/
theorem for_appW {te : TE} {i9 i4 : Nat} {p S : Addr} {os vs : List V} {odds ds : List PyData} {f : PyData → PyData} {σ0 : L2.St} {H6 : Hp} {D : Ends} (hp : H6 p = some (.lst os)) (hpS : p ∉ [S]) (hS : H6 S = some (.lst vs)) (a : DpAll K (hid [S] H6) vs ds) (ao : DpAll K (hid [S] H6) os odds)
    (hz : ds.length + odds.length ≤ 6000) (h4 : σ0[i4]? = some (some (.ref S))) (hne : i9 ≠ i4) (h9 : i9 < σ0.length)
    (he : ∀ x v H', Gr [S] H6 H' → Dp K (hid [S] H') v x → x ∈ odds → EvW K [S] te (σ0.set i9 (some v)) H' (f x))
    (hd : ∀ v9 vs' H', Gr [S] H6 H' → H' S = some (.lst vs') → DpAll K (hid [S] H') vs' (ds ++ odds.map f) → D.nx (σ0.set i9 v9) H') (h0 : ∃ v, σ0 = σ0.set i9 v) :
    ∃ Wf : Nat → Nat → L2.St → Hp → Prop, (∃ m, Wf 0 m σ0 H6) ∧ ∀ i m σ H, Wf i m σ H →
      ((Itl K p).stop i H ∧ D.nx σ H) ∨ ((Itl K p).go i H ∧ ∃ N : L2.St → Hp → Prop, (∀ σ' H', N σ' H' → ∃ m', m' < m ∧ Wf (i + 1) m' σ' H') ∧ ∀ x H', (Itl K p).yld i H x H' → gName i9 x σ H' fun σ2 H2 => tDrop (tBM K "list" rAppend (tVar i4) (tCons te tNil)) { D with nx := N, ct := N, bk := D.nx } σ2 H2) := by
  have lo := dpAll_len ao
  refine for_list (K := K) (a := p) (xs := os) (fun i σ H' => Gr [S] H6 H' ∧ ∃ v9 vs', H' S = some (.lst vs') ∧ DpAll K (hid [S] H') vs' (ds ++ (odds.take i).map f) ∧ σ = σ0.set i9 v9) ?_ (fun i σ H' _ z => sq_lst (z.1 p _ hpS hp)) ?_ ?_
  · obtain ⟨v, hv⟩ := h0
    exact ⟨Gr.refl _ _, v, vs, hS, by rw [List.take_zero, List.map_nil, List.append_nil]; exact a, hv⟩
  · rintro i x σ H' hx ⟨G, v9, vs', hS', a', rfl⟩
    obtain ⟨dd, hdd, dx⟩ := dpA_at ao hx
    have hi : i < odds.length := (List.getElem?_eq_some_iff.mp hdd).1
    have ed : odds[i] = dd := (List.getElem?_eq_some_iff.mp hdd).2
    show tDrop (tBM K "list" rAppend (tVar i4) (tCons te tNil)) _ ((σ0.set i9 v9).set i9 (some x)) H'
    rw [List.set_set]
    refine st_appW (K := K) (S := S) (vs := vs') (by rw [List.getElem?_set_ne hne]; exact h4) hS' a' (he dd x H' G (Dp.kp (hid_kp G) dx) (List.mem_of_getElem? hdd)) (by rw [List.length_append, List.length_map, List.length_take]; omega) fun ws H2 g2 hS2 a2 => ?_
    refine ⟨G.trans g2, some x, ws, hS2, ?_, rfl⟩
    rw [List.take_succ_eq_append_getElem hi, List.map_append, ed, ← List.append_assoc]
    exact a2
  · rintro σ H' ⟨G, v9, vs', hS', a', rfl⟩
    rw [lo, List.take_of_length_le (Nat.le_refl _)] at a'
    exact hd v9 vs' H' G hS' a'
end

section
variable {K : PySem.W.Frag} {σ : L2.St} {H : Hp}
/-- for x in a tuple that is data -/
theorem st_forT {tl : TE} {g : TG} {tb : TS} {D : Ends} {ds : List PyData} (h : EvW K [] tl σ H (.tuple ds)) (Pv : Hp → Nat → L2.St → Hp → Prop) (h0 : ∀ H2, Gr [] H H2 → Pv H2 0 σ H2) (hk : ∀ H2 i σ' H', Pv H2 i σ' H' → Kp H2 H')
    (hs : ∀ H2 i d v σ' H', Gr [] H H2 → ds[i]? = some d → Dp K H' v d → Pv H2 i σ' H' → g v σ' H' fun σ3 H3 => tb { D with nx := Pv H2 (i + 1), ct := Pv H2 (i + 1), bk := D.nx } σ3 H3) (hd : ∀ H2 σ' H', Gr [] H H2 → Pv H2 ds.length σ' H' → D.nx σ' H') : tFor (iTup K tl) g tb D σ H :=
  h H (Gr.refl _ _) (fun a m => by simp at m) _ fun v H2 g2 e => by
    have e := Dp.kp hid_out e
    cases e with
    | @tup a xs _ s t =>
      have lx := dpAll_len t
      refine ⟨a, rfl, ⟨_, s⟩, ?_⟩
      refine for_tup (K := K) (a := a) (xs := xs) (Pv H2) (h0 H2 g2) (fun i σ' H' _ z => (hk H2 i σ' H' z).sqT s) (fun i x σ' H' hx z => ?_) (fun σ' H' z => hd H2 σ' H' g2 (by rw [← lx]; exact z))
      obtain ⟨dd, hdd, dx⟩ := dpA_at t hx
      exact hs H2 i dd x σ' H' g2 hdd (Dp.kp (hk H2 i σ' H' z) dx) z
theorem st_forL {tl : TE} {g : TG} {tb : TS} {D : Ends} {ds : List PyData} (h : EvW K [] tl σ H (.list ds)) (Pv : Hp → Nat → L2.St → Hp → Prop) (h0 : ∀ H2, Gr [] H H2 → Pv H2 0 σ H2) (hk : ∀ H2 i σ' H', Pv H2 i σ' H' → Kp H2 H')
    (hs : ∀ H2 i d v σ' H', Gr [] H H2 → ds[i]? = some d → Dp K H' v d → Pv H2 i σ' H' → g v σ' H' fun σ3 H3 => tb { D with nx := Pv H2 (i + 1), ct := Pv H2 (i + 1), bk := D.nx } σ3 H3) (hd : ∀ H2 σ' H', Gr [] H H2 → Pv H2 ds.length σ' H' → D.nx σ' H') : tFor (iList K tl) g tb D σ H :=
  h H (Gr.refl _ _) (fun a m => by simp at m) _ fun v H2 g2 e => by
    have e := Dp.kp hid_out e
    cases e with
    | @lst a xs _ s t =>
      have lx := dpAll_len t
      refine ⟨a, rfl, ⟨_, s⟩, ?_⟩
      refine for_list (K := K) (a := a) (xs := xs) (Pv H2) (h0 H2 g2) (fun i σ' H' _ z => (hk H2 i σ' H' z).sqL s) (fun i x σ' H' hx z => ?_) (fun σ' H' z => hd H2 σ' H' g2 (by rw [← lx]; exact z))
      obtain ⟨dd, hdd, dx⟩ := dpA_at t hx
      exact hs H2 i dd x σ' H' g2 hdd (Dp.kp (hk H2 i σ' H' z) dx) z
end
theorem psNox {X : Cx} {st : Stmt} {t : TS} (h : PS X.nox st t) : PS X st t := ⟨fun pins s σ H D I hw =>
  wpAny_mono (h.run pins s σ H D (I.wish _) hw) (fun _ _ q => q.unwish) fun _ _ z => False.elim z⟩
/-! comprehensions that give data -/
mutual
/-- no list in it -/
def noL : PyData → Bool
  | .list _ => false
  | .tuple xs => noLAll xs
  | .dict _ => false
  | _ => true
def noLAll : List PyData → Bool
  | [] => true
  | x :: xs => noL x && noLAll xs
end
mutual
theorem dp_noL {K : PySem.W.Frag} {H : Hp} {D : Addr} {us : List V} (hD : H D = some (.lst us)) : ∀ {v : V} {d : PyData}, Dp K H v d → noL d = true → Dp K (hid [D] H) v d
  | _, _, .non, _ => .non
  | _, _, .bl b, _ => .bl b
  | _, _, .int i, _ => .int i
  | _, _, .str z, _ => .str z
  | _, _, .lst _ _, n => by cases n
  | _, _, .tup (a := a) (xs := zs) (ds := ds) s t, n => by
    have n : noLAll ds = true := n
    refine .tup ?_ (dpA_noL hD t n)
    have ne : ∀ {o}, H a = some o → (∀ u, o ≠ .lst u) → a ∉ [D] := fun {o} h k m => by
      rw [List.mem_singleton] at m
      subst m
      rw [hD] at h
      injection h with h
      exact k us h.symm
    rcases s with (s | ⟨o, s⟩) | s
    · exact .inl (.inl (hid_get s (ne s fun u z => by cases z)))
    · exact .inl (.inr ⟨o, hid_get s (ne s fun u z => by cases z)⟩)
    · exact .inr s
theorem dpA_noL {K : PySem.W.Frag} {H : Hp} {D : Addr} {us : List V} (hD : H D = some (.lst us)) : ∀ {vs : List V} {ds : List PyData}, DpAll K H vs ds → noLAll ds = true → DpAll K (hid [D] H) vs ds
  | _, _, .nil, _ => .nil
  | _, _, .cons a b, n => by
    rw [noLAll, Bool.and_eq_true] at n
    exact .cons (dp_noL hD a n.1) (dpA_noL hD b n.2)
end
section
variable {K : PySem.W.Frag} {σ : L2.St} {H : Hp}
/-- a turn of a comprehension: what is put, or none -/
def LcT (K : PySem.W.Frag) (g : TG) (tt : TT) (te : TE) (vs : List Nat) (σ : L2.St) (H1 : Hp) (v : V) (r : Option PyData) : Prop :=
  ∀ (Q1 : VK) (Q0 : Hp → Prop), (∀ d y H2, r = some d → Gr [] H1 H2 → Dp K H2 y d → Q1 y H2) → (∀ H2, r = none → Gr [] H1 H2 → Q0 H2) →
    g v (wipe σ vs) H1 fun σ2 H2 => wipe σ2 vs = wipe σ vs ∧ tt σ2 H2 fun b H3 => if b = true then te σ2 H3 Q1 else Q0 H3
theorem lcT_put {K : PySem.W.Frag} {g : TG} {tt : TT} {te : TE} {vs : List Nat} {ds : List PyData} {f : PyData → Option PyData} {H2 H' : Hp} {D : Addr} {us : List V} {i : Nat} {dd : PyData} {x : V} (nD : H2 D = none) (hi : ds[i]? = some dd) (hz : ds.length ≤ 6000)
    (G : Gr [] H2 H') (hD : H' D = some (.lst us)) (aU : DpAll K (hid [D] H') us ((ds.take i).filterMap f)) (he : LcT K g tt te vs σ H' x (f dd)) (hn : ∀ d, f dd = some d → noL d = true) :
    g x (wipe σ vs) H' fun σ2 H2' => wipe σ2 vs = wipe σ vs ∧ tt σ2 H2' fun b H3 => if b = true then te σ2 H3 fun y H4 => ∃ acc, H4 D = some (.lst acc) ∧ acc.length < sizeLine ∧
      (Gr [] H2 (upd H4 D (.lst (acc ++ [y]))) ∧ ∃ us, (upd H4 D (.lst (acc ++ [y]))) D = some (.lst us) ∧ DpAll K (hid [D] (upd H4 D (.lst (acc ++ [y])))) us ((ds.take (i + 1)).filterMap f))
      else (Gr [] H2 H3 ∧ ∃ us, H3 D = some (.lst us) ∧ DpAll K (hid [D] H3) us ((ds.take (i + 1)).filterMap f)) := by
  have hi' : i < ds.length := (List.getElem?_eq_some_iff.mp hi).1
  have ed : ds[i] = dd := (List.getElem?_eq_some_iff.mp hi).2
  have tk := List.take_succ_eq_append_getElem hi'
  rw [ed] at tk
  have lu := dpAll_len aU
  have lf := List.length_filterMap_le f (ds.take i)
  rw [List.length_take] at lf
  refine he _ _ (fun d y H4 hr g4 dy => ?_) (fun H3 hr g3 => ?_)
  · have hD4 := g4 D _ (by simp) hD
    have gC : Gr [D] H4 (upd H4 D (.lst (us ++ [y]))) := Gr.wr (by simp)
    refine ⟨us, hD4, Nat.lt_of_lt_of_le (show us.length < 7000 by omega) (by decide), fresh_keep nD (G.trans g4) gC, us ++ [y], upd_same, ?_⟩
    rw [tk, List.filterMap_append]
    have e1 : List.filterMap f [dd] = [d] := by
      rw [List.filterMap_cons, hr]
      rfl
    rw [e1]
    exact dpAll_append (DpAll.kp ((hid_kp (gr0 g4)).trans (hid_kp gC)) aU) (.cons (Dp.kp (hid_kp gC) (dp_noL hD4 dy (hn d hr))) .nil)
  · refine ⟨G.trans g3, us, g3 D _ (by simp) hD, ?_⟩
    rw [tk, List.filterMap_append]
    have e1 : List.filterMap f [dd] = [] := by
      rw [List.filterMap_cons, hr]
      rfl
    rw [e1, List.append_nil]
    exact DpAll.kp (hid_kp (gr0 g3)) aU
theorem el_lcT {tl te : TE} {g : TG} {tt : TT} {vs : List Nat} {ds : List PyData} (f : PyData → Option PyData) (h : EvW K [] tl σ H (.tuple ds)) (hz : ds.length ≤ 6000)
    (he : ∀ x v H1, x ∈ ds → Gr [] H H1 → Dp K H1 v x → LcT K g tt te vs σ H1 v (f x)) (hn : ∀ x ∈ ds, ∀ d, f x = some d → noL d = true) : EvL K (tLc (iTup K tl) g tt te vs) σ H (ds.filterMap f) := fun H1 g1 Q q =>
  h H1 g1 (fun a m => by simp at m) _ fun v H2 g2 e => by
    have e := Dp.kp hid_out e
    cases e with
    | @tup a xs _ s t =>
      have lx := dpAll_len t
      refine ⟨a, rfl, ⟨_, s⟩, fun D nD => ?_⟩
      refine lc_tup (K := K) (a := a) (xs := xs) (fun i H' => Gr [] H2 H' ∧ ∃ us, H' D = some (.lst us) ∧ DpAll K (hid [D] H') us ((ds.take i).filterMap f)) ⟨Gr.new nD, [], upd_same, .nil⟩ (fun i H' _ z => (Kp.of z.1).sqT s) ?_ ?_
      · rintro i x H' hx ⟨G, us, hD, aU⟩
        obtain ⟨dd, hdd, dx⟩ := dpA_at t hx
        exact lcT_put nD hdd hz G hD aU (he dd x H' (List.mem_of_getElem? hdd) ((g1.trans g2).trans G) (Dp.kp (Kp.of G) dx)) (hn dd (List.mem_of_getElem? hdd))
      · rintro H3 ⟨G, us, hD, aU⟩
        rw [lx, List.take_of_length_le (Nat.le_refl _)] at aU
        exact q D us H3 (g2.trans G) hD (DpAll.kp hid_out aU)
theorem el_lcL {tl te : TE} {g : TG} {tt : TT} {vs : List Nat} {ds : List PyData} (f : PyData → Option PyData) (h : EvW K [] tl σ H (.list ds)) (hz : ds.length ≤ 6000)
    (he : ∀ x v H1, x ∈ ds → Gr [] H H1 → Dp K H1 v x → LcT K g tt te vs σ H1 v (f x)) (hn : ∀ x ∈ ds, ∀ d, f x = some d → noL d = true) : EvL K (tLc (iList K tl) g tt te vs) σ H (ds.filterMap f) := fun H1 g1 Q q =>
  h H1 g1 (fun a m => by simp at m) _ fun v H2 g2 e => by
    have e := Dp.kp hid_out e
    cases e with
    | @lst a xs _ s t =>
      have lx := dpAll_len t
      refine ⟨a, rfl, ⟨_, s⟩, fun D nD => ?_⟩
      refine lc_list (K := K) (a := a) (xs := xs) (fun i H' => Gr [] H2 H' ∧ ∃ us, H' D = some (.lst us) ∧ DpAll K (hid [D] H') us ((ds.take i).filterMap f)) ⟨Gr.new nD, [], upd_same, .nil⟩ (fun i H' _ z => (Kp.of z.1).sqL s) ?_ ?_
      · rintro i x H' hx ⟨G, us, hD, aU⟩
        obtain ⟨dd, hdd, dx⟩ := dpA_at t hx
        exact lcT_put nD hdd hz G hD aU (he dd x H' (List.mem_of_getElem? hdd) ((g1.trans g2).trans G) (Dp.kp (Kp.of G) dx)) (hn dd (List.mem_of_getElem? hdd))
      · rintro H3 ⟨G, us, hD, aU⟩
        rw [lx, List.take_of_length_le (Nat.le_refl _)] at aU
        exact q D us H3 (g2.trans G) hD (DpAll.kp hid_out aU)
theorem el_lstW {ta : TA} {ds : List PyData} (h : EsW K [] ta σ H ds) (hz : ds.length ≤ 1000 := by exact Nat.le_of_ble_eq_true rfl) : EvL K (tLst ta) σ H ds := fun H1 g Q q =>
  h H1 g (fun a m => by simp at m) _ fun vs H2 g2 a => ⟨by rw [dpAll_len a]; exact Nat.le_of_lt (small1000 hz), fun p np => q _ _ _ (g2.trans (Gr.new np)) upd_same (DpAll.kp (Kp.of (Gr.new np)) (DpAll.kp hid_out a))⟩
theorem el_to {te : TE} {ds es : List PyData} (h : EvL K te σ H ds) (z : ds = es) : EvL K te σ H es := z ▸ h
/-- for x in ..: each turn puts what te gives -/
theorem lcT_name {te : TE} {vs : List Nat} {i : Nat} {H1 : Hp} {v : V} {d : PyData} (hw : wipe ((wipe σ vs).set i (some v)) vs = wipe σ vs) (h : EvW K [] te ((wipe σ vs).set i (some v)) H1 d) : LcT K (gName i) tYes te vs σ H1 v (some d) := fun Q1 Q0 q _ =>
  ⟨hw, iteT (B := Q0 H1) (h H1 (Gr.refl _ _) (fun a m => by simp at m) Q1 fun y H2 g2 dy => q d y H2 rfl g2 (Dp.kp hid_out dy))⟩
/-- for x, y in .. -/
theorem lcT_two {te : TE} {vs : List Nat} {i j : Nat} {H1 : Hp} {v : V} {x y d : PyData} (hv : Dp K H1 v (.tuple [x, y])) (hw : ∀ a b, wipe (((wipe σ vs).set i (some a)).set j (some b)) vs = wipe σ vs)
    (h : ∀ a b, Dp K H1 a x → Dp K H1 b y → EvW K [] te (((wipe σ vs).set i (some a)).set j (some b)) H1 d) : LcT K (gTup K 2 (gCons (gName i) (gCons (gName j) gNil))) tYes te vs σ H1 v (some d) := fun Q1 Q0 q _ => by
  cases hv with
  | @tup p xs _ s t =>
    cases t with
    | @cons a _ _ _ h1 t =>
      cases t with
      | @cons b _ _ _ h2 t =>
        cases t
        exact ⟨p, _, rfl, s, rfl, a, _, rfl, b, _, rfl, rfl, hw a b, iteT (B := Q0 H1) (h a b h1 h2 H1 (Gr.refl _ _) (fun a m => by simp at m) Q1 fun y H2 g2 dy => q d y H2 rfl g2 (Dp.kp hid_out dy))⟩
end
theorem filA_yes {α : Type} {xs : List α} {p : α → Bool} {x : α} (h : p x = true) : (xs ++ [x]).filter p = xs.filter p ++ [x] := by
  rw [List.filter_append, List.filter_cons_of_pos h]
  rfl
theorem filA_no {α : Type} {xs : List α} {p : α → Bool} {x : α} (h : p x = false) : (xs ++ [x]).filter p = xs.filter p := by
  rw [List.filter_append, List.filter_cons_of_neg (by rw [h]; decide)]
  exact List.append_nil _
/-! data equal to data -/
mutual
theorem eqv_self : ∀ {d : PyData}, d.hasDict = false → PyData.eqv d d = true
  | .none, _ => rfl
  | .bool b, _ => by
    show (b == b) = true
    exact beq_self_eq_true b
  | .int i, _ => by
    show (i == i) = true
    exact beq_self_eq_true i
  | .str x, _ => by
    show (x == x) = true
    exact beq_self_eq_true x
  | .list xs, h => eqvAll_self (xs := xs) h
  | .tuple xs, h => eqvAll_self (xs := xs) h
  | .dict xs, h => by cases h
theorem eqvAll_self : ∀ {xs : List PyData}, PyData.hasDictAll xs = false → PyData.eqvAll xs xs = true
  | [], _ => rfl
  | x :: xs, h => by
    have h : (x.hasDict || PyData.hasDictAll xs) = false := h
    rw [Bool.or_eq_false_iff] at h
    show (PyData.eqv x x && PyData.eqvAll xs xs) = true
    rw [eqv_self h.1, eqvAll_self h.2]
    rfl
end
theorem Sm.eqv {d : PyData} {B D W : Nat} (h : Sm d B D W) : PyData.eqv d d = true := eqv_self h.nod
mutual
/-- no truth value, no dict in it -/
def nb : PyData → Bool
  | .none => true
  | .bool _ => false
  | .int _ => true
  | .str _ => true
  | .list xs => nbAll xs
  | .tuple xs => nbAll xs
  | .dict _ => false
def nbAll : List PyData → Bool
  | [] => true
  | x :: xs => nb x && nbAll xs
end
mutual
theorem eqv_is : ∀ {d e : PyData}, nb d = true → nb e = true → PyData.eqv d e = true → d = e
  | .none, e, _, _, h => by cases e <;> first | rfl | cases h
  | .bool b, e, h, _, _ => by cases h
  | .dict b, e, h, _, _ => by cases h
  | .int i, e, _, h2, h => by
    cases e <;> first | (cases h2; done) | (cases h; done) | skip
    rename_i j
    have h : (i == j) = true := h
    rw [eq_of_beq h]
  | .str i, e, _, h2, h => by
    cases e <;> first | (cases h2; done) | (cases h; done) | skip
    rename_i j
    have h : (i == j) = true := h
    rw [eq_of_beq h]
  | .list xs, e, h1, h2, h => by
    cases e <;> first | (cases h2; done) | (cases h; done) | skip
    rename_i ys
    rw [eqvAll_is (xs := xs) (ys := ys) h1 h2 h]
  | .tuple xs, e, h1, h2, h => by
    cases e <;> first | (cases h2; done) | (cases h; done) | skip
    rename_i ys
    rw [eqvAll_is (xs := xs) (ys := ys) h1 h2 h]
theorem eqvAll_is : ∀ {xs ys : List PyData}, nbAll xs = true → nbAll ys = true → PyData.eqvAll xs ys = true → xs = ys
  | [], [], _, _, _ => rfl
  | [], y :: ys, _, _, h => by cases h
  | x :: xs, [], _, _, h => by cases h
  | x :: xs, y :: ys, h1, h2, h => by
    have h1 : (nb x && nbAll xs) = true := h1
    have h2 : (nb y && nbAll ys) = true := h2
    have h : (PyData.eqv x y && PyData.eqvAll xs ys) = true := h
    rw [Bool.and_eq_true] at h1 h2 h
    rw [eqv_is h1.1 h2.1 h.1, eqvAll_is h1.2 h2.2 h.2]
end
mutual
theorem nb_nod : ∀ {d : PyData}, nb d = true → d.hasDict = false
  | .none, _ => rfl
  | .bool _, h => by cases h
  | .int _, _ => rfl
  | .str _, _ => rfl
  | .list xs, h => nbAll_nod (xs := xs) h
  | .tuple xs, h => nbAll_nod (xs := xs) h
  | .dict _, h => by cases h
theorem nbAll_nod : ∀ {xs : List PyData}, nbAll xs = true → PyData.hasDictAll xs = false
  | [], _ => rfl
  | x :: xs, h => by
    have h : (nb x && nbAll xs) = true := h
    rw [Bool.and_eq_true] at h
    show (x.hasDict || PyData.hasDictAll xs) = false
    rw [nb_nod h.1, nbAll_nod h.2]
    rfl
end
theorem eqv_iff {d e : PyData} (h1 : nb d = true) (h2 : nb e = true) : PyData.eqv d e = true ↔ d = e := ⟨eqv_is h1 h2, fun z => by rw [z]; exact eqv_self (nb_nod h2)⟩
theorem eqv_dec {d e : PyData} (h1 : nb d = true) (h2 : nb e = true) [Decidable (d = e)] : PyData.eqv d e = decide (d = e) := by
  by_cases h : d = e
  · rw [decide_eq_true h]
    exact (eqv_iff h1 h2).mpr h
  · rw [decide_eq_false h]
    cases z : PyData.eqv d e with
    | false => rfl
    | true => exact absurd ((eqv_iff h1 h2).mp z) h
theorem nbAll_of {xs : List PyData} (h : ∀ x ∈ xs, nb x = true) : nbAll xs = true := by
  induction xs with
  | nil => rfl
  | cons x r ih =>
    show (nb x && nbAll r) = true
    rw [h x (List.mem_cons_self ..), ih fun y hy => h y (List.mem_cons_of_mem _ hy)]
    rfl
theorem set_len {xs : List Nat} {ks : List Int} (nd : ks.Nodup) (hm : ∀ k, k ∈ ks ↔ k ∈ ni xs) : ks.length ≤ xs.length := by
  obtain ⟨zs, rfl⟩ := ni_of (zs := ks) fun k hk => by
    have := (hm k).mp hk
    unfold ni at this
    obtain ⟨j, _, rfl⟩ := List.mem_map.mp this
    omega
  unfold ni at nd hm ⊢
  have h1 : zs.Nodup := by
    rw [List.nodup_iff_pairwise_ne, List.pairwise_map] at nd
    exact nd.imp fun h e => h (by rw [e])
  have := nodup_sub (ys := xs) h1 fun z hz => by
    obtain ⟨j, hj, e⟩ := List.mem_map.mp ((hm (z : Int)).mp (List.mem_map.mpr ⟨z, hz, rfl⟩))
    rwa [show z = j by omega]
  rw [List.length_map]
  omega
end Wn
namespace Wn
open PySem PySem.Spec PyProof.Rows L2
def isP (p : Nat) : Bool := decide (2 ≤ p) && (List.range p).all fun q => decide (q < 2) || decide (p % q ≠ 0)
theorem isP_iff {p : Nat} : isP p = true ↔ 2 ≤ p ∧ ∀ q, 2 ≤ q → q < p → ¬ q ∣ p := by
  unfold isP
  simp only [Bool.and_eq_true, decide_eq_true_eq, List.all_eq_true, List.mem_range, Bool.or_eq_true]
  constructor
  · rintro ⟨h1, h2⟩
    refine ⟨h1, fun q q1 q2 d => ?_⟩
    rcases h2 q q2 with z | z
    · omega
    · exact z (Nat.mod_eq_zero_of_dvd d)
  · rintro ⟨h1, h2⟩
    refine ⟨h1, fun q q2 => ?_⟩
    by_cases z : q < 2
    · exact .inl z
    · exact .inr fun e => h2 q (by omega) q2 (Nat.dvd_of_mod_eq_zero e)
theorem isP_dvd {p g : Nat} (h : isP p = true) (d : g ∣ p) : g = 1 ∨ g = p := by
  obtain ⟨h1, h2⟩ := isP_iff.mp h
  have hg : g ≤ p := Nat.le_of_dvd (by omega) d
  have h0 : 1 ≤ g := Nat.pos_of_ne_zero fun z => by rw [z] at d; have := Nat.eq_zero_of_zero_dvd d; omega
  by_cases e1 : g = 1
  · exact .inl e1
  · by_cases e2 : g = p
    · exact .inr e2
    · exact absurd d (h2 g (by omega) (by omega))
theorem isP_cop {p a : Nat} (h : isP p = true) (hn : ¬ p ∣ a) : Nat.gcd p a = 1 := by
  rcases isP_dvd h (Nat.gcd_dvd_left p a) with e | e
  · exact e
  · exact absurd (e ▸ Nat.gcd_dvd_right p a) hn
/-- how often p divides -/
def vlF (p : Nat) : Nat → Nat → Nat
  | 0, _ => 0
  | f + 1, n => if n % p = 0 then vlF p f (n / p) + 1 else 0
def vl (p n : Nat) : Nat := vlF p n n
theorem vlF_spec {p : Nat} (hp : 2 ≤ p) : ∀ f n, n ≤ f → 1 ≤ n → p ^ vlF p f n ∣ n ∧ ¬ p ^ (vlF p f n + 1) ∣ n
  | 0, n, h1, h2 => by omega
  | f + 1, n, h1, h2 => by
    unfold vlF
    by_cases h : n % p = 0
    · rw [if_pos h]
      obtain ⟨m, rfl⟩ := Nat.dvd_of_mod_eq_zero h
      rw [Nat.mul_div_cancel_left m (by omega)]
      have hm : 1 ≤ m := Nat.pos_of_ne_zero fun z => by rw [z] at h2; omega
      have hm2 : m < p * m := by
        have : 2 * m ≤ p * m := Nat.mul_le_mul_right _ hp
        omega
      obtain ⟨a, b⟩ := vlF_spec hp f m (by omega) hm
      refine ⟨?_, fun d => b ?_⟩
      · rw [Nat.pow_succ, Nat.mul_comm]
        exact Nat.mul_dvd_mul_left p a
      · rw [Nat.pow_succ, Nat.mul_comm] at d
        exact Nat.dvd_of_mul_dvd_mul_left (by omega) d
    · rw [if_neg h]
      refine ⟨by simp, fun d => h ?_⟩
      rw [Nat.zero_add, Nat.pow_one] at d
      exact Nat.mod_eq_zero_of_dvd d
theorem vl_spec {p n : Nat} (hp : 2 ≤ p) (hn : 1 ≤ n) : p ^ vl p n ∣ n ∧ ¬ p ^ (vl p n + 1) ∣ n := vlF_spec hp n n (Nat.le_refl _) hn
theorem vl_of {p n e : Nat} (hp : 2 ≤ p) (hn : 1 ≤ n) (h1 : p ^ e ∣ n) (h2 : ¬ p ^ (e + 1) ∣ n) : vl p n = e := by
  obtain ⟨a, b⟩ := vl_spec hp hn
  apply Nat.le_antisymm
  · apply Nat.le_of_not_lt
    intro l
    exact h2 (Nat.dvd_trans (Nat.pow_dvd_pow p l) a)
  · apply Nat.le_of_not_lt
    intro l
    exact b (Nat.dvd_trans (Nat.pow_dvd_pow p l) h1)
def fpp (n p : Nat) : Option (Nat × Nat) := if n % p = 0 ∧ isP p = true then some (p, vl p n) else none
def ppU (n k : Nat) : List (Nat × Nat) := (List.range k).filterMap (fpp n)
def ppL (n : Nat) : List (Nat × Nat) := ppU n (n + 1)
theorem ppU_succ (n k : Nat) : ppU n (k + 1) = ppU n k ++ (match fpp n k with | some r => [r] | none => []) := by
  unfold ppU
  rw [List.range_succ, List.filterMap_append]
  congr 1
  cases h : fpp n k <;> simp [h]
theorem ppU_skip {n k : Nat} : ∀ {m}, k ≤ m → (∀ p, k ≤ p → p < m → fpp n p = none) → ppU n m = ppU n k
  | 0, h, _ => by rw [show k = 0 by omega]
  | m + 1, h, hs => by
    rcases Nat.lt_or_eq_of_le h with z | z
    · rw [ppU_succ, hs m (by omega) (Nat.lt_succ_self m), List.append_nil, ppU_skip (by omega) fun p h1 h2 => hs p h1 (by omega)]
    · rw [z]
theorem ppU_len {n : Nat} : ∀ k, (ppU n k).length ≤ k := fun k => by
  unfold ppU
  refine Nat.le_trans (List.length_filterMap_le _ _) ?_
  rw [List.length_range]
  exact Nat.le_refl _
/-- what is left when all below k have been taken out -/
structure Left (n left k : Nat) : Prop where
  pos : 1 ≤ left
  dv : left ∣ n
  low : ∀ q, 2 ≤ q → q < k → ¬ q ∣ left
  same : ∀ q e, k ≤ q → isP q = true → (q ^ e ∣ left ↔ q ^ e ∣ n)
theorem Left.start {n : Nat} (hn : 1 ≤ n) : Left n n 2 := ⟨hn, Nat.dvd_refl _, fun q h1 h2 => by omega, fun _ _ _ _ => Iff.rfl⟩
theorem Left.ge {n left k : Nat} (L : Left n left k) (h : 1 < left) : k ≤ left := by
  apply Nat.le_of_not_lt
  intro z
  exact L.low left h z (Nat.dvd_refl _)
theorem Left.prime {n left k p : Nat} (L : Left n left k) (hk : 2 ≤ p) (hp : p ≤ k) (d : p ∣ left) : isP p = true := isP_iff.mpr ⟨hk, fun q h1 h2 d2 => L.low q h1 (by omega) (Nat.dvd_trans d2 d)⟩
/-- what is left has no divisor below its root: it is a prime itself -/
theorem Left.jump {n left k : Nat} (L : Left n left k) (hk : 2 ≤ k) (h : 1 < left) (h2 : left < k * k) : isP left = true ∧ Left n left left ∧ ∀ p, k ≤ p → p < left → fpp n p = none := by
  have hP : Wn.isP left = true := isP_iff.mpr ⟨h, fun q h1 h3 d => by
    obtain ⟨m, rfl⟩ := d
    have hm : 1 ≤ m := Nat.pos_of_ne_zero fun z => by rw [z] at h; omega
    have hm2 : 2 ≤ m := by
      rcases Nat.lt_or_ge m 2 with z | z
      · have : m = 1 := by omega
        rw [this] at h3
        omega
      · exact z
    have a1 : k ≤ q := Nat.le_of_not_lt fun z => L.low q h1 z (Nat.dvd_mul_right _ _)
    have a2 : k ≤ m := Nat.le_of_not_lt fun z => L.low m hm2 z (Nat.dvd_mul_left _ _)
    have := Nat.mul_le_mul a1 a2
    omega⟩
  have hge := L.ge h
  refine ⟨hP, ⟨L.pos, L.dv, fun q h1 h3 => (isP_iff.mp hP).2 q h1 h3, fun q e h1 => L.same q e (by omega)⟩, fun p h1 h3 => ?_⟩
  unfold fpp
  rw [if_neg]
  rintro ⟨h4, h5⟩
  have := (L.same p 1 h1 h5).mpr (by rw [Nat.pow_one]; exact Nat.dvd_of_mod_eq_zero h4)
  rw [Nat.pow_one] at this
  exact (isP_iff.mp hP).2 p (isP_iff.mp h5).1 h3 this
/-- p taken out e times -/
theorem Left.next {n left k r e : Nat} (L : Left n left k) (hn : 1 ≤ n) (hk : 2 ≤ k) (h : left = r * k ^ e) (hr : ¬ k ∣ r) : Left n r (k + 1) ∧ fpp n k = if e = 0 then none else some (k, e) := by
  have hr1 : 1 ≤ r := Nat.pos_of_ne_zero fun z => by have := L.pos; rw [h, z] at this; omega
  have rl : r ∣ left := ⟨k ^ e, h⟩
  refine ⟨⟨hr1, Nat.dvd_trans rl L.dv, fun q h1 h2 d => ?_, fun q c h1 hq => ?_⟩, ?_⟩
  · rcases Nat.lt_or_eq_of_le (show q ≤ k by omega) with z | z
    · exact L.low q h1 z (Nat.dvd_trans d rl)
    · exact hr (z ▸ d)
  · rw [← L.same q c (by omega) hq]
    constructor
    · exact fun d => Nat.dvd_trans d rl
    · intro d
      rw [h] at d
      refine Nat.Coprime.dvd_of_dvd_mul_right ?_ d
      refine Nat.Coprime.pow_left c (Nat.Coprime.pow_right e ?_)
      refine isP_cop hq fun d2 => ?_
      have := Nat.le_of_dvd (by omega) d2
      omega
  · by_cases e0 : e = 0
    · rw [if_pos e0]
      unfold fpp
      rw [if_neg]
      rintro ⟨h4, h5⟩
      have := (L.same k 1 (Nat.le_refl _) h5).mpr (by rw [Nat.pow_one]; exact Nat.dvd_of_mod_eq_zero h4)
      rw [Nat.pow_one, h, e0, Nat.pow_zero, Nat.mul_one] at this
      exact hr this
    · rw [if_neg e0]
      have dk : k ∣ left := by
        rw [h]
        exact Nat.dvd_trans (show k ∣ k ^ e by rw [show e = (e - 1) + 1 by omega, Nat.pow_succ]; exact Nat.dvd_mul_left _ _) (Nat.dvd_mul_left _ _)
      have hP := L.prime hk (Nat.le_refl _) dk
      have d1 : k ∣ n := Nat.dvd_trans dk L.dv
      unfold fpp
      rw [if_pos ⟨Nat.mod_eq_zero_of_dvd d1, hP⟩]
      congr 2
      refine vl_of hk hn ?_ fun d => ?_
      · exact (L.same k e (Nat.le_refl _) hP).mp (by rw [h]; exact Nat.dvd_mul_left _ _)
      · have d2 := (L.same k (e + 1) (Nat.le_refl _) hP).mpr d
        rw [h, Nat.pow_succ, Nat.mul_comm r] at d2
        exact hr (Nat.dvd_of_mul_dvd_mul_left (Nat.pow_pos (by omega)) d2)
end Wn
/-! if it is not balanced, a prime shows it -/
namespace Wn
open PySem PySem.Spec PyProof.Rows L2
theorem prime_dvd : ∀ m, 2 ≤ m → ∃ p, isP p = true ∧ p ∣ m := by
  intro m
  induction m using Nat.strongRecOn with
  | ind m ih =>
    intro hm
    cases e : isP m with
    | true => exact ⟨m, e, Nat.dvd_refl _⟩
    | false =>
      obtain ⟨q, h1, h2, h3⟩ : ∃ q, 2 ≤ q ∧ q < m ∧ q ∣ m := by
        refine Classical.byContradiction fun hno => ?_
        have := isP_iff.mpr ⟨hm, fun q h1 h2 d => hno ⟨q, h1, h2, d⟩⟩
        rw [e] at this
        cases this
      obtain ⟨p, hp, hd⟩ := ih q h2 h1
      exact ⟨p, hp, Nat.dvd_trans hd h3⟩
theorem dvd_of_pp {n R : Nat} (hn : 1 ≤ n) (h : ∀ p, isP p = true → p ∣ n → p ^ vl p n ∣ R) : n ∣ R := by
  obtain ⟨m, hm⟩ := Nat.gcd_dvd_left n R
  rcases Nat.lt_or_ge m 2 with z | z
  · have m1 : m = 1 := by
      rcases Nat.eq_zero_or_pos m with y | y
      · rw [y, Nat.mul_zero] at hm
        omega
      · omega
    rw [m1, Nat.mul_one] at hm
    have := Nat.gcd_dvd_right n R
    rwa [← hm] at this
  · exfalso
    obtain ⟨p, hp, hd⟩ := prime_dvd m z
    have p2 := (isP_iff.mp hp).1
    have pn : p ∣ n := by
      rw [hm]
      exact Nat.dvd_trans hd (Nat.dvd_mul_left _ _)
    obtain ⟨v1, v2⟩ := vl_spec p2 hn
    have hg := Nat.dvd_gcd v1 (h p hp pn)
    refine v2 ?_
    rw [Nat.pow_succ]
    have : p ^ vl p n * p ∣ Nat.gcd n R * m := Nat.mul_dvd_mul hg hd
    rwa [← hm] at this
theorem mem_ppL {n p : Nat} (hn : 1 ≤ n) (hp : isP p = true) (d : p ∣ n) : (p, vl p n) ∈ ppL n := by
  unfold ppL ppU
  rw [List.mem_filterMap]
  refine ⟨p, List.mem_range.mpr (Nat.lt_succ_of_le (Nat.le_of_dvd hn d)), ?_⟩
  unfold fpp
  rw [if_pos ⟨Nat.mod_eq_zero_of_dvd d, hp⟩]
theorem ppL_mem {n : Nat} {r : Nat × Nat} (h : r ∈ ppL n) : isP r.1 = true ∧ r.1 ∣ n ∧ r.2 = vl r.1 n := by
  unfold ppL ppU at h
  obtain ⟨p, hp, e⟩ := List.mem_filterMap.mp h
  unfold fpp at e
  by_cases c : n % p = 0 ∧ isP p = true
  · rw [if_pos c] at e
    have := Option.some.inj e
    subst this
    exact ⟨c.2, Nat.dvd_of_mod_eq_zero c.1, rfl⟩
  · rw [if_neg c] at e
    cases e
theorem shows_ex {b n k c : Nat} (hb1 : 1 ≤ b) (hn : 2 ≤ n) (h : b ^ (k * c) % n = 1 % n) (hb : bal b n k c = false) :
    ∃ r ∈ ppL n, b ^ k % r.1 = 1 ∧ restSum b n 1 k c % r.1 ^ r.2 ≠ 0 := by
  refine Classical.byContradiction fun hno => ?_
  have key : n ∣ restSum b n 1 k c := dvd_of_pp (by omega) fun p hp d => by
    have p2 := (isP_iff.mp hp).1
    obtain ⟨v1, v2⟩ := vl_spec (n := n) p2 (by omega)
    by_cases c1 : b ^ k % p = 1
    · refine Classical.byContradiction fun hd => hno ⟨(p, vl p n), mem_ppL (by omega) hp d, c1, fun z => hd (Nat.dvd_of_mod_eq_zero z)⟩
    · have bk : 1 ≤ b ^ k := Nat.pow_pos hb1
      have nd : ¬ p ∣ b ^ k - 1 := fun z => c1 (by
        obtain ⟨t, ht⟩ := z
        have e : b ^ k = p * t + 1 := by omega
        rw [e, Nat.mul_add_mod, Nat.mod_eq_of_lt (by omega)])
      have tel := geo_tel (b ^ k) c
      have dn : n ∣ geo (b ^ k) c * (b ^ k - 1) := by
        have e1 : geo (b ^ k) c * (b ^ k - 1) = (b ^ k) ^ c - 1 := by
          rw [Nat.mul_sub, Nat.mul_one]
          omega
        rw [e1, ← Nat.pow_mul]
        have one : 1 % n = 1 := Nat.mod_eq_of_lt (by omega)
        rw [one] at h
        have := Nat.div_add_mod (b ^ (k * c)) n
        rw [h] at this
        exact ⟨b ^ (k * c) / n, by omega⟩
      have cp : Nat.Coprime (p ^ vl p n) (b ^ k - 1) := Nat.Coprime.pow_left _ (isP_cop hp nd)
      have dg : p ^ vl p n ∣ geo (b ^ k) c := cp.dvd_of_dvd_mul_right (Nat.dvd_trans v1 dn)
      have rm := restSum_mod b n 1 k c
      rw [Nat.one_mul] at rm
      have h1 := (Nat.dvd_mod_iff v1).mpr dg
      rw [← rm] at h1
      exact (Nat.dvd_mod_iff v1).mp h1
  have : bal b n k c = true := by
    unfold bal
    exact decide_eq_true (Nat.mod_eq_zero_of_dvd key)
  rw [hb] at this
  cases this
end Wn
/-! sums of fractions; sorted lists of numbers -/
namespace Wn
open PySem PySem.Spec PyProof.Rows L2
/-! strictly ascending lists with the same members -/
theorem asc_uniq : ∀ {xs ys : List Nat}, xs.Pairwise (· < ·) → ys.Pairwise (· < ·) → (∀ z, z ∈ xs ↔ z ∈ ys) → xs = ys
  | [], [], _, _, _ => rfl
  | [], y :: ys, _, _, h => absurd ((h y).mpr (List.mem_cons_self ..)) (by simp)
  | x :: xs, [], _, _, h => absurd ((h x).mp (List.mem_cons_self ..)) (by simp)
  | x :: xs, y :: ys, hx, hy, h => by
    rw [List.pairwise_cons] at hx hy
    have e : x = y := by
      have h1 := (h x).mp (List.mem_cons_self ..)
      have h2 := (h y).mpr (List.mem_cons_self ..)
      rw [List.mem_cons] at h1 h2
      rcases h1 with h1 | h1
      · exact h1
      · rcases h2 with h2 | h2
        · exact h2.symm
        · have := hy.1 x h1
          have := hx.1 y h2
          omega
    subst e
    rw [asc_uniq hx.2 hy.2 fun z => ?_]
    have hz := h z
    rw [List.mem_cons, List.mem_cons] at hz
    constructor
    · intro m
      rcases hz.mp (.inr m) with e | e
      · subst e
        exact absurd (hx.1 z m) (by omega)
      · exact e
    · intro m
      rcases hz.mpr (.inr m) with e | e
      · subst e
        exact absurd (hy.1 z m) (by omega)
      · exact e
/-- ascending, not strictly: what is sorted is unique -/
theorem srt_uniq : ∀ {xs ys : List Int}, xs.Perm ys → xs.Pairwise (· ≤ ·) → ys.Pairwise (· ≤ ·) → xs = ys
  | [], ys, p, _, _ => (List.nil_perm.mp p).symm
  | x :: xs, [], p, _, _ => absurd p.symm (by simp)
  | x :: xs, y :: ys, p, hx, hy => by
    rw [List.pairwise_cons] at hx hy
    have e : x = y := by
      have h1 := p.mem_iff.mp (List.mem_cons_self (a := x) (l := xs))
      have h2 := p.mem_iff.mpr (List.mem_cons_self (a := y) (l := ys))
      rw [List.mem_cons] at h1 h2
      rcases h1 with h1 | h1
      · exact h1
      · rcases h2 with h2 | h2
        · exact h2.symm
        · have := hy.1 x h1
          have := hx.1 y h2
          omega
    subst e
    rw [srt_uniq (List.Perm.cons_inv p) hx.2 hy.2]
/-! insertion sort -/
def insN (x : Nat) : List Nat → List Nat
  | [] => [x]
  | y :: r => if x ≤ y then x :: y :: r else y :: insN x r
def srtN : List Nat → List Nat
  | [] => []
  | x :: r => insN x (srtN r)
theorem insN_perm (x : Nat) : ∀ xs, (insN x xs).Perm (x :: xs)
  | [] => List.Perm.refl _
  | y :: r => by
    unfold insN
    split
    · exact List.Perm.refl _
    · exact ((insN_perm x r).cons y).trans (List.Perm.swap x y r)
theorem srtN_perm : ∀ xs, (srtN xs).Perm xs
  | [] => List.Perm.refl _
  | x :: r => (insN_perm x (srtN r)).trans ((srtN_perm r).cons x)
theorem insN_srt {x : Nat} : ∀ {xs : List Nat}, xs.Pairwise (· ≤ ·) → (insN x xs).Pairwise (· ≤ ·)
  | [], _ => by
    unfold insN
    exact List.pairwise_singleton _ _
  | y :: r, h => by
    rw [List.pairwise_cons] at h
    unfold insN
    split
    · rename_i hxy
      rw [List.pairwise_cons, List.pairwise_cons]
      refine ⟨fun z hz => ?_, h.1, h.2⟩
      rcases List.mem_cons.mp hz with rfl | hz
      · exact hxy
      · exact Nat.le_trans hxy (h.1 z hz)
    · rename_i hxy
      rw [List.pairwise_cons]
      refine ⟨fun z hz => ?_, insN_srt h.2⟩
      rcases List.mem_cons.mp ((insN_perm x r).mem_iff.mp hz) with rfl | hz
      · omega
      · exact h.1 z hz
theorem srtN_srt : ∀ xs, (srtN xs).Pairwise (· ≤ ·)
  | [] => List.Pairwise.nil
  | x :: r => insN_srt (srtN_srt r)
theorem srt_is {ns : List Int} {xs : List Nat} (p : ns.Perm (ni xs)) (h : ns.Pairwise (· ≤ ·)) : ns = ni (srtN xs) := by
  refine srt_uniq (p.trans ?_) h ?_
  · unfold ni
    exact ((srtN_perm xs).map _).symm
  · unfold ni
    rw [List.pairwise_map]
    exact (srtN_srt xs).imp fun h => by omega
/-- strictly ascending, the members of a list, each once -/
theorem asc_set {xs ys : List Nat} {zs : List Int} (hs : zs.Pairwise (· < ·)) (hz : ∀ k : Int, k ∈ zs ↔ decide (k ∈ ni xs) = true) (hy : ys.Pairwise (· < ·)) (h : ∀ z, z ∈ ys ↔ z ∈ xs) : zs = ni ys := by
  obtain ⟨ws, rfl⟩ := ni_of (zs := zs) fun k hk => by
    have := of_decide_eq_true ((hz k).mp hk)
    unfold ni at this
    obtain ⟨j, _, rfl⟩ := List.mem_map.mp this
    omega
  rw [asc_uniq (xs := ws) (ys := ys) ?_ hy fun z => ?_]
  · unfold ni at hs
    rw [List.pairwise_map] at hs
    exact hs.imp fun {x y} h => by omega
  · rw [h z]
    have h1 := hz (z : Int)
    rw [decide_eq_true_eq] at h1
    have m : ∀ (l : List Nat), ((z : Int) ∈ ni l) ↔ z ∈ l := fun l => by
      unfold ni
      rw [List.mem_map]
      constructor
      · rintro ⟨j, hj, e⟩
        have e : (j : Int) = (z : Int) := e
        rwa [show z = j by omega]
      · exact fun h => ⟨z, h, rfl⟩
    rw [m ws, m xs] at h1
    exact h1
/-! each once, ascending -/
def unqN : List Nat → List Nat
  | [] => []
  | [x] => [x]
  | x :: y :: r => if x = y then unqN (y :: r) else x :: unqN (y :: r)
theorem unqN_mem : ∀ (xs : List Nat) (z : Nat), z ∈ unqN xs ↔ z ∈ xs
  | [], z => Iff.rfl
  | [x], z => Iff.rfl
  | x :: y :: r, z => by
    unfold unqN
    split
    · rename_i h
      subst h
      rw [unqN_mem (x :: r) z]
      simp
    · rw [List.mem_cons, unqN_mem (y :: r) z, List.mem_cons (a := z) (b := x)]
theorem unqN_asc : ∀ {xs : List Nat}, xs.Pairwise (· ≤ ·) → (unqN xs).Pairwise (· < ·)
  | [], _ => List.Pairwise.nil
  | [x], _ => List.pairwise_singleton _ _
  | x :: y :: r, h => by
    rw [List.pairwise_cons] at h
    have ih := unqN_asc h.2
    unfold unqN
    split
    · exact ih
    · rename_i hxy
      rw [List.pairwise_cons]
      refine ⟨fun z hz => ?_, ih⟩
      have hz := (unqN_mem _ z).mp hz
      have h1 := h.1 y (List.mem_cons_self ..)
      rcases List.mem_cons.mp hz with rfl | hz
      · omega
      · have := h.1 z (List.mem_cons_of_mem _ hz)
        have h2 := h.2
        rw [List.pairwise_cons] at h2
        have := h2.1 z hz
        omega
def setN (xs : List Nat) : List Nat := unqN (srtN xs)
theorem setN_mem {xs : List Nat} {z : Nat} : z ∈ setN xs ↔ z ∈ xs := (unqN_mem _ z).trans (srtN_perm xs).mem_iff
theorem setN_asc (xs : List Nat) : (setN xs).Pairwise (· < ·) := unqN_asc (srtN_srt xs)
/-! the denominators of sums -/
def sumE (p a c : Nat) : List Nat := if a ≠ c then [max a c] else if p = 2 then List.range a else List.range (a + 1)
def sumStep (one two : Nat) (found : List Nat) (r : Nat × Nat) : List Nat := found.flatMap fun x => (sumE r.1 (vl r.1 one) (vl r.1 two)).map fun e => x * r.1 ^ e
def sumK (one two k : Nat) : List Nat := ((ppL (Nat.lcm one two)).take k).foldl (sumStep one two) [1]
def sumL (one two : Nat) : List Nat := (ppL (Nat.lcm one two)).foldl (sumStep one two) [1]
theorem sumK_succ {one two k : Nat} (h : k < (ppL (Nat.lcm one two)).length) : sumK one two (k + 1) = sumStep one two (sumK one two k) (ppL (Nat.lcm one two))[k] := by
  unfold sumK
  rw [List.take_succ_eq_append_getElem h, List.foldl_append]
  rfl
theorem sumK_all {one two : Nat} : sumK one two (ppL (Nat.lcm one two)).length = sumL one two := by
  unfold sumK sumL
  rw [List.take_length]
/-- small enough on the way -/
def sumOk (one two : Nat) : Bool := decide (Nat.lcm one two ≤ 20000) && ((List.range ((ppL (Nat.lcm one two)).length + 1)).all fun k => decide ((sumK one two k).length ≤ 1000) && ((sumK one two k).all fun z => decide (z ≤ 100000000)) && decide (1 ≤ (sumK one two k).length))
theorem sumOk_at {one two k : Nat} (h : sumOk one two = true) (hk : k ≤ (ppL (Nat.lcm one two)).length) : (sumK one two k).length ≤ 1000 ∧ (∀ z ∈ sumK one two k, z ≤ 100000000) ∧ 1 ≤ (sumK one two k).length := by
  unfold sumOk at h
  rw [Bool.and_eq_true, List.all_eq_true] at h
  have h2 := h.2 k (List.mem_range.mpr (by omega))
  simp only [Bool.and_eq_true, decide_eq_true_eq, List.all_eq_true] at h2
  exact ⟨h2.1.1, h2.1.2, h2.2⟩
theorem sumOk_lcm {one two : Nat} (h : sumOk one two = true) : Nat.lcm one two ≤ 20000 := by
  unfold sumOk at h
  rw [Bool.and_eq_true] at h
  exact of_decide_eq_true h.1
def sdL (one two : Nat) : List Nat := srtN (sumL one two)
/-! lowest terms -/
def lowN (a u : Nat) : Nat × Nat := (a % u / Nat.gcd (a % u) u, u / Nat.gcd (a % u) u)
def sdn (x n y m : Nat) : Nat := n * m / Nat.gcd (x * m + y * n) (n * m)
theorem low_two (x n y m : Nat) : (lowN (x * m + y * n) (n * m)).2 = sdn x n y m := by
  unfold lowN sdn
  show n * m / Nat.gcd ((x * m + y * n) % (n * m)) (n * m) = _
  rw [← Nat.gcd_rec, Nat.gcd_comm]
theorem low_self {x n : Nat} (h : x < n) (g : Nat.gcd x n = 1) : lowN x n = (x, n) := by
  unfold lowN
  rw [Nat.mod_eq_of_lt h, g, Nat.div_one, Nat.div_one]
theorem low_ok {a u : Nat} (hu : 1 ≤ u) : (lowN a u).1 < (lowN a u).2 ∧ Nat.gcd (lowN a u).1 (lowN a u).2 = 1 ∧ (lowN a u).2 ≤ u := by
  unfold lowN
  have hr := Nat.mod_lt a (show 0 < u by omega)
  have hg : 1 ≤ Nat.gcd (a % u) u := Nat.gcd_pos_of_pos_right _ (by omega)
  obtain ⟨c, hc⟩ := Nat.gcd_dvd_left (a % u) u
  obtain ⟨e, he⟩ := Nat.gcd_dvd_right (a % u) u
  have h1 : a % u / Nat.gcd (a % u) u = c := by
    rw [Nat.div_eq_iff_eq_mul_right hg (Nat.gcd_dvd_left _ _)]
    exact hc
  have h2 : u / Nat.gcd (a % u) u = e := by
    rw [Nat.div_eq_iff_eq_mul_right hg (Nat.gcd_dvd_right _ _)]
    exact he
  refine ⟨?_, ?_, Nat.div_le_self _ _⟩
  · show a % u / _ < u / _
    rw [h1, h2]
    refine Nat.lt_of_mul_lt_mul_left (a := Nat.gcd (a % u) u) ?_
    rw [← hc, ← he]
    exact hr
  · show Nat.gcd (a % u / _) (u / _) = 1
    rw [Nat.gcd_div (Nat.gcd_dvd_left _ _) (Nat.gcd_dvd_right _ _)]
    exact Nat.div_self hg
theorem low_mod {a u : Nat} (hu : 1 ≤ u) : lowN (a % u) u = lowN a u := by
  unfold lowN
  rw [Nat.mod_mod]
/-- an example: the first numerator -/
def exF (one two d : Nat) : Option Nat := (List.range two).find? fun y => decide (Nat.gcd y two = 1) && decide (sdn (1 % one) one y two = d)
theorem exF_some {one two d y : Nat} (h : exF one two d = some y) : y < two ∧ Nat.gcd y two = 1 ∧ sdn (1 % one) one y two = d := by
  unfold exF at h
  have h1 := List.find?_some h
  have h2 := List.mem_of_find?_eq_some h
  simp only [Bool.and_eq_true, decide_eq_true_eq] at h1
  exact ⟨List.mem_range.mp h2, h1⟩
theorem exF_none {one two d : Nat} (h : exF one two d = none) : ∀ y, y < two → Nat.gcd y two = 1 → sdn (1 % one) one y two ≠ d := by
  intro y hy hg e
  unfold exF at h
  have := List.find?_eq_none.mp h y (List.mem_range.mpr hy)
  rw [decide_eq_true hg, decide_eq_true e] at this
  exact this rfl
end Wn
/-! sorted of a set of ints, any number of members -/
namespace L2
open PySem PySem.Spec PyProof.Rows
section
variable {P : Program} {w : World} {A : Around} {E : Value → Shared → Prop} {s : Shared} {a : Addr}
theorem sorted_setB {S : Int → Bool} {n : Nat} {Q : Value → Shared → Prop} (R : SetR w s.heap a S n) (hh : A.handled = none) (hn0 : n ≤ 4000)
    (hQ : ∀ s' p (out : Array Value) (c : Nat) (ns : List Int), (∀ b o, s.heap.get? b = some o → s'.heap.get? b = some o) → s'.gens = s.gens → s'.os = s.os → s.heap.objs.size ≤ p →
      s'.heap.get? p = some (seqObj "list" out c) → IntsAre out.toList ns → ns.Pairwise (· < ·) → (∀ k, k ∈ ns ↔ S k = true) → ns.length = n → Q (.ref p) s') :
    wpAny (model P w) A (call (.builtin "sorted") [.ref a]) Q E s := by
  obtain ⟨o, es, ep, t, ho, hex, hd, g, nd, hm, hb, hf, hn, hr, hl⟩ := R
  refine Calls.call_function_entry kind_sorted plain_sorted entry_sorted (args_sorted1 _) ?_
  unfold Builtin.«sorted»
  refine wpAny_bind (m := checkCount "sorted" 1 1 _) (wpAny_pure ?_)
  refine wpAny_bind (collect_set (A := A.in1) hh ⟨o, ho, hex.1, hd⟩ hf hb hr hl fun s1 vs k1 hz g1 o1 pm => ?_)
  have hvl : vs.length = n := by rw [pm.length_eq, List.length_map, Array.length_toList]; exact hn
  have hI : IntsAre vs (vs.map Builtin.Re.reRawOf) := ints_of vs fun v hv => by
    obtain ⟨e, he, q⟩ := List.mem_map.mp (pm.mem_iff.mp hv)
    obtain ⟨k, tk, h1, _⟩ := g e he
    exact ⟨k, tk, by rw [← q]; exact h1⟩
  have pk : (vs.map Builtin.Re.reRawOf).Perm (es.toList.map keyOf) := by
    have q := pm.map Builtin.Re.reRawOf
    rw [List.map_map] at q
    exact q
  have hvz : vs.length ≤ sizeLine := by rw [hvl, sizeLine_eq]; omega
  refine wpAny_bind (wpAny_newList ?_ hvz)
  have hoL : (s1.heap.push (seqObj "list" vs.toArray 0)).get? s1.heap.objs.size = some (seqObj "list" vs.toArray 0) := Heap.get?_push_size _ rfl
  refine wpAny_bind (wpAny_holding (wpAny_call_entry slot_list_sort ⟨_, hoL, rfl⟩ entry_list_sort (SrtO.list_sort_ord SrtO.swo_int hoL hvz (fun h2 => SrtO.ints_sortable hI h2) fun out h1 h2 => ⟨.none, rfl, ?_⟩) (args_list_sort _)))
  obtain ⟨a1, a2, a3⟩ := SrtO.ints_out hI h1 h2
  obtain ⟨c, hc⟩ := sortedHeap_at (vs := vs) (out := out.toArray) hoL
  have pn : (out.map SrtO.iv).Perm (es.toList.map keyOf) := a2.trans pk
  refine wpAny_pure ⟨_, rfl, hQ _ s1.heap.objs.size out.toArray c (out.map SrtO.iv) (fun b u e => ?_) g1 o1 hz hc a1 (lt_of_le_nodup _ a3 (pn.nodup_iff.mpr nd)) (fun k => by rw [pn.mem_iff, ← hm k]) ?_⟩
  · have q := k1 b u e
    have hlt := Heap.lt_size q
    show (sortedHeap (s1.heap.push (seqObj "list" vs.toArray 0)) s1.heap.objs.size vs out.toArray).get? b = some u
    rw [sortedHeap_old (Nat.ne_of_lt hlt) (by rw [size_push']; exact Nat.lt_succ_of_lt hlt)]
    exact Heap.get?_push_of_some _ q
  · rw [pn.length_eq, List.length_map, Array.length_toList]; exact hn
end
def rSortedSetB (w : World) : List V → Hp → VK → Prop := fun vs H Q => ∃ (a : Addr) (S : Int → Bool) (n : Nat), vs = [V.ref a] ∧ H a = some (SetO w a S n) ∧ n ≤ 4000 ∧
  ∀ (ns : List Int) (p : Addr), ns.Pairwise (· < ·) → (∀ k : Int, k ∈ ns ↔ S k = true) → ns.length = n → H p = none → Q (.ref p) (upd H p (.lst (ns.map V.int)))
theorem cr_sortedSetB {X : Cx} (hc : X.calm = true) : CallR X (.builtin "sorted") (rSortedSetB X.w) := by
  intro pins s σ H vs us Q I r h
  obtain ⟨a, S, n, rfl, ha, h64, q⟩ := h
  have R := setO_get I ha
  rw [Vals.ref1 r]
  refine sorted_setB R (I.ok.hd hc) h64 fun s' p out c ns k g o hp hg hi hs hm hl => ?_
  have hlen : (ns.map V.int).length ≤ sizeLine := by rw [List.length_map, hl, sizeLine_eq]; omega
  have hn : H p = none := I.hok.fresh hp
  have J : Inv X pins σ (upd H p (.lst (ns.map V.int))) { s with heap := s'.heap, gens := s'.gens, drawn := s'.drawn, toks := s'.toks } :=
    I.call (ch := []) (Un.laid k hp hn) (I.hok.laid k hp ⟨hlen, out.toList, c, vals_of_ints hi, hg⟩) (by rw [g]; exact I.bare) (fun _ z => nomatch z)
  have e : s' = { s with heap := s'.heap, gens := s'.gens, drawn := s'.drawn, toks := s'.toks } := by
    cases s'
    cases s
    cases o
    rfl
  rw [e]
  exact ⟨.ref p, _, J, rfl, q ns p hs hm hl hn⟩
end L2
namespace Wn
/-! the length (order) of a residue -/
def ordN (n r : Nat) : Nat := if Nat.gcd r n = 1 then (match (List.range n).find? fun j => r ^ (j + 1) % n == 1 % n with
  | some j => j + 1
  | none => 0) else 0
theorem ordN_no {n r : Nat} (h : Nat.gcd r n ≠ 1) : ordN n r = 0 := if_neg h
theorem find_least {n : Nat} {p : Nat → Bool} {j : Nat} (hj : j < n) (h : p j = true) (hl : ∀ i, i < j → p i = false) : (List.range n).find? p = some j := by
  rw [List.find?_range_eq_some]
  refine ⟨h, List.mem_range.mpr hj, fun i hi => ?_⟩
  rw [hl i hi]
  rfl
theorem ordN_per {n r : Nat} (hn : 1 ≤ n) (h : Nat.gcd r n = 1) : IsPer r n (ordN n r) ∧ ordN n r ≤ n := by
  obtain ⟨L, hL, hP⟩ := per_exists hn h
  have e : ordN n r = L := by
    unfold ordN
    rw [if_pos h, find_least (j := L - 1) (by have := hP.1; omega) (by
      rw [Nat.sub_add_cancel hP.1, beq_iff_eq]
      exact hP.2.1) fun i hi => by
        rw [beq_eq_false_iff_ne]
        exact hP.2.2 (i + 1) (by omega) (by omega)]
    exact Nat.sub_add_cancel hP.1
  rw [e]
  exact ⟨hP, hL⟩
theorem ordN_eq {n r L : Nat} (hn : 1 ≤ n) (h : Nat.gcd r n = 1) (hP : IsPer r n L) : ordN n r = L := (ordN_per hn h).1.uniq hP
theorem ordN_pos {n r : Nat} (hn : 1 ≤ n) : ordN n r ≠ 0 ↔ Nat.gcd r n = 1 := by
  constructor
  · intro h
    by_cases g : Nat.gcd r n = 1
    · exact g
    · exact absurd (ordN_no g) h
  · intro g
    have := (ordN_per hn g).1.1
    omega
theorem ordN_le {n r : Nat} (hn : 1 ≤ n) : ordN n r ≤ n := by
  by_cases g : Nat.gcd r n = 1
  · exact (ordN_per hn g).2
  · rw [ordN_no g]
    exact Nat.zero_le _
theorem per_pow {n r L k : Nat} (h : IsPer r n L) (hk : 1 ≤ k) : IsPer (r ^ k % n) n (L / Nat.gcd k L) := by
  have hL := h.1
  have g0 : 0 < Nat.gcd k L := Nat.gcd_pos_of_pos_left L hk
  have key : ∀ j, (r ^ k % n) ^ j % n = 1 % n ↔ L / Nat.gcd k L ∣ j := fun j => by
    rw [← Nat.pow_mod, ← Nat.pow_mul, h.iff]
    obtain ⟨a, ha⟩ := Nat.gcd_dvd_left k L
    obtain ⟨c, hc⟩ := Nat.gcd_dvd_right k L
    have cop := Nat.coprime_div_gcd_div_gcd (m := k) (n := L) g0
    have e1 : L / Nat.gcd k L = c := Nat.div_eq_of_eq_mul_right g0 hc
    have e2 : k / Nat.gcd k L = a := Nat.div_eq_of_eq_mul_right g0 ha
    rw [e1, e2] at cop
    rw [e1]
    generalize Nat.gcd k L = g at g0 ha hc
    rw [ha, hc, Nat.mul_assoc]
    constructor
    · intro d
      exact (Nat.Coprime.symm cop).dvd_of_dvd_mul_left (Nat.dvd_of_mul_dvd_mul_left g0 d)
    · intro d
      exact Nat.mul_dvd_mul_left g (Nat.dvd_trans d (Nat.dvd_mul_left j a))
  refine ⟨Nat.div_pos (Nat.le_of_dvd hL (Nat.gcd_dvd_right k L)) g0, (key _).mpr (Nat.dvd_refl _), fun j j1 jd z => ?_⟩
  have := Nat.le_of_dvd (by omega) ((key j).mp z)
  omega
end Wn
/-! zip of two sequences, each a list or a tuple -/
namespace Wn
open PySem PySem.Spec PyProof.Rows L2
/-- an iterator and what it goes over, of either kind -/
def KIt (t : Bool) (h : Heap) (it l : Addr) (k : Nat) : Prop := if t = true then h.IsTupleIter it l k else h.IsListIter it l k
def KSq (t : Bool) (h : Heap) (l : Addr) (us : Array Value) : Prop := if t = true then h.IsTuple l us else h.IsList l us
theorem KIt.mv {t : Bool} {h h' : Heap} {it l : Addr} {k : Nat} (q : KIt t h it l k) (f : ∀ o, h.get? it = some o → h'.get? it = some o) : KIt t h' it l k := by
  cases t with
  | true => exact Heap.IsTupleIter.at (show h.IsTupleIter it l k from q) f
  | false => exact Heap.IsListIter.at (show h.IsListIter it l k from q) f
theorem KIt.ex {t : Bool} {h h' : Heap} {it l p : Addr} {k : Nat} (q : KIt t h it l k) (f : Heap.ExtBut p h h') (n : it ≠ p) : KIt t h' it l k := q.mv fun o e => f _ _ n e
theorem KSq.ex {t : Bool} {h h' : Heap} {l p : Addr} {us : Array Value} (q : KSq t h l us) (f : Heap.ExtBut p h h') (n : l ≠ p) : KSq t h' l us := by
  cases t with
  | true => exact Heap.IsTuple.extBut (show h.IsTuple l us from q) f n
  | false => exact Heap.IsList.extBut (show h.IsList l us from q) f n
theorem KIt.lt {t : Bool} {h : Heap} {it l : Addr} {k : Nat} (q : KIt t h it l k) : it < h.objs.size := by
  cases t with
  | true => obtain ⟨_, e, _⟩ := (show h.IsTupleIter it l k from q); exact Heap.lt_size e
  | false => obtain ⟨_, e, _⟩ := (show h.IsListIter it l k from q); exact Heap.lt_size e
theorem KSq.lt {t : Bool} {h : Heap} {l : Addr} {us : Array Value} (q : KSq t h l us) : l < h.objs.size := by
  cases t with
  | true => obtain ⟨_, e, _⟩ := (show h.IsTuple l us from q); exact Heap.lt_size e
  | false => obtain ⟨_, e, _⟩ := (show h.IsList l us from q); exact Heap.lt_size e
section
variable {prog : Program} {w : World} {A : Around} {E : Value → Shared → Prop} {s : Shared}
theorem nx_some {t : Bool} {it l : Addr} {k : Nat} {us : Array Value} {x : Value} {Q : Value → Shared → Prop} (q : KIt t s.heap it l k) (r : KSq t s.heap l us) (e : us[k]? = some x)
    (go : ∀ g, KIt t g it l (k + 1) → Heap.SameBut it s.heap g → Q x { s with heap := g }) : wpAny (model prog w) A (Builtin.SmallTypes.nextOf (.ref it)) Q E s := by
  cases t with
  | true => exact RZ.nextOf_tuple_item q r e go
  | false => exact wpAny_nextOf_list_item q r e go
theorem nx_none {t : Bool} {it l : Addr} {k : Nat} {us : Array Value} {Q : Value → Shared → Prop} (hh : A.handled = none) (q : KIt t s.heap it l k) (r : KSq t s.heap l us) (e : us[k]? = none)
    (go : ∀ g p, Heap.ExtBut it s.heap g → (∃ o, g.get? p = some o ∧ o.cls = .type "StopIteration") → E (.ref p) { s with heap := g }) : wpAny (model prog w) A (Builtin.SmallTypes.nextOf (.ref it)) Q E s := by
  cases t with
  | true => exact RZ.nextOf_tuple_end hh q r e go
  | false => exact wpAny_nextOf_list_end hh q r e go
variable {t1 t2 : Bool} {z TI TO i1 i2 l1 l2 : Addr} {k1 k2 : Nat} {us vs : Array Value} {x y a b : Value}
/-- one more pair -/
theorem zm_some {Q : Value → Shared → Prop} (D : ZipApart z TI TO i1 i2 l1 l2) (Z : IsZip s.heap z TI TO .none) (PI : IsPair s.heap TI (.ref i1) (.ref i2)) (PO : IsPair s.heap TO a b)
    (I1 : KIt t1 s.heap i1 l1 k1) (I2 : KIt t2 s.heap i2 l2 k2) (S1 : KSq t1 s.heap l1 us) (S2 : KSq t2 s.heap l2 vs) (ex : us[k1]? = some x) (ey : vs[k2]? = some y)
    (go : ∀ g, IsZip g z TI TO (rawInt s.heap.objs.size) → IsPair g TO x y → KIt t1 g i1 l1 (k1 + 1) → KIt t2 g i2 l2 (k2 + 1) → IsPair g s.heap.objs.size x y → g.objs.size = s.heap.objs.size + 1 →
      (∀ c o, c ≠ z → c ≠ TO → c ≠ i1 → c ≠ i2 → s.heap.get? c = some o → g.get? c = some o) → Q (.ref s.heap.objs.size) { s with heap := g }) :
    wpAny (model prog w) A (Builtin.«zip.__next__» ⟨[.ref z], []⟩) (fun fin s' => ∃ v, fin = .done (.ret v) ∧ Q v s') E s := by
  show wpAny _ _ (field (.ref z) 2 >>= fun _ => _) _ E s
  refine wpAny_bind (wpAny_field Z rfl (x := .bool false) rfl ?_)
  show wpAny _ _ (field (.ref z) 3 >>= fun _ => _) _ E s
  refine wpAny_bind (wpAny_field Z rfl (x := .ref TI) rfl (wpAny_bind (wpAny_seqItems PI rfl ?_)))
  show wpAny _ _ (Builtin.SmallTypes.ownedTupleIsFree (.ref z) >>= fun _ => _) _ E s
  refine wpAny_bind ?_
  unfold Builtin.SmallTypes.ownedTupleIsFree
  refine wpAny_bind (wpAny_field Z rfl (x := .none) rfl (wpAny_pure ?_))
  simp only [if_true]
  refine wpAny_bind (wpAny_rule (wpAny_bind (wpAny_field Z rfl (x := .ref TO) rfl (wpAny_bind (wpAny_setField_rec Z (by simp) fun g1 Z1 e1 => ?_)))))
  replace Z1 : IsZip g1 z TI TO .ellipsis := Z1
  refine wpAny_bind ?_
  simp only [List.zipIdx_cons, List.zipIdx_nil, List.forIn_cons, List.forIn_nil]
  refine wpAny_bind (wpAny_bind (wpAny_onRaise ?_))
  show wpAny _ _ (Builtin.SmallTypes.nextOf (.ref i1) >>= fun _ => _) _ _ _
  refine wpAny_bind (nx_some (I1.ex e1.extBut D.i1z) (S1.ex e1.extBut D.l1z) ex fun g2 J1 e2 => wpAny_pure ?_)
  have PO2 : IsPair g2 TO a b := e2.extBut _ _ D.TOi1 (e1.extBut _ _ D.TOz PO)
  refine wpAny_bind (wpAny_seqItems PO2 rfl (wpAny_bind (wpAny_updateSeq_pair PO2 fun g3 PO3 e3 => ?_)))
  replace PO3 : IsPair g3 TO x b := PO3
  refine wpAny_bind (wpAny_letGo (wpAny_pure (wpAny_bind (wpAny_bind (wpAny_onRaise ?_)))))
  show wpAny _ _ (Builtin.SmallTypes.nextOf (.ref i2) >>= fun _ => _) _ _ _
  refine wpAny_bind (nx_some (((I2.ex e1.extBut D.i2z).ex e2.extBut D.i12.symm).ex e3.extBut D.TOi2.symm) (((S2.ex e1.extBut D.l2z).ex e2.extBut D.l2i1).ex e3.extBut D.l2TO) ey fun g4 J2 e4 => wpAny_pure ?_)
  have PO4 : IsPair g4 TO x b := e4.extBut _ _ D.TOi2 PO3
  refine wpAny_bind (wpAny_seqItems PO4 rfl (wpAny_bind (wpAny_updateSeq_pair PO4 fun g5 PO5 e5 => ?_)))
  replace PO5 : IsPair g5 TO x y := PO5
  refine wpAny_bind (wpAny_letGo (wpAny_pure (wpAny_pure (wpAny_bind (wpAny_seqItems PO5 rfl (wpAny_bind (wpAny_newTuple ?_)))))))
  have sz : g5.objs.size = s.heap.objs.size := by rw [e5.1, e4.1, e3.1, e2.1, e1.1]
  have Z5 : IsZip g5 z TI TO .ellipsis := e5.extBut _ _ D.TOz.symm (e4.extBut _ _ D.i2z.symm (e3.extBut _ _ D.TOz.symm (e2.extBut _ _ D.i1z.symm Z1)))
  have old : ∀ c o, c ≠ z → c ≠ TO → c ≠ i1 → c ≠ i2 → s.heap.get? c = some o → g5.get? c = some o := fun c o n1 n2 n3 n4 e =>
    e5.extBut _ _ n2 (e4.extBut _ _ n4 (e3.extBut _ _ n2 (e2.extBut _ _ n3 (e1.extBut _ _ n1 e))))
  have J1' : KIt t1 g5 i1 l1 (k1 + 1) := ((J1.ex e3.extBut D.TOi1.symm).ex e4.extBut D.i12).ex e5.extBut D.TOi1.symm
  have J2' : KIt t2 g5 i2 l2 (k2 + 1) := J2.ex e5.extBut D.TOi2.symm
  have zl : z < g5.objs.size := Heap.lt_size Z5
  show wpAny _ _ (Builtin.SmallTypes.ownedTupleHandOut (.ref z) (.ref g5.objs.size) >>= fun _ => _) _ _ _
  refine wpAny_bind ?_
  unfold Builtin.SmallTypes.ownedTupleHandOut
  have Z6 : IsZip (g5.push { cls := .type "tuple", data := .seq #[x, y] }) z TI TO .ellipsis := Heap.get?_push_of_some _ Z5
  refine wpAny_bind (wpAny_setField_rec Z6 (by simp) fun g7 Z7 e7 => ?_)
  replace Z7 : IsZip g7 z TI TO (rawInt g5.objs.size) := Z7
  refine wpAny_setField_rec Z7 (by simp) fun g8 Z8 e8 => ?_
  replace Z8 : IsZip g8 z TI TO (rawInt g5.objs.size) := Z8
  have up : ∀ c o, c ≠ z → g5.get? c = some o → g8.get? c = some o := fun c o n e => e8.extBut _ _ n (e7.extBut _ _ n (Heap.get?_push_of_some _ e))
  have T8 : IsPair g8 g5.objs.size x y := e8.extBut _ _ (Nat.ne_of_gt zl) (e7.extBut _ _ (Nat.ne_of_gt zl) (Heap.get?_push_size _ rfl))
  have sz8 : g8.objs.size = g5.objs.size + 1 := by rw [e8.1, e7.1, Heap.size_push]
  rw [sz] at Z8 T8 sz8
  refine wpAny_pure ⟨_, rfl, ?_⟩
  show Q (.ref g5.objs.size) _
  rw [sz]
  exact go g8 Z8 (up _ _ D.TOz PO5) (J1'.mv fun o e => up _ o D.i1z e) (J2'.mv fun o e => up _ o D.i2z e) T8 sz8 fun c o n1 n2 n3 n4 e => up c o n1 (old c o n1 n2 n3 n4 e)
/-- the end -/
theorem zm_none {Q : Fin → Shared → Prop} (hh : A.handled = none) (D : ZipApart z TI TO i1 i2 l1 l2) (Z : IsZip s.heap z TI TO .none) (PI : IsPair s.heap TI (.ref i1) (.ref i2)) (PO : IsPair s.heap TO a b)
    (I1 : KIt t1 s.heap i1 l1 k1) (I2 : KIt t2 s.heap i2 l2 k2) (S1 : KSq t1 s.heap l1 us) (S2 : KSq t2 s.heap l2 vs) (en : us[k1]? = none ∨ vs[k2]? = none)
    (go : ∀ g p, (∀ c o, c ≠ z → c ≠ TO → c ≠ i1 → c ≠ i2 → s.heap.get? c = some o → g.get? c = some o) → (∃ o, g.get? p = some o ∧ o.cls = .type "StopIteration") → E (.ref p) { s with heap := g }) :
    wpAny (model prog w) A (Builtin.«zip.__next__» ⟨[.ref z], []⟩) Q E s := by
  show wpAny _ _ (field (.ref z) 2 >>= fun _ => _) Q E s
  refine wpAny_bind (wpAny_field Z rfl (x := .bool false) rfl ?_)
  show wpAny _ _ (field (.ref z) 3 >>= fun _ => _) Q E s
  refine wpAny_bind (wpAny_field Z rfl (x := .ref TI) rfl (wpAny_bind (wpAny_seqItems PI rfl ?_)))
  show wpAny _ _ (Builtin.SmallTypes.ownedTupleIsFree (.ref z) >>= fun _ => _) Q E s
  refine wpAny_bind ?_
  unfold Builtin.SmallTypes.ownedTupleIsFree
  refine wpAny_bind (wpAny_field Z rfl (x := .none) rfl (wpAny_pure ?_))
  simp only [if_true]
  refine wpAny_bind (wpAny_rule (wpAny_bind (wpAny_field Z rfl (x := .ref TO) rfl (wpAny_bind (wpAny_setField_rec Z (by simp) fun g1 Z1 e1 => ?_)))))
  replace Z1 : IsZip g1 z TI TO .ellipsis := Z1
  refine wpAny_bind ?_
  simp only [List.zipIdx_cons, List.zipIdx_nil, List.forIn_cons, List.forIn_nil]
  refine wpAny_bind (wpAny_bind (wpAny_onRaise ?_))
  show wpAny _ _ (Builtin.SmallTypes.nextOf (.ref i1) >>= fun _ => _) _ _ _
  cases ex : us[k1]? with
  | none =>
    refine wpAny_bind (nx_none hh (I1.ex e1.extBut D.i1z) (S1.ex e1.extBut D.l1z) ex fun g2 p e2 hp => ?_)
    obtain ⟨o, ho, hc⟩ := hp
    have Z2 : IsZip g2 z TI TO .ellipsis := e2 _ _ D.i1z.symm Z1
    have pz : p ≠ z := fun q => by subst q; rw [Z2] at ho; cases ho; simp at hc
    exact wpAny_setField_rec Z2 (by simp) fun g3 _ e3 => go g3 p (fun c o n1 _ n3 _ q => e3.extBut _ _ n1 (e2 _ _ n3 (e1.extBut _ _ n1 q))) ⟨o, e3.extBut _ _ pz ho, hc⟩
  | some x =>
    have ey : vs[k2]? = none := en.resolve_left (by rw [ex]; intro q; cases q)
    refine wpAny_bind (nx_some (I1.ex e1.extBut D.i1z) (S1.ex e1.extBut D.l1z) ex fun g2 J1 e2 => wpAny_pure ?_)
    have PO2 : IsPair g2 TO a b := e2.extBut _ _ D.TOi1 (e1.extBut _ _ D.TOz PO)
    refine wpAny_bind (wpAny_seqItems PO2 rfl (wpAny_bind (wpAny_updateSeq_pair PO2 fun g3 PO3 e3 => ?_)))
    refine wpAny_bind (wpAny_letGo (wpAny_pure (wpAny_bind (wpAny_bind (wpAny_onRaise ?_)))))
    show wpAny _ _ (Builtin.SmallTypes.nextOf (.ref i2) >>= fun _ => _) _ _ _
    refine wpAny_bind (nx_none hh (((I2.ex e1.extBut D.i2z).ex e2.extBut D.i12.symm).ex e3.extBut D.TOi2.symm) (((S2.ex e1.extBut D.l2z).ex e2.extBut D.l2i1).ex e3.extBut D.l2TO) ey fun g4 p e4 hp => ?_)
    obtain ⟨o, ho, hc⟩ := hp
    have Z4 : IsZip g4 z TI TO .ellipsis := e4 _ _ D.i2z.symm (e3.extBut _ _ D.TOz.symm (e2.extBut _ _ D.i1z.symm Z1))
    have pz : p ≠ z := fun q => by subst q; rw [Z4] at ho; cases ho; simp at hc
    exact wpAny_setField_rec Z4 (by simp) fun g5 _ e5 => go g5 p (fun c o n1 n2 n3 n4 q => e5.extBut _ _ n1 (e4 _ _ n4 (e3.extBut _ _ n2 (e2.extBut _ _ n3 (e1.extBut _ _ n1 q))))) ⟨o, e5.extBut _ _ pz ho, hc⟩
theorem py_some {Q : Option Value → Shared → Prop} (D : ZipApart z TI TO i1 i2 l1 l2) (Z : IsZip s.heap z TI TO .none) (PI : IsPair s.heap TI (.ref i1) (.ref i2)) (PO : IsPair s.heap TO a b)
    (I1 : KIt t1 s.heap i1 l1 k1) (I2 : KIt t2 s.heap i2 l2 k2) (S1 : KSq t1 s.heap l1 us) (S2 : KSq t2 s.heap l2 vs) (ex : us[k1]? = some x) (ey : vs[k2]? = some y)
    (go : ∀ g, IsZip g z TI TO (rawInt s.heap.objs.size) → IsPair g TO x y → KIt t1 g i1 l1 (k1 + 1) → KIt t2 g i2 l2 (k2 + 1) → IsPair g s.heap.objs.size x y → g.objs.size = s.heap.objs.size + 1 →
      (∀ c o, c ≠ z → c ≠ TO → c ≠ i1 → c ≠ i2 → s.heap.get? c = some o → g.get? c = some o) → Q (some (.ref s.heap.objs.size)) { s with heap := g }) : wpAny (model prog w) A (pyNext (.ref z)) Q E s := by
  have ty : s.TypeIs (.ref z) "zip" := ⟨_, Z, rfl⟩
  unfold pyNext
  exact wpAny_bind (wpAny_attempt (wpAny_callSpecial?_slot (name := Str.ofString "__next__") ty F.slot_zip_next (wpAny_call_entry F.slot_zip_next ty F.entry_zip_next
    (zm_some D Z PI PO I1 I2 S1 S2 ex ey fun g a1 a2 a3 a4 a5 a6 a7 => wpAny_pure (go g a1 a2 a3 a4 a5 a6 a7)) (F.args_zip_next_1 _))))
theorem py_none {Q : Option Value → Shared → Prop} (hh : A.handled = none) (D : ZipApart z TI TO i1 i2 l1 l2) (Z : IsZip s.heap z TI TO .none) (PI : IsPair s.heap TI (.ref i1) (.ref i2)) (PO : IsPair s.heap TO a b)
    (I1 : KIt t1 s.heap i1 l1 k1) (I2 : KIt t2 s.heap i2 l2 k2) (S1 : KSq t1 s.heap l1 us) (S2 : KSq t2 s.heap l2 vs) (en : us[k1]? = none ∨ vs[k2]? = none)
    (go : ∀ g, (∀ c o, c ≠ z → c ≠ TO → c ≠ i1 → c ≠ i2 → s.heap.get? c = some o → g.get? c = some o) → Q none { s with heap := g }) : wpAny (model prog w) A (pyNext (.ref z)) Q E s := by
  have ty : s.TypeIs (.ref z) "zip" := ⟨_, Z, rfl⟩
  unfold pyNext
  refine wpAny_bind (wpAny_attempt (wpAny_callSpecial?_slot (name := Str.ofString "__next__") ty F.slot_zip_next (wpAny_call_entry F.slot_zip_next ty F.entry_zip_next
    (zm_none hh D Z PI PO I1 I2 S1 S2 en fun g p k hp => ?_) (F.args_zip_next_1 _))))
  obtain ⟨o, ho, hc⟩ := hp
  exact wpAny_bind (wpAny_isInstance (T := "StopIteration") (b := true) ⟨o, ho, hc⟩ isSubtype_stop (wpAny_pure (go _ k)))
end

/-! the zip made -/
def itN (t : Bool) : String := if t = true then "tuple_iterator" else "list_iterator"
abbrev zA (t : Bool) (h : Heap) (l : Addr) : Heap := h.push { cls := .type (itN t), data := .fields #[.ref l, .int 0 0] }
abbrev zB (t u : Bool) (h : Heap) (l k : Addr) : Heap := zA u (zA t h l) k
abbrev zC (t u : Bool) (h : Heap) (l k : Addr) : Heap := (zB t u h l k).push { cls := .type "tuple", data := .seq #[.ref h.objs.size, .ref (zA t h l).objs.size] }
abbrev zD (t u : Bool) (h : Heap) (l k : Addr) : Heap := (zC t u h l k).push { cls := .type "tuple", data := .seq #[.none, .none] }
abbrev zE (t u : Bool) (h : Heap) (l k : Addr) : Heap := (zD t u h l k).push { cls := .type "zip", data := .fields #[.none, .bool false, .bool false, .ref (zB t u h l k).objs.size, .ref (zC t u h l k).objs.size] }
theorem KSq.push {t : Bool} {h : Heap} {l : Addr} {us : Array Value} (q : KSq t h l us) (o : Obj) : KSq t (h.push o) l us := by
  cases t with
  | true => exact Heap.IsTuple.push (show h.IsTuple l us from q) o
  | false => exact Heap.IsList.push (show h.IsList l us from q) o
theorem iter_any {prog : Program} {w : World} {A : Around} {E : Value → Shared → Prop} {s : Shared} {t : Bool} {l : Addr} {us : Array Value} {Q : Value → Shared → Prop} (q : KSq t s.heap l us) (go : Q (.ref s.heap.objs.size) { s with heap := zA t s.heap l }) : wpAny (model prog w) A (pyIter (.ref l)) Q E s := by
  cases t with
  | true => exact wpAny_pyIter_tuple q go
  | false => exact wpAny_pyIter_list q go
theorem zm_new (t u : Bool) (l k : Addr) (us vs : Array Value) :
    Meets (Builtin.«zip.__new__» ⟨[.type "zip", .ref l, .ref k], []⟩) (fun _ R s => KSq t s.heap l us ∧ KSq u s.heap k vs ∧ R (.ok (.ret (.ref (zD t u s.heap l k).objs.size))) { s with heap := zE t u s.heap l k }) :=
  .of_wp fun prog w A R s h => by
    obtain ⟨hp, g, d, tk, os⟩ := s; obtain ⟨q1, q2, go⟩ := h
    have sb := sub_zip
    have L1 : KSq t (Shared.heap ⟨hp, g, d, tk, os⟩) l us := q1
    have L2 : KSq u (Shared.heap ⟨zA t hp l, g, d, tk, os⟩) k vs := q2.push _
    wp_walk using iter_any L1, iter_any L2
    exact ⟨_, rfl, go⟩
theorem zm_call {prog : Program} {w : World} {A : Around} {E : Value → Shared → Prop} {s : Shared} {t u : Bool} {l k : Addr} {us vs : Array Value} {Q : Value → Shared → Prop} (q1 : KSq t s.heap l us) (q2 : KSq u s.heap k vs)
    (go : ∀ g, IsZip g (s.heap.objs.size + 4) (s.heap.objs.size + 2) (s.heap.objs.size + 3) .none → IsPair g (s.heap.objs.size + 2) (.ref s.heap.objs.size) (.ref (s.heap.objs.size + 1)) → IsPair g (s.heap.objs.size + 3) .none .none →
      KIt t g s.heap.objs.size l 0 → KIt u g (s.heap.objs.size + 1) k 0 → (∀ c o, s.heap.get? c = some o → g.get? c = some o) → Q (.ref (s.heap.objs.size + 4)) { s with heap := g }) :
    wpAny (model prog w) A (call (.type "zip") [.ref l, .ref k]) Q E s := by
  refine callType_new F.called_zip (by decide) (F.typeCall_zip_2 _ _) (F.newCall_zip_2 _ _) (fun ob => F.args_object_init_3 ob _ _) F.entry_zip_new (zm_new t u l k us vs) ⟨q1, q2, ?_⟩
  have n1 : (zA t s.heap l).objs.size = s.heap.objs.size + 1 := Heap.size_push ..
  have n2 : (zB t u s.heap l k).objs.size = s.heap.objs.size + 2 := by rw [Heap.size_push, n1]
  have n3 : (zC t u s.heap l k).objs.size = s.heap.objs.size + 3 := by rw [Heap.size_push, n2]
  have n4 : (zD t u s.heap l k).objs.size = s.heap.objs.size + 4 := by rw [Heap.size_push, n3]
  have e5 : (zE t u s.heap l k).get? (zD t u s.heap l k).objs.size = some _ := Heap.get?_push_size _ rfl
  have e4 : (zE t u s.heap l k).get? (zC t u s.heap l k).objs.size = some _ := Heap.get?_push_of_some _ (Heap.get?_push_size _ rfl)
  have e3 : (zE t u s.heap l k).get? (zB t u s.heap l k).objs.size = some _ := Heap.get?_push_of_some _ (Heap.get?_push_of_some _ (Heap.get?_push_size _ rfl))
  have e2 : (zE t u s.heap l k).get? (zA t s.heap l).objs.size = some _ := Heap.get?_push_of_some _ (Heap.get?_push_of_some _ (Heap.get?_push_of_some _ (Heap.get?_push_size _ rfl)))
  have e1 : (zE t u s.heap l k).get? s.heap.objs.size = some _ := Heap.get?_push_of_some _ (Heap.get?_push_of_some _ (Heap.get?_push_of_some _ (Heap.get?_push_of_some _ (Heap.get?_push_size _ rfl))))
  show _ ∧ _
  rw [n2, n3, n4] at e5
  rw [n1, n2] at e3
  rw [n3] at e4
  rw [n1] at e2
  rw [n4]
  have i1 : KIt t (zE t u s.heap l k) s.heap.objs.size l 0 := by
    cases t with
    | true => exact ⟨_, e1, rfl, rfl⟩
    | false => exact ⟨_, e1, rfl, rfl⟩
  have i2 : KIt u (zE t u s.heap l k) (s.heap.objs.size + 1) k 0 := by
    cases u with
    | true => exact ⟨_, e2, rfl, rfl⟩
    | false => exact ⟨_, e2, rfl, rfl⟩
  exact ⟨⟨_, e5, rfl⟩, go _ e5 e3 e4 i1 i2 fun c o x => Heap.get?_push_of_some _ (Heap.get?_push_of_some _ (Heap.get?_push_of_some _ (Heap.get?_push_of_some _ (Heap.get?_push_of_some _ x))))⟩
/-! its walk -/
def SqK (t : Bool) (K : PySem.W.Frag) (H : Hp) (a : Addr) (xs : List V) : Prop := if t = true then SqT K H a xs else SqL K H a xs
theorem SqK.kp {t : Bool} {K : PySem.W.Frag} {H H' : Hp} {a : Addr} {xs : List V} (k : Kp H H') (h : SqK t K H a xs) : SqK t K H' a xs := by
  cases t with
  | true => exact k.sqT h
  | false => exact k.sqL h
theorem SqK.seq {X : Cx} {pins : List (Addr × Obj)} {σ : L2.St} {H : Hp} {s : Shared} {t : Bool} {a : Addr} {xs : List V} (I : Inv X pins σ H s) (h : SqK t X.K H a xs) : ∃ its : List Value, Vals xs its ∧ KSq t s.heap a its.toArray := by
  cases t with
  | true =>
    obtain ⟨its, r, p, _⟩ := I.tuple h
    exact ⟨its, r, p⟩
  | false =>
    obtain ⟨its, r, p, _⟩ := I.list h
    exact ⟨its, r, p.isList⟩
theorem SqK.inj {X : Cx} {pins : List (Addr × Obj)} {σ : L2.St} {H : Hp} {s : Shared} {t : Bool} {a : Addr} {xs ys : List V} (I : Inv X pins σ H s) (h : SqK t X.K H a xs) (h2 : SqK t X.K H a ys) : xs = ys := by
  cases t with
  | true => exact I.tuple_inj h h2
  | false => exact I.list_inj h h2
def ItzM (t u : Bool) (K : PySem.W.Frag) (a b : Addr) : It :=
  ⟨fun i H => ∃ (xs ys : List V) (x y : V), SqK t K H a xs ∧ SqK u K H b ys ∧ xs[i]? = some x ∧ ys[i]? = some y,
    fun i H v H' => ∃ p x y, v = .ref p ∧ H p = none ∧ H' = upd H p (.tup [x, y]) ∧ (∀ xs, SqK t K H a xs → xs[i]? = some x) ∧ ∀ ys, SqK u K H b ys → ys[i]? = some y,
    fun i H => ∃ xs ys : List V, SqK t K H a xs ∧ SqK u K H b ys ∧ (xs.length ≤ i ∨ ys.length ≤ i)⟩
theorem mem5 {c z TI TO i1 i2 : Addr} (h : c ∈ [z, TI, TO, i1, i2]) : c = z ∨ c = TI ∨ c = TO ∨ c = i1 ∨ c = i2 := by simpa using h
theorem turn_zipM {P : Program} {w : World} {K : PySem.W.Frag} {t u : Bool} {elts : List Expr} {kk : Nat} {tpos : Pos} {a b z TI TO i1 i2 : Addr} (D : ZipApart z TI TO i1 i2 a b) :
    Turn P w K (.Tuple elts kk tpos) (ItzM t u K a b) [z, TI, TO, i1, i2] z (fun i h => IsZip h z TI TO .none ∧ IsPair h TI (.ref i1) (.ref i2) ∧ (∃ x y, IsPair h TO x y) ∧ KIt t h i1 a i ∧ KIt u h i2 b i) where
  mem := by simp
  obj := fun i h st c hc => by
    obtain ⟨Z, PI, ⟨x, y, PO⟩, J1, J2⟩ := st
    have its : ∀ {t : Bool} {i a k}, KIt t h i a k → ∃ o, h.get? i = some o ∧ ∀ v, o.data ≠ .cell v := fun {t i a k} J => by
      cases t with
      | true => obtain ⟨o, e, _, d⟩ := (show h.IsTupleIter i a k from J); exact ⟨o, e, fun v q => by rw [d] at q; cases q⟩
      | false => obtain ⟨o, e, _, d⟩ := (show h.IsListIter i a k from J); exact ⟨o, e, fun v q => by rw [d] at q; cases q⟩
    rcases mem5 hc with rfl | rfl | rfl | rfl | rfl
    · exact ⟨_, Z, fun v q => nomatch q⟩
    · exact ⟨_, PI, fun v q => nomatch q⟩
    · exact ⟨_, PO, fun v q => nomatch q⟩
    · exact its J1
    · exact its J2
  keep := fun i h g st k => by
    obtain ⟨Z, PI, ⟨x, y, PO⟩, J1, J2⟩ := st
    exact ⟨k z (by simp) _ Z, k TI (by simp) _ PI, ⟨x, y, k TO (by simp) _ PO⟩, J1.mv fun o q => k i1 (by simp) o q, J2.mv fun o q => k i2 (by simp) o q⟩
  item := by
    intro X eP ew eK hc i pins s σ H E I hf st hg
    subst eP ew eK
    obtain ⟨Z, PI, ⟨x0, y0, PO⟩, J1, J2⟩ := st
    obtain ⟨xs, ys, x, y, qx, qy, ex, ey⟩ := hg
    obtain ⟨its, rv, p1⟩ := qx.seq I
    obtain ⟨jts, rw2, p2⟩ := qy.seq I
    obtain ⟨v1, hv1, r1⟩ := rv.get ex
    obtain ⟨v2, hv2, r2⟩ := rw2.get ey
    have zl : z < s.heap.objs.size := Heap.lt_size Z
    refine py_some D Z PI PO J1 J2 p1 p2 (x := v1) (y := v2) (by simpa using hv1) (by simpa using hv2) fun g Z' PO' J1' J2' T' hsz old => ?_
    refine ⟨_, rfl, wpAny_letOwnedTupleGo_zip (s := { s with heap := g }) Z' fun g2 Z2 sb => ?_⟩
    have T2 : g2.get? s.heap.objs.size = some { cls := .type "tuple", data := .seq #[v1, v2] } := (sb.2 _ (Nat.ne_of_gt zl)).trans T'
    have nw : ObjOk X.prog X.w (upd H s.heap.objs.size (.tup [x, y])) g2 s.heap.objs.size (.tup [x, y]) := ⟨by show 2 ≤ sizeLine; decide, [v1, v2], .cons r1 (.cons r2 .nil), ⟨_, T2, rfl, _, rfl⟩⟩
    have ne5 : ∀ {c}, c ∉ [z, TI, TO, i1, i2] → c ≠ z ∧ c ≠ TO ∧ c ≠ i1 ∧ c ≠ i2 := fun {c} n => ⟨fun q => n (by simp [q]), fun q => n (by simp [q]), fun q => n (by simp [q]), fun q => n (by simp [q])⟩
    have I2 : Inv X pins σ (upd H s.heap.objs.size (.tup [x, y])) { s with heap := g2 } :=
      I.turnedNew (t' := s.toks) (ch := [z, TI, TO, i1, i2]) (fun c o n q => (sb.2 c (ne5 n).1).trans (old c o (ne5 n).1 (ne5 n).2.1 (ne5 n).2.2.1 (ne5 n).2.2.2 q)) hf (Nat.le_refl _) nw
    refine ⟨.ref s.heap.objs.size, _, I2, rfl, ⟨_, x, y, rfl, I.hok.fresh (Nat.le_refl _), rfl, fun l hl => by rw [SqK.inj I hl qx]; exact ex, fun l hl => by rw [SqK.inj I hl qy]; exact ey⟩, ⟨Z2, ?_, ⟨v1, v2, ?_⟩, ?_, ?_⟩, fun c hcm => ?_⟩
    · exact (sb.2 _ D.TIz).trans (old _ _ D.TIz D.TITO D.TIi1 D.TIi2 PI)
    · exact (sb.2 _ D.TOz).trans PO'
    · exact J1'.mv fun o q => (sb.2 _ D.i1z).trans q
    · exact J2'.mv fun o q => (sb.2 _ D.i2z).trans q
    · have hlt : c < s.heap.objs.size := by
        rcases mem5 hcm with rfl | rfl | rfl | rfl | rfl
        · exact zl
        · exact Heap.lt_size PI
        · exact Heap.lt_size PO
        · exact J1.lt
        · exact J2.lt
      rw [upd_ne (Nat.ne_of_lt hlt)]
      exact (hf c hcm).1
  done := by
    intro X eP ew eK hc i pins s σ H E I hf st hg
    subst eP ew eK
    obtain ⟨Z, PI, ⟨x0, y0, PO⟩, J1, J2⟩ := st
    obtain ⟨xs, ys, qx, qy, en⟩ := hg
    obtain ⟨its, rv, p1⟩ := qx.seq I
    obtain ⟨jts, rw2, p2⟩ := qy.seq I
    have l1 := rv.length
    have l2 := rw2.length
    have he : its.toArray[i]? = none ∨ jts.toArray[i]? = none := en.imp (fun q => by simp; omega) (fun q => by simp; omega)
    have ne5 : ∀ {c}, c ∉ [z, TI, TO, i1, i2] → c ≠ z ∧ c ≠ TO ∧ c ≠ i1 ∧ c ≠ i2 := fun {c} n => ⟨fun q => n (by simp [q]), fun q => n (by simp [q]), fun q => n (by simp [q]), fun q => n (by simp [q])⟩
    exact py_none (I.ok.hd hc) D Z PI PO J1 J2 p1 p2 he fun g old => ⟨rfl, I.turnedL (t' := s.toks) (ch := [z, TI, TO, i1, i2]) (fun c o n q => old c o (ne5 n).1 (ne5 n).2.1 (ne5 n).2.2.1 (ne5 n).2.2.2 q) hf⟩
  self := fun A i s Q E st h => wpAny_pyIter_zip st.1 h
def iZipM (K : PySem.W.Frag) (ta : TA) : TI := fun σ H R => ta σ H fun vs H1 => ∃ (t u : Bool) (a b : Addr) (xs ys : List V), vs = [.ref a, .ref b] ∧ SqK t K H1 a xs ∧ SqK u K H1 b ys ∧ R (ItzM t u K a b) H1
theorem pi_zipM {X : Cx} {e e2 : Expr} {ta : TA} {p pos tpos : Pos} {elts : List Expr} {kk : Nat} (hg : Gl X "zip") (hm : X.mg "zip" = none) (ha : PA X [e, e2] ta)
    (h1 : starEach [e, e2] X.env = (false, eval e X.env) :: starEach [e2] X.env := by rfl) (h2 : (backTo pos (starEach [e2] X.env)).any (·.1) = false := by rfl) : PI X (.Tuple elts kk tpos) (.Call (.Name "zip" p) [e, e2] [] pos) (iZipM X.K ta) := by
  refine ⟨fun pins s σ H R I h => ?_⟩
  refine Call_ (ld_blt I hg hm PyProof.Rows.boot_zip (PyProof.Rows.callWith_type1 (thn (ha.run pos pins s σ H _ I h) fun args s1 ⟨vs, H1, I1, r1, q1⟩ => ?_) h1 h2))
  obtain ⟨t, u, a, b, xs, ys, rfl, qx, qy, q⟩ := q1
  cases r1 with
  | cons ra rr =>
    cases rr with
    | cons rb rr =>
      cases rr
      cases ra
      cases rb
      obtain ⟨its, rv, p1⟩ := qx.seq I1
      obtain ⟨jts, rw2, p2⟩ := qy.seq I1
      refine zm_call p1 p2 fun g Z PI PO J1 J2 old => wpAny_pyIter_zip Z ?_
      have fresh : ∀ c, c ∈ [s1.heap.objs.size + 4, s1.heap.objs.size + 2, s1.heap.objs.size + 3, s1.heap.objs.size, s1.heap.objs.size + 1] → FpOk X pins H1 c := fun c hcm => by
        have hle : s1.heap.objs.size ≤ c := by
          rcases mem5 hcm with rfl | rfl | rfl | rfl | rfl
          · exact Nat.le_add_right _ _
          · exact Nat.le_add_right _ _
          · exact Nat.le_add_right _ _
          · exact Nat.le_refl _
          · exact Nat.le_add_right _ _
        exact I1.fpOk hle (I1.hok.fresh hle)
      exact ⟨s1.heap.objs.size + 4, [s1.heap.objs.size + 4, s1.heap.objs.size + 2, s1.heap.objs.size + 3, s1.heap.objs.size, s1.heap.objs.size + 1], _, _, H1, rfl, I1.kept (t' := s1.toks) old, turn_zipM (PySem.W.ktu_apart s1.heap.objs.size a b p1.lt p2.lt), ⟨Z, PI, ⟨_, _, PO⟩, J1, J2⟩, fresh, q⟩
/-! a loop, a comprehension over it -/
theorem for_zipM {K : PySem.W.Frag} {t u : Bool} {a b : Addr} {xs ys : List V} {g : TG} {tb : TS} {D : Ends} {σ : L2.St} {H : Hp} (hl : xs.length = ys.length) (Pv : Nat → L2.St → Hp → Prop) (h0 : Pv 0 σ H) (hq : ∀ i σ H, Pv i σ H → SqK t K H a xs ∧ SqK u K H b ys)
    (hs : ∀ (i : Nat) (x y : V) (p : Addr) (σ : L2.St) (H : Hp), xs[i]? = some x → ys[i]? = some y → Pv i σ H → H p = none → g (.ref p) σ (upd H p (.tup [x, y])) fun σ2 H2 => tb { D with nx := Pv (i + 1), ct := Pv (i + 1), bk := D.nx } σ2 H2) (hd : ∀ σ H, Pv xs.length σ H → D.nx σ H) :
    ∃ W : Nat → Nat → L2.St → Hp → Prop, (∃ m, W 0 m σ H) ∧ ∀ i m σ H, W i m σ H →
      ((ItzM t u K a b).stop i H ∧ D.nx σ H) ∨ ((ItzM t u K a b).go i H ∧ ∃ N : L2.St → Hp → Prop, (∀ σ' H', N σ' H' → ∃ m', m' < m ∧ W (i + 1) m' σ' H') ∧ ∀ v H', (ItzM t u K a b).yld i H v H' → g v σ H' fun σ2 H2 => tb { D with nx := N, ct := N, bk := D.nx } σ2 H2) := by
  refine ⟨fun i m σ H => m = xs.length - i ∧ i ≤ xs.length ∧ Pv i σ H, ⟨xs.length, rfl, Nat.zero_le _, h0⟩, ?_⟩
  rintro i m σ H ⟨rfl, hi, pv⟩
  obtain ⟨qx, qy⟩ := hq i σ H pv
  rcases Nat.lt_or_eq_of_le hi with lt | rfl
  · have lt2 : i < ys.length := by omega
    refine .inr ⟨⟨xs, ys, _, _, qx, qy, List.getElem?_eq_getElem lt, List.getElem?_eq_getElem lt2⟩, Pv (i + 1), fun σ' H' z => ⟨xs.length - (i + 1), by omega, rfl, lt, z⟩, fun v H' y => ?_⟩
    obtain ⟨p, x', y', rfl, np, rfl, f1, f2⟩ := y
    exact hs i x' y' p σ H (f1 xs qx) (f2 ys qy) pv np
  · exact .inl ⟨⟨xs, ys, qx, qy, .inl (Nat.le_refl _)⟩, hd σ H pv⟩
theorem lc_zipM {K : PySem.W.Frag} {t u : Bool} {a b : Addr} {xs ys : List V} {g : TG} {tt : TT} {te : TE} {vs : List Nat} {σ : L2.St} {H1 : Hp} {D : Addr} {Qd : Hp → Prop} (hl : xs.length = ys.length) (Pv : Nat → Hp → Prop) (h0 : Pv 0 (upd H1 D (.lst []))) (hq : ∀ i H, Pv i H → SqK t K H a xs ∧ SqK u K H b ys)
    (hs : ∀ (i : Nat) (x y : V) (p : Addr) (H : Hp), xs[i]? = some x → ys[i]? = some y → Pv i H → H p = none → g (.ref p) (wipe σ vs) (upd H p (.tup [x, y])) fun σ2 H2 => wipe σ2 vs = wipe σ vs ∧ tt σ2 H2 fun b H3 =>
      if b = true then te σ2 H3 fun y H4 => ∃ acc, H4 D = some (.lst acc) ∧ acc.length < sizeLine ∧ Pv (i + 1) (upd H4 D (.lst (acc ++ [y]))) else Pv (i + 1) H3) (hd : ∀ H, Pv xs.length H → Qd H) :
    ∃ W : Nat → Nat → Hp → Prop, (∃ m, W 0 m (upd H1 D (.lst []))) ∧ ∀ i m H, W i m H →
      ((ItzM t u K a b).stop i H ∧ Qd H) ∨ ((ItzM t u K a b).go i H ∧ ∃ Nx : Hp → Prop, (∀ H', Nx H' → ∃ m', m' < m ∧ W (i + 1) m' H') ∧ ∀ x H', (ItzM t u K a b).yld i H x H' → g x (wipe σ vs) H' fun σ2 H2 => wipe σ2 vs = wipe σ vs ∧ tt σ2 H2 fun b H3 =>
        if b = true then te σ2 H3 fun y H4 => ∃ acc, H4 D = some (.lst acc) ∧ acc.length < sizeLine ∧ Nx (upd H4 D (.lst (acc ++ [y]))) else Nx H3) := by
  refine ⟨fun i m H => m = xs.length - i ∧ i ≤ xs.length ∧ Pv i H, ⟨xs.length, rfl, Nat.zero_le _, h0⟩, ?_⟩
  rintro i m H ⟨rfl, hi, pv⟩
  obtain ⟨qx, qy⟩ := hq i H pv
  rcases Nat.lt_or_eq_of_le hi with lt | rfl
  · have lt2 : i < ys.length := by omega
    refine .inr ⟨⟨xs, ys, _, _, qx, qy, List.getElem?_eq_getElem lt, List.getElem?_eq_getElem lt2⟩, Pv (i + 1), fun H' z => ⟨xs.length - (i + 1), by omega, rfl, lt, z⟩, fun v H' y => ?_⟩
    obtain ⟨p, x', y', rfl, np, rfl, f1, f2⟩ := y
    exact hs i x' y' p H (f1 xs qx) (f2 ys qy) pv np
  · exact .inl ⟨⟨xs, ys, qx, qy, .inl (Nat.le_refl _)⟩, hd H pv⟩
end Wn
/-! several except clauses that all name the error alike -/
namespace Wn
open PySem PySem.Spec PyProof.Rows L2
/-- the ends of a clause after which the name is gone -/
def endsNo (i : Nat) (D : Ends) : Ends := ⟨fun τ G => D.nx (τ.set i none) G, D.rt, fun τ G => D.bk (τ.set i none) G, fun τ G => D.ct (τ.set i none) G⟩
/-- one clause after the other -/
def wTwo (K : PySem.W.Frag) (i : Nat) (Wo : WX) (D : Ends) : List (Value × (Addr → Value → Option Addr → TS)) → WX
  | [] => Wo
  | (c, t) :: r => fun k d τ G => ∃ b, PySem.W.exmOne K k c = some b ∧ (b = true → ∀ p, G p = none → t p k d (endsNo i D) (τ.set i (some (.ref p))) G) ∧ (b = false → wTwo K i Wo D r k d τ G)
inductive ClAs (X : Cx) (nm : Str) : List ExceptHandler → List (Value × (Addr → Value → Option Addr → TS)) → Prop
  | nil : ClAs X nm [] []
  | cons {y : Str} {c : Value} {t : Addr → Value → Option Addr → TS} {st : Stmt} {sts : List Stmt} {p1 p2 : Pos} {hs : List ExceptHandler} {l : List (Value × (Addr → Value → Option Addr → TS))} (hc : Names X y c)
      (hb : ∀ (p : Addr) (o : Obj) (k : Value) (d : Option Addr) (pn : List (Addr × Obj)), Zc k d o → (∃ zs, o.data = .fields zs) → PSs (X.suite p ((p, o) :: pn)) (st :: sts) (t p k d)) (r : ClAs X nm hs l) :
      ClAs X nm (.ExceptHandler (some (.Name y p1)) (some nm) (st :: sts) p2 :: hs) ((c, t) :: l)
section
variable {X : Cx} {nm : Str} {i : Nat} {body : List Stmt} {g₀ : ExceptHandler} {gs : List ExceptHandler} {l : List (Value × (Addr → Value → Option Addr → TS))} {pos : Pos} {tb : WX → TS} {Wo : WX}
theorem ps_try_two (hst : X.stack = X.env :: X.outer) (hfm : X.env.frame = some X.env.locals) (hnd : X.N.Nodup) (hi : X.N[i]? = some nm) (hlo : X.env.kindOf nm = some .local) (tk : Takes X Wo)
    (hb : ∀ (W : WX) (pn : List (Addr × Obj)) (xe : Value → Shared → Prop), Takes (X.tr pn xe) W → PassesOwn (model X.prog X.w) X.A X.env xe → PSs (X.tr pn xe) body (tb W))
    (hcl : ClAs X nm (g₀ :: gs) l) : PS X (.Try body (g₀ :: gs) [] [] pos) (fun D τ G => tb (wTwo X.K i Wo D l) D τ G) := by
  refine ⟨fun pins s τ G D I0 hw => ?_⟩
  have okk := I0.ok; have frm : X.A.frames = some (X.env :: X.outer) := by rw [okk.frames, hst]
  have hlc : Loc X.env.scope nm := .inl hlo
  refine wpAny_Try_except (wpAny_mono ((hb (wTwo X.K i Wo D l) (X.pn ++ pins) (fun ex u₁ => wpAny (model X.prog X.w) X.A (noteFrame ex X.env) (fun _ u₂ => wpAny (model X.prog X.w) X.A (setFlight ex none) (fun _ u₃ =>
    wpAny (model X.prog X.w) X.A (handleBy ex X.env (g₀ :: gs)) (SP X pins D) X.xe u₃) X.xe u₂) X.xe u₁) (fun u z hx => ?_) PassesOwn.looking).run [] s τ G D (I0.toTry _) hw) (fun fl z hsp => ?_) (fun ex z he => he))
  · obtain ⟨p, B, sI, pins', τ', G', k, d, rfl, J0, nb, up, sk, np, os, ag, w⟩ := hx
    have J : Inv X pins τ' G' sI := J0.ofTry okk
    have sk' : Sky B (X.env :: X.outer) p (Zc k d) X.env.locals z.heap := by rw [← hst]; exact sk
    show wpAny (model X.prog X.w) X.A (noteFrame (.ref p) X.env) _ _ _
    refine Sky.land Zc.steady frm hfm sk' fun g3 F3 U3 => ?_
    have J3 : Inv X pins τ' G' { z with heap := g3 } := J.landed nb F3.1 (up.trans U3) os ag
    obtain ⟨o3, zs3, q3, qz3, qd3⟩ := F3.there
    have noF : ∀ {g : Heap} {o : Obj} {zs : Array Value}, g.FunFrames B (X.env :: X.outer) → g.get? p = some o → o.data = .fields zs → p ∉ frs (X.env :: X.outer) := fun {g o zs} ff e dd hm => by
      obtain ⟨_, o', e', nf⟩ := ff.mem hm
      rw [e] at e'; cases e'
      exact nf _ dd
    have noP := noF F3.2.2.1 q3 qd3
    have pL : p ≠ X.env.locals := fun e => noP (List.mem_filterMap.mpr ⟨X.env, List.mem_cons_self, by rw [hfm, e]⟩)
    have pF : p ∉ X.fs := fun hm => by
      obtain ⟨e, he, q⟩ := List.mem_filterMap.mp hm
      exact noP (List.mem_filterMap.mpr ⟨e, List.mem_cons_of_mem _ he, q⟩)
    have S3 := J3.suite q3 qd3 np pL pF
    have go : ∀ {hs' : List ExceptHandler} {l' : List (Value × (Addr → Value → Option Addr → TS))}, ClAs X nm hs' l' → wTwo X.K i Wo D l' k d τ' G' →
        wpAny (model X.prog X.w) X.A (handleBy (.ref p) X.env hs') (SP X pins D) X.xe { z with heap := g3 } := by
      intro hs' l' hk
      induction hk with
      | nil =>
        intro w
        refine wpAny_handleBy_nil ?_
        obtain ⟨k1, k2, k3, o5, zs5, T5, oT5, ts5, e5, z5, d5, h5, r5⟩ := id F3
        unfold PySem.passOn
        refine wpAny_bind (wpAny_field e5 d5 h5 ?_)
        rw [if_neg (show ¬ ((Value.ref T5 == Value.none) = true) from by simp)]
        have out : wpAny (model X.prog X.w) X.A (setFlight (.ref p) X.env.frame) (fun _ u => wpAny (model X.prog X.w) X.A (throw (.ref p) : Sem Flow) (SP X pins D) X.xe u) X.xe { z with heap := g3 } := by
          rw [hfm]
          exact HandSPX.setFlight_upZ F3 fun g4 F4 U4 => wpAny_throw (tk _ _ ⟨p, B, sI, pins, τ', G', k, d, rfl, J, nb, (up.trans U3).trans U4, .inr (.inr (by rw [hst]; exact F4)), np, os, ag, w⟩)
        first
          | exact wpAny_bind (wpAny_pure (wpAny_bind out))
          | exact wpAny_bind out
      | @cons y c t st sts p1 p2 hs2 l2 hc hsu r ih =>
        intro w
        obtain ⟨b, ex1, yes, no⟩ := w
        refine wpAny_handleBy_cons (codeAny_handlers_test ?_) (by intro q; cases q)
        have lo : PySem.W.Looks (model X.prog X.w) g3 (typeOf (.ref p)) k := fun A Q E u m q => wpAny_typeOf_ref (m _ _ q3) (by rw [qz3.1]; exact q)
        have ma := PySem.W.exm_one (M := model X.prog X.w) (J3.kIn) lo ex1
        have ask : ∀ {Q E : Value → Shared → Prop}, Q c { z with heap := g3 } → wpAny (model X.prog X.w) (X.A.mark (some (.ref p))) (eval (.Name y p1) X.env) Q E { z with heap := g3 } := fun {Q E} q => by
          obtain ⟨hg, hdb, hm | ⟨hm, hv, hnn⟩⟩ := hc
          · exact ld_glob (X := X.suite p ((p, o3) :: (X.pn ++ pins))) S3 hg hm q hdb
          · exact ld_blt (X := X.suite p ((p, o3) :: (X.pn ++ pins))) S3 hg hm hv q hnn hdb
        refine ask (ma.here ?_)
        cases b with
        | true =>
          refine codeAny_handlers_suite_as (HandSPX.lands_againZ F3 fun g4 F4 U4 => ?_)
          have J4 : Inv X pins τ' G' { z with heap := g4 } := J.landed nb F4.1 ((up.trans U3).trans U4) os ag
          obtain ⟨o4, zs4, q4, qz4, qd4⟩ := F4.there
          have S4 := J4.suite q4 qd4 np pL pF
          refine store_ok (X := X.suite p ((p, o4) :: (X.pn ++ pins))) (v := .ref p) S4 hnd hi hlc rfl (fun u5 S5 => ?_) (.inr hlo)
          refine wpAny_mono ((hsu p o4 k d (X.pn ++ pins) qz4 ⟨_, qd4⟩).run [] u5 _ G' _ S5 (yes rfl p np)) (fun fl u6 hsp => ?_) (fun _ _ q => False.elim q)
          have gone : ∀ {τ6 : L2.St} {G6 : Hp} {Q : Shared → Prop}, Inv (X.suite p ((p, o4) :: (X.pn ++ pins))) [] τ6 G6 u6 → (∀ u7, Inv X pins (τ6.set i none) G6 u7 → Q u7) →
              wpAny (model X.prog X.w) X.A (do bindName X.env nm .none; unbindBehindTheSuite X.env nm p2) (fun _ u7 => Q u7) X.xe u6 := fun {τ6 G6 Q} S6 hq => gone_ok (S6.unsuite okk) hnd hi hlo hq
          cases fl with
          | next => obtain ⟨τ6, G6, S6, q6⟩ := hsp; exact gone S6 fun u7 J7 => ⟨_, _, J7, q6⟩
          | brk => obtain ⟨τ6, G6, S6, q6⟩ := hsp; exact gone S6 fun u7 J7 => ⟨_, _, J7, q6⟩
          | cont => obtain ⟨τ6, G6, S6, q6⟩ := hsp; exact gone S6 fun u7 J7 => ⟨_, _, J7, q6⟩
          | ret v => obtain ⟨v6, τ6, G6, S6, r6, q6⟩ := hsp; exact gone S6 fun u7 J7 => ⟨_, _, _, J7, r6, q6⟩
        | false =>
          show wpAny _ X.A (handleBy (.ref p) X.env hs2) _ _ _
          exact ih (no rfl)
    exact go hcl w
  · cases fl with
    | next => obtain ⟨τ', G', J', q⟩ := hsp; exact wpAny_execs_nil ⟨τ', G', J'.ofTry okk, q⟩
    | brk => obtain ⟨τ', G', J', q⟩ := hsp; exact ⟨τ', G', J'.ofTry okk, q⟩
    | cont => obtain ⟨τ', G', J', q⟩ := hsp; exact ⟨τ', G', J'.ofTry okk, q⟩
    | ret u => obtain ⟨v, τ', G', J', r, q⟩ := hsp; exact ⟨v, τ', G', J'.ofTry okk, r, q⟩
end
end Wn
namespace Wn
open PySem PySem.Spec PyProof.Rows L2
local macro_rules | `(tactic| walk_at "vc") => `(tactic| simp only [cxK, cxK2, start1, start2, start3, tRet, tRetN, tSeq, tNext, tIfS, tAsg, gName, tDrop, tVar, tC, tOp, tUn, tTest, tB, tNot, tAnd, tOr, tAndV, tOrV, tNotV, tIf, tCons, tNil, tCB, tCall, tChain, tAug, ipI, rI, rI0, rU, rIs, rGcd, rEq, rNe, scal,
  List.getElem?_cons_zero, List.getElem?_cons_succ, List.set_cons_zero, List.set_cons_succ, Option.some.injEq, List.cons.injEq, V.int.injEq, V.bl.injEq, V.ref.injEq, V.str.injEq, and_true, true_and, exists_eq_left, exists_eq_left', exists_and_left, exists_and_right, List.append_nil, List.nil_append, List.cons_append, exists_eq_right, exists_eq_right', and_assoc, exists_const, V.ty.injEq, ↓reduceIte, Bool.false_eq_true, Bool.not_true, Bool.not_false, decide_eq_true_eq])
def topS (i : Nat) : Stmt := PySem.Challenge.pw_wheelnines_k44_whole_seen.main.body.getD i (.Pass ⟨0, 0, 0, 0⟩)
abbrev s_is_integer : Stmt := topS 12
theorem sc_is_integer : FnScope ["value"] ["value"] (defScope s_is_integer) := ⟨rfl, rfl, rfl, by decide +kernel, rfl, by decide +kernel, by decide +kernel⟩
abbrev s_is_within : Stmt := topS 13
theorem sc_is_within : FnScope ["value", "low", "high"] ["value", "low", "high"] (defScope s_is_within) := ⟨rfl, rfl, rfl, by decide +kernel, rfl, by decide +kernel, by decide +kernel⟩
abbrev s_need_base : Stmt := topS 14
theorem sc_need_base : FnScope ["value"] ["value"] (defScope s_need_base) := ⟨rfl, rfl, rfl, by decide +kernel, rfl, by decide +kernel, by decide +kernel⟩
abbrev s_need_fraction : Stmt := topS 15
theorem sc_need_fraction : FnScope ["value", "numerator", "denominator"] ["value"] (defScope s_need_fraction) := ⟨rfl, rfl, rfl, by decide +kernel, rfl, by decide +kernel, by decide +kernel⟩
abbrev s_divided : Stmt := topS 17
theorem sc_divided : FnScope ["base", "remainder", "denominator", "count", "row", "rest", "_"] ["base", "remainder", "denominator", "count"] (defScope s_divided) := ⟨rfl, rfl, rfl, by decide +kernel, rfl, by decide +kernel, by decide +kernel⟩
abbrev s_need_seen : Stmt := topS 23
theorem sc_need_seen : FnScope ["base", "value", "item"] ["base", "value"] (defScope s_need_seen) := ⟨rfl, rfl, rfl, by decide +kernel, rfl, by decide +kernel, by decide +kernel⟩
abbrev s_has_digits : Stmt := topS 24
theorem sc_has_digits : FnScope ["base", "fraction", "seen", "rest", "denominator", "item"] ["base", "fraction", "seen"] (defScope s_has_digits) := ⟨rfl, rfl, rfl, by decide +kernel, rfl, by decide +kernel, by decide +kernel⟩
abbrev s_fits : Stmt := topS 25
theorem sc_fits : FnScope ["base", "fraction", "seen"] ["base", "fraction", "seen"] (defScope s_fits) := ⟨rfl, rfl, rfl, by decide +kernel, rfl, by decide +kernel, by decide +kernel⟩
abbrev s_all_fitting : Stmt := topS 26
theorem sc_all_fitting : FnScope ["base", "seen", "most", "found", "denominator", "numerator"] ["base", "seen", "most"] (defScope s_all_fitting) := ⟨rfl, rfl, rfl, by decide +kernel, rfl, by decide +kernel, by decide +kernel⟩
abbrev s_fitting : Stmt := topS 27
theorem sc_fitting : FnScope ["base", "seen", "most", "found"] ["base", "seen", "most"] (defScope s_fitting) := ⟨rfl, rfl, rfl, by decide +kernel, rfl, by decide +kernel, by decide +kernel⟩
abbrev s_simplest : Stmt := topS 28
theorem sc_simplest : FnScope ["base", "seen", "most", "found"] ["base", "seen", "most"] (defScope s_simplest) := ⟨rfl, rfl, rfl, by decide +kernel, rfl, by decide +kernel, by decide +kernel⟩
abbrev s_sure_digits : Stmt := topS 29
theorem sc_sure_digits : FnScope ["base", "seen", "most", "count", "found", "sure", "numerator", "denominator", "row", "digit", "known"] ["base", "seen", "most", "count"] (defScope s_sure_digits) := ⟨rfl, rfl, rfl, by decide +kernel, rfl, by decide +kernel, by decide +kernel⟩
abbrev s_law_begun : Stmt := topS 31
theorem sc_law_begun : FnScope ["script", "k", "cells", "great", "cell", "seed"] ["script", "k"] (defScope s_law_begun) := ⟨rfl, rfl, rfl, by decide +kernel, rfl, by decide +kernel, by decide +kernel⟩
abbrev s_law_draw : Stmt := topS 32
theorem sc_law_draw : FnScope ["m", "limit", "found", "spot", "cells", "added", "cell", "blend"] ["m", "limit"] (defScope s_law_draw) := ⟨rfl, rfl, rfl, by decide +kernel, rfl, by decide +kernel, by decide +kernel⟩
abbrev s_law_of : Stmt := topS 33
theorem sc_law_of : FnScope ["m", "some"] ["m", "some"] (defScope s_law_of) := ⟨rfl, rfl, rfl, by decide +kernel, rfl, by decide +kernel, by decide +kernel⟩
abbrev s_law_divisor : Stmt := topS 34
theorem sc_law_divisor : FnScope ["one", "two"] ["one", "two"] (defScope s_law_divisor) := ⟨rfl, rfl, rfl, by decide +kernel, rfl, by decide +kernel, by decide +kernel⟩
abbrev s_law_units : Stmt := topS 35
theorem sc_law_units : FnScope ["n", "k"] ["n"] (defScope s_law_units) := ⟨rfl, rfl, rfl, by decide +kernel, rfl, by decide +kernel, by decide +kernel⟩
abbrev s_law_digits : Stmt := topS 36
theorem sc_law_digits : FnScope ["b", "above", "under", "count", "found", "rest", "k"] ["b", "above", "under", "count"] (defScope s_law_digits) := ⟨rfl, rfl, rfl, by decide +kernel, rfl, by decide +kernel, by decide +kernel⟩
abbrev s_law_fit : Stmt := topS 37
theorem sc_law_fit : FnScope ["b", "above", "under", "some", "own", "mine", "its"] ["b", "above", "under", "some"] (defScope s_law_fit) := ⟨rfl, rfl, rfl, by decide +kernel, rfl, by decide +kernel, by decide +kernel⟩
abbrev s_law_all : Stmt := topS 38
theorem sc_law_all : FnScope ["b", "some", "most_so", "found", "under", "above"] ["b", "some", "most_so"] (defScope s_law_all) := ⟨rfl, rfl, rfl, by decide +kernel, rfl, by decide +kernel, by decide +kernel⟩
abbrev s_law_sure : Stmt := topS 39
theorem sc_law_sure : FnScope ["b", "every", "count", "rows", "above", "under", "columns", "row", "k", "column"] ["b", "every", "count"] (defScope s_law_sure) := ⟨rfl, rfl, rfl, by decide +kernel, rfl, by decide +kernel, by decide +kernel⟩
abbrev s_law_heard : Stmt := topS 40
theorem sc_law_heard : FnScope ["call", "error"] ["call"] (defScope s_law_heard) := ⟨rfl, rfl, rfl, by decide +kernel, rfl, by decide +kernel, by decide +kernel⟩
abbrev s_law_right : Stmt := topS 41
theorem sc_law_right : FnScope ["m", "b", "under", "above", "most_so", "some", "k", "count", "kept_so", "every", "due", "again", "told", "turn", "n", "pair"] ["m", "b"] (defScope s_law_right) := ⟨rfl, rfl, rfl, by decide +kernel, rfl, by decide +kernel, by decide +kernel⟩
abbrev s_law_hand_right : Stmt := topS 42
theorem sc_law_hand_right : FnScope ["told"] [] (defScope s_law_hand_right) := ⟨rfl, rfl, rfl, by decide +kernel, rfl, by decide +kernel, by decide +kernel⟩
abbrev s_law : Stmt := topS 43
theorem sc_law : FnScope ["script", "k", "m"] ["script"] (defScope s_law) := ⟨rfl, rfl, rfl, by decide +kernel, rfl, by decide +kernel, by decide +kernel⟩
def clsB (st : Stmt) (j : Nat) : Stmt := match st with
  | .ClassDef (body := b) .. => b.getD j (.Pass ⟨0, 0, 0, 0⟩)
  | _ => .Pass ⟨0, 0, 0, 0⟩
abbrev s_TooGreat_init : Stmt := clsB (topS 7) 0
theorem sc_TooGreat_init : FnScope ["self", "most"] ["self", "most"] (defScope s_TooGreat_init) := ⟨rfl, rfl, rfl, by decide +kernel, rfl, by decide +kernel, by decide +kernel⟩
abbrev s_Nothing_init : Stmt := clsB (topS 8) 0
theorem sc_Nothing_init : FnScope ["self", "value"] ["self", "value"] (defScope s_Nothing_init) := ⟨rfl, rfl, rfl, by decide +kernel, rfl, by decide +kernel, by decide +kernel⟩
structure Txt (K : PySem.W.Frag) (mg : Str → Option Value) where
  d_is_integer : Dn K mg "is_integer" s_is_integer ["value"]
  d_is_within : Dn K mg "is_within" s_is_within ["value", "low", "high"]
  d_need_base : Dn K mg "need_base" s_need_base ["value"]
  d_need_fraction : Dn K mg "need_fraction" s_need_fraction ["value"]
  d_divided : Dn K mg "divided" s_divided ["base", "remainder", "denominator", "count"]
  d_need_seen : Dn K mg "need_seen" s_need_seen ["base", "value"]
  d_has_digits : Dn K mg "has_digits" s_has_digits ["base", "fraction", "seen"]
  d_fits : Dn K mg "fits" s_fits ["base", "fraction", "seen"]
  d_all_fitting : Dn K mg "all_fitting" s_all_fitting ["base", "seen", "most"]
  d_fitting : Dn K mg "fitting" s_fitting ["base", "seen", "most"]
  d_simplest : Dn K mg "simplest" s_simplest ["base", "seen", "most"]
  d_sure_digits : Dn K mg "sure_digits" s_sure_digits ["base", "seen", "most", "count"]
  d_law_begun : Dn K mg "_law_begun" s_law_begun ["script", "k"]
  d_law_draw : Dn K mg "_law_draw" s_law_draw ["m", "limit"]
  d_law_of : Dn K mg "_law_of" s_law_of ["m", "some"]
  d_law_divisor : Dn K mg "_law_divisor" s_law_divisor ["one", "two"]
  d_law_units : Dn K mg "_law_units" s_law_units ["n"]
  d_law_digits : Dn K mg "_law_digits" s_law_digits ["b", "above", "under", "count"]
  d_law_fit : Dn K mg "_law_fit" s_law_fit ["b", "above", "under", "some"]
  d_law_all : Dn K mg "_law_all" s_law_all ["b", "some", "most_so"]
  d_law_sure : Dn K mg "_law_sure" s_law_sure ["b", "every", "count"]
  d_law_heard : Dn K mg "_law_heard" s_law_heard ["call"]
  d_law_right : Dn K mg "_law_right" s_law_right ["m", "b"]
  d_law_hand_right : Dn K mg "_law_hand_right" s_law_hand_right []
  d_law : Dn K mg "law" s_law ["script"]
  b_isinstance : mg "isinstance" = none
  b_int : mg "int" = none
  b_bool : mg "bool" = none
  b_len : mg "len" = none
  b_range : mg "range" = none
  b_tuple : mg "tuple" = none
  b_min : mg "min" = none
  b_repr : mg "repr" = none
  b_all : mg "all" = none
  b_OverflowError : mg "OverflowError" = none
  b_LookupError : mg "LookupError" = none
  b_zip : mg "zip" = none
  b_gcd : mg "gcd" = some (.builtin "math.gcd")
  C_WheelError : Addr
  g_WheelError : mg "WheelError" = some (.ref C_WheelError)
  r_WheelError : ClX.CRead K C_WheelError (.type "type")
  i_WheelError : PySem.W.findCls K (.ref C_WheelError) (.type "type") "__init__" = some (.val (.builtin "ValueError.__init__"))
  C_BadBase : Addr
  g_BadBase : mg "BadBase" = some (.ref C_BadBase)
  C_BadFraction : Addr
  g_BadFraction : mg "BadFraction" = some (.ref C_BadFraction)
  C_BadNumber : Addr
  g_BadNumber : mg "BadNumber" = some (.ref C_BadNumber)
  C_BadSeen : Addr
  g_BadSeen : mg "BadSeen" = some (.ref C_BadSeen)
  C_TooGreat : Addr
  g_TooGreat : mg "TooGreat" = some (.ref C_TooGreat)
  I_TooGreat : Addr
  T_TooGreat : ErrC K C_TooGreat I_TooGreat "most" "OverflowError" "OverflowError.__new__" "OverflowError.__init__" [.type "OverflowError", .type "ArithmeticError", .type "Exception", .type "BaseException", .type "object"]
  fd_TooGreat : FuncData
  F_TooGreat : Fun K "__init__" "TooGreat.__init__" s_TooGreat_init I_TooGreat fd_TooGreat
  b_TooGreat : Binds K fd_TooGreat ["self", "most"] []
  is_TooGreat : IsC K C_TooGreat
  C_Nothing : Addr
  g_Nothing : mg "Nothing" = some (.ref C_Nothing)
  I_Nothing : Addr
  T_Nothing : ErrC K C_Nothing I_Nothing "value" "LookupError" "LookupError.__new__" "LookupError.__init__" [.type "LookupError", .type "Exception", .type "BaseException", .type "object"]
  fd_Nothing : FuncData
  F_Nothing : Fun K "__init__" "Nothing.__init__" s_Nothing_init I_Nothing fd_Nothing
  b_Nothing : Binds K fd_Nothing ["self", "value"] []
  is_Nothing : IsC K C_Nothing
  ex1_TooGreat : PySem.W.exmOne K (.ref C_TooGreat) (.ref C_TooGreat) = some true
  ex0_TooGreat_Nothing : PySem.W.exmOne K (.ref C_TooGreat) (.ref C_Nothing) = some false
  ex1_Nothing : PySem.W.exmOne K (.ref C_Nothing) (.ref C_Nothing) = some true
  i_LookupError : PySem.W.findCls K (.type "LookupError") (.type "type") "__init__" = some (.val (.builtin "LookupError.__init__"))
  i_OverflowError : PySem.W.findCls K (.type "OverflowError") (.type "type") "__init__" = some (.val (.builtin "OverflowError.__init__"))
  k_law_right : Addr
  p_law_right : Addr
  e_law_right : d_law_right.fd.code = .ref k_law_right
  k_law_hand_right : Addr
  p_law_hand_right : Addr
  e_law_hand_right : d_law_hand_right.fd.code = .ref k_law_hand_right
  ne_law_right_law_hand_right : p_law_right ≠ p_law_hand_right
  t_MOST_BASE : Tok
  c_MOST_BASE : mg "MOST_BASE" = some (.int 1000 t_MOST_BASE)
  t_MOST_DENOMINATOR : Tok
  c_MOST_DENOMINATOR : mg "MOST_DENOMINATOR" = some (.int 5000 t_MOST_DENOMINATOR)
  t_MOST_SEEN : Tok
  c_MOST_SEEN : mg "MOST_SEEN" = some (.int 20 t_MOST_SEEN)
  t_GREATEST_BOUND : Tok
  c_GREATEST_BOUND : mg "GREATEST_BOUND" = some (.int 200 t_GREATEST_BOUND)
  t_MOST_FITTING : Tok
  c_MOST_FITTING : mg "MOST_FITTING" = some (.int 1000 t_MOST_FITTING)
  t_MOST_SURE : Tok
  c_MOST_SURE : mg "MOST_SURE" = some (.int 60 t_MOST_SURE)
section
variable {P : Program} {w : World} {K : PySem.W.Frag} {mg : Str → Option Value} {base : Heap}

def BN (b n : Nat) : Prop := 2 ≤ b ∧ b ≤ 1000 ∧ 1 ≤ n ∧ n ≤ 5000
def sp_is_integer : Sp := fun vs H Q _ => ∃ i : Int, vs = [.int i] ∧ Q (.bl true) H
def sp_is_within : Sp := fun vs H Q _ => ∃ i lo hi : Int, vs = [.int i, .int lo, .int hi] ∧ (lo ≤ i ∧ i ≤ hi) ∧ Q (.bl true) H
def sp_need_base : Sp := fun vs H Q _ => ∃ i : Int, vs = [.int i] ∧ (2 ≤ i ∧ i ≤ 1000) ∧ Q (.int i) H
def sp_need_denominator : Sp := fun vs H Q _ => ∃ i : Int, vs = [.int i] ∧ (1 ≤ i ∧ i ≤ 5000) ∧ Q (.int i) H
def sp_need_fraction : Sp := fun vs H Q _ => ∃ (a : Addr) (x n : Nat), vs = [.ref a] ∧ H a = some (.tup [.int x, .int n]) ∧ (x < n ∧ n ≤ 5000 ∧ Nat.gcd x n = 1) ∧ Q (.ref a) H
def sp_pure_part : Sp := fun vs H Q _ => ∃ b n : Nat, vs = [.int b, .int n] ∧ BN b n ∧ ∀ p : Nat, IsPure b n p → Q (.int p) H
def sp_period : Sp := fun vs H Q _ => ∃ b n : Nat, vs = [.int b, .int n] ∧ BN b n ∧ ∀ p d : Nat, IsPure b n p → IsPer b p d → Q (.int d) H
def sp_head_size : Sp := fun vs H Q _ => ∃ b n : Nat, vs = [.int b, .int n] ∧ BN b n ∧ ∀ p q h : Nat, IsPure b n p → n = p * q → IsHead b q h → Q (.int h) H
theorem ok_is_integer (T : Txt K mg) : FnOk P w K mg base CX0 1 T.d_is_integer.f T.d_is_integer.fd ["value"] sp_is_integer := by
  refine T.d_is_integer.F.ok sc_is_integer (fun vs H Q E h => ?_) (fun cdv A outer s H vs Q E hr h => ?_)
  · obtain ⟨i, rfl, _⟩ := h; rfl
  · have hu := hu_of hr
    refine ⟨_, (pss_one (ps_ret (pe_and (pe_callB (r := rIs K) call_is (by rfl) T.b_isinstance (by decide +kernel) (pa_cons (pv 0) (pa_cons (pe_bltn (v := .ty "int") (by rfl) T.b_int (by decide +kernel) rfl) pa_nil))) (pe_one (pe_not (pe_callB (r := rIs K) call_is (by rfl) T.b_isinstance (by decide +kernel) (pa_cons (pv 0) (pa_cons (pe_bltn (v := .ty "bool") (by rfl) T.b_bool (by decide +kernel) rfl) pa_nil)))))))), ?_⟩
    obtain ⟨i, rfl, q⟩ := h
    walk_at "vc"
    refine ⟨"int", ty_int, by decide, by decide, iteT ⟨"int", ty_int, by decide, by decide, q⟩⟩
theorem ok_is_within (T : Txt K mg) : FnOk P w K mg base CX0 2 T.d_is_within.f T.d_is_within.fd ["value", "low", "high"] sp_is_within := by
  refine T.d_is_within.F.ok sc_is_within (fun vs H Q E h => ?_) (fun cdv A outer s H vs Q E hr h => ?_)
  · obtain ⟨i, lo, hi, rfl, _⟩ := h; rfl
  · have hu := hu_of hr
    refine ⟨_, (pss_one (ps_ret (pe_and (pe_call (ok_is_integer T) (hr.mono (by decide)) (by rfl) T.d_is_integer.m T.d_is_integer.F.kp T.d_is_integer.b .nil pass0 (pa_cons (pv 0) pa_nil)) (pe_one (pe_chain op_le op_le (pv 1) (pv 0) (pv 2)))))), ?_⟩
    obtain ⟨i, lo, hi, rfl, ⟨h1, h2⟩, q⟩ := h
    refine ⟨_, rfl, i, rfl, true, rfl, iteT ?_⟩
    walk_at "vc"
    rw [if_pos h1, decide_eq_true h2]
    exact q
theorem ok_need_base (T : Txt K mg) : FnOk P w K mg base CX0 3 T.d_need_base.f T.d_need_base.fd ["value"] sp_need_base := by
  refine T.d_need_base.F.ok sc_need_base (fun vs H Q E h => ?_) (fun cdv A outer s H vs Q E hr h => ?_)
  · obtain ⟨i, rfl, _⟩ := h; rfl
  · have hu := hu_of hr
    refine ⟨_, (pss_cons (ps_if (pt_not (pt_val (pe_call (ok_is_within T) (hr.mono (by decide)) (by rfl) T.d_is_within.m T.d_is_within.F.kp T.d_is_within.b .nil pass0 (pa_cons (pv 0) (pa_cons pe_int (pa_cons (pe_glob (v := .int 1000) (by rfl) T.c_MOST_BASE ⟨_, rfl⟩) pa_nil)))))) (pss_one ps_never) pss_nil)
      (pss_one (ps_ret (pv 0)))), ?_⟩
    obtain ⟨i, rfl, ⟨h1, h2⟩, q⟩ := h
    refine ⟨_, rfl, i, _, _, rfl, ⟨h1, h2⟩, true, rfl, iteF ?_⟩
    exact ⟨_, rfl, q⟩
theorem ok_need_fraction (T : Txt K mg) : FnOk P w K mg base CX0 3 T.d_need_fraction.f T.d_need_fraction.fd ["value"] sp_need_fraction := by
  refine T.d_need_fraction.F.ok sc_need_fraction (fun vs H Q E h => ?_) (fun cdv A outer s H vs Q E hr h => ?_)
  · obtain ⟨a, x, n, rfl, _⟩ := h; rfl
  · have hu := hu_of hr
    refine ⟨_, (pss_cons (ps_if (PW.pt (pw_or (pt_not (pt_val (pe_callB (r := rIs K) call_is (by rfl) T.b_isinstance (by decide +kernel) (pa_cons (pv 0) (pa_cons (pe_bltn (v := .ty "tuple") (by rfl) T.b_tuple (by decide +kernel) rfl) pa_nil))))) (pw_or1 (pt_cmpR op_ne (pe_callB (r := rLn K) call_ln (by rfl) T.b_len PySem.boot_len (pa_cons (pv 0) pa_nil)) pe_int (nomark _))))) (pss_one ps_never) pss_nil)
      (pss_cons (ps_asg (pv 0) (pg_tup (by rfl) (pgs_cons (pg_name (i := 1) sc_need_fraction.nd rfl (by first | exact .inl rfl | exact .inr rfl)) (pgs_cons (pg_name (i := 2) sc_need_fraction.nd rfl (by first | exact .inl rfl | exact .inr rfl)) pgs_nil))))
      (pss_cons (ps_if (PW.pt (pw_or (pt_not (pt_val (pe_call (ok_is_within T) (hr.mono (by decide)) (by rfl) T.d_is_within.m T.d_is_within.F.kp T.d_is_within.b .nil pass0 (pa_cons (pv 2) (pa_cons pe_int (pa_cons (pe_glob (v := .int 5000) (by rfl) T.c_MOST_DENOMINATOR ⟨_, rfl⟩) pa_nil)))))) (pw_or1 (pt_not (pt_val (pe_call (ok_is_within T) (hr.mono (by decide)) (by rfl) T.d_is_within.m T.d_is_within.F.kp T.d_is_within.b .nil pass0 (pa_cons (pv 1) (pa_cons pe_int (pa_cons (pe_op op_sub (pv 2) pe_int) pa_nil))))))))) (pss_one ps_never) pss_nil)
      (pss_cons (ps_if (pt_cmpR op_ne (pe_callBfun cr_gcd (by rfl) T.b_gcd (pa_cons (pv 1) (pa_cons (pv 2) pa_nil))) pe_int (nomark _)) (pss_one ps_never) pss_nil)
      (pss_one (ps_ret (pv 0))))))), ?_⟩
    obtain ⟨a, x, n, rfl, ha, ⟨h1, h2, h3⟩, q⟩ := h
    refine ⟨_, rfl, _, "tuple", rfl, "tuple", ⟨ty_tup ha, by decide, by decide⟩, true, rfl, ?_⟩
    refine iteF ⟨_, rfl, a, _, rfl, .inr (sq_tup ha), rfl, _, rfl, ?_⟩
    refine iteF ?_
    refine ⟨_, rfl, a, _, rfl, sq_tup ha, rfl, _, _, rfl, _, _, rfl, rfl, ?_⟩
    refine ⟨_, rfl, n, _, _, rfl, ⟨by omega, by omega⟩, true, rfl, iteF ?_⟩
    refine ⟨_, rfl, _, rfl, n, 1, rfl, rfl, x, _, _, rfl, ⟨by omega, by omega⟩, true, rfl, iteF ?_⟩
    refine ⟨_, rfl, _, rfl, x, n, rfl, rfl, _, rfl, ?_⟩
    have e : (!decide (V.int ((Nat.gcd (x : Int).natAbs (n : Int).natAbs : Nat) : Int) = V.int 1)) = false := by
      rw [Int.natAbs_natCast, Int.natAbs_natCast, h3]
      rfl
    rw [e]
    exact iteF ⟨_, rfl, q⟩

/-- the digits of a division that has come to x: so many of them -/
def dgs (b n x c : Nat) : List V := (List.range c).map fun i => V.int ((rem b n x i * b / n : Nat) : Int)
def sp_divided : Sp := fun vs H Q _ => ∃ b x n c : Nat, vs = [.int b, .int x, .int n, .int c] ∧ (BN b n ∧ x < n ∧ c ≤ 10000) ∧ ∀ t H', Gr [] H H' → H' t = some (.tup (dgs b n x c)) → Q (.ref t) H'
theorem ok_divided (T : Txt K mg) : FnOk P w K mg base CX0 1 T.d_divided.f T.d_divided.fd ["base", "remainder", "denominator", "count"] sp_divided := by
  refine T.d_divided.F.ok sc_divided (fun vs H Q E h => ?_) (fun cdv A outer s H vs Q E hr h => ?_)
  · obtain ⟨b, x, n, c, rfl, _⟩ := h; rfl
  · have hu := hu_of hr
    refine ⟨_, (pss_cons (ps_set (i := 4) sc_divided.nd rfl (by first | exact .inl rfl | exact .inr rfl) (pe_lst pa_nil))
      (pss_cons (ps_set (i := 5) sc_divided.nd rfl (by first | exact .inl rfl | exact .inr rfl) (pv 1))
      (pss_cons (ps_for PassesOwn.never rfl (pi_range1 (by rfl) T.b_range (pa_cons (pv 3) pa_nil)) (pg_name (i := 6) sc_divided.nd rfl (by first | exact .inl rfl | exact .inr rfl)) (pss_cons (ps_expr (pe_bm PySem.F.plainAttrs_list PySem.F.slot_list_append PySem.F.type_list_append mt_append (pv 4) (pa_cons (pe_op op_fdiv (pe_op op_mul (pv 5) (pv 0)) (pv 2)) pa_nil)))
      (pss_one (ps_set (i := 5) sc_divided.nd rfl (by first | exact .inl rfl | exact .inr rfl) (pe_op op_mod (pe_op op_mul (pv 5) (pv 0)) (pv 2))))))
      (pss_one (ps_ret (pe_callTy (r := rTpO K) call_tpO (by rfl) T.b_tuple (by decide +kernel) (pa_cons (pv 4) pa_nil))))))), ?_⟩
    obtain ⟨b, x, n, c, rfl, ⟨⟨hb1, hb2, hn1, hn2⟩, hx, hc⟩, q⟩ := h
    refine ⟨Nat.zero_le _, fun l hl => ?_⟩
    refine ⟨_, rfl, _, rfl, (c : Int), rfl, by omega, by omega, ?_⟩
    refine for_range (lo := 0) (n := (c : Int).toNat) (fun i σ H' => Gr [] H H' ∧ H' l = some (.lst (dgs b n x i)) ∧ ∃ v, σ = [some (.int b), some (.int x), some (.int n), some (.int c), some (.ref l), some (.int (rem b n x i : Nat)), v]) ⟨Gr.new hl, upd_same, none, ?_⟩ ?_ ?_
    · rw [rem_zero hx]
      rfl
    · rintro i σ H' hi ⟨hg, hL, v, rfl⟩
      have hlt : rem b n x i < n := rem_lt hn1
      refine ⟨_, rfl, .inl ⟨rfl, _, sq_lst hL⟩, _, rfl, _, rfl, _, b, rfl, rfl, .inl ⟨by omega, by omega⟩, _, rfl, _, n, rfl, rfl, ⟨by omega, by omega⟩, ?_⟩
      refine ⟨l, _, _, rfl, rfl, hL, ?_, ?_⟩
      · unfold dgs
        rw [List.length_map, List.length_range]
        exact Nat.lt_of_lt_of_le (show i < 20000 by omega) (by decide)
      · refine ⟨_, rfl, _, rfl, _, b, rfl, rfl, .inl ⟨by omega, by omega⟩, _, rfl, _, n, rfl, rfl, (show (0 : Int) < (n : Int) by omega), ?_⟩
        dsimp only
        rw [icm, rem_succ, icd]
        refine ⟨fun a o _ e => ?_, ?_, _, rfl⟩
        · rw [upd_ne (ne_of_none e hl)]
          exact hg a o (by simp) e
        · rw [upd_same]
          unfold dgs
          rw [List.range_succ, List.map_append]
          rfl
    · rintro σ H' ⟨hg, hL, v, rfl⟩
      rw [Int.toNat_natCast] at hL
      refine ⟨_, rfl, l, _, rfl, .inl ⟨sq_lst hL, fun t ht => ?_⟩⟩
      exact q t _ (hg.trans (Gr.new ht)) upd_same

def dgf (b n x lo c : Nat) : List V := (List.range c).map fun i => V.int ((rem b n x (lo + i) * b / n : Nat) : Int)
structure Exp (H : Hp) (r : Addr) (b x n h L : Nat) : Prop where
  at_ : ∃ a c, H r = some (.tup [.ref a, .ref c]) ∧ H a = some (.tup (dgf b n x 0 h)) ∧ H c = some (.tup (dgf b n x h L))
def sp_expansion : Sp := fun vs H Q _ => ∃ (b x n : Nat) (a : Addr), vs = [.int b, .ref a] ∧ H a = some (.tup [.int x, .int n]) ∧ (BN b n ∧ x < n ∧ Nat.gcd x n = 1) ∧
  ∀ p q h L t H', IsPure b n p → n = p * q → IsHead b q h → IsPer b p L → Gr [] H H' → Exp H' t b x n h L → Q (.ref t) H'

/-! the state of the draws of the second half -/
def mkv (c : Addr) (l sd s : Int) : List (Key × V) := [(Sum.inr "left", .int l), (Sum.inr "seed", .int sd), (Sum.inr "cells", .ref c), (Sum.inr "spot", .int s)]
theorem k_ld : ¬ (("left" : Str) = "seed") := by decide +kernel
theorem k_dl : ¬ (("seed" : Str) = "left") := by decide +kernel
theorem k_lc : ¬ (("left" : Str) = "cells") := by decide +kernel
theorem k_cl : ¬ (("cells" : Str) = "left") := by decide +kernel
theorem k_ls : ¬ (("left" : Str) = "spot") := by decide +kernel
theorem k_sl : ¬ (("spot" : Str) = "left") := by decide +kernel
theorem k_dc : ¬ (("seed" : Str) = "cells") := by decide +kernel
theorem k_cd : ¬ (("cells" : Str) = "seed") := by decide +kernel
theorem k_ds : ¬ (("seed" : Str) = "spot") := by decide +kernel
theorem k_sd : ¬ (("spot" : Str) = "seed") := by decide +kernel
theorem k_cs : ¬ (("cells" : Str) = "spot") := by decide +kernel
theorem k_sc : ¬ (("spot" : Str) = "cells") := by decide +kernel
theorem mv_l (c : Addr) (l sd s : Int) : valV (mkv c l sd s) (Sum.inr "left" : Key) = some (.int l) := by
  unfold mkv
  rw [valV_pos rfl]
theorem mv_d (c : Addr) (l sd s : Int) : valV (mkv c l sd s) (Sum.inr "seed" : Key) = some (.int sd) := by
  unfold mkv
  rw [valV_neg (by intro z; exact k_ld (Sum.inr.inj z)), valV_pos rfl]
theorem mv_c (c : Addr) (l sd s : Int) : valV (mkv c l sd s) (Sum.inr "cells" : Key) = some (.ref c) := by
  unfold mkv
  rw [valV_neg (by intro z; exact k_lc (Sum.inr.inj z)), valV_neg (by intro z; exact k_dc (Sum.inr.inj z)), valV_pos rfl]
theorem mv_s (c : Addr) (l sd s : Int) : valV (mkv c l sd s) (Sum.inr "spot" : Key) = some (.int s) := by
  unfold mkv
  rw [valV_neg (by intro z; exact k_ls (Sum.inr.inj z)), valV_neg (by intro z; exact k_ds (Sum.inr.inj z)), valV_neg (by intro z; exact k_cs (Sum.inr.inj z)), valV_pos rfl]
theorem mp_l (c : Addr) (l sd s l' : Int) : putK (mkv c l sd s) (Sum.inr "left" : Key) (.int l') = mkv c l' sd s := by
  unfold mkv putK
  simp [k_dl, k_cl, k_sl]
theorem mp_s (c : Addr) (l sd s s' : Int) : putK (mkv c l sd s) (Sum.inr "spot" : Key) (.int s') = mkv c l sd s' := by
  unfold mkv putK
  simp [k_ls, k_ds, k_cs, putK]
theorem mm (c : Addr) (l sd s : Int) : mergeK [] (mkv c l sd s) = mkv c l sd s := by
  unfold mkv mergeK putK
  simp [k_ld, k_lc, k_ls, k_dc, k_ds, k_cs, mergeK, putK]
theorem dg_c {H : Hp} {d c : Addr} {l sd s : Int} (h : H d = some (.dK (mkv c l sd s))) : DGet H d (.str "cells") (some (.ref c)) := by
  rw [← mv_c c l sd s]
  exact DGet.k (k := Sum.inr "cells") h
theorem dg_l {H : Hp} {d c : Addr} {l sd s : Int} (h : H d = some (.dK (mkv c l sd s))) : DGet H d (.str "left") (some (.int l)) := by
  rw [← mv_l c l sd s]
  exact DGet.k (k := Sum.inr "left") h
theorem dg_d {H : Hp} {d c : Addr} {l sd s : Int} (h : H d = some (.dK (mkv c l sd s))) : DGet H d (.str "seed") (some (.int sd)) := by
  rw [← mv_d c l sd s]
  exact DGet.k (k := Sum.inr "seed") h
theorem dg_s {H : Hp} {d c : Addr} {l sd s : Int} (h : H d = some (.dK (mkv c l sd s))) : DGet H d (.str "spot") (some (.int s)) := by
  rw [← mv_s c l sd s]
  exact DGet.k (k := Sum.inr "spot") h
theorem dp_l {H : Hp} {d c : Addr} {l sd s l' : Int} (h : H d = some (.dK (mkv c l sd s))) : DPut H d (.str "left") (.int l') (upd H d (.dK (mkv c l' sd s))) := by
  rw [← mp_l c l sd s l']
  exact DPut.k (k := Sum.inr "left") h (by show 4 < sizeLine; decide)
theorem dp_s {H : Hp} {d c : Addr} {l sd s s' : Int} (h : H d = some (.dK (mkv c l sd s))) : DPut H d (.str "spot") (.int s') (upd H d (.dK (mkv c l sd s'))) := by
  rw [← mp_s c l sd s s']
  exact DPut.k (k := Sum.inr "spot") h (by show 4 < sizeLine; decide)
def MOk (H : Hp) (d : Addr) (n : Nat) : Prop := ∃ (c : Addr) (xs : List Int) (l sd s : Int), H d = some (.dK (mkv c l sd s)) ∧ H c = some (.lst (xs.map V.int)) ∧ xs ≠ [] ∧ (0 ≤ sd ∧ sd < 2147483647) ∧ 0 ≤ s ∧ s ≤ (n : Int)
theorem MOk.gr {H H' : Hp} {d : Addr} {n : Nat} (h : MOk H d n) (g : Gr [] H H') : MOk H' d n := by
  obtain ⟨c, xs, l, sd, s, h1, h2, h3⟩ := h
  exact ⟨c, xs, l, sd, s, g d _ (by simp) h1, g c _ (by simp) h2, h3⟩
theorem MOk.mono {H : Hp} {d : Addr} {n n' : Nat} (h : MOk H d n) (g : n ≤ n') : MOk H d n' := by
  obtain ⟨c, xs, l, sd, s, h1, h2, h3, h4, h5, h6⟩ := h
  exact ⟨c, xs, l, sd, s, h1, h2, h3, h4, h5, by omega⟩
theorem MOk.ne {H : Hp} {d a : Addr} {n : Nat} {o : HO} (h : MOk H d n) (e : H a = some o) (k : ∀ kvs, o ≠ .dK kvs) : a ∉ [d] := by
  obtain ⟨c, xs, l, sd, s, h1, _⟩ := h
  intro z
  rw [List.mem_singleton] at z
  subst z
  rw [h1] at e
  exact k _ (Option.some.inj e).symm
theorem MOk.lst {H H' : Hp} {d a : Addr} {n : Nat} {xs : List V} (h : MOk H d n) (g : Gr [d] H H') (e : H a = some (.lst xs)) : H' a = some (.lst xs) := g a _ (h.ne e (fun _ z => by cases z)) e
theorem MOk.tup {H H' : Hp} {d a : Addr} {n : Nat} {xs : List V} (h : MOk H d n) (g : Gr [d] H H') (e : H a = some (.tup xs)) : H' a = some (.tup xs) := g a _ (h.ne e (fun _ z => by cases z)) e
def Lim (n : Nat) : Prop := (n : Int).natAbs.log2 < 9000
set_option exponentiation.threshold 10000 in
theorem lim_le {n : Nat} (h : n ≤ 1000000000) : Lim n := by
  unfold Lim
  rw [Int.natAbs_natCast]
  exact PySem.Flt.log2_lt_of (by decide) (Nat.lt_of_le_of_lt h (Nat.lt_of_lt_of_le (show (1000000000 : Nat) < 2 ^ 30 by decide) (Nat.pow_le_pow_right (by decide) (by decide))))
def sp_law_draw : Sp := fun vs H Q _ => ∃ (d : Addr) (lim n : Nat), vs = [.ref d, .int lim] ∧ MOk H d n ∧ (1 ≤ lim ∧ Lim lim ∧ n ≤ 1000000000) ∧
  ∀ (r : Nat) H', r < lim → Gr [d] H H' → MOk H' d (n + 1) → Q (.int r) H'
theorem imod_nat (x : Int) (lim : Nat) (h : 1 ≤ lim) : ∃ r : Nat, x % (lim : Int) = (r : Int) ∧ r < lim := by
  have h1 := Int.emod_nonneg x (show (lim : Int) ≠ 0 by omega)
  have h2 := Int.emod_lt_of_pos x (show (0 : Int) < (lim : Int) by omega)
  exact ⟨(x % (lim : Int)).toNat, by omega, by omega⟩
theorem sqBound {z : Int} (h0 : 0 ≤ z) (h1 : z ≤ 1000000000) : -(2 ^ 64) < 40503 * z ∧ 40503 * z < 2 ^ 64 := by omega
theorem ok_law_draw (T : Txt K mg) : FnOk P w K mg base CX0 1 T.d_law_draw.f T.d_law_draw.fd ["m", "limit"] sp_law_draw := by
  refine T.d_law_draw.F.ok sc_law_draw (fun vs H Q E h => ?_) (fun cdv A outer s H vs Q E hr h => ?_)
  · obtain ⟨d, lim, n, rfl, _⟩ := h; rfl
  · have hu := hu_of hr
    refine ⟨_, (pss_cons (ps_if (pt_cmpR op_gt (pe_dget hu (pv 0) pe_str (fun _ _ => rfl)) pe_int (nomark _)) (pss_cons (ps_set (i := 2) sc_law_draw.nd rfl (by first | exact .inl rfl | exact .inr rfl) (pe_op op_mod (pe_callTy call_int1 (by rfl) T.b_int (by decide +kernel) (pa_cons (pe_dget hu (pv 0) pe_str (fun _ _ => rfl)) pa_nil)) (pv 1)))
      (pss_cons (ps_dput hu (pv 0) pe_str (pe_op op_fdivW (pe_dget hu (pv 0) pe_str (fun _ _ => rfl)) (pv 1)) rfl)
      (pss_one (ps_ret (pv 2))))) pss_nil)
      (pss_cons (ps_set (i := 3) sc_law_draw.nd rfl (by first | exact .inl rfl | exact .inr rfl) (pe_dget hu (pv 0) pe_str (fun _ _ => rfl)))
      (pss_cons (ps_dput hu (pv 0) pe_str (pe_op op_add (pv 3) pe_int) rfl)
      (pss_cons (ps_par (i := 4) (j := 5) (by rfl) sc_law_draw.nd rfl rfl (by decide) rfl rfl (pa_cons (pe_dget hu (pv 0) pe_str (fun _ _ => rfl)) (pa_cons (pe_op op_add (pe_dget hu (pv 0) pe_str (fun _ _ => rfl)) (pe_op op_mul (pe_op op_mul pe_int (pv 3)) (pv 3))) pa_nil)) (by rfl))
      (pss_cons (ps_set (i := 6) sc_law_draw.nd rfl (by first | exact .inl rfl | exact .inr rfl) (pe_ix (r := rIxL K) ix_list (pv 4) (pe_op op_mod (pe_callTy call_int1 (by rfl) T.b_int (by decide +kernel) (pa_cons (pv 3) pa_nil)) (pe_callB (r := rLn K) call_ln (by rfl) T.b_len PySem.boot_len (pa_cons (pv 4) pa_nil))) (fun _ _ => rfl)))
      (pss_cons (ps_set (i := 7) sc_law_draw.nd rfl (by first | exact .inl rfl | exact .inr rfl) (pe_op op_mod (pe_callTy call_int1 (by rfl) T.b_int (by decide +kernel) (pa_cons (pe_op op_add (pe_op op_mul (pv 6) (pe_op op_add (pe_op op_mul pe_int (pv 3)) pe_int)) (pv 5)) pa_nil)) pe_int))
      (pss_cons (ps_set (i := 7) sc_law_draw.nd rfl (by first | exact .inl rfl | exact .inr rfl) (pe_op op_mod (pe_callTy call_int1 (by rfl) T.b_int (by decide +kernel) (pa_cons (pe_op op_add (pe_op op_add (pe_op op_mul (pv 7) (pv 7)) (pe_op op_mul pe_int (pv 3))) (pe_dget hu (pv 0) pe_str (fun _ _ => rfl))) pa_nil)) pe_int))
      (pss_one (ps_ret (pe_op op_mod (pe_op op_fdiv (pe_op op_mod (pe_callTy call_int1 (by rfl) T.b_int (by decide +kernel) (pa_cons (pe_op op_add (pe_op op_mul (pv 7) pe_int) (pv 3)) pa_nil)) pe_int) pe_int) (pv 1))))))))))), ?_⟩
    obtain ⟨d, lim, n, rfl, ⟨c, xs, l, sd, z, hd, hc, hx, ⟨hs0, hs1⟩, hz0, hzn⟩, ⟨h1, h2, h3⟩, q⟩ := h
    have hdc : d ≠ c := ne_of hd hc (by intro q; cases q)
    refine ⟨_, rfl, d, _, rfl, dg_l hd, l, 0, rfl, rfl, _, rfl, ?_⟩
    have hl0 : (0 : Int) < (lim : Int) := by omega
    by_cases hl : (0 : Int) < l
    · rw [decide_eq_true hl]
      refine iteT ⟨_, rfl, d, _, rfl, dg_l hd, .inl ⟨l, rfl, _, rfl, l, lim, rfl, rfl, hl0, ?_⟩⟩
      obtain ⟨r, er, hr1⟩ := imod_nat l lim h1
      dsimp only
      rw [er]
      refine ⟨_, rfl, d, _, rfl, dg_l hd, _, rfl, l, lim, rfl, rfl, ⟨hl0, h2⟩, _, rfl, d, _, rfl, dp_l hd, _, rfl, ?_⟩
      refine q r _ hr1 (Gr.wr (by simp)) ⟨c, xs, l / lim, sd, z, upd_same, ?_, hx, ⟨hs0, hs1⟩, hz0, by omega⟩
      rw [upd_ne hdc.symm]
      exact hc
    · rw [decide_eq_false hl]
      refine iteF ?_
      refine ⟨_, rfl, d, _, rfl, dg_s hd, ?_⟩
      refine ⟨_, rfl, _, _, rfl, rfl, _, rfl, d, _, rfl, dp_s hd, ?_⟩
      have hd' : (upd H d (.dK (mkv c l sd (z + 1)))) d = some (.dK (mkv c l sd (z + 1))) := upd_same
      have hc' : (upd H d (.dK (mkv c l sd (z + 1)))) c = some (.lst (xs.map V.int)) := by
        rw [upd_ne hdc.symm]
        exact hc
      have hxl : 1 ≤ xs.length := by
        cases xs with
        | nil => exact absurd rfl hx
        | cons x r => simp
      refine ⟨_, rfl, d, _, rfl, dg_c hd', _, rfl, d, _, rfl, dg_d hd', _, rfl, _, _, rfl, rfl, .inl ⟨by decide, by decide⟩, _, rfl, _, _, rfl, rfl, .inr ⟨by omega, by omega⟩, _, _, rfl, rfl, _, _, rfl, ?_⟩
      have hxi : ∃ i : Int, i = z := ⟨z, rfl⟩
      refine ⟨_, rfl, _, rfl, .inl ⟨z, rfl, _, rfl, c, _, rfl, .inl (sq_lst hc'), _, _, rfl, rfl, ?_, ?_⟩⟩
      · rw [List.length_map]
        omega
      rw [List.length_map]
      obtain ⟨j, ej, hj⟩ := imod_nat z xs.length hxl
      dsimp only
      refine ⟨c, _, _, .int xs[j], rfl, rfl, sq_lst hc', ?_, ?_⟩
      · rw [ej]
        refine atI_nat ?_
        rw [List.getElem?_map, List.getElem?_eq_getElem hj]
        rfl
      refine ⟨_, rfl, _, rfl, _, _, rfl, rfl, .inl ⟨by decide, by decide⟩, _, _, rfl, rfl, _, _, rfl, rfl, .inr ⟨by omega, by omega⟩, _, rfl, _, _, rfl, rfl, .inl ⟨_, rfl, _, _, rfl, rfl, (by show (0 : Int) < 2147483647; decide), ?_⟩⟩
      obtain ⟨u, eu, hu1⟩ := imod_nat (xs[j] * (2 * z + 3) + (sd + 40503 * z * z)) 2147483647 (by decide)
      have eu' : (xs[j] * (2 * z + 3) + (sd + 40503 * z * z)) % 2147483647 = (u : Int) := eu
      dsimp only
      rw [eu']
      refine ⟨_, rfl, _, rfl, _, _, rfl, rfl, .inl ⟨by omega, by omega⟩, _, rfl, _, _, rfl, rfl, .inl ⟨by decide, by decide⟩, _, _, rfl, rfl, _, rfl, d, _, rfl, dg_d hd', _, _, rfl, rfl, .inl ⟨_, rfl, _, _, rfl, rfl, (by show (0 : Int) < 2147483629; decide), ?_⟩⟩
      refine ⟨_, rfl, _, _, rfl, rfl, .inr ⟨by decide, by decide⟩, _, rfl, _, _, rfl, rfl, .inl ⟨_, rfl, _, _, rfl, rfl, (by show (0 : Int) < 2147483647; decide), _, _, rfl, rfl, ⟨by decide, by decide⟩, _, rfl, _, _, rfl, rfl, hl0, ?_⟩⟩
      dsimp only
      obtain ⟨r, er, hr1⟩ := imod_nat _ lim h1
      rw [er]
      exact q r _ hr1 (Gr.wr (by simp)) ⟨c, xs, l, sd, z + 1, hd', hc', hx, ⟨hs0, hs1⟩, by omega, by omega⟩

def sp_law_of (K : PySem.W.Frag) : Sp := fun vs H Q _ => ∃ (d a : Addr) (n : Nat) (xs : List V), vs = [.ref d, .ref a] ∧ MOk H d n ∧ H a = some (.lst xs) ∧ (xs ≠ [] ∧ xs.length ≤ 100000 ∧ n ≤ 1000000000) ∧
  ∀ v H', v ∈ xs → Gr [d] H H' → MOk H' d (n + 1) → Q v H'
theorem ok_law_of (T : Txt K mg) : FnOk P w K mg base CX0 2 T.d_law_of.f T.d_law_of.fd ["m", "some"] (sp_law_of K) := by
  refine T.d_law_of.F.ok sc_law_of (fun vs H Q E h => ?_) (fun cdv A outer s H vs Q E hr h => ?_)
  · obtain ⟨d, a, n, xs, rfl, _⟩ := h; rfl
  · have hu := hu_of hr
    refine ⟨_, (pss_one (ps_ret (pe_ix (r := rIxL K) ix_list (pv 1) (pe_call (ok_law_draw T) (hr.mono (by decide)) (by rfl) T.d_law_draw.m T.d_law_draw.F.kp T.d_law_draw.b .nil pass0 (pa_cons (pv 0) (pa_cons (pe_callB (r := rLn K) call_ln (by rfl) T.b_len PySem.boot_len (pa_cons (pv 1) pa_nil)) pa_nil))) (fun _ _ => rfl)))), ?_⟩
    obtain ⟨d, a, n, xs, rfl, M, ha, ⟨h1, h2, h3⟩, q⟩ := h
    have hl : 1 ≤ xs.length := by
      cases xs with
      | nil => exact absurd rfl h1
      | cons x r => simp
    refine ⟨_, rfl, _, rfl, _, rfl, a, _, rfl, .inl (sq_lst ha), ?_⟩
    refine ⟨d, xs.length, n, rfl, M, ⟨hl, lim_le (by omega), h3⟩, fun r H' hr g M' => ?_⟩
    have ha' := M.lst g ha
    exact ⟨a, xs, r, xs[r], rfl, rfl, sq_lst ha', atI_nat (by rw [List.getElem?_eq_getElem hr]), q _ _ (List.getElem_mem _) g M'⟩

def sp_law_divisor : Sp := fun vs H Q _ => ∃ a c : Nat, vs = [.int a, .int c] ∧ Q (.int (Nat.gcd a c : Nat)) H
theorem ok_law_divisor (T : Txt K mg) : FnOk P w K mg base CX0 1 T.d_law_divisor.f T.d_law_divisor.fd ["one", "two"] sp_law_divisor := by
  refine T.d_law_divisor.F.ok sc_law_divisor (fun vs H Q E h => ?_) (fun cdv A outer s H vs Q E hr h => ?_)
  · obtain ⟨a, c, rfl, _⟩ := h; rfl
  · have hu := hu_of hr
    refine ⟨_, (pss_cons (ps_while PassesOwn.never (pt_cmpR op_ne (pv 1) pe_int (nomark _)) (pss_one (ps_par (i := 0) (j := 1) (by rfl) sc_law_divisor.nd rfl rfl (by decide) rfl rfl (pa_cons (pv 1) (pa_cons (pe_op op_mod (pe_callTy call_int1 (by rfl) T.b_int (by decide +kernel) (pa_cons (pv 0) pa_nil)) (pe_callTy call_int1 (by rfl) T.b_int (by decide +kernel) (pa_cons (pv 1) pa_nil))) pa_nil)) (by rfl))))
      (pss_one (ps_ret (pv 0)))), ?_⟩
    obtain ⟨a, c, rfl, q⟩ := h
    refine ⟨fun m σ H' => H' = H ∧ ∃ u : Nat, σ = [some (.int u), some (.int m)] ∧ Nat.gcd u m = Nat.gcd a c, ⟨c, rfl, a, rfl, rfl⟩, ?_⟩
    rintro m σ H' ⟨rfl, u, rfl, e⟩
    refine ⟨_, rfl, rfl, _, rfl, ?_⟩
    by_cases hc : m = 0
    · refine iteFb (by rw [hc]; rfl) ⟨_, rfl, ?_⟩
      subst hc
      rw [← e, Nat.gcd_zero_right] at q
      exact q
    · refine iteTb (by rw [Bool.not_eq_true']; exact decide_eq_false fun z => hc (by have := V.int.inj z; omega)) ⟨fun σ' H2 => H2 = H' ∧ σ' = [some (.int m), some (.int (u % m : Nat))], ?_, ?_⟩
      · rintro σ' H2 ⟨rfl, rfl⟩
        refine ⟨u % m, Nat.mod_lt _ (by omega), rfl, m, rfl, ?_⟩
        rw [← e, Nat.gcd_comm m, ← Nat.gcd_rec, Nat.gcd_comm]
      · refine ⟨_, rfl, _, rfl, .inl ⟨_, rfl, _, rfl, .inl ⟨_, rfl, _, _, rfl, rfl, (show (0 : Int) < (m : Int) by omega), ?_⟩⟩⟩
        exact ⟨_, _, rfl, rfl, by dsimp only; rw [← Int.natCast_emod]; rfl⟩

theorem rl_succ (b n x i : Nat) : rl b n x (i + 1) = rl b n x i ++ [rem b n x i] := by
  unfold rl
  rw [List.range_succ, List.map_append]
  rfl
theorem rl_get {b n x i L : Nat} (h : i < L) : (vn (rl b n x L))[i]? = some (.int (rem b n x i : Nat)) := by
  unfold vn rl
  rw [List.map_map, List.getElem?_map, List.getElem?_range h]
  rfl
theorem flat_vn : ∀ xs : List Nat, (vn xs).all flatV = true
  | [] => rfl
  | x :: r => by
    show (true && (vn r).all flatV) = true
    rw [flat_vn r]
    rfl
def sp_law_powers (K : PySem.W.Frag) : Sp := fun vs H Q _ => ∃ (b n : Nat), vs = [.int b, .int n] ∧ (b ≤ 5000 ∧ 1 ≤ n ∧ n ≤ 5000) ∧
  ∀ (t l : Addr) H' (p q h L : Nat), Par b n p q h L → Gr [] H H' → H' t = some (.tup [.ref l, .int (h : Nat)]) → H' l = some (.lst (vn (rl b n 1 (h + L)))) → Q (.ref t) H'

def sp_law_period : Sp := fun vs H Q _ => ∃ (b n : Nat), vs = [.int b, .int n] ∧ (b ≤ 5000 ∧ 1 ≤ n ∧ n ≤ 5000) ∧
  ∀ (t : Addr) H' (p q h L : Nat), Par b n p q h L → Gr [] H H' → H' t = some (.tup [.int (L : Nat), .int (h : Nat)]) → Q (.ref t) H'

def sp_law_units : Sp := fun vs H Q _ => ∃ (n : Nat), vs = [.int n] ∧ n ≤ 5000 ∧ ∀ (a : Addr) H', Gr [] H H' → H' a = some (.lst (vn (copL n))) → Q (.ref a) H'
theorem cop_step {n k : Nat} : ((List.range (k + 1)).filter fun x => decide (Nat.gcd x n = 1)) = ((List.range k).filter fun x => decide (Nat.gcd x n = 1)) ++ (if Nat.gcd k n = 1 then [k] else []) := by
  rw [List.range_succ, List.filter_append]
  by_cases h : Nat.gcd k n = 1
  · rw [if_pos h, List.filter_cons_of_pos (p := fun x => decide (Nat.gcd x n = 1)) (decide_eq_true h)]
    rfl
  · rw [if_neg h, List.filter_cons_of_neg (p := fun x => decide (Nat.gcd x n = 1)) (by rw [decide_eq_true_eq]; exact h)]
    rfl
theorem ok_law_units (T : Txt K mg) : FnOk P w K mg base CX0 2 T.d_law_units.f T.d_law_units.fd ["n"] sp_law_units := by
  refine T.d_law_units.F.ok sc_law_units (fun vs H Q E h => ?_) (fun cdv A outer s H vs Q E hr h => ?_)
  · obtain ⟨n, rfl, _⟩ := h; rfl
  · have hu := hu_of hr
    refine ⟨_, (pss_one (ps_ret (pe_lc (own := [("k", 1)]) (g := gName 1) (tt := _) rfl sc_law_units.nd (pi_range1 (by rfl) T.b_range (pa_cons (pv 0) pa_nil)) (blkOk_by (own := [("k", 1)]) (N := ["n", "k"]) (sc := defScope s_law_units) (by decide +kernel)) (fun _ _ _ _ _ => (pg_name (i := 1) sc_law_units.nd rfl (by first | exact .inl rfl | exact .inr rfl))) (fun _ _ _ _ _ => (pts_one (pt_cmpR op_eq (pe_call (ok_law_divisor T) (hr.mono (by decide)) (by rfl) T.d_law_divisor.m T.d_law_divisor.F.kp T.d_law_divisor.b .nil pass0 (pa_cons (pv 1) (pa_cons (pv 0) pa_nil))) pe_int (nomark _)))) (fun _ _ _ _ _ => (pv 1))))), ?_⟩
    obtain ⟨n, rfl, hn, q⟩ := h
    have small : ∀ {k : Nat}, k ≤ 5000 → k < sizeLine := fun h => Nat.lt_of_lt_of_le (show _ < 6000 by omega) (by decide)
    refine ⟨_, rfl, (n : Int), rfl, by omega, by omega, fun D nD => ?_⟩
    refine lc_range (lo := 0) (n := ((n : Int) - 0).toNat) (fun i H' => Gr [] H H' ∧ H' D = some (.lst (vn ((List.range i).filter fun x => decide (Nat.gcd x n = 1))))) ⟨Gr.new nD, upd_same⟩ ?_ ?_
    · rintro i H' hi ⟨G, hD⟩
      have ei : (0 : Int) + (i : Int) = ((i : Nat) : Int) := by omega
      have hin : i < n := by omega
      rw [ei]
      refine ⟨rfl, ?_⟩
      refine ⟨_, rfl, _, rfl, i, n, rfl, rfl, _, rfl, ?_⟩
      by_cases hg : Nat.gcd i n = 1
      · refine iteTb (by rw [hg]; rfl) ⟨_, rfl, _, hD, small (by rw [vn_len]; exact Nat.le_trans (List.length_filter_le _ _) (by rw [List.length_range]; omega)), fun c u _ e => ?_, ?_⟩
        · rw [upd_ne (ne_of_none e nD)]
          exact G c u (by simp) e
        · rw [upd_same, vn_snoc, cop_step, if_pos hg]
      · refine iteFb (decide_eq_false fun z => hg (by have := V.int.inj z; omega)) ⟨G, ?_⟩
        rw [hD, cop_step, if_neg hg, List.append_nil]
    rintro H' ⟨G, hD⟩
    exact q D H' G (by rw [hD, show ((n : Int) - 0).toNat = n by omega]; rfl)

def sp_law_begun (K : PySem.W.Frag) : Sp := fun vs H Q _ => ∃ (a : Addr) (ns : List Int) (k : Nat), vs = [.ref a, .int k] ∧ SqL K H a (ns.map V.int) ∧ ns.length ≤ 63 ∧ k ≤ 1000 ∧ ∀ d H', H d = none → Gr [] H H' → MOk H' d 0 → Q (.ref d) H'
theorem eqv_nil (ys : List Int) : PyData.eqv (.list (ys.map PyData.int)) (.list []) = ys.isEmpty := by
  cases ys with
  | nil => rfl
  | cons y r => rfl
theorem lay_ints : ∀ ys : List Int, PyData.canLayAll0 (ys.map PyData.int) = true ∧ PyData.depthAll (ys.map PyData.int) = 0
  | [] => ⟨rfl, rfl⟩
  | y :: r => by
    obtain ⟨h1, h2⟩ := lay_ints r
    refine ⟨?_, ?_⟩
    · show (true && PyData.canLayAll0 (r.map PyData.int)) = true
      rw [h1]
      rfl
    · show max 0 (PyData.depthAll (r.map PyData.int)) = 0
      rw [h2]
      rfl
theorem shaped_ints (ys : List Int) : SeqAt.shaped (.list (ys.map PyData.int)) = true := by
  obtain ⟨h1, h2⟩ := lay_ints ys
  exact Fits.shaped h1 (by show PyData.depthAll _ + 1 ≤ 64; rw [h2]; decide)
theorem get_ints {ns : List Int} {i : Nat} {x : V} (h : (ns.map V.int)[i]? = some x) : ∃ n, x = .int n ∧ ns[i]? = some n ∧ i < ns.length := by
  rw [List.getElem?_map] at h
  cases e : ns[i]? with
  | none =>
    rw [e] at h
    cases h
  | some n =>
    rw [e] at h
    exact ⟨n, (Option.some.inj h).symm, rfl, (List.getElem?_eq_some_iff.mp e).1⟩
theorem cut_ints (ns : List Int) (lo hi : Option Int) : ∃ ys : List Int, cutV (ns.map V.int) lo hi = ys.map V.int ∧ ys.length ≤ ns.length := by
  unfold cutV
  rw [← List.map_drop, ← List.map_take]
  exact ⟨_, rfl, by rw [List.length_take, List.length_drop]; omega⟩
theorem ok_law_begun (T : Txt K mg) : FnOk P w K mg base CX0 1 T.d_law_begun.f T.d_law_begun.fd ["script", "k"] (sp_law_begun K) := by
  refine T.d_law_begun.F.ok sc_law_begun (fun vs H Q E h => ?_) (fun cdv A outer s H vs Q E hr h => ?_)
  · obtain ⟨a, ns, k, rfl, _⟩ := h; rfl
  · have hu := hu_of hr
    refine ⟨_, (pss_cons (ps_set (i := 2) sc_law_begun.nd rfl (by first | exact .inl rfl | exact .inr rfl) (pe_op op_cat (pe_slice (r := rSlL K) sl_list (pv 0) (po_some (pv 1)) po_none) (pe_slice (r := rSlL K) sl_list (pv 0) po_none (po_some (pv 1)))))
      (pss_cons (ps_setLc (i := 3) (own := [("cell", 4)]) (g := gName 4) (tt := _) rfl sc_law_begun.nd rfl rfl (sw_true rfl rfl rfl (by decide +kernel)) (pi_list (pv 2)) (blkOk_by (own := [("cell", 4)]) (N := ["script", "k", "cells", "great", "cell", "seed"]) (sc := defScope s_law_begun) (by decide +kernel)) (fun _ _ _ _ _ => (pg_name (i := 4) sc_law_begun.nd rfl (by first | exact .inl rfl | exact .inr rfl))) (fun _ _ _ _ _ => (pts_one (pt_cmpR op_ge (pv 4) (pe_op op_pow pe_int pe_int) (nomark _)))) (fun _ _ _ _ _ => (pv 4)))
      (pss_cons (ps_set (i := 5) sc_law_begun.nd rfl (by first | exact .inl rfl | exact .inr rfl) (pe_op op_add pe_int (pv 1)))
      (pss_cons (ps_for PassesOwn.never rfl (pi_list (pv 2)) (pg_name (i := 4) sc_law_begun.nd rfl (by first | exact .inl rfl | exact .inr rfl)) (pss_one (ps_set (i := 5) sc_law_begun.nd rfl (by first | exact .inl rfl | exact .inr rfl) (pe_op op_mod (pe_callTy call_int1 (by rfl) T.b_int (by decide +kernel) (pa_cons (pe_op op_add (pe_op op_mul (pv 5) pe_int) (pv 4)) pa_nil)) pe_int))))
      (pss_one (ps_ret (pe_disp (pps_cons pe_str (pe_ifExp (pt_cmpR (r := rNeD K) (op_neD hr.units) (pv 3) (pe_lst pa_nil) (nomark _)) (pe_ix (r := rIxL K) ix_list (pv 3) pe_int (fun _ _ => rfl)) pe_int) (pps_cons pe_str (pv 5) (pps_cons pe_str (pe_op op_cat (pv 2) (pe_lst (pa_cons (pe_op op_add (pe_op op_mul pe_int (pv 1)) pe_int) pa_nil))) (pps_cons pe_str pe_int pps_nil)))) (by rfl) (by rfl) (fun z => by cases z) (by decide)))))))), ?_⟩
    obtain ⟨a, ns, k, rfl, hS, hn, hk, q⟩ := h
    have sz : ∀ {k : Nat}, k ≤ 1000 → k < sizeLine := fun h => small1000 h
    refine ⟨_, rfl, _, rfl, (k : Int), rfl, ?_⟩
    dsimp only [tNoPart]
    refine ⟨a, _, rfl, hS, fun p1 n1 => ?_⟩
    obtain ⟨y1, e1, l1⟩ := cut_ints ns (some (k : Int)) none
    rw [e1]
    have g1 : Gr [] H (upd H p1 (.lst (y1.map V.int))) := Gr.new n1
    have h1 : (upd H p1 (.lst (y1.map V.int))) p1 = some (.lst (y1.map V.int)) := upd_same
    generalize upd H p1 (.lst (y1.map V.int)) = H1 at g1 h1 ⊢
    refine ⟨_, rfl, _, rfl, (k : Int), rfl, a, _, rfl, (Kp.of g1).sqL hS, fun p2 n2 => ?_⟩
    obtain ⟨y2, e2, l2⟩ := cut_ints ns none (some (k : Int))
    rw [e2]
    have g2 : Gr [] H1 (upd H1 p2 (.lst (y2.map V.int))) := Gr.new n2
    have h2 : (upd H1 p2 (.lst (y2.map V.int))) p2 = some (.lst (y2.map V.int)) := upd_same
    generalize upd H1 p2 (.lst (y2.map V.int)) = H2 at g2 h2 ⊢
    refine ⟨p1, p2, _, _, rfl, rfl, g2 p1 _ (by simp) h1, h2, by rw [List.length_map, List.length_map]; exact Nat.le_of_lt (sz (by omega)), fun p3 n3 => ?_⟩
    dsimp only
    rw [← List.map_append]
    have g3 : Gr [] H2 (upd H2 p3 (.lst ((y1 ++ y2).map V.int))) := Gr.new n3
    have h3 : (upd H2 p3 (.lst ((y1 ++ y2).map V.int))) p3 = some (.lst ((y1 ++ y2).map V.int)) := upd_same
    generalize upd H2 p3 (.lst ((y1 ++ y2).map V.int)) = H3 at g3 h3 ⊢
    have G3 := (g1.trans g2).trans g3
    clear g1 g2 g3 h1 h2 e1 e2
    obtain ⟨xs, ex⟩ : ∃ xs, xs = y1 ++ y2 := ⟨_, rfl⟩
    have hxl : xs.length ≤ 126 := by
      rw [ex, List.length_append]
      omega
    rw [← ex] at h3
    clear ex
    refine ⟨_, rfl, p3, rfl, ⟨_, sq_lst h3⟩, fun D nD => ?_⟩
    have hDp : D ≠ p3 := fun e => by
      rw [e, h3] at nD
      cases nD
    refine lc_list (K := K) (a := p3) (xs := xs.map V.int) (fun i H' => Gr [] H3 H' ∧ ∃ ys : List Int, ys.length ≤ i ∧ H' D = some (.lst (ys.map V.int))) ⟨Gr.new nD, [], Nat.le_refl _, upd_same⟩ (fun i H' _ z => (Kp.of z.1).sqL (sq_lst h3)) ?_ ?_
    · rintro i y H' hy ⟨G, ys, hl, hD⟩
      obtain ⟨n, rfl, hn', hi⟩ := get_ints hy
      refine ⟨rfl, ?_⟩
      refine ⟨_, rfl, _, _, rfl, rfl, ⟨by decide, by decide, by decide⟩, _, _, rfl, rfl, _, rfl, ?_⟩
      have ex : ∀ {o : HO}, Gr [] H3 (upd H' D o) := fun {o} c u _ e => by
        rw [upd_ne (ne_of_none e nD)]
        exact G c u (by simp) e
      refine ite2 (fun _ => ?_) (fun _ => ?_)
      · refine ⟨_, rfl, _, hD, by rw [List.length_map]; exact sz (by omega), ex, ys ++ [n], by rw [List.length_append]; simp; omega, ?_⟩
        rw [upd_same, List.map_append]
        rfl
      · exact ⟨G, ys, by omega, hD⟩
    rintro H4 ⟨g4, ys, hl, hD⟩
    have h4 := g4 p3 _ (by simp) h3
    rw [List.length_map] at hl
    refine ⟨_, rfl, _, _, rfl, rfl, ?_⟩
    refine ⟨_, rfl, p3, rfl, ⟨_, sq_lst h4⟩, ?_⟩
    refine for_list (K := K) (a := p3) (xs := xs.map V.int) (fun i σ H' => H' = H4 ∧ ∃ (sd : Int) (v : Option V), (0 ≤ sd ∧ sd < 2147483647) ∧ σ = [some (.ref a), some (.int k), some (.ref p3), some (.ref D), v, some (.int sd)]) ⟨rfl, 131 + (k : Int), none, ⟨by omega, by omega⟩, rfl⟩ (fun i σ H' _ z => by rw [z.1]; exact sq_lst h4) ?_ ?_
    · rintro i y σ H' hy ⟨rfl, sd, v, ⟨s0, s1⟩, rfl⟩
      obtain ⟨n, rfl, _, _⟩ := get_ints hy
      refine ⟨_, rfl, _, _, rfl, rfl, .inr ⟨by decide, by decide⟩, _, rfl, _, _, rfl, rfl, .inl ⟨_, rfl, _, _, rfl, rfl, (by show (0 : Int) < 2147483647; decide), ?_⟩⟩
      exact ⟨rfl, _, _, ⟨Int.emod_nonneg _ (by decide), Int.emod_lt_of_pos _ (by decide)⟩, rfl⟩
    rintro σ H' ⟨rfl, sd, v, hs, rfl⟩
    intro p np
    have gp : Gr [] H' (upd H' p (.dK [])) := Gr.new np
    have hp : (upd H' p (.dK [])) p = some (.dK []) := upd_same
    have hD5 := gp D _ (by simp) hD
    have h5 := gp p3 _ (by simp) h4
    have np0 := np
    generalize hH5 : upd H' p (.dK []) = H5 at gp hp hD5 h5 ⊢
    have G4 : ∀ (H7 : Hp) (p6 : Addr) (l0 : Int), Gr [] H5 H7 → H7 p6 = some (.lst ((xs ++ [43 * (k : Int) + 7]).map V.int)) → Q (.ref p) (upd H7 p (.dK (mergeK [] (mkv p6 l0 sd 0)))) := fun H7 p6 l0 g7 h6 => by
      rw [mm]
      have hp7 := g7 p _ (by simp) hp
      have hne : p6 ≠ p := by
        intro e
        rw [e, hp7] at h6
        cases h6
      refine q p _ (by
        cases z : H p with
        | none => rfl
        | some o =>
          have := g4 p o (by simp) (G3 p o (by simp) z)
          rw [np] at this
          cases this) (fun c u _ e => ?_) ⟨p6, xs ++ [43 * (k : Int) + 7], l0, sd, 0, upd_same, ?_, by simp, hs, Int.le_refl _, Int.le_refl _⟩
      · have e1 := g4 c u (by simp) (G3 c u (by simp) e)
        rw [upd_ne (ne_of_none e1 np)]
        exact g7 c u (by simp) (gp c u (by simp) e1)
      · rw [upd_ne hne]
        exact h6
    refine ⟨_, rfl, Nat.zero_le _, fun q0 nq => ?_⟩
    have hq := (Gr.new (W := []) (o := .lst []) nq)
    refine ⟨.list (ys.map PyData.int), .list [], dp_lst (hq D _ (by simp) hD5) (dpAll_ints ys), dp_lst upd_same .nil, shaped_ints ys, rfl, _, rfl, ?_⟩
    rw [eqv_nil]
    have gq : Gr [] H5 (upd H5 q0 (.lst [])) := hq
    have h6 := hq p3 _ (by simp) h5
    have hD6 := hq D _ (by simp) hD5
    generalize upd H5 q0 (.lst []) = H6 at gq h6 hD6 ⊢
    cases ys with
    | nil =>
      refine iteF ?_
      refine ⟨_, rfl, _, rfl, _, rfl, _, _, rfl, rfl, .inl ⟨by decide, by decide⟩, _, _, rfl, rfl, by show 1 ≤ sizeLine; decide, fun p7 n7 => ?_⟩
      have k1 := (Gr.new (W := []) (o := .lst [V.int (43 * (k : Int) + 7)]) n7) p3 _ (by simp) h6
      refine ⟨p3, p7, _, _, rfl, rfl, k1, upd_same, by rw [List.length_map]; exact Nat.le_of_lt (sz (by show xs.length + 1 ≤ 1000; omega)), fun p8 n8 => ?_⟩
      have g8 := (gq.trans (Gr.new (W := []) (o := .lst [V.int (43 * (k : Int) + 7)]) n7)).trans (Gr.new (W := []) (o := .lst (xs.map V.int ++ [V.int (43 * (k : Int) + 7)])) n8)
      refine ⟨g8 p _ (by simp) hp, mkv p8 0 sd 0, rfl, by show 4 ≤ 15; decide, G4 _ p8 0 g8 ?_⟩
      rw [upd_same, List.map_append]
      rfl
    | cons y r =>
      refine iteT ⟨_, rfl, D, _, 0, .int y, rfl, rfl, sq_lst hD6, atI_nat (j := 0) rfl, ?_⟩
      refine ⟨_, rfl, _, rfl, _, rfl, _, _, rfl, rfl, .inl ⟨by decide, by decide⟩, _, _, rfl, rfl, by show 1 ≤ sizeLine; decide, fun p7 n7 => ?_⟩
      have k1 := (Gr.new (W := []) (o := .lst [V.int (43 * (k : Int) + 7)]) n7) p3 _ (by simp) h6
      refine ⟨p3, p7, _, _, rfl, rfl, k1, upd_same, by rw [List.length_map]; exact Nat.le_of_lt (sz (by show xs.length + 1 ≤ 1000; omega)), fun p8 n8 => ?_⟩
      have g8 := (gq.trans (Gr.new (W := []) (o := .lst [V.int (43 * (k : Int) + 7)]) n7)).trans (Gr.new (W := []) (o := .lst (xs.map V.int ++ [V.int (43 * (k : Int) + 7)])) n8)
      refine ⟨g8 p _ (by simp) hp, mkv p8 y sd 0, rfl, by show 4 ≤ 15; decide, G4 _ p8 y g8 ?_⟩
      rw [upd_same, List.map_append]
      rfl
theorem small5 {k : Nat} (h : k ≤ 5000) : k < sizeLine := Nat.lt_of_lt_of_le (show k < 8192 by omega) (by decide)

def dl (b n x c : Nat) : List Nat := (List.range c).map fun i => rem b n x i * b / n
theorem dl_len (b n x c : Nat) : (dl b n x c).length = c := by simp [dl]
theorem dl_lt {b n x c d : Nat} (hn : 1 ≤ n) (hb : 1 ≤ b) (h : d ∈ dl b n x c) : d < b := by
  obtain ⟨i, _, rfl⟩ := List.mem_map.mp h
  have := rem_lt (b := b) (n := n) (x := x) (i := i) hn
  refine (Nat.div_lt_iff_lt_mul (by omega)).mpr ?_
  rw [Nat.mul_comm b n]
  exact Nat.mul_lt_mul_of_pos_right this hb

def sp_law_digits : Sp := fun vs H Q _ => ∃ (b x n c : Nat), vs = [.int b, .int x, .int n, .int c] ∧ (b ≤ 1000 ∧ 1 ≤ n ∧ n ≤ 5000 ∧ x < n ∧ c ≤ 5000) ∧ ∀ l H', H l = none → Gr [] H H' → H' l = some (.lst (vn (dl b n x c))) → Q (.ref l) H'
theorem dl_succ (b n x i : Nat) : dl b n x (i + 1) = dl b n x i ++ [rem b n x i * b / n] := by
  unfold dl
  rw [List.range_succ, List.map_append]
  rfl
theorem ok_law_digits (T : Txt K mg) : FnOk P w K mg base CX0 1 T.d_law_digits.f T.d_law_digits.fd ["b", "above", "under", "count"] sp_law_digits := by
  refine T.d_law_digits.F.ok sc_law_digits (fun vs H Q E h => ?_) (fun cdv A outer s H vs Q E hr h => ?_)
  · obtain ⟨b, x, n, c, rfl, _⟩ := h; rfl
  · have hu := hu_of hr
    refine ⟨_, (pss_cons (ps_par (i := 4) (j := 5) (by rfl) sc_law_digits.nd rfl rfl (by decide) rfl rfl (pa_cons (pe_lst pa_nil) (pa_cons (pv 1) pa_nil)) (by rfl))
      (pss_cons (ps_for PassesOwn.never rfl (pi_range1 (by rfl) T.b_range (pa_cons (pv 3) pa_nil)) (pg_name (i := 6) sc_law_digits.nd rfl (by first | exact .inl rfl | exact .inr rfl)) (pss_cons (ps_expr (pe_bm PySem.F.plainAttrs_list PySem.F.slot_list_append PySem.F.type_list_append mt_append (pv 4) (pa_cons (pe_op op_fdiv (pe_op op_mul (pv 5) (pv 0)) (pv 2)) pa_nil)))
      (pss_one (ps_set (i := 5) sc_law_digits.nd rfl (by first | exact .inl rfl | exact .inr rfl) (pe_op op_mod (pe_callTy call_int1 (by rfl) T.b_int (by decide +kernel) (pa_cons (pe_op op_mul (pv 5) (pv 0)) pa_nil)) (pv 2))))))
      (pss_one (ps_ret (pv 4))))), ?_⟩
    obtain ⟨b, x, n, c, rfl, ⟨hb, hn1, hn, hx, hc⟩, q⟩ := h
    refine ⟨Nat.zero_le _, fun l nl => ?_⟩
    refine ⟨_, rfl, _, _, rfl, ?_⟩
    refine ⟨_, rfl, (c : Int), rfl, by omega, by omega, ?_⟩
    refine for_range (lo := 0) (n := ((c : Int) - 0).toNat) (fun i σ H' => Gr [] H H' ∧ H' l = some (.lst (vn (dl b n x i))) ∧ ∃ v, σ = [some (.int b), some (.int x), some (.int n), some (.int c), some (.ref l), some (.int (rem b n x i : Nat)), v]) ⟨Gr.new nl, upd_same, none, ?_⟩ ?_ ?_
    · rw [rem_zero hx]
      rfl
    · rintro i σ H' hi ⟨G, hL, v, rfl⟩
      have hr := rem_lt (b := b) (n := n) (x := x) (i := i) hn1
      refine ⟨_, rfl, .inl ⟨rfl, _, sq_lst hL⟩, _, rfl, _, rfl, _, _, rfl, rfl, .inl ⟨by omega, by omega⟩, _, rfl, _, (n : Int), rfl, rfl, ⟨by omega, by omega⟩, l, _, _, rfl, rfl, hL, small5 (by rw [vn_len, dl_len]; omega), ?_⟩
      dsimp only
      rw [icd, vn_snoc, ← dl_succ]
      refine ⟨_, rfl, _, rfl, _, _, rfl, rfl, .inl ⟨by omega, by omega⟩, .inl ⟨_, rfl, _, rfl, _, (n : Int), rfl, rfl, (show (0 : Int) < (n : Int) by omega), ?_⟩⟩
      dsimp only
      rw [icm, rem_succ]
      refine ⟨fun u o _ e => ?_, upd_same, _, rfl⟩
      rw [upd_ne (ne_of_none e nl)]
      exact G u o (by simp) e
    rintro σ H' ⟨G, hL, v, rfl⟩
    rw [show ((c : Int) - 0).toNat = c by omega] at hL
    exact ⟨_, rfl, q l H' nl G hL⟩

end
end Wn
namespace Wn
open PySem PySem.Spec PyProof.Rows L2
open LamX (Tabs ExtN tLam)
local macro_rules | `(tactic| walk_at "vc") => `(tactic| simp only [cxK, cxK2, start1, start2, start3, tRet, tRetN, tSeq, tNext, tIfS, tAsg, gName, tDrop, tVar, tC, tOp, tUn, tTest, tB, tNot, tAnd, tOr, tAndV, tOrV, tNotV, tIf, tCons, tNil, tCB, tCall, tChain, tAug, ipI, rI, rI0, rU, rIs, rGcd, rEq, rNe, scal,
  List.getElem?_cons_zero, List.getElem?_cons_succ, List.set_cons_zero, List.set_cons_succ, Option.some.injEq, List.cons.injEq, V.int.injEq, V.bl.injEq, V.ref.injEq, V.str.injEq, and_true, true_and, exists_eq_left, exists_eq_left', exists_and_left, exists_and_right, List.append_nil, List.nil_append, List.cons_append, exists_eq_right, exists_eq_right', and_assoc, exists_const, V.ty.injEq, ↓reduceIte, Bool.false_eq_true, Bool.not_true, Bool.not_false, decide_eq_true_eq])

section
variable {P : Program} {w : World} {K : PySem.W.Frag} {mg : Str → Option Value} {base : Heap}
theorem ok_init_TooGreat (T : Txt K mg) : FnOk P w K mg base CX0 1 T.I_TooGreat T.fd_TooGreat ["self", "most"] (spInit T.C_TooGreat "most") := by
  refine T.F_TooGreat.ok sc_TooGreat_init (fun vs H Q E h => ?_) (fun cdv A outer s H vs Q E hr h => ?_)
  · obtain ⟨a, v, rfl, _⟩ := h
    rfl
  · obtain ⟨a, v, rfl, ha, q⟩ := h
    refine ⟨_, pss_cons (ps_expr (pe_initB T.T_TooGreat (by rfl) T.b_OverflowError (by rfl) (by decide) (by decide) (by kernel_rfl) (by decide +kernel) T.i_OverflowError (by rfl) (pa_cons (pv 0) (pa_cons pe_str pa_nil)))) (pss_one (ps_ostE T.T_TooGreat (pv 0) (pv 1))), ?_⟩
    exact ⟨_, rfl, a, _, rfl, by show 1 ≤ 1000; decide, ha, _, rfl, _, rfl, a, rfl, ha, fun d nd da => q d nd da⟩
theorem ok_init_Nothing (T : Txt K mg) : FnOk P w K mg base CX0 1 T.I_Nothing T.fd_Nothing ["self", "value"] (spInit T.C_Nothing "value") := by
  refine T.F_Nothing.ok sc_Nothing_init (fun vs H Q E h => ?_) (fun cdv A outer s H vs Q E hr h => ?_)
  · obtain ⟨a, v, rfl, _⟩ := h
    rfl
  · obtain ⟨a, v, rfl, ha, q⟩ := h
    refine ⟨_, pss_cons (ps_expr (pe_initB T.T_Nothing (by rfl) T.b_LookupError (by rfl) (by decide) (by decide) (by kernel_rfl) (by decide +kernel) T.i_LookupError (by rfl) (pa_cons (pv 0) (pa_cons pe_str pa_nil)))) (pss_one (ps_ostE T.T_Nothing (pv 0) (pv 1))), ?_⟩
    exact ⟨_, rfl, a, _, rfl, by show 1 ≤ 1000; decide, ha, _, rfl, _, rfl, a, rfl, ha, fun d nd da => q d nd da⟩

/-! seen digits: numbers or none -/
def oV : Option Nat → V
  | some k => .int (k : Nat)
  | none => .non
def ov (s : List (Option Nat)) : List V := s.map oV
def oD : Option Nat → PyData
  | some k => .int (k : Nat)
  | none => .none
def od (s : List (Option Nat)) : List PyData := s.map oD
theorem sqT_ty {K : PySem.W.Frag} {H : Hp} {a : Addr} {xs : List V} (h : SqT K H a xs) : TyX K H (.ref a) (.type "tuple") := by
  rcases h with (h | ⟨o, h⟩) | ⟨o, its, n, h, c, _⟩
  · exact .base (.tup h)
  · exact .fTuple h
  · exact .kTuple h c
theorem ov_len (s : List (Option Nat)) : (ov s).length = s.length := List.length_map ..
theorem od_len (s : List (Option Nat)) : (od s).length = s.length := List.length_map ..
theorem ov_get {s : List (Option Nat)} {i : Nat} {v : V} (h : (ov s)[i]? = some v) : ∃ hi : i < s.length, v = oV s[i] := by
  unfold ov at h
  rw [List.getElem?_map] at h
  cases e : s[i]? with
  | none =>
    rw [e] at h
    cases h
  | some o =>
    rw [e] at h
    obtain ⟨hi, e2⟩ := List.getElem?_eq_some_iff.mp e
    exact ⟨hi, by rw [e2]; exact (Option.some.inj h).symm⟩
theorem dp_oV {K : PySem.W.Frag} {H : Hp} : ∀ o : Option Nat, Dp K H (oV o) (oD o)
  | some k => .int _
  | none => .non
theorem dp_ov {K : PySem.W.Frag} {H : Hp} : ∀ s : List (Option Nat), DpAll K H (ov s) (od s)
  | [] => .nil
  | o :: s => .cons (dp_oV o) (dp_ov s)
theorem dpA_ov {K : PySem.W.Frag} {H : Hp} : ∀ {s : List (Option Nat)} {vs : List V}, DpAll K H vs (od s) → vs = ov s
  | [], _, h => by cases h; rfl
  | o :: s, _, h => by
    cases h with
    | cons d a =>
      rw [dpA_ov a]
      cases o with
      | none => cases d; rfl
      | some k => cases d; rfl
/-- a fraction's digits are the seen ones -/
def fitR (b n : Nat) : Nat → List (Option Nat) → Bool
  | _, [] => true
  | x, none :: s => fitR b n (b * x % n) s
  | x, some k :: s => decide (b * x / n = k) && fitR b n (b * x % n) s
def fitL (b : Nat) (s : List (Option Nat)) (most : Nat) : List (Nat × Nat) := (List.range most).flatMap fun i => ((copL (i + 1)).filter fun x => fitR b (i + 1) x s).map fun x => (x, i + 1)
def SN (b : Nat) (s : List (Option Nat)) : Prop := (1 ≤ s.length ∧ s.length ≤ 20) ∧ ∀ k, some k ∈ s → k < b
def sp_need_seen (K : PySem.W.Frag) : Sp := fun vs H Q _ => ∃ (b : Nat) (a : Addr) (s : List (Option Nat)), vs = [.int b, .ref a] ∧ SqT K H a (ov s) ∧ (2 ≤ b ∧ b ≤ 1000) ∧ SN b s ∧ ∀ H', Gr [] H H' → Q (.ref a) H'
def sp_has_digits (K : PySem.W.Frag) : Sp := fun vs H Q _ => ∃ (b x n : Nat) (f a : Addr) (s : List (Option Nat)), vs = [.int b, .ref f, .ref a] ∧ SqT K H f [.int x, .int n] ∧ SqT K H a (ov s) ∧ (b ≤ 1000 ∧ 1 ≤ n ∧ n ≤ 5000 ∧ x < n) ∧ Q (.bl (fitR b n x s)) H
def sp_fits (K : PySem.W.Frag) : Sp := fun vs H Q _ => ∃ (b x n : Nat) (f a : Addr) (s : List (Option Nat)), vs = [.int b, .ref f, .ref a] ∧ H f = some (.tup [.int x, .int n]) ∧ SqT K H a (ov s) ∧ (2 ≤ b ∧ b ≤ 1000) ∧ SN b s ∧ (x < n ∧ n ≤ 5000 ∧ Nat.gcd x n = 1) ∧ ∀ H', Gr [] H H' → Q (.bl (fitR b n x s)) H'
inductive Prs (H : Hp) : List Addr → List (Nat × Nat) → Prop
  | nil : Prs H [] []
  | cons {p : Addr} {ps : List Addr} {r : Nat × Nat} {rs : List (Nat × Nat)} : H p = some (.tup [.int (r.1 : Nat), .int (r.2 : Nat)]) → Prs H ps rs → Prs H (p :: ps) (r :: rs)
theorem Prs.imp {H H' : Hp} {ps : List Addr} {rs : List (Nat × Nat)} (h : Prs H ps rs) (k : ∀ {p : Addr} {r : Nat × Nat}, H p = some (.tup [.int (r.1 : Nat), .int (r.2 : Nat)]) → H' p = some (.tup [.int (r.1 : Nat), .int (r.2 : Nat)])) : Prs H' ps rs := by
  induction h with
  | nil => exact .nil
  | cons a _ ih => exact .cons (k a) ih
theorem Prs.gr {H H' : Hp} {ps : List Addr} {rs : List (Nat × Nat)} (h : Prs H ps rs) (g : Gr [] H H') : Prs H' ps rs := h.imp fun e => g _ _ (by simp) e
theorem Prs.len {H : Hp} {ps : List Addr} {rs : List (Nat × Nat)} (h : Prs H ps rs) : ps.length = rs.length := by
  induction h with
  | nil => rfl
  | cons a _ ih => exact congrArg (· + 1) ih
theorem Prs.snoc {H : Hp} {ps : List Addr} {rs : List (Nat × Nat)} {p : Addr} {r : Nat × Nat} (h : Prs H ps rs) (e : H p = some (.tup [.int (r.1 : Nat), .int (r.2 : Nat)])) : Prs H (ps ++ [p]) (rs ++ [r]) := by
  induction h with
  | nil => exact .cons e .nil
  | cons a _ ih => exact .cons a ih
theorem Prs.app {H : Hp} {ps qs : List Addr} {rs ts : List (Nat × Nat)} (h : Prs H ps rs) (h2 : Prs H qs ts) : Prs H (ps ++ qs) (rs ++ ts) := by
  induction h with
  | nil => exact h2
  | cons a _ ih => exact .cons a ih
theorem Prs.at_ {H : Hp} {ps : List Addr} {rs : List (Nat × Nat)} (h : Prs H ps rs) {i : Nat} {v : V} (e : (ps.map V.ref)[i]? = some v) : ∃ (p : Addr) (hi : i < rs.length), v = .ref p ∧ H p = some (.tup [.int ((rs[i]).1 : Nat), .int ((rs[i]).2 : Nat)]) := by
  induction h generalizing i with
  | nil => simp at e
  | @cons p ps r rs a _ ih =>
    cases i with
    | zero =>
      have : V.ref p = v := by simpa using e
      exact ⟨p, by simp, this.symm, a⟩
    | succ i =>
      obtain ⟨p2, hi, h1, h2⟩ := ih (i := i) (by simpa using e)
      exact ⟨p2, by simpa using hi, h1, h2⟩
/-- pairs as data -/
def prD (r : Nat × Nat) : PyData := .tuple [.int (r.1 : Nat), .int (r.2 : Nat)]
theorem Prs.dpa {K : PySem.W.Frag} {H : Hp} {ps : List Addr} {rs : List (Nat × Nat)} (h : Prs H ps rs) : DpAll K H (ps.map V.ref) (rs.map prD) := by
  induction h with
  | nil => exact .nil
  | cons a _ ih => exact .cons (two_dp (sq_tup a)) ih
def sp_all_fitting (K : PySem.W.Frag) : Sp := fun vs H Q _ => ∃ (b most : Nat) (a : Addr) (s : List (Option Nat)), vs = [.int b, .ref a, .int most] ∧ SqT K H a (ov s) ∧ (2 ≤ b ∧ b ≤ 1000) ∧ SN b s ∧ (1 ≤ most ∧ most ≤ 200) ∧
  ∀ (l : Addr) (ps : List Addr) H', Gr [] H H' → H' l = some (.lst (ps.map V.ref)) → Prs H' ps (fitL b s most) → Q (.ref l) H'
def sp_fitting (T : Txt K mg) : Sp := fun vs H Q E => ∃ (b most : Nat) (a : Addr) (s : List (Option Nat)), vs = [.int b, .ref a, .int most] ∧ SqT K H a (ov s) ∧ (2 ≤ b ∧ b ≤ 1000) ∧ SN b s ∧ (1 ≤ most ∧ most ≤ 200) ∧
  ((fitL b s most).length ≤ 1000 → ∀ v H', Gr [] H H' → Dp K H' v (.tuple ((fitL b s most).map prD)) → Q v H') ∧
  (1000 < (fitL b s most).length → ∀ H1 dd, Gr [] H H1 → H1 dd = none → E (.ref T.C_TooGreat) (some dd) (upd H1 dd (.xd [("most", .int 1000)])))
def fstD (rs : List (Nat × Nat)) : PyData := match rs with
  | [] => .none
  | r :: _ => prD r
def sp_simplest (K : PySem.W.Frag) : Sp := fun vs H Q _ => ∃ (b most : Nat) (a : Addr) (s : List (Option Nat)), vs = [.int b, .ref a, .int most] ∧ SqT K H a (ov s) ∧ (2 ≤ b ∧ b ≤ 1000) ∧ SN b s ∧ (1 ≤ most ∧ most ≤ 200) ∧
  ∀ v H', Gr [] H H' → Dp K H' v (fstD (fitL b s most)) → Q v H'
/-- the digits that all the fractions have in common -/
def sureR (b c : Nat) : List (Option Nat) → List (Nat × Nat) → List (Option Nat)
  | k, [] => k
  | k, r :: rs => sureR b c (List.zipWith (fun d o => if o = some d then some d else none) (dl b r.2 r.1 c) k) rs
def sureL (b c : Nat) (rs : List (Nat × Nat)) : List (Option Nat) := match rs with
  | [] => []
  | r :: _ => sureR b c ((dl b r.2 r.1 c).map some) rs
def sp_sure_digits (T : Txt K mg) : Sp := fun vs H Q E => ∃ (b most c : Nat) (a : Addr) (s : List (Option Nat)), vs = [.int b, .ref a, .int most, .int c] ∧ SqT K H a (ov s) ∧ (2 ≤ b ∧ b ≤ 1000) ∧ SN b s ∧ (1 ≤ most ∧ most ≤ 200) ∧ c ≤ 60 ∧
  (fitL b s most ≠ [] → ∀ v H', Gr [] H H' → Dp K H' v (.tuple (od (sureL b c (fitL b s most)))) → Q v H') ∧
  (fitL b s most = [] → ∀ H1 dd, Gr [] H H1 → H1 dd = none → E (.ref T.C_Nothing) (some dd) (upd H1 dd (.xd [("value", .ref a)])))
theorem dgs_vn (b n x c : Nat) : dgs b n x c = vn (dl b n x c) := by
  unfold dgs dl vn
  rw [List.map_map]
  rfl
theorem ok_need_seen (T : Txt K mg) : FnOk P w K mg base CX0 4 T.d_need_seen.f T.d_need_seen.fd ["base", "value"] (sp_need_seen K) := by
  refine T.d_need_seen.F.ok sc_need_seen (fun vs H Q E h => ?_) (fun cdv A outer s H vs Q E hr h => ?_)
  · obtain ⟨b, a, s, rfl, _⟩ := h; rfl
  · have hu := hu_of hr
    refine ⟨_, (pss_cons (ps_expr (pe_call (ok_need_base T) (hr.mono (by decide)) (by rfl) T.d_need_base.m T.d_need_base.F.kp T.d_need_base.b .nil pass0 (pa_cons (pv 0) pa_nil)))
      (pss_cons (ps_if (PW.pt (pw_or (pt_not (pt_val (pe_callB (r := rIs K) call_is (by rfl) T.b_isinstance (by decide +kernel) (pa_cons (pv 1) (pa_cons (pe_bltn (v := .ty "tuple") (by rfl) T.b_tuple (by decide +kernel) rfl) pa_nil))))) (pw_or1 (pt_not (pt_chain op_le op_le pe_int (pe_callB (r := rLn K) call_ln (by rfl) T.b_len PySem.boot_len (pa_cons (pv 1) pa_nil)) (pe_glob (v := .int 20) (by rfl) T.c_MOST_SEEN ⟨_, rfl⟩)))))) (pss_one ps_never) pss_nil)
      (pss_cons (ps_if (pt_not (pt_val (pe_callB (r := rAll K) (cr_all rfl) (by rfl) T.b_all (by decide +kernel) (pa_cons (pe_lc (own := [("item", 2)]) (g := gName 2) (tt := tYes) rfl sc_need_seen.nd (pi_tup (pv 1)) (blkOk_by (own := [("item", 2)]) (N := ["base", "value", "item"]) (sc := defScope s_need_seen) (by decide +kernel)) (fun _ _ _ _ _ => (pg_name (i := 2) sc_need_seen.nd rfl (by first | exact .inl rfl | exact .inr rfl))) (fun _ _ _ _ _ => pts_nil) (fun _ _ _ _ _ => (pe_or (pe_cmpR op_isN (pv 2) pe_non (nomark _)) (pe_one (pe_call (ok_is_within T) (hr.mono (by decide)) (by rfl) T.d_is_within.m T.d_is_within.F.kp T.d_is_within.b .nil pass0 (pa_cons (pv 2) (pa_cons pe_int (pa_cons (pe_op op_sub (pv 0) pe_int) pa_nil)))))))) pa_nil)))) (pss_one ps_never) pss_nil)
      (pss_one (ps_ret (pv 1)))))), ?_⟩
    obtain ⟨b, a, s, rfl, hS, hb, hN, q⟩ := h
    refine ⟨_, rfl, b, rfl, ⟨by omega, by omega⟩, ?_⟩
    refine ⟨_, rfl, _, "tuple", rfl, "tuple", ⟨sqT_ty hS, by decide, by decide⟩, true, rfl, ?_⟩
    refine iteF ?_
    walk_at "vc"
    refine ⟨a, ov s, rfl, .inr hS, _, rfl, ?_⟩
    rw [ov_len, if_pos (by have := hN.1; omega)]
    refine ⟨_, rfl, iteFb (by rw [decide_eq_true (show ((s.length : Nat) : Int) ≤ 20 by have := hN.1; omega)]; rfl) ?_⟩
    refine ⟨_, rfl, a, rfl, ⟨_, hS⟩, fun D nD => ?_⟩
    refine lc_tup (K := K) (a := a) (xs := ov s) (fun i H' => Gr [] H H' ∧ ∃ bs : List Bool, H' D = some (.lst (bs.map V.bl)) ∧ bs.length ≤ i ∧ bs.all id = true) ⟨Gr.new nD, [], upd_same, Nat.le_refl _, rfl⟩ (fun i H' _ z => (Kp.of z.1).sqT hS) ?_ ?_
    · rintro i y H' hy ⟨G, bs, hD, hl, hall⟩
      obtain ⟨hi, rfl⟩ := ov_get hy
      have hm := List.getElem_mem hi
      generalize s[i] = o at hm ⊢
      refine ⟨rfl, ?_⟩
      dsimp only [tYes]
      refine iteT ?_
      have fin : ∃ acc, H' D = some (.lst acc) ∧ acc.length < sizeLine ∧ Gr [] H (upd H' D (.lst (acc ++ [V.bl true]))) ∧ ∃ bs : List Bool, (upd H' D (.lst (acc ++ [V.bl true]))) D = some (.lst (bs.map V.bl)) ∧ bs.length ≤ i + 1 ∧ bs.all id = true := by
        have := hN.1
        refine ⟨_, hD, small5 (by rw [List.length_map]; omega), fun c u _ e => ?_, bs ++ [true], ?_, by rw [List.length_append]; exact Nat.add_le_add_right hl 1, by rw [List.all_append, hall]; rfl⟩
        · rw [upd_ne (ne_of_none e nD)]
          exact G c u (by simp) e
        · rw [upd_same, List.map_append]
          rfl
      walk_at "vc"
      cases o with
      | none =>
        refine ⟨_, rfl, ?_⟩
        rw [if_pos (show oV none = V.non from rfl)]
        exact fin
      | some k =>
        have hk := hN.2 k hm
        refine ⟨_, rfl, ?_⟩
        rw [if_neg (show ¬ oV (some k) = V.non from fun z => V.noConfusion z)]
        exact ⟨_, rfl, _, rfl, _, rfl, (k : Int), _, _, rfl, ⟨by omega, by omega⟩, fin⟩
    rintro H2 ⟨g2, bs, hD, hl, hall⟩
    refine ⟨D, bs, rfl, sq_lst hD, ?_⟩
    rw [hall]
    exact ⟨true, rfl, iteF (q H2 g2)⟩
theorem ok_has_digits (T : Txt K mg) : FnOk P w K mg base CX0 1 T.d_has_digits.f T.d_has_digits.fd ["base", "fraction", "seen"] (sp_has_digits K) := by
  refine T.d_has_digits.F.ok sc_has_digits (fun vs H Q E h => ?_) (fun cdv A outer s H vs Q E hr h => ?_)
  · obtain ⟨b, x, n, f, a, s, rfl, _⟩ := h; rfl
  · have hu := hu_of hr
    refine ⟨_, (pss_cons (ps_asg (pv 1) (pg_tup (by rfl) (pgs_cons (pg_name (i := 3) sc_has_digits.nd rfl (by first | exact .inl rfl | exact .inr rfl)) (pgs_cons (pg_name (i := 4) sc_has_digits.nd rfl (by first | exact .inl rfl | exact .inr rfl)) pgs_nil))))
      (pss_cons (ps_for PassesOwn.never rfl (pi_tup (pv 2)) (pg_name (i := 5) sc_has_digits.nd rfl (by first | exact .inl rfl | exact .inr rfl)) (pss_cons (ps_if (PW.pt (pw_and (pt_cmpR op_notN (pv 5) pe_non (nomark _)) (pw_and1 (pt_cmpR op_ne (pe_op op_fdiv (pe_op op_mul (pv 0) (pv 3)) (pv 4)) (pv 5) (nomark _))))) (pss_one (ps_ret pe_bl)) pss_nil)
      (pss_one (ps_set (i := 3) sc_has_digits.nd rfl (by first | exact .inl rfl | exact .inr rfl) (pe_op op_mod (pe_op op_mul (pv 0) (pv 3)) (pv 4))))))
      (pss_one (ps_ret pe_bl)))), ?_⟩
    obtain ⟨b, x, n, f, a, s, rfl, hF, hS, ⟨hb, hn1, hn, hx⟩, q⟩ := h
    refine ⟨_, rfl, f, _, rfl, hF, rfl, _, _, rfl, _, _, rfl, rfl, ?_⟩
    refine ⟨_, rfl, a, rfl, ⟨_, hS⟩, ?_⟩
    refine for_tup (K := K) (a := a) (xs := ov s) (fun i σ H' => H' = H ∧ ∃ (r : Nat) (v : Option V), r < n ∧ fitR b n x s = fitR b n r (s.drop i) ∧ σ = [some (.int b), some (.ref f), some (.ref a), some (.int r), some (.int n), v]) ⟨rfl, x, none, hx, by rw [List.drop_zero], rfl⟩ (fun i σ H' _ z => by rw [z.1]; exact hS) ?_ ?_
    · rintro i y σ H' hy ⟨rfl, r, v, hr1, he, rfl⟩
      obtain ⟨hi, rfl⟩ := ov_get hy
      have dr := List.drop_eq_getElem_cons hi
      rw [dr] at he
      have hm : b * r ≤ 1000 * 5000 := Nat.mul_le_mul hb (by omega)
      have hlt : b * r % n < n := Nat.mod_lt _ (by omega)
      generalize s[i] = o at he ⊢
      have CM : CMul (b : Int) (r : Int) := .inl ⟨by omega, by omega⟩
      have CD : CDiv ((b : Int) * (r : Int)) (n : Int) := ⟨by omega, by omega⟩
      have hn0 : (0 : Int) < (n : Int) := by omega
      walk_at "vc"
      rw [icm]
      have ed : V.int ((b : Int) * (r : Int) / (n : Int)) = V.int ((b * r / n : Nat) : Int) := by rw [icd]
      cases o with
      | none =>
        rw [if_neg (show ¬ (!decide (oV none = V.non)) = true by decide)]
        exact ⟨CM, hn0, b * r % n, hlt, he, rfl, _, rfl⟩
      | some k =>
        rw [if_pos (show (!decide (oV (some k) = V.non)) = true by rw [decide_eq_false (fun z => V.noConfusion z)]; rfl)]
        refine ⟨CM, CD, rfl, ?_⟩
        have he : fitR b n x s = (decide (b * r / n = k) && fitR b n (b * r % n) (s.drop (i + 1))) := he
        by_cases hk : b * r / n = k
        · rw [if_neg (show ¬ (!decide (V.int ((b : Int) * (r : Int) / (n : Int)) = oV (some k))) = true by rw [decide_eq_true (show V.int ((b : Int) * (r : Int) / (n : Int)) = oV (some k) by rw [ed, hk]; rfl)]; decide)]
          rw [decide_eq_true hk, Bool.true_and] at he
          exact ⟨CM, hn0, b * r % n, hlt, he, rfl, _, rfl⟩
        · rw [if_pos (show (!decide (V.int ((b : Int) * (r : Int) / (n : Int)) = oV (some k))) = true by
            rw [decide_eq_false (fun z => hk (by rw [ed] at z; have := V.int.inj z; omega))]
            rfl)]
          rw [decide_eq_false hk, Bool.false_and] at he
          rw [← he]
          exact q
    rintro σ H' ⟨rfl, r, v, hr1, he, rfl⟩
    rw [ov_len, List.drop_length] at he
    rw [he] at q
    exact q
theorem ok_fits (T : Txt K mg) : FnOk P w K mg base CX0 5 T.d_fits.f T.d_fits.fd ["base", "fraction", "seen"] (sp_fits K) := by
  refine T.d_fits.F.ok sc_fits (fun vs H Q E h => ?_) (fun cdv A outer s H vs Q E hr h => ?_)
  · obtain ⟨b, x, n, f, a, s, rfl, _⟩ := h; rfl
  · have hu := hu_of hr
    refine ⟨_, (pss_cons (ps_expr (pe_call (ok_need_base T) (hr.mono (by decide)) (by rfl) T.d_need_base.m T.d_need_base.F.kp T.d_need_base.b .nil pass0 (pa_cons (pv 0) pa_nil)))
      (pss_cons (ps_expr (pe_call (ok_need_fraction T) (hr.mono (by decide)) (by rfl) T.d_need_fraction.m T.d_need_fraction.F.kp T.d_need_fraction.b .nil pass0 (pa_cons (pv 1) pa_nil)))
      (pss_cons (ps_expr (pe_call (ok_need_seen T) (hr.mono (by decide)) (by rfl) T.d_need_seen.m T.d_need_seen.F.kp T.d_need_seen.b .nil pass0 (pa_cons (pv 0) (pa_cons (pv 2) pa_nil))))
      (pss_one (ps_ret (pe_call (ok_has_digits T) (hr.mono (by decide)) (by rfl) T.d_has_digits.m T.d_has_digits.F.kp T.d_has_digits.b .nil pass0 (pa_cons (pv 0) (pa_cons (pv 1) (pa_cons (pv 2) pa_nil))))))))), ?_⟩
    obtain ⟨b, x, n, f, a, s, rfl, hF, hS, hb, hN, hx, q⟩ := h
    refine ⟨_, rfl, b, rfl, ⟨by omega, by omega⟩, ?_⟩
    refine ⟨_, rfl, f, x, n, rfl, hF, hx, ?_⟩
    refine ⟨_, rfl, _, rfl, b, a, s, rfl, hS, hb, hN, fun H1 g1 => ?_⟩
    exact ⟨_, rfl, _, rfl, _, rfl, b, x, n, f, a, s, rfl, (Kp.of g1).sqT (sq_tup hF), (Kp.of g1).sqT hS, ⟨by omega, by omega, by omega, hx.1⟩, q H1 g1⟩

def fitK (b : Nat) (s : List (Option Nat)) (n k : Nat) : List (Nat × Nat) := (((List.range k).filter fun x => decide (Nat.gcd x n = 1)).filter fun x => fitR b n x s).map fun x => (x, n)
theorem fitL_succ (b : Nat) (s : List (Option Nat)) (i : Nat) : fitL b s (i + 1) = fitL b s i ++ fitK b s (i + 1) (i + 1) := by
  unfold fitL
  rw [List.range_succ, List.flatMap_append]
  simp only [List.flatMap_cons, List.flatMap_nil, List.append_nil]
  rfl
theorem fitK_yes {b n k : Nat} {s : List (Option Nat)} (h : Nat.gcd k n = 1) (f : fitR b n k s = true) : fitK b s n (k + 1) = fitK b s n k ++ [(k, n)] := by
  unfold fitK
  rw [List.range_succ, List.filter_append, List.filter_append, List.map_append]
  simp [h, f]
theorem fitK_no {b n k : Nat} {s : List (Option Nat)} (h : ¬ (Nat.gcd k n = 1 ∧ fitR b n k s = true)) : fitK b s n (k + 1) = fitK b s n k := by
  unfold fitK
  rw [List.range_succ, List.filter_append, List.filter_append, List.map_append]
  by_cases g : Nat.gcd k n = 1
  · have f : fitR b n k s = false := by
      cases z : fitR b n k s with
      | false => rfl
      | true => exact absurd ⟨g, z⟩ h
    simp [g, f]
  · simp [g]
theorem fitK_len (b : Nat) (s : List (Option Nat)) (n k : Nat) : (fitK b s n k).length ≤ k := by
  unfold fitK
  rw [List.length_map]
  refine Nat.le_trans (List.length_filter_le _ _) (Nat.le_trans (List.length_filter_le _ _) ?_)
  rw [List.length_range]
  exact Nat.le_refl _
theorem fitL_len (b : Nat) (s : List (Option Nat)) : ∀ m, (fitL b s m).length ≤ m * m
  | 0 => Nat.le_refl _
  | m + 1 => by
    have := fitL_len b s m
    have := fitK_len b s (m + 1) (m + 1)
    rw [fitL_succ, List.length_append]
    have e : (m + 1) * (m + 1) = m * m + 2 * m + 1 := by
      rw [Nat.add_mul, Nat.mul_add]
      omega
    omega
theorem fitL_mem {b : Nat} {s : List (Option Nat)} {most : Nat} {r : Nat × Nat} (h : r ∈ fitL b s most) : r.1 < r.2 ∧ r.2 ≤ most ∧ Nat.gcd r.1 r.2 = 1 := by
  unfold fitL at h
  obtain ⟨i, hi, h⟩ := List.mem_flatMap.mp h
  obtain ⟨x, hx, rfl⟩ := List.mem_map.mp h
  obtain ⟨hx, _⟩ := List.mem_filter.mp hx
  unfold copL at hx
  obtain ⟨h1, h2⟩ := List.mem_filter.mp hx
  have := List.mem_range.mp h1
  have := List.mem_range.mp hi
  exact ⟨by show x < i + 1; omega, by show i + 1 ≤ most; omega, of_decide_eq_true h2⟩
theorem small40 {k : Nat} (h : k ≤ 60000) : k < sizeLine := Nat.lt_of_lt_of_le (show k < 65536 by omega) (by decide)
theorem ok_all_fitting (T : Txt K mg) : FnOk P w K mg base CX0 5 T.d_all_fitting.f T.d_all_fitting.fd ["base", "seen", "most"] (sp_all_fitting K) := by
  refine T.d_all_fitting.F.ok sc_all_fitting (fun vs H Q E h => ?_) (fun cdv A outer s H vs Q E hr h => ?_)
  · obtain ⟨b, most, a, s, rfl, _⟩ := h; rfl
  · have hu := hu_of hr
    refine ⟨_, (pss_cons (ps_expr (pe_call (ok_need_seen T) (hr.mono (by decide)) (by rfl) T.d_need_seen.m T.d_need_seen.F.kp T.d_need_seen.b .nil pass0 (pa_cons (pv 0) (pa_cons (pv 1) pa_nil))))
      (pss_cons (ps_if (pt_not (pt_val (pe_call (ok_is_within T) (hr.mono (by decide)) (by rfl) T.d_is_within.m T.d_is_within.F.kp T.d_is_within.b .nil pass0 (pa_cons (pv 2) (pa_cons pe_int (pa_cons (pe_glob (v := .int 200) (by rfl) T.c_GREATEST_BOUND ⟨_, rfl⟩) pa_nil)))))) (pss_one ps_never) pss_nil)
      (pss_cons (ps_set (i := 3) sc_all_fitting.nd rfl (by first | exact .inl rfl | exact .inr rfl) (pe_lst pa_nil))
      (pss_cons (ps_for PassesOwn.never rfl (pi_range2 (by rfl) T.b_range (pa_cons pe_int (pa_cons (pe_op op_add (pv 2) pe_int) pa_nil))) (pg_name (i := 4) sc_all_fitting.nd rfl (by first | exact .inl rfl | exact .inr rfl)) (pss_one (ps_for PassesOwn.never rfl (pi_range1 (by rfl) T.b_range (pa_cons (pv 4) pa_nil)) (pg_name (i := 5) sc_all_fitting.nd rfl (by first | exact .inl rfl | exact .inr rfl)) (pss_one (ps_if (PW.pt (pw_and (pt_cmpR op_eq (pe_callBfun cr_gcd (by rfl) T.b_gcd (pa_cons (pv 5) (pa_cons (pv 4) pa_nil))) pe_int (nomark _)) (pw_and1 (pt_val (pe_call (ok_has_digits T) (hr.mono (by decide)) (by rfl) T.d_has_digits.m T.d_has_digits.F.kp T.d_has_digits.b .nil pass0 (pa_cons (pv 0) (pa_cons (pe_tup (pa_cons (pv 5) (pa_cons (pv 4) pa_nil))) (pa_cons (pv 1) pa_nil)))))))) (pss_one (ps_expr (pe_bm PySem.F.plainAttrs_list PySem.F.slot_list_append PySem.F.type_list_append mt_append (pv 3) (pa_cons (pe_tup (pa_cons (pv 5) (pa_cons (pv 4) pa_nil))) pa_nil)))) pss_nil)))))
      (pss_one (ps_ret (pv 3))))))), ?_⟩
    obtain ⟨b, most, a, s, rfl, hS, hb, hN, hm, q⟩ := h
    refine ⟨_, rfl, _, rfl, b, a, s, rfl, hS, hb, hN, fun H1 g1 => ?_⟩
    refine ⟨_, rfl, (most : Int), _, _, rfl, ⟨by omega, by omega⟩, true, rfl, iteF ?_⟩
    refine ⟨Nat.zero_le _, fun l nl => ?_⟩
    have gl := Gr.new (W := []) (o := .lst []) nl
    have hl : (upd H1 l (.lst [])) l = some (.lst (([] : List Addr).map V.ref)) := upd_same
    have G1 := g1.trans gl
    have nlH : H l = none := by
      cases e : H l with
      | none => rfl
      | some o => exact absurd (g1 l o (by simp) e) (by rw [nl]; simp)
    generalize upd H1 l (.lst []) = H2 at gl hl G1 ⊢
    refine ⟨_, rfl, _, _, rfl, rfl, 1, (most : Int) + 1, rfl, ⟨by decide, by decide, by omega, by omega⟩, ?_⟩
    refine for_range (lo := 1) (n := ((most : Int) + 1 - 1).toNat) (fun i σ H' => Gr [] H H' ∧ (∃ ps : List Addr, H' l = some (.lst (ps.map V.ref)) ∧ Prs H' ps (fitL b s i)) ∧ ∃ v4 v5, σ = [some (.int b), some (.ref a), some (.int most), some (.ref l), v4, v5]) ⟨G1, ⟨[], hl, .nil⟩, none, none, rfl⟩ ?_ ?_
    · rintro i σ H' hi ⟨G, ⟨ps, hL, hP⟩, v4, v5, rfl⟩
      have hi' : i < most := by omega
      have e1 : (1 : Int) + (i : Int) = ((i + 1 : Nat) : Int) := by omega
      rw [e1]
      refine ⟨_, rfl, ((i + 1 : Nat) : Int), rfl, by omega, by omega, ?_⟩
      refine for_range (lo := 0) (n := (((i + 1 : Nat) : Int) - 0).toNat) (fun j σ H' => Gr [] H H' ∧ (∃ ps : List Addr, H' l = some (.lst (ps.map V.ref)) ∧ Prs H' ps (fitL b s i ++ fitK b s (i + 1) j)) ∧ ∃ v5, σ = [some (.int b), some (.ref a), some (.int most), some (.ref l), some (.int (i + 1 : Nat)), v5]) ⟨G, ⟨ps, hL, by show Prs H' ps (fitL b s i ++ []); rw [List.append_nil]; exact hP⟩, v5, rfl⟩ ?_ ?_
      · rintro j σ H3 hj ⟨G, ⟨ps, hL, hP⟩, v5, rfl⟩
        have hj' : j < i + 1 := by omega
        have e2 : (0 : Int) + (j : Int) = ((j : Nat) : Int) := by omega
        rw [e2]
        have hfl := fitL_len b s i
        have him : i * i ≤ 200 * 200 := Nat.mul_le_mul (by omega) (by omega)
        have hkl := fitK_len b s (i + 1) j
        have hpl := hP.len
        rw [List.length_append] at hpl
        walk_at "vc"
        rw [Int.natAbs_natCast, Int.natAbs_natCast]
        by_cases hg : Nat.gcd j (i + 1) = 1
        · rw [if_pos (show ((Nat.gcd j (i + 1) : Nat) : Int) = 1 by rw [hg]; rfl)]
          refine ⟨_, rfl, _, rfl, by show 2 ≤ sizeLine; decide, fun p np => ?_⟩
          have gp := Gr.new (W := []) (o := .tup [.int (j : Nat), .int (i + 1 : Nat)]) np
          have hp : (upd H3 p (.tup [.int (j : Nat), .int (i + 1 : Nat)])) p = some (.tup [.int (j : Nat), .int (i + 1 : Nat)]) := upd_same
          have hL1 := gp l _ (by simp) hL
          have hP1 := hP.gr gp
          generalize upd H3 p (.tup [.int (j : Nat), .int (i + 1 : Nat)]) = H4 at gp hp hL1 hP1 ⊢
          refine ⟨b, j, i + 1, p, a, s, rfl, sq_tup hp, (Kp.of (G.trans gp)).sqT hS, ⟨by omega, by omega, by omega, by omega⟩, ?_⟩
          cases hf : fitR b (i + 1) j s with
          | true =>
            refine ⟨_, rfl, iteT ?_⟩
            refine ⟨_, rfl, .inl ⟨rfl, _, sq_lst hL1⟩, _, rfl, _, rfl, by show 2 ≤ sizeLine; decide, fun t nt => ?_⟩
            have gt := Gr.new (W := []) (o := .tup [.int (j : Nat), .int (i + 1 : Nat)]) nt
            have ht : (upd H4 t (.tup [.int (j : Nat), .int (i + 1 : Nat)])) t = some (.tup [.int (j : Nat), .int (i + 1 : Nat)]) := upd_same
            have hL2 := gt l _ (by simp) hL1
            have hP2 := hP1.gr gt
            generalize upd H4 t (.tup [.int (j : Nat), .int (i + 1 : Nat)]) = H5 at gt ht hL2 hP2 ⊢
            have nlp : ∀ {u : Addr} {ys : List V}, H5 u = some (.tup ys) → u ≠ l := fun e z => by
              rw [z, hL2] at e
              cases e
            refine ⟨l, _, _, rfl, rfl, hL2, small40 (by rw [List.length_map]; omega), fun u o _ eo => ?_, ⟨ps ++ [t], ?_, ?_⟩, _, rfl⟩
            · have hu : u ≠ l := ne_of_none eo nlH
              rw [upd_ne hu]
              exact gt u o (by simp) (gp u o (by simp) (G u o (by simp) eo))
            · rw [upd_same, List.map_append]
              rfl
            · rw [fitK_yes hg hf, ← List.append_assoc]
              refine (hP2.imp fun e => ?_).snoc ?_
              · rw [upd_ne (nlp e)]
                exact e
              · rw [upd_ne (nlp ht)]
                exact ht
          | false =>
            refine ⟨_, rfl, iteF ⟨G.trans gp, ⟨ps, hL1, ?_⟩, _, rfl⟩⟩
            rw [fitK_no (fun z => by rw [hf] at z; exact absurd z.2 (by simp))]
            exact hP1
        · rw [if_neg (show ¬ ((Nat.gcd j (i + 1) : Nat) : Int) = 1 from fun z => hg (by omega))]
          refine ⟨G, ⟨ps, hL, ?_⟩, _, rfl⟩
          rw [fitK_no (fun z => hg z.1)]
          exact hP
      · rintro σ H3 ⟨G, ⟨ps, hL, hP⟩, v5, rfl⟩
        rw [show (((i + 1 : Nat) : Int) - 0).toNat = i + 1 by omega, ← fitL_succ] at hP
        exact ⟨G, ⟨ps, hL, hP⟩, _, _, rfl⟩
    rintro σ H3 ⟨G, ⟨ps, hL, hP⟩, v4, v5, rfl⟩
    rw [show ((most : Int) + 1 - 1).toNat = most by omega] at hP
    exact ⟨_, rfl, q l ps H3 G hL hP⟩
theorem okX_fitting (T : Txt K mg) : FnOk P w K mg base (L2.CX P w) 6 T.d_fitting.f T.d_fitting.fd ["base", "seen", "most"] (sp_fitting T) := by
  refine T.d_fitting.F.okX sc_fitting (fun vs H Q E h => ?_) (fun cdv A outer s H vs Q E hr h => ?_)
  · obtain ⟨b, most, a, s, rfl, _⟩ := h; rfl
  · have hu := hu_of hr
    refine ⟨_, (pss_cons (ps_set (i := 3) sc_fitting.nd rfl (by first | exact .inl rfl | exact .inr rfl) (pe_call (ok_all_fitting T) (hr.mono (by decide)) (by rfl) T.d_all_fitting.m T.d_all_fitting.F.kp T.d_all_fitting.b .nil pass0 (pa_cons (pv 0) (pa_cons (pv 1) (pa_cons (pv 2) pa_nil)))))
      (pss_cons (ps_if (pt_cmpR op_gt (pe_callB (r := rLn K) call_ln (by rfl) T.b_len PySem.boot_len (pa_cons (pv 3) pa_nil)) (pe_glob (v := .int 1000) (by rfl) T.c_MOST_FITTING ⟨_, rfl⟩) (nomark _)) (pss_one (ps_raise rfl (takes_of rfl rfl rfl rfl) (pmkE T.T_TooGreat (ok_init_TooGreat T) (hr.mono (by decide)) T.b_TooGreat pass0 (by rfl) T.g_TooGreat (pa_cons (pe_glob (v := .int 1000) (by rfl) T.c_MOST_FITTING ⟨_, rfl⟩) pa_nil)))) pss_nil)
      (PSs.nox (pss_one (ps_ret (pe_callTy (r := rTpO K) call_tpO (by rfl) T.b_tuple (by decide +kernel) (pa_cons (pv 3) pa_nil))))))), ?_⟩
    obtain ⟨b, most, a, s, rfl, hS, hb, hN, hm, q, e⟩ := h
    refine ⟨_, rfl, _, rfl, _, rfl, b, most, a, s, rfl, hS, hb, hN, hm, fun l ps H1 g1 hl hP => ?_⟩
    refine ⟨_, rfl, l, _, rfl, .inl (sq_lst hl), _, _, rfl, rfl, _, rfl, ?_⟩
    rw [List.length_map, hP.len]
    by_cases h : (fitL b s most).length ≤ 1000
    · refine iteFb (decide_eq_false (by omega)) ?_
      refine ⟨_, rfl, l, _, rfl, .inl ⟨sq_lst hl, fun t nt => ?_⟩⟩
      have gt := Gr.new (W := []) (o := .tup (ps.map V.ref)) nt
      exact q h _ _ (g1.trans gt) (dp_tup upd_same (hP.gr gt).dpa)
    · refine iteTb (decide_eq_true (by omega)) ?_
      exact mk1_go fun dd nd => e (by omega) H1 dd g1 nd
theorem ok_simplest (T : Txt K mg) : FnOk P w K mg base CX0 6 T.d_simplest.f T.d_simplest.fd ["base", "seen", "most"] (sp_simplest K) := by
  refine T.d_simplest.F.ok sc_simplest (fun vs H Q E h => ?_) (fun cdv A outer s H vs Q E hr h => ?_)
  · obtain ⟨b, most, a, s, rfl, _⟩ := h; rfl
  · have hu := hu_of hr
    refine ⟨_, (pss_cons (ps_set (i := 3) sc_simplest.nd rfl (by first | exact .inl rfl | exact .inr rfl) (pe_call (ok_all_fitting T) (hr.mono (by decide)) (by rfl) T.d_all_fitting.m T.d_all_fitting.F.kp T.d_all_fitting.b .nil pass0 (pa_cons (pv 0) (pa_cons (pv 1) (pa_cons (pv 2) pa_nil)))))
      (pss_cons (ps_if (pt_cmpR op_eq (pe_callB (r := rLn K) call_ln (by rfl) T.b_len PySem.boot_len (pa_cons (pv 3) pa_nil)) pe_int (nomark _)) (pss_one (ps_ret pe_non)) pss_nil)
      (pss_one (ps_ret (pe_ix (r := rIxL K) ix_list (pv 3) pe_int (fun _ _ => rfl)))))), ?_⟩
    obtain ⟨b, most, a, s, rfl, hS, hb, hN, hm, q⟩ := h
    refine ⟨_, rfl, _, rfl, _, rfl, b, most, a, s, rfl, hS, hb, hN, hm, fun l ps H1 g1 hl hP => ?_⟩
    refine ⟨_, rfl, l, _, rfl, .inl (sq_lst hl), rfl, _, rfl, ?_⟩
    rw [List.length_map]
    generalize fitL b s most = rs at hP q
    cases hP with
    | nil =>
      refine iteTb rfl ?_
      exact q _ _ g1 .non
    | cons e hP =>
      refine iteFb (decide_eq_false (by rw [List.length_cons]; intro z; have := V.int.inj z; omega)) ?_
      exact ⟨_, rfl, l, _, 0, _, rfl, rfl, sq_lst hl, atI_nat (j := 0) rfl, q _ _ g1 (two_dp (sq_tup e))⟩

def sureF (d : Nat) (o : Option Nat) : Option Nat := if o = some d then some d else none
def zipF (r : List Nat) (k : List (Option Nat)) : List (Option Nat) := List.zipWith sureF r k
theorem sureR_cons (b c : Nat) (k : List (Option Nat)) (r : Nat × Nat) (rs : List (Nat × Nat)) : sureR b c k (r :: rs) = sureR b c (zipF (dl b r.2 r.1 c) k) rs := rfl
theorem ov_some (xs : List Nat) : ov (xs.map some) = vn xs := by
  unfold ov vn
  rw [List.map_map]
  rfl
theorem ov_snoc (s : List (Option Nat)) (o : Option Nat) : ov s ++ [oV o] = ov (s ++ [o]) := by
  unfold ov
  rw [List.map_append]
  rfl
theorem zipF_len {r : List Nat} {k : List (Option Nat)} (h : r.length = k.length) : (zipF r k).length = r.length := by
  unfold zipF
  rw [List.length_zipWith, h, Nat.min_self]
theorem zipF_take {r : List Nat} {k : List (Option Nat)} {i : Nat} (h1 : i < r.length) (h2 : i < k.length) : (zipF r k).take (i + 1) = (zipF r k).take i ++ [sureF r[i] k[i]] := by
  have hi : i < (zipF r k).length := by
    unfold zipF
    rw [List.length_zipWith]
    omega
  have e : (zipF r k)[i] = sureF r[i] k[i] := List.getElem_zipWith ..
  rw [List.take_succ_eq_append_getElem hi, e]
theorem sqK_tup {K : PySem.W.Frag} {H : Hp} {a : Addr} {xs : List V} (h : SqT K H a xs) : SqK true K H a xs := h
theorem sqK_lst {K : PySem.W.Frag} {H : Hp} {a : Addr} {xs : List V} (h : SqL K H a xs) : SqK false K H a xs := h
theorem okX_sure_digits (T : Txt K mg) : FnOk P w K mg base (L2.CX P w) 6 T.d_sure_digits.f T.d_sure_digits.fd ["base", "seen", "most", "count"] (sp_sure_digits T) := by
  refine T.d_sure_digits.F.okX sc_sure_digits (fun vs H Q E h => ?_) (fun cdv A outer s H vs Q E hr h => ?_)
  · obtain ⟨b, most, c, a, s, rfl, _⟩ := h; rfl
  · have hu := hu_of hr
    refine ⟨_, (pss_cons (ps_set (i := 4) sc_sure_digits.nd rfl (by first | exact .inl rfl | exact .inr rfl) (pe_call (ok_all_fitting T) (hr.mono (by decide)) (by rfl) T.d_all_fitting.m T.d_all_fitting.F.kp T.d_all_fitting.b .nil pass0 (pa_cons (pv 0) (pa_cons (pv 1) (pa_cons (pv 2) pa_nil)))))
      (pss_cons (ps_if (pt_not (pt_val (pe_call (ok_is_within T) (hr.mono (by decide)) (by rfl) T.d_is_within.m T.d_is_within.F.kp T.d_is_within.b .nil pass0 (pa_cons (pv 3) (pa_cons pe_int (pa_cons (pe_glob (v := .int 60) (by rfl) T.c_MOST_SURE ⟨_, rfl⟩) pa_nil)))))) (PSs.nox (pss_one ps_never)) pss_nil)
      (pss_cons (ps_if (pt_cmpR op_eq (pe_callB (r := rLn K) call_ln (by rfl) T.b_len PySem.boot_len (pa_cons (pv 4) pa_nil)) pe_int (nomark _)) (pss_one (ps_raise rfl (takes_of rfl rfl rfl rfl) (pmkE T.T_Nothing (ok_init_Nothing T) (hr.mono (by decide)) T.b_Nothing pass0 (by rfl) T.g_Nothing (pa_cons (pv 1) pa_nil)))) pss_nil)
      (PSs.nox (pss_cons (ps_set (i := 5) sc_sure_digits.nd rfl (by first | exact .inl rfl | exact .inr rfl) (pe_call (ok_divided T) (hr.mono (by decide)) (by rfl) T.d_divided.m T.d_divided.F.kp T.d_divided.b .nil pass0 (pa_cons (pv 0) (pa_cons (pe_ix (r := rIxT K) ix_tup (pe_ix (r := rIxL K) ix_list (pv 4) pe_int (fun _ _ => rfl)) pe_int (fun _ _ => rfl)) (pa_cons (pe_ix (r := rIxT K) ix_tup (pe_ix (r := rIxL K) ix_list (pv 4) pe_int (fun _ _ => rfl)) pe_int (fun _ _ => rfl)) (pa_cons (pv 3) pa_nil))))))
      (pss_cons (ps_for PassesOwn.never rfl (pi_list (pv 4)) (pg_tup (by rfl) (pgs_cons (pg_name (i := 6) sc_sure_digits.nd rfl (by first | exact .inl rfl | exact .inr rfl)) (pgs_cons (pg_name (i := 7) sc_sure_digits.nd rfl (by first | exact .inl rfl | exact .inr rfl)) pgs_nil))) (pss_cons (ps_set (i := 8) sc_sure_digits.nd rfl (by first | exact .inl rfl | exact .inr rfl) (pe_call (ok_divided T) (hr.mono (by decide)) (by rfl) T.d_divided.m T.d_divided.F.kp T.d_divided.b .nil pass0 (pa_cons (pv 0) (pa_cons (pv 6) (pa_cons (pv 7) (pa_cons (pv 3) pa_nil))))))
      (pss_one (ps_setLc (i := 5) (own := [("digit", 9), ("known", 10)]) (g := gTup K 2 (gCons (gName 9) (gCons (gName 10) gNil))) (tt := tYes) rfl sc_sure_digits.nd rfl rfl (sw_true rfl rfl rfl (by decide +kernel)) (pi_zipM (by rfl) T.b_zip (pa_cons (pv 8) (pa_cons (pv 5) pa_nil))) (blkOk_by (own := [("digit", 9), ("known", 10)]) (N := ["base", "seen", "most", "count", "found", "sure", "numerator", "denominator", "row", "digit", "known"]) (sc := defScope s_sure_digits) (by decide +kernel)) (fun _ _ _ _ _ => (pg_tup (by rfl) (pgs_cons (pg_name (i := 9) sc_sure_digits.nd rfl (by first | exact .inl rfl | exact .inr rfl)) (pgs_cons (pg_name (i := 10) sc_sure_digits.nd rfl (by first | exact .inl rfl | exact .inr rfl)) pgs_nil)))) (fun _ _ _ _ _ => pts_nil) (fun _ _ _ _ _ => (pe_ifExp (pt_cmpR op_eq (pv 9) (pv 10) (nomark _)) (pv 9) pe_non))))))
      (pss_one (ps_ret (pe_callTy (r := rTpO K) call_tpO (by rfl) T.b_tuple (by decide +kernel) (pa_cons (pv 5) pa_nil)))))))))), ?_⟩
    obtain ⟨b, most, c, a, s, rfl, hS, hb, hN, hm, hc, q, e⟩ := h
    refine ⟨_, rfl, _, rfl, _, rfl, b, most, a, s, rfl, hS, hb, hN, hm, fun l ps H1 g1 hl hP => ?_⟩
    refine ⟨_, rfl, (c : Int), _, _, rfl, ⟨by omega, by omega⟩, true, rfl, iteF ?_⟩
    refine ⟨_, rfl, l, _, rfl, .inl (sq_lst hl), rfl, _, rfl, ?_⟩
    rw [List.length_map]
    have hmem : ∀ r ∈ fitL b s most, r.1 < r.2 ∧ r.2 ≤ most ∧ Nat.gcd r.1 r.2 = 1 := fun r => fitL_mem
    generalize fitL b s most = rs at hP q e hmem
    cases hP with
    | nil =>
      refine iteTb rfl ?_
      exact ⟨_, rfl, mk1_go fun dd nd => e rfl H1 dd g1 nd⟩
    | @cons p ps r rs hp hP =>
      refine iteFb (decide_eq_false (by rw [List.length_cons]; intro z; have := V.int.inj z; omega)) ?_
      have hr := hmem r (List.mem_cons_self ..)
      have BNr : ∀ r' ∈ r :: rs, BN b r'.2 ∧ r'.1 < r'.2 := fun r' h => by
        have := hmem r' h
        exact ⟨⟨hb.1, hb.2, by omega, by omega⟩, this.1⟩
      refine ⟨_, rfl, _, rfl, l, _, 0, _, rfl, rfl, sq_lst hl, atI_nat (j := 0) rfl, p, _, 0, _, rfl, rfl, sq_tup hp, atI_nat (j := 0) rfl, ?_⟩
      refine ⟨_, rfl, l, _, 0, _, rfl, rfl, sq_lst hl, atI_nat (j := 0) rfl, p, _, 1, _, rfl, rfl, sq_tup hp, atI_nat (j := 1) rfl, ?_⟩
      refine ⟨_, rfl, b, r.1, r.2, c, rfl, ⟨(BNr r (List.mem_cons_self ..)).1, hr.1, by omega⟩, fun t H2 g2 ht => ?_⟩
      rw [dgs_vn, ← ov_some] at ht
      have hl2 := g2 l _ (by simp) hl
      have hP2 : Prs H2 (p :: ps) (r :: rs) := (Prs.cons hp hP).gr g2
      have G2 := g1.trans g2
      have eS : sureL b c (r :: rs) = sureR b c ((dl b r.2 r.1 c).map some) (r :: rs) := rfl
      clear hp hP hl g1 g2
      refine ⟨_, rfl, l, rfl, ⟨_, sq_lst hl2⟩, ?_⟩
      refine for_list (K := K) (a := l) (xs := (p :: ps).map V.ref) (fun i σ H' => Gr [] H2 H' ∧ (∃ (u : Bool) (S : Addr) (k : List (Option Nat)), SqK u K H' S (ov k) ∧ k.length = c ∧ sureL b c (r :: rs) = sureR b c k ((r :: rs).drop i) ∧ ∃ v6 v7 v8 v9 v10, σ = [some (.int b), some (.ref a), some (.int most), some (.int c), some (.ref l), some (.ref S), v6, v7, v8, v9, v10])) ⟨Gr.refl _ _, true, t, _, sqK_tup (sq_tup ht), by rw [List.length_map, dl_len], eS, none, none, none, none, none, rfl⟩ (fun i σ H' _ z => sq_lst (z.1 l _ (by simp) hl2)) ?_ ?_
      · rintro i y σ H3 hy ⟨G, u, S, k, hk, hkl, he, v6, v7, v8, v9, v10, rfl⟩
        obtain ⟨p', hi, rfl, hp'⟩ := (hP2.gr G).at_ hy
        have dr := List.drop_eq_getElem_cons hi
        rw [dr, sureR_cons] at he
        have hm' := BNr _ (List.getElem_mem hi)
        generalize (r :: rs)[i] = r' at hp' he hm' ⊢
        obtain ⟨x, n⟩ := r'
        have he : sureL b c (r :: rs) = sureR b c (zipF (dl b n x c) k) ((r :: rs).drop (i + 1)) := he
        have hp' : H3 p' = some (.tup [.int (x : Nat), .int (n : Nat)]) := hp'
        have hm' : BN b n ∧ x < n := hm'
        refine ⟨p', _, rfl, sq_tup hp', rfl, _, _, rfl, _, _, rfl, rfl, ?_⟩
        refine ⟨_, rfl, _, rfl, _, rfl, _, rfl, b, x, n, c, rfl, ⟨hm'.1, hm'.2, by omega⟩, fun t4 H4 g4 ht4 => ?_⟩
        rw [dgs_vn] at ht4
        refine ⟨_, rfl, _, rfl, true, u, t4, S, _, _, rfl, sqK_tup (sq_tup ht4), SqK.kp (Kp.of g4) hk, ?_⟩
        intro D nD
        have ll : (dl b n x c).length = k.length := by rw [dl_len, hkl]
        refine lc_zipM (K := K) (t := true) (u := u) (a := t4) (b := S) (xs := vn (dl b n x c)) (ys := ov k) (by rw [vn_len, ov_len, ll]) (fun j H' => Gr [] H4 H' ∧ H' D = some (.lst (ov ((zipF (dl b n x c) k).take j)))) ⟨Gr.new nD, upd_same⟩ (fun j H' z => ⟨sqK_tup (sq_tup (z.1 t4 _ (by simp) ht4)), SqK.kp (Kp.of (g4.trans z.1)) hk⟩) ?_ ?_
        · rintro j x1 y1 p5 H5 hx1 hy1 ⟨G5, hD5⟩ np5
          obtain ⟨hj, rfl⟩ := vn_get hx1
          obtain ⟨hj2, rfl⟩ := ov_get hy1
          have tk := zipF_take hj hj2
          rw [dl_len] at hj
          generalize (dl b n x c)[j] = d at tk ⊢
          generalize k[j] = o at tk ⊢
          have gp := Gr.new (W := []) (o := .tup [.int (d : Nat), oV o]) np5
          have hD6 := gp D _ (by simp) hD5
          have ep : (upd H5 p5 (.tup [.int (d : Nat), oV o])) p5 = some (.tup [.int (d : Nat), oV o]) := upd_same
          generalize upd H5 p5 (.tup [.int (d : Nat), oV o]) = H6 at gp hD6 ep ⊢
          refine ⟨p5, _, rfl, sq_tup ep, rfl, _, _, rfl, _, _, rfl, rfl, rfl, ?_⟩
          dsimp only [tYes]
          refine iteT ?_
          have fin : ∀ o', sureF d o = o' → ∃ acc, H6 D = some (.lst acc) ∧ acc.length < sizeLine ∧ Gr [] H4 (upd H6 D (.lst (acc ++ [oV o']))) ∧ (upd H6 D (.lst (acc ++ [oV o']))) D = some (.lst (ov ((zipF (dl b n x c) k).take (j + 1)))) := fun o' ho => by
            refine ⟨_, hD6, small5 (by rw [ov_len, List.length_take]; omega), fun z u2 _ ez => ?_, ?_⟩
            · rw [upd_ne (ne_of_none ez nD)]
              exact gp z u2 (by simp) (G5 z u2 (by simp) ez)
            · rw [upd_same, ov_snoc, tk, ho]
          refine ⟨_, rfl, _, rfl, by cases o <;> rfl, _, rfl, ?_⟩
          by_cases hd : o = some d
          · subst hd
            exact iteTb (decide_eq_true rfl) ⟨_, rfl, fin (some d) (if_pos rfl)⟩
          · refine iteFb (decide_eq_false (fun z => hd ?_)) (fin none (if_neg hd))
            cases o with
            | none => cases z
            | some k' =>
              have := V.int.inj z
              rw [show k' = d by omega]
        rintro H7 ⟨G7, hD7⟩
        rw [vn_len, dl_len, List.take_of_length_le (by rw [zipF_len ll, dl_len]; exact Nat.le_refl _)] at hD7
        exact ⟨(G.trans g4).trans G7, false, D, _, sqK_lst (sq_lst hD7), by rw [zipF_len ll, dl_len], he, _, _, _, _, _, rfl⟩
      rintro σ H3 ⟨G, u, S, k, hk, hkl, he, v6, v7, v8, v9, v10, rfl⟩
      have hpl : (p :: ps).length = (r :: rs).length := hP2.len
      rw [List.length_map, hpl, List.drop_length] at he
      have he : sureL b c (r :: rs) = k := he
      cases u with
      | true =>
        refine ⟨_, rfl, S, _, rfl, .inr ⟨hk, q (by simp) _ _ (G2.trans G) ?_⟩⟩
        rw [he]
        exact .tup hk (dp_ov k)
      | false =>
        refine ⟨_, rfl, S, _, rfl, .inl ⟨hk, fun t9 n9 => ?_⟩⟩
        refine q (by simp) _ _ ((G2.trans G).trans (Gr.new n9)) ?_
        rw [he]
        exact dp_tup upd_same (dp_ov k)

end
end Wn
namespace Wn
open PySem PySem.Spec PyProof.Rows L2
open LamX (Tabs ExtN tLam)
local macro_rules | `(tactic| walk_at "vc") => `(tactic| simp only [cxK, cxK2, start1, start2, start3, tRet, tRetN, tSeq, tNext, tIfS, tAsg, gName, tDrop, tVar, tC, tOp, tUn, tTest, tB, tNot, tAnd, tOr, tAndV, tOrV, tNotV, tIf, tCons, tNil, tCB, tCall, tChain, tAug, ipI, rI, rI0, rU, rIs, rGcd, rEq, rNe, scal,
  List.getElem?_cons_zero, List.getElem?_cons_succ, List.set_cons_zero, List.set_cons_succ, Option.some.injEq, List.cons.injEq, V.int.injEq, V.bl.injEq, V.ref.injEq, V.str.injEq, and_true, true_and, exists_eq_left, exists_eq_left', exists_and_left, exists_and_right, List.append_nil, List.nil_append, List.cons_append, exists_eq_right, exists_eq_right', and_assoc, exists_const, V.ty.injEq, ↓reduceIte, Bool.false_eq_true, Bool.not_true, Bool.not_false, decide_eq_true_eq])

section
variable {P : Program} {w : World} {K : PySem.W.Frag} {mg : Str → Option Value} {base : Heap}

def sp_law_fit (K : PySem.W.Frag) : Sp := fun vs H Q _ => ∃ (b x n : Nat) (a : Addr) (s : List (Option Nat)), vs = [.int b, .int x, .int n, .ref a] ∧ SqT K H a (ov s) ∧ (b ≤ 1000 ∧ 1 ≤ n ∧ n ≤ 5000 ∧ x < n) ∧ s.length ≤ 1000 ∧ ∀ H', Gr [] H H' → Q (.bl (fitR b n x s)) H'
def sp_law_all (K : PySem.W.Frag) : Sp := fun vs H Q _ => ∃ (b most : Nat) (a : Addr) (s : List (Option Nat)), vs = [.int b, .ref a, .int most] ∧ SqT K H a (ov s) ∧ b ≤ 1000 ∧ s.length ≤ 1000 ∧ (1 ≤ most ∧ most ≤ 200) ∧
  ∀ (l : Addr) (ps : List Addr) H', Gr [] H H' → H' l = some (.lst (ps.map V.ref)) → Prs H' ps (fitL b s most) → Q (.ref l) H'
def sp_law_sure (K : PySem.W.Frag) : Sp := fun vs H Q _ => ∃ (b c : Nat) (l : Addr) (ps : List Addr) (rs : List (Nat × Nat)), vs = [.int b, .ref l, .int c] ∧ H l = some (.lst (ps.map V.ref)) ∧ Prs H ps rs ∧ rs ≠ [] ∧ rs.length ≤ 5000 ∧ b ≤ 1000 ∧ c ≤ 1000 ∧ (∀ r ∈ rs, r.1 < r.2 ∧ r.2 ≤ 5000) ∧
  ∀ v H', Gr [] H H' → Dp K H' v (.tuple (od (sureL b c rs))) → Q v H'
inductive Lss (H : Hp) : List Addr → List (List Nat) → Prop
  | nil : Lss H [] []
  | cons {p : Addr} {ps : List Addr} {r : List Nat} {rs : List (List Nat)} : H p = some (.lst (vn r)) → Lss H ps rs → Lss H (p :: ps) (r :: rs)
theorem Lss.imp {H H' : Hp} {ps : List Addr} {rs : List (List Nat)} (h : Lss H ps rs) (k : ∀ (p : Addr) (r : List Nat), p ∈ ps → H p = some (.lst (vn r)) → H' p = some (.lst (vn r))) : Lss H' ps rs := by
  induction h with
  | nil => exact .nil
  | cons a _ ih => exact .cons (k _ _ (List.mem_cons_self ..) a) (ih fun p r h => k p r (List.mem_cons_of_mem _ h))
theorem Lss.gr {H H' : Hp} {ps : List Addr} {rs : List (List Nat)} (h : Lss H ps rs) (g : Gr [] H H') : Lss H' ps rs := h.imp fun _ _ _ e => g _ _ (by simp) e
theorem Lss.len {H : Hp} {ps : List Addr} {rs : List (List Nat)} (h : Lss H ps rs) : ps.length = rs.length := by
  induction h with
  | nil => rfl
  | cons a _ ih => exact congrArg (· + 1) ih
theorem Lss.snoc {H : Hp} {ps : List Addr} {rs : List (List Nat)} {p : Addr} {r : List Nat} (h : Lss H ps rs) (e : H p = some (.lst (vn r))) : Lss H (ps ++ [p]) (rs ++ [r]) := by
  induction h with
  | nil => exact .cons e .nil
  | cons a _ ih => exact .cons a ih
theorem Lss.at_ {H : Hp} {ps : List Addr} {rs : List (List Nat)} (h : Lss H ps rs) {i : Nat} {v : V} (e : (ps.map V.ref)[i]? = some v) : ∃ (p : Addr) (hi : i < rs.length), v = .ref p ∧ H p = some (.lst (vn rs[i])) := by
  induction h generalizing i with
  | nil => simp at e
  | @cons p ps r rs a _ ih =>
    cases i with
    | zero =>
      have : V.ref p = v := by simpa using e
      exact ⟨p, by simp, this.symm, a⟩
    | succ i =>
      obtain ⟨p2, hi, h1, h2⟩ := ih (i := i) (by simpa using e)
      exact ⟨p2, by simpa using hi, h1, h2⟩
/-- a digit of a fraction -/
def dgr (b : Nat) (r : Nat × Nat) (k : Nat) : Nat := rem b r.2 r.1 k * b / r.2
def colL (b : Nat) (rs : List (Nat × Nat)) (k : Nat) : List Nat := rs.map fun r => dgr b r k
def sureK (b : Nat) (rs : List (Nat × Nat)) (k : Nat) : Option Nat := match colL b rs k with
  | [] => none
  | d :: ds => if (d :: ds).all fun e => decide (e = d) then some d else none
theorem getD_self {k : List (Option Nat)} {c : Nat} (h : k.length = c) : k = (List.range c).map fun j => k.getD j none := by
  apply List.ext_getElem
  · simp [h]
  · intro i h1 h2
    simp [List.getD, h1]
theorem getD_zip {r : List Nat} {k : List (Option Nat)} {j : Nat} (hr : j < r.length) (hk : j < k.length) : (zipF r k).getD j none = sureF r[j] (k.getD j none) := by
  have hz : j < (zipF r k).length := by
    unfold zipF
    rw [List.length_zipWith]
    omega
  have e : (zipF r k)[j] = sureF r[j] k[j] := List.getElem_zipWith ..
  simp [List.getD, hz, hk, e]
theorem dl_get {b n x c i : Nat} (h : i < (dl b n x c).length) : (dl b n x c)[i] = rem b n x i * b / n := by simp [dl]
theorem sureR_map (b c : Nat) : ∀ (rs : List (Nat × Nat)) (k : List (Option Nat)), k.length = c → sureR b c k rs = (List.range c).map fun j => if (rs.all fun r => decide (k.getD j none = some (dgr b r j))) = true then k.getD j none else none
  | [], k, h => by
    show k = _
    simp only [List.all_nil, if_true]
    exact getD_self h
  | r :: rs, k, h => by
    have ll : (dl b r.2 r.1 c).length = k.length := by rw [dl_len, h]
    rw [sureR_cons, sureR_map b c rs _ (by rw [zipF_len ll, dl_len])]
    refine List.map_congr_left fun j hj => ?_
    have hj := List.mem_range.mp hj
    have hz := getD_zip (r := dl b r.2 r.1 c) (k := k) (j := j) (by rw [dl_len]; exact hj) (by omega)
    rw [dl_get] at hz
    have hz : (zipF (dl b r.2 r.1 c) k).getD j none = sureF (dgr b r j) (k.getD j none) := hz
    rw [hz, List.all_cons]
    generalize k.getD j none = o
    unfold sureF
    by_cases z : o = some (dgr b r j)
    · rw [if_pos z, decide_eq_true z, Bool.true_and, z]
    · rw [if_neg z, decide_eq_false z, Bool.false_and]
      simp
theorem sureL_map (b c : Nat) {rs : List (Nat × Nat)} (hne : rs ≠ []) : sureL b c rs = (List.range c).map fun k => sureK b rs k := by
  cases rs with
  | nil => exact absurd rfl hne
  | cons r rs =>
    show sureR b c ((dl b r.2 r.1 c).map some) (r :: rs) = _
    rw [sureR_map b c _ _ (by rw [List.length_map, dl_len])]
    refine List.map_congr_left fun j hj => ?_
    have hj := List.mem_range.mp hj
    have e : ((dl b r.2 r.1 c).map some).getD j none = some (dgr b r j) := by
      have h1 : j < (dl b r.2 r.1 c).length := by rw [dl_len]; exact hj
      have e1 := dl_get h1
      simp [List.getD, h1, e1, dgr]
    rw [e]
    unfold sureK
    show _ = if (((r :: rs).map fun r => dgr b r j).all fun e => decide (e = dgr b r j)) = true then some (dgr b r j) else none
    have e2 : ((r :: rs).all fun r' => decide (some (dgr b r j) = some (dgr b r' j))) = (((r :: rs).map fun r => dgr b r j).all fun e => decide (e = dgr b r j)) := by
      rw [List.all_map]
      congr 1
      funext r'
      rw [Bool.eq_iff_iff, decide_eq_true_iff]
      show _ ↔ decide (dgr b r' j = dgr b r j) = true
      rw [decide_eq_true_iff]
      constructor
      · intro z
        exact (Option.some.inj z).symm
      · intro z
        rw [z]
    rw [e2]
theorem eqv_ints (i j : Int) : PyData.eqv (.int i) (.int j) = decide (i = j) := by
  rw [Bool.eq_iff_iff, eqv_iff rfl rfl, decide_eq_true_iff]
  exact ⟨fun z => PyData.int.inj z, fun z => by rw [z]⟩
theorem rep_ints (m : Nat) : List.replicate m (V.int 1) = (List.replicate m (1 : Int)).map V.int := by rw [List.map_replicate]
theorem rep_empty (m : Nat) : (List.replicate m (1 : Int)).isEmpty = decide (m = 0) := by cases m <;> rfl
theorem ok_law_fit (T : Txt K mg) : FnOk P w K mg base CX0 2 T.d_law_fit.f T.d_law_fit.fd ["b", "above", "under", "some"] (sp_law_fit K) := by
  refine T.d_law_fit.F.ok sc_law_fit (fun vs H Q E h => ?_) (fun cdv A outer s H vs Q E hr h => ?_)
  · obtain ⟨b, x, n, a, s, rfl, _⟩ := h; rfl
  · have hu := hu_of hr
    refine ⟨_, (pss_cons (ps_set (i := 4) sc_law_fit.nd rfl (by first | exact .inl rfl | exact .inr rfl) (pe_call (ok_law_digits T) (hr.mono (by decide)) (by rfl) T.d_law_digits.m T.d_law_digits.F.kp T.d_law_digits.b .nil pass0 (pa_cons (pv 0) (pa_cons (pv 1) (pa_cons (pv 2) (pa_cons (pe_callB (r := rLn K) call_ln (by rfl) T.b_len PySem.boot_len (pa_cons (pv 3) pa_nil)) pa_nil))))))
      (pss_one (ps_ret (pe_cmpR (r := rEqD K) (op_eqD hr.units) (pe_lc (own := [("mine", 5), ("its", 6)]) (g := gTup K 2 (gCons (gName 5) (gCons (gName 6) gNil))) (tt := _) rfl sc_law_fit.nd (pi_zipM (by rfl) T.b_zip (pa_cons (pv 4) (pa_cons (pv 3) pa_nil))) (blkOk_by (own := [("mine", 5), ("its", 6)]) (N := ["b", "above", "under", "some", "own", "mine", "its"]) (sc := defScope s_law_fit) (by decide +kernel)) (fun _ _ _ _ _ => (pg_tup (by rfl) (pgs_cons (pg_name (i := 5) sc_law_fit.nd rfl (by first | exact .inl rfl | exact .inr rfl)) (pgs_cons (pg_name (i := 6) sc_law_fit.nd rfl (by first | exact .inl rfl | exact .inr rfl)) pgs_nil)))) (fun _ _ _ _ _ => (pts_one (PW.pt (pw_and (pt_cmpR op_notN (pv 6) pe_non (nomark _)) (pw_and1 (pt_cmpR op_ne (pv 5) (pv 6) (nomark _))))))) (fun _ _ _ _ _ => pe_int)) (pe_lst pa_nil) (nomark _))))), ?_⟩
    obtain ⟨b, x, n, a, s, rfl, hS, ⟨hb, hn1, hn, hx⟩, hs, q⟩ := h
    refine ⟨_, rfl, _, rfl, _, rfl, _, rfl, a, _, rfl, .inr hS, ?_⟩
    rw [ov_len]
    refine ⟨b, x, n, s.length, rfl, ⟨hb, hn1, hn, hx, by omega⟩, fun l H1 _ g1 hl => ?_⟩
    refine ⟨_, rfl, _, rfl, false, true, l, a, _, _, rfl, sqK_lst (sq_lst hl), sqK_tup ((Kp.of g1).sqT hS), ?_⟩
    intro D nD
    refine lc_zipM (K := K) (t := false) (u := true) (a := l) (b := a) (xs := vn (dl b n x s.length)) (ys := ov s) (by rw [vn_len, ov_len, dl_len]) (fun i H' => Gr [] H1 H' ∧ ∃ m : Nat, m ≤ i ∧ H' D = some (.lst (List.replicate m (V.int 1))) ∧ (m = 0 → fitR b n x s = fitR b n (rem b n x i) (s.drop i)) ∧ (1 ≤ m → fitR b n x s = false)) ⟨Gr.new nD, 0, Nat.le_refl _, upd_same, fun _ => by rw [rem_zero hx, List.drop_zero], fun z => absurd z (by decide)⟩ (fun i H' z => ⟨sqK_lst (sq_lst (z.1 l _ (by simp) hl)), sqK_tup ((Kp.of (g1.trans z.1)).sqT hS)⟩) ?_ ?_
    · rintro i x1 y1 p5 H5 hx1 hy1 ⟨G5, m, hmi, hD5, hm0, hm1⟩ np5
      obtain ⟨hj, rfl⟩ := vn_get hx1
      obtain ⟨hj2, rfl⟩ := ov_get hy1
      have ed : (dl b n x s.length)[i] = rem b n x i * b / n := dl_get hj
      rw [ed]
      have dr := List.drop_eq_getElem_cons hj2
      rw [dr] at hm0
      generalize s[i] = o at hm0 ⊢
      have gp := Gr.new (W := []) (o := .tup [.int (rem b n x i * b / n : Nat), oV o]) np5
      have hD6 := gp D _ (by simp) hD5
      have ep : (upd H5 p5 (.tup [.int (rem b n x i * b / n : Nat), oV o])) p5 = some (.tup [.int (rem b n x i * b / n : Nat), oV o]) := upd_same
      generalize upd H5 p5 (.tup [.int (rem b n x i * b / n : Nat), oV o]) = H6 at gp hD6 ep ⊢
      have no : (m = 0 → fitR b n x s = fitR b n (rem b n x (i + 1)) (s.drop (i + 1))) → Gr [] H1 H6 ∧ ∃ m : Nat, m ≤ i + 1 ∧ H6 D = some (.lst (List.replicate m (V.int 1))) ∧ (m = 0 → fitR b n x s = fitR b n (rem b n x (i + 1)) (s.drop (i + 1))) ∧ (1 ≤ m → fitR b n x s = false) := fun z => ⟨G5.trans gp, m, by omega, hD6, z, hm1⟩
      refine ⟨p5, _, rfl, sq_tup ep, rfl, _, _, rfl, _, _, rfl, rfl, rfl, ?_⟩
      refine ⟨_, rfl, rfl, _, rfl, ?_⟩
      cases o with
      | none =>
        refine iteFb (by rfl) (iteF ?_)
        refine no fun z => ?_
        rw [hm0 z, ← rem_succ, Nat.mul_comm]
        rfl
      | some k =>
        refine iteTb (by show (!decide (V.int ((k : Nat) : Int) = V.non)) = true; rw [decide_eq_false (fun z => V.noConfusion z)]; rfl) ?_
        refine ⟨_, rfl, _, rfl, rfl, _, rfl, ?_⟩
        have hm0 : m = 0 → fitR b n x s = (decide (b * rem b n x i / n = k) && fitR b n (b * rem b n x i % n) (s.drop (i + 1))) := hm0
        rw [Nat.mul_comm b, rem_succ] at hm0
        by_cases hk : rem b n x i * b / n = k
        · refine iteFb (by show (!decide (V.int ((rem b n x i * b / n : Nat) : Int) = V.int ((k : Nat) : Int))) = false; rw [hk, decide_eq_true rfl]; rfl) ?_
          refine no fun z => ?_
          rw [hm0 z, decide_eq_true hk, Bool.true_and]
        · refine iteTb (by show (!decide (V.int ((rem b n x i * b / n : Nat) : Int) = V.int ((k : Nat) : Int))) = true; rw [decide_eq_false (fun z => hk (by have := V.int.inj z; omega))]; rfl) ?_
          rw [decide_eq_false hk, Bool.false_and] at hm0
          refine ⟨_, hD6, small5 (by rw [List.length_replicate]; omega), fun c u _ e => ?_, m + 1, by omega, ?_, fun z => absurd z (by omega), fun _ => ?_⟩
          · rw [upd_ne (ne_of_none e nD)]
            exact gp c u (by simp) (G5 c u (by simp) e)
          · rw [upd_same, List.replicate_succ']
          · rcases Nat.eq_zero_or_pos m with z | z
            · exact hm0 z
            · exact hm1 z
    rintro H2 ⟨g2, m, hml, hD, hm0, hm1⟩
    rw [vn_len, dl_len] at hm0
    rw [List.drop_length] at hm0
    refine ⟨Nat.zero_le _, fun p np => ?_⟩
    have gp := Gr.new (W := []) (o := .lst []) np
    refine ⟨.list ((List.replicate m (1 : Int)).map PyData.int), .list [], dp_lst (gp D _ (by simp) (by rw [hD, rep_ints])) (dpAll_ints _), dp_lst upd_same .nil, shaped_ints _, rfl, ?_⟩
    rw [eqv_nil, rep_empty]
    have e : fitR b n x s = decide (m = 0) := by
      by_cases z : m = 0
      · rw [decide_eq_true z]
        exact hm0 z
      · rw [decide_eq_false z]
        exact hm1 (by omega)
    rw [← e]
    exact q _ ((g1.trans g2).trans gp)
theorem ok_law_all (T : Txt K mg) : FnOk P w K mg base CX0 3 T.d_law_all.f T.d_law_all.fd ["b", "some", "most_so"] (sp_law_all K) := by
  refine T.d_law_all.F.ok sc_law_all (fun vs H Q E h => ?_) (fun cdv A outer s H vs Q E hr h => ?_)
  · obtain ⟨b, most, a, s, rfl, _⟩ := h; rfl
  · have hu := hu_of hr
    refine ⟨_, (pss_cons (ps_set (i := 3) sc_law_all.nd rfl (by first | exact .inl rfl | exact .inr rfl) (pe_lst pa_nil))
      (pss_cons (ps_for PassesOwn.never rfl (pi_range2 (by rfl) T.b_range (pa_cons pe_int (pa_cons (pe_op op_add (pv 2) pe_int) pa_nil))) (pg_name (i := 4) sc_law_all.nd rfl (by first | exact .inl rfl | exact .inr rfl)) (pss_one (ps_set (i := 3) sc_law_all.nd rfl (by first | exact .inl rfl | exact .inr rfl) (pe_op op_cat (pv 3) (pe_lc (own := [("above", 5)]) (g := gName 5) (tt := _) rfl sc_law_all.nd (pi_list (pe_call (ok_law_units T) (hr.mono (by decide)) (by rfl) T.d_law_units.m T.d_law_units.F.kp T.d_law_units.b .nil pass0 (pa_cons (pv 4) pa_nil))) (blkOk_by (own := [("above", 5)]) (N := ["b", "some", "most_so", "found", "under", "above"]) (sc := defScope s_law_all) (by decide +kernel)) (fun _ _ _ _ _ => (pg_name (i := 5) sc_law_all.nd rfl (by first | exact .inl rfl | exact .inr rfl))) (fun _ _ _ _ _ => (pts_one (pt_val (pe_call (ok_law_fit T) (hr.mono (by decide)) (by rfl) T.d_law_fit.m T.d_law_fit.F.kp T.d_law_fit.b .nil pass0 (pa_cons (pv 0) (pa_cons (pv 5) (pa_cons (pv 4) (pa_cons (pv 1) pa_nil)))))))) (fun _ _ _ _ _ => (pe_tup (pa_cons (pv 5) (pa_cons (pv 4) pa_nil)))))))))
      (pss_one (ps_ret (pv 3))))), ?_⟩
    obtain ⟨b, most, a, s, rfl, hS, hb, hs, hm, q⟩ := h
    refine ⟨Nat.zero_le _, fun l nl => ?_⟩
    have gl := Gr.new (W := []) (o := .lst []) nl
    have hl : (upd H l (.lst [])) l = some (.lst (([] : List Addr).map V.ref)) := upd_same
    generalize upd H l (.lst []) = H2 at gl hl ⊢
    refine ⟨_, rfl, _, _, rfl, rfl, 1, (most : Int) + 1, rfl, ⟨by decide, by decide, by omega, by omega⟩, ?_⟩
    refine for_range (lo := 1) (n := ((most : Int) + 1 - 1).toNat) (fun i σ H' => Gr [] H H' ∧ (∃ (l : Addr) (ps : List Addr), H' l = some (.lst (ps.map V.ref)) ∧ Prs H' ps (fitL b s i) ∧ ∃ v4 v5, σ = [some (.int b), some (.ref a), some (.int most), some (.ref l), v4, v5])) ⟨gl, l, [], hl, .nil, none, none, rfl⟩ ?_ ?_
    · rintro i σ H' hi ⟨G, l, ps, hL, hP, v4, v5, rfl⟩
      have hi' : i < most := by omega
      have e1 : (1 : Int) + (i : Int) = ((i + 1 : Nat) : Int) := by omega
      rw [e1]
      refine ⟨_, rfl, _, rfl, i + 1, rfl, by omega, fun L1 H3 g3 hL1 => ?_⟩
      refine ⟨L1, rfl, ⟨_, sq_lst hL1⟩, fun D nD => ?_⟩
      have hL3 := g3 l _ (by simp) hL
      have hP3 := hP.gr g3
      have him : i * i ≤ 200 * 200 := Nat.mul_le_mul (by omega) (by omega)
      have hfl := fitL_len b s i
      have hpl := hP3.len
      refine lc_list (K := K) (a := L1) (xs := vn (copL (i + 1))) (fun j H' => Gr [] H3 H' ∧ ∃ qs : List Addr, H' D = some (.lst (qs.map V.ref)) ∧ Prs H' qs ((((copL (i + 1)).take j).filter fun x => fitR b (i + 1) x s).map fun x => (x, i + 1))) ⟨Gr.new nD, [], upd_same, .nil⟩ (fun j H' _ z => sq_lst (z.1 L1 _ (by simp) hL1)) ?_ ?_
      · rintro j y H4 hy ⟨G4, qs, hD, hQ⟩
        obtain ⟨hj, rfl⟩ := vn_get hy
        have tk := List.take_succ_eq_append_getElem hj
        have hxm := List.getElem_mem hj
        generalize (copL (i + 1))[j] = x at tk hxm ⊢
        obtain ⟨hx1, hx2⟩ := List.mem_filter.mp (show x ∈ (List.range (i + 1)).filter fun x => decide (Nat.gcd x (i + 1) = 1) from hxm)
        have hxi := List.mem_range.mp hx1
        have hjl : j < i + 1 := by
          have : (copL (i + 1)).length ≤ i + 1 := by
            unfold copL
            exact Nat.le_trans (List.length_filter_le _ _) (by rw [List.length_range]; exact Nat.le_refl _)
          omega
        refine ⟨rfl, ?_⟩
        refine ⟨_, rfl, _, rfl, _, rfl, _, rfl, b, x, i + 1, a, s, rfl, (Kp.of ((G.trans g3).trans G4)).sqT hS, ⟨hb, by omega, by omega, by omega⟩, hs, fun H5 g5 => ?_⟩
        have hD5 := g5 D _ (by simp) hD
        have hQ5 := hQ.gr g5
        have hql := hQ5.len
        rw [List.length_map] at hql
        have hql2 : qs.length ≤ j := by
          rw [hql]
          exact Nat.le_trans (List.length_filter_le _ _) (by rw [List.length_take]; omega)
        cases hf : fitR b (i + 1) x s with
        | true =>
          refine ⟨_, rfl, iteT ?_⟩
          refine ⟨_, rfl, _, rfl, by show 2 ≤ sizeLine; decide, fun t nt => ?_⟩
          have gt := Gr.new (W := []) (o := .tup [.int (x : Nat), .int (i + 1 : Nat)]) nt
          have ht : (upd H5 t (.tup [.int (x : Nat), .int (i + 1 : Nat)])) t = some (.tup [.int (x : Nat), .int (i + 1 : Nat)]) := upd_same
          have hD6 := gt D _ (by simp) hD5
          have hQ6 := hQ5.gr gt
          generalize upd H5 t (.tup [.int (x : Nat), .int (i + 1 : Nat)]) = H6 at gt ht hD6 hQ6 ⊢
          have nlp : ∀ {u : Addr} {ys : List V}, H6 u = some (.tup ys) → u ≠ D := fun e z => by
            rw [z, hD6] at e
            cases e
          refine ⟨_, hD6, small5 (by rw [List.length_map]; omega), fun u o _ eo => ?_, qs ++ [t], by rw [upd_same, List.map_append]; rfl, ?_⟩
          · rw [upd_ne (ne_of_none eo nD)]
            exact gt u o (by simp) (g5 u o (by simp) (G4 u o (by simp) eo))
          · rw [tk, filA_yes (p := fun x => fitR b (i + 1) x s) hf, List.map_append]
            refine (hQ6.imp fun e => ?_).snoc ?_
            · rw [upd_ne (nlp e)]
              exact e
            · rw [upd_ne (nlp ht)]
              exact ht
        | false =>
          refine ⟨_, rfl, iteF ⟨G4.trans g5, qs, hD5, ?_⟩⟩
          rw [tk, filA_no (p := fun x => fitR b (i + 1) x s) hf]
          exact hQ5
      rintro H4 ⟨g4, qs, hD, hQ⟩
      rw [vn_len, List.take_of_length_le (Nat.le_refl _)] at hQ
      have hL4 := g4 l _ (by simp) hL3
      have hP4 := hP3.gr g4
      have hql := hQ.len
      rw [List.length_map] at hql
      have hql2 : qs.length ≤ i + 1 := by
        rw [hql]
        refine Nat.le_trans (List.length_filter_le _ _) ?_
        unfold copL
        exact Nat.le_trans (List.length_filter_le _ _) (by rw [List.length_range]; exact Nat.le_refl _)
      refine ⟨l, D, _, _, rfl, rfl, hL4, hD, Nat.le_of_lt (small40 (by rw [List.length_map, List.length_map]; omega)), fun p np => ?_⟩
      have gp := Gr.new (W := []) (o := .lst (ps.map V.ref ++ qs.map V.ref)) np
      refine ⟨((G.trans g3).trans g4).trans gp, p, ps ++ qs, by rw [upd_same, List.map_append], ?_, _, _, rfl⟩
      rw [fitL_succ]
      exact (hP4.gr gp).app (hQ.gr gp)
    rintro σ H3 ⟨G, l, ps, hL, hP, v4, v5, rfl⟩
    rw [show ((most : Int) + 1 - 1).toNat = most by omega] at hP
    exact ⟨_, rfl, q l ps H3 G hL hP⟩
theorem ok_law_sure (T : Txt K mg) : FnOk P w K mg base CX0 2 T.d_law_sure.f T.d_law_sure.fd ["b", "every", "count"] (sp_law_sure K) := by
  refine T.d_law_sure.F.ok sc_law_sure (fun vs H Q E h => ?_) (fun cdv A outer s H vs Q E hr h => ?_)
  · obtain ⟨b, c, l, ps, rs, rfl, _⟩ := h; rfl
  · have hu := hu_of hr
    refine ⟨_, (pss_cons (ps_set (i := 3) sc_law_sure.nd rfl (by first | exact .inl rfl | exact .inr rfl) (pe_lc (own := [("above", 4), ("under", 5)]) (g := gTup K 2 (gCons (gName 4) (gCons (gName 5) gNil))) (tt := tYes) rfl sc_law_sure.nd (pi_list (pv 1)) (blkOk_by (own := [("above", 4), ("under", 5)]) (N := ["b", "every", "count", "rows", "above", "under", "columns", "row", "k", "column"]) (sc := defScope s_law_sure) (by decide +kernel)) (fun _ _ _ _ _ => (pg_tup (by rfl) (pgs_cons (pg_name (i := 4) sc_law_sure.nd rfl (by first | exact .inl rfl | exact .inr rfl)) (pgs_cons (pg_name (i := 5) sc_law_sure.nd rfl (by first | exact .inl rfl | exact .inr rfl)) pgs_nil)))) (fun _ _ _ _ _ => pts_nil) (fun _ _ _ _ _ => (pe_call (ok_law_digits T) (hr.mono (by decide)) (by rfl) T.d_law_digits.m T.d_law_digits.F.kp T.d_law_digits.b .nil pass0 (pa_cons (pv 0) (pa_cons (pv 4) (pa_cons (pv 5) (pa_cons (pv 2) pa_nil))))))))
      (pss_cons (ps_setLc (i := 6) (own := [("k", 8)]) (g := gName 8) (tt := tYes) rfl sc_law_sure.nd rfl rfl (sw_true rfl rfl rfl (by decide +kernel)) (pi_range1 (by rfl) T.b_range (pa_cons (pv 2) pa_nil)) (blkOk_by (own := [("k", 8)]) (N := ["b", "every", "count", "rows", "above", "under", "columns", "row", "k", "column"]) (sc := defScope s_law_sure) (by decide +kernel)) (fun _ _ _ _ _ => (pg_name (i := 8) sc_law_sure.nd rfl (by first | exact .inl rfl | exact .inr rfl))) (fun _ _ _ _ _ => pts_nil) (fun _ _ _ _ _ => (pe_lc (wi := iList K (tVar 3)) (own := [("row", 7)]) (g := gName 7) (tt := tYes) rfl sc_law_sure.nd (pi_list (pv 3)) (blkOk_of (own := [("row", 7)]) (N0 := ["b", "every", "count", "rows", "above", "under", "columns", "row", "k", "column"]) (sc0 := (relS ({ kind := PySem.ScopeKind.function, names := [ (PySem.Str.ofString ".0", PySem.NameKind.local), (PySem.Str.ofString "k", PySem.NameKind.cell), (PySem.Str.ofString "rows", PySem.NameKind.free)], isGenerator := false, isCoroutine := false, more := [] : PySem.Scope }) (defScope s_law_sure))) rfl rfl (by decide +kernel)) (fun _ _ _ _ _ => (pg_name (i := 7) sc_law_sure.nd rfl (by first | exact .inl rfl | exact .inr rfl))) (fun _ _ _ _ _ => pts_nil) (fun _ _ _ _ _ => (pe_ix (r := rIxL K) ix_list (pv 7) (pv 8) (fun _ _ => rfl))))))
      (pss_one (ps_ret (pe_callTy (r := rTpO K) call_tpO (by rfl) T.b_tuple (by decide +kernel) (pa_cons (pe_lc (own := [("column", 9)]) (g := gName 9) (tt := tYes) rfl sc_law_sure.nd (pi_list (pv 6)) (blkOk_by (own := [("column", 9)]) (N := ["b", "every", "count", "rows", "above", "under", "columns", "row", "k", "column"]) (sc := defScope s_law_sure) (by decide +kernel)) (fun _ _ _ _ _ => (pg_name (i := 9) sc_law_sure.nd rfl (by first | exact .inl rfl | exact .inr rfl))) (fun _ _ _ _ _ => pts_nil) (fun _ _ _ _ _ => (pe_ifExp (pt_cmpR (r := rEqD K) (op_eqD hr.units) (pe_bmC (K' := K) (r := rCount K) PySem.F.plainAttrs_list PySem.F.slot_list_count PySem.F.type_list_count mt_count (pv 9) (pa_cons (pe_ix (r := rIxL K) ix_list (pv 9) pe_int (fun _ _ => rfl)) pa_nil) rfl) (pe_callB (r := rLn K) call_ln (by rfl) T.b_len PySem.boot_len (pa_cons (pv 9) pa_nil)) (nomark _)) (pe_ix (r := rIxL K) ix_list (pv 9) pe_int (fun _ _ => rfl)) pe_non))) pa_nil)))))), ?_⟩
    obtain ⟨b, c, l, ps, rs, rfl, hl, hP, hne, hrl, hb, hc, hrs, q⟩ := h
    refine ⟨_, rfl, l, rfl, ⟨_, sq_lst hl⟩, fun D nD => ?_⟩
    refine lc_list (K := K) (a := l) (xs := ps.map V.ref) (fun i H' => Gr [] H H' ∧ ∃ qs : List Addr, H' D = some (.lst (qs.map V.ref)) ∧ D ∉ qs ∧ Lss H' qs ((rs.take i).map fun r => dl b r.2 r.1 c)) ⟨Gr.new nD, [], upd_same, by simp, .nil⟩ (fun i H' _ z => sq_lst (z.1 l _ (by simp) hl)) ?_ ?_
    · rintro i y H3 hy ⟨G, qs, hD, hDq, hQ⟩
      obtain ⟨p, hi, rfl, hp⟩ := (hP.gr G).at_ hy
      have tk := List.take_succ_eq_append_getElem hi
      have hr := hrs _ (List.getElem_mem hi)
      generalize rs[i] = r at tk hp hr ⊢
      refine ⟨p, _, rfl, sq_tup hp, rfl, _, _, rfl, _, _, rfl, rfl, rfl, ?_⟩
      dsimp only [tYes]
      refine iteT ?_
      refine ⟨_, rfl, _, rfl, _, rfl, _, rfl, b, r.1, r.2, c, rfl, ⟨hb, by omega, hr.2, hr.1, by omega⟩, fun t H4 nt g4 ht => ?_⟩
      have hDt : t ≠ D := fun z => by
        rw [z, hD] at nt
        cases nt
      have hD4 := g4 D _ (by simp) hD
      have hql := hQ.len
      rw [List.length_map, List.length_take] at hql
      refine ⟨_, hD4, small5 (by rw [List.length_map]; omega), fun u o _ e => ?_, qs ++ [t], by rw [upd_same, List.map_append]; rfl, ?_, ?_⟩
      · rw [upd_ne (ne_of_none e nD)]
        exact g4 u o (by simp) (G u o (by simp) e)
      · rw [List.mem_append, List.mem_singleton]
        rintro (z | z)
        · exact hDq z
        · exact hDt z.symm
      · rw [tk, List.map_append]
        refine ((hQ.gr g4).imp fun u _ hu e => ?_).snoc ?_
        · rw [upd_ne (fun z => hDq (by rw [← z]; exact hu))]
          exact e
        · rw [upd_ne hDt]
          exact ht
    rintro H3 ⟨g3, qs, hD, hDq, hQ⟩
    rw [List.length_map, hP.len, List.take_of_length_le (Nat.le_refl _)] at hQ
    refine ⟨_, rfl, (c : Int), rfl, by omega, by omega, fun D2 nD2 => ?_⟩
    refine lc_range (lo := 0) (n := ((c : Int) - 0).toNat) (fun k H' => Gr [] H3 H' ∧ ∃ us : List Addr, H' D2 = some (.lst (us.map V.ref)) ∧ D2 ∉ us ∧ Lss H' us ((List.range k).map fun k => colL b rs k)) ⟨Gr.new nD2, [], upd_same, by simp, .nil⟩ ?_ ?_
    · rintro k H4 hk ⟨G, us, hD2, hDu, hU⟩
      have hk' : k < c := by omega
      have ek : (0 : Int) + (k : Int) = ((k : Nat) : Int) := by omega
      rw [ek]
      refine ⟨rfl, ?_⟩
      dsimp only [tYes]
      refine iteT ?_
      have hDG := G D _ (by simp) hD
      have hQG := hQ.gr G
      refine ⟨_, rfl, D, rfl, ⟨_, sq_lst hDG⟩, fun D3 nD3 => ?_⟩
      refine lc_list (K := K) (a := D) (xs := qs.map V.ref) (fun j H' => Gr [] H4 H' ∧ H' D3 = some (.lst (vn ((rs.take j).map fun r => dgr b r k)))) ⟨Gr.new nD3, upd_same⟩ (fun j H' _ z => sq_lst (z.1 D _ (by simp) hDG)) ?_ ?_
      · rintro j y H5 hy ⟨G5, hD3⟩
        obtain ⟨p, hj, rfl, hp⟩ := (hQG.gr G5).at_ hy
        rw [List.length_map] at hj
        have tk := List.take_succ_eq_append_getElem hj
        have ep : ((rs.map fun r => dl b r.2 r.1 c)[j]'(by rw [List.length_map]; exact hj)) = dl b (rs[j]).2 (rs[j]).1 c := by rw [List.getElem_map]
        rw [ep] at hp
        generalize rs[j] = r at tk hp ⊢
        have hkl : k < (dl b r.2 r.1 c).length := by rw [dl_len]; exact hk'
        have eat : (vn (dl b r.2 r.1 c))[k]? = some (.int (dgr b r k : Nat)) := by
          unfold vn
          rw [List.getElem?_map, List.getElem?_eq_getElem hkl, dl_get hkl]
          rfl
        refine ⟨rfl, ?_⟩
        dsimp only [tYes]
        refine iteT ?_
        refine ⟨_, rfl, _, rfl, p, _, (k : Int), _, rfl, rfl, sq_lst hp, atI_nat eat, ?_⟩
        refine ⟨_, hD3, small5 (by rw [vn_len, List.length_map, List.length_take]; omega), fun u o _ e => ?_, ?_⟩
        · rw [upd_ne (ne_of_none e nD3)]
          exact G5 u o (by simp) e
        · rw [upd_same, vn_snoc, tk, List.map_append]
          rfl
      rintro H5 ⟨g5, hD3⟩
      have hql := hQ.len
      rw [List.length_map] at hql
      rw [List.length_map, hql, List.take_of_length_le (Nat.le_refl _)] at hD3
      have hne3 : D3 ≠ D2 := fun z => by
        rw [z, hD2] at nD3
        cases nD3
      have hul := hU.len
      rw [List.length_map, List.length_range] at hul
      refine ⟨_, g5 D2 _ (by simp) hD2, small5 (by rw [List.length_map]; omega), fun u o _ e => ?_, us ++ [D3], by rw [upd_same, List.map_append]; rfl, ?_, ?_⟩
      · rw [upd_ne (ne_of_none e nD2)]
        exact g5 u o (by simp) (G u o (by simp) e)
      · rw [List.mem_append, List.mem_singleton]
        rintro (z | z)
        · exact hDu z
        · exact hne3 z.symm
      · rw [List.range_succ, List.map_append]
        refine ((hU.gr g5).imp fun u _ hu e => ?_).snoc ?_
        · rw [upd_ne (fun z => hDu (by rw [← z]; exact hu))]
          exact e
        · rw [upd_ne hne3]
          exact hD3
    rintro H4 ⟨g4, us, hD2, hDu, hU⟩
    rw [show ((c : Int) - 0).toNat = c by omega] at hU
    refine ⟨_, rfl, D2, rfl, ⟨_, sq_lst hD2⟩, fun D4 nD4 => ?_⟩
    refine lc_list (K := K) (a := D2) (xs := us.map V.ref) (fun j H' => Gr [] H4 H' ∧ H' D4 = some (.lst (ov ((List.range j).map fun k => sureK b rs k)))) ⟨Gr.new nD4, upd_same⟩ (fun j H' _ z => sq_lst (z.1 D2 _ (by simp) hD2)) ?_ ?_
    · rintro j y H5 hy ⟨G5, hD4⟩
      obtain ⟨p, hj, rfl, hp⟩ := (hU.gr G5).at_ hy
      rw [List.length_map, List.length_range] at hj
      have ep : (((List.range c).map fun k => colL b rs k)[j]'(by rw [List.length_map, List.length_range]; exact hj)) = colL b rs j := by rw [List.getElem_map, List.getElem_range]
      rw [ep] at hp
      have hfin : ∀ o, sureK b rs j = o → ∃ acc, H5 D4 = some (.lst acc) ∧ acc.length < sizeLine ∧ Gr [] H4 (upd H5 D4 (.lst (acc ++ [oV o]))) ∧ (upd H5 D4 (.lst (acc ++ [oV o]))) D4 = some (.lst (ov ((List.range (j + 1)).map fun k => sureK b rs k))) := fun o ho => by
        refine ⟨_, hD4, small5 (by rw [ov_len, List.length_map, List.length_range]; omega), fun u z _ e => ?_, ?_⟩
        · rw [upd_ne (ne_of_none e nD4)]
          exact G5 u z (by simp) e
        · rw [upd_same, ov_snoc, List.range_succ, List.map_append, ← ho]
          rfl
      have hcl : (colL b rs j).length ≤ 5000 := by
        unfold colL
        rw [List.length_map]
        exact hrl
      have hcn : colL b rs j ≠ [] := by
        unfold colL
        intro z
        exact hne (List.map_eq_nil_iff.mp z)
      have hsk : ∀ d ds, colL b rs j = d :: ds → sureK b rs j = if ((d :: ds).all fun e => decide (e = d)) = true then some d else none := fun d ds z => by
        unfold sureK
        rw [z]
      generalize colL b rs j = col at hp hcl hcn hsk
      cases col with
      | nil => exact absurd rfl hcn
      | cons d ds =>
        have hsk := hsk d ds rfl
        have a0 : atI (vn (d :: ds)) 0 = some (.int (d : Nat)) := atI_nat (j := 0) rfl
        refine ⟨rfl, ?_⟩
        dsimp only [tYes]
        refine iteT ?_
        refine ⟨_, rfl, .inl ⟨rfl, _, sq_lst hp⟩, _, rfl, p, _, 0, _, rfl, rfl, sq_lst hp, a0, p, _, _, rfl, rfl, sq_lst hp, rfl, flat_vn _, ?_⟩
        refine ⟨_, rfl, p, _, rfl, .inl (sq_lst hp), ?_⟩
        refine ⟨_, _, .int _, .int _, rfl, rfl, _, rfl, ?_⟩
        rw [eqv_ints]
        have ecnt : ((vn (d :: ds)).countP fun z => eqV z (.int (d : Nat))) = (d :: ds).countP fun e => decide (e = d) := by
          unfold vn
          rw [List.countP_map]
          refine List.countP_congr fun e _ => ?_
          show (((e : Nat) : Int) == ((d : Nat) : Int)) = true ↔ decide (e = d) = true
          rw [beq_iff_eq, decide_eq_true_iff]
          omega
        rw [ecnt, vn_len]
        by_cases hall : ((d :: ds).all fun e => decide (e = d)) = true
        · rw [if_pos hall] at hsk
          have hc2 : ((d :: ds).countP fun e => decide (e = d)) = (d :: ds).length := List.countP_eq_length.mpr (List.all_eq_true.mp hall)
          refine iteTb (decide_eq_true (by rw [hc2])) ⟨_, rfl, p, _, 0, _, rfl, rfl, sq_lst hp, a0, hfin _ hsk⟩
        · rw [if_neg hall] at hsk
          refine iteFb (decide_eq_false fun z => hall ?_) (hfin _ hsk)
          have z2 : (((d :: ds).countP fun e => decide (e = d) : Nat) : Int) = (((d :: ds).length : Nat) : Int) := z
          exact List.all_eq_true.mpr (List.countP_eq_length.mp (by omega))
    rintro H6 ⟨g6, hD4⟩
    have hul := hU.len
    rw [List.length_map, List.length_range] at hul
    rw [List.length_map, hul, ← sureL_map b c hne] at hD4
    refine ⟨D4, _, rfl, .inl ⟨sq_lst hD4, fun t nt => ?_⟩⟩
    exact q _ _ (((g3.trans g4).trans g6).trans (Gr.new nt)) (dp_tup upd_same (dp_ov _))

end
end Wn
/-! what comes of a lambda that is called in a try: its value itself, or an error's word and field -/
namespace Wn
open PySem PySem.Spec PyProof.Rows L2 LamX
def TTh (es : List (Addr × Str × (V → HO))) : (XK → Hp → VK → Prop) → Hp → VK → Prop := fun tl H Q =>
  ∀ (H2 : Hp) (Qn : VK) (E : XK), Gr [] H H2 → (∀ v H3, Q v H3 → Qn v H3) →
    (∀ (C d : Addr) (f : Str) (mk : V → HO) (v : V) (H3 : Hp), (C, f, mk) ∈ es → H3 d = some (.xd [(f, v)]) → (∀ t H4, Gr [] H3 H4 → H4 t = some (mk v) → Q (.ref t) H4) → E (.ref C) (some d) H3) → tl E H2 Qn
section
variable {K : PySem.W.Frag} {T : List (Addr × Str)} {σ : L2.St} {H : Hp} {es : List (Addr × Str × (V → HO))} {t : XK → TE} {d : PyData}
theorem et_hV (h : ∀ (E : XK) (H1 : Hp), ExtN H H1 → ∀ Q : VK, (∀ v H2, Gr [] H1 H2 → Dp K H2 v d → Q v H2) → t E σ H1 Q) : EvT K T (tLam T (TTh es) t) σ H d := fun H1 g0 t1 Q q =>
  ⟨t1, fun H2 g2 t2 H3 Qn E g3 kn _ => h E H3 ((g0.trans g2).trans (extOf g3)) Qn fun v H4 g4 a => kn v H4 (q v H4 (g2.trans (extOf (g3.trans g4))) (tabsGr t2 (g3.trans g4)) a)⟩
theorem et_hX {C : Addr} {f w : Str} {mk : V → HO} (hm : (C, f, mk) ∈ es) (hk : ∀ v, mk v = .tup [.str w, v])
    (h : ∀ (E : XK) (H1 : Hp), ExtN H H1 → ∀ (Q : VK), (∀ (dd : Addr) (v : V) H2, Gr [] H1 H2 → H2 dd = some (.xd [(f, v)]) → Dp K H2 v d → E (.ref C) (some dd) H2) → t E σ H1 Q) : EvT K T (tLam T (TTh es) t) σ H (.tuple [.str w, d]) := fun H1 g0 t1 Q q =>
  ⟨t1, fun H2 g2 t2 H3 Qn E g3 kn ke => h E H3 ((g0.trans g2).trans (extOf g3)) Qn fun dd v H4 g4 hd a => ke C dd f mk v H4 hm hd fun t' H5 g5 h5 =>
    q _ _ (g2.trans (extOf ((g3.trans g4).trans g5))) (tabsGr t2 ((g3.trans g4).trans g5)) (dp_tup (by rw [h5, hk]) (.cons (.str _) (.cons (Dp.kp (Kp.of g5) a) .nil)))⟩
theorem et_hXl {C : Addr} {f w : Str} {mk : V → HO} (hm : (C, f, mk) ∈ es) (hk : ∀ v, mk v = .lst [.str w, v])
    (h : ∀ (E : XK) (H1 : Hp), ExtN H H1 → ∀ (Q : VK), (∀ (dd : Addr) (v : V) H2, Gr [] H1 H2 → H2 dd = some (.xd [(f, v)]) → Dp K H2 v d → E (.ref C) (some dd) H2) → t E σ H1 Q) : EvT K T (tLam T (TTh es) t) σ H (.list [.str w, d]) := fun H1 g0 t1 Q q =>
  ⟨t1, fun H2 g2 t2 H3 Qn E g3 kn ke => h E H3 ((g0.trans g2).trans (extOf g3)) Qn fun dd v H4 g4 hd a => ke C dd f mk v H4 hm hd fun t' H5 g5 h5 =>
    q _ _ (g2.trans (extOf ((g3.trans g4).trans g5))) (tabsGr t2 ((g3.trans g4).trans g5)) (dp_lst (by rw [h5, hk]) (.cons (.str _) (.cons (Dp.kp (Kp.of g5) a) .nil)))⟩
/-- data beside no lambda -/
theorem et_ew {te : TE} (h : ∀ H, EvW K [] te σ H d) : EvT K T te σ H d := et_of fun H => (h H).evd
theorem et_ewV {te : TE} (h : ∀ H', ExtN H H' → EvW K [] te σ H' d) : EvT K T te σ H d := fun H1 g t1 Q q => h H1 g H1 (Gr.refl _ _) (fun a m => by simp at m) Q fun v H2 g2 e => q v H2 (extOf g2) (tabsGr t1 g2) (Dp.kp hid_out e)
theorem dpA_rep {H : Hp} {vs : List V} {ds : List PyData} (a : DpAll K H vs ds) : ∀ k : Nat, DpAll K H (List.replicate k vs).flatten (List.replicate k ds).flatten
  | 0 => .nil
  | k + 1 => by
    rw [List.replicate_succ, List.replicate_succ, List.flatten_cons, List.flatten_cons]
    exact dpAll_append a (dpA_rep a k)
theorem etl_rep {te ti : TE} {ds : List PyData} {k : Nat} (h : EvTL K T te σ H ds) (hi : EvT K T ti σ H (.int (k : Nat))) (hk : k ≤ 1000 := by exact Nat.le_of_ble_eq_true rfl) (hz : ds.length ≤ 1000 := by exact Nat.le_of_ble_eq_true rfl) : EvTL K T (tOp rRep te ti) σ H (List.replicate k ds).flatten := fun H1 g t1 Q q =>
  h H1 g t1 _ fun p xs H2 g2 t2 e2 a2 => hi H2 (g.trans g2) t2 _ fun v H3 g3 t3 e3 => by
    obtain rfl := dp_int e3
    have hl := dpAll_len a2
    have hm : xs.length * k ≤ 1000 * 1000 := Nat.mul_le_mul (by omega) hk
    refine ⟨p, (k : Int), xs, rfl, rfl, ExtN.lst g3 e2, by omega, by omega, ?_, fun r nr => ?_⟩
    · rw [Int.toNat_natCast]
      exact Nat.le_trans hm (by decide)
    · rw [Int.toNat_natCast]
      have gr := Gr.new (W := []) (o := .lst (List.replicate k xs).flatten) nr
      exact q r _ _ ((g2.trans g3).trans (extOf gr)) (tabsGr t3 gr) upd_same (dpA_rep (DpAll.kp (kpExt (g3.trans (extOf gr))) a2) k)
end
end Wn
namespace Wn
open PySem PySem.Spec PyProof.Rows L2
open LamX (Tabs ExtN tLam)
local macro_rules | `(tactic| walk_at "vc") => `(tactic| simp only [cxK, cxK2, start1, start2, start3, tRet, tRetN, tSeq, tNext, tIfS, tAsg, gName, tDrop, tVar, tC, tOp, tUn, tTest, tB, tNot, tAnd, tOr, tAndV, tOrV, tNotV, tIf, tCons, tNil, tCB, tCall, tChain, tAug, ipI, rI, rI0, rU, rIs, rGcd, rEq, rNe, scal,
  List.getElem?_cons_zero, List.getElem?_cons_succ, List.set_cons_zero, List.set_cons_succ, Option.some.injEq, List.cons.injEq, V.int.injEq, V.bl.injEq, V.ref.injEq, V.str.injEq, and_true, true_and, exists_eq_left, exists_eq_left', exists_and_left, exists_and_right, List.append_nil, List.nil_append, List.cons_append, exists_eq_right, exists_eq_right', and_assoc, exists_const, V.ty.injEq, ↓reduceIte, Bool.false_eq_true, Bool.not_true, Bool.not_false, decide_eq_true_eq])

section
variable {P : Program} {w : World} {K : PySem.W.Frag} {mg : Str → Option Value} {base : Heap}

/-- the errors that are told: class, field, what is told -/
def hes (T : Txt K mg) : List (Addr × Str × (V → HO)) := [(T.C_Nothing, "value", fun v => .lst [.str "nothing", v]), (T.C_TooGreat, "most", fun v => .lst [.str "great", v])]
def tl (T : Txt K mg) : List (Addr × Str) := [(T.p_law_right, ("_law_right" : Str) ++ ".<locals>." ++ "<lambda>"), (T.p_law_hand_right, ("_law_hand_right" : Str) ++ ".<locals>." ++ "<lambda>")]
theorem hm_law_right (T : Txt K mg) : (T.p_law_right, ("_law_right" : Str) ++ ".<locals>." ++ "<lambda>") ∈ tl T := by
  unfold tl
  simp
theorem hu_law_right (T : Txt K mg) : ∀ p ∈ tl T, p.1 = T.p_law_right → p.2 = ("_law_right" : Str) ++ ".<locals>." ++ "<lambda>" := by
  intro p hp e
  unfold tl at hp
  simp only [List.mem_cons, List.not_mem_nil, or_false] at hp
  rcases hp with rfl | rfl
  · rfl
  · exact absurd e (Ne.symm T.ne_law_right_law_hand_right)
theorem hm_law_hand_right (T : Txt K mg) : (T.p_law_hand_right, ("_law_hand_right" : Str) ++ ".<locals>." ++ "<lambda>") ∈ tl T := by
  unfold tl
  simp
theorem hu_law_hand_right (T : Txt K mg) : ∀ p ∈ tl T, p.1 = T.p_law_hand_right → p.2 = ("_law_hand_right" : Str) ++ ".<locals>." ++ "<lambda>" := by
  intro p hp e
  unfold tl at hp
  simp only [List.mem_cons, List.not_mem_nil, or_false] at hp
  rcases hp with rfl | rfl
  · exact absurd e T.ne_law_right_law_hand_right
  · rfl

structure Tbs (T : Txt K mg) (base : Heap) : Prop where
  tb_law_right : LamX.TabB base mg T.k_law_right T.p_law_right
  tb_law_hand_right : LamX.TabB base mg T.k_law_hand_right T.p_law_hand_right

abbrev TTout (T : Txt K mg) : (XK → Hp → VK → Prop) → Hp → VK → Prop := TTh (hes T)
theorem gives_out {X : Cx} (T : Txt K mg) (hK : X.K = K) (hm : X.mg = mg) {q : Str} : Gives X ["call", "error"] "_law_heard" (defScope s_law_heard) T.d_law_heard.f T.d_law_heard.fd.code (defBody s_law_heard) "call" q (TTout T) := by
  subst hK hm
  intro f c' s H Q tl hr act hc h
  have hu := hu_of hr
  refine ⟨_, (pss_one (ps_try_two (i := 1) (Wo := fun _ _ _ _ => False) rfl rfl sc_law_heard.nd rfl rfl takes0 (fun W pn xe tk _ => (pss_one (ps_ret (act W pn xe _ _ tk)))) (.cons ⟨rfl, by decide, .inl T.g_Nothing⟩ (fun a oe cls d pn hz hf => (pss_one (ps_ret (pe_lst (pa_cons pe_str (pa_cons (pe_byE T.T_Nothing.xf T.T_Nothing.no hz hf (pv 1)) pa_nil)))))) (.cons ⟨rfl, by decide, .inl T.g_TooGreat⟩ (fun a oe cls d pn hz hf => (pss_one (ps_ret (pe_lst (pa_cons pe_str (pa_cons (pe_byE T.T_TooGreat.xf T.T_TooGreat.no hz hf (pv 1)) pa_nil)))))) .nil)))), ?_⟩
  refine ⟨rfl, hc, fun cls d H3 => ∃ (dd : Addr) (v : V), d = some dd ∧ ((cls = .ref T.C_Nothing ∧ H3 dd = some (.xd [("value", v)]) ∧ ∀ t H4, Gr [] H3 H4 → H4 t = some (.lst [.str "nothing", v]) → Q (.ref t) H4) ∨ (cls = .ref T.C_TooGreat ∧ H3 dd = some (.xd [("most", v)]) ∧ ∀ t H4, Gr [] H3 H4 → H4 t = some (.lst [.str "great", v]) → Q (.ref t) H4)), ?_, ?_⟩
  · rintro cls d H3 ⟨dd, v, rfl, ⟨rfl, hx, k⟩ | ⟨rfl, hx, k⟩⟩
    · refine ⟨true, T.ex1_Nothing, fun _ a na => ?_, fun z => Bool.noConfusion z⟩
      exact ⟨_, rfl, rfl, rfl, dd, v, rfl, hx, by show 2 ≤ sizeLine; decide, fun t nt => k t _ (Gr.new nt) upd_same⟩
    · refine ⟨false, T.ex0_TooGreat_Nothing, fun z => Bool.noConfusion z, fun _ => ⟨true, T.ex1_TooGreat, fun _ a na => ?_, fun z => Bool.noConfusion z⟩⟩
      exact ⟨_, rfl, rfl, rfl, dd, v, rfl, hx, by show 2 ≤ sizeLine; decide, fun t nt => k t _ (Gr.new nt) upd_same⟩
  · refine h H _ _ (Gr.refl _ _) (fun v H3 z => z) (fun C d f mk v H3 he hx k => ?_)
    unfold hes at he
    simp only [List.mem_cons, List.not_mem_nil, or_false, Prod.mk.injEq] at he
    rcases he with ⟨rfl, rfl, rfl⟩ | ⟨rfl, rfl, rfl⟩
    · exact ⟨d, v, rfl, .inl ⟨rfl, hx, k⟩⟩
    · exact ⟨d, v, rfl, .inr ⟨rfl, hx, k⟩⟩

def MOkC (H : Hp) (d c : Addr) (n : Nat) : Prop := ∃ (xs : List Int) (l sd s : Int), H d = some (.dK (mkv c l sd s)) ∧ H c = some (.lst (xs.map V.int)) ∧ xs ≠ [] ∧ (0 ≤ sd ∧ sd < 2147483647) ∧ 0 ≤ s ∧ s ≤ (n : Int)
theorem MOkC.of {H : Hp} {d : Addr} {n : Nat} (h : MOk H d n) : ∃ c, MOkC H d c n := h
theorem MOkC.to {H : Hp} {d c : Addr} {n : Nat} (h : MOkC H d c n) : MOk H d n := ⟨c, h⟩
theorem MOkC.keep {H H' : Hp} {d c : Addr} {n : Nat} (h : MOkC H d c n) (hd : H' d = H d) (hc : H' c = H c) : MOkC H' d c n := by
  obtain ⟨xs, l, sd, s, h1, h2, h3⟩ := h
  exact ⟨xs, l, sd, s, hd.trans h1, hc.trans h2, h3⟩
theorem MOkC.gr {H H' : Hp} {d c : Addr} {n : Nat} (h : MOkC H d c n) (g : Gr [] H H') : MOkC H' d c n := by
  obtain ⟨xs, l, sd, s, h1, h2, h3⟩ := h
  exact ⟨xs, l, sd, s, g d _ (by simp) h1, g c _ (by simp) h2, h3⟩
theorem MOkC.mono {H : Hp} {d c : Addr} {n n' : Nat} (h : MOkC H d c n) (g : n ≤ n') : MOkC H d c n' := by
  obtain ⟨xs, l, sd, s, h1, h2, h3, h4, h5, h6⟩ := h
  exact ⟨xs, l, sd, s, h1, h2, h3, h4, h5, by omega⟩
theorem MOkC.ne {H : Hp} {d c a : Addr} {n : Nat} (h : MOkC H d c n) (e : H a = none) : a ≠ d ∧ a ≠ c := by
  obtain ⟨xs, l, sd, s, h1, h2, _⟩ := h
  exact ⟨fun z => absurd (h1.symm.trans (z ▸ e)) (by simp), fun z => absurd (h2.symm.trans (z ▸ e)) (by simp)⟩
def sp_law_drawC : Sp := fun vs H Q _ => ∃ (d c : Addr) (lim n : Nat), vs = [.ref d, .int lim] ∧ MOkC H d c n ∧ (1 ≤ lim ∧ Lim lim ∧ n ≤ 1000000000) ∧
  ∀ (r : Nat) H', r < lim → Gr [d] H H' → MOkC H' d c (n + 1) → Q (.int r) H'
theorem okC_law_draw (T : Txt K mg) : FnOk P w K mg base CX0 1 T.d_law_draw.f T.d_law_draw.fd ["m", "limit"] sp_law_drawC := by
  refine T.d_law_draw.F.ok sc_law_draw (fun vs H Q E h => ?_) (fun cdv A outer s H vs Q E hr h => ?_)
  · obtain ⟨d, c, lim, n, rfl, _⟩ := h; rfl
  · have hu := hu_of hr
    refine ⟨_, (pss_cons (ps_if (pt_cmpR op_gt (pe_dget hu (pv 0) pe_str (fun _ _ => rfl)) pe_int (nomark _)) (pss_cons (ps_set (i := 2) sc_law_draw.nd rfl (by first | exact .inl rfl | exact .inr rfl) (pe_op op_mod (pe_callTy call_int1 (by rfl) T.b_int (by decide +kernel) (pa_cons (pe_dget hu (pv 0) pe_str (fun _ _ => rfl)) pa_nil)) (pv 1)))
      (pss_cons (ps_dput hu (pv 0) pe_str (pe_op op_fdivW (pe_dget hu (pv 0) pe_str (fun _ _ => rfl)) (pv 1)) rfl)
      (pss_one (ps_ret (pv 2))))) pss_nil)
      (pss_cons (ps_set (i := 3) sc_law_draw.nd rfl (by first | exact .inl rfl | exact .inr rfl) (pe_dget hu (pv 0) pe_str (fun _ _ => rfl)))
      (pss_cons (ps_dput hu (pv 0) pe_str (pe_op op_add (pv 3) pe_int) rfl)
      (pss_cons (ps_par (i := 4) (j := 5) (by rfl) sc_law_draw.nd rfl rfl (by decide) rfl rfl (pa_cons (pe_dget hu (pv 0) pe_str (fun _ _ => rfl)) (pa_cons (pe_op op_add (pe_dget hu (pv 0) pe_str (fun _ _ => rfl)) (pe_op op_mul (pe_op op_mul pe_int (pv 3)) (pv 3))) pa_nil)) (by rfl))
      (pss_cons (ps_set (i := 6) sc_law_draw.nd rfl (by first | exact .inl rfl | exact .inr rfl) (pe_ix (r := rIxL K) ix_list (pv 4) (pe_op op_mod (pe_callTy call_int1 (by rfl) T.b_int (by decide +kernel) (pa_cons (pv 3) pa_nil)) (pe_callB (r := rLn K) call_ln (by rfl) T.b_len PySem.boot_len (pa_cons (pv 4) pa_nil))) (fun _ _ => rfl)))
      (pss_cons (ps_set (i := 7) sc_law_draw.nd rfl (by first | exact .inl rfl | exact .inr rfl) (pe_op op_mod (pe_callTy call_int1 (by rfl) T.b_int (by decide +kernel) (pa_cons (pe_op op_add (pe_op op_mul (pv 6) (pe_op op_add (pe_op op_mul pe_int (pv 3)) pe_int)) (pv 5)) pa_nil)) pe_int))
      (pss_cons (ps_set (i := 7) sc_law_draw.nd rfl (by first | exact .inl rfl | exact .inr rfl) (pe_op op_mod (pe_callTy call_int1 (by rfl) T.b_int (by decide +kernel) (pa_cons (pe_op op_add (pe_op op_add (pe_op op_mul (pv 7) (pv 7)) (pe_op op_mul pe_int (pv 3))) (pe_dget hu (pv 0) pe_str (fun _ _ => rfl))) pa_nil)) pe_int))
      (pss_one (ps_ret (pe_op op_mod (pe_op op_fdiv (pe_op op_mod (pe_callTy call_int1 (by rfl) T.b_int (by decide +kernel) (pa_cons (pe_op op_add (pe_op op_mul (pv 7) pe_int) (pv 3)) pa_nil)) pe_int) pe_int) (pv 1))))))))))), ?_⟩
    obtain ⟨d, c, lim, n, rfl, ⟨xs, l, sd, z, hd, hc, hx, ⟨hs0, hs1⟩, hz0, hzn⟩, ⟨h1, h2, h3⟩, q⟩ := h
    have hdc : d ≠ c := ne_of hd hc (by intro q; cases q)
    refine ⟨_, rfl, d, _, rfl, dg_l hd, l, 0, rfl, rfl, _, rfl, ?_⟩
    have hl0 : (0 : Int) < (lim : Int) := by omega
    by_cases hl : (0 : Int) < l
    · rw [decide_eq_true hl]
      refine iteT ⟨_, rfl, d, _, rfl, dg_l hd, .inl ⟨l, rfl, _, rfl, l, lim, rfl, rfl, hl0, ?_⟩⟩
      obtain ⟨r, er, hr1⟩ := imod_nat l lim h1
      dsimp only
      rw [er]
      refine ⟨_, rfl, d, _, rfl, dg_l hd, _, rfl, l, lim, rfl, rfl, ⟨hl0, h2⟩, _, rfl, d, _, rfl, dp_l hd, _, rfl, ?_⟩
      refine q r _ hr1 (Gr.wr (by simp)) ⟨xs, l / lim, sd, z, upd_same, ?_, hx, ⟨hs0, hs1⟩, hz0, by omega⟩
      rw [upd_ne hdc.symm]
      exact hc
    · rw [decide_eq_false hl]
      refine iteF ?_
      refine ⟨_, rfl, d, _, rfl, dg_s hd, ?_⟩
      refine ⟨_, rfl, _, _, rfl, rfl, _, rfl, d, _, rfl, dp_s hd, ?_⟩
      have hd' : (upd H d (.dK (mkv c l sd (z + 1)))) d = some (.dK (mkv c l sd (z + 1))) := upd_same
      have hc' : (upd H d (.dK (mkv c l sd (z + 1)))) c = some (.lst (xs.map V.int)) := by
        rw [upd_ne hdc.symm]
        exact hc
      have hxl : 1 ≤ xs.length := by
        cases xs with
        | nil => exact absurd rfl hx
        | cons x r => simp
      refine ⟨_, rfl, d, _, rfl, dg_c hd', _, rfl, d, _, rfl, dg_d hd', _, rfl, _, _, rfl, rfl, .inl ⟨by decide, by decide⟩, _, rfl, _, _, rfl, rfl, .inr ⟨by omega, by omega⟩, _, _, rfl, rfl, _, _, rfl, ?_⟩
      have hxi : ∃ i : Int, i = z := ⟨z, rfl⟩
      refine ⟨_, rfl, _, rfl, .inl ⟨z, rfl, _, rfl, c, _, rfl, .inl (sq_lst hc'), _, _, rfl, rfl, ?_, ?_⟩⟩
      · rw [List.length_map]
        omega
      rw [List.length_map]
      obtain ⟨j, ej, hj⟩ := imod_nat z xs.length hxl
      dsimp only
      refine ⟨c, _, _, .int xs[j], rfl, rfl, sq_lst hc', ?_, ?_⟩
      · rw [ej]
        refine atI_nat ?_
        rw [List.getElem?_map, List.getElem?_eq_getElem hj]
        rfl
      refine ⟨_, rfl, _, rfl, _, _, rfl, rfl, .inl ⟨by decide, by decide⟩, _, _, rfl, rfl, _, _, rfl, rfl, .inr ⟨by omega, by omega⟩, _, rfl, _, _, rfl, rfl, .inl ⟨_, rfl, _, _, rfl, rfl, (by show (0 : Int) < 2147483647; decide), ?_⟩⟩
      obtain ⟨u, eu, hu1⟩ := imod_nat (xs[j] * (2 * z + 3) + (sd + 40503 * z * z)) 2147483647 (by decide)
      have eu' : (xs[j] * (2 * z + 3) + (sd + 40503 * z * z)) % 2147483647 = (u : Int) := eu
      dsimp only
      rw [eu']
      refine ⟨_, rfl, _, rfl, _, _, rfl, rfl, .inl ⟨by omega, by omega⟩, _, rfl, _, _, rfl, rfl, .inl ⟨by decide, by decide⟩, _, _, rfl, rfl, _, rfl, d, _, rfl, dg_d hd', _, _, rfl, rfl, .inl ⟨_, rfl, _, _, rfl, rfl, (by show (0 : Int) < 2147483629; decide), ?_⟩⟩
      refine ⟨_, rfl, _, _, rfl, rfl, .inr ⟨by decide, by decide⟩, _, rfl, _, _, rfl, rfl, .inl ⟨_, rfl, _, _, rfl, rfl, (by show (0 : Int) < 2147483647; decide), _, _, rfl, rfl, ⟨by decide, by decide⟩, _, rfl, _, _, rfl, rfl, hl0, ?_⟩⟩
      dsimp only
      obtain ⟨r, er, hr1⟩ := imod_nat _ lim h1
      rw [er]
      exact q r _ hr1 (Gr.wr (by simp)) ⟨xs, l, sd, z + 1, hd', hc', hx, ⟨hs0, hs1⟩, by omega, by omega⟩

end
end Wn
namespace Wn
open PySem PySem.Spec PyProof.Rows L2
open LamX (Tabs ExtN tLam)
local macro_rules | `(tactic| walk_at "vc") => `(tactic| simp only [cxK, cxK2, start1, start2, start3, tRet, tRetN, tSeq, tNext, tIfS, tAsg, gName, tDrop, tVar, tC, tOp, tUn, tTest, tB, tNot, tAnd, tOr, tAndV, tOrV, tNotV, tIf, tCons, tNil, tCB, tCall, tChain, tAug, ipI, rI, rI0, rU, rIs, rGcd, rEq, rNe, scal,
  List.getElem?_cons_zero, List.getElem?_cons_succ, List.set_cons_zero, List.set_cons_succ, Option.some.injEq, List.cons.injEq, V.int.injEq, V.bl.injEq, V.ref.injEq, V.str.injEq, and_true, true_and, exists_eq_left, exists_eq_left', exists_and_left, exists_and_right, List.append_nil, List.nil_append, List.cons_append, exists_eq_right, exists_eq_right', and_assoc, exists_const, V.ty.injEq, ↓reduceIte, Bool.false_eq_true, Bool.not_true, Bool.not_false, decide_eq_true_eq])

section
variable {P : Program} {w : World} {K : PySem.W.Frag} {mg : Str → Option Value} {base : Heap}

theorem copL_len (n : Nat) : (copL n).length ≤ n := by
  unfold copL
  exact Nat.le_trans (List.length_filter_le _ _) (by rw [List.length_range]; exact Nat.le_refl _)
theorem copL_mem {n x : Nat} (h : x ∈ copL n) : x < n ∧ Nat.gcd x n = 1 := by
  unfold copL at h
  obtain ⟨h1, h2⟩ := List.mem_filter.mp h
  exact ⟨List.mem_range.mp h1, of_decide_eq_true h2⟩
theorem mem_copL {n x : Nat} (h1 : x < n) (h2 : Nat.gcd x n = 1) : x ∈ copL n := List.mem_filter.mpr ⟨List.mem_range.mpr h1, decide_eq_true h2⟩
theorem one_cop {n : Nat} (hn : 1 ≤ n) : 1 % n ∈ copL n := by
  refine mem_copL (Nat.mod_lt _ hn) ?_
  rw [← Nat.gcd_rec, Nat.gcd_one_right]

theorem ne_self (z : Str) : (!decide (V.str z = V.str z)) = false := by rw [decide_eq_true rfl]; rfl
theorem md {H : Hp} {d : Addr} {k : Nat} : MOk H d k → ∃ kvs, H d = some (.dK kvs) := fun ⟨_, _, _, _, _, z, _⟩ => ⟨_, z⟩
theorem MOk.ext {H H' : Hp} {d : Addr} {n : Nat} (h : MOk H d n) (g : ExtN H H') : MOk H' d n := by
  obtain ⟨c, xs, l, sd, s, h1, h2, h3⟩ := h
  exact ⟨c, xs, l, sd, s, ExtN.dK g h1, ExtN.lst g h2, h3⟩
theorem sm_none : Sm .none 13 0 13 := ⟨by decide +kernel, by decide +kernel, by decide +kernel, by decide +kernel, by decide +kernel, by decide +kernel⟩
theorem int_sm {k : Nat} (h : k ≤ 8000) : Sm (.int (k : Nat)) 13 0 13 := Sm.int (by decide) (by rw [Int.natAbs_natCast]; show k < 8192; omega) (by decide)
theorem sm_oD {o : Option Nat} (h : ∀ k, o = some k → k ≤ 8000) : Sm (oD o) 13 0 13 := by
  cases o with
  | none => exact sm_none
  | some k => exact int_sm (h k rfl)
theorem sm_od {s : List (Option Nat)} {m : Nat} (h : ∀ k, some k ∈ s → k ≤ 8000) (hl : s.length ≤ m) : Sm (.tuple (od s)) 13 1 (m * 14) := Sm.tup (D := 0) (W := 13) m (fun x hx => by
  obtain ⟨o, ho, rfl⟩ := List.mem_map.mp hx
  exact sm_oD fun k hk => h k (hk ▸ ho)) (by rw [od_len]; exact hl)
theorem pr_sm {r : Nat × Nat} (h1 : r.1 ≤ 8000) (h2 : r.2 ≤ 8000) : Sm (prD r) 13 1 28 := Sm.tup (D := 0) (W := 13) 2 (fun x hx => by
  simp only [List.mem_cons, List.not_mem_nil, or_false] at hx
  rcases hx with rfl | rfl
  · exact int_sm h1
  · exact int_sm h2) (Nat.le_refl _)
theorem prs_sm {rs : List (Nat × Nat)} {m : Nat} (h : ∀ r ∈ rs, r.1 ≤ 8000 ∧ r.2 ≤ 8000) (hl : rs.length ≤ m) : Sm (.tuple (rs.map prD)) 13 2 (m * 29) := Sm.tup (D := 1) (W := 28) m (fun x hx => by
  obtain ⟨r, hr, rfl⟩ := List.mem_map.mp hx
  exact pr_sm (h r hr).1 (h r hr).2) (by rw [List.length_map]; exact hl)
theorem prl_sm {rs : List (Nat × Nat)} {m : Nat} (h : ∀ r ∈ rs, r.1 ≤ 8000 ∧ r.2 ≤ 8000) (hl : rs.length ≤ m) : Sm (.list (rs.map prD)) 13 2 (m * 29) := Sm.lst (D := 1) (W := 28) m (fun x hx => by
  obtain ⟨r, hr, rfl⟩ := List.mem_map.mp hx
  exact pr_sm (h r hr).1 (h r hr).2) (by rw [List.length_map]; exact hl)
theorem noL_od (s : List (Option Nat)) : noLAll (od s) = true := by
  induction s with
  | nil => rfl
  | cons o s ih =>
    show (noL (oD o) && noLAll (od s)) = true
    rw [ih]
    cases o <;> rfl
theorem noL_prs (rs : List (Nat × Nat)) : noLAll (rs.map prD) = true := by
  induction rs with
  | nil => rfl
  | cons r rs ih =>
    show (noL (prD r) && noLAll (rs.map prD)) = true
    rw [ih]
    rfl
theorem noL_fst (rs : List (Nat × Nat)) : noL (fstD rs) = true := by
  cases rs <;> rfl
theorem dp_app {K : PySem.W.Frag} {H : Hp} {l : Addr} {xs ys : List V} {v : V} {d : PyData} (h : H l = some (.lst xs)) (e : Dp K H v d) (n : noL d = true) : Dp K (upd H l (.lst ys)) v d :=
  Dp.kp (H := hid [l] H) ⟨fun a _ e => by obtain ⟨n, e⟩ := hid_inv e; rw [upd_ne (by simpa using n)]; exact e, fun a _ e => by obtain ⟨n, e⟩ := hid_inv e; rw [upd_ne (by simpa using n)]; exact e, fun a _ _ e => by obtain ⟨n, e⟩ := hid_inv e; rw [upd_ne (by simpa using n)]; exact e⟩ (dp_noL h e n)
theorem dp_word {K : PySem.W.Frag} {H : Hp} {l q : Addr} {xs ys : List V} {v : V} {w : Str} {d : PyData} (h : H l = some (.lst (.ref q :: xs))) (e : Dp K H v (.list [.str w, d])) (n : noL d = true) : Dp K (upd H l (.lst ys)) v (.list [.str w, d]) := by
  cases e with
  | lst so a =>
    rename_i p us
    cases a with
    | cons d1 a =>
    cases a with
    | cons d2 a =>
    cases a
    cases d1
    have a' : DpAll K (upd H l (.lst ys)) [.str w, _] [.str w, d] := .cons (.str _) (.cons (dp_app h d2 n) .nil)
    rcases so with (z | ⟨o, z⟩) | z
    · exact .lst (.inl (.inl (by rw [upd_ne (fun e => by rw [e, h] at z; cases z)]; exact z))) a'
    · exact .lst (.inl (.inr ⟨o, by rw [upd_ne (fun e => by rw [e, h] at z; cases z)]; exact z⟩)) a'
    · exact .lst (.inr z) a'
theorem ixN_at {n j : Nat} (h : j < n) : ixN n (j : Int) = some j := by
  unfold ixN
  rw [if_pos (by omega), if_pos (by omega)]
  simp
theorem seq_cut {t1 t2 : TS} {D : Ends} {σ : L2.St} {H : Hp} (J : L2.St → Hp → Prop) (h1 : ∀ N : L2.St → Hp → Prop, (∀ σ' H', J σ' H' → N σ' H') → t1 { D with nx := N } σ H) (h2 : ∀ σ' H', J σ' H' → t2 D σ' H') : tSeq t1 t2 D σ H := h1 _ h2
theorem put_seen {H H9 : Hp} {d cc l : Addr} {b n i : Nat} {s : List (Option Nat)} (g : Gr [d] H H9) (M : MOkC H9 d cc n) (hl : H9 l = some (.lst (ov s))) (nlH : H l = none) (nld : l ≠ d) (nlc : l ≠ cc) (hsb : ∀ k, some k ∈ s → k < b) {v : V} (o : Option Nat) (hv : v = oV o) (ho : ∀ k, o = some k → k < b) :
    Gr [d] H (upd H9 l (.lst ((ov s).set i v))) ∧ MOkC (upd H9 l (.lst ((ov s).set i v))) d cc n ∧ ∃ s', (upd H9 l (.lst ((ov s).set i v))) l = some (.lst (ov s')) ∧ s'.length = s.length ∧ ∀ k, some k ∈ s' → k < b := by
  subst hv
  refine ⟨fun u z hu e => ?_, M.keep (upd_ne nld.symm) (upd_ne nlc.symm), s.set i o, ?_, List.length_set, fun k hk => ?_⟩
  · rw [upd_ne (ne_of_none e nlH)]
    exact g u z hu e
  · rw [upd_same]
    unfold ov
    rw [List.map_set]
  · rcases List.mem_or_eq_of_mem_set hk with hk | hk
    · exact hsb k hk
    · exact ho k hk.symm
theorem fitL_len2 (b : Nat) (s : List (Option Nat)) : ∀ m, (fitL b s m).length * 2 ≤ m * (m + 1)
  | 0 => Nat.le_refl _
  | m + 1 => by
    have := fitL_len2 b s m
    have := fitK_len b s (m + 1) (m + 1)
    rw [fitL_succ, List.length_append]
    have e : (m + 1) * (m + 1 + 1) = m * (m + 1) + 2 * (m + 1) := by
      rw [Nat.mul_comm, ← Nat.add_mul]
    omega
def thD (b c : Nat) (s : List (Option Nat)) (rs : List (Nat × Nat)) : PyData := match rs with
  | [] => .list [.str "nothing", .tuple (od s)]
  | r :: rs => .tuple (od (sureL b c (r :: rs)))
theorem sureL_len {b c : Nat} {rs : List (Nat × Nat)} (h : rs ≠ []) : (sureL b c rs).length = c := by rw [sureL_map b c h, List.length_map, List.length_range]
theorem sureL_lt {b c k : Nat} {rs : List (Nat × Nat)} (h : rs ≠ []) (hb : 1 ≤ b) (hr : ∀ r ∈ rs, r.1 < r.2) (hk : some k ∈ sureL b c rs) : k < b := by
  rw [sureL_map b c h] at hk
  obtain ⟨j, _, e⟩ := List.mem_map.mp hk
  unfold sureK at e
  cases hc : colL b rs j with
  | nil =>
    rw [hc] at e
    cases e
  | cons d ds =>
    rw [hc] at e
    have hd : d ∈ colL b rs j := by
      rw [hc]
      exact List.mem_cons_self ..
    obtain ⟨r, hr1, e2⟩ := List.mem_map.mp hd
    have hlt := hr r hr1
    simp only at e
    split at e
    · rw [← Option.some.inj e, ← e2]
      unfold dgr
      have := rem_lt (b := b) (n := r.2) (x := r.1) (i := j) (by omega)
      refine (Nat.div_lt_iff_lt_mul (by omega)).mpr ?_
      rw [Nat.mul_comm b r.2]
      exact Nat.mul_lt_mul_of_pos_right this hb
    · cases e
theorem sm_str : Sm (.str "nothing") 13 0 60 := ⟨by decide +kernel, by decide +kernel, by decide +kernel, by decide +kernel, by decide +kernel, by decide +kernel⟩
theorem thD_sm {b c : Nat} {s : List (Option Nat)} {rs : List (Nat × Nat)} (hb : 1 ≤ b ∧ b ≤ 1000) (hc : c ≤ 60) (hs : s.length ≤ 20) (hsb : ∀ k, some k ∈ s → k < b) (hr : ∀ r ∈ rs, r.1 < r.2) : Sm (thD b c s rs) 13 2 1000 := by
  cases rs with
  | nil =>
    refine (Sm.lst (D := 1) (W := 280) 2 (fun x hx => ?_) (Nat.le_refl _)).mono (by decide) (by decide)
    simp only [List.mem_cons, List.not_mem_nil, or_false] at hx
    rcases hx with rfl | rfl
    · exact sm_str.mono (by decide) (by decide)
    · exact (sm_od (m := 20) (fun k hk => by have := hsb k hk; omega) hs)
  | cons r rs =>
    have hne : r :: rs ≠ [] := by simp
    exact (sm_od (m := 60) (fun k hk => by have := sureL_lt hne hb.1 hr hk; omega) (by rw [sureL_len hne]; exact hc)).mono (by decide) (by decide)
theorem three_fits {b c : Nat} {s : List (Option Nat)} {rs : List (Nat × Nat)} (hb : 1 ≤ b ∧ b ≤ 1000) (hc : c ≤ 60) (hs : s.length ≤ 20) (hsb : ∀ k, some k ∈ s → k < b) (hr : ∀ r ∈ rs, r.1 < r.2 ∧ r.2 ≤ 200) (hl : rs.length ≤ 2000) : Fits (.list [.tuple (rs.map prD), fstD rs, thD b c s rs]) := (Sm.lst (D := 2) (W := 2000 * 29) 3 (fun x hx => by
  simp only [List.mem_cons, List.not_mem_nil, or_false] at hx
  rcases hx with rfl | rfl | rfl
  · exact prs_sm (m := 2000) (fun r h => by have := hr r h; omega) hl
  · cases rs with
    | nil => exact sm_none.mono (by decide) (by decide)
    | cons r rs =>
      have := hr r (List.mem_cons_self ..)
      exact (pr_sm (by omega) (by omega)).mono (by decide) (by decide)
  · exact (thD_sm hb hc hs hsb (fun r h => (hr r h).1)).mono (by decide) (by decide)) (Nat.le_refl _)).fits
theorem bool_fits (z : Bool) : Fits (.bool z) := by
  refine Sm.fits (D := 0) (W := 60) ?_
  cases z <;> exact ⟨by decide +kernel, by decide +kernel, by decide +kernel, by decide +kernel, by decide +kernel, by decide +kernel⟩
def sp_law_right (T : Txt K mg) : Sp := fun vs H Q _ => ∃ (d : Addr) (b c : Nat), vs = [.ref d, .int b] ∧ Tabs (tl T) H ∧ (2 ≤ b ∧ b ≤ 1000) ∧ MOk H d c ∧ c ≤ 900000000 ∧ ∀ H', Kp H H' → Tabs (tl T) H' → MOk H' d (c + 60) → Q (.bl true) H'
theorem okG_law_right (T : Txt K mg) (B : Tbs T base) : FnG P w K mg base CX0 13 T.d_law_right.f T.d_law_right.fd ["m", "b"] (sp_law_right T) := by
  refine fnGc0 T.d_law_right.F sc_law_right (fun vs H Q E h => ?_) (fun cdv A outer s H vs Q E hcc hgd hr h => ?_)
  · obtain ⟨d, b, c, rfl, _⟩ := h; rfl
  · have hu := hu_of hr
    have hcode : cdv = .ref T.k_law_right := hcc.symm.trans T.e_law_right
    refine ⟨_, (pss_cons (ps_set (i := 2) sc_law_right.nd rfl (by first | exact .inl rfl | exact .inr rfl) (pe_op op_add pe_int (pe_call (okC_law_draw T) (hr.mono (by decide)) (by rfl) T.d_law_draw.m T.d_law_draw.F.kp T.d_law_draw.b .nil pass0 (pa_cons (pv 0) (pa_cons pe_int pa_nil)))))
      (pss_cons (ps_asg (pe_tup (pa_cons (pe_call (ok_law_of T) (hr.mono (by decide)) (by rfl) T.d_law_of.m T.d_law_of.F.kp T.d_law_of.b .nil pass0 (pa_cons (pv 0) (pa_cons (pe_call (ok_law_units T) (hr.mono (by decide)) (by rfl) T.d_law_units.m T.d_law_units.F.kp T.d_law_units.b .nil pass0 (pa_cons (pv 2) pa_nil)) pa_nil))) (pa_cons (pe_op op_add pe_int (pe_call (okC_law_draw T) (hr.mono (by decide)) (by rfl) T.d_law_draw.m T.d_law_draw.F.kp T.d_law_draw.b .nil pass0 (pa_cons (pv 0) (pa_cons pe_int pa_nil)))) pa_nil))) (pg_tup (by rfl) (pgs_cons (pg_name (i := 3) sc_law_right.nd rfl (by first | exact .inl rfl | exact .inr rfl)) (pgs_cons (pg_name (i := 4) sc_law_right.nd rfl (by first | exact .inl rfl | exact .inr rfl)) pgs_nil))))
      (pss_cons (ps_set (i := 5) sc_law_right.nd rfl (by first | exact .inl rfl | exact .inr rfl) (pe_call (ok_law_digits T) (hr.mono (by decide)) (by rfl) T.d_law_digits.m T.d_law_digits.F.kp T.d_law_digits.b .nil pass0 (pa_cons (pv 1) (pa_cons (pv 3) (pa_cons (pv 2) (pa_cons (pe_op op_add pe_int (pe_call (okC_law_draw T) (hr.mono (by decide)) (by rfl) T.d_law_draw.m T.d_law_draw.F.kp T.d_law_draw.b .nil pass0 (pa_cons (pv 0) (pa_cons pe_int pa_nil)))) pa_nil))))))
      (pss_cons (ps_for PassesOwn.never rfl (pi_range1 (by rfl) T.b_range (pa_cons (pe_callB (r := rLn K) call_ln (by rfl) T.b_len PySem.boot_len (pa_cons (pv 5) pa_nil)) pa_nil)) (pg_name (i := 6) sc_law_right.nd rfl (by first | exact .inl rfl | exact .inr rfl)) (pss_one (ps_asg (pe_ifExp (pt_cmpR op_eq (pe_call (okC_law_draw T) (hr.mono (by decide)) (by rfl) T.d_law_draw.m T.d_law_draw.F.kp T.d_law_draw.b .nil pass0 (pa_cons (pv 0) (pa_cons pe_int pa_nil))) pe_int (nomark _)) pe_non (pe_ix (r := rIxL K) ix_list (pv 5) (pv 6) (fun _ _ => rfl))) (pg_sub (pv 5) (pv 6) set_list))))
      (pss_cons (ps_if (pt_cmpR op_eq (pe_call (okC_law_draw T) (hr.mono (by decide)) (by rfl) T.d_law_draw.m T.d_law_draw.F.kp T.d_law_draw.b .nil pass0 (pa_cons (pv 0) (pa_cons pe_int pa_nil))) pe_int (nomark _)) (pss_one (ps_asg (pe_call (okC_law_draw T) (hr.mono (by decide)) (by rfl) T.d_law_draw.m T.d_law_draw.F.kp T.d_law_draw.b .nil pass0 (pa_cons (pv 0) (pa_cons (pv 1) pa_nil))) (pg_sub (pv 5) (pe_call (okC_law_draw T) (hr.mono (by decide)) (by rfl) T.d_law_draw.m T.d_law_draw.F.kp T.d_law_draw.b .nil pass0 (pa_cons (pv 0) (pa_cons (pe_callB (r := rLn K) call_ln (by rfl) T.b_len PySem.boot_len (pa_cons (pv 5) pa_nil)) pa_nil))) set_list))) pss_nil)
      (pss_cons (ps_asg (pe_tup (pa_cons (pe_callTy (r := rTpO K) call_tpO (by rfl) T.b_tuple (by decide +kernel) (pa_cons (pv 5) pa_nil)) (pa_cons (pe_call (okC_law_draw T) (hr.mono (by decide)) (by rfl) T.d_law_draw.m T.d_law_draw.F.kp T.d_law_draw.b .nil pass0 (pa_cons (pv 0) (pa_cons pe_int pa_nil))) pa_nil))) (pg_tup (by rfl) (pgs_cons (pg_name (i := 5) sc_law_right.nd rfl (by first | exact .inl rfl | exact .inr rfl)) (pgs_cons (pg_name (i := 7) sc_law_right.nd rfl (by first | exact .inl rfl | exact .inr rfl)) pgs_nil))))
      (pss_cons (ps_par (i := 8) (j := 9) (by rfl) sc_law_right.nd rfl rfl (by decide) rfl rfl (pa_cons (pe_callB (r := rRepr K) (call_repr hgd (gu_of hr)) (by rfl) T.b_repr (by decide +kernel) (pa_cons (pv 5) pa_nil)) (pa_cons (pe_call (ok_law_all T) (hr.mono (by decide)) (by rfl) T.d_law_all.m T.d_law_all.F.kp T.d_law_all.b .nil pass0 (pa_cons (pv 1) (pa_cons (pv 5) (pa_cons (pv 4) pa_nil)))) pa_nil)) (by rfl))
      (pss_cons (ps_set (i := 10) sc_law_right.nd rfl (by first | exact .inl rfl | exact .inr rfl) (pe_lst (pa_cons (pe_callTy (r := rTpO K) call_tpO (by rfl) T.b_tuple (by decide +kernel) (pa_cons (pv 9) pa_nil)) (pa_cons (pe_ifExp (pt_cmpR (r := rNeD K) (op_neD hr.units) (pv 9) (pe_lst pa_nil) (nomark _)) (pe_ix (r := rIxL K) ix_list (pv 9) pe_int (fun _ _ => rfl)) pe_non) pa_nil))))
      (pss_cons (ps_expr (pe_bm PySem.F.plainAttrs_list PySem.F.slot_list_append PySem.F.type_list_append mt_append (pv 10) (pa_cons (pe_ifExp (pt_cmpR (r := rNeD K) (op_neD hr.units) (pv 9) (pe_lst pa_nil) (nomark _)) (pe_call (ok_law_sure T) (hr.mono (by decide)) (by rfl) T.d_law_sure.m T.d_law_sure.F.kp T.d_law_sure.b .nil pass0 (pa_cons (pv 1) (pa_cons (pv 9) (pa_cons (pv 7) pa_nil)))) (pe_lst (pa_cons pe_str (pa_cons (pv 5) pa_nil)))) pa_nil)))
      (pss_cons (ps_for PassesOwn.never rfl (pi_range1 (by rfl) T.b_range (pa_cons pe_int pa_nil)) (pg_name (i := 11) sc_law_right.nd rfl (by first | exact .inl rfl | exact .inr rfl)) (pss_cons (ps_set (i := 12) sc_law_right.nd rfl (by first | exact .inl rfl | exact .inr rfl) (pe_lst (pa_cons (pe_call (okX_fitting T) (hr.mono (by decide)) (by rfl) T.d_fitting.m T.d_fitting.F.kp T.d_fitting.b .nil (passes_call takes0 (fun _ _ _ _ z => z)) (pa_cons (pv 1) (pa_cons (pv 5) (pa_cons (pv 4) pa_nil)))) (pa_cons (pe_call (ok_simplest T) (hr.mono (by decide)) (by rfl) T.d_simplest.m T.d_simplest.F.kp T.d_simplest.b .nil pass0 (pa_cons (pv 1) (pa_cons (pv 5) (pa_cons (pv 4) pa_nil)))) pa_nil))))
      (pss_cons (ps_expr (pe_bm PySem.F.plainAttrs_list PySem.F.slot_list_append PySem.F.type_list_append mt_append (pv 12) (pa_cons (pe_outc (T := tl T) (TT := TTout T) (k := 8) (by rfl) T.d_law_heard.m T.d_law_heard.F.kp T.d_law_heard.F rfl T.d_law_heard.b sc_law_heard rfl (by first | exact .inl rfl | exact .inr (.inl rfl)) (gives_out T rfl rfl) (fun pins σ H s Q I hT h => lam_plain I (B.tb_law_right) hcode (hm_law_right T) (hu_law_right T) hT rfl (LamD.has (lamD_by (N := ["m", "b", "under", "above", "most_so", "some", "k", "count", "kept_so", "every", "due", "again", "told", "turn", "n", "pair"]) (sc := defScope s_law_right) (by decide +kernel)) I.ok) (fun _ _ _ _ _ _ => rfl) h) (hr.mono (by decide)) (lamD_by (N := ["m", "b", "under", "above", "most_so", "some", "k", "count", "kept_so", "every", "due", "again", "told", "turn", "n", "pair"]) (sc := defScope s_law_right) (by decide +kernel)) (fun _ _ _ _ _ _ _ hr => (pe_call (okX_sure_digits T) (hr.mono (by decide)) (by rfl) T.d_sure_digits.m T.d_sure_digits.F.kp T.d_sure_digits.b .nil (passes_call (takes_of rfl rfl rfl rfl) (fun _ _ _ _ z => z)) (pa_cons (pv 1) (pa_cons (pv 5) (pa_cons (pv 4) (pa_cons (pv 7) pa_nil))))))) pa_nil)))
      (pss_one (ps_if (pt_cmpR op_ne (pe_callB (r := rRepr K) (call_repr hgd (gu_of hr)) (by rfl) T.b_repr (by decide +kernel) (pa_cons (pv 12) pa_nil)) (pe_callB (r := rRepr K) (call_repr hgd (gu_of hr)) (by rfl) T.b_repr (by decide +kernel) (pa_cons (pv 10) pa_nil)) (nomark _)) (pss_one (ps_ret pe_bl)) pss_nil)))))
      (pss_cons (ps_for PassesOwn.never rfl (pi_range1 (by rfl) T.b_range (pa_cons pe_int pa_nil)) (pg_name (i := 13) sc_law_right.nd rfl (by first | exact .inl rfl | exact .inr rfl)) (pss_cons (ps_set (i := 14) sc_law_right.nd rfl (by first | exact .inl rfl | exact .inr rfl) (pe_op op_add pe_int (pe_call (okC_law_draw T) (hr.mono (by decide)) (by rfl) T.d_law_draw.m T.d_law_draw.F.kp T.d_law_draw.b .nil pass0 (pa_cons (pv 0) (pa_cons pe_int pa_nil)))))
      (pss_cons (ps_set (i := 15) sc_law_right.nd rfl (by first | exact .inl rfl | exact .inr rfl) (pe_tup (pa_cons (pe_call (ok_law_of T) (hr.mono (by decide)) (by rfl) T.d_law_of.m T.d_law_of.F.kp T.d_law_of.b .nil pass0 (pa_cons (pv 0) (pa_cons (pe_call (ok_law_units T) (hr.mono (by decide)) (by rfl) T.d_law_units.m T.d_law_units.F.kp T.d_law_units.b .nil pass0 (pa_cons (pv 14) pa_nil)) pa_nil))) (pa_cons (pv 14) pa_nil))))
      (pss_one (ps_if (pt_cmpR op_ne (pe_callB (r := rRepr K) (call_repr hgd (gu_of hr)) (by rfl) T.b_repr (by decide +kernel) (pa_cons (pe_call (ok_fits T) (hr.mono (by decide)) (by rfl) T.d_fits.m T.d_fits.F.kp T.d_fits.b .nil pass0 (pa_cons (pv 1) (pa_cons (pv 15) (pa_cons (pv 5) pa_nil)))) pa_nil)) (pe_callB (r := rRepr K) (call_repr hgd (gu_of hr)) (by rfl) T.b_repr (by decide +kernel) (pa_cons (pe_call (ok_law_fit T) (hr.mono (by decide)) (by rfl) T.d_law_fit.m T.d_law_fit.F.kp T.d_law_fit.b .nil pass0 (pa_cons (pv 1) (pa_cons (pe_ix (r := rIxT K) ix_tup (pv 15) pe_int (fun _ _ => rfl)) (pa_cons (pv 14) (pa_cons (pv 5) pa_nil))))) pa_nil)) (nomark _)) (pss_one (ps_ret pe_bl)) pss_nil)))))
      (pss_one (ps_ret (pe_and (pe_cmpR op_eq (pe_callB (r := rRepr K) (call_repr hgd (gu_of hr)) (by rfl) T.b_repr (by decide +kernel) (pa_cons (pe_call (ok_need_seen T) (hr.mono (by decide)) (by rfl) T.d_need_seen.m T.d_need_seen.F.kp T.d_need_seen.b .nil pass0 (pa_cons (pv 1) (pa_cons (pv 5) pa_nil))) pa_nil)) (pv 8) (nomark _)) (pe_one (pe_cmpR op_eq (pe_callB (r := rRepr K) (call_repr hgd (gu_of hr)) (by rfl) T.b_repr (by decide +kernel) (pa_cons (pv 5) pa_nil)) (pv 8) (nomark _))))))))))))))))), ?_⟩
    obtain ⟨d, b, c0, rfl, t0, hb, M, hc, q⟩ := h
    obtain ⟨cc, M⟩ := MOkC.of M
    refine ⟨_, rfl, d, cc, 30, c0, rfl, M, ⟨by decide, lim_le (by decide), by omega⟩, fun r1 H1 hr1 g1 M1 => ?_⟩
    refine ⟨_, _, rfl, rfl, ?_⟩
    dsimp only
    rw [show (1 : Int) + (r1 : Int) = ((1 + r1 : Nat) : Int) by omega]
    have hu : 1 ≤ 1 + r1 ∧ 1 + r1 ≤ 30 := by omega
    generalize 1 + r1 = u at hu ⊢
    refine ⟨_, rfl, _, rfl, u, rfl, by omega, fun L1 H2 g2 hL1 => ?_⟩
    have hcn : copL u ≠ [] := fun z => by
      have := one_cop (n := u) hu.1
      rw [z] at this
      cases this
    have hcl := copL_len u
    refine ⟨d, L1, c0 + 1, _, rfl, M1.to.gr g2, hL1, ⟨fun z => hcn (List.map_eq_nil_iff.mp z), by rw [vn_len]; omega, by omega⟩, fun v H3 hv g3 M3 => ?_⟩
    obtain ⟨x, hx, rfl⟩ := List.mem_map.mp hv
    have hxu := copL_mem hx
    obtain ⟨cc, M3⟩ := MOkC.of M3
    refine ⟨_, rfl, d, cc, 34, _, rfl, M3, ⟨by decide, lim_le (by decide), by omega⟩, fun r2 H4 hr2 g4 M4 => ?_⟩
    refine ⟨_, _, rfl, rfl, by show 2 ≤ sizeLine; decide, fun p np => ?_⟩
    refine ⟨p, _, rfl, sq_tup upd_same, rfl, _, _, rfl, _, _, rfl, rfl, ?_⟩
    dsimp only
    rw [show (1 : Int) + (r2 : Int) = ((1 + r2 : Nat) : Int) by omega] at *
    have gp := Gr.new (W := []) (o := .tup [.int (x : Nat), .int (1 + r2 : Nat)]) np
    have M5 := M4.gr gp
    have G5 : Gr [d] H (upd H4 p (.tup [.int (x : Nat), .int (1 + r2 : Nat)])) := ((g1.trans (gr0 g2)).trans (g3.trans g4)).trans (gr0 gp)
    have hm : 1 ≤ 1 + r2 ∧ 1 + r2 ≤ 34 := by omega
    generalize upd H4 p (.tup [.int (x : Nat), .int (1 + r2 : Nat)]) = H5 at M5 G5 ⊢
    generalize 1 + r2 = mo at hm ⊢
    clear g1 g2 g3 g4 gp M1 M3 M4 np hL1 hv
    refine ⟨_, rfl, _, rfl, _, rfl, _, rfl, d, cc, 8, _, rfl, M5, ⟨by decide, lim_le (by decide), by omega⟩, fun r3 H6 hr3 g6 M6 => ?_⟩
    refine ⟨_, _, rfl, rfl, b, x, u, 1 + r3, by rw [Int.natCast_add]; rfl, ⟨by omega, by omega, by omega, hxu.1, by omega⟩, fun l H7 nl g7 hl => ?_⟩
    have hN1 : 1 ≤ 1 + r3 ∧ 1 + r3 ≤ 8 := by omega
    have hdl : ∀ k, some k ∈ (dl b u x (1 + r3)).map some → k < b := fun k hk => by
      obtain ⟨z, hz, e⟩ := List.mem_map.mp hk
      rw [← Option.some.inj e]
      exact dl_lt hu.1 (by omega) hz
    have hsl : ((dl b u x (1 + r3)).map some).length = 1 + r3 := by rw [List.length_map, dl_len]
    rw [← ov_some] at hl
    generalize (dl b u x (1 + r3)).map some = s0 at hl hdl hsl
    generalize 1 + r3 = N at hN1 hsl ⊢
    have hsl0 := hsl
    clear hsl
    obtain ⟨nld, nlc⟩ := M6.ne nl
    have G6 : Gr [d] H H6 := G5.trans g6
    have nlH : H l = none := by
      cases e : H l with
      | none => rfl
      | some o => exact absurd (G6 l o (by simpa using nld) e) (by rw [nl]; simp)
    have M7 := M6.gr g7
    have G7 : Gr [d] H H7 := G6.trans (gr0 g7)
    clear g6 g7 M5 M6 G5 G6
    refine ⟨_, rfl, l, _, rfl, .inl (sq_lst hl), ?_⟩
    rw [ov_len, hsl0]
    refine ⟨(N : Int), rfl, by omega, by omega, ?_⟩
    refine for_range (lo := 0) (n := ((N : Int) - 0).toNat) (fun i σ H' => Gr [d] H H' ∧ MOkC H' d cc (c0 + 4 + i) ∧ (∃ s, H' l = some (.lst (ov s)) ∧ s.length = N ∧ ∀ k, some k ∈ s → k < b) ∧ ∃ v6, σ = [some (.ref d), some (.int b), some (.int u), some (.int x), some (.int mo), some (.ref l), v6, none, none, none, none, none, none, none, none, none]) ⟨G7, M7, ⟨s0, hl, hsl0, hdl⟩, none, rfl⟩ ?_ ?_
    · rintro i σ H8 hi ⟨G8, M8, ⟨s, hs, hsl, hsb⟩, v6, rfl⟩
      have hi' : i < N := by omega
      have ei : (0 : Int) + (i : Int) = ((i : Nat) : Int) := by omega
      rw [ei]
      refine ⟨_, rfl, d, cc, 3, _, rfl, M8, ⟨by decide, lim_le (by decide), by omega⟩, fun r H9 hr9 g9 M9 => ⟨rfl, _, rfl, ?_⟩⟩
      have hs9 := g9 l _ (by simpa using nld) hs
      have G9 := G8.trans g9
      by_cases hr0 : r = 0
      · refine iteTb (decide_eq_true (by rw [hr0]; rfl)) ?_
        obtain ⟨p1, p2, s', p3, p4, p5⟩ := put_seen (i := i) G9 M9 hs9 nlH nld nlc hsb none rfl (fun k z => by cases z)
        exact ⟨_, rfl, _, rfl, l, _, _, i, rfl, rfl, hs9, ixN_at (by rw [ov_len]; omega), p1, p2, ⟨s', p3, by omega, p5⟩, _, rfl⟩
      · refine iteFb (decide_eq_false (fun z => hr0 (by have := V.int.inj z; omega))) ?_
        have hgs : (ov s)[i]? = some (oV s[i]) := by
          unfold ov
          rw [List.getElem?_map, List.getElem?_eq_getElem (by omega)]
          rfl
        obtain ⟨p1, p2, s', p3, p4, p5⟩ := put_seen (i := i) G9 M9 hs9 nlH nld nlc hsb s[i] rfl (fun k z => hsb k (by rw [← z]; exact List.getElem_mem _))
        exact ⟨_, rfl, _, rfl, l, _, _, _, rfl, rfl, sq_lst hs9, atI_nat hgs, _, rfl, _, rfl, l, _, _, i, rfl, rfl, hs9, ixN_at (by rw [ov_len]; omega), p1, p2, ⟨s', p3, by omega, p5⟩, _, rfl⟩
    rintro σ H8 ⟨G8, M8, ⟨s, hs, hsl, hsb⟩, v6, rfl⟩
    rw [show ((N : Int) - 0).toNat = N by omega] at M8
    clear hl hdl hsl0 G7 M7 nl
    dsimp only
    refine seq_cut (fun σ H' => Gr [d] H H' ∧ MOkC H' d cc (c0 + 4 + N + 3) ∧ (∃ s, H' l = some (.lst (ov s)) ∧ s.length = N ∧ ∀ k, some k ∈ s → k < b) ∧ ∃ v6, σ = [some (.ref d), some (.int b), some (.int u), some (.int x), some (.int mo), some (.ref l), v6, none, none, none, none, none, none, none, none, none]) (fun NX hN => ?_) ?_
    · refine ⟨_, rfl, d, cc, 4, _, rfl, M8, ⟨by decide, lim_le (by decide), by omega⟩, fun r5 H9 hr9 g9 M9 => ⟨rfl, _, rfl, ?_⟩⟩
      have hs9 := g9 l _ (by simpa using nld) hs
      have G9 := G8.trans g9
      by_cases hr0 : r5 = 0
      · refine iteTb (decide_eq_true (by rw [hr0]; rfl)) ?_
        refine ⟨_, rfl, _, rfl, d, cc, b, _, rfl, M9, ⟨by omega, lim_le (by omega), by omega⟩, fun r6 HA hrA gA MA => ?_⟩
        have hsA := gA l _ (by simpa using nld) hs9
        refine ⟨_, rfl, _, rfl, _, rfl, l, _, rfl, .inl (sq_lst hsA), ?_⟩
        rw [ov_len, hsl]
        refine ⟨d, cc, N, _, rfl, MA, ⟨by omega, lim_le (by omega), by omega⟩, fun r7 HB hrB gB MB => ?_⟩
        have hsB := gB l _ (by simpa using nld) hsA
        obtain ⟨p1, p2, s', p3, p4, p5⟩ := put_seen (i := r7) ((G9.trans gA).trans gB) MB hsB nlH nld nlc hsb (some r6) rfl (fun k z => by rw [← Option.some.inj z]; exact hrA)
        exact ⟨l, _, _, r7, rfl, rfl, hsB, ixN_at (by rw [ov_len]; omega), hN _ _ ⟨p1, p2, ⟨s', p3, by omega, p5⟩, _, rfl⟩⟩
      · refine iteFb (decide_eq_false (fun z => hr0 (by have := V.int.inj z; omega))) ?_
        exact hN _ _ ⟨G9, M9.mono (by omega), ⟨s, hs9, hsl, hsb⟩, _, rfl⟩
    clear G8 M8 hs hsl hsb s v6
    rintro σ H8 ⟨G8, M8, ⟨s, hs, hsl, hsb⟩, v6, rfl⟩
    refine ⟨_, rfl, l, _, rfl, .inl ⟨sq_lst hs, fun t nt => ?_⟩⟩
    have gt := Gr.new (W := []) (o := .tup (ov s)) nt
    have ht : (upd H8 t (.tup (ov s))) t = some (.tup (ov s)) := upd_same
    have M9 := M8.gr gt
    have G9 := G8.trans (gr0 gt)
    generalize upd H8 t (.tup (ov s)) = H9 at ht M9 G9 ⊢
    clear gt nt M8 G8 hs H8
    refine ⟨_, rfl, d, cc, 14, _, rfl, M9, ⟨by decide, lim_le (by decide), by omega⟩, fun cn HA hcn gA MA => ?_⟩
    refine ⟨by show 2 ≤ sizeLine; decide, fun p np => ⟨p, _, rfl, sq_tup upd_same, rfl, _, _, rfl, _, _, rfl, rfl, ?_⟩⟩
    have gp := Gr.new (W := []) (o := .tup [.ref t, .int (cn : Nat)]) np
    have ht := gp t _ (by simp) (gA t _ (M9.to.ne ht (by intro k z; cases z)) ht)
    have MB := (MA.gr gp).to
    have GB := (G9.trans gA).trans (gr0 gp)
    generalize upd HA p (.tup [.ref t, .int (cn : Nat)]) = HB at ht MB GB ⊢
    clear gp np gA MA M9 G9
    have hSN : SN b s := ⟨⟨by omega, by omega⟩, hsb⟩
    have fs : Fits (.tuple (od s)) := (sm_od (m := 20) (fun k hk => by have := hsb k hk; omega) (by omega)).fits
    refine ⟨_, rfl, _, .tuple (od s), rfl, dp_tup ht (dp_ov s), fs, ?_⟩
    refine ⟨_, rfl, _, rfl, _, rfl, b, mo, t, s, rfl, sq_tup ht, by omega, by omega, ⟨by omega, by omega⟩, fun L ps HC gC hL hP => ?_⟩
    refine ⟨_, _, rfl, ?_⟩
    have ht := gC t _ (by simp) ht
    have MC := MB.gr gC
    have GC := GB.trans (gr0 gC)
    have hmem : ∀ r ∈ fitL b s mo, r.1 < r.2 ∧ r.2 ≤ mo ∧ Nat.gcd r.1 r.2 = 1 := fun r => fitL_mem
    have hrl := fitL_len2 b s mo
    have hmm : mo * (mo + 1) ≤ 34 * 35 := Nat.mul_le_mul (by omega) (by omega)
    have hrl : (fitL b s mo).length ≤ 1000 := by omega
    have fD : ∀ rs, rs = fitL b s mo → Fits (.list [.tuple (rs.map prD), fstD rs, thD b cn s rs]) := fun rs e => by
      subst e
      exact three_fits (by omega) (by omega) (by omega) hsb (fun r h => by have := hmem r h; omega) (by omega)
    clear MB GB gC
    generalize hfl : fitL b s mo = rs at hP hmem hrl fD
    have fD := fD rs rfl
    generalize hks : PyData.shown (.tuple (od s)) = ks
    dsimp only
    refine seq_cut (fun σ H' => Gr [d] H H' ∧ H' t = some (.tup (ov s)) ∧ ∃ (ps : List Addr) (L D t2 : Addr) (v2 : V), (∃ cc, MOkC H' d cc (c0 + 40) ∧ D ≠ d ∧ D ≠ cc) ∧ H' L = some (.lst (ps.map V.ref)) ∧ Prs H' ps rs ∧ H' D = some (.lst [.ref t2, v2]) ∧ D ≠ L ∧ H D = none ∧ H' t2 = some (.tup (ps.map V.ref)) ∧ Dp K H' v2 (fstD rs) ∧ ∃ v6, σ = [some (.ref d), some (.int b), some (.int u), some (.int x), some (.int mo), some (.ref t), v6, some (.int cn), some (.str ks), some (.ref L), some (.ref D), none, none, none, none, none]) (fun NX hN => ?_) ?_
    · refine ⟨_, rfl, L, _, rfl, .inl ⟨sq_lst hL, fun t2 nt2 => ?_⟩⟩
      have g1 := Gr.new (W := []) (o := .tup (ps.map V.ref)) nt2
      have ht2 : (upd HC t2 (.tup (ps.map V.ref))) t2 = some (.tup (ps.map V.ref)) := upd_same
      have hL1 := g1 L _ (by simp) hL
      have hP1 := hP.gr g1
      generalize upd HC t2 (.tup (ps.map V.ref)) = H1 at g1 ht2 hL1 hP1 ⊢
      refine ⟨_, rfl, Nat.zero_le _, fun p np => ?_⟩
      have g2 := Gr.new (W := []) (o := .lst []) np
      have hp2 : (upd H1 p (.lst [])) p = some (.lst []) := upd_same
      have hL2 := g2 L _ (by simp) hL1
      have hP2 := hP1.gr g2
      have ht22 := g2 t2 _ (by simp) ht2
      generalize upd H1 p (.lst []) = H2 at g2 hp2 hL2 hP2 ht22 ⊢
      have G2 := g1.trans g2
      refine ⟨.list (rs.map prD), .list [], dp_lst hL2 hP2.dpa, dp_lst hp2 .nil, (prl_sm (m := 1000) (fun r h => by have := hmem r h; omega) hrl).shaped, rfl, _, rfl, ?_⟩
      have fin : ∀ v2, Dp K H2 v2 (fstD rs) → [V.ref t2, v2].length ≤ sizeLine ∧ ∀ D, H2 D = none → NX [some (.ref d), some (.int b), some (.int u), some (.int x), some (.int mo), some (.ref t), v6, some (.int cn), some (.str ks), some (.ref L), some (.ref D), none, none, none, none, none] (upd H2 D (.lst [.ref t2, v2])) := fun v2 d2 => ⟨by show 2 ≤ sizeLine; decide, fun D nD => by
        have g3 := Gr.new (W := []) (o := .lst [.ref t2, v2]) nD
        have Gf := GC.trans (gr0 (G2.trans g3))
        have hDd : D ≠ d := fun z => by
          obtain ⟨kvs, e⟩ := md (MC.gr G2)
          rw [← z, nD] at e
          cases e
        obtain ⟨c9, M9⟩ := MOkC.of (MC.gr G2)
        obtain ⟨ne1, ne2⟩ := M9.ne nD
        refine hN _ _ ⟨Gf, (G2.trans g3) t _ (by simp) ht, ps, L, D, t2, v2, ⟨c9, (M9.gr g3).mono (by omega), ne1, ne2⟩, g3 L _ (by simp) hL2, hP2.gr g3, upd_same, (fun z => by rw [z, hL2] at nD; cases nD), ?_, g3 t2 _ (by simp) ht22, Dp.kp (Kp.of g3) d2, v6, rfl⟩
        cases e : H D with
        | none => rfl
        | some o => exact absurd ((GC.trans (gr0 G2)) D o (by simpa using hDd) e) (by rw [nD]; simp)⟩
      clear hL hL1 hP hP1 hN
      cases hP2 with
      | nil => exact iteFb rfl (fin _ .non)
      | @cons p0 ps r rs e hP2 =>
        exact iteTb rfl ⟨_, rfl, L, _, 0, _, rfl, rfl, sq_lst hL2, atI_nat (j := 0) rfl, fin _ (two_dp (sq_tup e))⟩
    clear MC GC hL hP
    rintro σ H1 ⟨G1, ht, ps, L, D, t2, v2, ⟨c9, M1, nDd, nDc⟩, hL, hP, hD, hDL, nDH, ht2, d2, v6, rfl⟩
    refine seq_cut (fun σ H' => Gr [d] H H' ∧ MOk H' d (c0 + 40) ∧ H' t = some (.tup (ov s)) ∧ ∃ (L D : Addr) (vs : List V), H' D = some (.lst vs) ∧ DpAll K H' vs [.tuple (rs.map prD), fstD rs, thD b cn s rs] ∧ ∃ v6, σ = [some (.ref d), some (.int b), some (.int u), some (.int x), some (.int mo), some (.ref t), v6, some (.int cn), some (.str ks), some (.ref L), some (.ref D), none, none, none, none, none]) (fun NX hN => ?_) ?_
    · refine ⟨_, rfl, .inl ⟨rfl, _, sq_lst hD⟩, ?_⟩
      refine ⟨_, rfl, Nat.zero_le _, fun p np => ?_⟩
      have g2 := Gr.new (W := []) (o := .lst []) np
      have hp2 : (upd H1 p (.lst [])) p = some (.lst []) := upd_same
      have hL2 := g2 L _ (by simp) hL
      have hP2 := hP.gr g2
      have hD2 := g2 D _ (by simp) hD
      have ht22 := g2 t2 _ (by simp) ht2
      have hts := g2 t _ (by simp) ht
      have d22 := Dp.kp (Kp.of g2) d2
      have M2 := M1.gr g2
      have G2 := G1.trans (gr0 g2)
      generalize upd H1 p (.lst []) = H2 at hp2 hL2 hP2 hD2 ht22 hts d22 M2 G2 ⊢
      clear g2 hL hP hD ht2 ht d2 M1 G1 np
      refine ⟨.list (rs.map prD), .list [], dp_lst hL2 hP2.dpa, dp_lst hp2 .nil, (prl_sm (m := 1000) (fun r h => by have := hmem r h; omega) hrl).shaped, rfl, _, rfl, ?_⟩
      have fin : ∀ v3 H3, Gr [] H2 H3 → (∀ ys, Dp K (upd H3 D (.lst ys)) v3 (thD b cn s rs)) → NX [some (.ref d), some (.int b), some (.int u), some (.int x), some (.int mo), some (.ref t), v6, some (.int cn), some (.str ks), some (.ref L), some (.ref D), none, none, none, none, none] (upd H3 D (.lst ([.ref t2, v2] ++ [v3]))) := fun v3 H3 g3 d3 => by
        have hD3 := g3 D _ (by simp) hD2
        refine hN _ _ ⟨fun u o hu e => ?_, ((M2.gr g3).keep (upd_ne nDd.symm) (upd_ne nDc.symm)).to, ?_, L, D, _, upd_same, .cons (dp_app hD3 (dp_tup (g3 t2 _ (by simp) ht22) (hP2.gr g3).dpa) (noL_prs rs)) (.cons (dp_app hD3 (Dp.kp (Kp.of g3) d22) (noL_fst rs)) (.cons (d3 _) .nil)), v6, rfl⟩
        · rw [upd_ne (ne_of_none e nDH)]
          exact g3 u o (by simp) (G2 u o hu e)
        · rw [upd_ne (fun z => by rw [← z, hts] at hD2; cases hD2)]
          exact g3 t _ (by simp) hts
      cases rs with
      | nil =>
        refine iteFb rfl ⟨_, rfl, by show 2 ≤ sizeLine; decide, fun q nq => ?_⟩
        have g3 := Gr.new (W := []) (o := .lst [.str "nothing", .ref t]) nq
        have hqD : q ≠ D := fun z => by rw [z, hD2] at nq; cases nq
        refine ⟨D, _, _, rfl, rfl, g3 D _ (by simp) hD2, small5 (by show 2 ≤ 5000; decide), fin _ _ g3 fun ys => dp_lst (by rw [upd_ne hqD]; exact upd_same) (.cons (.str _) (.cons (dp_app (g3 D _ (by simp) hD2) (dp_tup (g3 t _ (by simp) hts) (dp_ov s)) (noL_od s)) .nil))⟩
      | cons r rs =>
        refine iteTb rfl ⟨_, rfl, _, rfl, _, rfl, b, cn, L, ps, r :: rs, rfl, hL2, hP2, by simp, by omega, by omega, by omega, fun r' h => by have := hmem r' h; omega, fun v3 H3 g3 d3 => ?_⟩
        exact ⟨D, _, _, rfl, rfl, g3 D _ (by simp) hD2, small5 (by show 2 ≤ 5000; decide), fin _ _ g3 fun ys => dp_app (g3 D _ (by simp) hD2) d3 (noL_od _)⟩
    clear M1 G1 hL hP hD hDL nDH ht2 ht d2 nDd nDc c9 v2 v6
    rintro σ H1 ⟨G1, M1, ht, L, D, vs, hD, dD, v6, rfl⟩
    have t1 : Tabs (tl T) H1 := tabsGrM t0 G1 (md M.to)
    refine ⟨(2 : Int), rfl, by decide, by decide, ?_⟩
    refine for_range (lo := 0) (n := 2) (fun i σ H' => ExtN H1 H' ∧ Tabs (tl T) H' ∧ ∃ v11 v12, σ = [some (.ref d), some (.int b), some (.int u), some (.int x), some (.int mo), some (.ref t), v6, some (.int cn), some (.str ks), some (.ref L), some (.ref D), v11, v12, none, none, none]) ⟨ExtN.refl _, t1, none, none, rfl⟩ ?_ ?_
    · rintro i σ H2 hi ⟨g2, t2, v11, v12, rfl⟩
      have hts := ExtN.tup g2 ht
      refine ⟨_, rfl, _, rfl, _, rfl, b, mo, t, s, rfl, sq_tup hts, hb, hSN, ⟨by omega, by omega⟩, fun _ v1 H3 g3 d1 => ?_, fun hgt => absurd hgt (by rw [hfl]; omega)⟩
      have hts3 := g3 t _ (by simp) hts
      refine ⟨_, rfl, _, rfl, _, rfl, b, mo, t, s, rfl, sq_tup hts3, hb, hSN, ⟨by omega, by omega⟩, fun v2 H4 g4 d2 => ?_⟩
      have d1 := Dp.kp (Kp.of g4) d1
      have hts4 := g4 t _ (by simp) hts3
      refine ⟨by show 2 ≤ sizeLine; decide, fun l2 n2 => ?_⟩
      have g5 := Gr.new (W := []) (o := .lst [v1, v2]) n2
      have hl2 : (upd H4 l2 (.lst [v1, v2])) l2 = some (.lst [v1, v2]) := upd_same
      have d1 := Dp.kp (Kp.of g5) d1
      have d2 := Dp.kp (Kp.of g5) d2
      have hts5 := g5 t _ (by simp) hts4
      have x5 : ExtN H1 (upd H4 l2 (.lst [v1, v2])) := g2.trans (extOf ((g3.trans g4).trans g5))
      have t5 := tabsGr t2 ((g3.trans g4).trans g5)
      have hD4 := (g3.trans g4) D _ (by simp) (ExtN.lst g2 hD)
      have nl2 : ∀ u o, H1 u = some o → (∀ z, o ≠ .tbl z) → u ≠ l2 := fun u o e z q => by
        subst q
        have := (g2.trans (extOf (g3.trans g4))) u o e z
        rw [n2] at this
        cases this
      generalize upd H4 l2 (.lst [v1, v2]) = H5 at hl2 d1 d2 hts5 x5 t5 ⊢
      refine ⟨_, rfl, .inl ⟨rfl, _, sq_lst hl2⟩, ?_⟩
      have ev : EvT K (tl T) (tLam (tl T) (TTout T) fun E => tCall (sp_sure_digits T) [] E (tCons (tVar 1) (tCons (tVar 5) (tCons (tVar 4) (tCons (tVar 7) tNil))))) [some (.ref d), some (.int b), some (.int u), some (.int x), some (.int mo), some (.ref t), v6, some (.int cn), some (.str ks), some (.ref L), some (.ref D), some (.int (0 + (i : Int))), some (.ref l2), none, none, none] H5 (thD b cn s rs) := by
        cases rs with
        | nil =>
          refine et_hXl (C := T.C_Nothing) (f := "value") (w := "nothing") (mk := fun v => .lst [.str "nothing", v]) (by unfold hes; simp) (fun _ => rfl) fun E H6 x6 Q ke => ?_
          have hts6 := ExtN.tup x6 hts5
          refine ⟨_, rfl, _, rfl, _, rfl, _, rfl, b, mo, cn, t, s, rfl, sq_tup hts6, hb, hSN, ⟨by omega, by omega⟩, by omega, fun hne => absurd hfl hne, fun _ H7 dd g7 nd => ?_⟩
          have g8 := g7.trans (Gr.new (W := []) (o := .xd [("value", .ref t)]) nd)
          exact ke dd _ _ g8 upd_same (dp_tup (g8 t _ (by simp) hts6) (dp_ov s))
        | cons r rs =>
          refine et_hV fun E H6 x6 Q q => ?_
          have hts6 := ExtN.tup x6 hts5
          refine ⟨_, rfl, _, rfl, _, rfl, _, rfl, b, mo, cn, t, s, rfl, sq_tup hts6, hb, hSN, ⟨by omega, by omega⟩, by omega, fun _ v H7 g7 d7 => ?_, fun hn => by rw [hfl] at hn; cases hn⟩
          rw [hfl] at d7
          exact q v H7 g7 d7
      refine ev H5 (ExtN.refl _) t5 _ fun v3 H6 x6 t6 d3 => ?_
      have hl6 := ExtN.lst x6 hl2
      have d1 := Dp.kp (kpExt x6) d1
      have d2 := Dp.kp (kpExt x6) d2
      refine ⟨l2, _, _, rfl, rfl, hl6, small5 (by show 2 ≤ 5000; decide), ?_⟩
      rw [hfl] at d1 d2
      obtain ⟨a1, rfl⟩ : ∃ a, v1 = .ref a := by
        cases d1
        exact ⟨_, rfl⟩
      have d3' : Dp K (upd H6 l2 (.lst ([.ref a1, v2] ++ [v3]))) v3 (thD b cn s rs) := by
        cases rs with
        | nil => exact dp_word hl6 d3 (noL_od s)
        | cons r rs => exact dp_app hl6 d3 (noL_od _)
      have x7 : ExtN H1 (upd H6 l2 (.lst ([.ref a1, v2] ++ [v3]))) := fun u o e z => by
        rw [upd_ne (nl2 u o e z)]
        exact (x5.trans x6) u o e z
      have t7 := tabsApp (ys := [.ref a1, v2] ++ [v3]) t6 hl6
      have d1 := dp_app (ys := [.ref a1, v2] ++ [v3]) hl6 d1 (noL_prs rs)
      have d2 := dp_app (ys := [.ref a1, v2] ++ [v3]) hl6 d2 (noL_fst rs)
      have hl7 : (upd H6 l2 (.lst ([.ref a1, v2] ++ [v3]))) l2 = some (.lst ([.ref a1, v2] ++ [v3])) := upd_same
      generalize upd H6 l2 (.lst ([.ref a1, v2] ++ [v3])) = H7 at x7 t7 d1 d2 d3' hl7 ⊢
      refine ⟨_, rfl, _, _, rfl, dp_lst hl7 (.cons d1 (.cons d2 (.cons d3' .nil))), fD, ?_⟩
      refine ⟨_, rfl, _, _, rfl, dp_lst (ExtN.lst x7 hD) (DpAll.kp (kpExt x7) dD), fD, ?_⟩
      generalize PyData.shown (.list [.tuple (rs.map prD), fstD rs, thD b cn s rs]) = zz
      exact ⟨rfl, _, rfl, iteFb (ne_self _) ⟨x7, t7, _, _, rfl⟩⟩
    rintro σ H2 ⟨g2, t2, v11, v12, rfl⟩
    have hts := ExtN.tup g2 ht
    have M2 := M1.ext g2
    have k2 : Kp H H2 := (Kp.ofM G1 (md M.to)).trans (kpExt g2)
    clear hD dD g2 t1 M1 G1 ht fD hrl hfl hmem
    refine ⟨(4 : Int), rfl, by decide, by decide, ?_⟩
    refine for_range (lo := 0) (n := 4) (fun i σ H' => Gr [d] H2 H' ∧ MOk H' d (c0 + 40 + 2 * i) ∧ ∃ v13 v14 v15, σ = [some (.ref d), some (.int b), some (.int u), some (.int x), some (.int mo), some (.ref t), v6, some (.int cn), some (.str ks), some (.ref L), some (.ref D), v11, v12, v13, v14, v15]) ⟨Gr.refl _ _, M2, none, none, none, rfl⟩ ?_ ?_
    · rintro i σ H3 hi ⟨G3, M3, v13, v14, v15, rfl⟩
      have hi4 : i < 4 := hi
      have hts3 : H3 t = some (.tup (ov s)) := G3 t _ (M2.ne hts (by intro k z; cases z)) hts
      obtain ⟨c3, M3⟩ := MOkC.of M3
      refine ⟨_, rfl, d, c3, 60, _, rfl, M3, ⟨by decide, lim_le (by decide), by omega⟩, fun r1 H4 hr1 g4 M4 => ?_⟩
      refine ⟨_, _, rfl, rfl, ?_⟩
      dsimp only
      rw [show (1 : Int) + (r1 : Int) = ((1 + r1 : Nat) : Int) by omega]
      have hn : 1 ≤ 1 + r1 ∧ 1 + r1 ≤ 60 := by omega
      generalize 1 + r1 = n at hn ⊢
      refine ⟨_, rfl, _, rfl, n, rfl, by omega, fun L1 H5 g5 hL1 => ?_⟩
      have hcn : copL n ≠ [] := fun z => by
        have := one_cop (n := n) hn.1
        rw [z] at this
        cases this
      have hcl := copL_len n
      refine ⟨d, L1, _, _, rfl, M4.to.gr g5, hL1, ⟨fun z => hcn (List.map_eq_nil_iff.mp z), by rw [vn_len]; omega, by omega⟩, fun v H6 hv g6 M6 => ?_⟩
      obtain ⟨y, hy, rfl⟩ := List.mem_map.mp hv
      have hyn := copL_mem hy
      refine ⟨_, rfl, by show 2 ≤ sizeLine; decide, fun p np => ?_⟩
      have gp := Gr.new (W := []) (o := .tup [.int (y : Nat), .int (n : Nat)]) np
      have hp : (upd H6 p (.tup [.int (y : Nat), .int (n : Nat)])) p = some (.tup [.int (y : Nat), .int (n : Nat)]) := upd_same
      have G7 : Gr [d] H2 (upd H6 p (.tup [.int (y : Nat), .int (n : Nat)])) := ((G3.trans g4).trans ((gr0 g5).trans g6)).trans (gr0 gp)
      have M7 := M6.gr gp
      generalize upd H6 p (.tup [.int (y : Nat), .int (n : Nat)]) = H7 at hp G7 M7 ⊢
      have hts7 : H7 t = some (.tup (ov s)) := G7 t _ (M2.ne hts (by intro k z; cases z)) hts
      refine ⟨_, rfl, _, rfl, _, rfl, b, y, n, p, t, s, rfl, hp, sq_tup hts7, hb, hSN, ⟨hyn.1, by omega, hyn.2⟩, fun H8 g8 => ?_⟩
      refine ⟨_, _, rfl, .bl _, bool_fits _, ?_⟩
      refine ⟨_, rfl, _, rfl, p, _, 0, _, rfl, rfl, sq_tup (g8 p _ (by simp) hp), atI_nat (j := 0) rfl, _, rfl, _, rfl, b, y, n, t, s, rfl, sq_tup (g8 t _ (by simp) hts7), ⟨by omega, by omega, by omega, hyn.1⟩, by omega, fun H9 g9 => ?_⟩
      refine ⟨_, _, rfl, .bl _, bool_fits _, ?_⟩
      generalize PyData.shown (.bool (fitR b n y s)) = zz
      exact ⟨rfl, _, rfl, iteFb (ne_self _) ⟨G7.trans (gr0 (g8.trans g9)), (M7.gr (g8.trans g9)).mono (by omega), _, _, _, rfl⟩⟩
    rintro σ H3 ⟨G3, M3, v13, v14, v15, rfl⟩
    have hts3 : H3 t = some (.tup (ov s)) := G3 t _ (M2.ne hts (by intro k z; cases z)) hts
    refine ⟨_, rfl, _, rfl, b, t, s, rfl, sq_tup hts3, hb, hSN, fun H4 g4 => ?_⟩
    have hts4 := g4 t _ (by simp) hts3
    refine ⟨_, _, rfl, dp_tup hts4 (dp_ov s), fs, ?_⟩
    rw [hks]
    refine ⟨_, rfl, rfl, _, rfl, iteTb (decide_eq_true rfl) ?_⟩
    refine ⟨_, rfl, _, _, rfl, dp_tup hts4 (dp_ov s), fs, ?_⟩
    rw [hks]
    refine ⟨_, rfl, rfl, ?_⟩
    rw [decide_eq_true rfl]
    exact q H4 ((k2.trans (Kp.ofM G3 (md M2))).trans (Kp.of g4)) (tabsGr (tabsGrM t2 G3 (md M2)) g4) ((M3.gr g4).mono (by show c0 + 40 + 2 * 4 ≤ c0 + 60; omega))

end
end Wn
namespace Wn
open PySem PySem.Spec PyProof.Rows L2
open LamX (Tabs ExtN tLam)
local macro_rules | `(tactic| walk_at "vc") => `(tactic| simp only [cxK, cxK2, start1, start2, start3, tRet, tRetN, tSeq, tNext, tIfS, tAsg, gName, tDrop, tVar, tC, tOp, tUn, tTest, tB, tNot, tAnd, tOr, tAndV, tOrV, tNotV, tIf, tCons, tNil, tCB, tCall, tChain, tAug, ipI, rI, rI0, rU, rIs, rGcd, rEq, rNe, scal,
  List.getElem?_cons_zero, List.getElem?_cons_succ, List.set_cons_zero, List.set_cons_succ, Option.some.injEq, List.cons.injEq, V.int.injEq, V.bl.injEq, V.ref.injEq, V.str.injEq, and_true, true_and, exists_eq_left, exists_eq_left', exists_and_left, exists_and_right, List.append_nil, List.nil_append, List.cons_append, exists_eq_right, exists_eq_right', and_assoc, exists_const, V.ty.injEq, ↓reduceIte, Bool.false_eq_true, Bool.not_true, Bool.not_false, decide_eq_true_eq])

section
variable {P : Program} {w : World} {K : PySem.W.Frag} {mg : Str → Option Value} {base : Heap}

def sp_law_hand (T : Txt K mg) : Sp := fun vs H Q _ => vs = [] ∧ Tabs (tl T) H ∧ ∀ H', Q (.bl true) H'
abbrev EF : XK := fun _ _ _ => False
theorem cut_dropL {xs : List V} {j : Nat} : cutV xs (some (j : Int)) none = xs.drop j := cut_hi'
theorem ew_dropL {W : List Addr} {te tp : TE} {σ : L2.St} {H : Hp} {ds : List PyData} {j : Nat} (h : EvW K W te σ H (.list ds)) (hp : EvW K W tp σ H (.int (j : Nat))) : EvW K W (tSl (rSlL K) te (tPart tp) tNoPart) σ H (.list (ds.drop j)) := fun H1 g s Q q =>
  h H1 g s _ fun v H2 g2 e => hp H2 (g.trans (gr0 g2)) (s.gr g2) _ fun vj H3 g3 ej => by
    obtain rfl := dp_int ej
    have e := Dp.kp (hid_kp (gr0 g3)) e
    cases e with
    | @lst a ys _ s' t =>
      refine ⟨(j : Int), rfl, a, ys, rfl, hid_out.sqL s', fun p np => ?_⟩
      refine q _ _ ((g2.trans g3).trans (Gr.new np)) (dp_lst (hid_get upd_same (((s.gr g2).gr g3).ne np)) ?_)
      rw [cut_hi']
      exact DpAll.kp (hid_kp (Gr.new np)) (dpA_drop j t)
theorem ew_rep {te ti : TE} {σ : L2.St} {H : Hp} {ds : List PyData} {k : Nat} (h : EvW K [] te σ H (.tuple ds)) (hi : EvW K [] ti σ H (.int (k : Nat))) (hk : 2 ≤ k ∧ k ≤ 1000 := by decide) (hd : ds ≠ [] := by simp) (hl : ds.length ≤ 1000 := by decide) : EvW K [] (tOp (rRepG K) te ti) σ H (.tuple (List.replicate k ds).flatten) := fun H1 g s Q q =>
  h H1 g s _ fun v H2 g2 e => hi H2 (g.trans g2) (s.gr g2) _ fun vi H3 g3 ei => by
    obtain rfl := dp_int ei
    have e := Dp.kp (hid_kp g3) e
    cases e with
    | @tup a ys _ s' t =>
      have hyl := dpAll_len t
      have hyn : ys ≠ [] := fun z => by
        rw [z] at hyl
        exact hd (List.length_eq_zero_iff.mp hyl.symm)
      refine ⟨a, (k : Int), ys, rfl, rfl, hid_out.sqT s', ⟨by omega, by omega, by omega⟩, fun z => (z.elim (fun z => absurd z (by omega)) (fun z => absurd z hyn)), fun _ _ p np => ?_⟩
      refine q _ _ ((g2.trans g3).trans (Gr.new np)) (dp_tup (hid_get upd_same (by simp)) ?_)
      rw [Int.toNat_natCast]
      exact DpAll.kp (hid_kp (Gr.new np)) (dpA_rep t k)
theorem stt_appW {T' : List (Addr × Str)} {σ : L2.St} {H : Hp} {te : TE} {i : Nat} {l : Addr} {xs : List V} {ds1 : List PyData} {w1 w2 : Str} {e1 e2 : PyData} {D : Ends} (t : Tabs T' H) (hi : σ[i]? = some (some (.ref l))) (e : H l = some (.lst xs)) (a : DpAll K H xs [.tuple ds1, .list [.str w1, e1]])
    (h : EvT K T' te σ H (.list [.str w2, e2])) (n0 : noLAll ds1 = true) (n1 : noL e1 = true) (n2 : noL e2 = true) (k : ∀ ys H2, Tabs T' H2 → H2 l = some (.lst ys) → DpAll K H2 ys [.tuple ds1, .list [.str w1, e1], .list [.str w2, e2]] → D.nx σ H2) : tDrop (tBM K "list" rAppend (tVar i) (tCons te tNil)) D σ H := by
  refine ⟨_, hi, .inl ⟨rfl, _, sq_lst e⟩, ?_⟩
  refine h H (ExtN.refl _) t _ fun v H2 g2 t2 dv => ?_
  have e2' := ExtN.lst g2 e
  have a2 := DpAll.kp (kpExt g2) a
  cases a2 with
  | cons d1 a2 =>
  cases a2 with
  | cons d2 a2 =>
  cases a2
  rename_i v1 v2
  obtain ⟨a1, rfl⟩ : ∃ a, v1 = .ref a := by
    cases d1
    exact ⟨_, rfl⟩
  refine ⟨l, _, v, rfl, rfl, e2', small5 (by show 2 ≤ 5000; decide), ?_⟩
  exact k _ _ (tabsApp t2 e2') upd_same (.cons (dp_app e2' d1 n0) (.cons (dp_word e2' d2 n1) (.cons (dp_word e2' dv n2) .nil)))
theorem dpA_ist {H : Hp} {vs : List V} {b m : Nat} {s : List (Option Nat)} (a : DpAll K H vs [.int (b : Nat), .tuple (od s), .int (m : Nat)]) : ∃ p, vs = [.int b, .ref p, .int m] ∧ SqT K H p (ov s) := by
  cases a with
  | cons d1 a =>
  cases a with
  | cons d2 a =>
  cases a with
  | cons d3 a =>
  cases a
  obtain rfl := dp_int d1
  obtain rfl := dp_int d3
  cases d2 with
  | tup so a =>
    obtain rfl := dpA_ov a
    exact ⟨_, rfl, so⟩
theorem dpA_istc {H : Hp} {vs : List V} {b m c : Nat} {s : List (Option Nat)} (a : DpAll K H vs [.int (b : Nat), .tuple (od s), .int (m : Nat), .int (c : Nat)]) : ∃ p, vs = [.int b, .ref p, .int m, .int c] ∧ SqT K H p (ov s) := by
  cases a with
  | cons d1 a =>
  cases a with
  | cons d2 a =>
  cases a with
  | cons d3 a =>
  cases a with
  | cons d4 a =>
  cases a
  obtain rfl := dp_int d1
  obtain rfl := dp_int d3
  obtain rfl := dp_int d4
  cases d2 with
  | tup so a =>
    obtain rfl := dpA_ov a
    exact ⟨_, rfl, so⟩
def snB (b : Nat) (s : List (Option Nat)) : Bool := decide (2 ≤ b ∧ b ≤ 1000) && decide (1 ≤ s.length ∧ s.length ≤ 20) && s.all fun o => match o with
  | none => true
  | some k => decide (k < b)
theorem sn_of {b : Nat} {s : List (Option Nat)} (h : snB b s = true) : (2 ≤ b ∧ b ≤ 1000) ∧ SN b s := by
  unfold snB at h
  simp only [Bool.and_eq_true, decide_eq_true_eq] at h
  refine ⟨h.1.1, h.1.2, fun k hk => ?_⟩
  have := List.all_eq_true.mp h.2 _ hk
  exact of_decide_eq_true this
theorem spd_fitting {T : Txt K mg} {E : XK} {b m : Nat} {s : List (Option Nat)} {rs : List (Nat × Nat)} (hb : snB b s = true) (hm : 1 ≤ m ∧ m ≤ 200) (hr : fitL b s m = rs) (hl : rs.length ≤ 1000) : SpD K (sp_fitting T) E [.int (b : Nat), .tuple (od s), .int (m : Nat)] (.tuple (rs.map prD)) := fun vs H1 Q a q => by
  obtain ⟨p, rfl, so⟩ := dpA_ist a
  obtain ⟨h1, h2⟩ := sn_of hb
  refine ⟨b, m, p, s, rfl, so, h1, h2, hm, fun _ v H' g d => q v H' g (by rw [hr] at d; exact d), fun z => absurd z (by rw [hr]; omega)⟩
theorem spd_simplest {b m : Nat} {s : List (Option Nat)} {r : PyData} (hb : snB b s = true) (hm : 1 ≤ m ∧ m ≤ 200) (hr : fstD (fitL b s m) = r) : SpD K (sp_simplest K) E0 [.int (b : Nat), .tuple (od s), .int (m : Nat)] r := fun vs H1 Q a q => by
  obtain ⟨p, rfl, so⟩ := dpA_ist a
  obtain ⟨h1, h2⟩ := sn_of hb
  subst hr
  exact ⟨b, m, p, s, rfl, so, h1, h2, hm, q⟩
theorem spd_sure {T : Txt K mg} {E : XK} {b m c : Nat} {s r : List (Option Nat)} (hb : snB b s = true) (hm : 1 ≤ m ∧ m ≤ 200) (hc : c ≤ 60) (hn : fitL b s m ≠ []) (hr : sureL b c (fitL b s m) = r) : SpD K (sp_sure_digits T) E [.int (b : Nat), .tuple (od s), .int (m : Nat), .int (c : Nat)] (.tuple (od r)) := fun vs H1 Q a q => by
  obtain ⟨p, rfl, so⟩ := dpA_istc a
  obtain ⟨h1, h2⟩ := sn_of hb
  subst hr
  exact ⟨b, m, c, p, s, rfl, so, h1, h2, hm, hc, fun _ => q, fun z => absurd z hn⟩
theorem spd_fits {b x n : Nat} {s : List (Option Nat)} {r : Bool} (hb : snB b s = true) (hx : (decide (x < n) && decide (n ≤ 5000) && Nat.gcd x n == 1) = true) (hr : fitR b n x s = r) {σ : L2.St} {H : Hp} {ta : TE} (h : EvW K [] ta σ H (.tuple (od s))) :
    EvW K [] (tCall (sp_fits K) [] E0 (tCons (tC (.int (b : Nat))) (tCons (tTup (tCons (tC (.int (x : Nat))) (tCons (tC (.int (n : Nat))) tNil))) (tCons ta tNil)))) σ H (.bool r) := fun H1 g s0 Q q => by
  refine ⟨by show 2 ≤ sizeLine; decide, fun p np => ?_⟩
  have gp := Gr.new (W := []) (o := .tup [.int (x : Nat), .int (n : Nat)]) np
  have hp : (upd H1 p (.tup [.int (x : Nat), .int (n : Nat)])) p = some (.tup [.int (x : Nat), .int (n : Nat)]) := upd_same
  generalize upd H1 p (.tup [.int (x : Nat), .int (n : Nat)]) = H2 at gp hp ⊢
  refine h H2 (g.trans gp) (s0.gr gp) _ fun v H3 g3 d3 => ?_
  have d3 := Dp.kp hid_out d3
  cases d3 with
  | tup so a =>
    obtain rfl := dpA_ov a
    obtain ⟨h1, h2⟩ := sn_of hb
    simp only [Bool.and_eq_true, decide_eq_true_eq, beq_iff_eq] at hx
    subst hr
    exact ⟨b, x, n, p, _, s, rfl, g3 p _ (by simp) hp, so, h1, h2, ⟨hx.1.1, hx.1.2, hx.2⟩, fun H' g' => q _ H' ((gp.trans g3).trans g') (.bl _)⟩
theorem spx_fitting {T : Txt K mg} {E : XK} {b m : Nat} {s : List (Option Nat)} {p : Addr} {H1 : Hp} {Q : VK} (hb : snB b s = true) (hm : 1 ≤ m ∧ m ≤ 200) (hl : 1000 < (fitL b s m).length) (so : SqT K H1 p (ov s))
    (ke : ∀ (dd : Addr) (v : V) H2, Gr [] H1 H2 → H2 dd = some (.xd [("most", v)]) → Dp K H2 v (.int 1000) → E (.ref T.C_TooGreat) (some dd) H2) : sp_fitting T [.int (b : Nat), .ref p, .int (m : Nat)] H1 Q E := by
  obtain ⟨h1, h2⟩ := sn_of hb
  exact ⟨b, m, p, s, rfl, so, h1, h2, hm, fun z => absurd z (by omega), fun _ H2 dd g nd => ke dd _ _ (g.trans (Gr.new nd)) upd_same (.int _)⟩
theorem spx_sure {T : Txt K mg} {E : XK} {b m c : Nat} {s : List (Option Nat)} {p : Addr} {H1 : Hp} {Q : VK} (hb : snB b s = true) (hm : 1 ≤ m ∧ m ≤ 200) (hc : c ≤ 60) (hl : fitL b s m = []) (so : SqT K H1 p (ov s))
    (ke : ∀ (dd : Addr) (v : V) H2, Gr [] H1 H2 → H2 dd = some (.xd [("value", v)]) → Dp K H2 v (.tuple (od s)) → E (.ref T.C_Nothing) (some dd) H2) : sp_sure_digits T [.int (b : Nat), .ref p, .int (m : Nat), .int (c : Nat)] H1 Q E := by
  obtain ⟨h1, h2⟩ := sn_of hb
  exact ⟨b, m, c, p, s, rfl, so, h1, h2, hm, hc, fun z => absurd hl z, fun _ H2 dd g nd => ke dd _ _ (g.trans (Gr.new nd)) upd_same (.tup ((Kp.of (g.trans (Gr.new nd))).sqT so) (dp_ov s))⟩
theorem fv0 : fitL 10 ([some 1, some 4] : List (Option Nat)) 10 = ([(1, 7)] : List (Nat × Nat)) := by decide +kernel
theorem fv1 : fitL 10 ([none, none] : List (Option Nat)) 3 = ([(0, 1), (1, 2), (1, 3), (2, 3)] : List (Nat × Nat)) := by decide +kernel
theorem sv0 : (fitL 10 ([some 1, some 4, some 3] : List (Option Nat)) 200).head? = some (19, 132) := by decide +kernel
theorem sv1 : (fitL 10 ([some 3] : List (Option Nat)) 20).head? = some (1, 3) := by decide +kernel
theorem sv2 : (fitL 10 ([none, some 4, none, some 8] : List (Option Nat)) 20).head? = some (1, 7) := by decide +kernel
theorem sv3 : (fitL 10 ([some 9, some 9, some 9] : List (Option Nat)) 60).head? = none := by decide +kernel
theorem sv4 : (fitL 10 ([none] : List (Option Nat)) 1).head? = some (0, 1) := by decide +kernel
theorem fst_of {rs : List (Nat × Nat)} {x n : Nat} (h : rs.head? = some (x, n)) : fstD rs = .tuple [.int (x : Nat), .int (n : Nat)] := by
  cases rs with
  | nil => cases h
  | cons r rs =>
    have h := Option.some.inj h
    subst h
    rfl
theorem fst_no {rs : List (Nat × Nat)} (h : rs.head? = none) : fstD rs = .none := by
  cases rs with
  | nil => rfl
  | cons r rs => cases h
theorem ne_of_head {rs : List (Nat × Nat)} {r : Nat × Nat} (h : rs.head? = some r) : rs ≠ [] := fun z => by
  rw [z] at h
  cases h
theorem un0 : (fitL 10 ([some 1, some 4, some 2] : List (Option Nat)) 20).head? = some (1, 7) := by decide +kernel
theorem uv0 : sureL 10 8 (fitL 10 ([some 1, some 4, some 2] : List (Option Nat)) 20) = ([some 1, some 4, some 2, some 8, some 5, some 7, some 1, some 4] : List (Option Nat)) := by decide +kernel
theorem un1 : (fitL 10 ([none] : List (Option Nat)) 2).head? = some (0, 1) := by decide +kernel
theorem uv1 : sureL 10 3 (fitL 10 ([none] : List (Option Nat)) 2) = ([none, some 0, some 0] : List (Option Nat)) := by decide +kernel
theorem un2 : (fitL 10 ([some 0, some 0, some 0, some 0, some 0, some 0, some 0, some 0, some 0, some 0, some 0, some 0, some 0, some 0, some 0, some 0, some 0, some 0, some 0, some 0] : List (Option Nat)) 200).head? = some (0, 1) := by decide +kernel
theorem uv2 : sureL 10 60 (fitL 10 ([some 0, some 0, some 0, some 0, some 0, some 0, some 0, some 0, some 0, some 0, some 0, some 0, some 0, some 0, some 0, some 0, some 0, some 0, some 0, some 0] : List (Option Nat)) 200) = ([some 0, some 0, some 0, some 0, some 0, some 0, some 0, some 0, some 0, some 0, some 0, some 0, some 0, some 0, some 0, some 0, some 0, some 0, some 0, some 0, some 0, some 0, some 0, some 0, some 0, some 0, some 0, some 0, some 0, some 0, some 0, some 0, some 0, some 0, some 0, some 0, some 0, some 0, some 0, some 0, some 0, some 0, some 0, some 0, some 0, some 0, some 0, some 0, some 0, some 0, some 0, some 0, some 0, some 0, some 0, some 0, some 0, some 0, some 0, some 0] : List (Option Nat)) := by decide +kernel
theorem un3 : (fitL 10 ([some 5] : List (Option Nat)) 2).head? = some (1, 2) := by decide +kernel
theorem uv3 : sureL 10 0 (fitL 10 ([some 5] : List (Option Nat)) 2) = ([] : List (Option Nat)) := by decide +kernel
theorem un4 : (fitL 10 ([none] : List (Option Nat)) 60).head? = some (0, 1) := by decide +kernel
theorem uv4 : sureL 10 2 (fitL 10 ([none] : List (Option Nat)) 60) = ([none, none] : List (Option Nat)) := by decide +kernel
theorem un5 : (fitL 10 ([some 0] : List (Option Nat)) 40).head? = some (0, 1) := by decide +kernel
theorem uv5 : sureL 10 2 (fitL 10 ([some 0] : List (Option Nat)) 40) = ([some 0, none] : List (Option Nat)) := by decide +kernel
theorem f57 : (fitL 10 [none] 57).length = 1000 := by decide +kernel
theorem f58 : 1000 < (fitL 10 [none] 58).length := by decide +kernel
theorem f999 : fitL 10 [some 9, some 9, some 9] 60 = [] := by decide +kernel

end
end Wn
namespace Wn
open PySem PySem.Spec PyProof.Rows L2
open LamX (Tabs ExtN tLam)
local macro_rules | `(tactic| walk_at "vc") => `(tactic| simp only [cxK, cxK2, start1, start2, start3, tRet, tRetN, tSeq, tNext, tIfS, tAsg, gName, tDrop, tVar, tC, tOp, tUn, tTest, tB, tNot, tAnd, tOr, tAndV, tOrV, tNotV, tIf, tCons, tNil, tCB, tCall, tChain, tAug, ipI, rI, rI0, rU, rIs, rGcd, rEq, rNe, scal,
  List.getElem?_cons_zero, List.getElem?_cons_succ, List.set_cons_zero, List.set_cons_succ, Option.some.injEq, List.cons.injEq, V.int.injEq, V.bl.injEq, V.ref.injEq, V.str.injEq, and_true, true_and, exists_eq_left, exists_eq_left', exists_and_left, exists_and_right, List.append_nil, List.nil_append, List.cons_append, exists_eq_right, exists_eq_right', and_assoc, exists_const, V.ty.injEq, ↓reduceIte, Bool.false_eq_true, Bool.not_true, Bool.not_false, decide_eq_true_eq])

section
variable {P : Program} {w : World} {K : PySem.W.Frag} {mg : Str → Option Value} {base : Heap}

theorem sm_bool (z : Bool) : Sm (.bool z) 13 0 60 := by
  cases z <;> exact ⟨by decide +kernel, by decide +kernel, by decide +kernel, by decide +kernel, by decide +kernel, by decide +kernel⟩
theorem fB : Fits (.list [.bool true, .bool true, .bool false]) := (Sm.lst (D := 0) (W := 60) 3 (fun x hx => by
  simp only [List.mem_cons, List.not_mem_nil, or_false] at hx
  rcases hx with rfl | rfl | rfl
  · exact sm_bool _
  · exact sm_bool _
  · exact sm_bool _) (Nat.le_refl _)).fits
theorem okG_law_hand_right (T : Txt K mg) (B : Tbs T base) : FnG P w K mg base CX0 13 T.d_law_hand_right.f T.d_law_hand_right.fd [] (sp_law_hand T) := by
  refine fnGc0 T.d_law_hand_right.F sc_law_hand_right (fun vs H Q E h => ?_) (fun cdv A outer s H vs Q E hcc hgd hr h => ?_)
  · obtain ⟨rfl, _⟩ := h; rfl
  · have hu := hu_of hr
    have hcode : cdv = .ref T.k_law_hand_right := hcc.symm.trans T.e_law_hand_right
    refine ⟨_, (pss_cons (ps_if (PW.pt (pw_or (pt_cmpR (r := rNeD K) (op_neD hr.units) (pe_call (okX_fitting T) (hr.mono (by decide)) (by rfl) T.d_fitting.m T.d_fitting.F.kp T.d_fitting.b .nil (passes_call takes0 (fun _ _ _ _ z => z)) (pa_cons pe_int (pa_cons (pe_tup (pa_cons pe_int (pa_cons pe_int pa_nil))) (pa_cons pe_int pa_nil)))) (pe_tup (pa_cons (pe_tup (pa_cons pe_int (pa_cons pe_int pa_nil))) pa_nil)) (nomark _)) (pw_or1 (pt_cmpR (r := rNeD K) (op_neD hr.units) (pe_call (ok_simplest T) (hr.mono (by decide)) (by rfl) T.d_simplest.m T.d_simplest.F.kp T.d_simplest.b .nil pass0 (pa_cons pe_int (pa_cons (pe_tup (pa_cons pe_int (pa_cons pe_int (pa_cons pe_int pa_nil)))) (pa_cons pe_int pa_nil)))) (pe_tup (pa_cons pe_int (pa_cons pe_int pa_nil))) (nomark _))))) (pss_one (ps_ret pe_bl)) pss_nil)
      (pss_cons (ps_set (i := 0) sc_law_hand_right.nd rfl (by first | exact .inl rfl | exact .inr rfl) (pe_lst (pa_cons (pe_call (ok_simplest T) (hr.mono (by decide)) (by rfl) T.d_simplest.m T.d_simplest.F.kp T.d_simplest.b .nil pass0 (pa_cons pe_int (pa_cons (pe_tup (pa_cons pe_int pa_nil)) (pa_cons pe_int pa_nil)))) (pa_cons (pe_call (ok_simplest T) (hr.mono (by decide)) (by rfl) T.d_simplest.m T.d_simplest.F.kp T.d_simplest.b .nil pass0 (pa_cons pe_int (pa_cons (pe_tup (pa_cons pe_non (pa_cons pe_int (pa_cons pe_non (pa_cons pe_int pa_nil))))) (pa_cons pe_int pa_nil)))) (pa_cons (pe_call (ok_simplest T) (hr.mono (by decide)) (by rfl) T.d_simplest.m T.d_simplest.F.kp T.d_simplest.b .nil pass0 (pa_cons pe_int (pa_cons (pe_tup (pa_cons pe_int (pa_cons pe_int (pa_cons pe_int pa_nil)))) (pa_cons pe_int pa_nil)))) pa_nil)))))
      (pss_cons (ps_expr (pe_bm PySem.F.plainAttrs_list PySem.F.slot_list_append PySem.F.type_list_append mt_append (pv 0) (pa_cons (pe_call (ok_simplest T) (hr.mono (by decide)) (by rfl) T.d_simplest.m T.d_simplest.F.kp T.d_simplest.b .nil pass0 (pa_cons pe_int (pa_cons (pe_tup (pa_cons pe_non pa_nil)) (pa_cons pe_int pa_nil)))) pa_nil)))
      (pss_cons (ps_if (PW.pt (pw_or (pt_cmpR (r := rNeD K) (op_neD hr.units) (pv 0) (pe_lst (pa_cons (pe_tup (pa_cons pe_int (pa_cons pe_int pa_nil))) (pa_cons (pe_tup (pa_cons pe_int (pa_cons pe_int pa_nil))) (pa_cons pe_non (pa_cons (pe_tup (pa_cons pe_int (pa_cons pe_int pa_nil))) pa_nil))))) (nomark _)) (pw_or1 (pt_cmpR (r := rNeD K) (op_neD hr.units) (pe_call (okX_fitting T) (hr.mono (by decide)) (by rfl) T.d_fitting.m T.d_fitting.F.kp T.d_fitting.b .nil (passes_call takes0 (fun _ _ _ _ z => z)) (pa_cons pe_int (pa_cons (pe_tup (pa_cons pe_non (pa_cons pe_non pa_nil))) (pa_cons pe_int pa_nil)))) (pe_tup (pa_cons (pe_tup (pa_cons pe_int (pa_cons pe_int pa_nil))) (pa_cons (pe_tup (pa_cons pe_int (pa_cons pe_int pa_nil))) (pa_cons (pe_tup (pa_cons pe_int (pa_cons pe_int pa_nil))) (pa_cons (pe_tup (pa_cons pe_int (pa_cons pe_int pa_nil))) pa_nil))))) (nomark _))))) (pss_one (ps_ret pe_bl)) pss_nil)
      (pss_cons (ps_set (i := 0) sc_law_hand_right.nd rfl (by first | exact .inl rfl | exact .inr rfl) (pe_lst (pa_cons (pe_call (okX_sure_digits T) (hr.mono (by decide)) (by rfl) T.d_sure_digits.m T.d_sure_digits.F.kp T.d_sure_digits.b .nil (passes_call takes0 (fun _ _ _ _ z => z)) (pa_cons pe_int (pa_cons (pe_tup (pa_cons pe_int (pa_cons pe_int (pa_cons pe_int pa_nil)))) (pa_cons pe_int (pa_cons pe_int pa_nil))))) (pa_cons (pe_call (okX_sure_digits T) (hr.mono (by decide)) (by rfl) T.d_sure_digits.m T.d_sure_digits.F.kp T.d_sure_digits.b .nil (passes_call takes0 (fun _ _ _ _ z => z)) (pa_cons pe_int (pa_cons (pe_tup (pa_cons pe_non pa_nil)) (pa_cons pe_int (pa_cons pe_int pa_nil))))) (pa_cons (pe_call (okX_sure_digits T) (hr.mono (by decide)) (by rfl) T.d_sure_digits.m T.d_sure_digits.F.kp T.d_sure_digits.b .nil (passes_call takes0 (fun _ _ _ _ z => z)) (pa_cons pe_int (pa_cons (pe_op (r := rRepG K) op_repG (pe_tup (pa_cons pe_int pa_nil)) pe_int) (pa_cons pe_int (pa_cons pe_int pa_nil))))) pa_nil)))))
      (pss_cons (ps_if (PW.pt (pw_or (pt_cmpR (r := rNeD K) (op_neD hr.units) (pv 0) (pe_lst (pa_cons (pe_tup (pa_cons pe_int (pa_cons pe_int (pa_cons pe_int (pa_cons pe_int (pa_cons pe_int (pa_cons pe_int (pa_cons pe_int (pa_cons pe_int pa_nil))))))))) (pa_cons (pe_tup (pa_cons pe_non (pa_cons pe_int (pa_cons pe_int pa_nil)))) (pa_cons (pe_op (r := rRepG K) op_repG (pe_tup (pa_cons pe_int pa_nil)) pe_int) pa_nil)))) (nomark _)) (pw_or1 (pt_cmpR (r := rNeD K) (op_neD hr.units) (pe_call (okX_sure_digits T) (hr.mono (by decide)) (by rfl) T.d_sure_digits.m T.d_sure_digits.F.kp T.d_sure_digits.b .nil (passes_call takes0 (fun _ _ _ _ z => z)) (pa_cons pe_int (pa_cons (pe_tup (pa_cons pe_int pa_nil)) (pa_cons pe_int (pa_cons pe_int pa_nil))))) (pe_tup pa_nil) (nomark _))))) (pss_one (ps_ret pe_bl)) pss_nil)
      (pss_cons (ps_set (i := 0) sc_law_hand_right.nd rfl (by first | exact .inl rfl | exact .inr rfl) (pe_lst (pa_cons (pe_outc (T := tl T) (TT := TTout T) (k := 8) (by rfl) T.d_law_heard.m T.d_law_heard.F.kp T.d_law_heard.F rfl T.d_law_heard.b sc_law_heard rfl (by first | exact .inl rfl | exact .inr (.inl rfl)) (gives_out T rfl rfl) (fun pins σ H s Q I hT h => lam_plain I (B.tb_law_hand_right) hcode (hm_law_hand_right T) (hu_law_hand_right T) hT rfl (LamD.has (lamD_by (N := ["told"]) (sc := defScope s_law_hand_right) (by decide +kernel)) I.ok) (fun _ _ _ _ _ _ => rfl) h) (hr.mono (by decide)) (lamD_by (N := ["told"]) (sc := defScope s_law_hand_right) (by decide +kernel)) (fun _ _ _ _ _ _ _ hr => (pe_call (okX_fitting T) (hr.mono (by decide)) (by rfl) T.d_fitting.m T.d_fitting.F.kp T.d_fitting.b .nil (passes_call (takes_of rfl rfl rfl rfl) (fun _ _ _ _ z => z)) (pa_cons pe_int (pa_cons (pe_tup (pa_cons pe_non pa_nil)) (pa_cons pe_int pa_nil)))))) (pa_cons (pe_outc (T := tl T) (TT := TTout T) (k := 8) (by rfl) T.d_law_heard.m T.d_law_heard.F.kp T.d_law_heard.F rfl T.d_law_heard.b sc_law_heard rfl (by first | exact .inl rfl | exact .inr (.inl rfl)) (gives_out T rfl rfl) (fun pins σ H s Q I hT h => lam_dflt I (B.tb_law_hand_right) hcode (hm_law_hand_right T) (hu_law_hand_right T) hT rfl rfl (LamD.has (lamD_by (N := ["told"]) (sc := defScope s_law_hand_right) (by decide +kernel)) I.ok) (fun _ _ _ _ _ _ _ _ => ⟨_, rfl, rfl⟩) rfl (fun _ _ z => z) h) (hr.mono (by decide)) (lamD_by (N := ["told"]) (sc := defScope s_law_hand_right) (by decide +kernel)) (fun _ _ _ _ _ _ _ hr => (pe_call (okX_fitting T) (hr.mono (by decide)) (by rfl) T.d_fitting.m T.d_fitting.F.kp T.d_fitting.b .nil (passes_call (takes_of rfl rfl rfl rfl) (fun _ _ _ _ z => z)) (pa_cons pe_int (pa_cons (pe_tup (pa_cons pe_non pa_nil)) (pa_cons pe_int pa_nil)))))) pa_nil))))
      (pss_cons (ps_expr (pe_bm PySem.F.plainAttrs_list PySem.F.slot_list_append PySem.F.type_list_append mt_append (pv 0) (pa_cons (pe_outc (T := tl T) (TT := TTout T) (k := 8) (by rfl) T.d_law_heard.m T.d_law_heard.F.kp T.d_law_heard.F rfl T.d_law_heard.b sc_law_heard rfl (by first | exact .inl rfl | exact .inr (.inl rfl)) (gives_out T rfl rfl) (fun pins σ H s Q I hT h => lam_plain I (B.tb_law_hand_right) hcode (hm_law_hand_right T) (hu_law_hand_right T) hT rfl (LamD.has (lamD_by (N := ["told"]) (sc := defScope s_law_hand_right) (by decide +kernel)) I.ok) (fun _ _ _ _ _ _ => rfl) h) (hr.mono (by decide)) (lamD_by (N := ["told"]) (sc := defScope s_law_hand_right) (by decide +kernel)) (fun _ _ _ _ _ _ _ hr => (pe_call (okX_sure_digits T) (hr.mono (by decide)) (by rfl) T.d_sure_digits.m T.d_sure_digits.F.kp T.d_sure_digits.b .nil (passes_call (takes_of rfl rfl rfl rfl) (fun _ _ _ _ z => z)) (pa_cons pe_int (pa_cons (pe_tup (pa_cons pe_int (pa_cons pe_int (pa_cons pe_int pa_nil)))) (pa_cons pe_int (pa_cons pe_int pa_nil))))))) pa_nil)))
      (pss_cons (ps_if (PW.pt (pw_or (pt_cmpR (r := rNeD K) (op_neD hr.units) (pe_slice (r := rSlL K) sl_list (pv 0) (po_some pe_int) po_none) (pe_lst (pa_cons (pe_lst (pa_cons pe_str (pa_cons pe_int pa_nil))) (pa_cons (pe_lst (pa_cons pe_str (pa_cons (pe_tup (pa_cons pe_int (pa_cons pe_int (pa_cons pe_int pa_nil)))) pa_nil))) pa_nil))) (nomark _)) (pw_or1 (pt_cmpR op_ne (pe_callB (r := rLn K) call_ln (by rfl) T.b_len PySem.boot_len (pa_cons (pe_ix (r := rIxL K) ix_list (pv 0) pe_int (fun _ _ => rfl)) pa_nil)) pe_int (nomark _))))) (pss_one (ps_ret pe_bl)) pss_nil)
      (pss_cons (ps_if (PW.pt (pw_or (pt_cmpR (r := rNeD K) (op_neD hr.units) (pe_call (okX_sure_digits T) (hr.mono (by decide)) (by rfl) T.d_sure_digits.m T.d_sure_digits.F.kp T.d_sure_digits.b .nil (passes_call takes0 (fun _ _ _ _ z => z)) (pa_cons pe_int (pa_cons (pe_tup (pa_cons pe_non pa_nil)) (pa_cons pe_int (pa_cons pe_int pa_nil))))) (pe_tup (pa_cons pe_non (pa_cons pe_non pa_nil))) (nomark _)) (pw_or1 (pt_cmpR (r := rNeD K) (op_neD hr.units) (pe_call (okX_sure_digits T) (hr.mono (by decide)) (by rfl) T.d_sure_digits.m T.d_sure_digits.F.kp T.d_sure_digits.b .nil (passes_call takes0 (fun _ _ _ _ z => z)) (pa_cons pe_int (pa_cons (pe_tup (pa_cons pe_int pa_nil)) (pa_cons pe_int (pa_cons pe_int pa_nil))))) (pe_tup (pa_cons pe_int (pa_cons pe_non pa_nil))) (nomark _))))) (pss_one (ps_ret pe_bl)) pss_nil)
      (pss_cons (ps_set (i := 0) sc_law_hand_right.nd rfl (by first | exact .inl rfl | exact .inr rfl) (pe_lst (pa_cons (pe_call (ok_fits T) (hr.mono (by decide)) (by rfl) T.d_fits.m T.d_fits.F.kp T.d_fits.b .nil pass0 (pa_cons pe_int (pa_cons (pe_tup (pa_cons pe_int (pa_cons pe_int pa_nil))) (pa_cons (pe_tup (pa_cons pe_int (pa_cons pe_int (pa_cons pe_int (pa_cons pe_non (pa_cons pe_int pa_nil)))))) pa_nil)))) (pa_cons (pe_call (ok_fits T) (hr.mono (by decide)) (by rfl) T.d_fits.m T.d_fits.F.kp T.d_fits.b .nil pass0 (pa_cons pe_int (pa_cons (pe_tup (pa_cons pe_int (pa_cons pe_int pa_nil))) (pa_cons (pe_op (r := rRepG K) op_repG (pe_tup (pa_cons pe_int (pa_cons pe_int pa_nil))) pe_int) pa_nil)))) (pa_cons (pe_call (ok_fits T) (hr.mono (by decide)) (by rfl) T.d_fits.m T.d_fits.F.kp T.d_fits.b .nil pass0 (pa_cons pe_int (pa_cons (pe_tup (pa_cons pe_int (pa_cons pe_int pa_nil))) (pa_cons (pe_tup (pa_cons pe_int (pa_cons pe_int pa_nil))) pa_nil)))) pa_nil)))))
      (pss_one (ps_ret (pe_cmpR op_eq (pe_callB (r := rRepr K) (call_repr hgd (gu_of hr)) (by rfl) T.b_repr (by decide +kernel) (pa_cons (pv 0) pa_nil)) (pe_callB (r := rRepr K) (call_repr hgd (gu_of hr)) (by rfl) T.b_repr (by decide +kernel) (pa_cons (pe_lst (pa_cons pe_bl (pa_cons pe_bl (pa_cons pe_bl pa_nil)))) pa_nil)) (nomark _))))))))))))))), ?_⟩
    obtain ⟨rfl, t0, q⟩ := h
    refine ttt_orL (K := K) t0 (et_ew fun _ => (ew_neD (ew_to (ew_call (esw_cons ew_int (esw_cons (ew_tup (esw_cons ew_int (esw_cons ew_int esw_nil))) (esw_cons ew_int esw_nil))) (spd_fitting (T := T) (E := EF) (b := 10) (m := 10) (s := [some 1, some 4]) (by decide) (by decide) fv0 (by decide))) rfl) (ew_tup (esw_cons (ew_tup (esw_cons ew_int (esw_cons ew_int esw_nil))) esw_nil)) (by decide +kernel) (by decide +kernel))) (by decide +kernel) fun H1 g1 t1 => ?_
    refine ttt_of (K := K) t1 (et_ew fun _ => (ew_neD (ew_call (esw_cons ew_int (esw_cons (ew_tup (esw_cons ew_int (esw_cons ew_int (esw_cons ew_int esw_nil)))) (esw_cons ew_int esw_nil))) (spd_simplest (b := 10) (m := 200) (s := [some 1, some 4, some 3]) (by decide) (by decide) (fst_of sv0))) (ew_tup (esw_cons ew_int (esw_cons ew_int esw_nil))) (by decide +kernel) (by decide +kernel))) (ExtN.refl _) fun H2 g2 t2 => ?_
    refine iteFb (by decide +kernel) ?_
    refine stt_asgL (K := K) t2 (el_of fun _ => el_lstW (esw_cons (ew_call (esw_cons ew_int (esw_cons (ew_tup (esw_cons ew_int esw_nil)) (esw_cons ew_int esw_nil))) (spd_simplest (b := 10) (m := 20) (s := [some 3]) (by decide) (by decide) (fst_of sv1))) (esw_cons (ew_call (esw_cons ew_int (esw_cons (ew_tup (esw_cons ew_non (esw_cons ew_int (esw_cons ew_non (esw_cons ew_int esw_nil))))) (esw_cons ew_int esw_nil))) (spd_simplest (b := 10) (m := 20) (s := [none, some 4, none, some 8]) (by decide) (by decide) (fst_of sv2))) (esw_cons (ew_call (esw_cons ew_int (esw_cons (ew_tup (esw_cons ew_int (esw_cons ew_int (esw_cons ew_int esw_nil)))) (esw_cons ew_int esw_nil))) (spd_simplest (b := 10) (m := 60) (s := [some 9, some 9, some 9]) (by decide) (by decide) (fst_no sv3))) esw_nil)))) fun l3 xs3 H3 g3 t3 e3 a3 => ?_
    refine stt_app (K := K) t3 rfl e3 a3 (et_ew fun _ => (ew_call (esw_cons ew_int (esw_cons (ew_tup (esw_cons ew_non esw_nil)) (esw_cons ew_int esw_nil))) (spd_simplest (b := 10) (m := 1) (s := [none]) (by decide) (by decide) (fst_of sv4)))) (by decide +kernel) (by decide) fun xs4 H4 t4 e4 a4 => ?_
    refine ttt_orL (K := K) t4 (et_ne (et_var rfl (dp_lst e4 a4)) (et_ew fun _ => (ew_lst (esw_cons (ew_tup (esw_cons ew_int (esw_cons ew_int esw_nil))) (esw_cons (ew_tup (esw_cons ew_int (esw_cons ew_int esw_nil))) (esw_cons ew_non (esw_cons (ew_tup (esw_cons ew_int (esw_cons ew_int esw_nil))) esw_nil)))))) (by decide +kernel) (by decide +kernel)) (by decide +kernel) fun H5 g5 t5 => ?_
    refine ttt_of (K := K) t5 (et_ew fun _ => (ew_neD (ew_to (ew_call (esw_cons ew_int (esw_cons (ew_tup (esw_cons ew_non (esw_cons ew_non esw_nil))) (esw_cons ew_int esw_nil))) (spd_fitting (T := T) (E := EF) (b := 10) (m := 3) (s := [none, none]) (by decide) (by decide) fv1 (by decide))) rfl) (ew_tup (esw_cons (ew_tup (esw_cons ew_int (esw_cons ew_int esw_nil))) (esw_cons (ew_tup (esw_cons ew_int (esw_cons ew_int esw_nil))) (esw_cons (ew_tup (esw_cons ew_int (esw_cons ew_int esw_nil))) (esw_cons (ew_tup (esw_cons ew_int (esw_cons ew_int esw_nil))) esw_nil))))) (by decide +kernel) (by decide +kernel))) (ExtN.refl _) fun H6 g6 t6 => ?_
    refine iteFb (by decide +kernel) ?_
    refine stt_asgL (K := K) t6 (el_of fun _ => el_lstW (esw_cons (ew_to (ew_call (esw_cons ew_int (esw_cons (ew_tup (esw_cons ew_int (esw_cons ew_int (esw_cons ew_int esw_nil)))) (esw_cons ew_int (esw_cons ew_int esw_nil)))) (spd_sure (T := T) (E := EF) (b := 10) (m := 20) (c := 8) (s := [some 1, some 4, some 2]) (r := [some 1, some 4, some 2, some 8, some 5, some 7, some 1, some 4]) (by decide) (by decide) (by decide) (ne_of_head un0) uv0)) rfl) (esw_cons (ew_to (ew_call (esw_cons ew_int (esw_cons (ew_tup (esw_cons ew_non esw_nil)) (esw_cons ew_int (esw_cons ew_int esw_nil)))) (spd_sure (T := T) (E := EF) (b := 10) (m := 2) (c := 3) (s := [none]) (r := [none, some 0, some 0]) (by decide) (by decide) (by decide) (ne_of_head un1) uv1)) rfl) (esw_cons (ew_to (ew_call (esw_cons ew_int (esw_cons (ew_to (ew_rep (ew_tup (esw_cons ew_int esw_nil)) ew_int) rfl) (esw_cons ew_int (esw_cons ew_int esw_nil)))) (spd_sure (T := T) (E := EF) (b := 10) (m := 200) (c := 60) (s := [some 0, some 0, some 0, some 0, some 0, some 0, some 0, some 0, some 0, some 0, some 0, some 0, some 0, some 0, some 0, some 0, some 0, some 0, some 0, some 0]) (r := [some 0, some 0, some 0, some 0, some 0, some 0, some 0, some 0, some 0, some 0, some 0, some 0, some 0, some 0, some 0, some 0, some 0, some 0, some 0, some 0, some 0, some 0, some 0, some 0, some 0, some 0, some 0, some 0, some 0, some 0, some 0, some 0, some 0, some 0, some 0, some 0, some 0, some 0, some 0, some 0, some 0, some 0, some 0, some 0, some 0, some 0, some 0, some 0, some 0, some 0, some 0, some 0, some 0, some 0, some 0, some 0, some 0, some 0, some 0, some 0]) (by decide) (by decide) (by decide) (ne_of_head un2) uv2)) rfl) esw_nil)))) fun l7 xs7 H7 g7 t7 e7 a7 => ?_
    refine ttt_orL (K := K) t7 (et_ne (et_var rfl (dp_lst e7 a7)) (et_ew fun _ => (ew_lst (esw_cons (ew_tup (esw_cons ew_int (esw_cons ew_int (esw_cons ew_int (esw_cons ew_int (esw_cons ew_int (esw_cons ew_int (esw_cons ew_int (esw_cons ew_int esw_nil))))))))) (esw_cons (ew_tup (esw_cons ew_non (esw_cons ew_int (esw_cons ew_int esw_nil)))) (esw_cons (ew_rep (ew_tup (esw_cons ew_int esw_nil)) ew_int) esw_nil))))) (by decide +kernel) (by decide +kernel)) (by decide +kernel) fun H8 g8 t8 => ?_
    refine ttt_of (K := K) t8 (et_ew fun _ => (ew_neD (ew_to (ew_call (esw_cons ew_int (esw_cons (ew_tup (esw_cons ew_int esw_nil)) (esw_cons ew_int (esw_cons ew_int esw_nil)))) (spd_sure (T := T) (E := EF) (b := 10) (m := 2) (c := 0) (s := [some 5]) (r := []) (by decide) (by decide) (by decide) (ne_of_head un3) uv3)) rfl) (ew_tup esw_nil) (by decide +kernel) (by decide +kernel))) (ExtN.refl _) fun H9 g9 t9 => ?_
    refine iteFb (by decide +kernel) ?_
    refine stt_asgL (K := K) t9 (etl_lst (ets_cons (et_hV fun E H1 _ Q q => ⟨by show 1 ≤ sizeLine; decide, fun p np => spd_fitting (T := T) (E := E) (b := 10) (m := 57) (s := [none]) (by decide) (by decide) rfl (by rw [f57]; exact Nat.le_refl _) _ _ Q (.cons (.int _) (.cons (dp_tup upd_same (.cons .non .nil)) (.cons (.int _) .nil))) fun v H2 g2 d2 => q v H2 ((Gr.new np).trans g2) d2⟩) (ets_cons (et_hXl (C := T.C_TooGreat) (f := "most") (w := "great") (mk := fun v => .lst [.str "great", v]) (d := .int 1000) (by unfold hes; simp) (fun _ => rfl) fun E H1 _ Q ke => ⟨by show 1 ≤ sizeLine; decide, fun p np => spx_fitting (b := 10) (m := 58) (s := [none]) (by decide) (by decide) f58 (sq_tup upd_same) fun dd v H2 g2 hd d2 => ke dd v H2 ((Gr.new np).trans g2) hd d2⟩) ets_nil))) fun l10 xs10 H10 g10 t10 e10 a10 => ?_
    refine stt_appW (K := K) t10 rfl e10 a10 (et_hXl (C := T.C_Nothing) (f := "value") (w := "nothing") (mk := fun v => .lst [.str "nothing", v]) (d := .tuple [.int 9, .int 9, .int 9]) (by unfold hes; simp) (fun _ => rfl) fun E H1 _ Q ke => ⟨by show 3 ≤ sizeLine; decide, fun p np => spx_sure (b := 10) (m := 60) (c := 5) (s := [some 9, some 9, some 9]) (by decide) (by decide) (by decide) f999 (sq_tup upd_same) fun dd v H2 g2 hd d2 => ke dd v H2 ((Gr.new np).trans g2) hd d2⟩) (noL_prs _) (by decide) (by decide) fun xs11 H11 t11 e11 a11 => ?_
    refine ttt_orL (K := K) t11 (et_ne (et_ewV fun _ gx => ew_to (ew_dropL (ew_var rfl (Dp.kp ((kpExt gx).trans hid_in0) (dp_lst e11 a11))) ew_int) rfl) (et_ew fun _ => (ew_lst (esw_cons (ew_lst (esw_cons ew_str (esw_cons ew_int esw_nil))) (esw_cons (ew_lst (esw_cons ew_str (esw_cons (ew_tup (esw_cons ew_int (esw_cons ew_int (esw_cons ew_int esw_nil)))) esw_nil))) esw_nil)))) (by decide +kernel) (by decide +kernel)) (by decide +kernel) fun H12 g12 t12 => ?_
    have e12 := ExtN.lst g12 e11
    have a12 := DpAll.kp (kpExt g12) a11
    refine ttt_of (K := K) t12 (et_ewV fun _ gx => (ew_neI (ew_lenT (ew_ixL (j := 0) (ew_var rfl (Dp.kp ((kpExt gx).trans hid_in0) (dp_lst e12 a12))) ew_int rfl)) ew_int)) (ExtN.refl _) fun H13 g13 t13 => ?_
    refine iteFb (by decide +kernel) ?_
    refine ttt_orL (K := K) t13 (et_ew fun _ => (ew_neD (ew_to (ew_call (esw_cons ew_int (esw_cons (ew_tup (esw_cons ew_non esw_nil)) (esw_cons ew_int (esw_cons ew_int esw_nil)))) (spd_sure (T := T) (E := EF) (b := 10) (m := 60) (c := 2) (s := [none]) (r := [none, none]) (by decide) (by decide) (by decide) (ne_of_head un4) uv4)) rfl) (ew_tup (esw_cons ew_non (esw_cons ew_non esw_nil))) (by decide +kernel) (by decide +kernel))) (by decide +kernel) fun H14 g14 t14 => ?_
    refine ttt_of (K := K) t14 (et_ew fun _ => (ew_neD (ew_to (ew_call (esw_cons ew_int (esw_cons (ew_tup (esw_cons ew_int esw_nil)) (esw_cons ew_int (esw_cons ew_int esw_nil)))) (spd_sure (T := T) (E := EF) (b := 10) (m := 40) (c := 2) (s := [some 0]) (r := [some 0, none]) (by decide) (by decide) (by decide) (ne_of_head un5) uv5)) rfl) (ew_tup (esw_cons ew_int (esw_cons ew_non esw_nil))) (by decide +kernel) (by decide +kernel))) (ExtN.refl _) fun H15 g15 t15 => ?_
    refine iteFb (by decide +kernel) ?_
    refine stt_asgL (K := K) t15 (el_of fun _ => el_lstW (esw_cons (spd_fits (b := 1000) (x := 1) (n := 4999) (s := [some 0, some 200, some 40, none, some 1]) (r := true) (by decide) (by decide +kernel) (by decide +kernel) (ew_tup (esw_cons ew_int (esw_cons ew_int (esw_cons ew_int (esw_cons ew_non (esw_cons ew_int esw_nil))))))) (esw_cons (spd_fits (b := 2) (x := 1) (n := 3) (s := [some 0, some 1, some 0, some 1, some 0, some 1, some 0, some 1, some 0, some 1, some 0, some 1, some 0, some 1, some 0, some 1, some 0, some 1, some 0, some 1]) (r := true) (by decide) (by decide +kernel) (by decide +kernel) (ew_to (ew_rep (ew_tup (esw_cons ew_int (esw_cons ew_int esw_nil))) ew_int) rfl)) (esw_cons (spd_fits (b := 2) (x := 1) (n := 3) (s := [some 1, some 0]) (r := false) (by decide) (by decide +kernel) (by decide +kernel) (ew_tup (esw_cons ew_int (esw_cons ew_int esw_nil)))) esw_nil)))) fun l16 xs16 H16 g16 t16 e16 a16 => ?_
    refine stt_retB (K := K) t16 (et_eqS (et_repr (et_var rfl (dp_lst e16 a16)) fB) (et_repr (et_ew fun _ => (ew_lst (esw_cons ew_bl (esw_cons ew_bl (esw_cons ew_bl esw_nil))))) fB)) fun HZ gz tz => ?_
    refine cast (congrArg (fun z => Q (V.bl z) HZ) (show true = _ from (decide_eq_true rfl).symm)) (q HZ)

end
end Wn
namespace Wn
open PySem PySem.Spec PyProof.Rows L2
open LamX (Tabs ExtN tLam)
local macro_rules | `(tactic| walk_at "vc") => `(tactic| simp only [cxK, cxK2, start1, start2, start3, tRet, tRetN, tSeq, tNext, tIfS, tAsg, gName, tDrop, tVar, tC, tOp, tUn, tTest, tB, tNot, tAnd, tOr, tAndV, tOrV, tNotV, tIf, tCons, tNil, tCB, tCall, tChain, tAug, ipI, rI, rI0, rU, rIs, rGcd, rEq, rNe, scal,
  List.getElem?_cons_zero, List.getElem?_cons_succ, List.set_cons_zero, List.set_cons_succ, Option.some.injEq, List.cons.injEq, V.int.injEq, V.bl.injEq, V.ref.injEq, V.str.injEq, and_true, true_and, exists_eq_left, exists_eq_left', exists_and_left, exists_and_right, List.append_nil, List.nil_append, List.cons_append, exists_eq_right, exists_eq_right', and_assoc, exists_const, V.ty.injEq, ↓reduceIte, Bool.false_eq_true, Bool.not_true, Bool.not_false, decide_eq_true_eq])

section
variable {P : Program} {w : World} {K : PySem.W.Frag} {mg : Str → Option Value} {base : Heap}

def sp_law (T : Txt K mg) : Sp := fun vs H Q _ => ∃ (a : Addr) (ns : List Int), vs = [.ref a] ∧ Tabs (tl T) H ∧ SqL K H a (ns.map V.int) ∧ ns.length ≤ 63 ∧ ∀ H', Q (.bl true) H'
theorem okG_law (T : Txt K mg) (B : Tbs T base) : FnG P w K mg base CX0 15 T.d_law.f T.d_law.fd ["script"] (sp_law T) := by
  refine fnGc0 T.d_law.F sc_law (fun vs H Q E h => ?_) (fun cdv A outer s H vs Q E hcc hgd hr h => ?_)
  · obtain ⟨a, ns, rfl, _⟩ := h; rfl
  · have hu := hu_of hr
    refine ⟨_, (pss_cons (ps_for PassesOwn.never rfl (pi_range1 (by rfl) T.b_range (pa_cons (pe_op op_add pe_int (pe_callB (call_min2 rfl) (by rfl) T.b_min (by decide +kernel) (pa_cons (pe_callB (r := rLn K) call_ln (by rfl) T.b_len PySem.boot_len (pa_cons (pv 0) pa_nil)) (pa_cons pe_int pa_nil)))) pa_nil)) (pg_name (i := 1) sc_law.nd rfl (by first | exact .inl rfl | exact .inr rfl)) (pss_cons (ps_set (i := 2) sc_law.nd rfl (by first | exact .inl rfl | exact .inr rfl) (pe_call (ok_law_begun T) (hr.mono (by decide)) (by rfl) T.d_law_begun.m T.d_law_begun.F.kp T.d_law_begun.b .nil pass0 (pa_cons (pv 0) (pa_cons (pv 1) pa_nil))))
      (pss_one (ps_if (pt_not (pt_val (pe_callG hgd (okG_law_right T B) (hr.mono (by decide)) (by rfl) T.d_law_right.m T.d_law_right.F.kp T.d_law_right.b .nil pass0 (pa_cons (pv 2) (pa_cons (pe_call (ok_law_of T) (hr.mono (by decide)) (by rfl) T.d_law_of.m T.d_law_of.F.kp T.d_law_of.b .nil pass0 (pa_cons (pv 2) (pa_cons (pe_lst (pa_cons pe_int (pa_cons pe_int (pa_cons pe_int (pa_cons pe_int (pa_cons pe_int (pa_cons (pe_op op_add pe_int (pe_call (ok_law_draw T) (hr.mono (by decide)) (by rfl) T.d_law_draw.m T.d_law_draw.F.kp T.d_law_draw.b .nil pass0 (pa_cons (pv 2) (pa_cons pe_int pa_nil)))) pa_nil))))))) pa_nil))) pa_nil))))) (pss_one (ps_ret pe_bl)) pss_nil))))
      (pss_one (ps_ret (pe_callG0 hgd (okG_law_hand_right T B) (hr.mono (by decide)) (by rfl) T.d_law_hand_right.m T.d_law_hand_right.F.kp T.d_law_hand_right.b .nil pass0)))), ?_⟩
    obtain ⟨a, ns, rfl, t0, hS, hn, q⟩ := h
    refine ⟨_, rfl, a, _, rfl, .inl hS, _, _, rfl, ?_⟩
    rw [List.length_map]
    obtain ⟨N, eN, hN⟩ : ∃ N : Nat, (2 : Int) + (if (5 : Int) < (ns.length : Int) then (5 : Int) else (ns.length : Int)) = (N : Int) ∧ N ≤ 7 := by
      split
      · exact ⟨7, rfl, by decide⟩
      · exact ⟨2 + ns.length, by omega, by omega⟩
    refine ⟨_, _, rfl, rfl, ?_⟩
    refine ⟨(N : Int), congrArg (fun z => [V.int z]) eN, by omega, by omega, ?_⟩
    refine for_range (lo := 0) (n := ((N : Int) - 0).toNat) (fun i σ H' => Kp H H' ∧ Tabs (tl T) H' ∧ ∃ v1 v2, σ = [some (.ref a), v1, v2]) ⟨Kp.of (Gr.refl _ _), t0, none, none, rfl⟩ ?_ ?_
    · rintro i σ H' hi ⟨G, t1, v1, v2, rfl⟩
      have ei : (0 : Int) + (i : Int) = ((i : Nat) : Int) := by omega
      rw [ei]
      refine ⟨_, rfl, _, rfl, a, ns, i, rfl, G.sqL hS, hn, by omega, fun d H1 nd g1 M1 => ?_⟩
      refine ⟨_, rfl, _, rfl, _, rfl, d, 999, 0, rfl, M1, ⟨by decide, lim_le (by decide), by decide⟩, fun r0 H2 hr0 g2 M2 => ?_⟩
      refine ⟨_, _, rfl, rfl, by show 6 ≤ sizeLine; decide, fun p np => ?_⟩
      have er : (2 : Int) + (r0 : Int) = ((2 + r0 : Nat) : Int) := by omega
      dsimp only
      rw [er]
      have gp := Gr.new (W := []) (o := .lst (vn [2, 2, 3, 10, 10, 2 + r0])) np
      have hp : (upd H2 p (.lst (vn [2, 2, 3, 10, 10, 2 + r0]))) p = some (.lst (vn [2, 2, 3, 10, 10, 2 + r0])) := upd_same
      have M3 := M2.gr gp
      have G3 : Gr [d] H1 (upd H2 p (.lst (vn [2, 2, 3, 10, 10, 2 + r0]))) := g2.trans (gr0 gp)
      change sp_law_of K [.ref d, .ref p] (upd H2 p (.lst (vn [2, 2, 3, 10, 10, 2 + r0]))) _ E0
      generalize upd H2 p (.lst (vn [2, 2, 3, 10, 10, 2 + r0])) = H3 at hp M3 G3 ⊢
      refine ⟨d, p, _, _, rfl, M3, hp, ⟨(fun z => by cases z), (by show 6 ≤ 100000; decide), (by decide)⟩, fun v H4 hv g4 M4 => ?_⟩
      obtain ⟨b, hb, rfl⟩ := List.mem_map.mp hv
      have hb2 : 2 ≤ b ∧ b ≤ 1000 := by
        simp only [List.mem_cons, List.not_mem_nil, or_false] at hb
        omega
      have G4 := G3.trans g4
      have t4 : Tabs (tl T) H4 := tabsGrM (tabsGr t1 g1) G4 (md M1)
      refine ⟨d, b, _, rfl, t4, hb2, M4, by decide, fun H5 k5 t5 M5 => ⟨true, rfl, iteF ?_⟩⟩
      exact ⟨((G.trans (Kp.of g1)).trans (Kp.ofM G4 (md M1))).trans k5, t5, _, _, rfl⟩
    rintro σ H' ⟨G, t1, v1, v2, rfl⟩
    exact ⟨rfl, t1, fun H2 => q H2⟩

end
end Wn
namespace Wn
open PySem PySem.Spec PyProof.Rows L2
open LamX (Tabs ExtN tLam)
theorem all_mk {l : PySem.W.OpenLaw} {w : World} {K : PySem.W.Frag} {h : Heap} {mg : Str → Option Value} {fa : Addr} (X : K.In h) (G : h.Ns mainGlobals mg) (hfa : mg "law" = some (.ref fa))
    {f_is_integer : Addr} {oc_is_integer kV_is_integer dc_is_integer pm_is_integer cd_is_integer ct_is_integer : Value} {od_is_integer an_is_integer : Option Addr} {sl_is_integer : Array (Option Value)}
    {f_is_within : Addr} {oc_is_within kV_is_within dc_is_within pm_is_within cd_is_within ct_is_within : Value} {od_is_within an_is_within : Option Addr} {sl_is_within : Array (Option Value)}
    {f_need_base : Addr} {oc_need_base kV_need_base dc_need_base pm_need_base cd_need_base ct_need_base : Value} {od_need_base an_need_base : Option Addr} {sl_need_base : Array (Option Value)}
    {f_need_fraction : Addr} {oc_need_fraction kV_need_fraction dc_need_fraction pm_need_fraction cd_need_fraction ct_need_fraction : Value} {od_need_fraction an_need_fraction : Option Addr} {sl_need_fraction : Array (Option Value)}
    {f_divided : Addr} {oc_divided kV_divided dc_divided pm_divided cd_divided ct_divided : Value} {od_divided an_divided : Option Addr} {sl_divided : Array (Option Value)}
    {f_need_seen : Addr} {oc_need_seen kV_need_seen dc_need_seen pm_need_seen cd_need_seen ct_need_seen : Value} {od_need_seen an_need_seen : Option Addr} {sl_need_seen : Array (Option Value)}
    {f_has_digits : Addr} {oc_has_digits kV_has_digits dc_has_digits pm_has_digits cd_has_digits ct_has_digits : Value} {od_has_digits an_has_digits : Option Addr} {sl_has_digits : Array (Option Value)}
    {f_fits : Addr} {oc_fits kV_fits dc_fits pm_fits cd_fits ct_fits : Value} {od_fits an_fits : Option Addr} {sl_fits : Array (Option Value)}
    {f_all_fitting : Addr} {oc_all_fitting kV_all_fitting dc_all_fitting pm_all_fitting cd_all_fitting ct_all_fitting : Value} {od_all_fitting an_all_fitting : Option Addr} {sl_all_fitting : Array (Option Value)}
    {f_fitting : Addr} {oc_fitting kV_fitting dc_fitting pm_fitting cd_fitting ct_fitting : Value} {od_fitting an_fitting : Option Addr} {sl_fitting : Array (Option Value)}
    {f_simplest : Addr} {oc_simplest kV_simplest dc_simplest pm_simplest cd_simplest ct_simplest : Value} {od_simplest an_simplest : Option Addr} {sl_simplest : Array (Option Value)}
    {f_sure_digits : Addr} {oc_sure_digits kV_sure_digits dc_sure_digits pm_sure_digits cd_sure_digits ct_sure_digits : Value} {od_sure_digits an_sure_digits : Option Addr} {sl_sure_digits : Array (Option Value)}
    {f_law_begun : Addr} {oc_law_begun kV_law_begun dc_law_begun pm_law_begun cd_law_begun ct_law_begun : Value} {od_law_begun an_law_begun : Option Addr} {sl_law_begun : Array (Option Value)}
    {f_law_draw : Addr} {oc_law_draw kV_law_draw dc_law_draw pm_law_draw cd_law_draw ct_law_draw : Value} {od_law_draw an_law_draw : Option Addr} {sl_law_draw : Array (Option Value)}
    {f_law_of : Addr} {oc_law_of kV_law_of dc_law_of pm_law_of cd_law_of ct_law_of : Value} {od_law_of an_law_of : Option Addr} {sl_law_of : Array (Option Value)}
    {f_law_divisor : Addr} {oc_law_divisor kV_law_divisor dc_law_divisor pm_law_divisor cd_law_divisor ct_law_divisor : Value} {od_law_divisor an_law_divisor : Option Addr} {sl_law_divisor : Array (Option Value)}
    {f_law_units : Addr} {oc_law_units kV_law_units dc_law_units pm_law_units cd_law_units ct_law_units : Value} {od_law_units an_law_units : Option Addr} {sl_law_units : Array (Option Value)}
    {f_law_digits : Addr} {oc_law_digits kV_law_digits dc_law_digits pm_law_digits cd_law_digits ct_law_digits : Value} {od_law_digits an_law_digits : Option Addr} {sl_law_digits : Array (Option Value)}
    {f_law_fit : Addr} {oc_law_fit kV_law_fit dc_law_fit pm_law_fit cd_law_fit ct_law_fit : Value} {od_law_fit an_law_fit : Option Addr} {sl_law_fit : Array (Option Value)}
    {f_law_all : Addr} {oc_law_all kV_law_all dc_law_all pm_law_all cd_law_all ct_law_all : Value} {od_law_all an_law_all : Option Addr} {sl_law_all : Array (Option Value)}
    {f_law_sure : Addr} {oc_law_sure kV_law_sure dc_law_sure pm_law_sure cd_law_sure ct_law_sure : Value} {od_law_sure an_law_sure : Option Addr} {sl_law_sure : Array (Option Value)}
    {f_law_heard : Addr} {oc_law_heard kV_law_heard dc_law_heard pm_law_heard cd_law_heard ct_law_heard : Value} {od_law_heard an_law_heard : Option Addr} {sl_law_heard : Array (Option Value)}
    {f_law_right : Addr} {oc_law_right kV_law_right dc_law_right pm_law_right cd_law_right ct_law_right : Value} {od_law_right an_law_right : Option Addr} {sl_law_right : Array (Option Value)}
    {f_law_hand_right : Addr} {oc_law_hand_right kV_law_hand_right dc_law_hand_right pm_law_hand_right cd_law_hand_right ct_law_hand_right : Value} {od_law_hand_right an_law_hand_right : Option Addr} {sl_law_hand_right : Array (Option Value)}
    {f_law : Addr} {oc_law kV_law dc_law pm_law cd_law ct_law : Value} {od_law an_law : Option Addr} {sl_law : Array (Option Value)}
    {C_WheelError : Addr}
    {C_BadBase : Addr}
    {C_BadFraction : Addr}
    {C_BadNumber : Addr}
    {C_BadSeen : Addr}
    {C_TooGreat : Addr}
    {I_TooGreat : Addr} {ioc_TooGreat ikV_TooGreat idc_TooGreat ipm_TooGreat icd_TooGreat ict_TooGreat : Value} {iod_TooGreat ian_TooGreat : Option Addr} {isl_TooGreat : Array (Option Value)}
    {C_Nothing : Addr}
    {I_Nothing : Addr} {ioc_Nothing ikV_Nothing idc_Nothing ipm_Nothing icd_Nothing ict_Nothing : Value} {iod_Nothing ian_Nothing : Option Addr} {isl_Nothing : Array (Option Value)}
    {kk_law_right pp_law_right : Addr}
    {c1_law_right : Value} {d1_law_right : Option Addr} {vs_law_right : Array Value} {s1_law_right : Array (Option Value)}
    {kk_law_hand_right pp_law_hand_right : Addr}
    {c1_law_hand_right : Value} {d1_law_hand_right : Option Addr} {vs_law_hand_right : Array Value} {s1_law_hand_right : Array (Option Value)}
    {t_MOST_BASE : Tok}
    {t_MOST_DENOMINATOR : Tok}
    {t_MOST_SEEN : Tok}
    {t_GREATEST_BOUND : Tok}
    {t_MOST_FITTING : Tok}
    {t_MOST_SURE : Tok}
    (a_is_integer : PySem.W.nsIn K mainGlobals "is_integer" = some (some (.ref f_is_integer)))
    (l_is_integer : K.lookup f_is_integer = some ⟨oc_is_integer, od_is_integer, .func (PySem.W.fnOf "is_integer" "is_integer" (defArgs s_is_integer) (defBody s_is_integer) (defScope s_is_integer) .none kV_is_integer dc_is_integer pm_is_integer an_is_integer cd_is_integer ct_is_integer), sl_is_integer⟩)
    (c_is_integer : PySem.W.codeIn K cd_is_integer "is_integer" = true)
    (k_is_integer : PySem.W.keepIn K (.ref f_is_integer) = true)
    (a_is_within : PySem.W.nsIn K mainGlobals "is_within" = some (some (.ref f_is_within)))
    (l_is_within : K.lookup f_is_within = some ⟨oc_is_within, od_is_within, .func (PySem.W.fnOf "is_within" "is_within" (defArgs s_is_within) (defBody s_is_within) (defScope s_is_within) .none kV_is_within dc_is_within pm_is_within an_is_within cd_is_within ct_is_within), sl_is_within⟩)
    (c_is_within : PySem.W.codeIn K cd_is_within "is_within" = true)
    (k_is_within : PySem.W.keepIn K (.ref f_is_within) = true)
    (a_need_base : PySem.W.nsIn K mainGlobals "need_base" = some (some (.ref f_need_base)))
    (l_need_base : K.lookup f_need_base = some ⟨oc_need_base, od_need_base, .func (PySem.W.fnOf "need_base" "need_base" (defArgs s_need_base) (defBody s_need_base) (defScope s_need_base) .none kV_need_base dc_need_base pm_need_base an_need_base cd_need_base ct_need_base), sl_need_base⟩)
    (c_need_base : PySem.W.codeIn K cd_need_base "need_base" = true)
    (k_need_base : PySem.W.keepIn K (.ref f_need_base) = true)
    (a_need_fraction : PySem.W.nsIn K mainGlobals "need_fraction" = some (some (.ref f_need_fraction)))
    (l_need_fraction : K.lookup f_need_fraction = some ⟨oc_need_fraction, od_need_fraction, .func (PySem.W.fnOf "need_fraction" "need_fraction" (defArgs s_need_fraction) (defBody s_need_fraction) (defScope s_need_fraction) .none kV_need_fraction dc_need_fraction pm_need_fraction an_need_fraction cd_need_fraction ct_need_fraction), sl_need_fraction⟩)
    (c_need_fraction : PySem.W.codeIn K cd_need_fraction "need_fraction" = true)
    (k_need_fraction : PySem.W.keepIn K (.ref f_need_fraction) = true)
    (a_divided : PySem.W.nsIn K mainGlobals "divided" = some (some (.ref f_divided)))
    (l_divided : K.lookup f_divided = some ⟨oc_divided, od_divided, .func (PySem.W.fnOf "divided" "divided" (defArgs s_divided) (defBody s_divided) (defScope s_divided) .none kV_divided dc_divided pm_divided an_divided cd_divided ct_divided), sl_divided⟩)
    (c_divided : PySem.W.codeIn K cd_divided "divided" = true)
    (k_divided : PySem.W.keepIn K (.ref f_divided) = true)
    (a_need_seen : PySem.W.nsIn K mainGlobals "need_seen" = some (some (.ref f_need_seen)))
    (l_need_seen : K.lookup f_need_seen = some ⟨oc_need_seen, od_need_seen, .func (PySem.W.fnOf "need_seen" "need_seen" (defArgs s_need_seen) (defBody s_need_seen) (defScope s_need_seen) .none kV_need_seen dc_need_seen pm_need_seen an_need_seen cd_need_seen ct_need_seen), sl_need_seen⟩)
    (c_need_seen : PySem.W.codeIn K cd_need_seen "need_seen" = true)
    (k_need_seen : PySem.W.keepIn K (.ref f_need_seen) = true)
    (a_has_digits : PySem.W.nsIn K mainGlobals "has_digits" = some (some (.ref f_has_digits)))
    (l_has_digits : K.lookup f_has_digits = some ⟨oc_has_digits, od_has_digits, .func (PySem.W.fnOf "has_digits" "has_digits" (defArgs s_has_digits) (defBody s_has_digits) (defScope s_has_digits) .none kV_has_digits dc_has_digits pm_has_digits an_has_digits cd_has_digits ct_has_digits), sl_has_digits⟩)
    (c_has_digits : PySem.W.codeIn K cd_has_digits "has_digits" = true)
    (k_has_digits : PySem.W.keepIn K (.ref f_has_digits) = true)
    (a_fits : PySem.W.nsIn K mainGlobals "fits" = some (some (.ref f_fits)))
    (l_fits : K.lookup f_fits = some ⟨oc_fits, od_fits, .func (PySem.W.fnOf "fits" "fits" (defArgs s_fits) (defBody s_fits) (defScope s_fits) .none kV_fits dc_fits pm_fits an_fits cd_fits ct_fits), sl_fits⟩)
    (c_fits : PySem.W.codeIn K cd_fits "fits" = true)
    (k_fits : PySem.W.keepIn K (.ref f_fits) = true)
    (a_all_fitting : PySem.W.nsIn K mainGlobals "all_fitting" = some (some (.ref f_all_fitting)))
    (l_all_fitting : K.lookup f_all_fitting = some ⟨oc_all_fitting, od_all_fitting, .func (PySem.W.fnOf "all_fitting" "all_fitting" (defArgs s_all_fitting) (defBody s_all_fitting) (defScope s_all_fitting) .none kV_all_fitting dc_all_fitting pm_all_fitting an_all_fitting cd_all_fitting ct_all_fitting), sl_all_fitting⟩)
    (c_all_fitting : PySem.W.codeIn K cd_all_fitting "all_fitting" = true)
    (k_all_fitting : PySem.W.keepIn K (.ref f_all_fitting) = true)
    (a_fitting : PySem.W.nsIn K mainGlobals "fitting" = some (some (.ref f_fitting)))
    (l_fitting : K.lookup f_fitting = some ⟨oc_fitting, od_fitting, .func (PySem.W.fnOf "fitting" "fitting" (defArgs s_fitting) (defBody s_fitting) (defScope s_fitting) .none kV_fitting dc_fitting pm_fitting an_fitting cd_fitting ct_fitting), sl_fitting⟩)
    (c_fitting : PySem.W.codeIn K cd_fitting "fitting" = true)
    (k_fitting : PySem.W.keepIn K (.ref f_fitting) = true)
    (a_simplest : PySem.W.nsIn K mainGlobals "simplest" = some (some (.ref f_simplest)))
    (l_simplest : K.lookup f_simplest = some ⟨oc_simplest, od_simplest, .func (PySem.W.fnOf "simplest" "simplest" (defArgs s_simplest) (defBody s_simplest) (defScope s_simplest) .none kV_simplest dc_simplest pm_simplest an_simplest cd_simplest ct_simplest), sl_simplest⟩)
    (c_simplest : PySem.W.codeIn K cd_simplest "simplest" = true)
    (k_simplest : PySem.W.keepIn K (.ref f_simplest) = true)
    (a_sure_digits : PySem.W.nsIn K mainGlobals "sure_digits" = some (some (.ref f_sure_digits)))
    (l_sure_digits : K.lookup f_sure_digits = some ⟨oc_sure_digits, od_sure_digits, .func (PySem.W.fnOf "sure_digits" "sure_digits" (defArgs s_sure_digits) (defBody s_sure_digits) (defScope s_sure_digits) .none kV_sure_digits dc_sure_digits pm_sure_digits an_sure_digits cd_sure_digits ct_sure_digits), sl_sure_digits⟩)
    (c_sure_digits : PySem.W.codeIn K cd_sure_digits "sure_digits" = true)
    (k_sure_digits : PySem.W.keepIn K (.ref f_sure_digits) = true)
    (a_law_begun : PySem.W.nsIn K mainGlobals "_law_begun" = some (some (.ref f_law_begun)))
    (l_law_begun : K.lookup f_law_begun = some ⟨oc_law_begun, od_law_begun, .func (PySem.W.fnOf "_law_begun" "_law_begun" (defArgs s_law_begun) (defBody s_law_begun) (defScope s_law_begun) .none kV_law_begun dc_law_begun pm_law_begun an_law_begun cd_law_begun ct_law_begun), sl_law_begun⟩)
    (c_law_begun : PySem.W.codeIn K cd_law_begun "_law_begun" = true)
    (k_law_begun : PySem.W.keepIn K (.ref f_law_begun) = true)
    (a_law_draw : PySem.W.nsIn K mainGlobals "_law_draw" = some (some (.ref f_law_draw)))
    (l_law_draw : K.lookup f_law_draw = some ⟨oc_law_draw, od_law_draw, .func (PySem.W.fnOf "_law_draw" "_law_draw" (defArgs s_law_draw) (defBody s_law_draw) (defScope s_law_draw) .none kV_law_draw dc_law_draw pm_law_draw an_law_draw cd_law_draw ct_law_draw), sl_law_draw⟩)
    (c_law_draw : PySem.W.codeIn K cd_law_draw "_law_draw" = true)
    (k_law_draw : PySem.W.keepIn K (.ref f_law_draw) = true)
    (a_law_of : PySem.W.nsIn K mainGlobals "_law_of" = some (some (.ref f_law_of)))
    (l_law_of : K.lookup f_law_of = some ⟨oc_law_of, od_law_of, .func (PySem.W.fnOf "_law_of" "_law_of" (defArgs s_law_of) (defBody s_law_of) (defScope s_law_of) .none kV_law_of dc_law_of pm_law_of an_law_of cd_law_of ct_law_of), sl_law_of⟩)
    (c_law_of : PySem.W.codeIn K cd_law_of "_law_of" = true)
    (k_law_of : PySem.W.keepIn K (.ref f_law_of) = true)
    (a_law_divisor : PySem.W.nsIn K mainGlobals "_law_divisor" = some (some (.ref f_law_divisor)))
    (l_law_divisor : K.lookup f_law_divisor = some ⟨oc_law_divisor, od_law_divisor, .func (PySem.W.fnOf "_law_divisor" "_law_divisor" (defArgs s_law_divisor) (defBody s_law_divisor) (defScope s_law_divisor) .none kV_law_divisor dc_law_divisor pm_law_divisor an_law_divisor cd_law_divisor ct_law_divisor), sl_law_divisor⟩)
    (c_law_divisor : PySem.W.codeIn K cd_law_divisor "_law_divisor" = true)
    (k_law_divisor : PySem.W.keepIn K (.ref f_law_divisor) = true)
    (a_law_units : PySem.W.nsIn K mainGlobals "_law_units" = some (some (.ref f_law_units)))
    (l_law_units : K.lookup f_law_units = some ⟨oc_law_units, od_law_units, .func (PySem.W.fnOf "_law_units" "_law_units" (defArgs s_law_units) (defBody s_law_units) (defScope s_law_units) .none kV_law_units dc_law_units pm_law_units an_law_units cd_law_units ct_law_units), sl_law_units⟩)
    (c_law_units : PySem.W.codeIn K cd_law_units "_law_units" = true)
    (k_law_units : PySem.W.keepIn K (.ref f_law_units) = true)
    (a_law_digits : PySem.W.nsIn K mainGlobals "_law_digits" = some (some (.ref f_law_digits)))
    (l_law_digits : K.lookup f_law_digits = some ⟨oc_law_digits, od_law_digits, .func (PySem.W.fnOf "_law_digits" "_law_digits" (defArgs s_law_digits) (defBody s_law_digits) (defScope s_law_digits) .none kV_law_digits dc_law_digits pm_law_digits an_law_digits cd_law_digits ct_law_digits), sl_law_digits⟩)
    (c_law_digits : PySem.W.codeIn K cd_law_digits "_law_digits" = true)
    (k_law_digits : PySem.W.keepIn K (.ref f_law_digits) = true)
    (a_law_fit : PySem.W.nsIn K mainGlobals "_law_fit" = some (some (.ref f_law_fit)))
    (l_law_fit : K.lookup f_law_fit = some ⟨oc_law_fit, od_law_fit, .func (PySem.W.fnOf "_law_fit" "_law_fit" (defArgs s_law_fit) (defBody s_law_fit) (defScope s_law_fit) .none kV_law_fit dc_law_fit pm_law_fit an_law_fit cd_law_fit ct_law_fit), sl_law_fit⟩)
    (c_law_fit : PySem.W.codeIn K cd_law_fit "_law_fit" = true)
    (k_law_fit : PySem.W.keepIn K (.ref f_law_fit) = true)
    (a_law_all : PySem.W.nsIn K mainGlobals "_law_all" = some (some (.ref f_law_all)))
    (l_law_all : K.lookup f_law_all = some ⟨oc_law_all, od_law_all, .func (PySem.W.fnOf "_law_all" "_law_all" (defArgs s_law_all) (defBody s_law_all) (defScope s_law_all) .none kV_law_all dc_law_all pm_law_all an_law_all cd_law_all ct_law_all), sl_law_all⟩)
    (c_law_all : PySem.W.codeIn K cd_law_all "_law_all" = true)
    (k_law_all : PySem.W.keepIn K (.ref f_law_all) = true)
    (a_law_sure : PySem.W.nsIn K mainGlobals "_law_sure" = some (some (.ref f_law_sure)))
    (l_law_sure : K.lookup f_law_sure = some ⟨oc_law_sure, od_law_sure, .func (PySem.W.fnOf "_law_sure" "_law_sure" (defArgs s_law_sure) (defBody s_law_sure) (defScope s_law_sure) .none kV_law_sure dc_law_sure pm_law_sure an_law_sure cd_law_sure ct_law_sure), sl_law_sure⟩)
    (c_law_sure : PySem.W.codeIn K cd_law_sure "_law_sure" = true)
    (k_law_sure : PySem.W.keepIn K (.ref f_law_sure) = true)
    (a_law_heard : PySem.W.nsIn K mainGlobals "_law_heard" = some (some (.ref f_law_heard)))
    (l_law_heard : K.lookup f_law_heard = some ⟨oc_law_heard, od_law_heard, .func (PySem.W.fnOf "_law_heard" "_law_heard" (defArgs s_law_heard) (defBody s_law_heard) (defScope s_law_heard) .none kV_law_heard dc_law_heard pm_law_heard an_law_heard cd_law_heard ct_law_heard), sl_law_heard⟩)
    (c_law_heard : PySem.W.codeIn K cd_law_heard "_law_heard" = true)
    (k_law_heard : PySem.W.keepIn K (.ref f_law_heard) = true)
    (a_law_right : PySem.W.nsIn K mainGlobals "_law_right" = some (some (.ref f_law_right)))
    (l_law_right : K.lookup f_law_right = some ⟨oc_law_right, od_law_right, .func (PySem.W.fnOf "_law_right" "_law_right" (defArgs s_law_right) (defBody s_law_right) (defScope s_law_right) .none kV_law_right dc_law_right pm_law_right an_law_right cd_law_right ct_law_right), sl_law_right⟩)
    (c_law_right : PySem.W.codeIn K cd_law_right "_law_right" = true)
    (k_law_right : PySem.W.keepIn K (.ref f_law_right) = true)
    (a_law_hand_right : PySem.W.nsIn K mainGlobals "_law_hand_right" = some (some (.ref f_law_hand_right)))
    (l_law_hand_right : K.lookup f_law_hand_right = some ⟨oc_law_hand_right, od_law_hand_right, .func (PySem.W.fnOf "_law_hand_right" "_law_hand_right" (defArgs s_law_hand_right) (defBody s_law_hand_right) (defScope s_law_hand_right) .none kV_law_hand_right dc_law_hand_right pm_law_hand_right an_law_hand_right cd_law_hand_right ct_law_hand_right), sl_law_hand_right⟩)
    (c_law_hand_right : PySem.W.codeIn K cd_law_hand_right "_law_hand_right" = true)
    (k_law_hand_right : PySem.W.keepIn K (.ref f_law_hand_right) = true)
    (a_law : PySem.W.nsIn K mainGlobals "law" = some (some (.ref f_law)))
    (l_law : K.lookup f_law = some ⟨oc_law, od_law, .func (PySem.W.fnOf "law" "law" (defArgs s_law) (defBody s_law) (defScope s_law) .none kV_law dc_law pm_law an_law cd_law ct_law), sl_law⟩)
    (c_law : PySem.W.codeIn K cd_law "law" = true)
    (k_law : PySem.W.keepIn K (.ref f_law) = true)
    (zb_isinstance : PySem.W.nsIn K mainGlobals "isinstance" = some none)
    (zb_int : PySem.W.nsIn K mainGlobals "int" = some none)
    (zb_bool : PySem.W.nsIn K mainGlobals "bool" = some none)
    (zb_len : PySem.W.nsIn K mainGlobals "len" = some none)
    (zb_range : PySem.W.nsIn K mainGlobals "range" = some none)
    (zb_tuple : PySem.W.nsIn K mainGlobals "tuple" = some none)
    (zb_min : PySem.W.nsIn K mainGlobals "min" = some none)
    (zb_repr : PySem.W.nsIn K mainGlobals "repr" = some none)
    (zb_all : PySem.W.nsIn K mainGlobals "all" = some none)
    (zb_OverflowError : PySem.W.nsIn K mainGlobals "OverflowError" = some none)
    (zb_LookupError : PySem.W.nsIn K mainGlobals "LookupError" = some none)
    (zb_zip : PySem.W.nsIn K mainGlobals "zip" = some none)
    (zb_gcd : PySem.W.nsIn K mainGlobals "gcd" = some (some (.builtin "math.gcd")))
    (gc_WheelError : PySem.W.nsIn K mainGlobals "WheelError" = some (some (.ref C_WheelError)))
    (rd_WheelError : PySem.W.readsIn K C_WheelError (.type "type") = true)
    (rg_WheelError : PySem.W.specialIn K (.ref C_WheelError) "__getattribute__" = some (some (.builtin "type.__getattribute__")))
    (ri_WheelError : PySem.W.findCls K (.ref C_WheelError) (.type "type") "__init__" = some (.val (.builtin "ValueError.__init__")))
    (gc_BadBase : PySem.W.nsIn K mainGlobals "BadBase" = some (some (.ref C_BadBase)))
    (gc_BadFraction : PySem.W.nsIn K mainGlobals "BadFraction" = some (some (.ref C_BadFraction)))
    (gc_BadNumber : PySem.W.nsIn K mainGlobals "BadNumber" = some (some (.ref C_BadNumber)))
    (gc_BadSeen : PySem.W.nsIn K mainGlobals "BadSeen" = some (some (.ref C_BadSeen)))
    (gc_TooGreat : PySem.W.nsIn K mainGlobals "TooGreat" = some (some (.ref C_TooGreat)))
    (iC_TooGreat : PySem.W.findIn K (.ref C_TooGreat) "__init__" = some (some (.ref I_TooGreat)))
    (ini_TooGreat : PySem.W.excInitIn K C_TooGreat [.type "OverflowError", .type "ArithmeticError", .type "Exception", .type "BaseException", .type "object"] "OverflowError.__new__" = true)
    (ov_TooGreat : PySem.W.excOver K C_TooGreat [.type "OverflowError", .type "ArithmeticError", .type "Exception", .type "BaseException", .type "object"] = true)
    (hd_TooGreat : PySem.W.hasDictIn K C_TooGreat = true)
    (sa_TooGreat : PySem.W.findIn K (.ref C_TooGreat) "__setattr__" = some (some (.builtin "object.__setattr__")))
    (ex_TooGreat : PySem.W.subIn K (.ref C_TooGreat) (.type "BaseException") = some true)
    (ty_TooGreat : PySem.W.typeIn K (.ref C_TooGreat) = some (.type "type"))
    (kp_TooGreat : PySem.W.keepIn K (.ref C_TooGreat) = true)
    (tk_TooGreat : PySem.W.takerIn K C_TooGreat "most" = some none)
    (no_TooGreat : PySem.W.findIn K (.ref C_TooGreat) "most" = some none)
    (tI_TooGreat : PySem.W.typeIn K (.ref I_TooGreat) = some (.type "function"))
    (ga_TooGreat : PySem.W.findIn K (.ref C_TooGreat) "__getattribute__" = some (some (.builtin "BaseException.__getattribute__")))
    (gg_TooGreat : PySem.W.findIn K (.ref C_TooGreat) "__getattr__" = some none)
    (ha_TooGreat : PySem.W.findIn K (.ref C_TooGreat) "__class__" = some (some (.builtin "object.__class__")))
    (mr_TooGreat : PySem.W.mroIn K C_TooGreat (.type "object") = some true)
    (il_TooGreat : K.lookup I_TooGreat = some ⟨ioc_TooGreat, iod_TooGreat, .func (PySem.W.fnOf "__init__" "TooGreat.__init__" (defArgs s_TooGreat_init) (defBody s_TooGreat_init) (defScope s_TooGreat_init) .none ikV_TooGreat idc_TooGreat ipm_TooGreat ian_TooGreat icd_TooGreat ict_TooGreat), isl_TooGreat⟩)
    (ic_TooGreat : PySem.W.codeIn K icd_TooGreat "TooGreat.__init__" = true)
    (ik_TooGreat : PySem.W.keepIn K (.ref I_TooGreat) = true)
    (cl_TooGreat : PySem.W.isClsIn K C_TooGreat = true)
    (hn_TooGreat : PySem.W.specialIn K (.builtin "object.__class__") "__get__" = some (some (.builtin "getset_descriptor.__get__")))
    (ht_TooGreat : PySem.W.takesIn K (.builtin "object.__class__") = some true)
    (gc_Nothing : PySem.W.nsIn K mainGlobals "Nothing" = some (some (.ref C_Nothing)))
    (iC_Nothing : PySem.W.findIn K (.ref C_Nothing) "__init__" = some (some (.ref I_Nothing)))
    (ini_Nothing : PySem.W.excInitIn K C_Nothing [.type "LookupError", .type "Exception", .type "BaseException", .type "object"] "LookupError.__new__" = true)
    (ov_Nothing : PySem.W.excOver K C_Nothing [.type "LookupError", .type "Exception", .type "BaseException", .type "object"] = true)
    (hd_Nothing : PySem.W.hasDictIn K C_Nothing = true)
    (sa_Nothing : PySem.W.findIn K (.ref C_Nothing) "__setattr__" = some (some (.builtin "object.__setattr__")))
    (ex_Nothing : PySem.W.subIn K (.ref C_Nothing) (.type "BaseException") = some true)
    (ty_Nothing : PySem.W.typeIn K (.ref C_Nothing) = some (.type "type"))
    (kp_Nothing : PySem.W.keepIn K (.ref C_Nothing) = true)
    (tk_Nothing : PySem.W.takerIn K C_Nothing "value" = some none)
    (no_Nothing : PySem.W.findIn K (.ref C_Nothing) "value" = some none)
    (tI_Nothing : PySem.W.typeIn K (.ref I_Nothing) = some (.type "function"))
    (ga_Nothing : PySem.W.findIn K (.ref C_Nothing) "__getattribute__" = some (some (.builtin "BaseException.__getattribute__")))
    (gg_Nothing : PySem.W.findIn K (.ref C_Nothing) "__getattr__" = some none)
    (ha_Nothing : PySem.W.findIn K (.ref C_Nothing) "__class__" = some (some (.builtin "object.__class__")))
    (mr_Nothing : PySem.W.mroIn K C_Nothing (.type "object") = some true)
    (il_Nothing : K.lookup I_Nothing = some ⟨ioc_Nothing, iod_Nothing, .func (PySem.W.fnOf "__init__" "Nothing.__init__" (defArgs s_Nothing_init) (defBody s_Nothing_init) (defScope s_Nothing_init) .none ikV_Nothing idc_Nothing ipm_Nothing ian_Nothing icd_Nothing ict_Nothing), isl_Nothing⟩)
    (ic_Nothing : PySem.W.codeIn K icd_Nothing "Nothing.__init__" = true)
    (ik_Nothing : PySem.W.keepIn K (.ref I_Nothing) = true)
    (cl_Nothing : PySem.W.isClsIn K C_Nothing = true)
    (hn_Nothing : PySem.W.specialIn K (.builtin "object.__class__") "__get__" = some (some (.builtin "getset_descriptor.__get__")))
    (ht_Nothing : PySem.W.takesIn K (.builtin "object.__class__") = some true)
    (ex1_TooGreat : PySem.W.exmOne K (.ref C_TooGreat) (.ref C_TooGreat) = some true)
    (ex0_TooGreat_Nothing : PySem.W.exmOne K (.ref C_TooGreat) (.ref C_Nothing) = some false)
    (ex1_Nothing : PySem.W.exmOne K (.ref C_Nothing) (.ref C_Nothing) = some true)
    (ir_LookupError : PySem.W.findCls K (.type "LookupError") (.type "type") "__init__" = some (.val (.builtin "LookupError.__init__")))
    (ir_OverflowError : PySem.W.findCls K (.type "OverflowError") (.type "type") "__init__" = some (.val (.builtin "OverflowError.__init__")))
    (e_law_right : cd_law_right = .ref kk_law_right)
    (lk_law_right : K.lookup kk_law_right = some ⟨c1_law_right, d1_law_right, .fields vs_law_right, s1_law_right⟩)
    (tv_law_right : vs_law_right[11]? = some (.ref pp_law_right))
    (np_law_right : K.lookup pp_law_right = none)
    (e_law_hand_right : cd_law_hand_right = .ref kk_law_hand_right)
    (lk_law_hand_right : K.lookup kk_law_hand_right = some ⟨c1_law_hand_right, d1_law_hand_right, .fields vs_law_hand_right, s1_law_hand_right⟩)
    (tv_law_hand_right : vs_law_hand_right[11]? = some (.ref pp_law_hand_right))
    (np_law_hand_right : K.lookup pp_law_hand_right = none)
    (ne_law_right_law_hand_right : pp_law_right ≠ pp_law_hand_right)
    (zc_MOST_BASE : PySem.W.nsIn K mainGlobals "MOST_BASE" = some (some (.int 1000 t_MOST_BASE)))
    (zc_MOST_DENOMINATOR : PySem.W.nsIn K mainGlobals "MOST_DENOMINATOR" = some (some (.int 5000 t_MOST_DENOMINATOR)))
    (zc_MOST_SEEN : PySem.W.nsIn K mainGlobals "MOST_SEEN" = some (some (.int 20 t_MOST_SEEN)))
    (zc_GREATEST_BOUND : PySem.W.nsIn K mainGlobals "GREATEST_BOUND" = some (some (.int 200 t_GREATEST_BOUND)))
    (zc_MOST_FITTING : PySem.W.nsIn K mainGlobals "MOST_FITTING" = some (some (.int 1000 t_MOST_FITTING)))
    (zc_MOST_SURE : PySem.W.nsIn K mainGlobals "MOST_SURE" = some (some (.int 60 t_MOST_SURE)))
    : ∃ (fd : FuncData) (cs : List (Addr × Addr)) (sp : Sp), (∀ p ∈ cs, (∃ y ∈ (["_law_right", "_law_hand_right"] : List Str), PySem.W.tabIn K y = some p) ∧ K.lookup p.2 = none) ∧ (∀ (s : Shared) (v : Value), BindsTo s fd ⟨[v], []⟩ [("script", v)]) ∧
      (∀ (H : Hp) (a : Addr) (ns : List Int), ns.length ≤ 63 → (∀ p ∈ cs, H p.2 = some (.tbl #[])) → SqL K H a (ns.map V.int) → sp [.ref a] H (fun v _ => v = .bl true) fun _ _ _ => False) ∧
      ∀ base : Heap, K.In base → base.Ns mainGlobals mg → (∀ p ∈ cs, LamX.TabB base mg p.1 p.2) → FnG l.prog w K mg base CX0 15 fa fd ["script"] sp := by
  obtain ⟨T, hTT⟩ : ∃ T : Txt K mg, T = {
    d_is_integer := Dn.of X G (fun us hl => match us, hl with | [_], _ => rfl) a_is_integer l_is_integer c_is_integer k_is_integer
    d_is_within := Dn.of X G (fun us hl => match us, hl with | [_, _, _], _ => rfl) a_is_within l_is_within c_is_within k_is_within
    d_need_base := Dn.of X G (fun us hl => match us, hl with | [_], _ => rfl) a_need_base l_need_base c_need_base k_need_base
    d_need_fraction := Dn.of X G (fun us hl => match us, hl with | [_], _ => rfl) a_need_fraction l_need_fraction c_need_fraction k_need_fraction
    d_divided := Dn.of X G (fun us hl => match us, hl with | [_, _, _, _], _ => rfl) a_divided l_divided c_divided k_divided
    d_need_seen := Dn.of X G (fun us hl => match us, hl with | [_, _], _ => rfl) a_need_seen l_need_seen c_need_seen k_need_seen
    d_has_digits := Dn.of X G (fun us hl => match us, hl with | [_, _, _], _ => rfl) a_has_digits l_has_digits c_has_digits k_has_digits
    d_fits := Dn.of X G (fun us hl => match us, hl with | [_, _, _], _ => rfl) a_fits l_fits c_fits k_fits
    d_all_fitting := Dn.of X G (fun us hl => match us, hl with | [_, _, _], _ => rfl) a_all_fitting l_all_fitting c_all_fitting k_all_fitting
    d_fitting := Dn.of X G (fun us hl => match us, hl with | [_, _, _], _ => rfl) a_fitting l_fitting c_fitting k_fitting
    d_simplest := Dn.of X G (fun us hl => match us, hl with | [_, _, _], _ => rfl) a_simplest l_simplest c_simplest k_simplest
    d_sure_digits := Dn.of X G (fun us hl => match us, hl with | [_, _, _, _], _ => rfl) a_sure_digits l_sure_digits c_sure_digits k_sure_digits
    d_law_begun := Dn.of X G (fun us hl => match us, hl with | [_, _], _ => rfl) a_law_begun l_law_begun c_law_begun k_law_begun
    d_law_draw := Dn.of X G (fun us hl => match us, hl with | [_, _], _ => rfl) a_law_draw l_law_draw c_law_draw k_law_draw
    d_law_of := Dn.of X G (fun us hl => match us, hl with | [_, _], _ => rfl) a_law_of l_law_of c_law_of k_law_of
    d_law_divisor := Dn.of X G (fun us hl => match us, hl with | [_, _], _ => rfl) a_law_divisor l_law_divisor c_law_divisor k_law_divisor
    d_law_units := Dn.of X G (fun us hl => match us, hl with | [_], _ => rfl) a_law_units l_law_units c_law_units k_law_units
    d_law_digits := Dn.of X G (fun us hl => match us, hl with | [_, _, _, _], _ => rfl) a_law_digits l_law_digits c_law_digits k_law_digits
    d_law_fit := Dn.of X G (fun us hl => match us, hl with | [_, _, _, _], _ => rfl) a_law_fit l_law_fit c_law_fit k_law_fit
    d_law_all := Dn.of X G (fun us hl => match us, hl with | [_, _, _], _ => rfl) a_law_all l_law_all c_law_all k_law_all
    d_law_sure := Dn.of X G (fun us hl => match us, hl with | [_, _, _], _ => rfl) a_law_sure l_law_sure c_law_sure k_law_sure
    d_law_heard := Dn.of X G (fun us hl => match us, hl with | [_], _ => rfl) a_law_heard l_law_heard c_law_heard k_law_heard
    d_law_right := Dn.of X G (fun us hl => match us, hl with | [_, _], _ => rfl) a_law_right l_law_right c_law_right k_law_right
    d_law_hand_right := Dn.of X G (fun us hl => match us, hl with | [], _ => rfl) a_law_hand_right l_law_hand_right c_law_hand_right k_law_hand_right
    d_law := Dn.of X G (fun us hl => match us, hl with | [_], _ => rfl) a_law l_law c_law k_law
    b_isinstance := PySem.W.mg_none_of X G zb_isinstance
    b_int := PySem.W.mg_none_of X G zb_int
    b_bool := PySem.W.mg_none_of X G zb_bool
    b_len := PySem.W.mg_none_of X G zb_len
    b_range := PySem.W.mg_none_of X G zb_range
    b_tuple := PySem.W.mg_none_of X G zb_tuple
    b_min := PySem.W.mg_none_of X G zb_min
    b_repr := PySem.W.mg_none_of X G zb_repr
    b_all := PySem.W.mg_none_of X G zb_all
    b_OverflowError := PySem.W.mg_none_of X G zb_OverflowError
    b_LookupError := PySem.W.mg_none_of X G zb_LookupError
    b_zip := PySem.W.mg_none_of X G zb_zip
    b_gcd := PySem.W.mg_of X G zb_gcd
    C_WheelError := C_WheelError
    g_WheelError := PySem.W.mg_of X G gc_WheelError
    r_WheelError := ⟨rd_WheelError, rg_WheelError⟩
    i_WheelError := ri_WheelError
    C_BadBase := C_BadBase
    g_BadBase := PySem.W.mg_of X G gc_BadBase
    C_BadFraction := C_BadFraction
    g_BadFraction := PySem.W.mg_of X G gc_BadFraction
    C_BadNumber := C_BadNumber
    g_BadNumber := PySem.W.mg_of X G gc_BadNumber
    C_BadSeen := C_BadSeen
    g_BadSeen := PySem.W.mg_of X G gc_BadSeen
    C_TooGreat := C_TooGreat
    g_TooGreat := PySem.W.mg_of X G gc_TooGreat
    I_TooGreat := I_TooGreat
    T_TooGreat := ⟨PySem.F.excBase_OverflowError, PySem.F.store_OverflowError, ini_TooGreat, ov_TooGreat, hd_TooGreat, sa_TooGreat, ex_TooGreat, ty_TooGreat, kp_TooGreat, tk_TooGreat, no_TooGreat, iC_TooGreat, tI_TooGreat, ga_TooGreat, gg_TooGreat, ha_TooGreat, mr_TooGreat⟩
    fd_TooGreat := _
    F_TooGreat := fun_mk il_TooGreat ic_TooGreat ik_TooGreat
    b_TooGreat := .all (fun us hl => match us, hl with | [_, _], _ => rfl)
    is_TooGreat := ⟨cl_TooGreat, ga_TooGreat, gg_TooGreat, ex_TooGreat, ha_TooGreat, hn_TooGreat, ht_TooGreat, mr_TooGreat⟩
    C_Nothing := C_Nothing
    g_Nothing := PySem.W.mg_of X G gc_Nothing
    I_Nothing := I_Nothing
    T_Nothing := ⟨PySem.F.excBase_LookupError, PySem.F.store_LookupError, ini_Nothing, ov_Nothing, hd_Nothing, sa_Nothing, ex_Nothing, ty_Nothing, kp_Nothing, tk_Nothing, no_Nothing, iC_Nothing, tI_Nothing, ga_Nothing, gg_Nothing, ha_Nothing, mr_Nothing⟩
    fd_Nothing := _
    F_Nothing := fun_mk il_Nothing ic_Nothing ik_Nothing
    b_Nothing := .all (fun us hl => match us, hl with | [_, _], _ => rfl)
    is_Nothing := ⟨cl_Nothing, ga_Nothing, gg_Nothing, ex_Nothing, ha_Nothing, hn_Nothing, ht_Nothing, mr_Nothing⟩
    ex1_TooGreat := ex1_TooGreat
    ex0_TooGreat_Nothing := ex0_TooGreat_Nothing
    ex1_Nothing := ex1_Nothing
    i_LookupError := ir_LookupError
    i_OverflowError := ir_OverflowError
    k_law_right := kk_law_right
    p_law_right := pp_law_right
    e_law_right := e_law_right
    k_law_hand_right := kk_law_hand_right
    p_law_hand_right := pp_law_hand_right
    e_law_hand_right := e_law_hand_right
    ne_law_right_law_hand_right := ne_law_right_law_hand_right
    t_MOST_BASE := t_MOST_BASE
    c_MOST_BASE := PySem.W.mg_of X G zc_MOST_BASE
    t_MOST_DENOMINATOR := t_MOST_DENOMINATOR
    c_MOST_DENOMINATOR := PySem.W.mg_of X G zc_MOST_DENOMINATOR
    t_MOST_SEEN := t_MOST_SEEN
    c_MOST_SEEN := PySem.W.mg_of X G zc_MOST_SEEN
    t_GREATEST_BOUND := t_GREATEST_BOUND
    c_GREATEST_BOUND := PySem.W.mg_of X G zc_GREATEST_BOUND
    t_MOST_FITTING := t_MOST_FITTING
    c_MOST_FITTING := PySem.W.mg_of X G zc_MOST_FITTING
    t_MOST_SURE := t_MOST_SURE
    c_MOST_SURE := PySem.W.mg_of X G zc_MOST_SURE
  } := ⟨_, rfl⟩
  have e := hfa.symm.trans T.d_law.m
  cases e
  refine ⟨T.d_law.fd, [(T.k_law_right, T.p_law_right), (T.k_law_hand_right, T.p_law_hand_right)], (sp_law T), ?_, fun s v => .of_eq (T.d_law.e [v] rfl), ?_, fun base _ _ hB => okG_law T ⟨hB (T.k_law_right, T.p_law_right) (by simp), hB (T.k_law_hand_right, T.p_law_hand_right) (by simp)⟩⟩
  · intro p hp
    simp only [List.mem_cons, List.not_mem_nil, or_false] at hp
    subst hTT
    rcases hp with rfl | rfl
    · exact ⟨⟨"_law_right", by simp, tab_mk a_law_right l_law_right e_law_right lk_law_right tv_law_right⟩, np_law_right⟩
    · exact ⟨⟨"_law_hand_right", by simp, tab_mk a_law_hand_right l_law_hand_right e_law_hand_right lk_law_hand_right tv_law_hand_right⟩, np_law_hand_right⟩
  · intro H a ns hl hT hS
    refine ⟨a, ns, rfl, tabs0 fun p hp => ?_, hS, hl, fun _ => rfl⟩
    unfold tl at hp
    simp only [List.mem_cons, List.not_mem_nil, or_false] at hp
    rcases hp with rfl | rfl
    · exact hT (T.k_law_right, T.p_law_right) (by simp)
    · exact hT (T.k_law_hand_right, T.p_law_hand_right) (by simp)
end Wn
open PySem PySem.W PyProof.Rows
set_option maxRecDepth 100000 in
set_option maxHeartbeats 0 in
theorem PySem.Challenge.cw_wheelnines_k44_whole_seen_holds : PySem.Challenge.rw_wheelnines_k44_whole_seen.Holds := by
  w_on; o_law; k_head; (case hw => w_witness2)
  k_fill
  refine Wn.walkGT (l := PySem.Challenge.rw_wheelnines_k44_whole_seen) (n := 63) (k := 15) (x := "script") (xs := ["_law_right", "_law_hand_right"]) rfl (by decide) rfl ⟨rfl, by decide, by decide⟩ (by decide +kernel) (fun w h Y => by first | exact PySem.W.km_in_of Y | exact PySem.W.kIn_of Y) ?F
  case F =>
    intro w mg fa h KX G hmg
    refine' Wn.all_mk KX G hmg ?a_is_integer ?l_is_integer ?c_is_integer ?k_is_integer ?a_is_within ?l_is_within ?c_is_within ?k_is_within ?a_need_base ?l_need_base ?c_need_base ?k_need_base ?a_need_fraction ?l_need_fraction ?c_need_fraction ?k_need_fraction ?a_divided ?l_divided ?c_divided ?k_divided ?a_need_seen ?l_need_seen ?c_need_seen ?k_need_seen ?a_has_digits ?l_has_digits ?c_has_digits ?k_has_digits ?a_fits ?l_fits ?c_fits ?k_fits ?a_all_fitting ?l_all_fitting ?c_all_fitting ?k_all_fitting ?a_fitting ?l_fitting ?c_fitting ?k_fitting ?a_simplest ?l_simplest ?c_simplest ?k_simplest ?a_sure_digits ?l_sure_digits ?c_sure_digits ?k_sure_digits ?a_law_begun ?l_law_begun ?c_law_begun ?k_law_begun ?a_law_draw ?l_law_draw ?c_law_draw ?k_law_draw ?a_law_of ?l_law_of ?c_law_of ?k_law_of ?a_law_divisor ?l_law_divisor ?c_law_divisor ?k_law_divisor ?a_law_units ?l_law_units ?c_law_units ?k_law_units ?a_law_digits ?l_law_digits ?c_law_digits ?k_law_digits ?a_law_fit ?l_law_fit ?c_law_fit ?k_law_fit ?a_law_all ?l_law_all ?c_law_all ?k_law_all ?a_law_sure ?l_law_sure ?c_law_sure ?k_law_sure ?a_law_heard ?l_law_heard ?c_law_heard ?k_law_heard ?a_law_right ?l_law_right ?c_law_right ?k_law_right ?a_law_hand_right ?l_law_hand_right ?c_law_hand_right ?k_law_hand_right ?a_law ?l_law ?c_law ?k_law ?zb_isinstance ?zb_int ?zb_bool ?zb_len ?zb_range ?zb_tuple ?zb_min ?zb_repr ?zb_all ?zb_OverflowError ?zb_LookupError ?zb_zip ?zb_gcd ?gc_WheelError ?rd_WheelError ?rg_WheelError ?ri_WheelError ?gc_BadBase ?gc_BadFraction ?gc_BadNumber ?gc_BadSeen ?gc_TooGreat ?iC_TooGreat ?ini_TooGreat ?ov_TooGreat ?hd_TooGreat ?sa_TooGreat ?ex_TooGreat ?ty_TooGreat ?kp_TooGreat ?tk_TooGreat ?no_TooGreat ?tI_TooGreat ?ga_TooGreat ?gg_TooGreat ?ha_TooGreat ?mr_TooGreat ?il_TooGreat ?ic_TooGreat ?ik_TooGreat ?cl_TooGreat ?hn_TooGreat ?ht_TooGreat ?gc_Nothing ?iC_Nothing ?ini_Nothing ?ov_Nothing ?hd_Nothing ?sa_Nothing ?ex_Nothing ?ty_Nothing ?kp_Nothing ?tk_Nothing ?no_Nothing ?tI_Nothing ?ga_Nothing ?gg_Nothing ?ha_Nothing ?mr_Nothing ?il_Nothing ?ic_Nothing ?ik_Nothing ?cl_Nothing ?hn_Nothing ?ht_Nothing ?ex1_TooGreat ?ex0_TooGreat_Nothing ?ex1_Nothing ?ir_LookupError ?ir_OverflowError ?e_law_right ?lk_law_right ?tv_law_right ?np_law_right ?e_law_hand_right ?lk_law_hand_right ?tv_law_hand_right ?np_law_hand_right ?ne_law_right_law_hand_right ?zc_MOST_BASE ?zc_MOST_DENOMINATOR ?zc_MOST_SEEN ?zc_GREATEST_BOUND ?zc_MOST_FITTING ?zc_MOST_SURE
    (case a_is_integer => k_is)
    (case l_is_integer => k_is)
    (case c_is_integer => k_is)
    (case k_is_integer => k_is)
    (case a_is_within => k_is)
    (case l_is_within => k_is)
    (case c_is_within => k_is)
    (case k_is_within => k_is)
    (case a_need_base => k_is)
    (case l_need_base => k_is)
    (case c_need_base => k_is)
    (case k_need_base => k_is)
    (case a_need_fraction => k_is)
    (case l_need_fraction => k_is)
    (case c_need_fraction => k_is)
    (case k_need_fraction => k_is)
    (case a_divided => k_is)
    (case l_divided => k_is)
    (case c_divided => k_is)
    (case k_divided => k_is)
    (case a_need_seen => k_is)
    (case l_need_seen => k_is)
    (case c_need_seen => k_is)
    (case k_need_seen => k_is)
    (case a_has_digits => k_is)
    (case l_has_digits => k_is)
    (case c_has_digits => k_is)
    (case k_has_digits => k_is)
    (case a_fits => k_is)
    (case l_fits => k_is)
    (case c_fits => k_is)
    (case k_fits => k_is)
    (case a_all_fitting => k_is)
    (case l_all_fitting => k_is)
    (case c_all_fitting => k_is)
    (case k_all_fitting => k_is)
    (case a_fitting => k_is)
    (case l_fitting => k_is)
    (case c_fitting => k_is)
    (case k_fitting => k_is)
    (case a_simplest => k_is)
    (case l_simplest => k_is)
    (case c_simplest => k_is)
    (case k_simplest => k_is)
    (case a_sure_digits => k_is)
    (case l_sure_digits => k_is)
    (case c_sure_digits => k_is)
    (case k_sure_digits => k_is)
    (case a_law_begun => k_is)
    (case l_law_begun => k_is)
    (case c_law_begun => k_is)
    (case k_law_begun => k_is)
    (case a_law_draw => k_is)
    (case l_law_draw => k_is)
    (case c_law_draw => k_is)
    (case k_law_draw => k_is)
    (case a_law_of => k_is)
    (case l_law_of => k_is)
    (case c_law_of => k_is)
    (case k_law_of => k_is)
    (case a_law_divisor => k_is)
    (case l_law_divisor => k_is)
    (case c_law_divisor => k_is)
    (case k_law_divisor => k_is)
    (case a_law_units => k_is)
    (case l_law_units => k_is)
    (case c_law_units => k_is)
    (case k_law_units => k_is)
    (case a_law_digits => k_is)
    (case l_law_digits => k_is)
    (case c_law_digits => k_is)
    (case k_law_digits => k_is)
    (case a_law_fit => k_is)
    (case l_law_fit => k_is)
    (case c_law_fit => k_is)
    (case k_law_fit => k_is)
    (case a_law_all => k_is)
    (case l_law_all => k_is)
    (case c_law_all => k_is)
    (case k_law_all => k_is)
    (case a_law_sure => k_is)
    (case l_law_sure => k_is)
    (case c_law_sure => k_is)
    (case k_law_sure => k_is)
    (case a_law_heard => k_is)
    (case l_law_heard => k_is)
    (case c_law_heard => k_is)
    (case k_law_heard => k_is)
    (case a_law_right => k_is)
    (case l_law_right => k_is)
    (case c_law_right => k_is)
    (case k_law_right => k_is)
    (case a_law_hand_right => k_is)
    (case l_law_hand_right => k_is)
    (case c_law_hand_right => k_is)
    (case k_law_hand_right => k_is)
    (case a_law => k_is)
    (case l_law => k_is)
    (case c_law => k_is)
    (case k_law => k_is)
    (case zb_isinstance => k_is)
    (case zb_int => k_is)
    (case zb_bool => k_is)
    (case zb_len => k_is)
    (case zb_range => k_is)
    (case zb_tuple => k_is)
    (case zb_min => k_is)
    (case zb_repr => k_is)
    (case zb_all => k_is)
    (case zb_OverflowError => k_is)
    (case zb_LookupError => k_is)
    (case zb_zip => k_is)
    (case zb_gcd => k_is)
    (case gc_WheelError => k_is)
    (case rd_WheelError => k_is)
    (case rg_WheelError => k_is)
    (case ri_WheelError => k_is)
    (case gc_BadBase => k_is)
    (case gc_BadFraction => k_is)
    (case gc_BadNumber => k_is)
    (case gc_BadSeen => k_is)
    (case gc_TooGreat => k_is)
    (case iC_TooGreat => k_is)
    (case ini_TooGreat => kx_is)
    (case ov_TooGreat => kx_is)
    (case hd_TooGreat => k_is)
    (case sa_TooGreat => k_is)
    (case ex_TooGreat => k_is)
    (case ty_TooGreat => k_is)
    (case kp_TooGreat => k_is)
    (case tk_TooGreat => k_is)
    (case no_TooGreat => k_is)
    (case tI_TooGreat => k_is)
    (case ga_TooGreat => k_is)
    (case gg_TooGreat => k_is)
    (case ha_TooGreat => k_is)
    (case mr_TooGreat => k_is)
    (case il_TooGreat => k_is)
    (case ic_TooGreat => k_is)
    (case ik_TooGreat => k_is)
    (case cl_TooGreat => k_is)
    (case hn_TooGreat => k_is)
    (case ht_TooGreat => k_is)
    (case gc_Nothing => k_is)
    (case iC_Nothing => k_is)
    (case ini_Nothing => kx_is)
    (case ov_Nothing => kx_is)
    (case hd_Nothing => k_is)
    (case sa_Nothing => k_is)
    (case ex_Nothing => k_is)
    (case ty_Nothing => k_is)
    (case kp_Nothing => k_is)
    (case tk_Nothing => k_is)
    (case no_Nothing => k_is)
    (case tI_Nothing => k_is)
    (case ga_Nothing => k_is)
    (case gg_Nothing => k_is)
    (case ha_Nothing => k_is)
    (case mr_Nothing => k_is)
    (case il_Nothing => k_is)
    (case ic_Nothing => k_is)
    (case ik_Nothing => k_is)
    (case cl_Nothing => k_is)
    (case hn_Nothing => k_is)
    (case ht_Nothing => k_is)
    (case ex1_TooGreat => kernel_rfl)
    (case ex0_TooGreat_Nothing => kernel_rfl)
    (case ex1_Nothing => kernel_rfl)
    (case ir_LookupError => k_is)
    (case ir_OverflowError => k_is)
    (case e_law_right => rfl)
    (case lk_law_right => k_is)
    (case tv_law_right => rfl)
    (case np_law_right => kernel_rfl)
    (case e_law_hand_right => rfl)
    (case lk_law_hand_right => k_is)
    (case tv_law_hand_right => rfl)
    (case np_law_hand_right => kernel_rfl)
    (case ne_law_right_law_hand_right => first | k_is | decide | (intro z; cases z))
    (case zc_MOST_BASE => k_is)
    (case zc_MOST_DENOMINATOR => k_is)
    (case zc_MOST_SEEN => k_is)
    (case zc_GREATEST_BOUND => k_is)
    (case zc_MOST_FITTING => k_is)
    (case zc_MOST_SURE => k_is)
