import PyProof.Rows.All
import Wide.All
import OpenK.AllK
import Wide.FinOn
import HandS.ForMost
import HandS.Wide
import HandS.Gcd
import HandS.IsInst
import HandS.TupAny
import HandS.Style
import PyProof.ReprBulk
import PyProof.ReprRoads
import PyProof.ReprLen
import PyProof.Rows.SumAny
import PyProof.WalksMore
import HandS.SetFor
import HandS.Strs
import HandS.TupMul
import HandS.Text
import HandS.Codes
import HandS.FStr
import PyProof.Rows.Digits
import KE.KExcInit
import HandS.ExcInit
import HandS.ExcValue
import HandS.ExcField
import HandS.ExcIs
import HandS.ClsMeth
import KE.KExcIs
import KE.KTryMore
import HandS.TryMany
import HandS.Lambda
import KE.KDflt
import HandS.EndTab
import KE.KExcLine
import HandS.ExcOwn
import KE.KMathG
import HandS.Deep
import PyProof.Rows.InDataRows
import KE.GoesEnum
import PyProof.EnumMake
import PyProof.EnumStmt
import PyProof.StrOps2
import HandS.WordsExc
import HandS.Walk
import KE.RegKIsAll
import PySem.Challenge.RW_wheelnines_k19_texts_refused
set_option Elab.async false
set_option linter.all false
set_option maxRecDepth 100000
set_option maxHeartbeats 4000000
namespace Wn
open PySem PySem.Spec PyProof.Rows L2
/-! a def of the text as it stands: where, its facts, its name -/
structure Dn (K : PySem.W.Frag) (mg : Str → Option Value) (x : Str) (st : Stmt) (ps : List Str) where
  f : Addr
  fd : FuncData
  F : Fun K x x st f fd
  e : ∀ us : List Value, us.length = ps.length → bindArgs fd ⟨us, []⟩ = pure (ps.zip us)
  m : mg x = some (.ref f)
theorem Dn.b {K : PySem.W.Frag} {mg : Str → Option Value} {x : Str} {st : Stmt} {ps : List Str} (D : Dn K mg x st ps) : Binds K D.fd ps [] := .all D.e
def Dn.of {K : PySem.W.Frag} {h : Heap} {mg : Str → Option Value} {x : Str} {st : Stmt} {ps : List Str} {f : Addr} {oc kV doc pm cdv ct : Value} {od an : Option Addr} {osl : Array (Option Value)} (X : K.In h) (G : h.Ns mainGlobals mg)
    (hb : ∀ us : List Value, us.length = ps.length → bindArgs (PySem.W.fnOf x x (defArgs st) (defBody st) (defScope st) .none kV doc pm an cdv ct) ⟨us, []⟩ = pure (ps.zip us))
    (a : PySem.W.nsIn K mainGlobals x = some (some (.ref f))) (l : K.lookup f = some ⟨oc, od, .func (PySem.W.fnOf x x (defArgs st) (defBody st) (defScope st) .none kV doc pm an cdv ct), osl⟩)
    (c : PySem.W.codeIn K cdv x = true) (k : PySem.W.keepIn K (.ref f) = true) : Dn K mg x st ps := ⟨f, _, fun_mk l c k, hb, PySem.W.mg_of X G a⟩
/-! all that stood stands, but what is at W -/
def Gr (W : List Addr) (H H' : Hp) : Prop := ∀ a o, a ∉ W → H a = some o → H' a = some o
theorem Gr.refl (W : List Addr) (H : Hp) : Gr W H H := fun _ _ _ h => h
theorem Gr.trans {W : List Addr} {H H1 H2 : Hp} (a : Gr W H H1) (b : Gr W H1 H2) : Gr W H H2 := fun x o n h => b x o n (a x o n h)
theorem Gr.new {W : List Addr} {H : Hp} {p : Addr} {o : HO} (h : H p = none) : Gr W H (upd H p o) := fun a u _ e => by
  rw [upd_ne (ne_of_none e h)]
  exact e
theorem Gr.wr {W : List Addr} {H : Hp} {p : Addr} {o : HO} (h : p ∈ W) : Gr W H (upd H p o) := fun a u n e => by
  have z : a ≠ p := fun z => by
    subst z
    exact n h
  rw [upd_ne z]
  exact e
theorem Gr.mono {W W' : List Addr} {H H' : Hp} (h : ∀ a, a ∈ W → a ∈ W') (g : Gr W H H') : Gr W' H H' := fun a o n e => g a o (fun z => n (h a z)) e
end Wn
/-! the mathematics: powers, remainders, pure parts, periods, heads -/
namespace Wn
theorem cop_pow {a b : Nat} (h : Nat.gcd a b = 1) (k : Nat) : Nat.gcd (a ^ k) b = 1 := Nat.Coprime.pow_left k h
theorem mod_iff {p a c : Nat} (h : a ≤ c) : a % p = c % p ↔ p ∣ c - a := by
  constructor
  · intro e
    exact Nat.dvd_of_mod_eq_zero (Nat.sub_mod_eq_zero_of_mod_eq e.symm)
  · rintro ⟨t, e⟩
    have : c = a + p * t := by omega
    rw [this, Nat.add_mul_mod_self_left]
/-! a pigeonhole -/
theorem nodup_le : ∀ (n : Nat) (l : List Nat), l.Nodup → (∀ x ∈ l, x < n) → l.length ≤ n := by
  intro n
  induction n with
  | zero =>
    intro l _ h
    cases l with
    | nil => exact Nat.le_refl _
    | cons x r => exact absurd (h x (List.mem_cons_self ..)) (Nat.not_lt_zero _)
  | succ n ih =>
    intro l nd h
    have h1 := ih (l.erase n) (nd.erase n) (fun x hx => by
      have hm := List.mem_of_mem_erase hx
      have hlt := h x hm
      have hne : x ≠ n := fun e => by
        subst e
        exact (List.Nodup.not_mem_erase nd) hx
      omega)
    by_cases hn : n ∈ l
    · rw [List.length_erase_of_mem hn] at h1
      omega
    · rw [List.erase_of_not_mem hn] at h1
      omega
/-- among n + 1 numbers below n two are the same -/
theorem pigeon (n : Nat) (f : Nat → Nat) (h : ∀ i, i ≤ n → f i < n) : ∃ i j, i < j ∧ j ≤ n ∧ f i = f j := by
  by_cases nd : ((List.range (n + 1)).map f).Nodup
  · have := nodup_le n _ nd (fun x hx => by
      obtain ⟨i, hi, e⟩ := List.mem_map.mp hx
      rw [← e]
      exact h i (by have := List.mem_range.mp hi; omega))
    rw [List.length_map, List.length_range] at this
    omega
  · rw [List.nodup_iff_pairwise_ne, List.pairwise_map] at nd
    apply Classical.byContradiction
    intro hc
    apply nd
    rw [List.pairwise_iff_getElem]
    intro i j hi hj hij e
    rw [List.getElem_range, List.getElem_range] at e
    rw [List.length_range] at hj
    exact hc ⟨i, j, hij, by omega, e⟩
/-! pure parts -/
def IsPure (b n p : Nat) : Prop := Nat.gcd b p = 1 ∧ ∃ q k, n = p * q ∧ q ∣ b ^ k
theorem cop_of_dvd_pow {b p q k : Nat} (h : Nat.gcd b p = 1) (hq : q ∣ b ^ k) : Nat.gcd p q = 1 := by
  have h1 : Nat.gcd (b ^ k) p = 1 := cop_pow h k
  have h2 : Nat.gcd p q ∣ Nat.gcd (b ^ k) p := Nat.dvd_gcd (Nat.dvd_trans (Nat.gcd_dvd_right p q) hq) (Nat.gcd_dvd_left p q)
  rw [h1] at h2
  exact Nat.dvd_one.mp h2
theorem IsPure.dvd {b n p p' : Nat} (h : IsPure b n p) (h' : IsPure b n p') : p ∣ p' := by
  obtain ⟨g, q, k, e, hq⟩ := h
  obtain ⟨g', q', k', e', hq'⟩ := h'
  have c : Nat.Coprime p q' := cop_of_dvd_pow g hq'
  refine c.dvd_of_dvd_mul_right ?_
  rw [← e', e]
  exact Nat.dvd_mul_right p q
theorem IsPure.uniq {b n p p' : Nat} (h : IsPure b n p) (h' : IsPure b n p') : p = p' := Nat.dvd_antisymm (h.dvd h') (h'.dvd h)
theorem IsPure.self {b n : Nat} (h : Nat.gcd b n = 1) : IsPure b n n := ⟨h, 1, 0, by simp, by simp⟩
/-! periods -/
def IsPer (b p d : Nat) : Prop := 1 ≤ d ∧ b ^ d % p = 1 % p ∧ ∀ j, 1 ≤ j → j < d → b ^ j % p ≠ 1 % p
theorem IsPer.uniq {b p d d' : Nat} (h : IsPer b p d) (h' : IsPer b p d') : d = d' := by
  obtain ⟨h1, h2, h3⟩ := h
  obtain ⟨g1, g2, g3⟩ := h'
  apply Nat.le_antisymm
  · apply Nat.le_of_not_lt
    intro l
    exact h3 d' g1 l g2
  · apply Nat.le_of_not_lt
    intro l
    exact g3 d h1 l h2
theorem least (P : Nat → Prop) [DecidablePred P] : ∀ n, P n → ∃ m, m ≤ n ∧ P m ∧ ∀ j, j < m → ¬ P j := by
  intro n
  induction n using Nat.strongRecOn with
  | _ n ih =>
    intro hn
    by_cases h : ∃ j, j < n ∧ P j
    · obtain ⟨j, hj, pj⟩ := h
      obtain ⟨m, hm, pm, q⟩ := ih j hj pj
      exact ⟨m, by omega, pm, q⟩
    · exact ⟨n, Nat.le_refl _, hn, fun j hj pj => h ⟨j, hj, pj⟩⟩
/-- a common factor that is pure may go: b ^ i * c ≡ b ^ i * d -/
theorem mod_cancel {p a c d : Nat} (g : Nat.gcd a p = 1) (h : a * c % p = a * d % p) : c % p = d % p := by
  have key : ∀ {c d : Nat}, c ≤ d → a * c % p = a * d % p → c % p = d % p := by
    intro c d hcd h
    have h1 : p ∣ a * (d - c) := by
      rw [Nat.mul_sub]
      exact (mod_iff (Nat.mul_le_mul_left a hcd)).mp h
    have h2 : p ∣ d - c := Nat.Coprime.dvd_of_dvd_mul_left (Nat.Coprime.symm g) h1
    exact (mod_iff hcd).mpr h2
  rcases Nat.le_total c d with l | l
  · exact key l h
  · exact (key l h.symm).symm
theorem per_exists {b p : Nat} (hp : 1 ≤ p) (g : Nat.gcd b p = 1) : ∃ d, d ≤ p ∧ IsPer b p d := by
  obtain ⟨i, j, hij, hj, e⟩ := pigeon p (fun k => b ^ k % p) (fun i _ => Nat.mod_lt _ hp)
  have e1 : b ^ (j - i) % p = 1 % p := by
    have e' : b ^ i * b ^ (j - i) % p = b ^ i * 1 % p := by
      rw [← Nat.pow_add, show i + (j - i) = j by omega, Nat.mul_one]
      exact e.symm
    exact mod_cancel (cop_pow g i) e'
  obtain ⟨m, hm, ⟨pm1, pm⟩, q⟩ := least (fun k => 1 ≤ k ∧ b ^ k % p = 1 % p) (j - i) ⟨by omega, e1⟩
  exact ⟨m, by omega, pm1, pm, fun k k1 kl z => q k kl ⟨k1, z⟩⟩
theorem pow_mod_step (b p k : Nat) : b ^ k % p * b % p = b ^ (k + 1) % p := by
  rw [Nat.mod_mul_mod, Nat.pow_succ]
theorem IsPer.mul {b p d : Nat} (h : IsPer b p d) (k : Nat) : b ^ (d * k) % p = 1 % p := by
  induction k with
  | zero => simp
  | succ k ih =>
    rw [Nat.mul_succ, Nat.pow_add, Nat.mul_mod, ih, h.2.1, ← Nat.mul_mod, Nat.mul_one]
theorem IsPer.iff {b p d : Nat} (h : IsPer b p d) (k : Nat) : b ^ k % p = 1 % p ↔ d ∣ k := by
  have e : b ^ k % p = b ^ (k % d) % p := by
    have := Nat.div_add_mod k d
    rw [show b ^ k = b ^ (d * (k / d) + k % d) by rw [this], Nat.pow_add, Nat.mul_mod, h.mul, ← Nat.mul_mod, Nat.one_mul]
  constructor
  · intro hk
    rw [e] at hk
    apply Nat.dvd_of_mod_eq_zero
    apply Classical.byContradiction
    intro hz
    exact h.2.2 (k % d) (by omega) (Nat.mod_lt _ h.1) hk
  · rintro ⟨m, rfl⟩
    exact h.mul m
/-! heads -/
def IsHead (b q h : Nat) : Prop := b ^ h % q = 0 ∧ ∀ j, j < h → b ^ j % q ≠ 0
theorem IsHead.uniq {b q h h' : Nat} (a : IsHead b q h) (c : IsHead b q h') : h = h' := by
  apply Nat.le_antisymm
  · apply Nat.le_of_not_lt
    intro l
    exact a.2 h' l c.1
  · apply Nat.le_of_not_lt
    intro l
    exact c.2 h l a.1
theorem head_exists {b q k : Nat} (h : q ∣ b ^ k) : ∃ m, m ≤ k ∧ IsHead b q m := by
  obtain ⟨m, hm, pm, r⟩ := least (fun j => b ^ j % q = 0) k (Nat.mod_eq_zero_of_dvd h)
  exact ⟨m, hm, pm, r⟩
theorem IsHead.iff {b q h : Nat} (a : IsHead b q h) (k : Nat) : q ∣ b ^ k ↔ h ≤ k := by
  constructor
  · intro d
    apply Nat.le_of_not_lt
    intro l
    exact a.2 k l (Nat.mod_eq_zero_of_dvd d)
  · intro l
    have d : q ∣ b ^ h := Nat.dvd_of_mod_eq_zero a.1
    rw [show k = h + (k - h) by omega, Nat.pow_add]
    exact Nat.dvd_trans d (Nat.dvd_mul_right _ _)
theorem head_le {b q h : Nat} (hq : 1 ≤ q) (a : IsHead b q h) : h ≤ q := by
  apply Nat.le_of_not_lt
  intro l
  -- among the first q + 1 remainders two are the same: then none is nought behind
  obtain ⟨i, j, hij, hj, e⟩ := pigeon q (fun k => b ^ k % q) (fun i _ => Nat.mod_lt _ hq)
  have key : ∀ k, b ^ (i + k) % q = b ^ (j + k) % q := by
    intro k
    rw [Nat.pow_add, Nat.pow_add, Nat.mul_mod, e, ← Nat.mul_mod]
  have hz : b ^ (j + (h - j)) % q = 0 := by
    rw [show j + (h - j) = h by omega]
    exact a.1
  rw [← key] at hz
  exact a.2 (i + (h - j)) (by omega) hz
/-! remainders -/
def rem (b n x i : Nat) : Nat := x * b ^ i % n
theorem rem_lt {b n x i : Nat} (h : 1 ≤ n) : rem b n x i < n := Nat.mod_lt _ h
theorem rem_succ (b n x i : Nat) : rem b n x i * b % n = rem b n x (i + 1) := by
  unfold rem
  rw [Nat.mod_mul_mod, Nat.pow_succ, Nat.mul_assoc]
theorem rem_zero {b n x : Nat} (h : x < n) : rem b n x 0 = x := by
  unfold rem
  rw [Nat.pow_zero, Nat.mul_one, Nat.mod_eq_of_lt h]
/-- THE RING: when remainders come again -/
theorem rem_eq {b n x p q h L i j : Nat} (gx : Nat.gcd x n = 1) (e : n = p * q) (gp : Nat.gcd b p = 1) (gq : Nat.gcd p q = 1) (hh : IsHead b q h) (hL : IsPer b p L) (hij : i < j) :
    rem b n x i = rem b n x j ↔ h ≤ i ∧ L ∣ j - i := by
  have hle : b ^ i ≤ b ^ j ∨ b = 0 := by
    rcases Nat.eq_zero_or_pos b with z | z
    · exact .inr z
    · exact .inl (Nat.pow_le_pow_right z (Nat.le_of_lt hij))
  have hs : b ^ j = b ^ i * b ^ (j - i) := by rw [← Nat.pow_add, show i + (j - i) = j by omega]
  unfold rem
  constructor
  · intro hr
    have h1 : b ^ i % n = b ^ j % n := mod_cancel gx hr
    have hp : b ^ i % p = b ^ j % p := by
      have := congrArg (· % p) h1
      rw [e, Nat.mod_mul_right_mod, Nat.mod_mul_right_mod] at this
      exact this
    have hq : b ^ i % q = b ^ j % q := by
      have := congrArg (· % q) h1
      rw [e, Nat.mod_mul_left_mod, Nat.mod_mul_left_mod] at this
      exact this
    have dL : L ∣ j - i := by
      rw [← hL.iff]
      refine mod_cancel (cop_pow gp i) ?_
      rw [← hs, Nat.mul_one]
      exact hp.symm
    refine ⟨?_, dL⟩
    rw [← hh.iff]
    -- q divides b ^ i * (b ^ (j - i) - 1), and b ^ (j - i) is a multiple that goes on: take many turns
    have key : ∀ k, b ^ i % q = b ^ (i + (j - i) * k) % q := by
      intro k
      induction k with
      | zero => simp
      | succ k ih =>
        rw [show i + (j - i) * (k + 1) = (j - i) + (i + (j - i) * k) by rw [Nat.mul_succ]; omega, Nat.pow_add, Nat.mul_mod, ← ih, ← Nat.mul_mod, ← Nat.pow_add, show (j - i) + i = j by omega]
        exact hq
    have hz : b ^ (i + (j - i) * h) % q = 0 := by
      apply Nat.mod_eq_zero_of_dvd
      rw [hh.iff]
      have : h ≤ (j - i) * h := Nat.le_mul_of_pos_left h (by omega)
      omega
    exact Nat.dvd_of_mod_eq_zero ((key h).trans hz)
  · rintro ⟨h1, h2⟩
    have hp : b ^ (j - i) % p = 1 % p := (hL.iff _).mpr h2
    have hqd : q ∣ b ^ i := (hh.iff i).mpr h1
    have hpd : b ^ i % p = b ^ j % p := by
      rw [hs, Nat.mul_mod, hp, ← Nat.mul_mod, Nat.mul_one]
    have both : b ^ i % n = b ^ j % n := by
      rcases hle with hle | hb
      · apply (mod_iff hle).mpr
        rw [e]
        refine Nat.Coprime.mul_dvd_of_dvd_of_dvd gq ?_ ?_
        · exact (mod_iff hle).mp hpd
        · rw [hs, ← Nat.mul_sub_one]
          exact Nat.dvd_trans hqd (Nat.dvd_mul_right _ _)
      · subst hb
        have hp1 : p = 1 := by rw [Nat.gcd_zero_left] at gp; exact gp
        subst hp1
        rw [Nat.one_mul] at e
        subst e
        rw [Nat.mod_eq_zero_of_dvd hqd, Nat.mod_eq_zero_of_dvd (by rw [hs]; exact Nat.dvd_trans hqd (Nat.dvd_mul_right _ _))]
    rw [Nat.mul_mod, both, ← Nat.mul_mod]
/-! all of a denominator in a base -/
structure Par (b n p q h L : Nat) : Prop where
  hp : IsPure b n p
  e : n = p * q
  hh : IsHead b q h
  hL : IsPer b p L
theorem pure_exists (b : Nat) : ∀ n, 1 ≤ n → ∃ p, IsPure b n p := by
  intro n
  induction n using Nat.strongRecOn with
  | _ n ih =>
    intro hn
    by_cases g : Nat.gcd b n = 1
    · exact ⟨n, IsPure.self g⟩
    · obtain ⟨c, hc⟩ := Nat.gcd_dvd_right b n
      have hg : 1 ≤ Nat.gcd b n := Nat.gcd_pos_of_pos_right b hn
      have hc1 : 1 ≤ c := by
        rcases Nat.eq_zero_or_pos c with z | z
        · rw [z] at hc
          omega
        · exact z
      have hcn : c < n := by
        have hg2 : 2 ≤ Nat.gcd b n := by omega
        have : 2 * c ≤ Nat.gcd b n * c := Nat.mul_le_mul_right c hg2
        omega
      obtain ⟨p, hp, q, k, e, d⟩ := ih c hcn hc1
      refine ⟨p, hp, Nat.gcd b n * q, k + 1, ?_, ?_⟩
      · conv => lhs; rw [hc, e]
        rw [Nat.mul_left_comm]
      · rw [Nat.pow_succ, Nat.mul_comm (b ^ k) b]
        exact Nat.mul_dvd_mul (Nat.gcd_dvd_left b n) d
theorem par_exists {b n : Nat} (hn : 1 ≤ n) : ∃ p q h L, Par b n p q h L := by
  obtain ⟨p, hp⟩ := pure_exists b n hn
  obtain ⟨g, q, k, e, d⟩ := id hp
  obtain ⟨h, _, hh⟩ := head_exists d
  have hp1 : 1 ≤ p := by
    rcases Nat.eq_zero_or_pos p with z | z
    · rw [z] at e
      omega
    · exact z
  obtain ⟨L, _, hL⟩ := per_exists hp1 g
  exact ⟨p, q, h, L, hp, e, hh, hL⟩
section
variable {b n p q h L : Nat}
theorem Par.p1 (P : Par b n p q h L) (hn : 1 ≤ n) : 1 ≤ p := by
  rcases Nat.eq_zero_or_pos p with z | z
  · have := P.e
    rw [z] at this
    omega
  · exact z
theorem Par.q1 (P : Par b n p q h L) (hn : 1 ≤ n) : 1 ≤ q := by
  rcases Nat.eq_zero_or_pos q with z | z
  · have := P.e
    rw [z] at this
    omega
  · exact z
theorem Par.pn (P : Par b n p q h L) (hn : 1 ≤ n) : p ≤ n := Nat.le_of_dvd hn ⟨q, P.e⟩
theorem Par.qn (P : Par b n p q h L) (hn : 1 ≤ n) : q ≤ n := Nat.le_of_dvd hn ⟨p, by rw [P.e, Nat.mul_comm]⟩
theorem Par.Ln (P : Par b n p q h L) (hn : 1 ≤ n) : L ≤ n := by
  obtain ⟨d, hd, hd'⟩ := per_exists (P.p1 hn) P.hp.1
  have := hd'.uniq P.hL
  have := P.pn hn
  omega
theorem Par.hn (P : Par b n p q h L) (hn : 1 ≤ n) : h ≤ n := Nat.le_trans (head_le (P.q1 hn) P.hh) (P.qn hn)
theorem Par.gq (P : Par b n p q h L) (hn : 1 ≤ n) : Nat.gcd p q = 1 := by
  obtain ⟨g, q', k, e, d⟩ := P.hp
  have : q' = q := by
    have := P.e
    rw [e] at this
    exact Nat.eq_of_mul_eq_mul_left (P.p1 hn) this
  subst this
  exact cop_of_dvd_pow g d
/-- the end of a row of remainders -/
theorem ring_end {x i j : Nat} (P : Par b n p q h L) (hn : 1 ≤ n) (gx : Nat.gcd x n = 1) (hd : ∀ u v, u < v → v < i → rem b n x u ≠ rem b n x v) (hj : j < i) (e : rem b n x j = rem b n x i) : i = h + L ∧ j = h := by
  have F := fun {u v : Nat} (l : u < v) => rem_eq (x := x) gx P.e P.hp.1 (P.gq hn) P.hh P.hL l
  obtain ⟨h1, h2⟩ := (F hj).mp e
  have hL1 := P.hL.1
  have hle := Nat.le_of_dvd (by omega) h2
  have hi : i ≤ h + L := by
    apply Nat.le_of_not_lt
    intro l
    exact hd h (h + L) (by omega) l ((F (by omega)).mpr ⟨Nat.le_refl _, by rw [show h + L - h = L by omega]; exact Nat.dvd_refl _⟩)
  omega
end
end Wn
namespace Wn
open PySem PySem.Spec PyProof.Rows L2
theorem CallR.imp {X : Cx} {f : Value} {r r' : List V → Hp → VK → Prop} (h : CallR X f r) (i : ∀ vs H Q, r' vs H Q → r vs H Q) : CallR X f r' :=
  fun pins s σ H vs us Q I rv x => h pins s σ H vs us Q I rv (i _ _ _ x)
/-! the built-in type of a value -/
def isB (T n : String) : Bool := T == n || (T == "bool" && n == "int")
def tyNames : List String := ["NoneType", "bool", "int", "str", "list", "tuple", "dict"]
def qyNames : List String := ["bool", "int", "str", "list", "tuple", "dict"]
theorem isB_ok : ∀ T ∈ tyNames, ∀ n ∈ qyNames, kitB T n = some (isB T n) := by decide +kernel
def rIs (K : PySem.W.Frag) : List V → Hp → VK → Prop := fun xs H Q => ∃ (x : V) (n : String), xs = [x, .ty n] ∧ ∃ T : String, (TyX K H x (.type T) ∧ T ∈ tyNames ∧ n ∈ qyNames) ∧ Q (.bl (isB T n)) H
theorem call_is {X : Cx} : CallR X (.builtin "isinstance") (rIs X.K) := CallR.imp call_isi fun vs H Q h => by
  obtain ⟨x, n, e, T, ⟨h1, h2, h3⟩, q⟩ := h
  exact ⟨x, .ty n, .type T, .type n, isB T n, e, .ty n, h1, kit_ty (isB_ok T h2 n h3), q⟩
theorem ty_int {K : PySem.W.Frag} {H : Hp} {i : Int} : TyX K H (.int i) (.type "int") := .base (.int i)
theorem ty_tup {K : PySem.W.Frag} {H : Hp} {a : Addr} {xs : List V} (h : H a = some (.tup xs)) : TyX K H (.ref a) (.type "tuple") := .base (.tup h)
theorem cxK {CX : CXT} {P : Program} {w : World} {K : PySem.W.Frag} {mg : Str → Option Value} {base : Heap} {N : List Str} {q : Str} {sc : Scope} {f : Addr} {cdv : Value} {A : Around} {outer : List Env} {s : Shared} {H : Hp} {E : XK} :
    (cxOf CX P w K mg base N q sc f cdv A outer s H E).nox.K = K := rfl
theorem cxK2 {CX : CXT} {P : Program} {w : World} {K : PySem.W.Frag} {mg : Str → Option Value} {base : Heap} {N : List Str} {q : Str} {sc : Scope} {f : Addr} {cdv : Value} {A : Around} {outer : List Env} {s : Shared} {H : Hp} {E : XK} :
    (cxOf CX P w K mg base N q sc f cdv A outer s H E).K = K := rfl
theorem start1 (x : Str) (N : List Str) (v : V) (vs : List V) : L2.start (x :: N) (v :: vs) = some v :: L2.start N vs := by
  unfold L2.start
  simp
theorem start2 (x : Str) (N : List Str) : L2.start (x :: N) [] = none :: L2.start N [] := by
  unfold L2.start
  simp [List.replicate_succ]
theorem start3 : L2.start [] [] = [] := rfl
theorem sq_tup {K : PySem.W.Frag} {H : Hp} {a : Addr} {xs : List V} (h : H a = some (.tup xs)) : SqT K H a xs := .inl (.inl h)
theorem sq_lst {K : PySem.W.Frag} {H : Hp} {a : Addr} {xs : List V} (h : H a = some (.lst xs)) : SqL K H a xs := .inl (.inl h)
theorem slA_of {K : PySem.W.Frag} {H : Hp} {a : Addr} {xs : List V} {lo hi : Option Int} {Q : VK} (h : H a = some (.tup xs)) (q : ∀ p H', Gr [] H H' → H' p = some (.tup (cutV xs lo hi)) → Q (.ref p) H') : rSlA K (.ref a) lo hi H Q := by
  refine ⟨a, xs, rfl, sq_tup h, ?_, ?_⟩
  · intro e
    refine q a H (Gr.refl _ _) ?_
    have z : cutV xs lo hi = xs := by
      unfold cutV
      rw [e.1, e.2, List.drop_zero, Nat.sub_zero, List.take_length]
    rw [z]
    exact h
  · intro _ p np
    exact q p _ (Gr.new np) upd_same
def rLn (K : PySem.W.Frag) : List V → Hp → VK → Prop := fun xs H Q => ∃ p ys, xs = [.ref p] ∧ (SqL K H p ys ∨ SqT K H p ys) ∧ Q (.int ys.length) H
theorem call_ln {X : Cx} : CallR X (.builtin "len") (rLn X.K) := call_len_seq
def rLsO (K : PySem.W.Frag) : List V → Hp → VK → Prop := fun xs H Q => ∃ p ys, xs = [.ref p] ∧ (SqL K H p ys ∨ SqT K H p ys) ∧ ∀ l, H l = none → Q (.ref l) (upd H l (.lst ys))
theorem call_lsO {X : Cx} : CallR X (.type "list") (rLsO X.K) := call_list_of
def rTpO (K : PySem.W.Frag) : List V → Hp → VK → Prop := fun xs H Q => ∃ p ys, xs = [.ref p] ∧ ((SqL K H p ys ∧ ∀ l, H l = none → Q (.ref l) (upd H l (.tup ys))) ∨ (SqT K H p ys ∧ Q (.ref p) H))
theorem call_tpO {X : Cx} : CallR X (.type "tuple") (rTpO X.K) := call_tuple_of
theorem cut_lo {xs : List V} {k : Nat} (h : k ≤ xs.length) : cutV xs none (some (k : Int)) = xs.take k := by
  unfold cutV
  rw [HT.sIx_nat, HT.sIx_none, List.drop_zero, Nat.sub_zero, Nat.min_eq_left h]
theorem cut_hi {xs : List V} {k : Nat} (h : k ≤ xs.length) : cutV xs (some (k : Int)) none = xs.drop k := by
  unfold cutV
  rw [HT.sIx_nat, HT.sIx_none, Nat.min_eq_left h]
  exact List.take_of_length_le (by rw [List.length_drop]; omega)
theorem icm (a b n : Nat) : (a : Int) * (b : Int) % (n : Int) = ((a * b % n : Nat) : Int) := by
  rw [← Int.natCast_mul, ← Int.natCast_emod]
theorem icd (a b n : Nat) : (a : Int) * (b : Int) / (n : Int) = ((a * b / n : Nat) : Int) := by
  rw [← Int.natCast_mul, ← Int.natCast_ediv]
local macro_rules | `(tactic| walk_at "vc") => `(tactic| simp only [cxK, cxK2, start1, start2, start3, tRet, tRetN, tSeq, tNext, tIfS, tAsg, gName, tDrop, tVar, tC, tOp, tUn, tTest, tB, tNot, tAnd, tOr, tAndV, tOrV, tNotV, tIf, tCons, tNil, tCB, tCall, tChain, tAug, ipI, rI, rI0, rU, rIs, rGcd, rEq, rNe, scal,
  List.getElem?_cons_zero, List.getElem?_cons_succ, List.set_cons_zero, List.set_cons_succ, Option.some.injEq, List.cons.injEq, V.int.injEq, V.bl.injEq, V.ref.injEq, V.str.injEq, and_true, true_and, exists_eq_left, exists_eq_left', exists_and_left, exists_and_right, List.append_nil, List.nil_append, List.cons_append, exists_eq_right, exists_eq_right', and_assoc, exists_const, V.ty.injEq, ↓reduceIte, Bool.false_eq_true, Bool.not_true, Bool.not_false, decide_eq_true_eq])
end Wn
/-! contracts where nothing is being shown (no repr runs around): for defs that ask repr of lists, tuples, dicts -/
namespace Wn
open PySem PySem.Spec PyProof.Rows L2
structure FnG (P : Program) (w : World) (K : PySem.W.Frag) (mg : Str → Option Value) (base : Heap) (CX : CXT) (k : Nat) (f : Addr) (fd : FuncData) (ps : List Str) (sp : Sp) : Prop where
  sz : ∀ vs H Q E, sp vs H Q E → vs.length = ps.length
  go : ∀ (A : Around), A.guards = some [] → Room k A → ∀ (outer : List Env) (s : Shared) (H : Hp) (args : Args) (us : List Value) (vs : List V) (Q : VK) (E : XK),
    Env0 P w K mg base A outer s H → BindsTo s fd args (ps.zip us) → Vals vs us → sp vs H Q E → codeAny (model P w) A (.call (.ref f) args) (CR CX outer P w H s Q E) s
section
variable {P : Program} {w : World} {K : PySem.W.Frag} {mg : Str → Option Value} {base : Heap} {CX : CXT} {k : Nat} {f : Addr} {fd : FuncData} {ps : List Str} {sp : Sp}
theorem FnG.of (F : FnOk P w K mg base CX k f fd ps sp) : FnG P w K mg base CX k f fd ps sp :=
  ⟨F.len, fun A _ hr outer s H args us vs Q E e b v h => F.run A outer s H args us vs Q E hr e b v h⟩
theorem FnG.up {j : Nat} (F : FnG P w K mg base CX j f fd ps sp) (h : j ≤ k) : FnG P w K mg base CX k f fd ps sp :=
  ⟨F.sz, fun A hg hr => F.go A hg (hr.mono h)⟩
/-- a def by its body -/
theorem fnG {x qual : Str} {st : Stmt} {N : List Str} (F : Fun K x qual st f fd) (S : FnScope N ps (defScope st)) (sz : ∀ vs H Q E, sp vs H Q E → vs.length = ps.length)
    (body : ∀ (cdv : Value) (A : Around) (outer : List Env) (s : Shared) (H : Hp) (vs : List V) (Q : VK) (E : XK), (A.deeper (envOfC qual (defScope st) s.heap.objs.size f cdv)).guards = some [] →
      Room k (A.deeper (envOfC qual (defScope st) s.heap.objs.size f cdv)) → sp vs H Q E →
      ∃ t, PSs (cxOf CX P w K mg base N qual (defScope st) f cdv A outer s H E) (defBody st) t ∧ t { nx := fun _ H' => Q .non H', rt := Q } (L2.start N vs) H) : FnG P w K mg base CX (k + 1) f fd ps sp := by
  obtain ⟨oc, od, kV, doc, pm, an, cdv, ct, osl, rfl, lk, hcd⟩ := F.ex
  refine ⟨sz, fun A hgd hr outer s H args us vs Q E e0 hb r h => ?_⟩
  have KI : K.In s.heap := e0.mod.kin.keeps fun b o e => (e0.bs b o e).1
  have NL : s.heap.NoLimit := e0.mod.nolimit.keeps fun b o e => (e0.bs b o e).1
  refine codeAny_call_function hr.depth (KI _ _ lk) rfl S.co S.gen rfl (PySem.W.codeRec_of KI hcd) (hb _ _ _ _ ?_)
  refine wpAny_newFunctionEnv_cells S.kind (fun y hy => ?_) fun env he s1 x => ?_
  · obtain ⟨n, v⟩ := y
    rcases S.par n (List.of_mem_zip hy).1 with q | q
    · exact .inl q
    · exact .inr ⟨q, PySem.W.cellsFrom_some _ _ _ (.inl q)⟩
  · subst he
    refine ⟨NL.keeps x.toInCall.keep, codeAny_func ?_⟩
    obtain ⟨t, ht, hq⟩ := body cdv A outer s H vs Q E hgd (hr.deeper _) h
    refine wpAny_mono (ht.run [] s1 _ H _ (inv_start S hr.hd e0 (sz _ _ _ _ h) r x) hq) (fun fl s' z => ?_) fun e s' z => z
    cases fl with
    | ret u =>
      obtain ⟨v, σ', H', J, rv, q⟩ := z
      exact ⟨v, H', J.os, J.bare, J.base, J.hok, rv, q⟩
    | next =>
      obtain ⟨σ', H', J, q⟩ := z
      exact ⟨.non, H', J.os, J.bare, J.base, J.hok, rfl, q⟩
    | brk =>
      obtain ⟨_, _, _, q⟩ := z
      exact q.elim
    | cont =>
      obtain ⟨_, _, _, q⟩ := z
      exact q.elim
/-- no exception leaves it -/
theorem fnG0 {x qual : Str} {st : Stmt} {N : List Str} (F : Fun K x qual st f fd) (S : FnScope N ps (defScope st)) (sz : ∀ vs H Q E, sp vs H Q E → vs.length = ps.length)
    (body : ∀ (cdv : Value) (A : Around) (outer : List Env) (s : Shared) (H : Hp) (vs : List V) (Q : VK) (E : XK), (A.deeper (envOfC qual (defScope st) s.heap.objs.size f cdv)).guards = some [] →
      Room k (A.deeper (envOfC qual (defScope st) s.heap.objs.size f cdv)) → sp vs H Q E →
      ∃ t, PSs (cxOf CX0 P w K mg base N qual (defScope st) f cdv A outer s H E).nox (defBody st) t ∧ t { nx := fun _ H' => Q .non H', rt := Q } (L2.start N vs) H) : FnG P w K mg base CX0 (k + 1) f fd ps sp :=
  fnG F S sz fun cdv A outer s H vs Q E g r h => let ⟨t, ht, q⟩ := body cdv A outer s H vs Q E g r h; ⟨t, ht.nox, q⟩
end
section
variable {X : Cx} {CX : CXT} {k : Nat} {f : Addr} {fd : FuncData} {ps : List Str} {sp : Sp} {dvs : List V} {ds : List Value} {E : XK} {x : Str} {p pos : Pos} {e : Expr} {es : List Expr} {t : TA}
theorem runG {pins : List (Addr × Obj)} {σ : L2.St} {H : Hp} {s : Shared} {Q : VK} {us : List Value} {vs : List V} (F : FnG X.prog X.w X.K X.mg X.base CX k f fd ps sp) (hgd : X.A.guards = some []) (hr : Room k X.A) (hb : Binds X.K fd ps ds) (hd : Vals dvs ds)
    (hx : Passes CX X E) (I : Inv X pins σ H s) (r : Vals vs us) (h : sp (vs ++ dvs) H Q E) : wpAny (model X.prog X.w) X.A (call (.ref f) us) (EP X pins σ Q) X.xe s := by
  have rr := r.append hd
  refine wpAny_call (codeAny_mono (F.go X.A hgd hr X.stack s H ⟨us, []⟩ (us ++ ds) (vs ++ dvs) Q E I.env0 (hb s us I.kIn (rr.length ▸ F.sz _ _ _ _ h)) rr h) fun z s' q => ?_)
  match z, q with
  | .error e, q => exact hx pins σ H s e s' I q
  | .ok (.ret u), q => exact I.after q
  | .ok .next, q => exact q.elim
  | .ok .brk, q => exact q.elim
  | .ok .cont, q => exact q.elim
theorem pe_callG (hgd : X.A.guards = some []) (F : FnG X.prog X.w X.K X.mg X.base CX k f fd ps sp) (hr : Room k X.A) (hg : Gl X x) (hm : X.mg x = some (.ref f)) (hk : PySem.W.keepIn X.K (.ref f) = true) (hb : Binds X.K fd ps ds) (hd : Vals dvs ds) (hx : Passes CX X E)
    (ha : PA X (e :: es) t) (hdb : (x == ("__debug__" : Str)) = false := by decide) (he : starEach (e :: es) X.env = (false, eval e X.env) :: starEach es X.env := by rfl) (hpl : (backTo pos (starEach es X.env)).any (·.1) = false := by rfl) :
    PE X (.Call (.Name x p) (e :: es) [] pos) (tCall sp dvs E t) :=
  ⟨fun pins s σ H Q I h => wpAny_Call_Name_kw (ld_glob I hg hm (PySem.W.callWith_K (h₀ := X.base) I.ok.mod.kin hk (thn (ha.run pos pins s σ H _ I h) fun us s1 ⟨vs, H1, I1, r, q⟩ => ⟨I1.kIn, runG F hgd hr hb hd hx I1 r q⟩) he hpl) hdb)⟩
theorem pe_callG0 (hgd : X.A.guards = some []) (F : FnG X.prog X.w X.K X.mg X.base CX k f fd ps sp) (hr : Room k X.A) (hg : Gl X x) (hm : X.mg x = some (.ref f)) (hk : PySem.W.keepIn X.K (.ref f) = true) (hb : Binds X.K fd ps ds) (hd : Vals dvs ds) (hx : Passes CX X E)
    (hdb : (x == ("__debug__" : Str)) = false := by decide) : PE X (.Call (.Name x p) [] [] pos) (tCall sp dvs E tNil) :=
  ⟨fun pins s σ H Q I h => wpAny_Call_Name_kw (ld_glob I hg hm (PySem.W.callWith_K0 I.kIn hk (runG (us := []) F hgd hr hb hd hx I .nil h)) hdb)⟩
end
/-! the law's own head -/
theorem law_callG {P : Program} {w : World} {K : PySem.W.Frag} {mg mb : Str → Option Value} {CX : CXT} {k : Nat} {fa a : Addr} {fd : FuncData} {x : Str} {sp : Sp} {s1 : Shared} {vs : List Value} {ns : List Int}
    (KX : K.In s1.heap) (hns : s1.heap.Ns mainGlobals mg) (hb : s1.heap.Ns builtinsNs mb) (hbb : ∀ x : Str, x ≠ "__name__" → mb x = bootBuiltins x) (hlim : s1.heap.NoLimit) (hg : s1.gens = #[])
    (ha : s1.heap.get? a = some { cls := .type "list", data := .seq vs.toArray }) (hi : IntsAre vs ns) (hl : ns.length ≤ sizeLine) (hr : Room k callerA)
    (F : ∀ base : Heap, K.In base → base.Ns mainGlobals mg → FnG P w K mg base CX k fa fd [x] sp) (hbind : ∀ (s : Shared) (u : Value), BindsTo s fd ⟨[u], []⟩ [(x, u)])
    (hsp : ∀ H : Hp, Only H → SqL K H a (ns.map V.int) → sp [.ref a] H (fun v _ => v = .bl true) fun _ _ _ => False)
    (hCX : ∀ H e s', CX [] H s1 (fun _ _ _ => False) e s' → False) :
    codeAny (model P w) callerA (.call (.ref fa) ⟨[.ref a], []⟩) (fun r s' => r = .ok (.ret (.bool true)) ∧ OldK s1.heap s'.heap ∧ s'.os = s1.os ∧ AllBare s'.gens) s1 := by
  -- the script is tracked, unless it is one of the text's own objects
  obtain ⟨H, hH⟩ : ∃ H : Hp, H = fun b => if b = a ∧ K.lookup a = none then some (.frz { cls := .type "list", data := .seq vs.toArray } (.lst (ns.map V.int))) else none := ⟨_, rfl⟩
  have at_ : ∀ b u, H b = some u → b = a ∧ K.lookup a = none ∧ u = .frz { cls := .type "list", data := .seq vs.toArray } (.lst (ns.map V.int)) := fun b u z => by
    rw [hH] at z
    dsimp only at z
    split at z
    · rename_i c
      exact ⟨c.1, c.2, (Option.some.inj z).symm⟩
    · cases z
  have off : ∀ b o, s1.heap.get? b = some o → (∀ q, K.lookup b = some q → True) → (∀ n, o.data ≠ .seq vs.toArray n) → H b = none := fun b o e _ d => by
    cases z : H b with
    | none => rfl
    | some u =>
      obtain ⟨rfl, _, _⟩ := at_ b u z
      rw [ha] at e
      cases e
      exact absurd rfl (d _)
  have kb : ∀ b o, K.lookup b = some o → H b = none := fun b o e => by
    cases z : H b with
    | none => rfl
    | some u =>
      obtain ⟨rfl, z2, _⟩ := at_ b u z
      rw [z2] at e
      cases e
  have ok : HOk P w H s1.heap := fun b u z => by
    obtain ⟨rfl, _, rfl⟩ := at_ b u z
    exact ⟨ha, by rw [List.length_map]; exact hl, vs, _, vals_ints hi, ha⟩
  have sq : SqL K H a (ns.map V.int) := by
    cases z : K.lookup a with
    | none =>
      refine .inl (.inr ⟨{ cls := .type "list", data := .seq vs.toArray }, ?_⟩)
      rw [hH]
      exact if_pos ⟨rfl, z⟩
    | some o =>
      have e := KX a o z
      rw [ha] at e
      cases e
      exact .inr ⟨_, vs.toArray, _, z, rfl, rfl, rfl, by rw [List.size_toArray, hi.length]; exact hl, by simpa using vals_ints hi⟩
  have only : Only H := fun b => by
    cases z : H b with
    | none => exact .inl rfl
    | some u =>
      obtain ⟨_, _, rfl⟩ := at_ b u z
      exact .inr ⟨_, _, rfl⟩
  have nsB : ∀ {b : Addr} {m : Str → Option Value}, s1.heap.Ns b m → (hidT s1.heap H).Ns b m := fun {b m} ⟨o, es, ep, e, d, r⟩ => ⟨o, es, ep, hidT_get e (off b o e (fun _ _ => trivial) fun n z => by rw [d] at z; cases z), d, r⟩
  have KB : K.In (hidT s1.heap H) := fun b o e => hidT_get (KX b o e) (kb b o e)
  have M : Mod K mg (hidT s1.heap H) := ⟨KB, nsB hns, ⟨mb, nsB hb, hbb⟩, let ⟨mc, h1, h2⟩ := hlim; ⟨mc, nsB h1, h2⟩⟩
  have E0' : Env0 P w K mg (hidT s1.heap H) callerA [] s1 H := ⟨rfl, M, fun b o e => of_hidT e, Nat.le_of_eq (hidT_size _ _), trivial, fun b z => absurd (show b ∈ ([] : List Addr) from z) (by simp), ok, .of_eq hg⟩
  refine codeAny_mono ((F _ KB (nsB hns)).go callerA rfl hr [] s1 H ⟨[.ref a], []⟩ [.ref a] [.ref a] _ _ E0' (hbind s1 (.ref a)) (.cons rfl .nil) (hsp H only sq)) fun r s' z => ?_
  match r, z with
  | .error e, z => exact (hCX H e s' z).elim
  | .ok .next, z => exact z.elim
  | .ok .brk, z => exact z.elim
  | .ok .cont, z => exact z.elim
  | .ok (.ret u), z =>
    obtain ⟨v, H', os, bare, un, ok', rv, q⟩ := z
    obtain rfl : v = .bl true := q
    obtain rfl : u = Value.bool true := rv
    refine ⟨rfl, OldK.of_keep fun b o e => ?_, os, bare⟩
    cases y : H b with
    | none => exact un.keep b o e y (fun c => absurd (show b ∈ ([] : List Addr) from c) (by simp)) (by simp)
    | some u =>
      obtain ⟨rfl, _, rfl⟩ := at_ b u y
      rw [ha] at e
      cases e
      exact (ok' _ _ (un.frzs _ _ _ y)).1
theorem walkG {l : PySem.W.OpenLaw} {n k : Nat} {q : Program} {loose : List Str} {XP : (Str → Option Value) → Heap → Prop} {YP : World → Heap → Prop} {d : DefRec} {K : Params → PySem.W.Frag} {sp : World → Sp} {x : Str}
    (hn : l.most = some n) (hn2 : n ≤ sizeLine) (hdf : d.params.defaults = []) (hr : Room k callerA) (hY : ∀ (w : World) (h : Heap), YP w h → (K w.params).In h)
    (F : ∀ (w : World) (mg : Str → Option Value) (fa : Addr) (h : Heap), (K w.params).In h → h.Ns mainGlobals mg → mg d.name = some (.ref fa) →
      ∃ fd : FuncData, (∀ (s : Shared) (u : Value), BindsTo s fd ⟨[u], []⟩ [(x, u)]) ∧ ∀ base : Heap, (K w.params).In base → base.Ns mainGlobals mg → FnG l.prog w (K w.params) mg base CX0 k fa fd [x] (sp w))
    (hsp : ∀ (w : World) (H : Hp) (a : Addr) (ns : List Int), ns.length ≤ n → Only H → SqL (K w.params) H a (ns.map V.int) → sp w [.ref a] H (fun v _ => v = .bl true) fun _ _ _ => False) :
    PySem.W.WalkO q loose XP YP l.row.toRowW d [] (fun f vs => PySem.call f vs) :=
  Att.attach_call hn hdf fun w s0 s1 mg mb fa o pm cd doc a vs ns G Y ho hd hcd hmg hobj hints hlen hg => by
    obtain ⟨fd, hb, hF⟩ := F w mg fa _ (hY w _ Y) G.T.g hmg
    exact law_callG (hY w _ Y) G.T.g G.T.b G.T.builtins G.T.nolimit hg hobj hints (Nat.le_trans hlen hn2) hr hF hb (fun H hO hS => hsp w H a ns hlen hO hS) fun H e s' z => z
end Wn
/-! repr of data -/
namespace Wn
open PySem PySem.Spec PyProof.Rows L2
/-- data that repr takes: leaves of at most B signs, weight at most W, depth at most D -/
structure Sm (d : PyData) (B D W : Nat) : Prop where
  show_ : d.showable = true
  leaf : d.leavesShort B = true
  nod : d.hasDict = false
  lay : d.canLay0 = true
  dep : d.depth ≤ D
  wei : d.bulk ≤ W
theorem Sm.all : ∀ {xs : List PyData} {B D W : Nat}, (∀ x ∈ xs, Sm x B D W) → PyData.showableAll xs = true ∧ PyData.leavesShortAll B xs = true ∧ PyData.hasDictAll xs = false ∧ PyData.canLayAll0 xs = true ∧ PyData.depthAll xs ≤ D ∧ PyData.bulkAll xs ≤ xs.length * (W + 1)
  | [], _, _, _, _ => ⟨rfl, rfl, rfl, rfl, Nat.zero_le _, Nat.zero_le _⟩
  | x :: xs, B, D, W, h => by
    obtain ⟨h1, h2, h3, h6, h4, h5⟩ := Sm.all (xs := xs) fun y hy => h y (List.mem_cons_of_mem _ hy)
    have hx := h x (List.mem_cons_self ..)
    refine ⟨?_, ?_, ?_, ?_, ?_, ?_⟩
    · show (x.showable && PyData.showableAll xs) = true
      rw [hx.show_, h1]
      rfl
    · show (x.leavesShort B && PyData.leavesShortAll B xs) = true
      rw [hx.leaf, h2]
      rfl
    · show (x.hasDict || PyData.hasDictAll xs) = false
      rw [hx.nod, h3]
      rfl
    · show (x.canLay0 && PyData.canLayAll0 xs) = true
      rw [hx.lay, h6]
      rfl
    · show max x.depth (PyData.depthAll xs) ≤ D
      exact Nat.max_le.mpr ⟨hx.dep, h4⟩
    · show x.bulk + 1 + PyData.bulkAll xs ≤ (xs.length + 1) * (W + 1)
      rw [Nat.succ_mul]
      have := hx.wei
      omega
theorem Sm.lst {xs : List PyData} {B D W : Nat} (n : Nat) (h : ∀ x ∈ xs, Sm x B D W) (hn : xs.length ≤ n) : Sm (.list xs) B (D + 1) (n * (W + 1)) := by
  obtain ⟨h1, h2, h3, h6, h4, h5⟩ := Sm.all h
  exact ⟨h1, h2, h3, h6, Nat.succ_le_succ h4, Nat.le_trans h5 (Nat.mul_le_mul_right _ hn)⟩
theorem Sm.tup {xs : List PyData} {B D W : Nat} (n : Nat) (h : ∀ x ∈ xs, Sm x B D W) (hn : xs.length ≤ n) : Sm (.tuple xs) B (D + 1) (n * (W + 1)) := by
  obtain ⟨h1, h2, h3, h6, h4, h5⟩ := Sm.all h
  exact ⟨h1, h2, h3, h6, Nat.succ_le_succ h4, Nat.le_trans h5 (Nat.mul_le_mul_right _ hn)⟩
theorem Sm.mono {d : PyData} {B D W D' W' : Nat} (h : Sm d B D W) (h1 : D ≤ D') (h2 : W ≤ W') : Sm d B D' W' := ⟨h.show_, h.leaf, h.nod, h.lay, Nat.le_trans h.dep h1, Nat.le_trans h.wei h2⟩
theorem log2_lt {a k : Nat} (hk : 1 ≤ k) (h : a < 2 ^ k) : a.log2 < k := by
  rcases Nat.eq_zero_or_pos a with z | z
  · rw [z, Nat.log2_zero]
    exact hk
  · exact (Nat.log2_lt (by omega)).mpr h
/-- a whole number below 10 ^ 12 and below 2 ^ k -/
theorem Sm.int {i : Int} {k : Nat} (hk : 1 ≤ k) (h : i.natAbs < 2 ^ k) (hk2 : k ≤ 39) : Sm (.int i) 13 0 k := by
  have hl := log2_lt hk h
  have h12 : i.natAbs < 10 ^ 12 := Nat.lt_of_lt_of_le h (Nat.le_trans (Nat.pow_le_pow_right (by decide) hk2) (by decide))
  refine ⟨?_, ?_, rfl, rfl, Nat.le_refl _, ?_⟩
  · show decide (i.natAbs.log2 < 1920) = true
    exact decide_eq_true (by omega)
  · show decide ((PyData.shown (.int i)).length ≤ 13) = true
    exact decide_eq_true (PyData.shown_int_le h12)
  · show 0 ≤ k
    omega
def Fits (d : PyData) : Prop := ∃ B D W, Sm d B D W ∧ 8 ≤ B ∧ D ≤ 100 ∧ (B + 2) * W + B ≤ 16777216
theorem Fits.len {d : PyData} (h : Fits d) : d.shown.length ≤ sizeLine := by
  obtain ⟨B, D, W, s, h1, h2, h3⟩ := h
  have := PyData.shown_le_bulk B h1 d s.leaf
  rw [sizeLine_eq]
  have : (B + 2) * d.bulk ≤ (B + 2) * W := Nat.mul_le_mul_left _ s.wei
  omega
theorem Fits.shaped {d : PyData} (h : d.canLay0 = true) (h2 : d.depth ≤ 64) : SeqAt.shaped d = true := by
  unfold SeqAt.shaped
  rw [h, decide_eq_true h2]
  rfl
theorem Sm.fits {d : PyData} {D W : Nat} (h : Sm d 13 D W) (h1 : D ≤ 64 := by decide) (h2 : W ≤ 1100000 := by decide) : Fits d := ⟨13, D, W, h, by decide, by omega, by omega⟩
theorem Sm.fitsB {d : PyData} {B D W : Nat} (h : Sm d B D W) (h0 : 8 ≤ B := by decide) (h1 : D ≤ 64 := by decide) (h2 : (B + 2) * W + B ≤ 16777216 := by decide) : Fits d := ⟨B, D, W, h, h0, by omega, h2⟩
theorem Sm.shaped {d : PyData} {B D W : Nat} (h : Sm d B D W) (h1 : D ≤ 64 := by decide) : SeqAt.shaped d = true := Fits.shaped h.lay (Nat.le_trans h.dep h1)
/-! data stands while lists and tuples stand -/
def Kp (H H' : Hp) : Prop := (∀ a xs, H a = some (.lst xs) → H' a = some (.lst xs)) ∧ (∀ a xs, H a = some (.tup xs) → H' a = some (.tup xs)) ∧ ∀ a o u, H a = some (.frz o u) → H' a = some (.frz o u)
theorem Kp.of {H H' : Hp} (g : Gr [] H H') : Kp H H' := ⟨fun a _ e => g a _ (by simp) e, fun a _ e => g a _ (by simp) e, fun a _ _ e => g a _ (by simp) e⟩
theorem Kp.ofM {H H' : Hp} {d : Addr} (g : Gr [d] H H') (h : ∃ kvs, H d = some (.dK kvs)) : Kp H H' := by
  obtain ⟨kvs, h⟩ := h
  have ne : ∀ {a o}, H a = some o → (∀ k, o ≠ .dK k) → a ∉ [d] := fun {a o} e k z => by
    rw [List.mem_singleton] at z
    subst z
    rw [h] at e
    exact k _ (Option.some.inj e).symm
  exact ⟨fun a _ e => g a _ (ne e fun _ z => by cases z) e, fun a _ e => g a _ (ne e fun _ z => by cases z) e, fun a _ _ e => g a _ (ne e fun _ z => by cases z) e⟩
theorem Kp.trans {H H1 H2 : Hp} (a : Kp H H1) (b : Kp H1 H2) : Kp H H2 := ⟨fun x _ e => b.1 x _ (a.1 x _ e), fun x _ e => b.2.1 x _ (a.2.1 x _ e), fun x _ _ e => b.2.2 x _ _ (a.2.2 x _ _ e)⟩
theorem Kp.sqL {K : PySem.W.Frag} {H H' : Hp} {a : Addr} {xs : List V} (k : Kp H H') (h : SqL K H a xs) : SqL K H' a xs := by
  rcases h with (h | ⟨o, h⟩) | h
  · exact .inl (.inl (k.1 _ _ h))
  · exact .inl (.inr ⟨o, k.2.2 _ _ _ h⟩)
  · exact .inr h
theorem Kp.sqT {K : PySem.W.Frag} {H H' : Hp} {a : Addr} {xs : List V} (k : Kp H H') (h : SqT K H a xs) : SqT K H' a xs := by
  rcases h with (h | ⟨o, h⟩) | h
  · exact .inl (.inl (k.2.1 _ _ h))
  · exact .inl (.inr ⟨o, k.2.2 _ _ _ h⟩)
  · exact .inr h
mutual
theorem Dp.kp {K : PySem.W.Frag} {H H' : Hp} (k : Kp H H') : ∀ {v : V} {d : PyData}, Dp K H v d → Dp K H' v d
  | _, _, .non => .non
  | _, _, .bl b => .bl b
  | _, _, .int i => .int i
  | _, _, .str x => .str x
  | _, _, .lst h1 h2 => .lst (k.sqL h1) (DpAll.kp k h2)
  | _, _, .tup h1 h2 => .tup (k.sqT h1) (DpAll.kp k h2)
theorem DpAll.kp {K : PySem.W.Frag} {H H' : Hp} (k : Kp H H') : ∀ {vs : List V} {ds : List PyData}, DpAll K H vs ds → DpAll K H' vs ds
  | _, _, .nil => .nil
  | _, _, .cons h1 h2 => .cons (Dp.kp k h1) (DpAll.kp k h2)
end
theorem dpAll_ints {K : PySem.W.Frag} {H : Hp} : ∀ ns : List Int, DpAll K H (ns.map V.int) (ns.map PyData.int)
  | [] => .nil
  | n :: r => .cons (.int n) (dpAll_ints r)
theorem dp_lst {K : PySem.W.Frag} {H : Hp} {a : Addr} {xs : List V} {ds : List PyData} (h : H a = some (.lst xs)) (h2 : DpAll K H xs ds) : Dp K H (.ref a) (.list ds) := .lst (sq_lst h) h2
theorem dp_tup {K : PySem.W.Frag} {H : Hp} {a : Addr} {xs : List V} {ds : List PyData} (h : H a = some (.tup xs)) (h2 : DpAll K H xs ds) : Dp K H (.ref a) (.tuple ds) := .tup (sq_tup h) h2
def rRepr (K : PySem.W.Frag) : List V → Hp → VK → Prop := fun xs H Q => ∃ (x : V) (d : PyData), xs = [x] ∧ Dp K H x d ∧ Fits d ∧ Q (.str d.shown) H
theorem call_repr {X : Cx} (hg : X.A.guards = some []) (hu : X.A.units + 200 < cLine) : CallR X (.builtin "repr") (rRepr X.K) := by
  intro pins s σ H xs us Q I r h
  obtain ⟨x, d, rfl, hd, hf, q⟩ := h
  obtain ⟨u, rfl, rx⟩ := vals1 r
  have fin : ∀ tk' tk, EP X pins σ Q (.str d.shown tk) { s with toks := tk' } := fun tk' tk => ⟨.str _, H, I.tok _, ⟨_, rfl⟩, q⟩
  have hl := hf.len
  cases hd with
  | non =>
    obtain rfl : u = Value.none := rx
    exact PySem.P.repr_of_none (fin _ _)
  | bl b =>
    obtain rfl : u = Value.bool b := rx
    exact PySem.P.repr_of_bool (fin _ _)
  | int i =>
    obtain ⟨t, rfl⟩ := rx
    obtain ⟨B, D, W, sm, _⟩ := hf
    exact PySem.P.repr_of_int (of_decide_eq_true sm.show_) (fin _ _)
  | str y =>
    obtain ⟨t, rfl⟩ := rx
    exact PySem.P.repr_of_str (fin _ _) hl
  | lst h1 h2 =>
    rename_i a xs ds
    obtain rfl : u = Value.ref a := rx
    obtain ⟨as, rd⟩ := Dp.reads I (.list ds) (.ref a) (.ref a) (.lst h1 h2) rfl
    obtain ⟨B, D, W, sm, _, hD, _⟩ := hf
    have := sm.dep
    refine repr_of_reads' rd sm.show_ (fun z => absurd (sm.nod.symm.trans z) (by decide)) hg (by omega) (fun _ _ e => e) (fun h' u tk k => ⟨.str _, H, I.un (Un.kept k) (I.hok.kept k), ⟨_, rfl⟩, q⟩) hl
  | tup h1 h2 =>
    rename_i a xs ds
    obtain rfl : u = Value.ref a := rx
    obtain ⟨as, rd⟩ := Dp.reads I (.tuple ds) (.ref a) (.ref a) (.tup h1 h2) rfl
    obtain ⟨B, D, W, sm, _, hD, _⟩ := hf
    have := sm.dep
    refine repr_of_reads' rd sm.show_ (fun z => absurd (sm.nod.symm.trans z) (by decide)) hg (by omega) (fun _ _ e => e) (fun h' u tk k => ⟨.str _, H, I.un (Un.kept k) (I.hok.kept k), ⟨_, rfl⟩, q⟩) hl
theorem gu_of {A : Around} {k : Nat} (hr : Room k A) : A.units + 200 < cLine := by
  have := hr.un
  omega
end Wn
/-! expressions that give data and leave all as it was -/
namespace Wn
open PySem PySem.Spec PyProof.Rows L2
section
variable {K : PySem.W.Frag} {σ : L2.St} {H : Hp}
def EvD (K : PySem.W.Frag) (te : TE) (σ : L2.St) (H : Hp) (d : PyData) : Prop := ∀ H1, Gr [] H H1 → ∀ Q : VK, (∀ v H2, Gr [] H1 H2 → Dp K H2 v d → Q v H2) → te σ H1 Q
def EvS (K : PySem.W.Frag) (ta : TA) (σ : L2.St) (H : Hp) (ds : List PyData) : Prop := ∀ H1, Gr [] H H1 → ∀ Q : List V → Hp → Prop, (∀ vs H2, Gr [] H1 H2 → DpAll K H2 vs ds → Q vs H2) → ta σ H1 Q
/-- a list that stands as such -/
def EvL (K : PySem.W.Frag) (te : TE) (σ : L2.St) (H : Hp) (ds : List PyData) : Prop := ∀ H1, Gr [] H H1 → ∀ Q : VK, (∀ p xs H2, Gr [] H1 H2 → H2 p = some (.lst xs) → DpAll K H2 xs ds → Q (.ref p) H2) → te σ H1 Q
theorem EvD.on {te : TE} {d : PyData} {H' : Hp} (h : EvD K te σ H d) (g : Gr [] H H') : EvD K te σ H' d := fun H1 g1 Q q => h H1 (g.trans g1) Q q
theorem EvL.d {te : TE} {ds : List PyData} (h : EvL K te σ H ds) : EvD K te σ H (.list ds) := fun H1 g Q q => h H1 g Q fun p xs H2 g2 e a => q _ H2 g2 (dp_lst e a)
theorem ev_var {i : Nat} {v : V} {d : PyData} (e : σ[i]? = some (some v)) (h : Dp K H v d) : EvD K (tVar i) σ H d := fun H1 g Q q => ⟨v, e, q v H1 (Gr.refl _ _) (Dp.kp (Kp.of g) h)⟩
theorem ev_varL {i : Nat} {p : Addr} {xs : List V} {ds : List PyData} (e : σ[i]? = some (some (.ref p))) (h : H p = some (.lst xs)) (a : DpAll K H xs ds) : EvL K (tVar i) σ H ds :=
  fun H1 g Q q => ⟨_, e, q p xs H1 (Gr.refl _ _) (g _ _ (by simp) h) (DpAll.kp (Kp.of g) a)⟩
theorem ev_int {i : Int} : EvD K (tC (.int i)) σ H (.int i) := fun H1 _ Q q => q _ H1 (Gr.refl _ _) (.int i)
theorem ev_bl {i : Bool} : EvD K (tC (.bl i)) σ H (.bool i) := fun H1 _ Q q => q _ H1 (Gr.refl _ _) (.bl i)
theorem ev_str {i : Str} : EvD K (tC (.str i)) σ H (.str i) := fun H1 _ Q q => q _ H1 (Gr.refl _ _) (.str i)
theorem ev_non : EvD K (tC .non) σ H .none := fun H1 _ Q q => q _ H1 (Gr.refl _ _) .non
theorem es_nil : EvS K tNil σ H [] := fun H1 _ Q q => q _ H1 (Gr.refl _ _) .nil
theorem es_cons {te : TE} {ta : TA} {d : PyData} {ds : List PyData} (h : EvD K te σ H d) (r : EvS K ta σ H ds) : EvS K (tCons te ta) σ H (d :: ds) := fun H1 g Q q =>
  h H1 g _ fun v H2 g2 dv => r H2 (g.trans g2) _ fun vs H3 g3 dvs => q _ H3 (g2.trans g3) (.cons (Dp.kp (Kp.of g3) dv) dvs)
theorem dpAll_len {H : Hp} : ∀ {vs : List V} {ds : List PyData}, DpAll K H vs ds → vs.length = ds.length
  | _, _, .nil => rfl
  | _, _, .cons _ t => congrArg (· + 1) (dpAll_len t)
theorem ev_tup {ta : TA} {ds : List PyData} (h : EvS K ta σ H ds) (hz : ds.length ≤ 1000 := by exact Nat.le_of_ble_eq_true rfl) : EvD K (tTup ta) σ H (.tuple ds) := fun H1 g Q q =>
  h H1 g _ fun vs H2 g2 a => ⟨by rw [dpAll_len a]; exact Nat.le_of_lt (small1000 hz), fun p np => q _ _ (g2.trans (Gr.new np)) (dp_tup upd_same (DpAll.kp (Kp.of (Gr.new np)) a))⟩
theorem el_lst {ta : TA} {ds : List PyData} (h : EvS K ta σ H ds) (hz : ds.length ≤ 1000 := by exact Nat.le_of_ble_eq_true rfl) : EvL K (tLst ta) σ H ds := fun H1 g Q q =>
  h H1 g _ fun vs H2 g2 a => ⟨by rw [dpAll_len a]; exact Nat.le_of_lt (small1000 hz), fun p np => q _ _ _ (g2.trans (Gr.new np)) upd_same (DpAll.kp (Kp.of (Gr.new np)) a)⟩
theorem ev_lst {ta : TA} {ds : List PyData} (h : EvS K ta σ H ds) (hz : ds.length ≤ 1000 := by exact Nat.le_of_ble_eq_true rfl) : EvD K (tLst ta) σ H (.list ds) := (el_lst h hz).d
theorem dpAll_append {H : Hp} : ∀ {vs ws : List V} {ds es : List PyData}, DpAll K H vs ds → DpAll K H ws es → DpAll K H (vs ++ ws) (ds ++ es)
  | _, _, _, _, .nil, b => b
  | _, _, _, _, .cons h t, b => .cons h (dpAll_append t b)
theorem el_cat {ta tb : TE} {ds es : List PyData} (h1 : EvL K ta σ H ds) (h2 : EvL K tb σ H es) (hz : ds.length + es.length ≤ 1000 := by exact Nat.le_of_ble_eq_true rfl) : EvL K (tOp rCat ta tb) σ H (ds ++ es) := fun H1 g Q q =>
  h1 H1 g _ fun p xs H2 g2 e2 a2 => h2 H2 (g.trans g2) _ fun p3 ys H3 g3 e3 a3 => by
    have e2' := g3 _ _ (by simp) e2
    refine ⟨p, p3, xs, ys, rfl, rfl, e2', e3, by rw [dpAll_len a2, dpAll_len a3]; exact Nat.le_of_lt (small1000 hz), fun p4 np => ?_⟩
    exact q p4 _ _ ((g2.trans g3).trans (Gr.new np)) upd_same (dpAll_append (DpAll.kp (Kp.of (g3.trans (Gr.new np))) a2) (DpAll.kp (Kp.of (Gr.new np)) a3))
/-! two data compared -/
theorem ev_eq {ta tb : TE} {d e : PyData} (h1 : EvD K ta σ H d) (h2 : EvD K tb σ H e) (s1 : SeqAt.shaped d = true) (s2 : SeqAt.shaped e = true) : EvD K (tOp (rEqD K) ta tb) σ H (.bool (PyData.eqv d e)) := fun H1 g Q q =>
  h1 H1 g _ fun v H2 g2 a => h2 H2 (g.trans g2) _ fun w H3 g3 b => ⟨d, e, Dp.kp (Kp.of g3) a, b, s1, s2, q _ H3 (g2.trans g3) (.bl _)⟩
theorem ev_ne {ta tb : TE} {d e : PyData} (h1 : EvD K ta σ H d) (h2 : EvD K tb σ H e) (s1 : SeqAt.shaped d = true) (s2 : SeqAt.shaped e = true) : EvD K (tOp (rNeD K) ta tb) σ H (.bool (!PyData.eqv d e)) := fun H1 g Q q =>
  h1 H1 g _ fun v H2 g2 a => h2 H2 (g.trans g2) _ fun w H3 g3 b => ⟨d, e, Dp.kp (Kp.of g3) a, b, s1, s2, q _ H3 (g2.trans g3) (.bl _)⟩
theorem iteFb {b : Bool} {A B : Prop} (h : b = false) (x : B) : if b = true then A else B := by
  rw [h]
  exact iteF x
theorem iteTb {b : Bool} {A B : Prop} (h : b = true) (x : A) : if b = true then A else B := by
  rw [h]
  exact iteT x
/-! statements over them -/
theorem st_asgD {te : TE} {i : Nat} {d : PyData} {D : Ends} (h : EvD K te σ H d) (k : ∀ v H2, Gr [] H H2 → Dp K H2 v d → D.nx (σ.set i (some v)) H2) : tAsg te (gName i) D σ H := h H (Gr.refl _ _) _ k
theorem st_asgL {te : TE} {i : Nat} {ds : List PyData} {D : Ends} (h : EvL K te σ H ds) (k : ∀ p xs H2, Gr [] H H2 → H2 p = some (.lst xs) → DpAll K H2 xs ds → D.nx (σ.set i (some (.ref p))) H2) : tAsg te (gName i) D σ H := h H (Gr.refl _ _) _ k
theorem dp_bool {H : Hp} {v : V} {b : Bool} (h : Dp K H v (.bool b)) : v = .bl b := by cases h; rfl
theorem dp_int {H : Hp} {v : V} {b : Int} (h : Dp K H v (.int b)) : v = .int b := by cases h; rfl
theorem st_retB {te : TE} {b : Bool} {D : Ends} (h : EvD K te σ H (.bool b)) (k : ∀ H2, Gr [] H H2 → D.rt (.bl b) H2) : tRet te D σ H := h H (Gr.refl _ _) _ fun v H2 g e => by rw [dp_bool e]; exact k H2 g
/-- a test that is data -/
theorem tt_of {te : TE} {b : Bool} {H1 : Hp} {Q : Bool → Hp → Prop} (h : EvD K te σ H (.bool b)) (g : Gr [] H H1) (q : ∀ H2, Gr [] H1 H2 → Q b H2) : tTest te σ H1 Q := h H1 g _ fun v H2 g2 e => ⟨b, dp_bool e, q H2 g2⟩
theorem tb_of {te : TE} {b : Bool} {H1 : Hp} {Q : Bool → Hp → Prop} (h : EvD K te σ H (.bool b)) (g : Gr [] H H1) (q : ∀ H2, Gr [] H1 H2 → Q b H2) : tB te σ H1 Q := h H1 g _ fun v H2 g2 e => ⟨b, dp_bool e, q H2 g2⟩
theorem ev_andV {ta tb : TE} {a b : Bool} (h1 : EvD K ta σ H (.bool a)) (h2 : EvD K tb σ H (.bool b)) : EvD K (tAndV ta tb) σ H (.bool (a && b)) := fun H1 g Q q =>
  h1 H1 g _ fun v H2 g2 e => ⟨a, dp_bool e, by
    cases a with
    | true => exact iteT (h2 H2 (g.trans g2) _ fun w H3 g3 e3 => q w H3 (g2.trans g3) e3)
    | false => exact iteF (q _ H2 g2 (.bl false))⟩
end
end Wn
/-! sum of a tuple of whole numbers -/
namespace Wn
open PySem PySem.Spec PyProof.Rows L2
section
variable {prog : Program} {w : World} {A : Around} {E : Value → Shared → Prop} {s : Shared} {l : Addr} {its : List Value} {ns : List Int} {Q : Value → Shared → Prop}
theorem sum_tup0 {xs : Array (Int × Tok)} (hh : A.handled = none) (hl : s.heap.IsTuple l (intItems xs))
    (h : ∀ h' tk t', (∀ b o, s.heap.get? b = some o → h'.get? b = some o) → Q (.int (preSum (numAt xs) xs.size) t') { s with heap := h', toks := tk }) : wpAny (model prog w) A (call (.builtin "sum") [.ref l]) Q E s := by
  refine call_sum_walkG (wpAny_pyIter_tuple hl ?_)
  obtain ⟨o, ho, hc, n, hd⟩ := hl
  have lt : l < s.heap.objs.size := Heap.lt_size ho
  have kp : ∀ b u, s.heap.get? b = some u → (s.heap.push { cls := .type "tuple_iterator", data := .fields #[.ref l, .int 0 0] }).get? b = some u := fun b u e => Heap.get?_push_of_some _ e
  refine ⟨s.heap.objs.size, _, _, _, _, _, numAt xs, rfl, Walks.tuple (A := A.in1) hh s.heap.objs.size l (Nat.ne_of_lt lt) (intItems xs), ⟨⟨_, Heap.get?_push_size _ rfl, rfl, rfl⟩, ⟨o, kp _ _ ho, hc, n, hd⟩⟩, fun b hb => ?_, fun _ _ => intItems_at, fun h' tk t' hk => ?_⟩
  · have hz : (s.heap.push { cls := .type "tuple_iterator", data := .fields #[.ref l, .int 0 0] }).objs.size = s.heap.objs.size + 1 := by simp [Heap.push]
    simp only [List.mem_cons, List.not_mem_nil, or_false] at hb
    show b < (s.heap.push _).objs.size
    rw [hz]
    rcases hb with rfl | rfl
    · exact Nat.lt_succ_self _
    · exact Nat.lt_succ_of_lt lt
  · have := h h' tk t' (fun b u e => hk b u (by
      rw [List.mem_singleton]
      exact Nat.ne_of_lt (Heap.lt_size e)) (kp b u e))
    simpa [intItems] using this
theorem sum_tup (hh : A.handled = none) (hl : s.heap.IsTuple l its.toArray) (hi : IntsAre its ns)
    (h : ∀ h' tk t', (∀ b o, s.heap.get? b = some o → h'.get? b = some o) → Q (.int ns.sum t') { s with heap := h', toks := tk }) : wpAny (model prog w) A (call (.builtin "sum") [.ref l]) Q E s := by
  obtain ⟨xs, e⟩ := hi.allInts.items
  have hn : numsOf (intItems xs).toList = ns := by
    rw [← e]
    exact hi.numsOf
  rw [nums_intItems] at hn
  rw [e] at hl
  refine sum_tup0 hh hl fun h' tk t' hk => ?_
  have := h h' tk t' hk
  rw [preSum_eq, List.take_of_length_le (by simp), hn]
  exact this
end
def rSumT (K : PySem.W.Frag) : List V → Hp → VK → Prop := fun vs H Q => ∃ (a : Addr) (ns : List Int), vs = [V.ref a] ∧ SqT K H a (ns.map V.int) ∧ Q (.int ns.sum) H
theorem cr_sumT {X : Cx} (hc : X.calm = true) : CallR X (.builtin "sum") (rSumT X.K) := by
  intro pins s σ H vs us Q I r h
  obtain ⟨a, ns, rfl, hs, q⟩ := h
  obtain ⟨its, rv, hl, _⟩ := I.tuple hs
  rw [Vals.ref1 r]
  exact sum_tup (I.ok.hd hc) hl rv.ints fun h' tk t' hk => ⟨.int _, H, I.kept hk, ⟨_, rfl⟩, q⟩
end Wn
/-! a list with a step: xs[::k] -/
namespace Wn
open PySem PySem.Spec PyProof.Rows L2
def stepV (xs : List V) (k : Nat) : List V := (List.range ((xs.length + k - 1) / k)).filterMap fun i => xs[k * i]?
theorem vals_picks {xs : List V} {us : List Value} (r : Vals xs us) (f : Nat → Nat) : ∀ js : List Nat, Vals (js.filterMap fun i => xs[f i]?) (js.filterMap fun i => us[f i]?)
  | [] => .nil
  | j :: js => by
    have ih := vals_picks r f js
    cases e : xs[f j]? with
    | none =>
      have e2 := r.none_of e
      rw [List.filterMap_cons, List.filterMap_cons, e, e2]
      exact ih
    | some x =>
      obtain ⟨u, e2, h⟩ := r.get e
      rw [List.filterMap_cons, List.filterMap_cons, e, e2]
      exact .cons h ih
theorem pick_step (us : List Value) {k : Nat} (hk : 1 ≤ k) : slicePick us.toArray none none (some (k : Int)) = ((List.range ((us.length + k - 1) / k)).filterMap fun i => us[k * i]?).toArray := by
  have e : sliceBounds none none (some (k : Int)) us.toArray.size = ((0 : Int), (us.length : Int), (k : Int)) := by
    have h : (k : Int) > 0 := by omega
    simp only [sliceBounds, Option.getD_some, h, if_true, List.size_toArray]
  unfold slicePick
  rw [e]
  show (List.filterMap (fun i => us.toArray[i]?) (sliceRange 0 (us.length : Int) (k : Int))).toArray = _
  congr 1
  have e2 : sliceRange 0 (us.length : Int) (k : Int) = (List.range ((us.length + k - 1) / k)).map fun i => k * i := by
    unfold sliceRange
    have h : (k : Int) > 0 := by omega
    rw [if_pos h]
    have c : (if (0 : Int) < (us.length : Int) then ((us.length : Int) - 0 + k - 1) / k else 0).toNat = (us.length + k - 1) / k := by
      by_cases z : (0 : Int) < (us.length : Int)
      · rw [if_pos z, show ((us.length : Int) - 0 + k - 1) = ((us.length + k - 1 : Nat) : Int) by omega, ← Int.natCast_ediv]
        rfl
      · rw [if_neg z]
        have : us.length = 0 := by omega
        rw [this, Nat.zero_add, Nat.div_eq_of_lt (by omega)]
        rfl
    dsimp only
    rw [c]
    apply List.map_congr_left
    intro i _
    rw [Int.zero_add, ← Int.natCast_mul]
    rfl
  rw [e2, List.filterMap_map]
  congr 1
  funext i
  simp
theorem stepV_len (xs : List V) (k : Nat) (hk : 1 ≤ k) : (stepV xs k).length ≤ xs.length := by
  unfold stepV
  refine Nat.le_trans (List.length_filterMap_le _ _) ?_
  rw [List.length_range]
  rcases Nat.eq_zero_or_pos xs.length with z | z
  · rw [z, Nat.zero_add, Nat.div_eq_of_lt (by omega)]
    exact Nat.le_refl _
  · refine Nat.lt_succ_iff.mp ((Nat.div_lt_iff_lt_mul (by omega)).mpr ?_)
    have : xs.length * 1 ≤ xs.length * k := Nat.mul_le_mul_left _ hk
    rw [Nat.succ_mul]
    omega
def rStL (K : PySem.W.Frag) : V → V → Hp → VK → Prop := fun x y H Q => ∃ (a : Addr) (xs : List V) (k : Nat), x = .ref a ∧ y = .int k ∧ 1 ≤ k ∧ SqL K H a xs ∧ ∀ p, H p = none → Q (.ref p) (upd H p (.lst (stepV xs k)))
def tStL (r : R2) (te ts : TE) : TE := fun σ H Q => te σ H fun x H1 => ts σ H1 fun y H2 => r x y H2 Q
variable {X : Cx} {e st : Expr} {te ts : TE} {pos p2 : Pos}
theorem pe_stepL {r : R2} (he : PE X e te) (hs : PE X st ts) (hr : r = rStL X.K := by rfl) : PE X (.Subscript e (.Slice none none (some st) p2) pos) (tStL r te ts) := by
  subst hr
  refine ⟨fun pins s σ H Q I h => ?_⟩
  refine Subscript_ (thn (he.run pins s σ H _ I h) fun v s1 ⟨x, H1, I1, r1, q1⟩ => ?_)
  refine wpAny_Slice ?_
  rw [evalPart_none]
  refine wpAny_pure (wpAny_pure ?_)
  rw [evalPart_some]
  refine thn (hs.run pins s1 σ H1 _ I1 q1) fun vs s3 ⟨y, H3, I3, ry, q3⟩ => ?_
  obtain ⟨a, xs, k, rfl, rfl, hk, hx, q⟩ := q3
  cases r1
  obtain ⟨t, rfl⟩ := ry
  have I4 : Inv X pins σ H3 { s3 with heap := s3.heap.push { cls := .type "slice", data := .fields #[.none, .none, .int k t] } } := I3.kept (t' := s3.toks) fun b ob q => Heap.get?_push_of_some _ q
  obtain ⟨its, r, ht, hz⟩ := I4.list hx
  have hlen := r.length
  have hg : wpAny (model X.prog X.w) X.A (getItem (.ref a) (.ref s3.heap.objs.size)) (EP X pins σ Q) X.xe { s3 with heap := s3.heap.push { cls := .type "slice", data := .fields #[.none, .none, .int k t] } } := by
    refine wpAny_getItem_list_slice (st := some (k : Int)) ht.isList (Heap.IsSliceOf.new ..) .none .none (.int _ _) (by intro z; have := Option.some.inj z; omega) ?_ (by rw [List.size_toArray] <;> omega)
    rw [pick_step its hk, ← hlen]
    refine ⟨.ref _, _, I4.laid (t' := s3.toks) (o := .lst (stepV xs k)) (fun b ob q => Heap.get?_push_of_some _ q) (Nat.le_refl _) ?_, rfl, q _ (I4.hok.fresh (Nat.le_refl _))⟩
    exact ⟨Nat.le_trans (stepV_len xs k hk) hz, _, 0, vals_picks r _ _, Heap.get?_push_size _ rfl⟩
  show wpAny (model X.prog X.w) X.A (subscriptTail e (.Slice none none (some st) p2) (.ref a) (.ref s3.heap.objs.size)) (EP X pins σ Q) X.xe { s3 with heap := s3.heap.push { cls := .type "slice", data := .fields #[.none, .none, .int k t] } }
  exact tail_any (ops := [.ref a, .ref s3.heap.objs.size]) ht.isList.typeIs slot_list_getitem.lookup hg (by with_unfolding_all rfl)
end Wn
/-! sums of powers, and which cuts balance -/
namespace Wn
open PySem PySem.Spec PyProof.Rows L2
def geo (g : Nat) : Nat → Nat
  | 0 => 0
  | c + 1 => geo g c + g ^ c
theorem geo_add (g a : Nat) : ∀ d, geo g (a + d) = geo g a + g ^ a * geo g d
  | 0 => by simp [geo]
  | d + 1 => by
    rw [← Nat.add_assoc]
    show geo g (a + d) + g ^ (a + d) = geo g a + g ^ a * (geo g d + g ^ d)
    rw [geo_add g a d, Nat.mul_add, Nat.pow_add, Nat.add_assoc]
theorem geo_mul (g m : Nat) : ∀ c, geo g (m * c) = geo g m * geo (g ^ m) c
  | 0 => by simp [geo]
  | c + 1 => by
    show geo g (m * c + m) = geo g m * (geo (g ^ m) c + (g ^ m) ^ c)
    rw [geo_add, geo_mul g m c, Nat.mul_add, ← Nat.pow_mul, Nat.mul_comm (g ^ (m * c))]
theorem geo_tel (g : Nat) : ∀ c, geo g c * g + 1 = geo g c + g ^ c
  | 0 => by simp [geo]
  | c + 1 => by
    show (geo g c + g ^ c) * g + 1 = geo g c + g ^ c + g ^ (c + 1)
    rw [Nat.add_mul, Nat.pow_succ]
    have := geo_tel g c
    omega
def restSum (b n x s c : Nat) : Nat := ((List.range c).map fun i => rem b n x (s * i)).sum
theorem restSum_succ (b n x s c : Nat) : restSum b n x s (c + 1) = restSum b n x s c + rem b n x (s * c) := by
  unfold restSum
  rw [List.range_succ, List.map_append, List.sum_append]
  simp
theorem restSum_mod (b n x s : Nat) : ∀ c, restSum b n x s c % n = x * geo (b ^ s) c % n
  | 0 => by simp [restSum, geo]
  | c + 1 => by
    rw [restSum_succ, Nat.add_mod, restSum_mod b n x s c]
    show (_ + rem b n x (s * c) % n) % n = x * (geo (b ^ s) c + (b ^ s) ^ c) % n
    rw [Nat.mul_add, Nat.add_mod (x * _)]
    unfold rem
    rw [Nat.mod_mod, Nat.pow_mul]
def bal (b n s c : Nat) : Bool := decide (restSum b n 1 s c % n = 0)
theorem bal_iff {b n s c : Nat} : bal b n s c = true ↔ n ∣ geo (b ^ s) c := by
  unfold bal
  rw [decide_eq_true_eq, restSum_mod, Nat.one_mul]
  exact (Nat.dvd_iff_mod_eq_zero ..).symm
theorem bal_mul {b n s c m : Nat} (h : bal b n (m * s) c = true) : bal b n s (m * c) = true := by
  rw [bal_iff] at h ⊢
  rw [geo_mul, ← Nat.pow_mul, Nat.mul_comm s m]
  exact Nat.dvd_trans h (Nat.dvd_mul_left _ _)
theorem bal_prime {b n s c L : Nat} (hb : 1 ≤ b) (hn : 2 ≤ n) (hp : ∀ k, 2 ≤ k → k < n → ¬ n % k = 0) (hL : IsPer b n L) (hc : 2 ≤ c) (hs : 1 ≤ s) (e : L = s * c) : bal b n s c = true := by
  rw [bal_iff]
  have hsL : s < L := by
    rw [e]
    have : s * 2 ≤ s * c := Nat.mul_le_mul_left _ hc
    omega
  have g1 : 1 ≤ b ^ s := Nat.one_le_pow _ _ hb
  have h1 : (b ^ s) ^ c % n = 1 % n := by
    rw [← Nat.pow_mul, ← e]
    exact hL.2.1
  have h2 : ¬ n ∣ b ^ s - 1 := fun z => hL.2.2 s hs hsL ((mod_iff g1).mpr z).symm
  have t := geo_tel (b ^ s) c
  have t2 : geo (b ^ s) c * (b ^ s - 1) = (b ^ s) ^ c - 1 := by
    rw [Nat.mul_sub, Nat.mul_one]
    omega
  have h3 : n ∣ geo (b ^ s) c * (b ^ s - 1) := by
    rw [t2]
    exact (mod_iff (Nat.one_le_pow _ _ g1)).mp h1.symm
  have hd : Nat.gcd n (b ^ s - 1) ∣ n := Nat.gcd_dvd_left _ _
  have hdn := Nat.le_of_dvd (by omega) hd
  have hd0 : 1 ≤ Nat.gcd n (b ^ s - 1) := Nat.gcd_pos_of_pos_left _ (by omega)
  have hd1 : Nat.gcd n (b ^ s - 1) = 1 := by
    rcases Nat.lt_or_eq_of_le hdn with z | z
    · rcases Nat.lt_or_eq_of_le hd0 with y | y
      · exact absurd (Nat.mod_eq_zero_of_dvd hd) (hp _ y z)
      · exact y.symm
    · exact absurd (z ▸ Nat.gcd_dvd_right n (b ^ s - 1)) h2
  exact Nat.Coprime.dvd_of_dvd_mul_right hd1 h3
/-! which cuts -/
def from2 (k : Nat) : List Nat := (List.range k).map (2 + ·)
theorem from2_succ (k : Nat) : from2 (k + 1) = from2 k ++ [2 + k] := by
  unfold from2
  rw [List.range_succ, List.map_append]
  rfl
theorem mem_from2 {k c : Nat} : c ∈ from2 k ↔ 2 ≤ c ∧ c < 2 + k := by
  unfold from2
  rw [List.mem_map]
  constructor
  · rintro ⟨i, hi, rfl⟩
    rw [List.mem_range] at hi
    omega
  · rintro ⟨h1, h2⟩
    exact ⟨c - 2, List.mem_range.mpr (by omega), by omega⟩
def splitsL (L : Nat) : List Nat := (from2 (L - 1)).filter fun c => decide (L % c = 0)
theorem mem_splits {L c : Nat} (hL : 1 ≤ L) : c ∈ splitsL L ↔ 2 ≤ c ∧ c ∣ L := by
  unfold splitsL
  rw [List.mem_filter, mem_from2, decide_eq_true_eq]
  constructor
  · rintro ⟨⟨h1, h2⟩, h3⟩
    exact ⟨h1, Nat.dvd_of_mod_eq_zero h3⟩
  · rintro ⟨h1, h2⟩
    have := Nat.le_of_dvd hL h2
    exact ⟨⟨h1, by omega⟩, Nat.mod_eq_zero_of_dvd h2⟩
def dueL (b n L : Nat) : List Nat := (splitsL L).filter fun c => bal b n (L / c) c
def below (xs : List Nat) (c : Nat) : List Nat := xs.filter fun k => decide (k < c) && decide (c % k = 0)
def isLeast (xs : List Nat) (c : Nat) : Bool := (below xs c).isEmpty
def leastL (xs : List Nat) : List Nat := xs.filter (isLeast xs)
theorem asc_splits (L : Nat) : (splitsL L).Pairwise (· < ·) := by
  unfold splitsL from2
  refine List.Pairwise.filter _ ?_
  rw [List.pairwise_map]
  exact List.Pairwise.imp (fun h => by omega) List.pairwise_lt_range
theorem asc_due (b n L : Nat) : (dueL b n L).Pairwise (· < ·) := (asc_splits L).filter _
theorem isLeast_iff {xs : List Nat} {c : Nat} : isLeast xs c = true ↔ ∀ k ∈ xs, k < c → ¬ c % k = 0 := by
  unfold isLeast below
  rw [List.isEmpty_iff, List.filter_eq_nil_iff]
  constructor
  · intro h k hk hc hm
    exact h k hk (by rw [decide_eq_true hc, decide_eq_true hm]; rfl)
  · intro h k hk hm
    rw [Bool.and_eq_true, decide_eq_true_eq, decide_eq_true_eq] at hm
    exact h k hk hm.1 hm.2
theorem least_under {xs : List Nat} (h2 : ∀ k ∈ xs, 1 ≤ k) : ∀ (m k : Nat), k ≤ m → k ∈ xs → ∃ k0 ∈ xs, k0 ∣ k ∧ isLeast xs k0 = true
  | 0, k, hm, hk => absurd (h2 k hk) (by omega)
  | m + 1, k, hm, hk => by
    by_cases h : isLeast xs k = true
    · exact ⟨k, hk, Nat.dvd_refl k, h⟩
    · rw [isLeast_iff] at h
      have : ∃ j, j ∈ xs ∧ j < k ∧ k % j = 0 := by
        apply Classical.byContradiction
        intro z
        exact h fun j hj hl hm' => z ⟨j, hj, hl, hm'⟩
      obtain ⟨j, hj, hl, hm'⟩ := this
      obtain ⟨k0, h0, hd, hs⟩ := least_under h2 m j (by omega) hj
      exact ⟨k0, h0, Nat.dvd_trans hd (Nat.dvd_of_mod_eq_zero hm'), hs⟩
/-- the look at the least ones found so far -/
theorem least_step {xs : List Nat} (h2 : ∀ k ∈ xs, 1 ≤ k) (asc : xs.Pairwise (· < ·)) {i : Nat} (hi : i < xs.length) :
    (((xs.take i).filter (isLeast xs)).map fun k => !decide (xs[i] % k = 0)).all id = isLeast xs xs[i] := by
  rw [Bool.eq_iff_iff, List.all_map, List.all_eq_true, isLeast_iff]
  have lt : ∀ k ∈ xs.take i, k < xs[i] := fun k hk => by
    obtain ⟨j, hj, rfl⟩ := List.mem_iff_getElem.mp hk
    rw [List.length_take] at hj
    rw [List.getElem_take]
    exact List.pairwise_iff_getElem.mp asc j i (by omega) hi (by omega)
  have back : ∀ k ∈ xs, k < xs[i] → k ∈ xs.take i := fun k hk hl => by
    obtain ⟨j, hj, rfl⟩ := List.mem_iff_getElem.mp hk
    rw [List.mem_iff_getElem]
    have hji : j < i := by
      rcases Nat.lt_trichotomy j i with z | z | z
      · exact z
      · subst z
        omega
      · have := List.pairwise_iff_getElem.mp asc i j hi hj z
        omega
    exact ⟨j, by rw [List.length_take]; omega, by rw [List.getElem_take]⟩
  constructor
  · intro h k hk hl hm
    obtain ⟨k0, h0, hd, hs⟩ := least_under h2 k k (Nat.le_refl _) hk
    have hk0 : k0 < xs[i] := Nat.lt_of_le_of_lt (Nat.le_of_dvd (h2 k hk) hd) hl
    have := h k0 (List.mem_filter.mpr ⟨back k0 h0 hk0, hs⟩)
    rw [Function.comp_apply, id_eq, Bool.not_eq_true', decide_eq_false_iff_not] at this
    exact this (Nat.mod_eq_zero_of_dvd (Nat.dvd_trans hd (Nat.dvd_of_mod_eq_zero hm)))
  · intro h k hk
    obtain ⟨hk1, hk2⟩ := List.mem_filter.mp hk
    rw [Function.comp_apply, id_eq, Bool.not_eq_true', decide_eq_false_iff_not]
    exact h k (List.mem_of_mem_take hk1) (lt k hk1)
theorem due_mul {b n L c k : Nat} (hL : 1 ≤ L) (hc : c ∈ dueL b n L) (hk : k ∈ splitsL L) (hd : k % c = 0) : k ∈ dueL b n L := by
  obtain ⟨hc1, hc2⟩ := List.mem_filter.mp hc
  refine List.mem_filter.mpr ⟨hk, ?_⟩
  obtain ⟨k1, k2⟩ := (mem_splits hL).mp hk
  obtain ⟨c1, c2⟩ := (mem_splits hL).mp hc1
  obtain ⟨m, rfl⟩ := Nat.dvd_of_mod_eq_zero hd
  obtain ⟨s, rfl⟩ := k2
  have hm : 1 ≤ m := by
    rcases Nat.eq_zero_or_pos m with z | z
    · subst z
      omega
    · exact z
  have e1 : c * m * s / c = m * s := by
    rw [Nat.mul_assoc]
    exact Nat.mul_div_cancel_left _ (by omega)
  have e2 : c * m * s / (c * m) = s := Nat.mul_div_cancel_left _ (by omega)
  rw [e1] at hc2
  rw [e2, Nat.mul_comm c m]
  exact bal_mul hc2
theorem due_prime {b n L : Nat} (hb : 1 ≤ b) (hn : 2 ≤ n) (hp : ∀ k, 2 ≤ k → k < n → ¬ n % k = 0) (hL : IsPer b n L) : dueL b n L = splitsL L := by
  unfold dueL
  rw [List.filter_eq_self]
  intro c hc
  obtain ⟨h1, s, e⟩ := (mem_splits hL.1).mp hc
  have hs : 1 ≤ s := by
    rcases Nat.eq_zero_or_pos s with z | z
    · rw [z, Nat.mul_zero] at e
      have := hL.1
      omega
    · exact z
  have : L / c = s := by
    rw [e]
    exact Nat.mul_div_cancel_left _ (by omega)
  rw [this]
  exact bal_prime hb hn hp hL h1 hs (by rw [e, Nat.mul_comm])
/-! lists of whole numbers from 0 on -/
def vn (xs : List Nat) : List V := xs.map fun k => V.int (k : Nat)
def ni (xs : List Nat) : List Int := xs.map fun k => ((k : Nat) : Int)
theorem vn_ni (xs : List Nat) : vn xs = (ni xs).map V.int := by
  unfold vn ni
  rw [List.map_map]
  rfl
theorem vn_len (xs : List Nat) : (vn xs).length = xs.length := by simp [vn]
theorem vn_snoc (xs : List Nat) (k : Nat) : vn xs ++ [V.int (k : Nat)] = vn (xs ++ [k]) := by simp [vn]
theorem vn_get {xs : List Nat} {i : Nat} {y : V} (h : (vn xs)[i]? = some y) : ∃ hi : i < xs.length, y = V.int (xs[i] : Nat) := by
  unfold vn at h
  rw [List.getElem?_map] at h
  cases e : xs[i]? with
  | none =>
    rw [e] at h
    cases h
  | some n =>
    rw [e] at h
    obtain ⟨hi, e2⟩ := List.getElem?_eq_some_iff.mp e
    subst e2
    exact ⟨hi, (Option.some.inj h).symm⟩
theorem ni_sum : ∀ xs : List Nat, (ni xs).sum = ((xs.sum : Nat) : Int)
  | [] => rfl
  | x :: r => by
    show (x : Int) + (ni r).sum = ((x + r.sum : Nat) : Int)
    rw [ni_sum r]
    omega
theorem filt_yes {xs : List Nat} {g : Nat → Bool} {i : Nat} (hi : i < xs.length) (h : g xs[i] = true) : (xs.take (i + 1)).filter g = (xs.take i).filter g ++ [xs[i]] := by
  rw [List.take_succ_eq_append_getElem hi, List.filter_append, List.filter_cons, if_pos h]
  rfl
theorem filt_no {xs : List Nat} {g : Nat → Bool} {i : Nat} (hi : i < xs.length) (h : g xs[i] = false) : (xs.take (i + 1)).filter g = (xs.take i).filter g := by
  rw [List.take_succ_eq_append_getElem hi, List.filter_append, List.filter_cons, if_neg (by rw [h]; decide)]
  simp
theorem from2_len (k : Nat) : (from2 k).length = k := by simp [from2]
theorem from2_get {k i : Nat} (h : i < k) : (from2 k)[i]'(by rw [from2_len]; exact h) = 2 + i := by simp [from2]
theorem eqv_niL (ys : List Nat) : PyData.eqv (.list ((ni ys).map PyData.int)) (.list []) = ys.isEmpty := by
  cases ys with
  | nil => rfl
  | cons y r => rfl
theorem inV_ni (k : Nat) : ∀ xs : List Nat, inV (.int (k : Nat)) (vn xs) = decide (k ∈ xs) := by
  intro xs
  induction xs with
  | nil => rfl
  | cons y r ih =>
    show ((((y : Nat) : Int) == ((k : Nat) : Int)) || inV (.int (k : Nat)) (vn r)) = _
    rw [ih, Bool.eq_iff_iff, Bool.or_eq_true, beq_iff_eq, decide_eq_true_eq, decide_eq_true_eq, List.mem_cons]
    constructor
    · rintro (h | h)
      · exact .inl (by omega)
      · exact .inr h
    · rintro (h | h)
      · exact .inl (by omega)
      · exact .inr h
theorem flat_ni : ∀ xs : List Nat, (vn xs).all flatV = true
  | [] => rfl
  | _ :: r => flat_ni r
theorem blkOk_of {N N0 : List Str} {sc sc0 scope : Scope} {own : List (Str × Nat)} (hN : N = N0) (hs : sc = sc0) (h : blkC N0 sc0 scope own = true) : BlkOk N sc scope own := by
  subst hN hs
  exact blkOk_by h
end Wn
/-! values of digits, and the sum of the pieces -/
namespace Wn
open PySem PySem.Spec PyProof.Rows L2
def wrt (b : Nat) (ds : List Nat) : Nat := ds.foldl (fun f d => f * b + d) 0
theorem wrt_snoc (b : Nat) (ds : List Nat) (d : Nat) : wrt b (ds ++ [d]) = wrt b ds * b + d := by simp [wrt]
def dg (b n x lo c : Nat) : List Nat := (List.range c).map fun i => rem b n x (lo + i) * b / n
theorem dg_len (b n x lo c : Nat) : (dg b n x lo c).length = c := by simp [dg]
theorem dg_succ (b n x lo c : Nat) : dg b n x lo (c + 1) = dg b n x lo c ++ [rem b n x (lo + c) * b / n] := by
  unfold dg
  rw [List.range_succ, List.map_append]
  rfl
theorem wrt_dg (b n x lo : Nat) : ∀ c, n * wrt b (dg b n x lo c) + rem b n x (lo + c) = rem b n x lo * b ^ c
  | 0 => by simp [dg, wrt]
  | c + 1 => by
    have ih := wrt_dg b n x lo c
    have dm := Nat.div_add_mod (rem b n x (lo + c) * b) n
    rw [rem_succ] at dm
    rw [dg_succ, wrt_snoc, Nat.pow_succ, ← Nat.mul_assoc, ← ih, Nat.mul_add, Nat.add_mul, ← Nat.mul_assoc]
    have e : lo + (c + 1) = lo + c + 1 := rfl
    rw [e]
    omega
/-- the value of piece number j of k digits -/
def pce (b n x k j : Nat) : Nat := wrt b (dg b n x (k * j) k)
def pcs (b n x k c : Nat) : List Nat := (List.range c).map (pce b n x k)
theorem pcs_len (b n x k c : Nat) : (pcs b n x k c).length = c := by simp [pcs]
theorem pcs_succ (b n x k c : Nat) : pcs b n x k (c + 1) = pcs b n x k c ++ [pce b n x k c] := by
  unfold pcs
  rw [List.range_succ, List.map_append]
  rfl
theorem pcs_sum (b n x k : Nat) : ∀ c, n * (pcs b n x k c).sum + restSum b n x k c + rem b n x (k * c) = b ^ k * restSum b n x k c + rem b n x 0
  | 0 => by simp [pcs, restSum]
  | c + 1 => by
    have ih := pcs_sum b n x k c
    have w := wrt_dg b n x (k * c) k
    have e : k * (c + 1) = k * c + k := rfl
    rw [e, pcs_succ, List.sum_append, restSum_succ, Nat.mul_add, Nat.mul_add]
    have e2 : ([pce b n x k c] : List Nat).sum = pce b n x k c := by simp
    rw [e2]
    unfold pce
    rw [Nat.mul_comm (b ^ k) (rem b n x (k * c)), ← w]
    omega
theorem pcs_all {b n x k c : Nat} (hb : 1 ≤ b) (h : rem b n x (k * c) = rem b n x 0) : n * (pcs b n x k c).sum = (b ^ k - 1) * restSum b n x k c := by
  have e := pcs_sum b n x k c
  rw [h] at e
  have h1 : 1 ≤ b ^ k := Nat.one_le_pow _ _ hb
  rw [Nat.sub_mul, Nat.one_mul]
  omega
theorem pcs_quot {b n x k c : Nat} (hb : 2 ≤ b) (hk : 1 ≤ k) (hn : 1 ≤ n) (h : rem b n x (k * c) = rem b n x 0) :
    ((pcs b n x k c).sum % (b ^ k - 1) = 0 ↔ restSum b n x k c % n = 0) ∧ (restSum b n x k c % n = 0 → (pcs b n x k c).sum / (b ^ k - 1) = restSum b n x k c / n) := by
  have e := pcs_all (b := b) (n := n) (x := x) (k := k) (c := c) (by omega) h
  have h1 : 2 ≤ b ^ k := Nat.le_trans hb (Nat.le_self_pow (by omega) b)
  generalize (pcs b n x k c).sum = S at e ⊢
  generalize restSum b n x k c = R at e ⊢
  generalize hm : b ^ k - 1 = m at e ⊢
  have m1 : 1 ≤ m := by omega
  refine ⟨⟨fun z => ?_, fun z => ?_⟩, fun z => ?_⟩
  · obtain ⟨q, rfl⟩ := Nat.dvd_of_mod_eq_zero z
    have : m * R = m * (n * q) := by rw [← e, Nat.mul_left_comm]
    rw [Nat.eq_of_mul_eq_mul_left m1 this]
    exact Nat.mul_mod_right _ _
  · obtain ⟨q, rfl⟩ := Nat.dvd_of_mod_eq_zero z
    have : n * S = n * (m * q) := by rw [e, Nat.mul_left_comm]
    rw [Nat.eq_of_mul_eq_mul_left hn this]
    exact Nat.mul_mod_right _ _
  · obtain ⟨q, rfl⟩ := Nat.dvd_of_mod_eq_zero z
    have : n * S = n * (m * q) := by rw [e, Nat.mul_left_comm]
    rw [Nat.eq_of_mul_eq_mul_left hn this, Nat.mul_div_cancel_left _ m1, Nat.mul_div_cancel_left _ hn]
theorem pce_lt {b n x k j : Nat} (hb : 1 ≤ b) (hn : 1 ≤ n) : pce b n x k j < b ^ k := by
  have w := wrt_dg b n x (k * j) k
  have r := rem_lt (b := b) (n := n) (x := x) (i := k * j) hn
  unfold pce
  have h1 : n * wrt b (dg b n x (k * j) k) ≤ rem b n x (k * j) * b ^ k := by omega
  have h2 : rem b n x (k * j) * b ^ k < n * b ^ k := Nat.mul_lt_mul_of_pos_right r (Nat.pow_pos hb)
  exact Nat.lt_of_mul_lt_mul_left (Nat.lt_of_le_of_lt h1 h2)
theorem rem_period {b n x L : Nat} (h : b ^ L % n = 1 % n) : rem b n x L = rem b n x 0 := by
  unfold rem
  rw [Nat.mul_mod, h, ← Nat.mul_mod, Nat.pow_zero]
/-! whole numbers of more signs -/
theorem Sm.intB {i : Int} {k : Nat} (hk : 1 ≤ k) (h : i.natAbs < 2 ^ k) (hk2 : k ≤ 1000) : Sm (.int i) 303 0 k := by
  have hl := log2_lt hk h
  have h12 : i.natAbs < 10 ^ 302 := Nat.lt_of_lt_of_le h (Nat.le_trans (Nat.pow_le_pow_right (by decide) hk2) (by decide +kernel))
  refine ⟨?_, ?_, rfl, rfl, Nat.le_refl _, ?_⟩
  · show decide (i.natAbs.log2 < 1920) = true
    exact decide_eq_true (by omega)
  · show decide ((PyData.shown (.int i)).length ≤ 303) = true
    refine decide_eq_true ?_
    have e := int_text_length_le10 (k := 302) (by decide) h12
    show (Str.ofString (toString i)).length ≤ 303
    rw [PySem.ofString_length]
    exact e
  · show 0 ≤ k
    omega
/-- .. of up to 1900 bits -/
theorem Sm.intW {i : Int} (h : i.natAbs < 2 ^ 1900) : Sm (.int i) 600 0 0 := by
  have hl := log2_lt (k := 1900) (by decide) h
  have h12 : i.natAbs < 10 ^ 599 := Nat.lt_of_lt_of_le h (by decide +kernel)
  refine ⟨?_, ?_, rfl, rfl, Nat.le_refl _, Nat.le_refl _⟩
  · show decide (i.natAbs.log2 < 1920) = true
    exact decide_eq_true (by omega)
  · show decide ((PyData.shown (.int i)).length ≤ 600) = true
    refine decide_eq_true ?_
    have e := int_text_length_le10 (k := 599) (by decide) h12
    show (Str.ofString (toString i)).length ≤ 600
    rw [PySem.ofString_length]
    exact e
theorem Sm.int0 {i : Int} {k : Nat} (hk : 1 ≤ k) (h : i.natAbs < 2 ^ k) (hk2 : k ≤ 39) : Sm (.int i) 13 0 0 := by
  obtain ⟨a, b, c, d, e, _⟩ := Sm.int hk h hk2
  exact ⟨a, b, c, d, e, Nat.le_refl _⟩
end Wn
/-! d.update(e) for dicts of whole numbers and texts; dict(xs) with a name -/
namespace Wn
open PySem PySem.Spec PyProof.Rows L2
def rUpd : V → List V → Hp → VK → Prop := fun x vs H Q => ∃ (a o : Addr) (kvs more : List (Key × V)), x = .ref a ∧ vs = [.ref o] ∧ a ≠ o ∧ H a = some (.dK kvs) ∧ H o = some (.dK more) ∧ kvs.length + more.length ≤ sizeLine ∧ Q .non (upd H a (.dK (mergeK kvs more)))
theorem mt_update {X : Cx} : MtR X "dict.update" rUpd := by
  intro pins s σ H x vs v us Q I rx rv h
  obtain ⟨a, o, kvs, more, rfl, rfl, hne, ha, ho, hz, q⟩ := h
  cases rx
  obtain ⟨u, rfl, ru⟩ := rv.one
  cases ru
  obtain ⟨z1, n1, vs1, rel1, d1⟩ := dk_of I.hok ha
  obtain ⟨z2, n2, vs2, rel2, d2⟩ := dk_of I.hok ho
  have l1 := rel1.length
  have l2 := rel2.length
  refine call_meetsIn PySem.F.slot_dict_update d1.typeIs PySem.F.entry_dict_update (PySem.F.args_dict_update_2 _ _) (meets_dict_update (mixKind X.prog X.w) a o hne n2) ⟨vs1, vs2, d1, d2, by omega, fun h' d1' d2' hs => ?_⟩
  have hlm := length_mergeK more kvs
  have he : ∃ q, h'.get? a = some q := let ⟨q, _, _, hq, _⟩ := d1'; ⟨q, hq⟩
  exact ⟨.non, _, d_write I (by rw [ha]; exact True.intro) hs he (dk_new (by omega) n1 (rel2.merge rel1) d1'), rfl, q⟩
def rDP (K : PySem.W.Frag) : List V → Hp → VK → Prop := fun xs H Q => ∃ (a : Addr) (ps : List Addr) (kvs : List (Key × V)), xs = [.ref a] ∧ SqL K H a (ps.map V.ref) ∧ Paired (fun p kv => SqT K H p [kV kv.1, kv.2]) ps kvs ∧
    ∀ p, H p = none → Q (.ref p) (upd H p (.dK (mergeK [] kvs)))
theorem call_dP {X : Cx} (h : X.calm = true) : CallR X (.type "dict") (rDP X.K) := call_dictP h
theorem valV_merge : ∀ (more kvs : List (Key × V)) (k : Key), (valV (mergeK kvs more) k).isSome = ((valV kvs k).isSome || decide (∃ kv ∈ more, kv.1 = k))
  | [], kvs, k => by simp [mergeK]
  | p :: r, kvs, k => by
    show (valV (mergeK (putK kvs p.1 p.2) r) k).isSome = _
    rw [valV_merge r, valV_put, Bool.eq_iff_iff]
    by_cases e : k = p.1
    · subst e
      simp
    · rw [if_neg e]
      have e' : ¬ p.1 = k := fun z => e z.symm
      simp [e']
end Wn
/-! wheels: rows of remainders -/
namespace Wn
open PySem PySem.Spec PyProof.Rows L2
def topB (b n L x : Nat) : Bool := decide (Nat.gcd x n = 1) && (List.range L).all fun i => decide (x ≤ rem b n x i)
def wl (b n L : Nat) : List Nat := (List.range n).filter (topB b n L)
def InOrb (b n L y r : Nat) : Prop := ∃ i, i < L ∧ rem b n y i = r
theorem top_iff {b n L x : Nat} : topB b n L x = true ↔ Nat.gcd x n = 1 ∧ ∀ i, i < L → x ≤ rem b n x i := by
  unfold topB
  rw [Bool.and_eq_true, decide_eq_true_eq, List.all_eq_true]
  constructor
  · rintro ⟨h1, h2⟩
    refine ⟨h1, fun i hi => ?_⟩
    have := h2 i (List.mem_range.mpr hi)
    rwa [decide_eq_true_eq] at this
  · rintro ⟨h1, h2⟩
    exact ⟨h1, fun i hi => decide_eq_true (h2 i (List.mem_range.mp hi))⟩
theorem rem_rem (b n y i j : Nat) : rem b n (rem b n y i) j = rem b n y (i + j) := by
  unfold rem
  rw [Nat.mod_mul_mod, Nat.mul_assoc, ← Nat.pow_add]
theorem rem_per {b n L y : Nat} (h : IsPer b n L) (hy : y < n) : rem b n y L = y := by
  unfold rem
  rw [Nat.mul_mod, h.2.1, ← Nat.mul_mod, Nat.mul_one, Nat.mod_eq_of_lt hy]
theorem orb_symm {b n L x y : Nat} (h : IsPer b n L) (hy : y < n) (o : InOrb b n L y x) : InOrb b n L x y := by
  obtain ⟨i, hi, e⟩ := o
  subst e
  rcases Nat.eq_zero_or_pos i with z | z
  · subst z
    exact ⟨0, h.1, by rw [rem_rem, rem_zero hy]⟩
  · exact ⟨L - i, by omega, by rw [rem_rem, show i + (L - i) = L by omega, rem_per h hy]⟩
theorem rem_cop {b n x : Nat} (g : Nat.gcd b n = 1) (gx : Nat.gcd x n = 1) (i : Nat) : Nat.gcd (rem b n x i) n = 1 := by
  unfold rem
  rw [← Nat.gcd_rec n (x * b ^ i), Nat.gcd_comm]
  exact Nat.Coprime.mul_left gx (cop_pow g i)
theorem not_top {b n L x : Nat} (g : Nat.gcd b n = 1) (h : IsPer b n L) (hx : x < n) (gx : Nat.gcd x n = 1) : topB b n L x = false ↔ ∃ y, y < x ∧ Nat.gcd y n = 1 ∧ InOrb b n L y x := by
  have hn : 1 ≤ n := by omega
  constructor
  · intro z
    have z' : ¬ topB b n L x = true := by rw [z]; decide
    rw [top_iff] at z'
    have : ∃ i, i < L ∧ rem b n x i < x := by
      apply Classical.byContradiction
      intro c
      exact z' ⟨gx, fun i hi => Nat.le_of_not_lt fun l => c ⟨i, hi, l⟩⟩
    obtain ⟨i, hi, l⟩ := this
    exact ⟨_, l, rem_cop g gx i, orb_symm h hx ⟨i, hi, rfl⟩⟩
  · rintro ⟨y, hy, gy, o⟩
    obtain ⟨j, hj, e⟩ := orb_symm h (by omega) o
    cases c : topB b n L x with
    | false => rfl
    | true =>
      have := (top_iff.mp c).2 j hj
      omega
/-- who has been met before x comes -/
def Met (b n L k r : Nat) : Prop := ∃ y, y < k ∧ Nat.gcd y n = 1 ∧ InOrb b n L y r
theorem met_top {b n L k r : Nat} (g : Nat.gcd b n = 1) (h : IsPer b n L) (hk : k ≤ n) : Met b n L k r ↔ ∃ y, y < k ∧ topB b n L y = true ∧ InOrb b n L y r := by
  constructor
  · rintro ⟨y, hy, gy, i, hi, e⟩
    -- the least of its row
    obtain ⟨m, hm, ⟨j, hj, ej⟩, q⟩ := least (fun z => ∃ j, j < L ∧ rem b n y j = z) y ⟨0, h.1, rem_zero (by omega)⟩
    have hjm : rem b n y j = m := ej
    refine ⟨m, by omega, top_iff.mpr ⟨?_, fun t ht => ?_⟩, ?_⟩
    · rw [← hjm]
      exact rem_cop g gy j
    · apply Nat.le_of_not_lt
      intro l
      refine q _ l ⟨(j + t) % L, Nat.mod_lt _ h.1, ?_⟩
      rw [← hjm, rem_rem]
      have := Nat.div_add_mod (j + t) L
      show rem b n y ((j + t) % L) = rem b n y (j + t)
      conv => rhs; rw [← this]
      rw [← rem_rem]
      congr 1
      unfold rem
      rw [Nat.mul_mod, h.mul, ← Nat.mul_mod, Nat.mul_one, Nat.mod_eq_of_lt (by omega)]
    · refine ⟨(L - j + i) % L, Nat.mod_lt _ h.1, ?_⟩
      have := Nat.div_add_mod (L - j + i) L
      rw [← e, ← hjm, rem_rem]
      have e2 : rem b n y (j + (L - j + i) % L) = rem b n y (j + (L - j + i)) := by
        conv => rhs; rw [← this]
        rw [show j + (L * ((L - j + i) / L) + (L - j + i) % L) = L * ((L - j + i) / L) + (j + (L - j + i) % L) by omega, ← rem_rem (i := L * ((L - j + i) / L))]
        congr 1
        unfold rem
        rw [Nat.mul_mod, h.mul, ← Nat.mul_mod, Nat.mul_one, Nat.mod_eq_of_lt (by omega)]
      rw [e2, show j + (L - j + i) = L + i by omega, ← rem_rem, rem_per h (by omega)]
  · rintro ⟨y, hy, t, o⟩
    exact ⟨y, hy, (top_iff.mp t).1, o⟩
theorem met_succ {b n L k r : Nat} : Met b n L (k + 1) r ↔ Met b n L k r ∨ (Nat.gcd k n = 1 ∧ InOrb b n L k r) := by
  constructor
  · rintro ⟨y, hy, gy, o⟩
    rcases Nat.lt_or_eq_of_le (show y ≤ k by omega) with z | z
    · exact .inl ⟨y, z, gy, o⟩
    · subst z
      exact .inr ⟨gy, o⟩
  · rintro (⟨y, hy, gy, o⟩ | ⟨gk, o⟩)
    · exact ⟨y, by omega, gy, o⟩
    · exact ⟨k, by omega, gk, o⟩
/-- a number whose least one stands before it brings nothing new -/
theorem met_skip {b n L k r : Nat} (g : Nat.gcd b n = 1) (h : IsPer b n L) (hk : k < n) (c : topB b n L k = false) : Met b n L (k + 1) r ↔ Met b n L k r := by
  rw [met_top g h (by omega), met_top g h (by omega)]
  constructor
  · rintro ⟨y, hy, t, o⟩
    rcases Nat.lt_or_eq_of_le (show y ≤ k by omega) with z | z
    · exact ⟨y, z, t, o⟩
    · subst z
      rw [c] at t
      cases t
  · rintro ⟨y, hy, t, o⟩
    exact ⟨y, by omega, t, o⟩
def rl (b n x L : Nat) : List Nat := (List.range L).map fun i => rem b n x i
theorem rl_len (b n x L : Nat) : (rl b n x L).length = L := by simp [rl]
theorem mem_rl {b n x L r : Nat} : r ∈ rl b n x L ↔ InOrb b n L x r := by
  unfold rl
  rw [List.mem_map]
  constructor
  · rintro ⟨i, hi, e⟩
    exact ⟨i, List.mem_range.mp hi, e⟩
  · rintro ⟨i, hi, e⟩
    exact ⟨i, List.mem_range.mpr hi, e⟩
theorem rl_lt {b n x L r : Nat} (hn : 1 ≤ n) (h : r ∈ rl b n x L) : r < n := by
  obtain ⟨i, _, rfl⟩ := mem_rl.mp h
  exact rem_lt hn
def copL (n : Nat) : List Nat := (List.range n).filter fun x => decide (Nat.gcd x n = 1)
theorem wl_take_succ {b n L k : Nat} (hk : k < n) : ((List.range n).take (k + 1)).filter (topB b n L) = ((List.range n).take k).filter (topB b n L) ++ (if topB b n L k = true then [k] else []) := by
  rw [List.take_succ_eq_append_getElem (by simpa using hk), List.filter_append, List.getElem_range, List.filter_cons]
  split <;> simp
end Wn
namespace Wn
open PySem PySem.Spec PyProof.Rows L2
theorem orb_trans {b n L x y r : Nat} (h : IsPer b n L) (hy : y < n) (o : InOrb b n L y x) (o2 : InOrb b n L x r) : InOrb b n L y r := by
  obtain ⟨i, hi, rfl⟩ := o
  obtain ⟨j, hj, rfl⟩ := o2
  refine ⟨(i + j) % L, Nat.mod_lt _ h.1, ?_⟩
  rw [rem_rem]
  have := Nat.div_add_mod (i + j) L
  show rem b n y ((i + j) % L) = rem b n y (i + j)
  conv => rhs; rw [← this]
  rw [← rem_rem]
  congr 1
  unfold rem
  rw [Nat.mul_mod, h.mul, ← Nat.mul_mod, Nat.mul_one, Nat.mod_eq_of_lt hy]
theorem asc_cop (n : Nat) : (copL n).Pairwise (· < ·) := List.Pairwise.filter _ List.pairwise_lt_range
theorem mem_cop {n x : Nat} : x ∈ copL n ↔ x < n ∧ Nat.gcd x n = 1 := by
  unfold copL
  rw [List.mem_filter, List.mem_range, decide_eq_true_eq]
theorem cop_len (n : Nat) : (copL n).length ≤ n := by
  unfold copL
  exact Nat.le_trans (List.length_filter_le _ _) (by simp)
theorem cop_take {n i y : Nat} (hi : i < (copL n).length) : y ∈ (copL n).take i ↔ y < (copL n)[i] ∧ Nat.gcd y n = 1 := by
  have hx := mem_cop.mp (List.getElem_mem hi)
  constructor
  · intro h
    obtain ⟨j, hj, rfl⟩ := List.mem_iff_getElem.mp h
    rw [List.length_take] at hj
    rw [List.getElem_take]
    exact ⟨List.pairwise_iff_getElem.mp (asc_cop n) j i (by omega) hi (by omega), (mem_cop.mp (List.getElem_mem _)).2⟩
  · rintro ⟨hl, hg⟩
    have hm : y ∈ copL n := mem_cop.mpr ⟨by omega, hg⟩
    obtain ⟨j, hj, rfl⟩ := List.mem_iff_getElem.mp hm
    rw [List.mem_iff_getElem]
    have hji : j < i := by
      rcases Nat.lt_trichotomy j i with z | z | z
      · exact z
      · subst z
        omega
      · have := List.pairwise_iff_getElem.mp (asc_cop n) i j hi hj z
        omega
    exact ⟨j, by rw [List.length_take]; omega, by rw [List.getElem_take]⟩
theorem cop_top (b n L : Nat) : (copL n).filter (topB b n L) = wl b n L := by
  unfold copL wl
  rw [List.filter_filter]
  congr 1
  funext x
  cases t : topB b n L x with
  | false => rfl
  | true => rw [decide_eq_true (top_iff.mp t).1]; rfl
theorem valV_mem : ∀ (l : List (Key × V)) (k : Key), (valV l k).isSome = true ↔ ∃ kv ∈ l, kv.1 = k
  | [], k => by simp [valV]
  | p :: r, k => by
    by_cases e : p.1 = k
    · rw [valV_pos e]
      simp [e]
    · rw [valV_neg e, valV_mem r]
      simp [e]
end Wn
/-! set(xs) of a list of whole numbers -/
namespace Wn
open PySem PySem.Spec PyProof.Rows L2
abbrev eSet (w : World) : Obj := { cls := .type "set", dict := none, data := .set #[] 0 (.fresh 0 0 (!w.params.followText "set-order")) }
section
variable {P : Program} {w : World} {A : Around} {E : Value → Shared → Prop} {z : Shared}
theorem set_lst {l : Addr} {us : Array Value} (ks : List Int) {Q : Value → Shared → Prop} (hh : A.handled = none) (hl : z.heap.IsList l us) (hu : IntsAre us.toList ks) (hb : ks.length + 1 < scanBound)
    (go : ∀ (hp : Heap) (tk c : Nat), SetR w hp z.heap.objs.size (fun j => decide (j ∈ ks)) c → (∀ b o, z.heap.get? b = some o → hp.get? b = some o) → Q (.ref z.heap.objs.size) { z with heap := hp, toks := tk }) :
    wpAny (model P w) A (call (.type "set") [.ref l]) Q E z := by
  have hsz : us.size = ks.length := Array.length_toList (xs := us) ▸ IntsAre.length hu
  obtain ⟨c0, t0, mr⟩ := F.called_set.mro
  have p1 := F.called_set.made; have p2 := F.called_set.sub
  refine wpAny_call (codeAny_of_tree (show wpAny _ _ (callAny (.type "set") _) _ _ _ from wpAny_pure ⟨Code.quiet_builtin _ (by decide +kernel), codeAny_builtin F.entry_type_call ?_⟩))
  rw [Around.under_plain (weight_type_call_type "set" [Value.ref l] []) rfl]
  have p3 := F.called_set.notType; have p4 := F.called_set.canCreate; have p5 := F.typeCall_set_1 (.ref l)
  repeat (any_goals (first | assumption | wp_step))
  refine codeAny_mono (code_set_led1 (.ref l) (E := E) (Q₁ := fun v s1 => v = .ref z.heap.objs.size ∧ s1 = { z with heap := z.heap.push (eSet w) }) ⟨rfl, rfl⟩) fun r s1 hr => ?_
  cases r with
  | error e => exact hr
  | ok fl =>
    cases fl with
    | ret v =>
      obtain ⟨rfl, rfl⟩ := hr
      have aS : (z.heap.push (eSet w)).get? z.heap.objs.size = some (eSet w) := Heap.get?_push_size _ rfl
      have tS : Shared.TypeIs { z with heap := z.heap.push (eSet w) } (.ref z.heap.objs.size) "set" := ⟨_, aS, rfl⟩
      have p6 := F.called_set.init.lookup; have p7 := F.called_set.init.bind (.ref z.heap.objs.size)
      repeat (any_goals (first | assumption | wp_step))
      refine codeAny_mono (codeAny_call_builtin (R := wants (fun r s2 => r = .none ∧ ∃ hp tk c, s2 = { z with heap := hp, toks := tk } ∧ SetR w hp z.heap.objs.size (fun j => decide (j ∈ ks)) c ∧ (∀ b o, z.heap.get? b = some o → hp.get? b = some o)) E)
        F.called_set.init.plain F.entry_set_init (check_set_init_1 tS ?_)) fun r2 s2 hr2 => ?_
      · obtain ⟨⟨oc, od, odata, osl⟩, ho, hc, nl, hd⟩ := hl
        simp only at hc hd; subst hc; subst hd
        have ho' : (z.heap.push (eSet w)).get? l = some { cls := .type "list", dict := od, data := .seq us nl, slots := osl } := Heap.get?_push_of_some _ ho
        have q1 := F.sub_list_set; have q2 := F.sub_list_frozenset
        have q3 : (Value.type "list" == Value.type "dict") = false := by decide
        have il : (z.heap.push (eSet w)).IsList l us := ⟨_, ho', rfl, nl, rfl⟩
        unfold Builtin.«set.__init__» noKeywords Builtin.Frozenset.updateFrom
        generalize eI : pyIter = PI; wp_walk; subst eI
        refine wpAny_pyIter_list il (wpAny_bind (wpAny_runValue ?_))
        have lt : l < z.heap.objs.size := Heap.lt_size ho
        have h3 : A.in1.in1.in1.handled = none := by simp [hh]
        have eI : (z.heap.push (eSet w)).objs.size = z.heap.objs.size + 1 := Heap.size_push ..
        have nI : l ≠ (z.heap.push (eSet w)).objs.size := by rw [eI]; exact Nat.ne_of_lt (Nat.lt_succ_of_lt lt)
        have nS : z.heap.objs.size ∉ [(z.heap.push (eSet w)).objs.size, l] := by
          rw [eI]; simp only [List.mem_cons, List.not_mem_nil, or_false]; exact fun h => h.elim (Nat.ne_of_lt (Nat.lt_succ_self _)) (Nat.ne_of_gt lt)
        have items : ∀ (i : Nat) (v : Value), us[i]? = some v → ∃ k t, ks[i]? = some k ∧ v = .int k t := fun i v hv => by
          have hi : i < ks.length := hsz ▸ (Array.getElem?_eq_some_iff.mp hv).1
          obtain ⟨t, e⟩ := PyProof.Rows.IntsAre.int_at hu i v (by simpa using hv)
          exact ⟨ks[i], t, by simp [hi], by rw [e]; simp [hi]⟩
        refine set_update_ints ((Walks.list h3 _ l nI us).toS) z.heap.objs.size nS ks hsz hb items (us.size - 0) 0 _ (by omega) (Nat.zero_le _) ⟨⟨_, Heap.get?_push_size _ rfl, rfl, rfl⟩, il.push _⟩ ⟨0, Nat.le_refl 0, setR_new_at (Heap.get?_push_of_some _ aS)⟩ fun s3 c3 mv hc3 R3 => ?_
        obtain ⟨h3', g3, d3, tk3, os3⟩ := s3
        have e1 : g3 = z.gens := mv.gens; have e2 : d3 = z.drawn := mv.drawn; have e3 : os3 = z.os := mv.os
        subst e1; subst e2; subst e3
        refine wpAny_pure (show wpAny _ _ (ret Value.none) _ _ _ from wpAny_pure ⟨rfl, h3', tk3, c3, rfl, R3, fun b o e => ?_⟩)
        have lb : b < z.heap.objs.size := Heap.lt_size e
        refine mv.heap b o ?_ (Heap.get?_push_of_some _ (Heap.get?_push_of_some _ e))
        simp only [List.mem_cons, List.not_mem_nil, or_false]; rw [eI]; exact fun h => h.elim (Nat.ne_of_lt lb) (Nat.ne_of_lt (Nat.lt_succ_of_lt lb))
      · cases r2 with
        | error e => exact hr2
        | ok fl2 =>
          cases fl2 with
          | ret r =>
            obtain ⟨rfl, hp, tk, c, rfl, R, kp⟩ := hr2
            repeat (any_goals (first | assumption | wp_step))
            exact go _ _ _ R kp
          | _ => exact hr2.elim
    | _ => exact hr.elim
end
theorem ints_vals : ∀ {ns : List Int} {us : List Value}, Vals (ns.map V.int) us → IntsAre us ns
  | [], _, .nil => .nil
  | _ :: _, _, .cons ⟨k, e⟩ t => e ▸ IntsAre.cons _ k (ints_vals t)
def rSetL (K : PySem.W.Frag) (w : World) : List V → Hp → VK → Prop := fun xs H Q => ∃ (l : Addr) (ns : List Int), xs = [V.ref l] ∧ SqL K H l (ns.map V.int) ∧ ns.length ≤ 4000 ∧
  ∀ (a : Addr) (ks : List Int), H a = none → ks.Nodup → (∀ k, k ∈ ks ↔ k ∈ ns) → Q (.ref a) (upd H a (SetO w a (fun j => decide (j ∈ ns)) ks.length))
theorem call_setL {X : Cx} (hc : X.calm = true) : CallR X (.type "set") (rSetL X.K X.w) := by
  intro pins s σ H xs us Q I r h
  obtain ⟨l, ns, rfl, hs, hz, q⟩ := h
  obtain ⟨its, rv, hl, _⟩ := I.list hs
  rw [Vals.ref1 r]
  refine set_lst ns (I.ok.hd hc) hl.isList (by simpa using ints_vals rv) (by unfold scanBound; omega) fun hp tk c R kp => ?_
  have R' := R
  obtain ⟨o, es, ep, t, _, _, _, _, nd, hm, _, _, hn, _⟩ := R
  have e : (es.toList.map keyOf).length = c := by rw [List.length_map, Array.length_toList, hn]
  have free := I.hok.fresh (Nat.le_refl s.heap.objs.size)
  have q' := q s.heap.objs.size (es.toList.map keyOf) free nd (fun k => by rw [← hm]; simp)
  rw [e] at q'
  exact ⟨.ref _, _, I.laid (t' := tk) kp (Nat.le_refl _) (setO_new R'), rfl, q'⟩
/-! ascending lists with the same members are one -/
theorem asc_eq : ∀ {xs ys : List Int}, xs.Pairwise (· < ·) → ys.Pairwise (· < ·) → (∀ k, k ∈ xs ↔ k ∈ ys) → xs = ys
  | [], [], _, _, _ => rfl
  | [], y :: ys, _, _, h => absurd ((h y).mpr List.mem_cons_self) (by simp)
  | x :: xs, [], _, _, h => absurd ((h x).mp List.mem_cons_self) (by simp)
  | x :: xs, y :: ys, hx, hy, h => by
    have hx' := List.pairwise_cons.mp hx
    have hy' := List.pairwise_cons.mp hy
    have e : x = y := by
      rcases List.mem_cons.mp ((h x).mp List.mem_cons_self) with z | z
      · exact z
      · rcases List.mem_cons.mp ((h y).mpr List.mem_cons_self) with z2 | z2
        · exact z2.symm
        · have h1 := hy'.1 x z
          have h2 := hx'.1 y z2
          omega
    subst e
    rw [asc_eq hx'.2 hy'.2 fun k => ?_]
    have hk := h k
    simp only [List.mem_cons] at hk
    constructor
    · intro z
      rcases hk.mp (.inr z) with z2 | z2
      · have := hx'.1 k z
        omega
      · exact z2
    · intro z
      rcases hk.mpr (.inr z) with z2 | z2
      · have := hy'.1 k z
        omega
      · exact z2
end Wn
/-! a tuple times any small number -/
namespace Wn
open PySem PySem.Spec PyProof.Rows L2
theorem tmul_same (l : Addr) (us : Array Value) (n : Nat) (dd : Option Addr) (sl : Array (Option Value)) (k : Int) (u : Tok) (c0 : (decide (k < -(2 ^ 63)) || decide (k ≥ 2 ^ 63)) = false) (c1 : (us.isEmpty || k == 1) = true) :
    Meets (Builtin.«tuple.__mul__» ⟨[.ref l, .int k u], []⟩) (fun _ R s => s.heap.get? l = some { cls := .type "tuple", dict := dd, data := .seq us n, slots := sl } ∧ R (.ok (.ret (Value.ref l))) s) :=
  .of_wp fun prog w A R s ⟨hl, go⟩ => by
    obtain ⟨hp, g, d, tk, os⟩ := s
    have f1 := AutoSeq1.idx_int
    wp_walk using wpAny_loadPart' hl
    repeat (first
      | (refine wpAny_ite_false (decide_eq_false (by rw [c0]; exact Bool.false_ne_true)) ?_; wp_walk using wpAny_loadPart' hl)
      | (refine wpAny_ite_true (decide_eq_true (by rw [c1])) ?_; wp_walk using wpAny_loadPart' hl))
    exact ⟨_, rfl, go⟩
theorem tmul_none (l : Addr) (us : Array Value) (n : Nat) (dd : Option Addr) (sl : Array (Option Value)) (k : Int) (u : Tok) (c0 : (decide (k < -(2 ^ 63)) || decide (k ≥ 2 ^ 63)) = false) (c1 : (us.isEmpty || k == 1) = false) (c2 : (decide (k ≤ 0) || us.isEmpty) = true) :
    Meets (Builtin.«tuple.__mul__» ⟨[.ref l, .int k u], []⟩) (fun _ R s => s.heap.get? l = some { cls := .type "tuple", dict := dd, data := .seq us n, slots := sl } ∧
      R (.ok (.ret (Value.ref s.heap.objs.size))) { s with heap := s.heap.push { cls := Value.type "tuple", data := Data.seq #[] }, toks := s.toks }) :=
  .of_wp fun prog w A R s ⟨hl, go⟩ => by
    obtain ⟨hp, g, d, tk, os⟩ := s
    have f1 := AutoSeq1.idx_int
    wp_walk using wpAny_loadPart' hl
    repeat (first
      | (refine wpAny_ite_false (decide_eq_false (by rw [c0]; exact Bool.false_ne_true)) ?_; wp_walk using wpAny_loadPart' hl)
      | (refine wpAny_ite_false (decide_eq_false (by rw [c1]; exact Bool.false_ne_true)) ?_; wp_walk using wpAny_loadPart' hl)
      | (refine wpAny_ite_true (decide_eq_true (by rw [c2])) ?_; wp_walk using wpAny_loadPart' hl))
    exact ⟨_, rfl, go⟩
def rRepG (K : PySem.W.Frag) : R2 := fun x y H Q => ∃ (l : Addr) (k : Int) (xs : List V), x = .ref l ∧ y = .int k ∧ SqT K H l xs ∧ (-1000 ≤ k ∧ k ≤ 1000 ∧ xs.length ≤ 1000) ∧
  ((k = 1 ∨ xs = []) → Q (.ref l) H) ∧ (k ≠ 1 → xs ≠ [] → ∀ p, H p = none → Q (.ref p) (upd H p (.tup (List.replicate k.toNat xs).flatten)))
theorem op_repG {X : Cx} : OpR X (binaryOp .Mult) (rRepG X.K) := by
  intro pins s σ H x y v u Q I rx ry h
  obtain ⟨l, k, xs, rfl, rfl, hT, ⟨h0, h1, hz⟩, q1, q2⟩ := h
  by_cases hb : 2 ≤ k ∧ xs ≠ []
  · exact op_repT pins s σ H _ _ _ _ _ I rx ry ⟨l, k, xs, rfl, rfl, hT, hb.2, hb.1, h1, hz, q2 (by omega) hb.2⟩
  cases rx
  obtain ⟨t, rfl⟩ := ry
  obtain ⟨its, r, ⟨⟨cls, dd, data, sl⟩, ho, hc, n, hd⟩, hs⟩ := I.tuple hT
  simp only at hc hd
  subst hc hd
  have c0 : (decide (k < -(2 ^ 63)) || decide (k ≥ 2 ^ 63)) = false := by
    rw [decide_eq_false (by omega), decide_eq_false (by omega)] <;> rfl
  have hne : its.toArray.isEmpty = true ↔ xs = [] := by
    cases r with
    | nil => exact ⟨fun _ => rfl, fun _ => rfl⟩
    | cons a b => exact ⟨fun z => by simp at z, fun z => by cases z⟩
  by_cases c1 : (its.toArray.isEmpty || k == 1) = true
  · have hk : k = 1 ∨ xs = [] := by
      rcases Bool.or_eq_true _ _ ▸ c1 with z | z
      · exact .inr (hne.mp z)
      · exact .inl (beq_iff_eq.mp z)
    refine wpAny_binaryOp_repeat_ref (T := "tuple") (U := "int") (by decide) ⟨_, ho, rfl⟩ (fun s' => typeIs_int s' k t) noFill_tuple_mul F.fills_int_mul F.slot_int_rmul repeat_tuple F.slot_int_index.lookup
      (call_meets F.slot_int_rmul (typeIs_int s k t) F.entry_int_rmul (F.args_int_rmul_2 _ _) (int_rmul_tuple k t l its.toArray n dd sl)
        ⟨ho, rfl, ⟨_, ho, rfl⟩, call_meets F.slot_tuple_mul ⟨_, ho, rfl⟩ F.entry_tuple_mul (F.args_tuple_mul_2 _ _) (tmul_same l its.toArray n dd sl k t c0 c1) ⟨ho, .ref l, H, I, rfl, q1 hk⟩⟩)
  · have c1' : (its.toArray.isEmpty || k == 1) = false := by simpa using c1
    rw [Bool.or_eq_false_iff] at c1'
    have hx : xs ≠ [] := fun z => by
      rw [hne.mpr z] at c1'
      cases c1'.1
    have hk1 : k ≠ 1 := fun z => by
      have := c1'.2
      rw [z] at this
      cases this
    have hk0 : k ≤ 0 := by
      rcases Int.lt_or_le 0 k with z | z
      · exact absurd ⟨by omega, hx⟩ hb
      · exact z
    have q3 := q2 hk1 hx s.heap.objs.size (I.hok.fresh (Nat.le_refl _))
    rw [show k.toNat = 0 by omega] at q3
    refine wpAny_binaryOp_repeat_ref (T := "tuple") (U := "int") (by decide) ⟨_, ho, rfl⟩ (fun s' => typeIs_int s' k t) noFill_tuple_mul F.fills_int_mul F.slot_int_rmul repeat_tuple F.slot_int_index.lookup
      (call_meets F.slot_int_rmul (typeIs_int s k t) F.entry_int_rmul (F.args_int_rmul_2 _ _) (int_rmul_tuple k t l its.toArray n dd sl)
        ⟨ho, rfl, ⟨_, ho, rfl⟩, call_meets F.slot_tuple_mul ⟨_, ho, rfl⟩ F.entry_tuple_mul (F.args_tuple_mul_2 _ _) (tmul_none l its.toArray n dd sl k t c0 (by rw [c1'.1, c1'.2]; rfl) (by rw [decide_eq_true hk0]; rfl)) ⟨ho, ?_⟩⟩)
    refine ⟨.ref s.heap.objs.size, _, I.laid (t' := s.toks) (o := .tup (List.replicate 0 xs).flatten) (fun b ob q => Heap.get?_push_of_some _ q) (Nat.le_refl _) ?_, rfl, q3⟩
    exact ⟨Nat.zero_le _, [], .nil, IsTup.new _ _⟩
end Wn
/-! rotations -/
namespace Wn
open PySem PySem.Spec PyProof.Rows L2
def rotL (ds : List Nat) (k : Nat) : List Nat := ds.drop k ++ ds.take k
theorem rotL_len (ds : List Nat) (k : Nat) : (rotL ds k).length = ds.length := by
  unfold rotL
  rw [List.length_append, List.length_drop, List.length_take]
  omega
theorem rotL_zero (ds : List Nat) : rotL ds 0 = ds := by simp [rotL]
theorem rotL_succ {ds : List Nat} {k : Nat} (h : k < ds.length) : (rotL ds k).drop 1 ++ (rotL ds k).take 1 = rotL ds (k + 1) := by
  unfold rotL
  rw [List.drop_eq_getElem_cons h]
  simp only [List.cons_append, List.drop_succ_cons, List.drop_zero, List.take_succ_cons, List.take_zero]
  rw [List.append_assoc, List.take_succ_eq_append_getElem h]
theorem mem_rotL {ds : List Nat} {k x : Nat} (h : x ∈ rotL ds k) : x ∈ ds := by
  unfold rotL at h
  rcases List.mem_append.mp h with z | z
  · exact List.mem_of_mem_drop z
  · exact List.mem_of_mem_take z
/-- the repeating digits -/
def dgl (b n x L : Nat) : List Nat := (List.range L).map fun i => rem b n x i * b / n
theorem dgl_len (b n x L : Nat) : (dgl b n x L).length = L := by simp [dgl]
theorem rem_cyc {b n x L : Nat} (h : IsPer b n L) (i : Nat) : rem b n x (i + L) = rem b n x i := by
  unfold rem
  rw [Nat.pow_add, ← Nat.mul_assoc, Nat.mul_mod, h.2.1, ← Nat.mul_mod, Nat.mul_one]
theorem dgl_rot {b n x L k : Nat} (h : IsPer b n L) (hk : k ≤ L) : rotL (dgl b n x L) k = dgl b n (rem b n x k) L := by
  unfold rotL
  apply List.ext_getElem
  · rw [List.length_append, List.length_drop, List.length_take, dgl_len, dgl_len]
    omega
  · intro i h1 h2
    rw [dgl_len] at h2
    rw [List.getElem_append]
    split
    · rename_i hi
      rw [List.length_drop, dgl_len] at hi
      rw [List.getElem_drop]
      simp only [dgl, List.getElem_map, List.getElem_range]
      rw [rem_rem]
    · rename_i hi
      rw [List.length_drop, dgl_len] at hi
      rw [List.getElem_take]
      simp only [dgl, List.getElem_map, List.getElem_range, List.length_drop, List.length_map, List.length_range]
      rw [rem_rem, show k + i = i - (L - k) + L by omega, rem_cyc h]
theorem dgl_inj {b n x y L : Nat} (hb : 2 ≤ b) (h : IsPer b n L) (hx : x < n) (hy : y < n) (e : dgl b n x L = dgl b n y L) : x = y := by
  have hn : 1 ≤ n := by omega
  have hd : ∀ i, i < L → rem b n x i * b / n = rem b n y i * b / n := fun i hi => by
    have h1 : (dgl b n x L)[i]'(by rw [dgl_len]; exact hi) = (dgl b n y L)[i]'(by rw [dgl_len]; exact hi) := by simp only [e]
    simp only [dgl, List.getElem_map, List.getElem_range] at h1
    exact h1
  have st : ∀ z i, rem b n z i * b = n * (rem b n z i * b / n) + rem b n z (i + 1) := fun z i => by
    rw [← rem_succ]
    exact (Nat.div_add_mod _ _).symm
  -- the difference grows by the base at each step
  have key : ∀ i, i ≤ L → (rem b n x i : Int) - rem b n y i = ((x : Int) - y) * (b : Int) ^ i := by
    intro i
    induction i with
    | zero =>
      intro _
      rw [rem_zero hx, rem_zero hy]
      simp
    | succ i ih =>
      intro hi
      have h1 := ih (by omega)
      have h2 := st x i
      have h3 := st y i
      rw [hd i (by omega)] at h2
      generalize rem b n y i * b / n = q at h2 h3
      have h4 : (rem b n x i : Int) * b = n * q + rem b n x (i + 1) := by exact_mod_cast h2
      have h5 : (rem b n y i : Int) * b = n * q + rem b n y (i + 1) := by exact_mod_cast h3
      rw [Int.pow_succ, ← Int.mul_assoc, ← h1, Int.sub_mul]
      omega
  have k := key L (Nat.le_refl _)
  rw [rem_per h hx, rem_per h hy] at k
  have hL := h.1
  have hp : (2 : Int) ≤ (b : Int) ^ L := by
    have : 2 ≤ b ^ L := Nat.le_trans hb (Nat.le_self_pow (by omega) b)
    exact_mod_cast this
  have : ((x : Int) - y) * ((b : Int) ^ L - 1) = 0 := by
    rw [Int.mul_sub, Int.mul_one]
    omega
  rcases Int.mul_eq_zero.mp this with z | z <;> omega
/-- among the first ones each comes once -/
theorem rem_once {b n x L i j : Nat} (g : Nat.gcd b n = 1) (gx : Nat.gcd x n = 1) (h : IsPer b n L) (hi : i < L) (hj : j < L) (e : rem b n x i = rem b n x j) : i = j := by
  have key : ∀ {i j : Nat}, i < j → j < L → rem b n x i = rem b n x j → False := fun {i j} hij hj e => by
    have e1 : b ^ i % n = b ^ j % n := mod_cancel gx e
    have e2 : b ^ (j - i) % n = 1 % n := by
      refine mod_cancel (cop_pow g i) ?_
      rw [← Nat.pow_add, show i + (j - i) = j by omega, Nat.mul_one]
      exact e1.symm
    exact h.2.2 (j - i) (by omega) (by omega) e2
  rcases Nat.lt_trichotomy i j with z | z | z
  · exact (key z hj e).elim
  · exact z
  · exact (key z hi e.symm).elim
/-- the first place from which y comes; the period where there is none -/
def topI (b n x y L : Nat) : Nat := ((List.range L).find? fun i => decide (rem b n x i = y)).getD L
theorem topI_hit {b n x y L i : Nat} (hi : i < L) (e : rem b n x i = y) (no : ∀ j, j < i → rem b n x j ≠ y) : topI b n x y L = i := by
  unfold topI
  have : (List.range L).find? (fun i => decide (rem b n x i = y)) = some i := by
    rw [List.find?_range_eq_some]
    refine ⟨decide_eq_true e, List.mem_range.mpr hi, fun j hj => ?_⟩
    simp only [Bool.not_eq_true', decide_eq_false_iff_not]
    exact no j hj
  rw [this]
  rfl
theorem topI_miss {b n x y L : Nat} (no : ∀ j, j < L → rem b n x j ≠ y) : topI b n x y L = L := by
  unfold topI
  have : (List.range L).find? (fun i => decide (rem b n x i = y)) = none := by
    rw [List.find?_eq_none]
    intro i hi
    rw [decide_eq_true_eq]
    exact no i (List.mem_range.mp hi)
  rw [this]
  rfl
theorem topI_cases (b n x y L : Nat) : (topI b n x y L < L ∧ rem b n x (topI b n x y L) = y ∧ ∀ j, j < topI b n x y L → rem b n x j ≠ y) ∨ (topI b n x y L = L ∧ ∀ j, j < L → rem b n x j ≠ y) := by
  by_cases h : ∃ i, i < L ∧ rem b n x i = y
  · obtain ⟨i, hi, e⟩ := h
    obtain ⟨m, hm, pm, q⟩ := least (fun i => rem b n x i = y) i e
    have e1 := topI_hit (L := L) (show m < L by omega) pm (fun j hj z => q j hj z)
    rw [e1]
    exact .inl ⟨by omega, pm, fun j hj z => q j hj z⟩
  · have no : ∀ j, j < L → rem b n x j ≠ y := fun j hj z => h ⟨j, hj, z⟩
    exact .inr ⟨topI_miss no, no⟩
end Wn
/-! values of digits and of their rotations; multipliers -/
namespace Wn
open PySem PySem.Spec PyProof.Rows L2
theorem wrt_from (b : Nat) : ∀ (ds : List Nat) (f : Nat), ds.foldl (fun f d => f * b + d) f = f * b ^ ds.length + wrt b ds
  | [], f => by simp [wrt]
  | d :: r, f => by
    have h1 := wrt_from b r (f * b + d)
    have h2 := wrt_from b r (0 * b + d)
    unfold wrt at h1 h2 ⊢
    simp only [List.foldl_cons, List.length_cons]
    rw [h1, h2, Nat.pow_succ, Nat.add_mul, Nat.zero_mul, Nat.zero_add, Nat.mul_assoc, Nat.mul_comm b]
    omega
theorem wrt_cons (b x : Nat) (r : List Nat) : wrt b (x :: r) = x * b ^ r.length + wrt b r := by
  have := wrt_from b r (0 * b + x)
  rw [Nat.zero_mul, Nat.zero_add] at this
  rw [← this]
  simp [wrt]
theorem wrt_append (b : Nat) (xs ys : List Nat) : wrt b (xs ++ ys) = wrt b xs * b ^ ys.length + wrt b ys := by
  rw [← wrt_from b ys (wrt b xs)]
  simp [wrt, List.foldl_append]
theorem wrt_lt {b : Nat} : ∀ {ds : List Nat}, (∀ d ∈ ds, d < b) → wrt b ds < b ^ ds.length
  | [], _ => by simp [wrt]
  | x :: r, h => by
    have ih := wrt_lt (ds := r) fun d hd => h d (List.mem_cons_of_mem _ hd)
    have hx := h x List.mem_cons_self
    rw [wrt_cons, List.length_cons, Nat.pow_succ, Nat.mul_comm (b ^ r.length)]
    have : (x + 1) * b ^ r.length ≤ b * b ^ r.length := Nat.mul_le_mul_right _ hx
    rw [Nat.succ_mul] at this
    omega
theorem rot_at {ds : List Nat} {i : Nat} (h : i < ds.length) : rotL ds i = ds[i] :: (ds.drop (i + 1) ++ ds.take i) := by
  unfold rotL
  rw [List.drop_eq_getElem_cons h]
  rfl
theorem wrt_rot {b : Nat} {ds : List Nat} {i : Nat} (h : i < ds.length) (hb : 1 ≤ b) : ((wrt b (rotL ds i) : Nat) : Int) * (b : Int) - ((ds[i] : Nat) : Int) * (((b ^ ds.length : Nat) : Int) - 1) = ((wrt b (rotL ds (i + 1)) : Nat) : Int) := by
  have e : rotL ds (i + 1) = (ds.drop (i + 1) ++ ds.take i) ++ [ds[i]] := by
    rw [← rotL_succ h, rot_at h]
    rfl
  have hl : (ds.drop (i + 1) ++ ds.take i).length + 1 = ds.length := by
    rw [List.length_append, List.length_drop, List.length_take]
    omega
  rw [rot_at h, e, wrt_cons, wrt_snoc, ← hl]
  generalize ds.drop (i + 1) ++ ds.take i = r
  generalize wrt b r = w
  generalize ds[i] = x
  rw [Nat.pow_succ]
  generalize b ^ r.length = p
  push_cast
  rw [Int.add_mul, Int.mul_sub, Int.mul_one, Int.mul_assoc (x : Int) (p : Int) (b : Int)]
  omega
/-- k times their value is that of a rotation -/
def IsMul (b : Nat) (ds : List Nat) (k : Nat) : Prop := ∃ j, j < ds.length ∧ wrt b (rotL ds j) = k * wrt b ds
/-- those met among the first i rotations -/
def mulL (b : Nat) (ds : List Nat) (i : Nat) : List Nat := ((List.range i).filter fun j => decide (wrt b (rotL ds j) % wrt b ds = 0)).map fun j => wrt b (rotL ds j) / wrt b ds
theorem mulL_succ (b : Nat) (ds : List Nat) (i : Nat) : mulL b ds (i + 1) = mulL b ds i ++ (if wrt b (rotL ds i) % wrt b ds = 0 then [wrt b (rotL ds i) / wrt b ds] else []) := by
  unfold mulL
  rw [List.range_succ, List.filter_append, List.map_append]
  congr 1
  by_cases h : wrt b (rotL ds i) % wrt b ds = 0
  · rw [if_pos h, List.filter_cons_of_pos (by simpa using h)]
    rfl
  · rw [if_neg h, List.filter_cons_of_neg (by simpa using h)]
    rfl
theorem mulL_len (b : Nat) (ds : List Nat) (i : Nat) : (mulL b ds i).length ≤ i := by
  unfold mulL
  rw [List.length_map]
  exact Nat.le_trans (List.length_filter_le _ _) (by simp)
theorem mem_mulL {b : Nat} {ds : List Nat} {k i : Nat} (hv : 1 ≤ wrt b ds) : k ∈ mulL b ds i ↔ ∃ j, j < i ∧ wrt b (rotL ds j) = k * wrt b ds := by
  unfold mulL
  rw [List.mem_map]
  constructor
  · rintro ⟨j, hj, rfl⟩
    rw [List.mem_filter, List.mem_range, decide_eq_true_eq] at hj
    exact ⟨j, hj.1, (Nat.div_mul_cancel (Nat.dvd_of_mod_eq_zero hj.2)).symm⟩
  · rintro ⟨j, hj, e⟩
    refine ⟨j, ?_, ?_⟩
    · rw [List.mem_filter, List.mem_range, decide_eq_true_eq, e]
      exact ⟨hj, Nat.mul_mod_left _ _⟩
    · rw [e, Nat.mul_div_cancel _ hv]
/-- there are few of them -/
def Few (b : Nat) (ds : List Nat) : Prop := ∀ ks : List Nat, ks.Nodup → (∀ k ∈ ks, IsMul b ds k) → ks.length < 64
theorem nodup_sub {xs : List Nat} : ∀ {ys : List Nat}, xs.Nodup → (∀ x ∈ xs, x ∈ ys) → xs.length ≤ ys.length := by
  intro ys
  induction ys generalizing xs with
  | nil =>
    intro _ h
    cases xs with
    | nil => exact Nat.le_refl _
    | cons x r => exact absurd (h x List.mem_cons_self) (by simp)
  | cons y ys ih =>
    intro nd h
    have h1 := ih (nd.erase y) fun x hx => by
      have hm := List.mem_of_mem_erase hx
      rcases List.mem_cons.mp (h x hm) with e | e
      · subst e
        exact absurd hx (List.Nodup.not_mem_erase nd)
      · exact e
    rw [List.length_cons]
    by_cases hy : y ∈ xs
    · rw [List.length_erase_of_mem hy] at h1
      omega
    · rw [List.erase_of_not_mem hy] at h1
      omega
theorem few_of {b p : Nat} {ds : List Nat} (hv : 1 ≤ wrt b ds) (hp : p < 64) (h : ∀ j, j < ds.length → ∃ i, i < p ∧ rotL ds j = rotL ds i) : Few b ds := fun ks nd hk => by
  have := nodup_sub (ys := (List.range p).map fun i => wrt b (rotL ds i) / wrt b ds) nd fun k hm => by
    obtain ⟨j, hj, e⟩ := hk k hm
    obtain ⟨i, hi, e2⟩ := h j hj
    exact List.mem_map.mpr ⟨i, List.mem_range.mpr hi, by rw [← e2, e, Nat.mul_div_cancel _ hv]⟩
  rw [List.length_map, List.length_range] at this
  omega
theorem few_len {b : Nat} {ds : List Nat} (hv : 1 ≤ wrt b ds) (h : ds.length < 64) : Few b ds := few_of hv h fun j hj => ⟨j, hj, rfl⟩
/-- digits twice over -/
theorem rot_twice {ds : List Nat} {j : Nat} (h1 : ds.length ≤ j) (h2 : j < (ds ++ ds).length) : rotL (ds ++ ds) j = rotL (ds ++ ds) (j - ds.length) := by
  unfold rotL
  rw [List.length_append] at h2
  rw [List.drop_append, List.take_append, List.drop_append, List.take_append, List.drop_eq_nil_of_le h1, List.take_of_length_le h1, show j - ds.length - ds.length = 0 by omega]
  simp only [List.nil_append, List.drop_zero, List.take_zero, List.append_nil, List.append_assoc]
theorem few_twice {b : Nat} {ds : List Nat} (hv : 1 ≤ wrt b (ds ++ ds)) (h : ds.length < 64) : Few b (ds ++ ds) := few_of hv h fun j hj => by
  rcases Nat.lt_or_ge j ds.length with z | z
  · exact ⟨j, z, rfl⟩
  · refine ⟨j - ds.length, ?_, rot_twice z hj⟩
    rw [List.length_append] at hj
    omega
/-- a number up to 1000 has no common divisor with one of two primes -/
theorem gcd_prime {b p : Nat} (hp : ∀ g, g ≤ p → g ∣ p → g = 1 ∨ g = p) (h0 : 1 ≤ p) (h : Nat.gcd b p ≠ 1) : p ∣ b := by
  rcases hp _ (Nat.le_of_dvd h0 (Nat.gcd_dvd_right b p)) (Nat.gcd_dvd_right b p) with e | e
  · exact absurd e h
  · rw [← e]
    exact Nat.gcd_dvd_left b p
theorem cop_two {b p q : Nat} (hb : 1 ≤ b) (hp : ∀ g, g ≤ p → g ∣ p → g = 1 ∨ g = p) (hq : ∀ g, g ≤ q → g ∣ q → g = 1 ∨ g = q) (p0 : 1 ≤ p) (q0 : 1 ≤ q) (c : Nat.gcd p q = 1) (hl : b < p * q) : Nat.gcd b p = 1 ∨ Nat.gcd b q = 1 := by
  by_cases h1 : Nat.gcd b p = 1
  · exact .inl h1
  · by_cases h2 : Nat.gcd b q = 1
    · exact .inr h2
    · have := Nat.le_of_dvd hb (Nat.Coprime.mul_dvd_of_dvd_of_dvd c (gcd_prime hp p0 h1) (gcd_prime hq q0 h2))
      omega
theorem cop_43_47 {b : Nat} (h1 : 1 ≤ b) (h2 : b ≤ 1000) : Nat.gcd b 43 = 1 ∨ Nat.gcd b 47 = 1 := cop_two h1 (by decide) (by decide) (by decide) (by decide) (by decide) (by omega)
/-- two ascending rows of numbers with the same members -/
theorem ascN_eq {xs ys : List Nat} (hx : xs.Pairwise (· < ·)) (hy : ys.Pairwise (· < ·)) (h : ∀ k, k ∈ xs ↔ k ∈ ys) : xs = ys := by
  have key : ∀ {zs : List Nat}, zs.Pairwise (· < ·) → (ni zs).Pairwise (· < ·) := fun hz => List.Pairwise.map _ (fun a b h => by omega) hz
  have := asc_eq (key hx) (key hy) fun k => by
    unfold ni
    rw [List.mem_map, List.mem_map]
    exact ⟨fun ⟨a, ha, e⟩ => ⟨a, (h a).mp ha, e⟩, fun ⟨a, ha, e⟩ => ⟨a, (h a).mpr ha, e⟩⟩
  unfold ni at this
  exact (List.map_inj_right (fun a b e => by omega)).mp this
/-- rows of whole numbers whose members are natural ones -/
theorem ni_of : ∀ {zs : List Int}, (∀ k ∈ zs, 0 ≤ k) → ∃ xs : List Nat, zs = ni xs
  | [], _ => ⟨[], rfl⟩
  | z :: zs, h => by
    obtain ⟨xs, e⟩ := ni_of (zs := zs) fun k hk => h k (List.mem_cons_of_mem _ hk)
    have := h z List.mem_cons_self
    exact ⟨z.toNat :: xs, by rw [e]; show z :: ni xs = ((z.toNat : Nat) : Int) :: ni xs; rw [Int.toNat_of_nonneg this]⟩
theorem mem_ni {xs : List Nat} {k : Nat} : ((k : Nat) : Int) ∈ ni xs ↔ k ∈ xs := by
  unfold ni
  rw [List.mem_map]
  constructor
  · rintro ⟨a, ha, e⟩
    rw [show k = a by omega]
    exact ha
  · exact fun h => ⟨k, h, rfl⟩
end Wn
/-! fractions of digits -/
namespace Wn
open PySem PySem.Spec PyProof.Rows L2
def frN (b : Nat) (h g : List Nat) : Nat := wrt b h * (b ^ g.length - 1) + wrt b g
def frD (b : Nat) (h g : List Nat) : Nat := b ^ h.length * (b ^ g.length - 1)
theorem nines_pos {b k : Nat} (hb : 2 ≤ b) (hk : 1 ≤ k) : 1 ≤ b ^ k - 1 := by
  have : 2 ^ 1 ≤ b ^ k := Nat.le_trans (Nat.pow_le_pow_left hb 1) (Nat.pow_le_pow_right (by omega) hk)
  omega
theorem frD_pos {b : Nat} {h g : List Nat} (hb : 2 ≤ b) (hg : 1 ≤ g.length) : 1 ≤ frD b h g := Nat.mul_pos (Nat.pow_pos (by omega)) (nines_pos hb hg)
/-- the value is not above 1 -/
theorem frN_le {b : Nat} {h g : List Nat} (hh : ∀ d ∈ h, d < b) (hg : ∀ d ∈ g, d < b) : frN b h g ≤ frD b h g := by
  have h1 := wrt_lt hh
  have h2 := wrt_lt hg
  unfold frN frD
  have h4 : wrt b g ≤ b ^ g.length - 1 := by omega
  have h5 : (wrt b h + 1) * (b ^ g.length - 1) ≤ b ^ h.length * (b ^ g.length - 1) := Nat.mul_le_mul_right _ h1
  rw [Nat.succ_mul] at h5
  omega
/-- one fraction in two forms, one of them in lowest terms -/
theorem lowest {x n N D : Nat} (g : Nat.gcd x n = 1) (hn : 1 ≤ n) (hD : 1 ≤ D) (e : n * N = x * D) : N / Nat.gcd N D = x ∧ D / Nat.gcd N D = n := by
  have h1 : n ∣ D := Nat.Coprime.dvd_of_dvd_mul_left (Nat.Coprime.symm g) ⟨N, e.symm⟩
  obtain ⟨c, rfl⟩ := h1
  have hc : 1 ≤ c := Nat.pos_of_ne_zero fun z => by rw [z] at hD; omega
  have h2 : N = x * c := Nat.eq_of_mul_eq_mul_left hn (by rw [e, Nat.mul_left_comm])
  subst h2
  have h3 : Nat.gcd (x * c) (n * c) = c := by rw [Nat.gcd_mul_right, g, Nat.one_mul]
  rw [h3, Nat.mul_div_cancel _ hc, Nat.mul_div_cancel _ hc]
  exact ⟨rfl, rfl⟩
/-- digits of a division that comes round -/
theorem fr_of {b n x lo c : Nat} (hx : x < n) (hr : rem b n x (lo + c) = rem b n x lo) : n * frN b (dg b n x 0 lo) (dg b n x lo c) = x * frD b (dg b n x 0 lo) (dg b n x lo c) := by
  have h1 := wrt_dg b n x 0 lo
  have h2 := wrt_dg b n x lo c
  rw [rem_zero hx, Nat.zero_add] at h1
  rw [hr] at h2
  unfold frN frD
  rw [dg_len, dg_len]
  have hp : 1 ≤ b ^ c ∨ b ^ c = 0 := by omega
  rcases hp with hp | hp
  · obtain ⟨z, hz⟩ : ∃ z, b ^ c = z + 1 := ⟨b ^ c - 1, by omega⟩
    rw [hz] at h2 ⊢
    rw [Nat.add_sub_cancel]
    rw [Nat.mul_add, Nat.mul_one] at h2
    rw [Nat.mul_add, ← Nat.mul_assoc, ← Nat.mul_assoc, ← h1, Nat.add_mul]
    omega
  · rw [hp] at h2 ⊢
    rw [Nat.mul_zero] at h2
    simp only [Nat.zero_sub, Nat.mul_zero, Nat.zero_add]
    omega
theorem dg_app {b n x lo c c' : Nat} : dg b n x lo c ++ dg b n x (lo + c) c' = dg b n x lo (c + c') := by
  unfold dg
  rw [List.range_add, List.map_append, List.map_map]
  congr 1
  apply List.map_congr_left
  intro i _
  show rem b n x (lo + c + i) * b / n = rem b n x (lo + (c + i)) * b / n
  rw [Nat.add_assoc]
/-- behind a turn the same remainders -/
theorem rem_shift {b n x lo c : Nat} (hr : rem b n x (lo + c) = rem b n x lo) (i : Nat) : rem b n x (lo + c + i) = rem b n x (lo + i) := by
  have h1 := rem_rem b n x (lo + c) i
  rw [hr, rem_rem] at h1
  exact h1.symm
theorem dg_shift {b n x lo c : Nat} (hr : rem b n x (lo + c) = rem b n x lo) (k : Nat) : dg b n x (lo + c) k = dg b n x lo k := by
  unfold dg
  apply List.map_congr_left
  intro i _
  rw [rem_shift hr]
end Wn
/-! texts of whole numbers, one behind the other -/
namespace Wn
open PySem PySem.Spec PyProof.Rows L2
def dgC (c : Nat) : Bool := decide (48 ≤ c) && decide (c ≤ 57)
def runN (s : Str) : Nat := (s.cps.toList.takeWhile dgC).length
/-- the number that a text is, as texts have them -/
def intIn (s : Str) : Option Nat := if 1 ≤ s.length ∧ s.length ≤ 40 ∧ runN s = s.length ∧ ¬ (1 < s.length ∧ s.cps.toList.head? = some 48) then some (NumText.digitsVal s.cps.toList) else none
/-- the text of a number -/
def nS (n : Nat) : Str := Str.ofString (toString ((n : Nat) : Int))
theorem len_cps (s : Str) : s.length = s.cps.toList.length := by
  show s.cps.size = _
  rw [Array.length_toList]
theorem tl_nS (n : Nat) : (nS n).cps.toList = TL.numL n := TL.tl_num n
theorem ten_eq : (Str.ofString "0123456789").cps.toList = [48, 49, 50, 51, 52, 53, 54, 55, 56, 57] := by decide +kernel
theorem in_ten (c : Nat) : decide (c ∈ (Str.ofString "0123456789").cps.toList) = dgC c := by
  rw [ten_eq, Bool.eq_iff_iff, decide_eq_true_iff]
  unfold dgC
  rw [Bool.and_eq_true, decide_eq_true_iff, decide_eq_true_iff]
  simp only [List.mem_cons, List.not_mem_nil, or_false]
  omega
theorem take_all {f : Nat → Bool} : ∀ {l : List Nat}, (∀ c ∈ l, f c = true) → l.takeWhile f = l
  | [], _ => rfl
  | c :: r, h => by
    rw [List.takeWhile_cons, if_pos (h c (List.mem_cons_self ..)), take_all fun x hx => h x (List.mem_cons_of_mem _ hx)]
theorem take_len {f : Nat → Bool} : ∀ {l : List Nat}, (l.takeWhile f).length = l.length → ∀ c ∈ l, f c = true
  | [], _, c, h => by cases h
  | x :: r, h, c, hc => by
    rw [List.takeWhile_cons] at h
    split at h
    · rename_i hx
      rcases List.mem_cons.mp hc with rfl | hc
      · exact hx
      · exact take_len (by simpa using h) c hc
    · simp at h
theorem run_le (s : Str) : runN s ≤ s.length := by
  rw [len_cps]
  exact (List.takeWhile_sublist dgC).length_le
theorem take_at {f : Nat → Bool} : ∀ {l : List Nat} {i : Nat} {c : Nat}, l[i]? = some c → i ≤ (l.takeWhile f).length → (f c = true → i + 1 ≤ (l.takeWhile f).length) ∧ (f c = false → i = (l.takeWhile f).length)
  | [], i, c, h, _ => by simp at h
  | x :: r, 0, c, h, _ => by
    have e : x = c := by simpa using h
    subst e
    rw [List.takeWhile_cons]
    constructor
    · intro z
      rw [if_pos z]
      simp
    · intro z
      rw [if_neg (by rw [z]; decide)]
      rfl
  | x :: r, i + 1, c, h, hi => by
    rw [List.takeWhile_cons] at hi ⊢
    split at hi
    · rename_i hx
      rw [if_pos hx]
      have hi' : i ≤ (r.takeWhile f).length := by simpa using hi
      obtain ⟨h1, h2⟩ := take_at (f := f) (by simpa using h) hi'
      constructor
      · intro z
        have := h1 z
        simpa using this
      · intro z
        have := h2 z
        simpa using this
    · simp at hi
theorem numL_head : ∀ {n : Nat}, (TL.numL n).head? = some 48 → n = 0 := by
  intro n
  induction n using Nat.strongRecOn with
  | _ n ih =>
    intro h
    by_cases hn : n < 10
    · rw [TL.numL_lt hn] at h
      have : 48 + n = 48 := by simpa using h
      omega
    · rw [TL.numL_step (by omega), List.head?_append] at h
      have h0 : (TL.numL (n / 10)).head? = some 48 := by
        cases e : TL.numL (n / 10) with
        | nil => exact absurd e (TL.numL_ne _)
        | cons x r =>
          rw [e] at h
          simpa using h
      have := ih (n / 10) (by omega) h0
      omega
theorem nS_dig (n : Nat) : ∀ c ∈ (nS n).cps.toList, dgC c = true := fun c hc => by
  rw [tl_nS] at hc
  have := TL.numL_digits n c hc
  unfold dgC
  rw [Bool.and_eq_true, decide_eq_true_iff, decide_eq_true_iff]
  exact this
theorem nS_len {n k : Nat} (hk : 0 < k) (h : n < 10 ^ k) : (nS n).length ≤ k := by
  rw [len_cps, tl_nS]
  exact TL.numL_len hk h
theorem nS_pos (n : Nat) : 1 ≤ (nS n).length := by
  rw [len_cps, tl_nS]
  exact List.length_pos_iff.mpr (TL.numL_ne n)
theorem run_nS (n : Nat) : runN (nS n) = (nS n).length := by
  unfold runN
  rw [take_all (nS_dig n), len_cps]
theorem intIn_nS {n : Nat} (h : n < 10 ^ 40) : intIn (nS n) = some n := by
  unfold intIn
  rw [if_pos, tl_nS, TL.numL_val]
  refine ⟨nS_pos n, nS_len (by decide) h, run_nS n, fun z => ?_⟩
  rw [tl_nS] at z
  have z0 := numL_head z.2
  subst z0
  have := nS_len (n := 0) (k := 1) (by decide) (by decide)
  omega
/-- int() of such a text -/
theorem intIn_int {s : Str} {n : Nat} (h : intIn s = some n) : intText? s = some (n : Int) ∧ s.length ≤ 40 := by
  unfold intIn at h
  split at h
  · rename_i hc
    obtain ⟨h1, h2, h3, _⟩ := hc
    have hall : NumText.AllDigits s.cps.toList := fun c hc => by
      have := take_len (f := dgC) (by rw [← len_cps]; exact h3) c hc
      unfold dgC at this
      rw [Bool.and_eq_true, decide_eq_true_iff, decide_eq_true_iff] at this
      exact this
    have hne : s.cps.toList ≠ [] := fun z => by
      rw [len_cps, z] at h1
      simp at h1
    injection h with h
    subst h
    exact ⟨intText_digits hall hne (by omega), h2⟩
  · cases h
/-- the digits at the beginning of words -/
def digL (b : Nat) : List Str → List Nat
  | [] => []
  | w :: r => match intIn w with
    | some d => if d < b then d :: digL b r else []
    | none => []
def digIn (b : Nat) (ws : List Str) : List Nat := digL b (ws.take 400)
theorem digL_app {b : Nat} {w : Str} {r : List Str} (hw : intIn w = none) (hb : b ≤ 1000) : ∀ {ds : List Nat}, (∀ d ∈ ds, d < b) → ∀ k, ds.length ≤ k → digL b ((ds.map nS ++ w :: r).take k) = ds
  | [], _, 0, _ => rfl
  | [], _, k + 1, _ => by
    show (match intIn w with
      | some d => if d < b then d :: digL b (r.take k) else []
      | none => []) = []
    rw [hw]
  | d :: ds, h, 0, hk => by simp at hk
  | d :: ds, h, k + 1, hk => by
    have hd := h d (List.mem_cons_self ..)
    show (match intIn (nS d) with
      | some d' => if d' < b then d' :: digL b ((ds.map nS ++ w :: r).take k) else []
      | none => []) = d :: ds
    rw [intIn_nS (Nat.lt_trans (Nat.lt_of_lt_of_le hd hb) (by decide))]
    show (if d < b then d :: digL b ((ds.map nS ++ w :: r).take k) else []) = _
    rw [if_pos hd, digL_app hw hb (fun x hx => h x (List.mem_cons_of_mem _ hx)) k (by simpa using hk)]
theorem digL_small {b : Nat} : ∀ (ws : List Str), ∀ d ∈ digL b ws, d < b
  | [], d, h => by cases h
  | w :: r, d, h => by
    unfold digL at h
    split at h
    · split at h
      · rename_i hd
        rcases List.mem_cons.mp h with rfl | h
        · exact hd
        · exact digL_small r d h
      · cases h
    · cases h
theorem digL_len {b : Nat} : ∀ (ws : List Str), (digL b ws).length ≤ ws.length
  | [] => Nat.le_refl _
  | w :: r => by
    unfold digL
    split
    · split
      · have := digL_len (b := b) r
        simpa using this
      · exact Nat.zero_le _
    · exact Nat.zero_le _
/-- the text of an expansion -/
def expW (h g : List Nat) : List Str := h.map nS ++ [Str.ofString "("] ++ g.map nS ++ [Str.ofString ")"]
def expS (h g : List Nat) : Str := Txt.join (Str.ofString " ") (expW h g)
theorem no_par : intIn (Str.ofString "(") = none ∧ intIn (Str.ofString ")") = none := by decide +kernel
theorem sp_tl : (Str.ofString " ").cps.toList = [32] := by decide +kernel
theorem split_expS (h g : List Nat) : Txt.split (expS h g) (Str.ofString " ") = expW h g := by
  refine TL.split_join (s := 32) (S := []) sp_tl (by decide +kernel) (by unfold expW; simp) fun p hp => ?_
  unfold expW at hp
  have num : ∀ n : Nat, 32 ∉ TL.tl (nS n) := fun n => by
    show 32 ∉ (nS n).cps.toList
    rw [tl_nS]
    exact TL.numL_free (.inl (by decide))
  have p1 : 32 ∉ TL.tl (Str.ofString "(") := by decide +kernel
  have p2 : 32 ∉ TL.tl (Str.ofString ")") := by decide +kernel
  simp only [List.mem_append, List.mem_map, List.mem_singleton] at hp
  rcases hp with ((⟨n, _, rfl⟩ | rfl) | ⟨n, _, rfl⟩) | rfl
  · exact num n
  · exact p1
  · exact num n
  · exact p2
theorem expW_len (h g : List Nat) : (expW h g).length = h.length + g.length + 2 := by
  unfold expW
  simp
  omega
/-- how long such words are, altogether -/
theorem expW_sum {h g : List Nat} (hh : ∀ d ∈ h, d < 1000) (hg : ∀ d ∈ g, d < 1000) : ((expW h g).map (·.length)).sum ≤ 3 * (expW h g).length := by
  have : ∀ (ws : List Str), (∀ w ∈ ws, w.length ≤ 3) → (ws.map (·.length)).sum ≤ 3 * ws.length := by
    intro ws
    induction ws with
    | nil => intro _; simp
    | cons w r ih =>
      intro hw
      have h1 := hw w (List.mem_cons_self ..)
      have h2 := ih fun x hx => hw x (List.mem_cons_of_mem _ hx)
      simp only [List.map_cons, List.sum_cons, List.length_cons]
      omega
  refine this _ fun w hw => ?_
  unfold expW at hw
  simp only [List.mem_append, List.mem_map, List.mem_singleton] at hw
  rcases hw with ((⟨n, hn, rfl⟩ | rfl) | ⟨n, hn, rfl⟩) | rfl
  · exact nS_len (by decide) (hh n hn)
  · decide +kernel
  · exact nS_len (by decide) (hg n hn)
  · decide +kernel
end Wn
/-! the text of a list of great whole numbers: below ten to the 4,300, where no limit of digits has been set -/
namespace Wn
open PySem PySem.Spec PyProof.Rows L2
section
variable {prog : Program} {w : World} {A : Around} {E : Value → Shared → Prop} {s : Shared}
theorem big_call {a : Int} {t : Tok} {Q : Value → Shared → Prop} (hn : s.heap.NoDigits) (ha : a.natAbs < 10 ^ 4300) (h : Q (.str (toString a) s.toks) { s with toks := s.toks + 1 }) : wpAny (model prog w) A (call (.builtin "int.__repr__") [.int a t]) Q E s := by
  refine wpAny_call (codeAny_call_builtin F.slot_int_repr.plain F.entry_int_repr (F.slot_int_repr.check _ _ _ _ _ _ _ _ (typeIs_int s a t) (F.args_int_repr_1 _) ?_))
  unfold Builtin.«int.__repr__»
  show wpAny _ _ (do let r ← Builtin.overDigitLimit? a; _) _ _ s
  exact wpAny_bind (overDigitLimit_any hn (fun lt => wpAny_bind (wpAny_mkStr (wpAny_pure h) (int_text_fits10 lt))) fun ge => absurd ha (Nat.not_lt.mpr ge))
theorem big_obj {a : Int} {t : Tok} {Q : Value → Shared → Prop} (hn : s.heap.NoDigits) (ha : a.natAbs < 10 ^ 4300) (h : Q (.str (toString a) s.toks) { s with toks := s.toks + 1 }) : wpAny (model prog w) A (pyReprObj (.int a t)) Q E s := by
  have hv : [Value.int a t].any Value.onHeap = false := rfl
  unfold pyReprObj
  simp only [cRoomFor, hv, Bool.false_eq_true, if_false, pure_bind]
  refine wpAny_bind (wpAny_specialOf (name := Str.ofString "__repr__") (typeIs_int s a t) F.slot_int_repr.lookup ?_)
  refine wpAny_bind (m := callSpecialIfBound? (.int a t) (Str.ofString "__repr__")) (wpAny_callSpecialIfBound?_slot (name := Str.ofString "__repr__") (typeIs_int s a t) F.slot_int_repr (big_call hn ha ?_))
  exact wpAny_bind (wpAny_isInstance (T := "str") (b := true) rfl isSubtype_str_str (wpAny_pure h))
theorem big_reprK {a : Int} {as : List Addr} {h₀ : Heap} {d : Nat} (t : Tok) (hn : h₀.NoDigits) (ha : a.natAbs < 10 ^ 4300) : ReprK prog w as h₀ d (.int a t) (toString a) := fun base hb A g E s Q _ _ _ hk hQ => by
  rw [pyReprUnder_leaf (v := .int a t) (show base ≤ sizeLine by omega) (fun _ e => nomatch e)]
  unfold pyRepr
  exact wpAny_bind (big_obj (hn.keeps hk) ha (wpAny_pure (hQ s.heap _ fun _ _ e => e)))
end
def bigB (ns : List Int) : Prop := ns ≠ [] ∧ ns.length ≤ 1000 ∧ ∀ n ∈ ns, n.natAbs < 10 ^ 4300
theorem big_leaf : ∀ ns : List Int, (∀ n ∈ ns, n.natAbs < 10 ^ 4300) → PyData.leavesShortAll 4302 (ns.map PyData.int) = true ∧ PyData.bulkAll (ns.map PyData.int) ≤ ns.length
  | [], _ => ⟨rfl, Nat.le_refl _⟩
  | n :: ns, h => by
    obtain ⟨h1, h2⟩ := big_leaf ns fun m hm => h m (List.mem_cons_of_mem _ hm)
    have hn := int_text_length_le10 (k := 4300) (by decide) (h n (List.mem_cons_self ..))
    refine ⟨?_, ?_⟩
    · show (decide ((PyData.shown (.int n)).length ≤ 4302) && PyData.leavesShortAll 4302 (ns.map PyData.int)) = true
      rw [h1, Bool.and_true]
      refine decide_eq_true ?_
      show (Str.ofString (toString n)).length ≤ 4302
      rw [PySem.ofString_length]
      omega
    · show PyData.bulk (.int n) + 1 + PyData.bulkAll (ns.map PyData.int) ≤ ns.length + 1
      have : PyData.bulk (.int n) = 0 := rfl
      omega
theorem big_len {ns : List Int} (h : bigB ns) : (PyData.shown (.list (ns.map PyData.int))).length ≤ sizeLine := by
  obtain ⟨h1, h2⟩ := big_leaf ns h.2.2
  have h3 := PyData.shown_le_bulk 4302 (by decide) (.list (ns.map PyData.int)) h1
  have h4 : PyData.bulk (.list (ns.map PyData.int)) ≤ 1000 := Nat.le_trans h2 h.2.1
  have h5 : (4302 + 2) * PyData.bulk (.list (ns.map PyData.int)) ≤ 4304 * 1000 := Nat.mul_le_mul_left _ h4
  rw [sizeLine_eq]
  omega
theorem big_texts (ns : List Int) : PyData.shownAll (ns.map PyData.int) = ns.map fun n => Str.ofString (toString n) := by
  induction ns with
  | nil => rfl
  | cons n ns ih =>
    show PyData.shown (.int n) :: PyData.shownAll (ns.map PyData.int) = _
    rw [ih]
    rfl
theorem vals_intsB {ns : List Int} {its : List Value} (h : Vals (ns.map V.int) its) : ∀ (i : Nat) (y : Value), its[i]? = some y → ∃ n t, ns[i]? = some n ∧ y = .int n t := by
  induction ns generalizing its with
  | nil =>
    cases h
    intro i y e
    simp at e
  | cons n ns ih =>
    cases h with
    | cons r rr =>
      obtain ⟨t, rfl⟩ := r
      intro i y e
      cases i with
      | zero => exact ⟨n, t, rfl, (Option.some.inj e).symm⟩
      | succ i => exact ih rr i y e
def rReprI (K : PySem.W.Frag) : List V → Hp → VK → Prop := fun xs H Q => ∃ (a : Addr) (ns : List Int), xs = [.ref a] ∧ SqL K H a (ns.map V.int) ∧ bigB ns ∧ Q (.str (PyData.shown (.list (ns.map PyData.int)))) H
theorem call_reprI {X : Cx} (hd : PySem.W.nsIn X.K cStatics "sys.int_max_str_digits" = some none) (hg : X.A.guards = some []) (hu : X.A.units + 200 < cLine) : CallR X (.builtin "repr") (rReprI X.K) := by
  intro pins s σ H xs us Q I r h
  obtain ⟨a, ns, rfl, hS, hB, q⟩ := h
  obtain ⟨u, rfl, rx⟩ := vals1 r
  obtain rfl : u = Value.ref a := rx
  obtain ⟨its, rv, ⟨o, m, ho, hc, _, hda⟩, _⟩ := I.list hS
  have hND : s.heap.NoDigits := by
    obtain ⟨mc, hns, _⟩ := I.nolimit
    refine ⟨mc, hns, ?_⟩
    have X0 := I.kIn
    obtain ⟨o, es, ep, ho, hd2, _, hf⟩ := hns
    unfold PySem.W.nsIn at hd
    split at hd
    · rename_i c d es' n' sl qq
      have e := X0 _ _ qq
      rw [ho] at e
      cases e
      cases hd2
      split at hd
      · cases hd
      · rename_i he
        rw [← hf]
        unfold nsFind findBy
        rw [← Array.find?_toList, he]
        rfl
    · cases hd
  have hlen := rv.length
  have hz : (listText (ns.map fun n => Str.ofString (toString n))).length ≤ sizeLine := by
    have := big_len hB
    rw [← big_texts]
    exact this
  have hT : ∀ (i : Nat) (y : Value), its.toArray[i]? = some y → ∃ t, (ns.map fun n => Str.ofString (toString n))[i]? = some t ∧ ReprK X.prog X.w [] s.heap 0 y t := fun i y e => by
    obtain ⟨n, t, e1, rfl⟩ := vals_intsB rv i y (by simpa using e)
    refine ⟨Str.ofString (toString n), by rw [List.getElem?_map, e1]; rfl, big_reprK t hND (hB.2.2 n (List.mem_of_getElem? e1))⟩
  cases its with
  | nil =>
    cases ns with
    | nil => exact absurd rfl hB.1
    | cons n ns => cases rv
  | cons x l =>
    refine PySem.call_repr_slot (by omega) ⟨o, ho, hc⟩ F.slot_list_repr.toG ?_
    refine call_list_reprK (as := []) (h₀ := s.heap) (d := 0) ho hc hda (by simp) (by rw [List.length_map]; rw [List.length_map] at hlen; simpa using hlen) hT hg (fun b _ => Clear.nil b) (by show X.A.units + 1 + (0 + 1) < cLine; omega) (fun _ _ e => e) (fun h' u tk hk => ⟨_, _, rfl, ?_⟩) hz
    refine ⟨.str _, H, I.un (Un.kept hk) (I.hok.kept hk), ⟨_, rfl⟩, ?_⟩
    rw [← big_texts]
    exact q
end Wn
/-! data at any depth, dicts among it -/
namespace Wn
open PySem PySem.Spec PyProof.Rows L2
def kD : Key → PyData
  | .inl i => .int i
  | .inr x => .str x
mutual
inductive Dz (K : PySem.W.Frag) (H : Hp) : V → PyData → Prop
  | non : Dz K H .non .none
  | bl (b : Bool) : Dz K H (.bl b) (.bool b)
  | int (i : Int) : Dz K H (.int i) (.int i)
  | str (x : Str) : Dz K H (.str x) (.str x)
  | lst {a : Addr} {xs : List V} {ds : List PyData} : SqL K H a xs → DzAll K H xs ds → Dz K H (.ref a) (.list ds)
  | tup {a : Addr} {xs : List V} {ds : List PyData} : SqT K H a xs → DzAll K H xs ds → Dz K H (.ref a) (.tuple ds)
  | dct {a : Addr} {kvs : List (Key × V)} {ps : List (PyData × PyData)} : H a = some (.dK kvs) → ps.map (·.1) = kvs.map (fun p => kD p.1) → DzAll K H (kvs.map (·.2)) (ps.map (·.2)) → Dz K H (.ref a) (.dict ps)
inductive DzAll (K : PySem.W.Frag) (H : Hp) : List V → List PyData → Prop
  | nil : DzAll K H [] []
  | cons {v : V} {vs : List V} {d : PyData} {ds : List PyData} : Dz K H v d → DzAll K H vs ds → DzAll K H (v :: vs) (d :: ds)
end
mutual
theorem Dz.gr {K : PySem.W.Frag} {H H' : Hp} (g : Gr [] H H') : ∀ {v : V} {d : PyData}, Dz K H v d → Dz K H' v d
  | _, _, .non => .non
  | _, _, .bl b => .bl b
  | _, _, .int i => .int i
  | _, _, .str x => .str x
  | _, _, .lst h1 h2 => .lst ((Kp.of g).sqL h1) (DzAll.gr g h2)
  | _, _, .tup h1 h2 => .tup ((Kp.of g).sqT h1) (DzAll.gr g h2)
  | _, _, .dct h1 h2 h3 => .dct (g _ _ (by simp) h1) h2 (DzAll.gr g h3)
theorem DzAll.gr {K : PySem.W.Frag} {H H' : Hp} (g : Gr [] H H') : ∀ {vs : List V} {ds : List PyData}, DzAll K H vs ds → DzAll K H' vs ds
  | _, _, .nil => .nil
  | _, _, .cons h1 h2 => .cons (Dz.gr g h1) (DzAll.gr g h2)
end
mutual
theorem Dz.of {K : PySem.W.Frag} {H : Hp} : ∀ {v : V} {d : PyData}, Dp K H v d → Dz K H v d
  | _, _, .non => .non
  | _, _, .bl b => .bl b
  | _, _, .int i => .int i
  | _, _, .str x => .str x
  | _, _, .lst h1 h2 => .lst h1 (DzAll.of h2)
  | _, _, .tup h1 h2 => .tup h1 (DzAll.of h2)
theorem DzAll.of {K : PySem.W.Frag} {H : Hp} : ∀ {vs : List V} {ds : List PyData}, DpAll K H vs ds → DzAll K H vs ds
  | _, _, .nil => .nil
  | _, _, .cons h1 h2 => .cons (Dz.of h1) (DzAll.of h2)
end
mutual
theorem Dz.dp {K : PySem.W.Frag} {H : Hp} : ∀ {v : V} {d : PyData}, d.hasDict = false → Dz K H v d → Dp K H v d
  | _, _, _, .non => .non
  | _, _, _, .bl b => .bl b
  | _, _, _, .int i => .int i
  | _, _, _, .str x => .str x
  | _, _, n, .lst h1 h2 => .lst h1 (DzAll.dp (by simpa [PyData.hasDict] using n) h2)
  | _, _, n, .tup h1 h2 => .tup h1 (DzAll.dp (by simpa [PyData.hasDict] using n) h2)
  | _, _, n, .dct _ _ _ => by simp [PyData.hasDict] at n
theorem DzAll.dp {K : PySem.W.Frag} {H : Hp} : ∀ {vs : List V} {ds : List PyData}, PyData.hasDictAll ds = false → DzAll K H vs ds → DpAll K H vs ds
  | _, _, _, .nil => .nil
  | _, _, n, .cons h1 h2 => by
    simp only [PyData.hasDictAll, Bool.or_eq_false_iff] at n
    exact .cons (Dz.dp n.1 h1) (DzAll.dp n.2 h2)
end
theorem dz_lst {K : PySem.W.Frag} {H : Hp} {a : Addr} {xs : List V} {ds : List PyData} (h : H a = some (.lst xs)) (h2 : DzAll K H xs ds) : Dz K H (.ref a) (.list ds) := .lst (sq_lst h) h2
theorem dz_tup {K : PySem.W.Frag} {H : Hp} {a : Addr} {xs : List V} {ds : List PyData} (h : H a = some (.tup xs)) (h2 : DzAll K H xs ds) : Dz K H (.ref a) (.tuple ds) := .tup (sq_tup h) h2
theorem dzAll_len {K : PySem.W.Frag} {H : Hp} : ∀ {vs : List V} {ds : List PyData}, DzAll K H vs ds → vs.length = ds.length
  | _, _, .nil => rfl
  | _, _, .cons _ t => congrArg (· + 1) (dzAll_len t)
theorem dzAll_append {K : PySem.W.Frag} {H : Hp} : ∀ {vs ws : List V} {ds es : List PyData}, DzAll K H vs ds → DzAll K H ws es → DzAll K H (vs ++ ws) (ds ++ es)
  | _, _, _, _, .nil, b => b
  | _, _, _, _, .cons h t, b => .cons h (dzAll_append t b)
theorem dz_bool {K : PySem.W.Frag} {H : Hp} {v : V} {b : Bool} (h : Dz K H v (.bool b)) : v = .bl b := by cases h; rfl
theorem dz_int {K : PySem.W.Frag} {H : Hp} {v : V} {b : Int} (h : Dz K H v (.int b)) : v = .int b := by cases h; rfl
theorem dz_str {K : PySem.W.Frag} {H : Hp} {v : V} {b : Str} (h : Dz K H v (.str b)) : v = .str b := by cases h; rfl
/-! what the heap reads of it -/
theorem pairs_keys {P : Program} {w : World} {h : Heap} : ∀ {es : List DictEntry} {kvs : List (Key × Value)}, Pairs (mixKind P w) es kvs → ∃ as, ReadsAll h (es.map (·.key)) (kvs.map fun p => kD p.1) as
  | _, _, .nil => ⟨_, .nil⟩
  | _, _, .cons hk _ t => by
    obtain ⟨as, r⟩ := pairs_keys t
    rename_i e kv es kvs _
    rcases keyIs_shape (show keyIs kv.1 e.key = true from hk) with ⟨i, t, e1, e2⟩ | ⟨x, t, e1, e2⟩
    · refine ⟨[] ++ as, ?_⟩
      show ReadsAll h (e.key :: es.map (·.key)) (kD kv.1 :: kvs.map fun p => kD p.1) _
      rw [e1, e2]
      exact .cons (.int i t) r
    · refine ⟨[] ++ as, ?_⟩
      show ReadsAll h (e.key :: es.map (·.key)) (kD kv.1 :: kvs.map fun p => kD p.1) _
      rw [e1, e2]
      exact .cons (.str x t) r
theorem pairs_vals {P : Program} {w : World} : ∀ {es : List DictEntry} {kvs : List (Key × Value)}, Pairs (mixKind P w) es kvs → es.map (·.val) = kvs.map (·.2)
  | _, _, .nil => rfl
  | _, _, .cons _ hv t => by
    rw [List.map_cons, List.map_cons, hv, pairs_vals t]
theorem kv_keys {κ : Type} : ∀ {a : List (κ × V)} {b : List (κ × Value)}, KV a b → a.map (·.1) = b.map (·.1) ∧ Vals (a.map (·.2)) (b.map (·.2))
  | _, _, .nil => ⟨rfl, .nil⟩
  | _, _, .cons r t => by
    obtain ⟨h1, h2⟩ := kv_keys t
    exact ⟨by rw [List.map_cons, List.map_cons, r.1, h1], .cons r.2 h2⟩
section
variable {X : Cx} {pins : List (Addr × Obj)} {σ : L2.St} {H : Hp} {s : Shared}
theorem dct_at (I : Inv X pins σ H s) {a : Addr} {kvs : List (Key × V)} (h : H a = some (.dK kvs)) : (a == sysModules) = false ∧ ∃ (vs : List (Key × Value)) (o : Obj) (es : Array DictEntry) (ep : Nat),
    kvs.map (·.1) = vs.map (·.1) ∧ Vals (kvs.map (·.2)) (vs.map (·.2)) ∧ s.heap.get? a = some o ∧ o.cls = .type "dict" ∧ o.data = .dict es ep ∧ Pairs (mixKind X.prog X.w) es.toList vs := by
  obtain ⟨_, z, vs, kv, o, es, ep, h1, h2, h3, _, h5, _⟩ := dk_of I.hok h
  obtain ⟨k1, k2⟩ := kv_keys kv
  exact ⟨z, vs, o, es, ep, k1, k2, h1, h2.1, h3, h5⟩
mutual
theorem Dz.reads (I : Inv X pins σ H s) : ∀ (d : PyData) (v : V) (u : Value), Dz X.K H v d → RelV v u → ∃ as, Reads s.heap u d as
  | .none, _, _, h, r => by
    cases h
    cases r
    exact ⟨_, Reads.none⟩
  | .bool b, _, _, h, r => by
    cases h
    cases r
    exact ⟨_, Reads.bool b⟩
  | .int i, _, _, h, r => by
    cases h
    obtain ⟨t, rfl⟩ := r
    exact ⟨_, Reads.int i t⟩
  | .str x, _, _, h, r => by
    cases h
    obtain ⟨t, rfl⟩ := r
    exact ⟨_, Reads.str x t⟩
  | .list ds, _, _, h, r => by
    cases h with
    | lst hs ha =>
      cases r
      obtain ⟨its, rv, ⟨o, n, ho, hc, _, hd⟩, _⟩ := I.list hs
      obtain ⟨as, hr⟩ := Dz.readsAll I ds _ its ha rv
      exact ⟨_, Reads.list ho hc hd hr⟩
  | .tuple ds, _, _, h, r => by
    cases h with
    | tup hs ha =>
      cases r
      obtain ⟨its, rv, ⟨o, ho, hc, n, hd⟩, _⟩ := I.tuple hs
      obtain ⟨as, hr⟩ := Dz.readsAll I ds _ its ha rv
      exact ⟨_, Reads.tuple ho hc hd hr⟩
  | .dict ps, _, _, h, r => by
    cases h with
    | dct h1 h2 h3 =>
      cases r
      obtain ⟨_, vs, o, es, ep, k1, k2, h4, h5, h6, h7⟩ := dct_at I h1
      obtain ⟨as, r1⟩ := pairs_keys (h := s.heap) h7
      obtain ⟨bs, r2⟩ := Dz.readsKv I ps _ _ h3 k2
      rw [← pairs_vals h7] at r2
      have ek : ps.map (·.1) = vs.map fun p => kD p.1 := by
        rw [h2, show (fun p : Key × V => kD p.1) = kD ∘ (·.1) from rfl, ← List.map_map, k1, List.map_map]
        rfl
      rw [← ek] at r1
      exact ⟨_, Reads.dict h4 h5 h6 r1 r2⟩
theorem Dz.readsAll (I : Inv X pins σ H s) : ∀ (ds : List PyData) (vs : List V) (us : List Value), DzAll X.K H vs ds → Vals vs us → ∃ as, ReadsAll s.heap us ds as
  | [], _, _, h, r => by
    cases h
    cases r
    exact ⟨_, ReadsAll.nil⟩
  | d :: ds, _, _, h, r => by
    cases h with
    | cons h1 h2 =>
      cases r with
      | cons r1 r2 =>
        obtain ⟨as, q1⟩ := Dz.reads I d _ _ h1 r1
        obtain ⟨bs, q2⟩ := Dz.readsAll I ds _ _ h2 r2
        exact ⟨_, ReadsAll.cons q1 q2⟩
theorem Dz.readsKv (I : Inv X pins σ H s) : ∀ (ps : List (PyData × PyData)) (vs : List V) (us : List Value), DzAll X.K H vs (ps.map (·.2)) → Vals vs us → ∃ as, ReadsAll s.heap us (ps.map (·.2)) as
  | [], _, _, h, r => by
    cases h
    cases r
    exact ⟨_, ReadsAll.nil⟩
  | (k, d) :: ds, _, _, h, r => by
    cases h with
    | cons h1 h2 =>
      cases r with
      | cons r1 r2 =>
        obtain ⟨as, q1⟩ := Dz.reads I d _ _ h1 r1
        obtain ⟨bs, q2⟩ := Dz.readsKv I ds _ _ h2 r2
        exact ⟨_, ReadsAll.cons q1 q2⟩
end
/-! what repr shows of it -/
def ShK (P : Program) (w : World) (h : Heap) (u : Value) (d : PyData) : Prop := ∃ bs, ReadAtMost h d.depth bs ∧ ReprK P w bs h d.depth u d.shown
theorem keys_show {P : Program} {w : World} {h : Heap} : ∀ {es : List DictEntry} {kvs : List (Key × Value)} {ks : List PyData}, Pairs (mixKind P w) es kvs → ks = kvs.map (fun p => kD p.1) → PyData.showableAll ks = true → (∀ t ∈ PyData.shownAll ks, t.length ≤ sizeLine) →
    ReprAllK P w [] h 0 (es.map (·.key)) (PyData.shownAll ks)
  | _, _, _, .nil, e, _, _ => by
    subst e
    exact .nil
  | _, _, _, .cons hk _ t, e, hs, hz => by
    rename_i e0 kv es kvs _
    subst e
    have hs' : (kD kv.1).showable = true ∧ PyData.showableAll (kvs.map fun p => kD p.1) = true := by simpa [PyData.showableAll] using hs
    have ih := keys_show (h := h) t rfl hs'.2 (fun t ht => hz t (by
      show t ∈ PyData.shown (kD kv.1) :: PyData.shownAll (kvs.map fun p => kD p.1)
      exact List.mem_cons_of_mem _ ht))
    have hz0 := hz (PyData.shown (kD kv.1)) (by
      show _ ∈ PyData.shown (kD kv.1) :: PyData.shownAll (kvs.map fun p => kD p.1)
      exact List.mem_cons_self ..)
    show ReprAllK P w [] h 0 (e0.key :: es.map (·.key)) (PyData.shown (kD kv.1) :: PyData.shownAll (kvs.map fun p => kD p.1))
    refine .cons ?_ ih
    rcases keyIs_shape (show keyIs kv.1 e0.key = true from hk) with ⟨i, t, e1, e2⟩ | ⟨x, t, e1, e2⟩
    · rw [e2]
      rw [e1] at hs' ⊢
      exact .of_is (ReprIs.int t (by simpa [kD, PyData.showable] using hs'.1)) _ _ _
    · rw [e2]
      rw [e1] at hz0 ⊢
      exact .of_is (ReprIs.str x t hz0) _ _ _
mutual
theorem Dz.show_ (I : Inv X pins σ H s) : ∀ (d : PyData) (v : V) (u : Value), Dz X.K H v d → RelV v u → d.showable = true → d.shown.length ≤ sizeLine → ShK X.prog X.w s.heap u d
  | .none, _, _, h, r, _, _ => by
    cases h
    cases r
    exact ⟨[], (fun _ h => nomatch h), .of_is ReprIs.none _ _ _⟩
  | .bool b, _, _, h, r, _, _ => by
    cases h
    cases r
    exact ⟨[], (fun _ h => nomatch h), .of_is (ReprIs.bool b) _ _ _⟩
  | .int i, _, _, h, r, hs, _ => by
    cases h
    obtain ⟨t, rfl⟩ := r
    exact ⟨[], (fun _ h => nomatch h), .of_is (ReprIs.int t (by simpa [PyData.showable] using hs)) _ _ _⟩
  | .str x, _, _, h, r, _, hz => by
    cases h
    obtain ⟨t, rfl⟩ := r
    exact ⟨[], (fun _ h => nomatch h), .of_is (ReprIs.str x t hz) _ _ _⟩
  | .list ds, _, _, h, r, hs, hz => by
    cases h with
    | lst hq ha =>
      cases r
      obtain ⟨its, rv, ⟨o, n, ho, hc, _, hd⟩, _⟩ := I.list hq
      obtain ⟨as, hr⟩ := Dz.readsAll I ds _ its ha rv
      have hz' : (listText (PyData.shownAll ds)).length ≤ sizeLine := hz
      obtain ⟨bs, hb, hk⟩ := Dz.showAll I ds _ its ha rv (by simpa [PyData.showable] using hs) (fun t ht => Nat.le_trans (listText_mem_le ht) hz')
      have rd := Reads.list ho hc hd hr
      have hna := not_mem_of_deeper rd (by simp only [PyData.depth]; omega) hb
      refine ⟨_, ReadAtMost.cons rd (by simp only [PyData.depth]; omega) hb, ?_⟩
      simp only [PyData.depth, PyData.shown]
      cases its with
      | nil =>
        cases hr
        simp only [PyData.shownAll, listText_nil]
        exact ReprK.listEmpty ho hc hd
      | cons x l => exact ReprK.list ho hc hd hna (by simpa using hk.length_eq) (fun i y e => hk.item i y (by simpa using e))
  | .tuple ds, _, _, h, r, hs, hz => by
    cases h with
    | tup hq ha =>
      cases r
      obtain ⟨its, rv, ⟨o, ho, hc, n, hd⟩, _⟩ := I.tuple hq
      obtain ⟨as, hr⟩ := Dz.readsAll I ds _ its ha rv
      have hz' : (tupleText (PyData.shownAll ds)).length ≤ sizeLine := hz
      obtain ⟨bs, hb, hk⟩ := Dz.showAll I ds _ its ha rv (by simpa [PyData.showable] using hs) (fun t ht => Nat.le_trans (tupleText_mem_le ht) hz')
      have rd := Reads.tuple ho hc hd hr
      have hna := not_mem_of_deeper rd (by simp only [PyData.depth]; omega) hb
      refine ⟨_, ReadAtMost.cons rd (by simp only [PyData.depth]; omega) hb, ?_⟩
      simp only [PyData.depth, PyData.shown]
      exact ReprK.tuple ho hc hd hna hk
  | .dict ps, v, u, h, r, hs, hz => by
    have hh := h
    have hr0 := r
    cases h with
    | dct h1 h2 h3 =>
      cases r
      obtain ⟨hsys, vs, o, es, ep, k1, k2, h4, h5, h6, h7⟩ := dct_at I h1
      have hz' : (dictText (PyData.shownKv ps)).length ≤ sizeLine := hz
      obtain ⟨hs1, hs2⟩ := PyData.showableKv_split ps (by simpa [PyData.showable] using hs)
      have ek : ps.map (·.1) = vs.map fun p => kD p.1 := by
        rw [h2, show (fun p : Key × V => kD p.1) = kD ∘ (·.1) from rfl, ← List.map_map, k1, List.map_map]
        rfl
      have kk := keys_show (h := s.heap) h7 ek hs1 (fun t ht => let ⟨p, hp, hl⟩ := PyData.shownKv_key_le ps t ht; Nat.le_trans hl (Nat.le_trans (dictText_mem_le hp) hz'))
      obtain ⟨b2, hb2, hk2⟩ := Dz.showKv I ps _ _ h3 k2 hs2 (fun t ht => let ⟨p, hp, hl⟩ := PyData.shownKv_val_le ps t ht; Nat.le_trans hl (Nat.le_trans (dictText_mem_le hp) hz'))
      rw [← pairs_vals h7] at hk2
      obtain ⟨as, rd⟩ := Dz.reads I (.dict ps) _ _ hh hr0
      have hb : ReadAtMost s.heap (PyData.depthKv ps) b2 := hb2.mono (PyData.depthAll_vals_le ps)
      have hna := not_mem_of_deeper rd (by simp only [PyData.depth]; omega) hb
      refine ⟨_, ReadAtMost.cons rd (by simp only [PyData.depth]; omega) hb, ?_⟩
      simp only [PyData.depth, PyData.shown, PyData.shownKv_eq]
      exact ReprK.dict h4 h5 h6 hsys hna (ReprEntriesK.of_two es.toList _ _ (kk.more_le (fun b hb => by simp at hb) (Nat.zero_le _)) (hk2.more_le (fun b hb => hb) (PyData.depthAll_vals_le ps)))
theorem Dz.showAll (I : Inv X pins σ H s) : ∀ (ds : List PyData) (vs : List V) (us : List Value), DzAll X.K H vs ds → Vals vs us → PyData.showableAll ds = true → (∀ t ∈ PyData.shownAll ds, t.length ≤ sizeLine) →
    ∃ bs, ReadAtMost s.heap (PyData.depthAll ds) bs ∧ ReprAllK X.prog X.w bs s.heap (PyData.depthAll ds) us (PyData.shownAll ds)
  | [], _, _, h, r, _, _ => by
    cases h
    cases r
    exact ⟨[], (fun _ h => nomatch h), .nil⟩
  | d :: ds, _, _, h, r, hs, hz => by
    cases h with
    | cons h1 h2 =>
      cases r with
      | cons r1 r2 =>
        have hs' : d.showable = true ∧ PyData.showableAll ds = true := by simpa [PyData.showableAll] using hs
        obtain ⟨b1, hb1, k1⟩ := Dz.show_ I d _ _ h1 r1 hs'.1 (hz _ (by simp only [PyData.shownAll]; exact List.mem_cons_self ..))
        obtain ⟨b2, hb2, k2⟩ := Dz.showAll I ds _ _ h2 r2 hs'.2 (fun t ht => hz t (by simp only [PyData.shownAll]; exact List.mem_cons_of_mem _ ht))
        refine ⟨b1 ++ b2, (hb1.mono (by simp only [PyData.depthAll]; exact Nat.le_max_left _ _)).append (hb2.mono (by simp only [PyData.depthAll]; exact Nat.le_max_right _ _)), ?_⟩
        simp only [PyData.depthAll, PyData.shownAll]
        exact .cons ((k1.more fun b hb => List.mem_append_left _ hb).level_le (Nat.le_max_left _ _)) (k2.more_le (fun b hb => List.mem_append_right _ hb) (Nat.le_max_right _ _))
theorem Dz.showKv (I : Inv X pins σ H s) : ∀ (ps : List (PyData × PyData)) (vs : List V) (us : List Value), DzAll X.K H vs (ps.map (·.2)) → Vals vs us → PyData.showableAll (ps.map (·.2)) = true → (∀ t ∈ PyData.shownAll (ps.map (·.2)), t.length ≤ sizeLine) →
    ∃ bs, ReadAtMost s.heap (PyData.depthAll (ps.map (·.2))) bs ∧ ReprAllK X.prog X.w bs s.heap (PyData.depthAll (ps.map (·.2))) us (PyData.shownAll (ps.map (·.2)))
  | [], _, _, h, r, _, _ => by
    cases h
    cases r
    exact ⟨[], (fun _ h => nomatch h), .nil⟩
  | (k, d) :: ds, _, _, h, r, hs, hz => by
    cases h with
    | cons h1 h2 =>
      cases r with
      | cons r1 r2 =>
        have hs' : d.showable = true ∧ PyData.showableAll (ds.map (·.2)) = true := by simpa [PyData.showableAll] using hs
        obtain ⟨b1, hb1, k1⟩ := Dz.show_ I d _ _ h1 r1 hs'.1 (hz _ (by simp only [List.map_cons, PyData.shownAll]; exact List.mem_cons_self ..))
        obtain ⟨b2, hb2, k2⟩ := Dz.showKv I ds _ _ h2 r2 hs'.2 (fun t ht => hz t (by simp only [List.map_cons, PyData.shownAll]; exact List.mem_cons_of_mem _ ht))
        refine ⟨b1 ++ b2, (hb1.mono (by simp only [List.map_cons, PyData.depthAll]; exact Nat.le_max_left _ _)).append (hb2.mono (by simp only [List.map_cons, PyData.depthAll]; exact Nat.le_max_right _ _)), ?_⟩
        simp only [List.map_cons, PyData.depthAll, PyData.shownAll]
        exact .cons ((k1.more fun b hb => List.mem_append_left _ hb).level_le (Nat.le_max_left _ _)) (k2.more_le (fun b hb => List.mem_append_right _ hb) (Nat.le_max_right _ _))
end
end
/-- data that repr takes -/
def FitZ (d : PyData) : Prop := d.showable = true ∧ d.depth ≤ 100 ∧ d.shown.length ≤ sizeLine
theorem fitZ_of {d : PyData} (h : Fits d) : FitZ d := by
  have hl := h.len
  obtain ⟨B, D, W, sm, _, hD, _⟩ := h
  exact ⟨sm.show_, Nat.le_trans sm.dep hD, hl⟩
def rReprZ (K : PySem.W.Frag) : List V → Hp → VK → Prop := fun xs H Q => ∃ (x : V) (d : PyData), xs = [x] ∧ Dz K H x d ∧ FitZ d ∧ Q (.str d.shown) H
theorem call_reprZ {X : Cx} (hg : X.A.guards = some []) (hu : X.A.units + 200 < cLine) : CallR X (.builtin "repr") (rReprZ X.K) := by
  intro pins s σ H xs us Q I r h
  obtain ⟨x, d, rfl, hd, ⟨hs, hD, hl⟩, q⟩ := h
  obtain ⟨u, rfl, rx⟩ := vals1 r
  have fin : ∀ tk' tk, EP X pins σ Q (.str d.shown tk) { s with toks := tk' } := fun tk' tk => ⟨.str _, H, I.tok _, ⟨_, rfl⟩, q⟩
  have finH : ∀ h' u tk, (∀ b o, s.heap.get? b = some o → h'.get? b = some o) → EP X pins σ Q (.str d.shown u) { s with heap := h', toks := tk } := fun h' u tk k => ⟨.str _, H, I.un (Un.kept k) (I.hok.kept k), ⟨_, rfl⟩, q⟩
  have hd0 := hd
  cases hd with
  | non =>
    obtain rfl : u = Value.none := rx
    exact PySem.P.repr_of_none (fin _ _)
  | bl b =>
    obtain rfl : u = Value.bool b := rx
    exact PySem.P.repr_of_bool (fin _ _)
  | int i =>
    obtain ⟨t, rfl⟩ := rx
    exact PySem.P.repr_of_int (of_decide_eq_true hs) (fin _ _)
  | str y =>
    obtain ⟨t, rfl⟩ := rx
    exact PySem.P.repr_of_str (fin _ _) hl
  | lst hq ha =>
    rename_i a xs ds
    obtain rfl : u = Value.ref a := rx
    obtain ⟨its, rv, ⟨o, n, ho, hc, _, hda⟩, _⟩ := I.list hq
    obtain ⟨as, hr⟩ := Dz.readsAll I ds _ its ha rv
    have hz' : (listText (PyData.shownAll ds)).length ≤ sizeLine := hl
    obtain ⟨bs, hb, hk⟩ := Dz.showAll I ds _ its ha rv (by simpa [PyData.showable] using hs) (fun t ht => Nat.le_trans (listText_mem_le ht) hz')
    have rd := Reads.list ho hc hda hr
    have hna := not_mem_of_deeper rd (by simp only [PyData.depth]; omega) hb
    simp only [PyData.depth] at hD
    refine PySem.call_repr_slot (by omega) ⟨o, ho, hc⟩ F.slot_list_repr.toG ?_
    cases its with
    | nil =>
      cases hr
      simp only [PyData.shown, PyData.shownAll, listText_nil] at finH
      exact call_list_repr_empty ⟨o, ho, hc⟩ ho hda ⟨_, _, rfl, finH s.heap _ _ fun _ _ e => e⟩
    | cons x l =>
      exact call_list_reprK ho hc hda hna (by simpa using hk.length_eq) (fun i y e => hk.item i y (by simpa using e)) hg (fun b _ => Clear.nil b) (by show X.A.units + 1 + (PyData.depthAll ds + 1) < cLine; omega) (fun _ _ e => e) (fun h' u tk k => ⟨_, _, rfl, finH h' u tk k⟩) hz'
  | tup hq ha =>
    rename_i a xs ds
    obtain rfl : u = Value.ref a := rx
    obtain ⟨its, rv, ⟨o, ho, hc, n, hda⟩, _⟩ := I.tuple hq
    obtain ⟨as, hr⟩ := Dz.readsAll I ds _ its ha rv
    have hz' : (tupleText (PyData.shownAll ds)).length ≤ sizeLine := hl
    obtain ⟨bs, hb, hk⟩ := Dz.showAll I ds _ its ha rv (by simpa [PyData.showable] using hs) (fun t ht => Nat.le_trans (tupleText_mem_le ht) hz')
    have rd := Reads.tuple ho hc hda hr
    have hna := not_mem_of_deeper rd (by simp only [PyData.depth]; omega) hb
    simp only [PyData.depth] at hD
    refine PySem.call_repr_slot (by omega) ⟨o, ho, hc⟩ F.slot_tuple_repr ?_
    exact call_tuple_reprK ho hc hda hna hk hg (fun b _ => Clear.nil b) (by show X.A.units + 1 + (PyData.depthAll ds + 1) < cLine; omega) (fun _ _ e => e) (fun h' u tk k => ⟨_, _, rfl, finH h' u tk k⟩) hz'
  | dct h1 h2 h3 =>
    rename_i a kvs ps
    obtain rfl : u = Value.ref a := rx
    obtain ⟨hsys, vs, o, es, ep, k1, k2, h4, h5, h6, h7⟩ := dct_at I h1
    have hz' : (dictText (PyData.shownKv ps)).length ≤ sizeLine := hl
    obtain ⟨hs1, hs2⟩ := PyData.showableKv_split ps (by simpa [PyData.showable] using hs)
    have ek : ps.map (·.1) = vs.map fun p => kD p.1 := by
      rw [h2, show (fun p : Key × V => kD p.1) = kD ∘ (·.1) from rfl, ← List.map_map, k1, List.map_map]
      rfl
    have kk := keys_show (h := s.heap) h7 ek hs1 (fun t ht => let ⟨p, hp, hl⟩ := PyData.shownKv_key_le ps t ht; Nat.le_trans hl (Nat.le_trans (dictText_mem_le hp) hz'))
    obtain ⟨b2, hb2, hk2⟩ := Dz.showKv I ps _ _ h3 k2 hs2 (fun t ht => let ⟨p, hp, hl⟩ := PyData.shownKv_val_le ps t ht; Nat.le_trans hl (Nat.le_trans (dictText_mem_le hp) hz'))
    rw [← pairs_vals h7] at hk2
    obtain ⟨as, rd⟩ := Dz.reads I (.dict ps) _ _ hd0 rfl
    have hb : ReadAtMost s.heap (PyData.depthKv ps) b2 := hb2.mono (PyData.depthAll_vals_le ps)
    have hna := not_mem_of_deeper rd (by simp only [PyData.depth]; omega) hb
    simp only [PyData.depth] at hD
    simp only [PyData.shown, PyData.shownKv_eq] at finH
    refine PySem.call_repr_slot (by omega) ⟨o, h4, h5⟩ F.slot_dict_repr ?_
    exact call_dict_reprK h4 h5 h6 hsys hna (ReprEntriesK.of_two es.toList _ _ (kk.more_le (fun b hb => by simp at hb) (Nat.zero_le _)) (hk2.more_le (fun b hb => hb) (PyData.depthAll_vals_le ps))) hg (fun b _ => Clear.nil b) (by show X.A.units + 1 + (PyData.depthKv ps + 1) < cLine; omega) (fun _ _ e => e) (fun h' u tk k => ⟨_, _, rfl, finH h' u tk k⟩) (by rw [← PyData.shownKv_eq]; exact hz')
end Wn
/-! a list backwards: xs[::-1] -/
namespace Wn
open PySem PySem.Spec PyProof.Rows L2
theorem pick_rev (us : List Value) : slicePick us.toArray none none (some (-1)) = us.reverse.toArray := by
  have e : sliceBounds none none (some (-1)) us.toArray.size = (((us.length : Int) - 1), (-1 : Int), (-1 : Int)) := by
    simp [sliceBounds]
  unfold slicePick
  rw [e]
  show (List.filterMap (fun i => us.toArray[i]?) (sliceRange ((us.length : Int) - 1) (-1) (-1))).toArray = _
  congr 1
  have e2 : sliceRange ((us.length : Int) - 1) (-1) (-1) = (List.range us.length).map fun i => us.length - 1 - i := by
    unfold sliceRange
    have c : (if (-1 : Int) > 0 then (if ((us.length : Int) - 1) < -1 then ((-1) - ((us.length : Int) - 1) + (-1) - 1) / (-1) else 0) else (if ((us.length : Int) - 1) > -1 then (((us.length : Int) - 1) - (-1) - (-1) - 1) / (-(-1)) else 0)).toNat = us.length := by
      rw [if_neg (by decide)]
      by_cases z : ((us.length : Int) - 1) > -1
      · rw [if_pos z, show (-(-1 : Int)) = 1 from rfl, Int.ediv_one]
        omega
      · rw [if_neg z]
        omega
    dsimp only
    rw [c]
    apply List.map_congr_left
    intro i hi
    have := List.mem_range.mp hi
    omega
  rw [e2, List.filterMap_map]
  apply List.ext_getElem?
  intro i
  have key : ∀ n, n ≤ us.length → (List.filterMap ((fun i => us.toArray[i]?) ∘ fun i => us.length - 1 - i) (List.range n)) = us.reverse.take n := by
    intro n
    induction n with
    | zero => intro _; rfl
    | succ n ih =>
      intro hn
      rw [List.range_succ, List.filterMap_append, ih (by omega), List.take_succ_eq_append_getElem (by rw [List.length_reverse]; omega), List.getElem_reverse]
      refine congrArg (fun z => us.reverse.take n ++ z) ?_
      show List.filterMap (fun i => us.toArray[us.length - 1 - i]?) [n] = _
      rw [List.filterMap_cons]
      have : us.toArray[us.length - 1 - n]? = some us[us.length - 1 - n] := by
        rw [List.getElem?_toArray, List.getElem?_eq_getElem]
      rw [this]
      rfl
  rw [key us.length (Nat.le_refl _), List.take_of_length_le (by rw [List.length_reverse]; exact Nat.le_refl _)]
def rRvL (K : PySem.W.Frag) : V → V → Hp → VK → Prop := fun x y H Q => ∃ (a : Addr) (xs : List V), x = .ref a ∧ y = .int (-1) ∧ SqL K H a xs ∧ ∀ p, H p = none → Q (.ref p) (upd H p (.lst xs.reverse))
variable {X : Cx} {e st : Expr} {te ts : TE} {pos p2 : Pos}
theorem pe_revL {r : R2} (he : PE X e te) (hs : PE X st ts) (hr : r = rRvL X.K := by rfl) : PE X (.Subscript e (.Slice none none (some st) p2) pos) (tStL r te ts) := by
  subst hr
  refine ⟨fun pins s σ H Q I h => ?_⟩
  refine Subscript_ (thn (he.run pins s σ H _ I h) fun v s1 ⟨x, H1, I1, r1, q1⟩ => ?_)
  refine wpAny_Slice ?_
  rw [evalPart_none]
  refine wpAny_pure (wpAny_pure ?_)
  rw [evalPart_some]
  refine thn (hs.run pins s1 σ H1 _ I1 q1) fun vs s3 ⟨y, H3, I3, ry, q3⟩ => ?_
  obtain ⟨a, xs, rfl, rfl, hx, q⟩ := q3
  cases r1
  obtain ⟨t, rfl⟩ := ry
  have I4 : Inv X pins σ H3 { s3 with heap := s3.heap.push { cls := .type "slice", data := .fields #[.none, .none, .int (-1) t] } } := I3.kept (t' := s3.toks) fun b ob q => Heap.get?_push_of_some _ q
  obtain ⟨its, r, ht, hz⟩ := I4.list hx
  have hlen := r.length
  have hg : wpAny (model X.prog X.w) X.A (getItem (.ref a) (.ref s3.heap.objs.size)) (EP X pins σ Q) X.xe { s3 with heap := s3.heap.push { cls := .type "slice", data := .fields #[.none, .none, .int (-1) t] } } := by
    refine wpAny_getItem_list_slice (st := some (-1)) ht.isList (Heap.IsSliceOf.new ..) .none .none (.int _ _) (by intro z; have := Option.some.inj z; omega) ?_ (by rw [List.size_toArray] <;> omega)
    rw [pick_rev its]
    refine ⟨.ref _, _, I4.laid (t' := s3.toks) (o := .lst xs.reverse) (fun b ob q => Heap.get?_push_of_some _ q) (Nat.le_refl _) ?_, rfl, q _ (I4.hok.fresh (Nat.le_refl _))⟩
    exact ⟨by rw [List.length_reverse]; exact hz, _, 0, r.reverse, Heap.get?_push_size _ rfl⟩
  show wpAny (model X.prog X.w) X.A (subscriptTail e (.Slice none none (some st) p2) (.ref a) (.ref s3.heap.objs.size)) (EP X pins σ Q) X.xe { s3 with heap := s3.heap.push { cls := .type "slice", data := .fields #[.none, .none, .int (-1) t] } }
  exact tail_any (ops := [.ref a, .ref s3.heap.objs.size]) ht.isList.typeIs slot_list_getitem.lookup hg (by with_unfolding_all rfl)
end Wn
/-! a tuple backwards: xs[::-1] -/
namespace Wn
open PySem PySem.Spec PyProof.Rows L2 HT
theorem pickT_rev (us : List Value) : ((List.range us.length).filterMap fun (k : Nat) => us.toArray[(((us.length : Int) - 1) + (k : Int) * (-1)).toNat]?).toArray = us.reverse.toArray := by
  congr 1
  have key : ∀ n, n ≤ us.length → (List.filterMap (fun (k : Nat) => us.toArray[(((us.length : Int) - 1) + (k : Int) * (-1)).toNat]?) (List.range n)) = us.reverse.take n := by
    intro n
    induction n with
    | zero => intro _; rfl
    | succ n ih =>
      intro hn
      rw [List.range_succ, List.filterMap_append, ih (by omega), List.take_succ_eq_append_getElem (by rw [List.length_reverse]; omega), List.getElem_reverse]
      refine congrArg (fun z => us.reverse.take n ++ z) ?_
      rw [List.filterMap_cons]
      have e : (((us.length : Int) - 1) + (n : Int) * (-1)).toNat = us.length - 1 - n := by omega
      have : us.toArray[us.length - 1 - n]? = some us[us.length - 1 - n] := by
        rw [List.getElem?_toArray, List.getElem?_eq_getElem]
      rw [e, this]
      rfl
  rw [key us.length (Nat.le_refl _), List.take_of_length_le (by rw [List.length_reverse]; exact Nat.le_refl _)]
section
variable {prog : Program} {w : World} {A : Around} {E : Value → Shared → Prop} {s : Shared}
theorem applied_rev {sl : Addr} {u : Tok} {n : Nat} {Q : Int × Int × Nat → Shared → Prop} (hs : s.heap.IsSliceOf sl .none .none (.int (-1) u)) (h : Q (((n : Int) - 1), -1, n) s) : wpAny (model prog w) A (Builtin.Slice.sliceApplied (.ref sl) (pure (n : Int))) Q E s := by
  obtain ⟨os, hos, hcs, hds⟩ := id hs
  unfold Builtin.Slice.sliceApplied Builtin.Slice.sliceFields
  refine wpAny_bind (wpAny_bind (wpAny_field hos hds (x := .none) rfl (wpAny_bind (wpAny_field hos hds (x := .none) rfl (wpAny_bind (wpAny_field hos hds (x := .int (-1) u) rfl (wpAny_pure ?_)))))))
  refine wpAny_bind (slicePart_int ?_)
  show wpAny _ _ (if ((-1 : Int) == 0) = true then _ else _) _ _ s
  rw [if_neg (by decide)]
  refine wpAny_bind (slicePart_none (wpAny_bind (slicePart_none (wpAny_bind (wpAny_pure ?_)))))
  show wpAny _ _ (pure (((n : Int) - 1), (-1 : Int), Builtin.Slice.slicePlaces ((n : Int) - 1) (-1) (-1))) _ _ s
  have e : Builtin.Slice.slicePlaces ((n : Int) - 1) (-1) (-1) = n := by
    unfold Builtin.Slice.slicePlaces
    rw [if_neg (by decide)]
    by_cases z : ((n : Int) - 1) > -1
    · rw [if_pos z, show (-(-1 : Int)) = 1 from rfl, Int.ediv_one]
      omega
    · rw [if_neg z]
      omega
  rw [e]
  exact wpAny_pure h
theorem getItem_tuple_rev {t sl : Addr} {items : List Value} {u : Tok} {Q : Value → Shared → Prop} (ht : IsTup s.heap t items.toArray) (hs : s.heap.IsSliceOf sl .none .none (.int (-1) u))
    (h : Q (.ref s.heap.objs.size) { s with heap := s.heap.push { cls := .type "tuple", data := .seq items.reverse.toArray } }) (hsz : items.length ≤ sizeLine) : wpAny (model prog w) A (getItem (.ref t) (.ref sl)) Q E s := by
  have hok : sizeOk (.seq items.reverse.toArray) := by
    show items.reverse.toArray.size ≤ sizeLine
    rw [List.size_toArray, List.length_reverse]
    exact hsz
  obtain ⟨os, hos, hcs, hds⟩ := id hs
  have hTs : s.TypeIs (.ref sl) "slice" := ⟨os, hos, hcs⟩
  unfold getItem
  try with_reducible refine wpAny_holding ?_
  first | refine wpAny_bind (wpAny_pure ?_) | skip
  refine wpAny_bind (wpAny_sequenceKey ht.typeIs (by decide) ?_)
  refine wpAny_bind (wpAny_callSpecial?_slot (name := Str.ofString "__getitem__") ht.typeIs PyProof.Rows.slot_tuple_getitem
    (wpAny_call_entry PyProof.Rows.slot_tuple_getitem ht.typeIs entry_tuple_getitem ?_ (args_tuple_getitem _ _)))
  show wpAny _ _ (Builtin.Tuple.tupleItemsOf (.ref t) >>= _) _ _ s
  refine wpAny_bind (tupleItemsOf_ ht ?_)
  refine wpAny_bind (wpAny_typeOf hTs ?_)
  rw [if_pos (by decide)]
  have e0 : items.toArray.size = items.length := List.size_toArray
  rw [e0]
  refine wpAny_bind (applied_rev hs ?_)
  have hno : ¬ ((((items.length : Int) - 1) == 0 && (-1 : Int) == 1 && items.length == items.length) = true) := by
    intro q
    rw [Bool.and_eq_true, Bool.and_eq_true] at q
    exact absurd q.1.2 (by decide)
  show wpAny _ _ (if (((items.length : Int) - 1) == 0 && (-1 : Int) == 1 && items.length == items.length) = true then _ else _) _ _ s
  rw [if_neg hno, pickT_rev]
  first
    | exact wpAny_bind (m := Builtin.Tuple.tupleExact _) (wpAny_newObj_type (wpAny_pure ⟨_, rfl, wpAny_pure h⟩) hok)
    | exact wpAny_bind (m := Builtin.Tuple.tupleExact _) (wpAny_newObj_type (wpAny_bind (wpAny_pure (wpAny_pure ⟨_, rfl, wpAny_pure h⟩))) hok)
    | exact wpAny_bind (wpAny_bind (m := Builtin.Tuple.tupleExact _) (wpAny_newObj_type (wpAny_pure (wpAny_pure ⟨_, rfl, wpAny_pure h⟩)) hok))
    | exact wpAny_bind (wpAny_bind (m := Builtin.Tuple.tupleExact _) (wpAny_newObj_type (wpAny_pure ⟨_, rfl, wpAny_pure h⟩) hok))
end
def rRvT (K : PySem.W.Frag) : V → V → Hp → VK → Prop := fun x y H Q => ∃ (a : Addr) (xs : List V), x = .ref a ∧ y = .int (-1) ∧ SqT K H a xs ∧ ∀ p, H p = none → Q (.ref p) (upd H p (.tup xs.reverse))
variable {X : Cx} {e st : Expr} {te ts : TE} {pos p2 : Pos}
theorem pe_revT {r : R2} (he : PE X e te) (hs : PE X st ts) (hr : r = rRvT X.K := by rfl) : PE X (.Subscript e (.Slice none none (some st) p2) pos) (tStL r te ts) := by
  subst hr
  refine ⟨fun pins s σ H Q I h => ?_⟩
  refine Subscript_ (thn (he.run pins s σ H _ I h) fun v s1 ⟨x, H1, I1, r1, q1⟩ => ?_)
  refine wpAny_Slice ?_
  rw [evalPart_none]
  refine wpAny_pure (wpAny_pure ?_)
  rw [evalPart_some]
  refine thn (hs.run pins s1 σ H1 _ I1 q1) fun vs s3 ⟨y, H3, I3, ry, q3⟩ => ?_
  obtain ⟨a, xs, rfl, rfl, hx, q⟩ := q3
  cases r1
  obtain ⟨t, rfl⟩ := ry
  have I4 : Inv X pins σ H3 { s3 with heap := s3.heap.push { cls := .type "slice", data := .fields #[.none, .none, .int (-1) t] } } := I3.kept (t' := s3.toks) fun b ob q => Heap.get?_push_of_some _ q
  obtain ⟨its, r, ht, hz⟩ := I4.tuple hx
  have hlen := r.length
  have hg : wpAny (model X.prog X.w) X.A (getItem (.ref a) (.ref s3.heap.objs.size)) (EP X pins σ Q) X.xe { s3 with heap := s3.heap.push { cls := .type "slice", data := .fields #[.none, .none, .int (-1) t] } } := by
    refine getItem_tuple_rev ht (Heap.IsSliceOf.new ..) ?_ (by omega)
    refine ⟨.ref _, _, I4.laid (t' := s3.toks) (o := .tup xs.reverse) (fun b ob q => Heap.get?_push_of_some _ q) (Nat.le_refl _) ?_, rfl, q _ (I4.hok.fresh (Nat.le_refl _))⟩
    exact ⟨by rw [List.length_reverse]; exact hz, _, r.reverse, IsTup.new _ _⟩
  show wpAny (model X.prog X.w) X.A (subscriptTail e (.Slice none none (some st) p2) (.ref a) (.ref s3.heap.objs.size)) (EP X pins σ Q) X.xe { s3 with heap := s3.heap.push { cls := .type "slice", data := .fields #[.none, .none, .int (-1) t] } }
  exact tail_any (ops := [.ref a, .ref s3.heap.objs.size]) ht.typeIs PyProof.Rows.slot_tuple_getitem.lookup hg (by with_unfolding_all rfl)
end Wn
/-! errors of one's own, over any built-in one: made, kept as values, looked at -/
namespace Wn
open PySem PySem.Spec PyProof.Rows L2
/-! the first store to such an error -/
section
open PySem.W PySem.HandSPX Builtin Builtin.ObjectAttr
variable {prog : Program} {w : World} {A : Around} {E : Value → Shared → Prop} {s : Shared} {K : PySem.W.Frag} {C : Addr} {B : String} {bmB : List Value}
theorem osa_one {x t : Addr} {name : Str} {tk : Tok} {v : Value} {R : Result → Shared → Prop} (SF : StoreFacts B bmB "object.__setattr__" "object") (X : K.In s.heap) (hx : s.heap.get? x = some (PySem.W.excObj C t none .none))
    (hp : PySem.W.excOver K C bmB = true) (ht : PySem.W.takerIn K C name = some none) (hh : PySem.W.hasDictIn K C = true)
    (h : ∀ dx h' tk', (∀ b o, b ≠ x → s.heap.get? b = some o → h'.get? b = some o) → s.heap.objs.size ≤ dx → dx ≠ x → h'.get? x = some (PySem.W.excObj C t (some dx) .none) → h'.Ns1 dx (fun y => if y = name then some v else none) → R (.ok (.ret .none)) { s with heap := h', toks := tk' }) :
    codeAny (model prog w) A (.call (.builtin "object.__setattr__") ⟨[.ref x, .str name tk, v], []⟩) R s := by
  have hlt := Heap.lt_size hx
  have hne : s.heap.objs.size ≠ x := Nat.ne_of_gt hlt
  refine osa_openX (od := none) SF X ⟨hx, rfl, rfl, trivial⟩ hp ht fun b => ?_
  obtain ⟨cd, hc, hd⟩ := any_some hh
  refine wpAny_bind (wpAny_pure (wpAny_bind (instanceDict_exc hx (looks_clsIn X hc) hd ?_)))
  have e1 : (s.heap.push (dictOf [] 0)).get? x = some (PySem.W.excObj C t none .none) := Heap.get?_push_of_some _ hx
  obtain ⟨G, hG⟩ : ∃ G, G = (s.heap.push (dictOf [] 0)).update x (fun o => { o with dict := some s.heap.objs.size }) := ⟨_, rfl⟩
  have gx : G.get? x = some (PySem.W.excObj C t (some s.heap.objs.size) .none) := by
    rw [hG]
    exact Heap.get?_update_self _ e1 rfl
  have go : ∀ b, b ≠ x → G.get? b = (s.heap.push (dictOf [] 0)).get? b := fun b hb => by
    rw [hG]
    exact Heap.get?_update_ne _ _ _ _ hb
  have gd : G.Ns s.heap.objs.size (fun _ => none) := by
    refine ⟨_, #[], 0, (go _ hne).trans (Heap.get?_push_size _ rfl), rfl, fun e he => ?_, fun _ => rfl⟩
    exact absurd he (by simp)
  rw [← hG]
  show wpAny (model prog w) A.in1 (storeInDict s.heap.objs.size (.str name tk) name v) _ _ { s with heap := G }
  obtain ⟨hp0, g, d, tt, os⟩ := s
  refine store_in_new gd fun h' tk' hn hs => ?_
  refine h _ h' tk' (fun b o hb e => ?_) (Nat.le_refl _) hne ((hs.2 x hne.symm).trans gx) hn
  have hbs : b ≠ hp0.objs.size := Nat.ne_of_lt (Heap.lt_size e)
  exact (hs.2 b hbs).trans ((go b hb).trans (Heap.get?_push_of_some _ e))
end
/-- what the text says of an error's class: C, over the built-in B, with the field f and its own __init__ at fI -/
structure ErrC (K : PySem.W.Frag) (C fI : Addr) (f : Str) (B newId initId : String) (bmB : List Value) : Prop where
  F : ExcBaseFacts B newId initId bmB
  SF : StoreFacts B bmB "object.__setattr__" "object"
  ini : PySem.W.excInitIn K C bmB newId = true
  ov : PySem.W.excOver K C bmB = true
  hd : PySem.W.hasDictIn K C = true
  sa : PySem.W.findIn K (.ref C) "__setattr__" = some (some (.builtin "object.__setattr__"))
  exC : PySem.W.subIn K (.ref C) (.type "BaseException") = some true
  tyC : PySem.W.typeIn K (.ref C) = some (.type "type")
  kC : PySem.W.keepIn K (.ref C) = true
  tk : PySem.W.takerIn K C f = some none
  no : PySem.W.findIn K (.ref C) f = some none
  iC : PySem.W.findIn K (.ref C) "__init__" = some (some (.ref fI))
  tI : PySem.W.typeIn K (.ref fI) = some (.type "function")
  ga : PySem.W.findIn K (.ref C) "__getattribute__" = some (some (.builtin "BaseException.__getattribute__"))
  gg : PySem.W.findIn K (.ref C) "__getattr__" = some none
  ha : PySem.W.findIn K (.ref C) "__class__" = some (some (.builtin "object.__class__"))
  mr : PySem.W.mroIn K C (.type "object") = some true
section
variable {X : Cx} {pins : List (Addr × Obj)} {σ : L2.St} {H : Hp} {s : Shared} {a C fI dx : Addr} {f : Str} {y : V} {u : Value} {B newId initId : String} {bmB : List Value} {A : Around} {E : Value → Shared → Prop}
theorem ErrC.xf {K : PySem.W.Frag} (T : ErrC K C fI f B newId initId bmB) : XfC K C := ⟨T.ga, T.gg, T.exC, T.hd⟩
/-- self.f = y, the first one -/
theorem ostE {Q : Unit → Shared → Prop} (T : ErrC X.K C fI f B newId initId bmB) (I : Inv X pins σ H s) (e : H a = some (exo a C none)) (ry : RelV y u)
    (h : ∀ dx s', H dx = none → dx ≠ a → Inv X pins σ (upd (upd H dx (exd dx [(f, y)])) a (exo a C (some dx))) s' → Q () s') : wpAny (model X.prog X.w) A (setAttr (.ref a) f u) Q E s := by
  obtain ⟨t1, ho⟩ := exo_at I.hok e
  refine PySem.W.set_plain I.kIn (od := none) ⟨ho, rfl, rfl, trivial⟩ T.sa ?_
  refine osa_one (s := { s with toks := s.toks + 1 }) T.SF I.kIn ho T.ov T.tk T.hd fun d2 G tk2 keep lo ne gx gn => ?_
  have free2 : H d2 = none := I.hok.fresh lo
  have lt2 : ∀ {b : Addr} {o : Obj}, s.heap.get? b = some o → b ≠ d2 := fun z => Nat.ne_of_lt (Nat.lt_of_lt_of_le (Heap.lt_size z) lo)
  have nA : ∀ {b : Addr}, H b = none → b ≠ a := fun z w => by
    rw [w, e] at z
    cases z
  have un : Un X.fs [] H (upd (upd H d2 (exd d2 [(f, y)])) a (exo a C (some d2))) s.heap G := by
    constructor
    · exact fun b o q n _ _ => keep b o (nA n) q
    · exact fun b o q n _ _ => ⟨o.slots, keep b o (nA n) q⟩
    · intro b o q n _
      rw [upd_ne (nA n), upd_ne (lt2 q)]
      exact n
    · intro b o q _
      by_cases w : b = a
      · subst w
        exact ⟨_, gx⟩
      · exact ⟨o, keep b o w q⟩
    · intro b xs q
      rw [upd_ne (at_ne e q exo_tup), upd_ne (ne_of_none q free2)]
      exact q
    · intro b o v q
      rw [upd_ne (at_ne e q exo_frz), upd_ne (ne_of_none q free2)]
      exact q
    · intro b ps q
      refine ⟨#[], ?_⟩
      rw [upd_ne (at_ne e q exo_tbl), upd_ne (ne_of_none q free2), q]
      simp
  refine h d2 _ free2 ne (I.un (t' := tk2) un fun b o q => ?_)
  by_cases w : b = a
  · subst w
    rw [upd_same] at q
    cases q
    exact exo_ok gx
  rw [upd_ne w] at q
  by_cases w2 : b = d2
  · subst w2
    rw [upd_same] at q
    cases q
    exact exd_ok gn (relO_put (fs := []) ry fun g => True.intro)
  rw [upd_ne w2] at q
  refine (I.hok b o q).stay (fun c v hc z => keep c v ?_ z) (fun c hc => ?_) (fun c xs hc => ?_)
  · rcases hc with hc | hc
    · rw [hc]
      exact w
    · exact at_ne e hc exo_own
  · rw [upd_ne (at_ne e hc exo_own), upd_ne (ne_of_none hc free2)]
    exact hc
  · rw [upd_ne (at_ne e hc exo_tup), upd_ne (ne_of_none hc free2)]
    exact hc
/-- the built-in's __init__: nothing of it is told -/
theorem oinitE {us : List Value} {Q : Value → Shared → Prop} (T : ErrC X.K C fI f B newId initId bmB) (I : Inv X pins σ H s) (e : H a = some (exo a C none)) (hl : us.length ≤ sizeLine) (h : ∀ s', Inv X pins σ H s' → Q .none s') :
    wpAny (model X.prog X.w) A (call (.builtin initId) (.ref a :: us)) Q E s := by
  obtain ⟨t1, ho⟩ := exo_at I.hok e
  obtain ⟨nm, N, qn, bs, bm, hdct, sn, sub, ab, col, dd, k0, k1, k2, k3, k5, hC, hT⟩ := PySem.W.excInit_of I.kIn T.ini
  obtain ⟨hp, g, d, t, os⟩ := s
  refine wpAny_call (PySem.HandSPX.init_base T.F hT hC ho hl fun G t2 k gx => ?_)
  have J := I.write (t' := t) (x := a) (e := a) (o := exo a C none) (by rw [e]; exact True.intro) (.inl rfl) k ⟨_, gx⟩ (exo_ok gx)
  rw [show upd H a (exo a C none) = H from funext fun b => by
    by_cases w : b = a
    · rw [w, upd_same, e]
    · rw [upd_ne w]] at J
  exact h _ J
end
/-- W.__init__(self, ..), W one's own class or a built-in one -/
def tInitE (K : PySem.W.Frag) (C : Addr) (ta : TA) : TE := fun σ H Q => ta σ H fun vs H1 => ∃ (a : Addr) (ws : List V), vs = .ref a :: ws ∧ ws.length ≤ 1000 ∧ H1 a = some (exo a C none) ∧ Q .non H1
/-- self.f = e -/
def tOstE (K : PySem.W.Frag) (C : Addr) (f : Str) (to te : TE) : TS := fun D σ H => te σ H fun y H1 => to σ H1 fun x H2 => ∃ a : Addr, x = .ref a ∧ H2 a = some (exo a C none) ∧ ∀ dx, H2 dx = none → dx ≠ a → D.nx σ (upd (upd H2 dx (exd dx [(f, y)])) a (exo a C (some dx)))
section
variable {X : Cx} {o e : Expr} {es : List Expr} {to te : TE} {ta : TA} {f : Str} {p p' p1 p2 pos : Pos} {C fI W : Addr} {B newId initId : String} {bmB : List Value} {mc : Value} {wn : Str}
theorem call_initE {pl : Sem Bool} (T : ErrC X.K C fI f B newId initId bmB) (ha : PA X (e :: es) ta) {pins : List (Addr × Obj)} {s : Shared} {σ : L2.St} {H : Hp} {Q : VK} (I : Inv X pins σ H s) (h : tInitE X.K C ta σ H Q)
    (he : starEach (e :: es) X.env = (false, eval e X.env) :: starEach es X.env := by rfl) (hpl : (backTo pos (starEach es X.env)).any (·.1) = false := by rfl) :
    wpAny (model X.prog X.w) X.A (callWith pos (Value.builtin initId) [] (backTo pos (starEach (e :: es) X.env)) []) (EP X pins σ Q) X.xe s := by
  refine PyProof.Rows.callWith_method1 (thn (ha.run pos pins s σ H _ I h) fun us s1 ⟨vs, H1, I1, r1, a, ws, ev, hl, ea, q⟩ => ?_) he hpl
  subst ev
  cases r1 with
  | @cons _ u0 _ ur ra rw' =>
    obtain rfl : u0 = Value.ref a := ra
    have hlen : ur.length ≤ sizeLine := by
      rw [← Paired.length rw', sizeLine_eq]
      omega
    exact oinitE T I1 ea hlen fun s' J => ⟨.non, H1, J, rfl, q⟩
/-- a class of one's own: its name holds W, whose __init__ is the built-in's -/
theorem pe_initW {pl : Sem Bool} (T : ErrC X.K C fI f B newId initId bmB) (hg : Gl X wn) (hm : X.mg wn = some (.ref W)) (r : ClX.CRead X.K W mc) (at_ : PySem.W.findCls X.K (.ref W) mc "__init__" = some (.val (.builtin initId))) (hh : PySem.W.handedIn (.builtin initId) = true) (ha : PA X (e :: es) ta)
    (hc : eval (.Call (.Attribute (.Name wn p1) "__init__" p2) (e :: es) [] pos) X.env = (do
      let ov ← eval (.Name wn p1) X.env
      standAt p2.atName
      let (f, first) ← holding [ov] (getMethod ov "__init__" pl)
      callWith pos f first (backTo pos (starEach (e :: es) X.env)) (backToKw pos (keywordEach [] X.env))) := by rfl)
    (hdb : (wn == ("__debug__" : Str)) = false := by decide)
    (he : starEach (e :: es) X.env = (false, eval e X.env) :: starEach es X.env := by rfl) (hpl : (backTo pos (starEach es X.env)).any (·.1) = false := by rfl) :
    PE X (.Call (.Attribute (.Name wn p1) "__init__" p2) (e :: es) [] pos) (tInitE X.K C ta) := by
  refine ⟨fun pins s σ H Q I h => ?_⟩
  refine PySem.W.methodCall_KW (ld_glob I hg hm ?_ hdb) hc
  refine PySem.W.method_cls I.kIn r.ga ?_
  refine PySem.W.cls_value I.kIn r.rd at_ hh ?_
  show wpAny _ _ (callWith pos (Value.builtin initId) [] (backTo pos (starEach (e :: es) X.env)) []) _ _ _
  exact call_initE (pl := pl) T ha (I.tok _) h he hpl
end
end Wn
namespace Wn
open PySem PySem.Spec PyProof.Rows L2
/-! C(e): the error made by its own __init__, which keeps sp -/
section
variable {X : Cx} {e : Expr} {es : List Expr} {ta : TA} {f : Str} {p pos : Pos} {C fI : Addr} {B newId initId : String} {bmB : List Value}
theorem pmkE {CX : CXT} {x : Str} {k : Nat} {fd : FuncData} {ps : List Str} {sp : Sp} (T : ErrC X.K C fI f B newId initId bmB) (F1 : FnOk X.prog X.w X.K X.mg X.base CX k fI fd ps sp) (hr : Room (k + 1) X.A) (hb : Binds X.K fd ps []) (hx : Passes CX X (fun _ _ _ => False))
    (hg : Gl X x) (hm : X.mg x = some (.ref C)) (ha : PA X (e :: es) ta)
    (hdb : (x == ("__debug__" : Str)) = false := by decide) (he : starEach (e :: es) X.env = (false, eval e X.env) :: starEach es X.env := by rfl) (hpl : (backTo pos (starEach es X.env)).any (·.1) = false := by rfl) :
    PMk X (.Call (.Name x p) (e :: es) [] pos) (tMkO C sp [] ta) := by
  intro pins s σ H Q I h
  refine wpAny_Call_Name_kw (ld_glob I hg hm ?_ hdb)
  refine PySem.W.callWith_K (h₀ := X.base) I.ok.mod.kin T.kC (thn (ha.run pos pins s σ H _ I h) fun us s1 hh => ?_) he hpl
  obtain ⟨vs, H1, I1, r1, hz, q1⟩ := hh
  refine ⟨I1.kIn, ?_⟩
  show wpAny _ _ (call (.ref C) us) _ _ _
  obtain ⟨nm, N, qn, bs, bm, hdct, sn, sub, ab, col, dd, k0, k1, k2, k3, k5, hC, hT⟩ := PySem.W.excInit_of I1.kIn T.ini
  obtain ⟨h0, g, dr, tk, os⟩ := s1
  obtain ⟨a, haa⟩ : ∃ a, a = h0.objs.size + 1 := ⟨_, rfl⟩
  have lo : h0.objs.size ≤ a := by rw [haa]; exact Nat.le_succ _
  have fresh : H1 a = none := I1.hok.fresh lo
  obtain ⟨G, hG⟩ : ∃ G, G = (h0.push (PySem.W.kdv_tup us)).push (PySem.HandSPX.excO C h0.objs.size) := ⟨_, rfl⟩
  have keep : ∀ b o, h0.get? b = some o → G.get? b = some o := fun b o z => by
    rw [hG]
    exact Heap.get?_push_of_some _ (Heap.get?_push_of_some _ z)
  have gA : G.get? a = some (PySem.HandSPX.excO C h0.objs.size) := by
    rw [hG, haa]
    heap_get
  have I2 : Inv X pins σ (upd H1 a (exo a C none)) ⟨G, g, dr, tk, os⟩ := I1.laid (t' := tk) (a := a) (o := exo a C none) (h' := G) keep lo (exo_ok gA)
  have want := q1 a fresh
  have r2 : Vals (V.ref a :: (vs ++ [])) (Value.ref a :: us) := .cons rfl (by rw [List.append_nil]; exact r1)
  have cnt : (Value.ref a :: us ++ []).length = ps.length := by
    rw [← F1.len _ _ _ _ want, List.append_nil]
    exact r2.length.symm
  have b2 := hb ⟨G, g, dr, tk, os⟩ (Value.ref a :: us) I2.kIn cnt
  rw [List.append_nil] at b2
  have few : us.length ≤ sizeLine := by
    rw [← Paired.length r1, sizeLine_eq]
    omega
  refine wpAny_call (PySem.HandSPX.call_own T.F hT hC (PySem.W.looks_findIn I1.kIn T.iC) (fun self => PySem.W.bind_fn I1.kIn self T.tI) few ?_)
  rw [← hG, ← haa]
  refine codeAny_mono (F1.run _ X.stack _ _ ⟨Value.ref a :: us, []⟩ (Value.ref a :: us) _ _ (fun _ _ _ => False) (hr.make C us []) (I2.env0.make C us []) b2 r2 want) fun r s' back => ?_
  match r, back with
  | .error er, back => exact hx pins σ _ _ er s' I2 back
  | .ok .next, back => exact back.elim
  | .ok .brk, back => exact back.elim
  | .ok .cont, back => exact back.elim
  | .ok (.ret u), back =>
    obtain ⟨v, H2, os2, bare2, un2, hok2, rv, ev, d, fs, ea, ed, hd1, q2⟩ := back
    subst ev
    obtain ⟨h2, g2, d2, t2, os'⟩ := s'
    exact ⟨rv, mk_end (raises_own T.exC T.tyC) I1 lo keep un2 hok2 os2 bare2 ea ed hd1 q2⟩
end
/-! an error kept as a value: its class, its own dict -/
def ExV (cls : Value) (d : Option Addr) (a : Addr) : HO := .ext fun h => ∃ (oe : Obj) (vs : Array Value), h.get? a = some oe ∧ Zc cls d oe ∧ oe.data = .fields vs
theorem exV_ok {P : Program} {w : World} {H : Hp} {h : Heap} {a : Addr} {cls : Value} {d : Option Addr} {oe : Obj} {vs : Array Value} (e : h.get? a = some oe) (z : Zc cls d oe) (hd : oe.data = .fields vs) : ObjOk P w H h a (ExV cls d a) :=
  ⟨⟨oe, vs, e, z, hd⟩, ⟨oe, e⟩, fun _ _ ⟨o, v, q, r⟩ k => ⟨o, v, k o q, r⟩⟩
theorem exV_at {P : Program} {w : World} {H : Hp} {h : Heap} {a : Addr} {cls : Value} {d : Option Addr} (hok : HOk P w H h) (e : H a = some (ExV cls d a)) : ∃ (oe : Obj) (vs : Array Value), h.get? a = some oe ∧ Zc cls d oe ∧ oe.data = .fields vs := by
  have x : ObjOk P w H h a (.ext fun h => ∃ (oe : Obj) (vs : Array Value), h.get? a = some oe ∧ Zc cls d oe ∧ oe.data = .fields vs) := hok a _ e
  exact x.1
section
variable {X : Cx} {pins : List (Addr × Obj)} {σ σ0 : L2.St} {H H0 : Hp} {s s0 : Shared} {a : Addr} {o : HO}
/-- what stands there, and was not there before, is tracked from now on -/
theorem track (I : Inv X pins σ H s) (I0 : Inv X pins σ0 H0 s0) (n0 : s0.heap.get? a = none) (hn : H a = none) (new : ObjOk X.prog X.w (upd H a o) s.heap a o) : Inv X pins σ (upd H a o) s := by
  have nb : ∀ {b : Addr} {u : Obj}, s0.heap.get? b = some u → b ≠ a := fun z w => by
    rw [w, n0] at z
    cases z
  have nt : ∀ {b : Addr} {u : HO}, H b = some u → b ≠ a := fun z => ne_of_none z hn
  refine ⟨I.ok, I.os, I.bare, ⟨I.base.keep, I.base.slot, fun b u z n hx => ?_, I.base.there, fun b xs z => ?_, fun b u v z => ?_, fun b ps z => ?_⟩, I.loc, I.cell, ?_, fun x c z => ?_, fun p hp => ?_, fun b u z => ?_, I.len⟩
  · obtain ⟨u', z'⟩ := I0.base.there b u z hx
    rw [upd_ne (nb z')]
    exact I.base.free b u z n hx
  · have := I.base.tups b xs z
    rw [upd_ne (nt this)]
    exact this
  · have := I.base.frzs b u v z
    rw [upd_ne (nt this)]
    exact this
  · obtain ⟨more, this⟩ := I.base.tbls b ps z
    exact ⟨more, by rw [upd_ne (nt this)]; exact this⟩
  · obtain ⟨m, hm, _⟩ := I0.loc
    obtain ⟨ob, _, _, e, _⟩ := hm
    rw [upd_ne (nb e)]
    exact I.free
  · obtain ⟨v, ob, e, _⟩ := I0.cell x c z
    rw [upd_ne (nb e)]
    exact I.freeC x c z
  · obtain ⟨h1, h2, h3⟩ := I.pin p hp
    exact ⟨h1, by rw [upd_ne (nb (I0.pin p hp).1)]; exact h2, h3⟩
  · by_cases w : b = a
    · subst w
      rw [upd_same] at z
      cases z
      exact new
    · rw [upd_ne w] at z
      exact (I.hok b u z).stay (fun c v hc q => q) (fun c hc => by rw [upd_ne (nt hc)]; exact hc) fun c xs hc => by rw [upd_ne (nt hc)]; exact hc
end
/-- C(e) as a value -/
def tVal (t : L2.St → Hp → XK → Prop) : TE := fun σ H Q => t σ H fun cls d H' => ∀ a, H' a = none → Q (.ref a) (upd H' a (ExV cls d a))
theorem pe_mkV {X : Cx} {e : Expr} {t : L2.St → Hp → XK → Prop} (he : PMk X e t) : PE X e (tVal t) := by
  refine ⟨fun pins s σ H Q I h => thn (he pins s σ H _ I h) fun u s1 hh => ?_⟩
  obtain ⟨a, oe, vs, sI, H', cls, d, eu, J, keep, n0, ha, hz, hd, h1, na, os, ag, r, q⟩ := hh
  have J1 := J.landed (B := sI.heap) (fun _ _ z _ => z) keep (Heap.UpToSlots.of_keeps keep) os ag
  subst eu
  exact ⟨.ref a, _, track J1 J n0 na (exV_ok ha hz hd), rfl, q a na⟩
/-! its field, its class -/
def tFldE (K : PySem.W.Frag) (f : Str) (te : TE) : TE := fun σ H Q => te σ H fun x H1 => ∃ (a C d : Addr) (fs : List (Str × V)) (v : V), x = .ref a ∧ XfC K C ∧ PySem.W.findIn K (.ref C) f = some none ∧ H1 a = some (ExV (.ref C) (some d) a) ∧ H1 d = some (.xd fs) ∧ fs.lookup f = some v ∧ Q v H1
theorem pe_fldE {X : Cx} {e : Expr} {te : TE} {pos : Pos} {n : Str} (he : PE X e te) (hb : attributeBase e n X.env (eval e X.env) = eval e X.env := by rfl) : PE X (.Attribute e n pos) (tFldE X.K n te) := by
  refine ⟨fun pins s σ H Q I h => attr_of hb (thn (he.run pins s σ H _ I h) fun u s1 hh => ?_)⟩
  obtain ⟨x, H1, I1, rx, a, C, d, fs, v, ex, T, hno, ea, ed, l, q⟩ := hh
  subst ex
  obtain rfl : u = Value.ref a := rx
  obtain ⟨oe, vs, ha, hz, hd⟩ := exV_at I1.hok ea
  have hx : ObjOk X.prog X.w H1 s1.heap d (.xd fs) := I1.hok d _ ed
  obtain ⟨mA, hns, hr⟩ := hx
  obtain ⟨od, ho, hl⟩ := lookIn_ns hns
  obtain ⟨u, hu, ru⟩ := RelO.some_of (v := v) (o := mA n) (by rw [← l]; exact hr n)
  have J : PySem.W.InstAt s1.heap a oe C (some od) := by
    refine ⟨ha, hz.1, ?_, ?_⟩
    · unfold PySem.W.notCls
      rw [hd]
    · rw [hz.2]
      exact ho
  exact PySem.HandSPX.exc_get I1.kIn J T.ga T.gg T.exC (PySem.W.findObj_own T.hdC hno rfl (by rw [hl, hu])) (handed_of ru) ⟨v, H1, I1.tok _, ru, q⟩
end Wn
/-! errors caught and kept; isinstance of such -/
namespace Wn
open PySem PySem.Spec PyProof.Rows L2
/-- what isinstance asks of the class C of an error -/
structure IsC (K : PySem.W.Frag) (C : Addr) : Prop where
  cl : (PySem.W.clsIn K C).isSome = true
  ga : PySem.W.findIn K (.ref C) "__getattribute__" = some (some (.builtin "BaseException.__getattribute__"))
  gg : PySem.W.findIn K (.ref C) "__getattr__" = some none
  exC : PySem.W.subIn K (.ref C) (.type "BaseException") = some true
  ha : PySem.W.findIn K (.ref C) "__class__" = some (some (.builtin "object.__class__"))
  hn : PySem.W.specialIn K (.builtin "object.__class__") "__get__" = some (some (.builtin "getset_descriptor.__get__"))
  ht : PySem.W.takesIn K (.builtin "object.__class__") = some true
  mr : PySem.W.mroIn K C (.type "object") = some true
def rIsV (K : PySem.W.Frag) : List V → Hp → VK → Prop := fun xs H Q => ∃ (a C d : Addr) (fs : List (Str × V)) (c : V) (cv : Value) (b : Bool), xs = [.ref a, c] ∧ IsC K C ∧ H a = some (ExV (.ref C) (some d) a) ∧ H d = some (.xd fs) ∧ (∀ u, RelV c u → u = cv) ∧ PySem.W.kitOne K (.ref C) cv = some b ∧ Q (.bl b) H
theorem call_isV {X : Cx} : CallR X (.builtin "isinstance") (rIsV X.K) := by
  intro pins s σ H xs us Q I r h
  obtain ⟨a, C, d, fs, c, cv, b, rfl, T, ea, ed, hcv, e, q⟩ := h
  obtain ⟨oe, vs, ha, hz, hd⟩ := exV_at I.hok ea
  have hx : ObjOk X.prog X.w H s.heap d (.xd fs) := I.hok d _ ed
  obtain ⟨mA, hns, hr⟩ := hx
  obtain ⟨od, ho, hl⟩ := lookIn_ns hns
  have J : PySem.W.InstAt s.heap a oe C (some od) := by
    refine ⟨ha, hz.1, ?_, ?_⟩
    · unfold PySem.W.notCls
      rw [hd]
    · rw [hz.2]
      exact ho
  cases r with
  | cons rx rr =>
    cases rr with
    | cons rt rr =>
      cases rr
      cases rx
      have ec := hcv _ rt
      subst ec
      exact PySem.W.kia_one (PySem.W.kitx_exc T.cl T.ga T.gg T.exC T.ha T.hn T.ht T.mr) I.kIn J e (fun z => nomatch z) fun tk => ⟨.bl b, H, I.kept (t' := tk) fun _ _ z => z, rfl, q⟩
/-! try: body, except (A, B, C) as n: m = n; what was caught is kept in m -/
/-- what the three names of a tuple of classes hold -/
structure Names3 (X : Cx) (x1 x2 x3 : Str) (c1 c2 c3 : Addr) : Prop where
  n1 : Gl X x1 ∧ (x1 == ("__debug__" : Str)) = false ∧ X.mg x1 = some (.ref c1)
  n2 : Gl X x2 ∧ (x2 == ("__debug__" : Str)) = false ∧ X.mg x2 = some (.ref c2)
  n3 : Gl X x3 ∧ (x3 == ("__debug__" : Str)) = false ∧ X.mg x3 = some (.ref c3)
def wKeep (K : PySem.W.Frag) (cs : List Value) (i j : Nat) (D : Ends) : WX := fun cls d σ H =>
  PySem.W.exmAny K cls cs = some true ∧ ∀ a, H a = none → D.nx ((σ.set j (some (.ref a))).set i none) (upd H a (ExV cls d a))
theorem flying_keep {B h h' : Heap} {l : List Env} {a : Addr} {Z : Obj → Prop} (k : ∀ b o, h.get? b = some o → h'.get? b = some o) (f : PySem.HandSPX.FlyingZ B l a Z h) : PySem.HandSPX.FlyingZ B l a Z h' := by
  obtain ⟨f1, f2, f3, oe, vs, T, oT, ts, e1, e2, e3, e4, e5, e6, e7, e8, e9⟩ := f
  exact ⟨fun b o z => k b o (f1 b o z), f2, Heap.FunFrames.of_keeps (fun b o z _ => ⟨o, k b o z, rfl⟩) f3, oe, vs, T, oT, ts, k _ _ e1, e2, e3, e4, e5, e6, k _ _ e7, e8, e9⟩
section
variable {X : Cx} {x1 x2 x3 n m : Str} {c1 c2 c3 : Addr} {i j : Nat} {body : List Stmt} {q1 q2 q3 qt qm qn pa pos pos' : Pos} {kt : Nat} {tb : WX → TS}
theorem ps_try_keep (hs : X.stack = X.env :: X.outer) (hf : X.env.frame = some X.env.locals) (hN : X.N.Nodup) (hi : X.N[i]? = some n) (hj : X.N[j]? = some m) (hij : i ≠ j) (hln : X.env.kindOf n = some .local) (hlm : X.env.kindOf m = some .local) (hc : Names3 X x1 x2 x3 c1 c2 c3)
    (hb : ∀ (W : WX) (pn : List (Addr × Obj)) (xe : Value → Shared → Prop), Takes (X.tr pn xe) W → PassesOwn (model X.prog X.w) X.A X.env xe → PSs (X.tr pn xe) body (tb W))
    (hsw : swapsWith (.Name n qn) (some (.Name m qm)) pa.line X.env = pure false := by rfl) (hdn : (n == ("__debug__" : Str)) = false := by decide) (hcn : (n == ("__classdict__" : Str)) = false := by decide) :
    PS X (.Try body [.ExceptHandler (some (.Tuple [.Name x1 q1, .Name x2 q2, .Name x3 q3] kt qt)) (some n) [.Assign [.Name m qm] (.Name n qn) pa] pos'] [] [] pos) (fun D σ H => tb (wKeep X.K [.ref c1, .ref c2, .ref c3] i j D) D σ H) := by
  refine ⟨fun pins s σ H D I h => ?_⟩
  have ok := I.ok
  have hfr : X.A.frames = some (X.env :: X.outer) := by rw [ok.frames, hs]
  have hloc : Loc X.env.scope n := .inl hln
  have hlocm : Loc X.env.scope m := .inl hlm
  refine wpAny_Try_except ?_
  refine wpAny_mono ((hb (wKeep X.K [.ref c1, .ref c2, .ref c3] i j D) (X.pn ++ pins) (fun e s₁ => wpAny (model X.prog X.w) X.A (noteFrame e X.env) (fun _ s₂ => wpAny (model X.prog X.w) X.A (setFlight e none) (fun _ s₃ =>
    wpAny (model X.prog X.w) X.A (handleBy e X.env [.ExceptHandler (some (.Tuple [.Name x1 q1, .Name x2 q2, .Name x3 q3] kt qt)) (some n) [.Assign [.Name m qm] (.Name n qn) pa] pos']) (SP X pins D) X.xe s₃) X.xe s₂) X.xe s₁) (fun u s' xx => ?_) PassesOwn.looking).run [] s σ H D (I.toTry _) h) (fun f s1 hsp => ?_) (fun e s1 he => he)
  · obtain ⟨a, B, sI, pins', σ', H', cls, d, rfl, J', nb, up, sky, na, os, ag, hb1, hyes⟩ := xx
    have J : Inv X pins σ' H' sI := J'.ofTry ok
    have sky2 : Sky B (X.env :: X.outer) a (Zc cls d) X.env.locals s'.heap := by
      rw [← hs]
      exact sky
    show wpAny (model X.prog X.w) X.A (noteFrame (.ref a) X.env) _ _ _
    refine Sky.land Zc.steady hfr hf sky2 fun h3 fl3 up3 => ?_
    have J3 : Inv X pins σ' H' { s' with heap := h3 } := J.landed nb fl3.1 (up.trans up3) os ag
    obtain ⟨oe3, vs3, he3, hz3, hd3⟩ := fl3.there
    have nfr : a ∉ frs (X.env :: X.outer) := fun hm => by
      obtain ⟨_, o', e', hnf⟩ := fl3.2.2.1.mem hm
      rw [he3] at e'
      cases e'
      exact hnf _ hd3
    have nL : a ≠ X.env.locals := fun z => nfr (List.mem_filterMap.mpr ⟨X.env, List.mem_cons_self, by rw [hf, z]⟩)
    have nF : a ∉ X.fs := fun hm => by
      obtain ⟨e, he, q⟩ := List.mem_filterMap.mp hm
      exact nfr (List.mem_filterMap.mpr ⟨e, List.mem_cons_of_mem _ he, q⟩)
    have n0 : sI.heap.get? a = none := by
      cases z : sI.heap.get? a with
      | none => rfl
      | some o =>
        have := nb a o z (by rw [hs]; exact nfr)
        rw [fl3.2.1] at this
        cases this
    have S3 := J3.suite he3 hd3 na nL nF
    refine wpAny_handleBy_cons (codeAny_handlers_test ?_) (by intro q; cases q)
    have LT : PySem.W.Looks (model X.prog X.w) h3 (typeOf (.ref a)) cls := fun A Q E s k q => wpAny_typeOf_ref (k _ _ he3) (by rw [hz3.1]; exact q)
    refine wpAny_Tuple ?_
    refine wpAny_items_cons (ld_glob (X := X.suite a ((a, oe3) :: (X.pn ++ pins))) S3 hc.n1.1 hc.n1.2.2 ?_ hc.n1.2.1)
    refine wpAny_items_cons (ld_glob (X := X.suite a ((a, oe3) :: (X.pn ++ pins))) S3 hc.n2.1 hc.n2.2.2 ?_ hc.n2.2.1)
    refine wpAny_items_cons (ld_glob (X := X.suite a ((a, oe3) :: (X.pn ++ pins))) S3 hc.n3.1 hc.n3.2.2 ?_ hc.n3.2.1)
    refine wpAny_items_nil ⟨by size_fits, ?_⟩
    obtain ⟨G, hG⟩ : ∃ G, G = h3.push { cls := .type "tuple", data := .seq [.ref c1, .ref c2, .ref c3].toArray } := ⟨_, rfl⟩
    have kp : ∀ b o, h3.get? b = some o → G.get? b = some o := fun _ _ z => by
      rw [hG]
      exact Heap.get?_push_of_some _ z
    have gt : G.get? h3.objs.size = some { cls := .type "tuple", data := .seq [.ref c1, .ref c2, .ref c3].toArray } := by
      rw [hG]
      exact Heap.get?_push_size h3 rfl
    rw [← hG]
    refine (PySem.W.exm_tup3 (M := model X.prog X.w) (J3.kIn.keeps kp) (LT.keeps kp) gt hb1).here ?_
    have fl4 := flying_keep kp fl3
    have upG : h3.UpToSlots G := Heap.UpToSlots.of_keeps kp
    refine codeAny_handlers_suite_as ?_
    refine PySem.HandSPX.lands_againZ fl4 fun h4 fl5 up4 => ?_
    have J4 : Inv X pins σ' H' { s' with heap := h4 } := J.landed nb fl5.1 (((up.trans up3).trans upG).trans up4) os ag
    obtain ⟨oe4, vs4, he4, hz4, hd4⟩ := fl5.there
    have S4 := J4.suite he4 hd4 na nL nF
    refine store_ok (X := X.suite a ((a, oe4) :: (X.pn ++ pins))) (v := .ref a) S4 hN hi hloc rfl (fun s5 S5 => ?_) (.inr hln)
    have hp : PSs (X.suite a ((a, oe4) :: (X.pn ++ pins))) [.Assign [.Name m qm] (.Name n qn) pa] (tSeq (tAsg (tVar i) (gName j)) tNext) :=
      pss_cons (ps_set (X := X.suite a ((a, oe4) :: (X.pn ++ pins))) hN hj hlocm (pe_var (X := X.suite a ((a, oe4) :: (X.pn ++ pins))) hi (.inl hln) hdn hcn) hsw (.inr hlm)) pss_nil
    have hlen : i < σ'.length := by
      rw [J4.len]
      exact (List.getElem?_eq_some_iff.mp hi).1
    refine wpAny_mono (hp.run [] s5 _ H' { nx := fun σ6 H6 => H6 = H' ∧ σ6 = (σ'.set i (some (.ref a))).set j (some (.ref a)), rt := fun _ _ => False } S5 ⟨_, List.getElem?_set_self hlen, rfl, rfl⟩) (fun f s6 hsp => ?_) (fun _ _ z => False.elim z)
    cases f with
    | next =>
      obtain ⟨σ6, H6, S6, rfl, rfl⟩ := hsp
      have gA := (S6.pin (a, oe4) (List.mem_append_left _ List.mem_cons_self)).1
      have J6 := track (S6.unsuite ok) J n0 na (exV_ok (cls := cls) (d := d) gA hz4 hd4)
      refine gone_ok J6 hN hi hln fun s7 J7 => ⟨_, _, J7, ?_⟩
      have e1 : (((σ'.set i (some (V.ref a))).set j (some (V.ref a))).set i none) = ((σ'.set j (some (V.ref a))).set i none) := by
        rw [List.set_comm _ _ hij, List.set_set]
      rw [e1]
      exact hyes a na
    | brk =>
      obtain ⟨_, _, _, z⟩ := hsp
      exact False.elim z
    | cont =>
      obtain ⟨_, _, _, z⟩ := hsp
      exact False.elim z
    | ret u =>
      obtain ⟨_, _, _, _, _, z⟩ := hsp
      exact False.elim z
  · cases f with
    | next =>
      obtain ⟨σ', H', J', q⟩ := hsp
      exact wpAny_execs_nil ⟨σ', H', J'.ofTry ok, q⟩
    | brk =>
      obtain ⟨σ', H', J', q⟩ := hsp
      exact ⟨σ', H', J'.ofTry ok, q⟩
    | cont =>
      obtain ⟨σ', H', J', q⟩ := hsp
      exact ⟨σ', H', J'.ofTry ok, q⟩
    | ret u =>
      obtain ⟨v, σ', H', J', r, q⟩ := hsp
      exact ⟨v, σ', H', J'.ofTry ok, r, q⟩
end
end Wn
/-! a lambda handed to a def that calls it, without a parameter or with one that has a written default -/
namespace Wn
open PySem PySem.Spec PyProof.Rows L2 LamX
def clos (X : Cx) (scope : Scope) : List (Str × Addr) := cloFrom X.env.cells scope.names []
abbrev lamO (X : Cx) (params : Arguments) (body : Expr) (scope : Scope) (dV doc pm : Value) (c' : Addr) (ctv : Value) : Obj :=
  PySem.W.kdv_obj "<lambda>" (X.env.qual ++ "<lambda>") params (.expr body) scope (clos X scope) dV doc pm c' ctv
/-- the lambda's names: no cell of its own; its own parameter is no name of the def around -/
structure LamD (N : List Str) (sc scope : Scope) : Prop where
  kind : scope.kind = .function
  co : scope.isCoroutine = false
  gen : scope.isGenerator = false
  own : ∀ y ∈ scope.names, y.2 ≠ .cell ∧ (y.2 = .local → y.1 ∉ N)
  free : ∀ y ∈ scope.names, y.2 = .free → sc.names.lookup y.1 = some .cell ∨ sc.names.lookup y.1 = some .free
def lamDB (N : List Str) (sc scope : Scope) : Bool :=
  decide (scope.kind = .function) && !scope.isCoroutine && !scope.isGenerator && scope.names.all fun y => !decide (y.2 = .cell) && (!decide (y.2 = .local) || !decide (y.1 ∈ N)) && (!decide (y.2 = .free) || decide (sc.names.lookup y.1 = some .cell) || decide (sc.names.lookup y.1 = some .free))
theorem lamD_by {N : List Str} {sc scope : Scope} (h : lamDB N sc scope = true) : LamD N sc scope := by
  unfold lamDB at h
  simp only [Bool.and_eq_true, Bool.or_eq_true, Bool.not_eq_true', decide_eq_true_eq, decide_eq_false_iff_not, List.all_eq_true] at h
  obtain ⟨⟨⟨h1, h2⟩, h3⟩, h4⟩ := h
  refine ⟨h1, h2, h3, fun y hy => ⟨(h4 y hy).1.1, fun e => ?_⟩, fun y hy e => ?_⟩
  · rcases (h4 y hy).1.2 with z | z
    · exact absurd e z
    · exact z
  · rcases (h4 y hy).2 with (z | z) | z
    · exact absurd e z
    · exact .inl z
    · exact .inr z
theorem LamD.has {X : Cx} {scope : Scope} (L : LamD X.N X.env.scope scope) (ok : X.Ok) : ∀ y ∈ scope.names, y.2 = .free → ∃ c, X.env.cells.lookup y.1 = some c := fun y hy e =>
  (L.free y hy e).elim (fun k => ok.has _ (.inl k)) (fun k => ok.has _ (.inr k))
section
variable {X : Cx} {pins : List (Addr × Obj)} {σ : L2.St} {H : Hp} {s : Shared}
/-- the function is made: its code object is new, or found in the table -/
theorem mk_tail {M : Model} {A : Around} {T : List (Addr × Str)} {c P : Addr} {params : Arguments} {body : Expr} {scope : Scope} {pos : Pos} {dV : Value} {E : Value → Shared → Prop} {Q : Value → Shared → Prop} (I : Inv X pins σ H s) (TB : TabB X.base X.mg c P) (hcode : X.env.code = .ref c)
    (hm : (P, X.env.qual ++ "<lambda>") ∈ T) (hu : ∀ p ∈ T, p.1 = P → p.2 = X.env.qual ++ "<lambda>") (hT : Tabs T H) (hfree : ∀ y ∈ scope.names, y.2 = .free → ∃ c, X.env.cells.lookup y.1 = some c)
    (h : ∀ (f c' : Addr) (doc pm ctv : Value) (H1 : Hp) (s' : Shared), Inv X pins σ H1 s' → ExtN H H1 → Tabs T H1 → (∀ b o, b ≠ P → s.heap.get? b = some o → s'.heap.get? b = some o) → (∀ b, H b = none → b < s.heap.objs.size → H1 b = none) →
      s'.heap.get? f = some (lamO X params body scope dV doc pm c' ctv) → H1 f = none → f ∉ frs X.stack → H1 c' = some (CodeO c' (X.env.qual ++ "<lambda>")) → Q (.ref f) s') :
    wpAny M A (makeTail "<lambda>" (X.env.qual ++ "<lambda>") params (.expr body) scope X.env dV .none none pos pos.line) Q E s := by
  obtain ⟨ps, hP, ht, ha⟩ := hT _ hm
  have bP : s.heap.BuiltinsAt X.mg P := TB.bm.keeps I.bk
  have gP : s.heap.get? P = some { cls := .none, data := .fields ps } := I.hok P _ hP
  have off : ∀ f, s.heap.objs.size ≤ f → f ∉ frs X.stack := fun f hf z => by
    rcases List.mem_cons.mp (I.stkSub _ z) with e | e
    · have h1 := I.lt
      rw [← e] at h1
      exact Nat.lt_irrefl _ (Nat.lt_of_lt_of_le h1 hf)
    · exact I.nofs hf e
  cases hc : codeAmong pos ps.toList with
  | some cv =>
    obtain ⟨c', e, hco⟩ := ha pos cv hc
    subst e
    refine PySem.W.kdv_makeTailHit (mg := X.mg) (c := c) (P := P) (ps := ps) (closure_ok hfree) I.ok.glob (I.mod.glob.keeps I.bk) hcode (TB.code.keeps I.bk) gP ht hc bP fun ctv doc h' tk hx hsz => ?_
    have I1 : Inv X pins σ H { s with heap := h'.push (lamO X params body scope dV doc ((X.mg "__name__").getD .none) c' ctv), toks := tk } := I.kept fun b o e => Heap.get?_push_of_some _ (hx b o e)
    exact h h'.objs.size c' doc ((X.mg "__name__").getD .none) ctv H _ I1 (ExtN.refl H) hT (fun b o _ e => Heap.get?_push_of_some _ (hx b o e)) (fun b z _ => z) (Heap.get?_push_size _ rfl) (I.hok.fresh hsz) (off _ hsz) hco
  | none =>
    refine PySem.W.kdv_makeTail (mg := X.mg) (c := c) (P := P) (ps := ps) (closure_ok hfree) I.ok.glob (I.mod.glob.keeps I.bk) hcode (TB.code.keeps I.bk) gP ht hc TB.gP bP fun c' ctv doc h' tk hx hge hlt hrec htb => ?_
    obtain ⟨c2, oc, vs, t, e2, hoc, hd, hv⟩ := hrec
    cases e2
    have grow : s.heap.objs.size ≤ h'.objs.size := Nat.le_trans hge (Nat.le_of_lt hlt)
    have nC : H c' = none := I.hok.fresh hge
    obtain ⟨F0, hF0⟩ : ∃ F0, F0 = lamO X params body scope dV doc ((X.mg "__name__").getD .none) c' ctv := ⟨_, rfl⟩
    have I1 := inv_table (t' := tk) (more := #[rawInt pos.line, rawInt pos.col, .ref c']) (h' := h'.push F0) I hP
      (fun b o hb e => Heap.get?_push_of_some _ (hx b o hb e)) (Heap.get?_push_of_some _ htb) hge ⟨oc, vs, t, Heap.get?_push_of_some _ hoc, hd, hv⟩
    have far : ∀ {b : Addr} {o : HO}, H b = some o → (∀ ps, o ≠ .tbl ps) → b ≠ P := fun e n z => by
      rw [z, hP] at e
      exact n ps (Option.some.inj e).symm
    have ext : ExtN H (upd (upd H P (.tbl (ps ++ #[rawInt pos.line, rawInt pos.col, .ref c']))) c' (CodeO c' (X.env.qual ++ "<lambda>"))) := fun b o e n => by
      rw [upd_ne (ne_of_none e nC), upd_ne (far e n)]
      exact e
    have lst : (ps ++ #[rawInt pos.line, rawInt pos.col, .ref c']).toList = ps.toList ++ [rawInt pos.line, rawInt pos.col, .ref c'] := by simp
    subst hF0
    refine h h'.objs.size c' doc ((X.mg "__name__").getD .none) ctv _ _ I1 ext (fun p hp => ?_) (fun b o hb e => Heap.get?_push_of_some _ (hx b o hb e)) (fun b z lt => ?_) (Heap.get?_push_size _ rfl) ?_ (off _ grow) upd_same
    · by_cases hb : p.1 = P
      · rw [hu p hp hb, hb]
        refine ⟨_, by rw [upd_ne (ne_of_none hP nC), upd_same], by rw [lst]; exact PySem.TriplesOk_snoc _ _ _ _ ht, fun p' cv hcv => ?_⟩
        rw [lst] at hcv
        rcases among_app _ ht hcv with z | z
        · obtain ⟨c0, e1, e2⟩ := ha p' cv z
          exact ⟨c0, e1, ext _ _ e2 codeO_ne⟩
        · exact ⟨c', z, upd_same⟩
      · obtain ⟨ps', a1, a2, a3⟩ := hT p hp
        refine ⟨ps', by rw [upd_ne (ne_of_none a1 nC), upd_ne hb]; exact a1, a2, fun p' cv hcv => ?_⟩
        obtain ⟨c0, e1, e2⟩ := a3 p' cv hcv
        exact ⟨c0, e1, ext _ _ e2 codeO_ne⟩
    · have n1 : b ≠ c' := Nat.ne_of_lt (Nat.lt_of_lt_of_le lt hge)
      have n2 : b ≠ P := fun w => by
        rw [w, hP] at z
        cases z
      rw [upd_ne n1, upd_ne n2]
      exact z
    · have n1 : h'.objs.size ≠ c' := Nat.ne_of_gt hlt
      have n2 : h'.objs.size ≠ P := Nat.ne_of_gt (Nat.lt_of_lt_of_le (Heap.lt_size gP) grow)
      rw [upd_ne n1, upd_ne n2]
      exact I.hok.fresh grow
/-- what is made of the lambda: objects that stay, the function at f among them -/
structure Made (X : Cx) (H1 : Hp) (s' : Shared) (params : Arguments) (body : Expr) (scope : Scope) (f c' : Addr) (dV doc pm ctv : Value) (D : List (Addr × Obj)) : Prop where
  at_ : (f, lamO X params body scope dV doc pm c' ctv) ∈ D
  there : ∀ p ∈ D, s'.heap.get? p.1 = some p.2 ∧ H1 p.1 = none ∧ p.1 ∉ frs X.stack
  code : H1 c' = some (CodeO c' (X.env.qual ++ "<lambda>"))
  binds : ∃ bs : List (Str × Value), (∀ s2 : Shared, (∀ p ∈ D, s2.heap.get? p.1 = some p.2) → BindsTo s2 (PySem.W.kdv_fn "<lambda>" (X.env.qual ++ "<lambda>") params (.expr body) scope (clos X scope) dV doc pm (.ref c') ctv) ⟨[], []⟩ bs) ∧ ∀ y ∈ bs, scope.names.lookup y.1 = some .local
/-- lambda: e -/
theorem lam_plain {T : List (Addr × Str)} {c P : Addr} {params : Arguments} {body : Expr} {scope : Scope} {pos : Pos} {E : Value → Shared → Prop} {Q : Value → Shared → Prop} (I : Inv X pins σ H s) (TB : TabB X.base X.mg c P) (hcode : X.env.code = .ref c)
    (hm : (P, X.env.qual ++ "<lambda>") ∈ T) (hu : ∀ p ∈ T, p.1 = P → p.2 = X.env.qual ++ "<lambda>") (hT : Tabs T H) (hdef : defaultsOf params X.env = ([], [])) (hfree : ∀ y ∈ scope.names, y.2 = .free → ∃ c, X.env.cells.lookup y.1 = some c)
    (hbind : ∀ (q : Str) (cl : List (Str × Addr)) (doc pm cv ctv : Value), bindArgs (PySem.W.kdv_fn "<lambda>" q params (.expr body) scope cl .none doc pm cv ctv) ⟨[], []⟩ = pure [])
    (h : ∀ (f c' : Addr) (dV doc pm ctv : Value) (D : List (Addr × Obj)) (H1 : Hp) (s' : Shared), Inv X pins σ H1 s' → ExtN H H1 → Tabs T H1 → Made X H1 s' params body scope f c' dV doc pm ctv D → Q (.ref f) s') :
    wpAny (model X.prog X.w) X.A (eval (.Lambda params body scope pos) X.env) Q E s := by
  refine PySem.W.kla_eval hdef ?_
  rw [makeFunction_eq]
  simp only [List.zip_nil_right, List.filterMap_nil, List.isEmpty_nil, if_true, pure_bind]
  refine mk_tail I TB hcode hm hu hT hfree fun f c' doc pm ctv H1 s' I1 eN T1 _ _ hf hfn hfr hco => ?_
  refine h f c' .none doc pm ctv [(f, lamO X params body scope .none doc pm c' ctv)] H1 s' I1 eN T1 ⟨List.mem_cons_self, fun p hp => ?_, hco, [], fun s2 _ => .of_eq (hbind _ _ _ _ _ _), fun y hy => absurd hy (by simp)⟩
  rw [List.mem_singleton] at hp
  subst hp
  exact ⟨hf, hfn, hfr⟩
/-- lambda a=0: e -/
theorem lam_dflt {T : List (Addr × Str)} {c P : Addr} {params : Arguments} {body : Expr} {scope : Scope} {pos p0 : Pos} {j0 : Nat} {n : Int} {x : Str} {E : Value → Shared → Prop} {Q : Value → Shared → Prop} (I : Inv X pins σ H s) (TB : TabB X.base X.mg c P) (hcode : X.env.code = .ref c)
    (hm : (P, X.env.qual ++ "<lambda>") ∈ T) (hu : ∀ p ∈ T, p.1 = P → p.2 = X.env.qual ++ "<lambda>") (hT : Tabs T H) (hkw : params.kwonlyargs = []) (hdef : defaultsOf params X.env = ([eval (.Constant (.int n) j0 p0) X.env], [])) (hfree : ∀ y ∈ scope.names, y.2 = .free → ∃ c, X.env.cells.lookup y.1 = some c)
    (hbind : ∀ (q : Str) (cl : List (Str × Addr)) (T0 : Addr) (doc pm cv ctv v : Value), ∃ k, bindArgs (PySem.W.kdv_fn "<lambda>" q params (.expr body) scope cl (.ref T0) doc pm cv ctv) ⟨[], []⟩ = seqItems? (.ref T0) >>= k ∧ k (some #[v]) = pure [(x, v)]) (hloc : scope.names.lookup x = some .local)
    (hE : ∀ e s, X.xe e s → E e s)
    (h : ∀ (f c' : Addr) (dV doc pm ctv : Value) (D : List (Addr × Obj)) (H1 : Hp) (s' : Shared), Inv X pins σ H1 s' → ExtN H H1 → Tabs T H1 → Made X H1 s' params body scope f c' dV doc pm ctv D → Q (.ref f) s') :
    wpAny (model X.prog X.w) X.A (eval (.Lambda params body scope pos) X.env) Q E s := by
  rw [arm_eval_Lambda, hdef]
  show wpAny _ _ (do let dv ← evalAll [eval (.Constant (.int n) j0 p0) X.env]; let kdv ← holding dv (evalAllOpt []); makeFunction "<lambda>" (X.env.qual ++ "<lambda>") params (.expr body) scope X.env dv kdv [] pos pos.line) Q E s
  have hc : PE X (.Constant (.int n) j0 p0) (tC (.int n)) := pe_int
  refine wpAny_bind ?_
  unfold evalAll
  refine wpAny_bind (wpAny_mono (hc.run pins s σ H (fun v H' => v = .int n ∧ H' = H) I ⟨rfl, rfl⟩) (fun u s1 hh => ?_) hE)
  obtain ⟨v, H', I1, r1, rfl, rfl⟩ := hh
  unfold evalAll
  refine wpAny_bind (wpAny_holding (wpAny_pure (wpAny_pure (wpAny_bind (wpAny_holding (wpAny_pure ?_))))))
  rw [makeFunction_eq, hkw]
  simp only [List.zip_nil_right, List.zip_nil_left, List.filterMap_nil, List.isEmpty_nil, List.isEmpty_cons, if_true, Bool.false_eq_true, if_false, pure_bind]
  refine wpAny_bind (wpAny_newTextTuple ?_)
  obtain ⟨T0, hT0⟩ : ∃ T0, T0 = s1.heap.objs.size := ⟨_, rfl⟩
  have I2 : Inv X pins σ H' { s1 with heap := s1.heap.push (PySem.W.kdv_tup [u]) } := I1.kept fun b o e => Heap.get?_push_of_some _ e
  have g0 : (s1.heap.push (PySem.W.kdv_tup [u])).get? T0 = some (PySem.W.kdv_tup [u]) := by
    rw [hT0]
    exact Heap.get?_push_size _ rfl
  have z0 : H' T0 = none := I1.hok.fresh (Nat.le_of_eq hT0.symm)
  have nf : T0 ∉ frs X.stack := fun z => by
    rcases List.mem_cons.mp (I1.stkSub _ z) with e | e
    · have h1 := I1.lt
      rw [← e, hT0] at h1
      exact Nat.lt_irrefl _ h1
    · exact I1.nofs (Nat.le_of_eq hT0.symm) e
  rw [← hT0]
  obtain ⟨ps, hP, _, _⟩ := hT _ hm
  have nP : T0 ≠ P := fun w => by
    rw [w, hP] at z0
    cases z0
  refine mk_tail I2 TB hcode hm hu hT hfree fun f c' doc pm ctv H1 s' I3 eN T1 kp low hf hfn hfr hco => ?_
  have g1 := kp T0 _ nP g0
  have z1 : H1 T0 = none := low T0 z0 (by
    show T0 < (s1.heap.push _).objs.size
    rw [Heap.size_push, hT0]
    exact Nat.lt_succ_self _)
  refine h f c' (.ref T0) doc pm ctv [(f, lamO X params body scope (.ref T0) doc pm c' ctv), (T0, PySem.W.kdv_tup [u])] H1 s' I3 eN T1 ⟨List.mem_cons_self, fun p hp => ?_, hco, [(x, u)], fun s2 k2 => ?_, fun y hy => ?_⟩
  · rcases List.mem_cons.mp hp with e | e
    · subst e
      exact ⟨hf, hfn, hfr⟩
    · rw [List.mem_singleton] at e
      subst e
      exact ⟨g1, z1, nf⟩
  · obtain ⟨k, b1, b2⟩ := hbind (X.env.qual ++ "<lambda>") (clos X scope) T0 doc pm (.ref c') ctv u
    exact BindsTo.of_defaults (o := PySem.W.kdv_tup [u]) rfl (k2 (T0, _) (by simp)) rfl b1 b2
  · rw [List.mem_singleton] at hy
    subst hy
    exact hloc
end
end Wn
namespace Wn
open PySem PySem.Spec PyProof.Rows L2 LamX
section
variable {X : Cx} {pins : List (Addr × Obj)} {σ : L2.St} {H HZ : Hp} {s s1 : Shared}
/-- the lambda's body begins: bs its own names -/
theorem lamW_start {A : Around} {outer : List Env} {E : XK} {scope : Scope} {f c' : Addr} {h1 : Heap} {tk : Nat} {bs : List (Str × Value)} (I : Inv X pins σ H s) (L : LamD X.N X.env.scope scope) (e0 : Env0 X.prog X.w X.K X.mg X.base A outer s1 HZ) (hd : A.handled = none)
    (un : Un (frs X.stack) [] H HZ s.heap s1.heap) (hns : h1.Ns s1.heap.objs.size fun y => bs.reverse.lookup y) (kp : ∀ b o, s1.heap.get? b = some o → h1.get? b = some o) :
    Inv (lamCx X A outer s1 HZ E scope f c') [] σ HZ { s1 with heap := h1, toks := tk } := by
  have hfree := L.has I.ok
  have up : ∀ {y c}, (cloFrom X.env.cells scope.names []).lookup y = some c → X.env.cells.lookup y = some c := fun {y c} e => by
    rcases cloFrom_mem (PySem.mem_of_lookup e) with z | ⟨z1, z2⟩
    · cases z
    · obtain ⟨c1, hc⟩ := hfree _ z1 rfl
      have hc : X.env.cells.lookup y = some c1 := hc
      rw [show c = c1 by rw [z2, hc] <;> rfl]
      exact hc
  have down : ∀ {y}, scope.names.lookup y = some .free → ∃ c, (cloFrom X.env.cells scope.names []).lookup y = some c := fun {y} hl => by
    have hy : (y, NameKind.free) ∈ scope.names := PySem.mem_of_lookup hl
    exact mem_lookup (cloFrom_has (cells := X.env.cells) (acc := []) hy)
  have cellK : ∀ {c : Addr} {v : Option Value}, H c = none → s.heap.IsCell c v → h1.IsCell c v := fun {c v} n ⟨o, ho, hd⟩ => by
    obtain ⟨sl, q⟩ := un.any ho n (by simp)
    exact ⟨_, kp _ _ q, hd⟩
  have ex0 : ∀ b : Addr, b ∉ (lamCx X A outer s1 HZ E scope f c').ex := fun b z => absurd (show b ∈ ([] : List Addr) from z) (by simp)
  refine ⟨⟨e0.mod, L.kind, rfl, rfl, Nat.le_refl _, fun y z c e1 e2 => I.ok.inj y z c (up e1) (up e2), fun y hy => ?_, fun y c z _ => ?_, fun _ => hd, Around.frames_deeper e0.frames, .inr ⟨rfl, rfl⟩, fun b z => absurd z (ex0 b), e0.bs, e0.bsz, fun b _ _ => ex0 b,
      fun b z => absurd z (ex0 b), e0.funs, e0.frf⟩,
    rfl, e0.bare, Un.kept kp, ⟨_, hns, fun i y v e1 e2 e3 => ?_⟩, fun y c e => ?_, e0.hok.fresh (Nat.le_refl _), fun y c e => ?_, fun q hq => absurd (show q ∈ ([] : List (Addr × Obj)) ++ [] from hq) (by simp), e0.hok.kept kp, I.len⟩
  · have hy : scope.names.lookup y = some .cell ∨ scope.names.lookup y = some .free := hy
    rcases hy with hy | hy
    · exact absurd rfl (L.own _ (PySem.mem_of_lookup hy)).1
    · exact down hy
  · have z : false = true := z
    cases z
  · have e3 : Vis scope y := e3
    rcases e3 with k | k | k
    · exact absurd (List.mem_iff_getElem?.mpr ⟨i, e1⟩) ((L.own _ (PySem.mem_of_lookup k)).2 rfl)
    · exact absurd rfl (L.own _ (PySem.mem_of_lookup k)).1
    · obtain ⟨m, hn, hl⟩ := I.loc
      have hvis : Vis X.env.scope y := (L.free _ (PySem.mem_of_lookup k) rfl).elim (fun k => .inr (.inl k)) (fun k => .inr (.inr k))
      obtain ⟨w', r, q⟩ := hl i y v e1 e2 hvis
      obtain ⟨c2, h2⟩ := down k
      refine ⟨w', r, .inr ⟨.inr k, c2, h2, ?_⟩⟩
      have c1 := up h2
      rcases q with ⟨k', _⟩ | ⟨_, c3, e', z⟩
      · have k' : X.env.scope.names.lookup y = some .local := k'
        rcases L.free _ (PySem.mem_of_lookup k) rfl with k2 | k2 <;> rw [show X.env.scope.names.lookup y = _ from k2] at k' <;> cases k'
      · rw [c1] at e'
        cases e'
        exact cellK (I.freeC y _ c1) z
  · obtain ⟨w', z⟩ := I.cell y c (up e)
    exact ⟨w', cellK (I.freeC y c (up e)) z⟩
  · obtain ⟨v, o, ho, hd⟩ := I.cell y c (up e)
    exact un.free c o ho (I.freeC y c (up e)) (by simp)
/-- x(), in the def that got the lambda; what is raised is wished for at its slots -/
theorem pe_actW {CXg : CXT} {Eg : XK} {Ng : List Str} {qg : Str} {sg : Scope} {g f c' : Addr} {cdg dV doc pm ctv : Value} {params : Arguments} {body : Expr} {scope : Scope} {D : List (Addr × Obj)} {k i : Nat} {a : Str} {pn : List (Addr × Obj)} {xe : Value → Shared → Prop} {W : WX} {tb : XK → TE} {p1 p2 : Pos}
    (I : Inv X pins σ H s) (L : LamD X.N X.env.scope scope) (M : Made X H s params body scope f c' dV doc pm ctv D)
    (tk : Takes ((cxOf CXg X.prog X.w X.K X.mg X.base Ng qg sg g cdg X.A X.stack s H Eg).tr pn xe) W) (hr : Room (k + 1) (X.A.deeper (envOfC qg sg s.heap.objs.size g cdg)))
    (hbody : ∀ (A : Around) (outer : List Env) (s : Shared) (H : Hp) (E : XK), Room k (A.deeper (lamEnv X scope s.heap.objs.size f c')) → PE (lamCx X A outer s H E scope f c') body (tb E))
    (hN : Ng[i]? = some a) (hv : Vis sg a) (hd : (a == ("__debug__" : Str)) = false := by decide) (hcd : (a == ("__classdict__" : Str)) = false := by decide) :
    PE ((cxOf CXg X.prog X.w X.K X.mg X.base Ng qg sg g cdg X.A X.stack s H Eg).tr pn xe) (.Call (.Name a p1) [] [] p2)
      (fun σZ HZ Q => σZ[i]? = some (some (.ref f)) ∧ HZ c' = some (CodeO c' (X.env.qual ++ "<lambda>")) ∧ ∃ E : XK, (∀ cls d H', E cls d H' → W cls d σZ H') ∧ tb E σ HZ Q) := by
  refine ⟨fun pinsZ sZ σZ HZ Q IZ h => ?_⟩
  obtain ⟨hs, hc, E, hW, ht⟩ := h
  refine wpAny_Call_Name_kw (thn ((pe_var (pos := p1) (i := i) hN hv hd hcd).run pinsZ sZ σZ HZ (fun v H1 => v = .ref f ∧ H1 = HZ) IZ ⟨.ref f, hs, rfl, rfl⟩) fun u s1 hh => ?_)
  obtain ⟨v, H1, I1, r1, ev, eH⟩ := hh
  subst ev
  rw [eH] at I1
  obtain rfl : u = Value.ref f := r1
  have un : Un (frs X.stack) [] H HZ s.heap s1.heap := I1.base
  have stay : ∀ p ∈ D, s1.heap.get? p.1 = some p.2 := fun p hp => un.keep _ _ (M.there p hp).1 (M.there p hp).2.1 (M.there p hp).2.2 (by simp)
  have of1 := stay _ M.at_
  refine PySem.W.callWith_F0 ⟨_, _, _, _, of1⟩ ?_
  obtain ⟨⟨oc, vs, t, hoc, hdc, hvc⟩, _, _⟩ := I1.hok c' _ hc
  obtain ⟨bs, hbind, hloc⟩ := M.binds
  have rc : codeAny (model X.prog X.w) (X.A.deeper (envOfC qg sg s.heap.objs.size g cdg)) (.call (.ref f) ⟨[], []⟩) (CR (L2.CX X.prog X.w) (envOfC qg sg s.heap.objs.size g cdg :: X.stack) X.prog X.w HZ s1 Q E) s1 := by
    refine PySem.W.kla_callFunE hr.depth of1 rfl L.co L.gen rfl ⟨c', oc, vs, t, rfl, hoc, hdc, hvc⟩ (hbind s1 stay _ _ _ _ ?_)
    refine wpAny_newFunctionEnv (fun y hy => (L.own y hy).1) hloc (fun h1 hns hsb => ⟨I1.nolimit.fresh _ hsb, ?_⟩) L.kind
    show codeAny _ _ (.expr body (lamEnv X scope s1.heap.objs.size f c')) _ _
    have kp : ∀ b o, s1.heap.get? b = some o → h1.get? b = some o := fun b o e => hsb.extBut b o (Nat.ne_of_lt (Heap.lt_size e)) (Heap.get?_push_of_some _ e)
    have J : Inv (lamCx X (X.A.deeper (envOfC qg sg s.heap.objs.size g cdg)) (envOfC qg sg s.heap.objs.size g cdg :: X.stack) s1 HZ E scope f c') [] σ HZ { s1 with heap := h1, toks := s1.toks + bs.length } :=
      lamW_start I L I1.env0 hr.hd un hns kp
    refine PySem.W.kla_codeExpr (wpAny_mono ((hbody _ _ s1 HZ E (hr.deeper _)).run [] _ _ HZ Q J ht) (fun v s' hq => ?_) fun e s' hq => hq)
    obtain ⟨w', H', J', rv, q⟩ := hq
    exact ⟨w', H', J'.os, J'.bare, J'.base, J'.hok, rv, q⟩
  refine wpAny_call (codeAny_mono rc fun r s' hq => ?_)
  match r, hq with
  | .error e, hq => exact tk e s' (XE.of_call I1 hW hq)
  | .ok (.ret u), hq => exact I1.after hq
  | .ok .next, hq => exact hq.elim
  | .ok .brk, hq => exact hq.elim
  | .ok .cont, hq => exact hq.elim
end
/-- how a lambda is made here -/
def MkLam (X : Cx) (T : List (Addr × Str)) (params : Arguments) (body : Expr) (scope : Scope) (lpos : Pos) : Prop :=
  ∀ (pins : List (Addr × Obj)) (σ : L2.St) (H : Hp) (s : Shared) (Q : Value → Shared → Prop), Inv X pins σ H s → Tabs T H →
    (∀ (f c' : Addr) (dV doc pm ctv : Value) (D : List (Addr × Obj)) (H1 : Hp) (s' : Shared), Inv X pins σ H1 s' → ExtN H H1 → Tabs T H1 → Made X H1 s' params body scope f c' dV doc pm ctv D → Q (.ref f) s') →
    wpAny (model X.prog X.w) X.A (eval (.Lambda params body scope lpos) X.env) Q X.xe s
/-- the def that calls what it got: a calls it; TT: what it makes of the lambda's reading -/
def Gives (X : Cx) (Ng : List Str) (x : Str) (sg : Scope) (g : Addr) (cdg : Value) (bg : List Stmt) (a : Str) (q : Str) (TT : (XK → Hp → VK → Prop) → Hp → VK → Prop) : Prop :=
  ∀ (f c' : Addr) (s : Shared) (H : Hp) (Q : VK) (tl : XK → Hp → VK → Prop), Room 1 (X.A.deeper (envOfC x sg s.heap.objs.size g cdg)) →
    (∀ (W : WX) (pn : List (Addr × Obj)) (xe : Value → Shared → Prop) (p1 p2 : Pos), Takes ((cxOf CX0 X.prog X.w X.K X.mg X.base Ng x sg g cdg X.A X.stack s H E0).tr pn xe) W →
      PE ((cxOf CX0 X.prog X.w X.K X.mg X.base Ng x sg g cdg X.A X.stack s H E0).tr pn xe) (.Call (.Name a p1) [] [] p2) (fun σZ HZ Q => σZ[0]? = some (some (.ref f)) ∧ HZ c' = some (CodeO c' q) ∧ ∃ E : XK, (∀ cls d H', E cls d H' → W cls d σZ H') ∧ tl E HZ Q)) →
    H c' = some (CodeO c' q) → TT tl H Q →
    ∃ t, PSs (cxOf CX0 X.prog X.w X.K X.mg X.base Ng x sg g cdg X.A X.stack s H E0).nox bg t ∧ t { nx := fun _ H' => Q .non H', rt := Q } (L2.start Ng [.ref f]) H
section
variable {X : Cx}
/-- x(lambda: body) -/
theorem pe_outc {T : List (Addr × Str)} {TT : (XK → Hp → VK → Prop) → Hp → VK → Prop} {x a : Str} {g : Addr} {k : Nat} {st : Stmt} {fd : FuncData} {Ng : List Str} {cdg : Value}
    {params : Arguments} {body : Expr} {scope : Scope} {t : XK → TE} {p lpos pos : Pos} (hg : Gl X x) (hm : X.mg x = some (.ref g)) (hk : PySem.W.keepIn X.K (.ref g) = true) (F : Fun X.K x x st g fd) (hcd : fd.code = cdg) (hb : L2.Binds X.K fd [a] []) (Sg : FnScope Ng [a] (defScope st)) (hNg : Ng[0]? = some a) (hva : Vis (defScope st) a)
    (hG : Gives X Ng x (defScope st) g cdg (defBody st) a (X.env.qual ++ "<lambda>") TT) (ML : MkLam X T params body scope lpos) (hr : Room (k + 2) X.A) (L : LamD X.N X.env.scope scope)
    (hbody : ∀ (A : Around) (outer : List Env) (s : Shared) (H : Hp) (E : XK) (f c' : Addr), Room k (A.deeper (lamEnv X scope s.heap.objs.size f c')) → PE (lamCx X A outer s H E scope f c') body (t E))
    (hdb : (x == ("__debug__" : Str)) = false := by decide) (hd : (a == ("__debug__" : Str)) = false := by decide) (hcc : (a == ("__classdict__" : Str)) = false := by decide) :
    PE X (.Call (.Name x p) [.Lambda params body scope lpos] [] pos) (tLam T TT t) := by
  refine ⟨fun pins s σ H Q I h => ?_⟩
  obtain ⟨hT, h⟩ := h
  obtain ⟨oc, od, kV, doc0, pm0, an, cdv, ct, osl, rfl, lk, hcg⟩ := F.ex
  obtain rfl : cdv = cdg := hcd
  refine wpAny_Call_Name_kw (ld_glob I hg hm ?_ hdb)
  refine PySem.W.callWith_K (h₀ := X.base) I.ok.mod.kin hk ?_ (by rfl) (by rfl)
  show wpAny _ _ (spliced ((false, eval (.Lambda params body scope lpos) X.env) :: backTo pos (starEach [] X.env))) _ _ s
  refine Calls.spliced_cons (ML pins σ H s _ I hT fun f c' dV doc pm ctv D H1 s' I1 eN T1 M => ?_)
  refine Calls.spliced_nil ⟨I1.kIn, ?_⟩
  have rc : codeAny (model X.prog X.w) X.A (.call (.ref g) ⟨[.ref f], []⟩) (CR CX0 X.stack X.prog X.w H1 s' Q E0) s' := by
    refine run_ofS (N := Ng) (ps := [a]) (us := [.ref f]) (vs := [.ref f]) lk hcg Sg hr I1.env0 (hb s' [.ref f] I1.kIn rfl) (.cons rfl .nil) rfl fun hr' => ?_
    obtain ⟨t', ht', hq'⟩ := hG f c' s' H1 Q (fun E H' Q' => t E σ H' Q') (hr'.mono (by omega)) (fun W pn xe p1 p2 tk => pe_actW (i := 0) I1 L M tk hr' (fun A outer s H E hr2 => hbody A outer s H E f c' hr2) hNg hva hd hcc) M.code (h H1 eN T1)
    exact ⟨t', ht'.nox, hq'⟩
  refine wpAny_call (codeAny_mono rc fun r s2 hq => ?_)
  match r, hq with
  | .error e, hq => exact (show False from hq).elim
  | .ok (.ret u), hq => exact I1.after hq
  | .ok .next, hq => exact hq.elim
  | .ok .brk, hq => exact hq.elim
  | .ok .cont, hq => exact hq.elim
end
end Wn
/-! a law whose defs make lambdas: the end, by the tables of their code -/
namespace Wn
open PySem PySem.Spec PyProof.Rows L2 LamX
/-- a def by its body, its code told -/
theorem fnGc {P : Program} {w : World} {K : PySem.W.Frag} {mg : Str → Option Value} {base : Heap} {CX : CXT} {k : Nat} {f : Addr} {fd : FuncData} {ps : List Str} {sp : Sp} {x qual : Str} {st : Stmt} {N : List Str} (F : Fun K x qual st f fd) (S : FnScope N ps (defScope st)) (sz : ∀ vs H Q E, sp vs H Q E → vs.length = ps.length)
    (body : ∀ (cdv : Value) (A : Around) (outer : List Env) (s : Shared) (H : Hp) (vs : List V) (Q : VK) (E : XK), fd.code = cdv → (A.deeper (envOfC qual (defScope st) s.heap.objs.size f cdv)).guards = some [] →
      Room k (A.deeper (envOfC qual (defScope st) s.heap.objs.size f cdv)) → sp vs H Q E →
      ∃ t, PSs (cxOf CX P w K mg base N qual (defScope st) f cdv A outer s H E) (defBody st) t ∧ t { nx := fun _ H' => Q .non H', rt := Q } (L2.start N vs) H) : FnG P w K mg base CX (k + 1) f fd ps sp := by
  obtain ⟨oc, od, kV, doc, pm, an, cdv, ct, osl, rfl, lk, hcd⟩ := F.ex
  refine ⟨sz, fun A hgd hr outer s H args us vs Q E e0 hb r h => ?_⟩
  have KI : K.In s.heap := e0.mod.kin.keeps fun b o e => (e0.bs b o e).1
  have NL : s.heap.NoLimit := e0.mod.nolimit.keeps fun b o e => (e0.bs b o e).1
  refine codeAny_call_function hr.depth (KI _ _ lk) rfl S.co S.gen rfl (PySem.W.codeRec_of KI hcd) (hb _ _ _ _ ?_)
  refine wpAny_newFunctionEnv_cells S.kind (fun y hy => ?_) fun env he s1 x => ?_
  · obtain ⟨n, v⟩ := y
    rcases S.par n (List.of_mem_zip hy).1 with q | q
    · exact .inl q
    · exact .inr ⟨q, PySem.W.cellsFrom_some _ _ _ (.inl q)⟩
  · subst he
    refine ⟨NL.keeps x.toInCall.keep, codeAny_func ?_⟩
    obtain ⟨t, ht, hq⟩ := body cdv A outer s H vs Q E rfl hgd (hr.deeper _) h
    refine wpAny_mono (ht.run [] s1 _ H _ (inv_start S hr.hd e0 (sz _ _ _ _ h) r x) hq) (fun fl s' z => ?_) fun e s' z => z
    cases fl with
    | ret u =>
      obtain ⟨v, σ', H', J, rv, q⟩ := z
      exact ⟨v, H', J.os, J.bare, J.base, J.hok, rv, q⟩
    | next =>
      obtain ⟨σ', H', J, q⟩ := z
      exact ⟨.non, H', J.os, J.bare, J.base, J.hok, rfl, q⟩
    | brk =>
      obtain ⟨_, _, _, q⟩ := z
      exact q.elim
    | cont =>
      obtain ⟨_, _, _, q⟩ := z
      exact q.elim
theorem fnGc0 {P : Program} {w : World} {K : PySem.W.Frag} {mg : Str → Option Value} {base : Heap} {k : Nat} {f : Addr} {fd : FuncData} {ps : List Str} {sp : Sp} {x qual : Str} {st : Stmt} {N : List Str} (F : Fun K x qual st f fd) (S : FnScope N ps (defScope st)) (sz : ∀ vs H Q E, sp vs H Q E → vs.length = ps.length)
    (body : ∀ (cdv : Value) (A : Around) (outer : List Env) (s : Shared) (H : Hp) (vs : List V) (Q : VK) (E : XK), fd.code = cdv → (A.deeper (envOfC qual (defScope st) s.heap.objs.size f cdv)).guards = some [] →
      Room k (A.deeper (envOfC qual (defScope st) s.heap.objs.size f cdv)) → sp vs H Q E →
      ∃ t, PSs (cxOf CX0 P w K mg base N qual (defScope st) f cdv A outer s H E).nox (defBody st) t ∧ t { nx := fun _ H' => Q .non H', rt := Q } (L2.start N vs) H) : FnG P w K mg base CX0 (k + 1) f fd ps sp :=
  fnGc F S sz fun cdv A outer s H vs Q E hc g r h => let ⟨t, ht, q⟩ := body cdv A outer s H vs Q E hc g r h; ⟨t, ht.nox, q⟩
/-- the law's call; cs: the code objects and their tables -/
theorem law_callGT {P : Program} {w : World} {K : PySem.W.Frag} {mg mb : Str → Option Value} {CX : CXT} {k : Nat} {fa a : Addr} {cs : List (Addr × Addr)} {fd : FuncData} {x : Str} {sp : Sp} {s1 : Shared} {vs : List Value} {ns : List Int}
    (KX : K.In s1.heap) (hns : s1.heap.Ns mainGlobals mg) (hb : s1.heap.Ns builtinsNs mb) (hbb : ∀ x : Str, x ≠ "__name__" → mb x = bootBuiltins x) (hlim : s1.heap.NoLimit) (hg : s1.gens = #[])
    (hT : ∀ p ∈ cs, s1.heap.get? p.2 = some { cls := .none, data := .fields #[] }) (nT : ∀ p ∈ cs, K.lookup p.2 = none) (C : ∀ p ∈ cs, PySem.W.CodeHd s1.heap p.1 p.2)
    (hbm : ∃ (bm : Addr) (ob : Obj), mg "__builtins__" = some (.ref bm) ∧ bm ≠ builtinsNs ∧ s1.heap.get? bm = some ob ∧ ob.cls = .type "module" ∧ ob.dict = some builtinsNs ∧ ob.data = .plain)
    (ha : s1.heap.get? a = some { cls := .type "list", data := .seq vs.toArray }) (hi : IntsAre vs ns) (hl : ns.length ≤ sizeLine) (hr : Room k callerA)
    (F : ∀ base : Heap, K.In base → base.Ns mainGlobals mg → (∀ p ∈ cs, TabB base mg p.1 p.2) → FnG P w K mg base CX k fa fd [x] sp) (hbind : ∀ (s : Shared) (u : Value), BindsTo s fd ⟨[u], []⟩ [(x, u)])
    (hsp : ∀ H : Hp, (∀ p ∈ cs, H p.2 = some (.tbl #[])) → SqL K H a (ns.map V.int) → sp [.ref a] H (fun v _ => v = .bl true) fun _ _ _ => False)
    (hCX : ∀ H e s', CX [] H s1 (fun _ _ _ => False) e s' → False) :
    codeAny (model P w) callerA (.call (.ref fa) ⟨[.ref a], []⟩) (fun r s' => r = .ok (.ret (.bool true)) ∧ OldK s1.heap s'.heap ∧ s'.os = s1.os ∧ AllBare s'.gens) s1 := by
  obtain ⟨ts, hts⟩ : ∃ ts, ts = cs.map (·.2) := ⟨_, rfl⟩
  have inT : ∀ {p : Addr × Addr}, p ∈ cs → p.2 ∈ ts := fun hp => by
    rw [hts]
    exact List.mem_map.mpr ⟨_, hp, rfl⟩
  have outT : ∀ {b : Addr}, b ∈ ts → s1.heap.get? b = some { cls := .none, data := .fields #[] } ∧ K.lookup b = none := fun hb => by
    rw [hts] at hb
    obtain ⟨p, hp, e⟩ := List.mem_map.mp hb
    rw [← e]
    exact ⟨hT p hp, nT p hp⟩
  have na : a ∉ ts := fun z => by
    have q := (outT z).1
    rw [ha] at q
    cases q
  obtain ⟨H, hH⟩ : ∃ H : Hp, H = fun b => if b ∈ ts then some (.tbl #[]) else if b = a ∧ K.lookup a = none then some (.frz { cls := .type "list", data := .seq vs.toArray } (.lst (ns.map V.int))) else none := ⟨_, rfl⟩
  have at_ : ∀ b u, H b = some u → (b ∈ ts ∧ u = .tbl #[]) ∨ (b = a ∧ K.lookup a = none ∧ u = .frz { cls := .type "list", data := .seq vs.toArray } (.lst (ns.map V.int))) := fun b u z => by
    rw [hH] at z
    dsimp only at z
    split at z
    · rename_i c
      exact .inl ⟨c, (Option.some.inj z).symm⟩
    · split at z
      · rename_i c
        exact .inr ⟨c.1, c.2, (Option.some.inj z).symm⟩
      · cases z
  have off : ∀ b o, s1.heap.get? b = some o → (∀ n, o.data ≠ .seq vs.toArray n) → o.data ≠ .fields #[] → H b = none := fun b o e d d2 => by
    cases z : H b with
    | none => rfl
    | some u =>
      rcases at_ b u z with ⟨w1, _⟩ | ⟨rfl, _, _⟩
      · rw [(outT w1).1] at e
        cases e
        exact absurd rfl d2
      · rw [ha] at e
        cases e
        exact absurd rfl (d _)
  have kb : ∀ b o, K.lookup b = some o → H b = none := fun b o e => by
    cases z : H b with
    | none => rfl
    | some u =>
      rcases at_ b u z with ⟨w1, _⟩ | ⟨rfl, z2, _⟩
      · rw [(outT w1).2] at e
        cases e
      · rw [z2] at e
        cases e
  have ok : HOk P w H s1.heap := fun b u z => by
    rcases at_ b u z with ⟨w1, rfl⟩ | ⟨rfl, _, rfl⟩
    · exact (outT w1).1
    · exact ⟨ha, by rw [List.length_map]; exact hl, vs, _, vals_ints hi, ha⟩
  have sq : SqL K H a (ns.map V.int) := by
    cases z : K.lookup a with
    | none =>
      refine .inl (.inr ⟨{ cls := .type "list", data := .seq vs.toArray }, ?_⟩)
      rw [hH]
      dsimp only
      rw [if_neg na]
      exact if_pos ⟨rfl, z⟩
    | some o =>
      have e := KX a o z
      rw [ha] at e
      cases e
      exact .inr ⟨_, vs.toArray, _, z, rfl, rfl, rfl, by rw [List.size_toArray, hi.length]; exact hl, by simpa using vals_ints hi⟩
  have tabs : ∀ p ∈ cs, H p.2 = some (.tbl #[]) := fun p hp => by
    rw [hH]
    exact if_pos (inT hp)
  have nsB : ∀ {b : Addr} {m : Str → Option Value}, s1.heap.Ns b m → (hidT s1.heap H).Ns b m := fun {b m} ⟨o, es, ep, e, d, r⟩ => ⟨o, es, ep, hidT_get e (off b o e (fun n z => by rw [d] at z; cases z) fun z => by rw [d] at z; cases z), d, r⟩
  have KB : K.In (hidT s1.heap H) := fun b o e => hidT_get (KX b o e) (kb b o e)
  have M : Mod K mg (hidT s1.heap H) := ⟨KB, nsB hns, ⟨mb, nsB hb, hbb⟩, let ⟨mc, h1, h2⟩ := hlim; ⟨mc, nsB h1, h2⟩⟩
  have TB : ∀ p ∈ cs, TabB (hidT s1.heap H) mg p.1 p.2 := fun p hp => by
    have g0 := hT p hp
    refine ⟨?_, ?_, fun z => ?_⟩
    · obtain ⟨o, us, file, tf, flags, tg, inF, text, tt, e1, r1, r2, r3, r⟩ := C p hp
      refine ⟨o, us, file, tf, flags, tg, inF, text, tt, hidT_get e1 (off _ _ e1 (fun n z => ?_) fun z => ?_), r1, r2, r3, r⟩
      · rw [r2] at z
        cases z
      · rw [r2] at z
        cases z
        simp at r3
    · obtain ⟨bm, ob, b1, b2, b3, b4, b5, b6⟩ := hbm
      have nG : bm ≠ mainGlobals := fun q => by
        obtain ⟨o, es, ep, e, hd, _⟩ := hns
        rw [q, e] at b3
        cases b3
        rw [hd] at b6
        cases b6
      have nP : bm ≠ p.2 := fun q => by
        rw [q, g0] at b3
        cases b3
        cases b6
      exact ⟨bm, ob, b1, b2, nG, nP, hidT_get b3 (off _ _ b3 (fun n z => by rw [b6] at z; cases z) fun z => by rw [b6] at z; cases z), b4, b5, b6⟩
    · obtain ⟨o, es, ep, e, hd, _⟩ := hns
      rw [z, g0] at e
      cases e
      cases hd
  have env : Env0 P w K mg (hidT s1.heap H) callerA [] s1 H := ⟨rfl, M, fun b o e => of_hidT e, Nat.le_of_eq (hidT_size _ _), trivial, fun b z => absurd (show b ∈ ([] : List Addr) from z) (by simp), ok, .of_eq hg⟩
  refine codeAny_mono ((F _ KB (nsB hns) TB).go callerA rfl hr [] s1 H ⟨[.ref a], []⟩ [.ref a] [.ref a] _ _ env (hbind s1 (.ref a)) (.cons rfl .nil) (hsp H tabs sq)) fun r s' z => ?_
  match r, z with
  | .error e, z => exact (hCX H e s' z).elim
  | .ok .next, z => exact z.elim
  | .ok .brk, z => exact z.elim
  | .ok .cont, z => exact z.elim
  | .ok (.ret u), z =>
    obtain ⟨v, H', os, bare, un, ok', rv, q⟩ := z
    obtain rfl : v = .bl true := q
    obtain rfl : u = Value.bool true := rv
    have grown : ∀ p ∈ cs, ∃ more : Array Value, s'.heap.get? p.2 = some { cls := .none, data := .fields more } := fun p hp => by
      obtain ⟨more, z⟩ := un.tbls p.2 #[] (tabs p hp)
      exact ⟨_, ok' p.2 _ z⟩
    have same : ∀ b o, b ∉ ts → s1.heap.get? b = some o → s'.heap.get? b = some o := fun b o nb e => by
      cases y : H b with
      | none => exact un.keep b o e y (fun c => absurd (show b ∈ ([] : List Addr) from c) (by simp)) (by simp)
      | some u =>
        rcases at_ b u y with ⟨w1, _⟩ | ⟨rfl, _, rfl⟩
        · exact absurd w1 nb
        · rw [ha] at e
          cases e
          exact (ok' _ _ (un.frzs _ _ _ y)).1
    refine ⟨rfl, ⟨fun b o e => ?_, fun b o e => ?_⟩, os, bare⟩
    · by_cases w1 : b ∈ ts
      · have w2 := w1
        rw [hts] at w2
        obtain ⟨p, hp, ep⟩ := List.mem_map.mp w2
        obtain ⟨more, hm⟩ := grown p hp
        rw [← ep] at e ⊢
        rw [hT p hp] at e
        cases e
        exact .inr (.inl ⟨((C p hp).tab (hT p hp)).isCodeTable, rfl, #[], more, rfl, by rw [Array.empty_append]; exact hm⟩)
      · exact .inl (same b o w1 e)
    · by_cases w1 : b ∈ ts
      · rw [hts] at w1
        obtain ⟨p, hp, ep⟩ := List.mem_map.mp w1
        obtain ⟨more, hm⟩ := grown p hp
        rw [← ep]
        exact ⟨_, hm⟩
      · exact ⟨o, same b o w1 e⟩
theorem walkGT {l : PySem.W.OpenLaw} {n k : Nat} {q : Program} {loose : List Str} {XP : (Str → Option Value) → Heap → Prop} {YP : World → Heap → Prop} {d : DefRec} {K : Params → PySem.W.Frag} {x : Str} {xs : List Str}
    (hn : l.most = some n) (hn2 : n ≤ sizeLine) (hdf : d.params.defaults = []) (hr : Room k callerA) (hxs : xs.all (fun y => ((recsOf q).find? fun e => e.name == y).isSome) = true) (hY : ∀ (w : World) (h : Heap), YP w h → (K w.params).In h)
    (F : ∀ (w : World) (mg : Str → Option Value) (fa : Addr) (h : Heap), (K w.params).In h → h.Ns mainGlobals mg → mg d.name = some (.ref fa) →
      ∃ (fd : FuncData) (cs : List (Addr × Addr)) (sp : Sp), (∀ p ∈ cs, (∃ y ∈ xs, PySem.W.tabIn (K w.params) y = some p) ∧ (K w.params).lookup p.2 = none) ∧ (∀ (s : Shared) (u : Value), BindsTo s fd ⟨[u], []⟩ [(x, u)]) ∧
        (∀ (H : Hp) (a : Addr) (ns : List Int), ns.length ≤ n → (∀ p ∈ cs, H p.2 = some (.tbl #[])) → SqL (K w.params) H a (ns.map V.int) → sp [.ref a] H (fun v _ => v = .bl true) fun _ _ _ => False) ∧
        ∀ base : Heap, (K w.params).In base → base.Ns mainGlobals mg → (∀ p ∈ cs, TabB base mg p.1 p.2) → FnG l.prog w (K w.params) mg base CX0 k fa fd [x] sp) :
    PySem.W.WalkO q loose XP YP l.row.toRowW d [] (fun f vs => PySem.call f vs) :=
  Att.attach_call hn hdf fun w s0 s1 mg mb fa o pm cd doc a vs ns G Y ho hd hcd hmg hobj hints hlen hg => by
    have KX := hY w _ Y
    obtain ⟨fd, cs, sp, hc, hb, hsp, hF⟩ := F w mg fa _ KX G.T.g hmg
    have tab : ∀ p ∈ cs, PySem.W.CodeHd s1.heap p.1 p.2 ∧ s1.heap.get? p.2 = some { cls := .none, data := .fields #[] } := fun p hp => by
      obtain ⟨⟨y, hy, e⟩, _⟩ := hc p hp
      have z := List.all_eq_true.mp hxs y hy
      obtain ⟨d2, e2⟩ := Option.isSome_iff_exists.mp z
      exact PySem.W.tab_of G.T KX e2 e
    exact law_callGT KX G.T.g G.T.b G.T.builtins G.T.nolimit hg (fun p hp => (tab p hp).2) (fun p hp => (hc p hp).2) (fun p hp => (tab p hp).1) G.T.bmain hobj hints (Nat.le_trans hlen hn2) hr hF hb (fun H hT hS => hsp H a ns hlen hT hS) fun H e s' z => z
end Wn
/-! C(e) for an error whose __init__ keeps e in its one field; raise C(e) -/
namespace Wn
open PySem PySem.Spec PyProof.Rows L2
def spInit (C : Addr) (f : Str) : Sp := fun vs H Q _ => ∃ (a : Addr) (v : V), vs = [.ref a, v] ∧ H a = some (exo a C none) ∧ ∀ d, H d = none → d ≠ a → Q .non (upd (upd H d (exd d [(f, v)])) a (exo a C (some d)))
section
variable {X : Cx} {o e : Expr} {to te : TE} {f x : Str} {p p' p1 p2 pos : Pos} {C fI W : Addr} {B newId initId : String} {bmB : List Value} {mc : Value} {wn : Str}
theorem ps_ostE (T : ErrC X.K C fI f B newId initId bmB) (ho : PE X o to) (he : PE X e te) (hs : swapsWith e (some (.Attribute o f p')) pos.line X.env = pure false := by rfl) : PS X (.Assign [.Attribute o f p'] e pos) (tOstE X.K C f to te) := by
  refine ⟨fun pins s σ H D I h => plainObj_wpAny_Assign_Attribute (thn (he.run pins s σ H _ I h) fun v s1 z1 => ?_) hs⟩
  obtain ⟨y, H1, I1, r1, q1⟩ := z1
  refine thn (ho.run pins s1 σ H1 _ I1 q1) fun u s2 z2 => ?_
  obtain ⟨w, H2, I2, r2, a, ew, ea, q⟩ := z2
  subst ew
  obtain rfl : u = Value.ref a := r2
  exact ostE T I2 ea r1 fun dx s' n ne J => ⟨σ, _, J, q dx n ne⟩
/-- the built-in class's own name -/
theorem pe_initB {es : List Expr} {ta : TA} {pl : Sem Bool} (T : ErrC X.K C fI f B newId initId bmB) (hg : Gl X wn) (hm : X.mg wn = none) (hv : bootBuiltins wn = some (.type B)) (hnn : wn ≠ "__name__") (hdb : (wn == ("__debug__" : Str)) = false) (ty : typeOf (.type B) = pure (.type "type")) (stub : Manifest.isStub B = false)
    (at_ : PySem.W.findCls X.K (.type B) (.type "type") "__init__" = some (.val (.builtin initId))) (hh : PySem.W.handedIn (.builtin initId) = true) (ha : PA X (e :: es) ta)
    (hc : eval (.Call (.Attribute (.Name wn p1) "__init__" p2) (e :: es) [] pos) X.env = (do
      let ov ← eval (.Name wn p1) X.env
      standAt p2.atName
      let (f, first) ← holding [ov] (getMethod ov "__init__" pl)
      callWith pos f first (backTo pos (starEach (e :: es) X.env)) (backToKw pos (keywordEach [] X.env))) := by rfl)
    (he : starEach (e :: es) X.env = (false, eval e X.env) :: starEach es X.env := by rfl) (hpl : (backTo pos (starEach es X.env)).any (·.1) = false := by rfl) :
    PE X (.Call (.Attribute (.Name wn p1) "__init__" p2) (e :: es) [] pos) (tInitE X.K C ta) := by
  refine ⟨fun pins s σ H Q I h => ?_⟩
  refine PySem.W.methodCall_KW (ld_blt I hg hm hv ?_ hnn hdb) hc
  obtain ⟨m, fr⟩ := I.fr
  refine PySem.W.method_type fr I.ok.mod.kin ty stub at_ hh ?_
  show wpAny _ _ (callWith pos (Value.builtin initId) [] (backTo pos (starEach (e :: es) X.env)) []) _ _ _
  exact call_initE (pl := pl) T ha (I.tok _) h he hpl
end
/-- what such a making asks, once its one value is there -/
theorem mk1_go {C : Addr} {f : Str} {v : V} {H1 : Hp} {Q : XK} (h : ∀ d, H1 d = none → Q (.ref C) (some d) (upd H1 d (.xd [(f, v)]))) :
    [v].length ≤ 1000 ∧ ∀ a, H1 a = none → spInit C f (.ref a :: ([v] ++ [])) (upd H1 a (exo a C none))
      (fun u H2 => u = .non ∧ ∃ (d : Addr) (fs : List (Str × V)), H2 a = some (exo a C (some d)) ∧ H2 d = some (exd d fs) ∧ H1 d = none ∧ Q (.ref C) (some d) (upd (del H2 a) d (.xd fs))) (fun _ _ _ => False) := by
  refine ⟨by show 1 ≤ 1000; decide, fun a na => ⟨a, v, rfl, upd_same, fun d nd da => ?_⟩⟩
  have nd1 : H1 d = none := by
    rw [upd_ne da] at nd
    exact nd
  refine ⟨rfl, d, [(f, v)], upd_same, ?_, nd1, ?_⟩
  · rw [upd_ne da, upd_same]
  · have e1 : upd (del (upd (upd (upd H1 a (exo a C none)) d (exd d [(f, v)])) a (exo a C (some d))) a) d (.xd [(f, v)]) = upd H1 d (.xd [(f, v)]) := by
      funext b
      by_cases hb : b = d
      · rw [hb, upd_same, upd_same]
      · rw [upd_ne hb, upd_ne hb]
        by_cases ha : b = a
        · rw [ha, del_same, na]
        · rw [del_ne ha, upd_ne ha, upd_ne hb, upd_ne ha]
    rw [e1]
    exact h d nd1
end Wn
/-! what gives data, where lambdas are made on the way: all but the tables of code stays -/
namespace Wn
open PySem PySem.Spec PyProof.Rows L2 LamX
theorem extOf {H H' : Hp} (g : Gr [] H H') : ExtN H H' := fun b o h _ => g b o (by simp) h
theorem tabsGr {T : List (Addr × Str)} {H H' : Hp} (t : Tabs T H) (g : Gr [] H H') : Tabs T H' := fun p hp => (t p hp).ext fun b o e => g b o (by simp) e
theorem kpExt {H H' : Hp} (g : ExtN H H') : Kp H H' := ⟨fun a _ e => g a _ e (fun _ z => by cases z), fun a _ e => g a _ e (fun _ z => by cases z), fun a _ _ e => g a _ e (fun _ z => by cases z)⟩
theorem ExtN.lst {H H' : Hp} {a : Addr} {xs : List V} (g : ExtN H H') (h : H a = some (.lst xs)) : H' a = some (.lst xs) := g a _ h (fun _ z => by cases z)
theorem ExtN.tup {H H' : Hp} {a : Addr} {xs : List V} (g : ExtN H H') (h : H a = some (.tup xs)) : H' a = some (.tup xs) := g a _ h (fun _ z => by cases z)
theorem ExtN.dK {H H' : Hp} {a : Addr} {xs : List (Key × V)} (g : ExtN H H') (h : H a = some (.dK xs)) : H' a = some (.dK xs) := g a _ h (fun _ z => by cases z)
/-- what an error's outcome is: class, field, word -/
def TTg (es : List (Addr × Str × Str)) : (XK → Hp → VK → Prop) → Hp → VK → Prop := fun tl H Q =>
  ∀ (H2 : Hp) (Qn : VK) (E : XK), Gr [] H H2 → (∀ v H3, (∀ p, H3 p = none → Q (.ref p) (upd H3 p (.lst [v]))) → Qn v H3) →
    (∀ (C d : Addr) (f w : Str) (v : V) (H3 : Hp), (C, f, w) ∈ es → H3 d = some (.xd [(f, v)]) → (∀ t H4, Gr [] H3 H4 → H4 t = some (.tup [.str w, v]) → Q (.ref t) H4) → E (.ref C) (some d) H3) → tl E H2 Qn
section
variable {K : PySem.W.Frag} {T : List (Addr × Str)} {σ : L2.St} {H : Hp}
def EvT (K : PySem.W.Frag) (T : List (Addr × Str)) (te : TE) (σ : L2.St) (H : Hp) (d : PyData) : Prop := ∀ H1, ExtN H H1 → Tabs T H1 → ∀ Q : VK, (∀ v H2, ExtN H1 H2 → Tabs T H2 → Dp K H2 v d → Q v H2) → te σ H1 Q
def EvTS (K : PySem.W.Frag) (T : List (Addr × Str)) (ta : TA) (σ : L2.St) (H : Hp) (ds : List PyData) : Prop := ∀ H1, ExtN H H1 → Tabs T H1 → ∀ Q : List V → Hp → Prop, (∀ vs H2, ExtN H1 H2 → Tabs T H2 → DpAll K H2 vs ds → Q vs H2) → ta σ H1 Q
def EvTL (K : PySem.W.Frag) (T : List (Addr × Str)) (te : TE) (σ : L2.St) (H : Hp) (ds : List PyData) : Prop := ∀ H1, ExtN H H1 → Tabs T H1 → ∀ Q : VK, (∀ p xs H2, ExtN H1 H2 → Tabs T H2 → H2 p = some (.lst xs) → DpAll K H2 xs ds → Q (.ref p) H2) → te σ H1 Q
theorem EvTL.d {te : TE} {ds : List PyData} (h : EvTL K T te σ H ds) : EvT K T te σ H (.list ds) := fun H1 g t Q q => h H1 g t Q fun p xs H2 g2 t2 e a => q _ H2 g2 t2 (dp_lst e a)
/-- what makes no lambda, whatever stands -/
theorem et_of {te : TE} {d : PyData} (h : ∀ H, EvD K te σ H d) : EvT K T te σ H d := fun H1 _ t Q q => h H1 H1 (Gr.refl _ _) Q fun v H2 g2 a => q v H2 (extOf g2) (tabsGr t g2) a
theorem el_of {te : TE} {ds : List PyData} (h : ∀ H, EvL K te σ H ds) : EvTL K T te σ H ds := fun H1 _ t Q q => h H1 H1 (Gr.refl _ _) Q fun p xs H2 g2 e a => q p xs H2 (extOf g2) (tabsGr t g2) e a
theorem et_var {i : Nat} {v : V} {d : PyData} (e : σ[i]? = some (some v)) (h : Dp K H v d) : EvT K T (tVar i) σ H d := fun H1 g t Q q => ⟨v, e, q v H1 (ExtN.refl _) t (Dp.kp (kpExt g) h)⟩
theorem etl_var {i : Nat} {p : Addr} {xs : List V} {ds : List PyData} (e : σ[i]? = some (some (.ref p))) (h : H p = some (.lst xs)) (a : DpAll K H xs ds) : EvTL K T (tVar i) σ H ds :=
  fun H1 g t Q q => ⟨_, e, q p xs H1 (ExtN.refl _) t (ExtN.lst g h) (DpAll.kp (kpExt g) a)⟩
theorem ets_nil : EvTS K T tNil σ H [] := fun H1 _ t Q q => q _ H1 (ExtN.refl _) t .nil
theorem ets_cons {te : TE} {ta : TA} {d : PyData} {ds : List PyData} (h : EvT K T te σ H d) (r : EvTS K T ta σ H ds) : EvTS K T (tCons te ta) σ H (d :: ds) := fun H1 g t Q q =>
  h H1 g t _ fun v H2 g2 t2 dv => r H2 (g.trans g2) t2 _ fun vs H3 g3 t3 dvs => q _ H3 (g2.trans g3) t3 (.cons (Dp.kp (kpExt g3) dv) dvs)
theorem et_tup {ta : TA} {ds : List PyData} (h : EvTS K T ta σ H ds) (hz : ds.length ≤ 1000 := by exact Nat.le_of_ble_eq_true rfl) : EvT K T (tTup ta) σ H (.tuple ds) := fun H1 g t Q q =>
  h H1 g t _ fun vs H2 g2 t2 a => ⟨by rw [dpAll_len a]; exact Nat.le_of_lt (small1000 hz), fun p np => q _ _ (g2.trans (extOf (Gr.new np))) (tabsGr t2 (Gr.new np)) (dp_tup upd_same (DpAll.kp (Kp.of (Gr.new np)) a))⟩
theorem etl_lst {ta : TA} {ds : List PyData} (h : EvTS K T ta σ H ds) (hz : ds.length ≤ 1000 := by exact Nat.le_of_ble_eq_true rfl) : EvTL K T (tLst ta) σ H ds := fun H1 g t Q q =>
  h H1 g t _ fun vs H2 g2 t2 a => ⟨by rw [dpAll_len a]; exact Nat.le_of_lt (small1000 hz), fun p np => q _ _ _ (g2.trans (extOf (Gr.new np))) (tabsGr t2 (Gr.new np)) upd_same (DpAll.kp (Kp.of (Gr.new np)) a)⟩
theorem etl_cat {ta tb : TE} {ds es : List PyData} (h1 : EvTL K T ta σ H ds) (h2 : EvTL K T tb σ H es) (hz : ds.length + es.length ≤ 1000 := by exact Nat.le_of_ble_eq_true rfl) : EvTL K T (tOp rCat ta tb) σ H (ds ++ es) := fun H1 g t Q q =>
  h1 H1 g t _ fun p xs H2 g2 t2 e2 a2 => h2 H2 (g.trans g2) t2 _ fun p3 ys H3 g3 t3 e3 a3 => by
    have e2' := ExtN.lst g3 e2
    refine ⟨p, p3, xs, ys, rfl, rfl, e2', e3, by rw [dpAll_len a2, dpAll_len a3]; exact Nat.le_of_lt (small1000 hz), fun p4 np => ?_⟩
    exact q p4 _ _ ((g2.trans g3).trans (extOf (Gr.new np))) (tabsGr t3 (Gr.new np)) upd_same (dpAll_append (DpAll.kp (kpExt (g3.trans (extOf (Gr.new np)))) a2) (DpAll.kp (Kp.of (Gr.new np)) a3))
theorem et_eq {ta tb : TE} {d e : PyData} (h1 : EvT K T ta σ H d) (h2 : EvT K T tb σ H e) (s1 : SeqAt.shaped d = true) (s2 : SeqAt.shaped e = true) : EvT K T (tOp (rEqD K) ta tb) σ H (.bool (PyData.eqv d e)) := fun H1 g t Q q =>
  h1 H1 g t _ fun v H2 g2 t2 a => h2 H2 (g.trans g2) t2 _ fun w H3 g3 t3 b => ⟨d, e, Dp.kp (kpExt g3) a, b, s1, s2, q _ H3 (g2.trans g3) t3 (.bl _)⟩
theorem et_ne {ta tb : TE} {d e : PyData} (h1 : EvT K T ta σ H d) (h2 : EvT K T tb σ H e) (s1 : SeqAt.shaped d = true) (s2 : SeqAt.shaped e = true) : EvT K T (tOp (rNeD K) ta tb) σ H (.bool (!PyData.eqv d e)) := fun H1 g t Q q =>
  h1 H1 g t _ fun v H2 g2 t2 a => h2 H2 (g.trans g2) t2 _ fun w H3 g3 t3 b => ⟨d, e, Dp.kp (kpExt g3) a, b, s1, s2, q _ H3 (g2.trans g3) t3 (.bl _)⟩
/-- what comes of a lambda whose body gives d -/
theorem et_out {es : List (Addr × Str × Str)} {t : XK → TE} {d : PyData} (h : ∀ E H, EvD K (t E) σ H d) : EvT K T (tLam T (TTg es) t) σ H (.list [d]) := fun H1 _ t1 Q q =>
  ⟨t1, fun H2 g2 t2 H3 Qn E g3 kn _ => h E H3 H3 (Gr.refl _ _) Qn fun v H4 g4 a => kn v H4 fun p np =>
    q _ _ (g2.trans (extOf ((g3.trans g4).trans (Gr.new np)))) (tabsGr t2 ((g3.trans g4).trans (Gr.new np))) (dp_lst upd_same (.cons (Dp.kp (Kp.of (Gr.new np)) a) .nil))⟩
/-- .. whose body raises an error with the value d -/
theorem et_outE {es : List (Addr × Str × Str)} {t : XK → TE} {d : PyData} {C : Addr} {f w : Str} (hm : (C, f, w) ∈ es)
    (h : ∀ (E : XK) (H1 : Hp) (Q : VK), (∀ (dd : Addr) (v : V) H2, Gr [] H1 H2 → H2 dd = some (.xd [(f, v)]) → Dp K H2 v d → E (.ref C) (some dd) H2) → t E σ H1 Q) : EvT K T (tLam T (TTg es) t) σ H (.tuple [.str w, d]) := fun H1 _ t1 Q q =>
  ⟨t1, fun H2 g2 t2 H3 Qn E g3 _ ke => h E H3 Qn fun dd v H4 g4 hd a => ke C dd f w v H4 hm hd fun t' H5 g5 h5 =>
    q _ _ (g2.trans (extOf ((g3.trans g4).trans g5))) (tabsGr t2 ((g3.trans g4).trans g5)) (dp_tup h5 (.cons (.str _) (.cons (Dp.kp (Kp.of g5) a) .nil)))⟩
theorem stt_asgL {te : TE} {i : Nat} {ds : List PyData} {D : Ends} (t : Tabs T H) (h : EvTL K T te σ H ds) (k : ∀ p xs H2, ExtN H H2 → Tabs T H2 → H2 p = some (.lst xs) → DpAll K H2 xs ds → D.nx (σ.set i (some (.ref p))) H2) : tAsg te (gName i) D σ H := h H (ExtN.refl _) t _ k
theorem stt_retB {te : TE} {b : Bool} {D : Ends} (t : Tabs T H) (h : EvT K T te σ H (.bool b)) (k : ∀ H2, ExtN H H2 → Tabs T H2 → D.rt (.bl b) H2) : tRet te D σ H := h H (ExtN.refl _) t _ fun v H2 g t2 e => by rw [dp_bool e]; exact k H2 g t2
theorem ttt_of {te : TE} {b : Bool} {H1 : Hp} {Q : Bool → Hp → Prop} (t : Tabs T H1) (h : EvT K T te σ H (.bool b)) (g : ExtN H H1) (q : ∀ H2, ExtN H1 H2 → Tabs T H2 → Q b H2) : tTest te σ H1 Q := h H1 g t _ fun v H2 g2 t2 e => ⟨b, dp_bool e, q H2 g2 t2⟩
theorem ttb_of {te : TE} {b : Bool} {H1 : Hp} {Q : Bool → Hp → Prop} (t : Tabs T H1) (h : EvT K T te σ H (.bool b)) (g : ExtN H H1) (q : ∀ H2, ExtN H1 H2 → Tabs T H2 → Q b H2) : tB te σ H1 Q := h H1 g t _ fun v H2 g2 t2 e => ⟨b, dp_bool e, q H2 g2 t2⟩
theorem et_andV {ta tb : TE} {a b : Bool} (h1 : EvT K T ta σ H (.bool a)) (h2 : EvT K T tb σ H (.bool b)) : EvT K T (tAndV ta tb) σ H (.bool (a && b)) := fun H1 g t Q q =>
  h1 H1 g t _ fun v H2 g2 t2 e => ⟨a, dp_bool e, by
    cases a with
    | true => exact iteT (h2 H2 (g.trans g2) t2 _ fun w H3 g3 t3 e3 => q w H3 (g2.trans g3) t3 e3)
    | false => exact iteF (q _ H2 g2 t2 (.bl false))⟩
theorem et_orV {ta tb : TE} {a b : Bool} (h1 : EvT K T ta σ H (.bool a)) (h2 : EvT K T tb σ H (.bool b)) : EvT K T (tOrV ta tb) σ H (.bool (a || b)) := fun H1 g t Q q =>
  h1 H1 g t _ fun v H2 g2 t2 e => ⟨a, dp_bool e, by
    cases a with
    | true => exact iteT (q _ H2 g2 t2 (.bl true))
    | false => exact iteF (h2 H2 (g.trans g2) t2 _ fun w H3 g3 t3 e3 => q w H3 (g2.trans g3) t3 e3)⟩
end
end Wn
namespace Wn
open PySem PySem.Spec PyProof.Rows L2 LamX
theorem tabsGrM {T : List (Addr × Str)} {H H' : Hp} {d : Addr} (t : Tabs T H) (g : Gr [d] H H') (h : ∃ kvs, H d = some (.dK kvs)) : Tabs T H' := fun p hp => by
  obtain ⟨kvs, hd⟩ := h
  obtain ⟨ps, h1, h2, h3⟩ := t p hp
  refine ⟨ps, g _ _ (by simp; exact ne_of h1 hd (by intro z; cases z)) h1, h2, fun pos cv hc => ?_⟩
  obtain ⟨c, e1, e2⟩ := h3 pos cv hc
  exact ⟨c, e1, g _ _ (by simp; exact ne_of e2 hd (by intro z; cases z)) e2⟩
theorem tabs0 {T : List (Addr × Str)} {H : Hp} (h : ∀ p ∈ T, H p.1 = some (.tbl #[])) : Tabs T H := fun p hp =>
  ⟨#[], h p hp, by trivial, fun pos cv hc => by cases hc⟩
def tInts : List Int → TA
  | [] => tNil
  | i :: r => tCons (tC (.int i)) (tInts r)
theorem tInts_go {σ : L2.St} {H : Hp} : ∀ {is : List Int} {Q : List V → Hp → Prop}, Q (is.map V.int) H → tInts is σ H Q
  | [], _, q => q
  | i :: r, Q, q => tInts_go (is := r) (Q := fun vs H2 => Q (.int i :: vs) H2) q
section
variable {K : PySem.W.Frag} {T : List (Addr × Str)} {σ : L2.St} {H : Hp}
theorem ev_powN {a c : Nat} (h : CPow a c) : EvD K (tOp (rI CPow fun i j => .int (i ^ j.toNat)) (tC (.int (a : Nat))) (tC (.int (c : Nat)))) σ H (.int ((a ^ c : Nat) : Int)) := fun H1 _ Q q => ⟨a, c, rfl, rfl, h, by
  have e : ((a : Nat) : Int) ^ ((c : Nat) : Int).toNat = ((a ^ c : Nat) : Int) := by rw [Int.toNat_natCast, Int.natCast_pow]
  show Q (.int (((a : Nat) : Int) ^ ((c : Nat) : Int).toNat)) H1
  rw [e]
  exact q _ H1 (Gr.refl _ _) (.int _)⟩
theorem ev_pow {a c : Int} (h : CPow a c) : EvD K (tOp (rI CPow fun i j => .int (i ^ j.toNat)) (tC (.int a)) (tC (.int c))) σ H (.int (a ^ c.toNat)) := fun H1 _ Q q => ⟨a, c, rfl, rfl, h, q _ H1 (Gr.refl _ _) (.int _)⟩
end
end Wn
namespace Wn
open PySem PySem.Spec PyProof.Rows L2
theorem tab_mk {K : PySem.W.Frag} {x : Str} {f c P : Addr} {oc c1 : Value} {od d1 : Option Addr} {fd : FuncData} {sl s1 : Array (Option Value)} {vs : Array Value} (a : PySem.W.nsIn K mainGlobals x = some (some (.ref f))) (l : K.lookup f = some ⟨oc, od, .func fd, sl⟩) (e : fd.code = .ref c)
    (l2 : K.lookup c = some ⟨c1, d1, .fields vs, s1⟩) (h : vs[11]? = some (.ref P)) : PySem.W.tabIn K x = some (c, P) := by
  unfold PySem.W.tabIn
  rw [a]
  dsimp only
  rw [l]
  dsimp only
  rw [e]
  dsimp only
  rw [l2]
  dsimp only
  rw [h]
end Wn
namespace Wn
open PySem PySem.Spec PyProof.Rows L2 LamX
section
variable {K : PySem.W.Frag} {T : List (Addr × Str)} {σ : L2.St} {H : Hp} {es : List (Addr × Str × Str)} {t : XK → TE} {d : PyData}
/-- .. over what stands here -/
theorem et_outV (h : ∀ (E : XK) (H1 : Hp), ExtN H H1 → ∀ Q : VK, (∀ v H2, Gr [] H1 H2 → Dp K H2 v d → Q v H2) → t E σ H1 Q) : EvT K T (tLam T (TTg es) t) σ H (.list [d]) := fun H1 g0 t1 Q q =>
  ⟨t1, fun H2 g2 t2 H3 Qn E g3 kn _ => h E H3 ((g0.trans g2).trans (extOf g3)) Qn fun v H4 g4 a => kn v H4 fun p np =>
    q _ _ (g2.trans (extOf ((g3.trans g4).trans (Gr.new np)))) (tabsGr t2 ((g3.trans g4).trans (Gr.new np))) (dp_lst upd_same (.cons (Dp.kp (Kp.of (Gr.new np)) a) .nil))⟩
theorem et_outX {C : Addr} {f w : Str} (hm : (C, f, w) ∈ es)
    (h : ∀ (E : XK) (H1 : Hp), ExtN H H1 → ∀ (Q : VK), (∀ (dd : Addr) (v : V) H2, Gr [] H1 H2 → H2 dd = some (.xd [(f, v)]) → Dp K H2 v d → E (.ref C) (some dd) H2) → t E σ H1 Q) : EvT K T (tLam T (TTg es) t) σ H (.tuple [.str w, d]) := fun H1 g0 t1 Q q =>
  ⟨t1, fun H2 g2 t2 H3 Qn E g3 _ ke => h E H3 ((g0.trans g2).trans (extOf g3)) Qn fun dd v H4 g4 hd a => ke C dd f w v H4 hm hd fun t' H5 g5 h5 =>
    q _ _ (g2.trans (extOf ((g3.trans g4).trans g5))) (tabsGr t2 ((g3.trans g4).trans g5)) (dp_tup h5 (.cons (.str _) (.cons (Dp.kp (Kp.of g5) a) .nil)))⟩
theorem EvT.on {te : TE} {H' : Hp} (h : EvT K T te σ H d) (g : ExtN H H') : EvT K T te σ H' d := fun H1 g1 t1 Q q => h H1 (g.trans g1) t1 Q q
end
end Wn
namespace Wn
open PySem PySem.Spec PyProof.Rows L2 LamX
section
variable {K : PySem.W.Frag} {T : List (Addr × Str)} {σ : L2.St} {H : Hp}
/-- the first part of «or» in a test, false -/
theorem ttt_orL {te : TE} {u : TT} {b : Bool} {Q : Bool → Hp → Prop} (t : Tabs T H) (h : EvT K T te σ H (.bool b)) (hb : b = false) (q : ∀ H2, ExtN H H2 → Tabs T H2 → u σ H2 Q) : tOr (tTest te) u σ H Q := h H (ExtN.refl _) t _ fun v H2 g2 t2 e => ⟨b, dp_bool e, iteFb hb (q H2 g2 t2)⟩
end
end Wn
namespace Wn
open PySem PySem.Spec PyProof.Rows L2
/-! a list grown: data in which no list of its size stands, stay -/
mutual
def noLen (n : Nat) : PyData → Bool
  | .list xs => decide (xs.length ≠ n) && noLenAll n xs
  | .tuple xs => noLenAll n xs
  | _ => true
def noLenAll (n : Nat) : List PyData → Bool
  | [] => true
  | x :: xs => noLen n x && noLenAll n xs
end
mutual
theorem Dp.app {K : PySem.W.Frag} {H : Hp} {l : Addr} {xs : List V} {y : V} (h : H l = some (.lst xs)) : ∀ {v : V} {d : PyData}, Dp K H v d → noLen xs.length d = true → Dp K (upd H l (.lst (xs ++ [y]))) v d
  | _, _, .non, _ => .non
  | _, _, .bl b, _ => .bl b
  | _, _, .int i, _ => .int i
  | _, _, .str z, _ => .str z
  | _, _, .lst (a := a) (xs := zs) (ds := ds) s t, n => by
    rw [noLen, Bool.and_eq_true, decide_eq_true_eq] at n
    have hl := dpAll_len t
    refine .lst ?_ (DpAll.app h t n.2)
    rcases s with (s | ⟨o, s⟩) | s
    · by_cases e : a = l
      · subst e
        rw [h] at s
        cases s
        exact absurd hl.symm n.1
      · exact .inl (.inl (by rw [upd_ne e]; exact s))
    · exact .inl (.inr ⟨o, by rw [upd_ne (fun e => by rw [e, h] at s; cases s)]; exact s⟩)
    · exact .inr s
  | _, _, .tup (a := a) (xs := zs) (ds := ds) s t, n => by
    rw [noLen] at n
    refine .tup ?_ (DpAll.app h t n)
    rcases s with (s | ⟨o, s⟩) | s
    · exact .inl (.inl (by rw [upd_ne (fun e => by rw [e, h] at s; cases s)]; exact s))
    · exact .inl (.inr ⟨o, by rw [upd_ne (fun e => by rw [e, h] at s; cases s)]; exact s⟩)
    · exact .inr s
theorem DpAll.app {K : PySem.W.Frag} {H : Hp} {l : Addr} {xs : List V} {y : V} (h : H l = some (.lst xs)) : ∀ {vs : List V} {ds : List PyData}, DpAll K H vs ds → noLenAll xs.length ds = true → DpAll K (upd H l (.lst (xs ++ [y]))) vs ds
  | _, _, .nil, _ => .nil
  | _, _, .cons a b, n => by
    rw [noLenAll, Bool.and_eq_true] at n
    exact .cons (Dp.app h a n.1) (DpAll.app h b n.2)
end
/-- the tables stay where a list grows -/
theorem tabsApp {T : List (Addr × Str)} {H : Hp} {l : Addr} {xs ys : List V} (t : LamX.Tabs T H) (h : H l = some (.lst xs)) : LamX.Tabs T (upd H l (.lst ys)) := fun p hp => by
  obtain ⟨ps, h1, h2, h3⟩ := t p hp
  refine ⟨ps, by rw [upd_ne (ne_of h1 h (by intro z; cases z))]; exact h1, h2, fun pos cv hc => ?_⟩
  obtain ⟨c, e1, e2⟩ := h3 pos cv hc
  exact ⟨c, e1, by rw [upd_ne (ne_of e2 h (by intro z; cases z))]; exact e2⟩
end Wn
namespace Wn
open PySem PySem.Spec PyProof.Rows L2 LamX
section
variable {K : PySem.W.Frag} {T : List (Addr × Str)} {σ : L2.St} {H : Hp}
theorem noLenAll_app (n : Nat) : ∀ xs ys : List PyData, noLenAll n (xs ++ ys) = (noLenAll n xs && noLenAll n ys)
  | [], ys => by simp [noLenAll]
  | x :: xs, ys => by
    have ih := noLenAll_app n xs ys
    show noLenAll n (x :: (xs ++ ys)) = _
    rw [noLenAll, noLenAll, ih, Bool.and_assoc]
/-- l.append(e) -/
theorem stt_app {te : TE} {i : Nat} {l : Addr} {xs : List V} {ds : List PyData} {d : PyData} {D : Ends} (t : Tabs T H) (hi : σ[i]? = some (some (.ref l))) (e : H l = some (.lst xs)) (a : DpAll K H xs ds) (h : EvT K T te σ H d) (hn : noLenAll ds.length (ds ++ [d]) = true) (hz : ds.length < 1000)
    (k : ∀ ys H2, Tabs T H2 → H2 l = some (.lst ys) → DpAll K H2 ys (ds ++ [d]) → D.nx σ H2) : tDrop (tBM K "list" rAppend (tVar i) (tCons te tNil)) D σ H := by
  refine ⟨_, hi, .inl ⟨rfl, _, sq_lst e⟩, ?_⟩
  refine h H (ExtN.refl _) t _ fun v H2 g2 t2 dv => ?_
  have hl := dpAll_len a
  have e2 := ExtN.lst g2 e
  have a2 := DpAll.kp (kpExt g2) a
  rw [noLenAll_app, Bool.and_eq_true] at hn
  have n2 : noLen ds.length d = true := by
    have := hn.2
    rw [noLenAll, Bool.and_eq_true] at this
    exact this.1
  refine ⟨l, xs, v, rfl, rfl, e2, Nat.lt_of_lt_of_le (show xs.length < 6000 by omega) (by decide), ?_⟩
  refine k (xs ++ [v]) _ (tabsApp t2 e2) upd_same (dpAll_append (DpAll.app e2 a2 (by rw [hl]; exact hn.1)) (.cons (Dp.app e2 dv (by rw [hl]; exact n2)) .nil))
theorem stt_set {te : TE} {i : Nat} {d : PyData} {D : Ends} (t : Tabs T H) (h : EvT K T te σ H d) (k : ∀ v H2, ExtN H H2 → Tabs T H2 → Dp K H2 v d → D.nx (σ.set i (some v)) H2) : tAsg te (gName i) D σ H := h H (ExtN.refl _) t _ k
theorem et_repr {te : TE} {d : PyData} (h : EvT K T te σ H d) (f : Fits d) : EvT K T (tCB (rRepr K) (tCons te tNil)) σ H (.str d.shown) := fun H1 g t Q q =>
  h H1 g t _ fun v H2 g2 t2 a => ⟨v, d, rfl, a, f, q _ H2 g2 t2 (.str _)⟩
/-- two texts compared -/
theorem et_eqS {ta tb : TE} {x y : Str} (h1 : EvT K T ta σ H (.str x)) (h2 : EvT K T tb σ H (.str y)) : EvT K T (tOp rEq ta tb) σ H (.bool (decide (x = y))) := fun H1 g t Q q =>
  h1 H1 g t _ fun v H2 g2 t2 a => h2 H2 (g.trans g2) t2 _ fun w H3 g3 t3 b => by
    have e1 : v = .str x := by cases a; rfl
    have e2 : w = .str y := by cases b; rfl
    subst e1 e2
    refine ⟨rfl, ?_⟩
    have e3 : decide (V.str x = V.str y) = decide (x = y) := by
      rw [decide_eq_decide]
      exact ⟨fun z => V.str.inj z, fun z => by rw [z]⟩
    show Q (.bl (decide (V.str x = V.str y))) H3
    rw [e3]
    exact q _ H3 (g2.trans g3) t3 (.bl _)
end
end Wn
namespace Wn
open PySem PySem.Spec PyProof.Rows L2
open PySem.HandSPX
section
variable {X : Cx} {C : Addr} {f : Str}
/-- error.f, the error that the suite holds (at a; its class cls, its dict d) -/
def tByE (C : Addr) (f : Str) (a : Addr) (cls : Value) (d : Option Addr) (te : TE) : TE := fun σ H Q => te σ H fun x H1 => x = .ref a ∧ cls = .ref C ∧ ∃ (dd : Addr) (v : V), d = some dd ∧ H1 dd = some (.xd [(f, v)]) ∧ Q v H1
theorem pe_byE {a : Addr} {oe : Obj} {cls : Value} {d : Option Addr} {pn : List (Addr × Obj)} {e : Expr} {te : TE} {pos : Pos} (T : XfC X.K C) (hno : PySem.W.findIn X.K (.ref C) f = some none) (hz : Zc cls d oe) (hf : ∃ vs, oe.data = .fields vs) (he : PE (X.suite a ((a, oe) :: pn)) e te)
    (hb : attributeBase e f X.env (eval e X.env) = eval e X.env := by rfl) :
    PE (X.suite a ((a, oe) :: pn)) (.Attribute e f pos) (tByE C f a cls d te) := by
  refine ⟨fun pins s σ H Q I h => ?_⟩
  refine attr_of hb (thn (he.run pins s σ H _ I h) fun u s1 hh => ?_)
  obtain ⟨x, H1, I1, rx, ex, ec, dd, v, ed, ea, q⟩ := hh
  subst ex
  obtain rfl : u = Value.ref a := rx
  subst ec
  subst ed
  obtain ⟨ha, _⟩ := I1.pin (a, oe) (List.mem_append_left _ List.mem_cons_self)
  obtain ⟨vs, hd⟩ := hf
  have hx : ObjOk X.prog X.w H1 s1.heap dd (.xd [(f, v)]) := I1.hok dd _ ea
  obtain ⟨mA, hns, hr⟩ := hx
  obtain ⟨od, ho, hl⟩ := lookIn_ns hns
  have l : List.lookup f [(f, v)] = some v := by simp [List.lookup]
  obtain ⟨u, hu, ru⟩ := RelO.some_of (v := v) (o := mA f) (by rw [← l]; exact hr f)
  have J : PySem.W.InstAt s1.heap a oe C (some od) := ⟨ha, hz.1, by unfold PySem.W.notCls; rw [hd] <;> rfl, by rw [hz.2]; exact ho⟩
  exact PySem.HandSPX.exc_get I1.kIn J T.ga T.gg T.exC (PySem.W.findObj_own T.hdC hno rfl (by rw [hl, hu])) (handed_of ru) ⟨v, H1, I1.tok _, ru, q⟩
end
section
variable {X : Cx}
def rLcm : List V → Hp → VK → Prop := fun vs H Q => ∃ a b : Nat, vs = [.int a, .int b] ∧ (a ≤ 100000 ∧ b ≤ 100000) ∧ Q (.int ((Nat.lcm a b : Nat) : Int)) H
theorem cr_lcm : CallR X (.builtin "math.lcm") rLcm := by
  intro pins s σ H vs us Q I r h
  obtain ⟨a, b, rfl, ⟨ha, hb⟩, q⟩ := h
  obtain ⟨t, u, rfl⟩ := Vals.int2 r
  have e : (((Nat.lcm 1 (a : Int).natAbs).lcm (b : Int).natAbs : Nat) : Int) = ((Nat.lcm a b : Nat) : Int) := by
    rw [Int.natAbs_natCast, Int.natAbs_natCast, Nat.lcm_one_left]
  refine PySem.W.mg_lcm (by rw [Int.natAbs_natCast]; omega) (by rw [Int.natAbs_natCast]; omega) ?_ ?_
  · rw [e, Int.natAbs_natCast]
    have h1 : Nat.lcm a b ≤ a * b := by
      unfold Nat.lcm
      exact Nat.div_le_self _ _
    have h2 : a * b ≤ 100000 * 100000 := Nat.mul_le_mul ha hb
    have h3 : Nat.lcm a b < 2 ^ 40 := Nat.lt_of_le_of_lt (Nat.le_trans h1 h2) (by decide)
    exact Nat.lt_trans (PySem.Flt.log2_lt_of (by decide) h3) (by decide)
  · rw [e]
    exact ⟨.int _, H, I.tok _, ⟨_, rfl⟩, q⟩
/-- t.index(x), ints, the first place -/
def rIdxT (K : PySem.W.Frag) : V → List V → Hp → VK → Prop := fun x xs H Q => ∃ (p : Addr) (ys : List Nat) (z j : Nat), x = .ref p ∧ xs = [.int (z : Nat)] ∧ SqT K H p (vn ys) ∧ ys[j]? = some z ∧ (∀ m, m < j → ys[m]? ≠ some z) ∧ Q (.int (j : Nat)) H
theorem flat_vnT : ∀ xs : List Nat, (vn xs).all flatV = true
  | [] => rfl
  | x :: r => by
    show (true && (vn r).all flatV) = true
    rw [flat_vnT r]
    rfl
theorem mt_tup_indexN : MtR X "tuple.index" (rIdxT X.K) := by
  intro pins s σ H x xs v us Q I rx rs h
  obtain ⟨p, ys, z, j, rfl, rfl, hq, hy, hno, q⟩ := h
  cases rx
  obtain ⟨u, rfl, t, rfl⟩ := vals1 rs
  obtain ⟨its, r, pl, hz⟩ := I.tuple hq
  obtain ⟨⟨cls, dd, dt, sl⟩, ho, hc, n, hd⟩ := pl
  simp only at hc hd
  subst hc
  subst hd
  have hl : its.toArray.size = ys.length := by rw [List.size_toArray, ← r.length, vn_len]
  have hj : j < its.toArray.size := by rw [hl]; exact (List.getElem?_eq_some_iff.mp hy).1
  have at' : ∀ (m : Nat) (hm : m < its.toArray.size), ∃ (y : Nat) (t' : Tok), ys[m]? = some y ∧ its.toArray[m] = Value.int (y : Nat) t' := fun m hm => by
    have hm' : m < ys.length := by rw [← hl]; exact hm
    obtain ⟨w, hw, t', hw'⟩ := r.get (i := m) (x := .int (ys[m] : Nat)) (by simp [vn, hm'])
    refine ⟨ys[m], t', List.getElem?_eq_getElem hm', ?_⟩
    have e := (List.getElem?_eq_some_iff.mp hw).2
    rw [← hw', ← e]
    simp
  refine call_meets PySem.F.slot_tuple_index ⟨_, ho, rfl⟩ PySem.F.entry_tuple_index (PySem.F.args_tuple_index_2 _ _) (TI.tuple_indexAt p its.toArray n dd sl (.int (z : Nat) t) (eqU (.int (z : Nat))) j hj ?_ ?_)
    ⟨ho, fun w hw => mem_eqAt (x := .int (z : Nat)) ⟨t, rfl⟩ rfl r (flat_vnT ys) w (by simpa using hw), ⟨.int (j : Nat), H, I.tok _, ⟨_, rfl⟩, q⟩⟩
  · obtain ⟨y, t', h1, h2⟩ := at' j hj
    rw [hy] at h1
    cases h1
    rw [h2]
    show (((z : Nat) : Int) == ((z : Nat) : Int)) = true
    exact beq_self_eq_true _
  · intro m hm hmj
    obtain ⟨y, t', h1, h2⟩ := at' m hm
    rw [h2]
    show (((y : Nat) : Int) == ((z : Nat) : Int)) = false
    rw [beq_eq_false_iff_ne]
    intro e
    have : y = z := by omega
    exact hno m hmj (by rw [h1, this])
/-- tuple(xs), xs a list: the object is known whole, so that its methods may be called -/
def rTpF (K : PySem.W.Frag) : List V → Hp → VK → Prop := fun xs H Q => ∃ p ys, xs = [.ref p] ∧ SqL K H p ys ∧ ∀ l o, o.dict = none → H l = none → Q (.ref l) (upd H l (.frz o (.tup ys)))
theorem call_tpF : CallR X (.type "tuple") (rTpF X.K) := by
  intro pins s σ H xs us Q I r h
  obtain ⟨p, ys, rfl, hq, q⟩ := h
  obtain ⟨u, rfl, rx⟩ := vals1 r
  cases rx
  obtain ⟨its, r', pl, hz⟩ := I.list hq
  have hlen := r'.length
  refine call_tuple_list pl.isList (fun h' kp => ?_) (by simp only [List.size_toArray] <;> omega)
  have I1 : Inv X pins σ H { s with heap := h' } := I.kept (t' := s.toks) kp
  have I2 : Inv X pins σ (upd H h'.objs.size (.frz { cls := .type "tuple", data := .seq its.toArray } (.tup ys))) { s with heap := h'.push { cls := .type "tuple", data := .seq its.toArray } } :=
    I1.laid (t' := s.toks) (fun b o e => Heap.get?_push_of_some _ e) (Nat.le_refl _) (show ObjOk X.prog X.w _ _ _ (.frz { cls := .type "tuple", data := .seq its.toArray } (.tup ys)) from ⟨Heap.get?_push_size _ rfl, hz, its, r', IsTup.new _ _⟩)
  exact ⟨.ref h'.objs.size, _, I2, rfl, q _ _ rfl (I1.hok.fresh (Nat.le_refl _))⟩
variable {name : Str} {idn : String} {r : V → List V → Hp → VK → Prop} {o e : Expr} {es : List Expr} {to : TE} {t : TA} {apos cpos : Pos}
def tBMT (r : V → List V → Hp → VK → Prop) (to : TE) (t : TA) : TE := fun σ H Q => to σ H fun x H1 => (∃ (p : Addr) (ob : Obj) (xs : List V), x = .ref p ∧ H1 p = some (.frz ob (.tup xs)) ∧ ob.dict = none) ∧ t σ H1 fun xs H2 => r x xs H2 Q
theorem pe_bmT (pa : PlainAttrs "tuple") (slot : Slot "tuple" name idn) (hty : typeOf (.builtin idn) = pure (.type "method_descriptor")) (hm : MtR X idn r) (ho : PE X o to) (ha : PA X (e :: es) t)
    (hbase : attributeBase o name X.env (eval o X.env) = eval o X.env := by rfl)
    (hfew : ((backTo cpos (starEach (e :: es) X.env)).all (fun x => !x.1) && (backToKw cpos (keywordEach [] X.env)).all (fun x => x.1.isSome)
      && decide ((e :: es).length + ([] : List Keyword).length + (if ([] : List Keyword).isEmpty then 0 else 1) < 30)) = true := by rfl)
    (hline : (apos.endLine == cpos.line) = true := by rfl) (hs : starEach (e :: es) X.env = (false, eval e X.env) :: starEach es X.env := by rfl) (hplain : (backTo cpos (starEach es X.env)).any (·.1) = false := by rfl) :
    PE X (.Call (.Attribute o name apos) (e :: es) [] cpos) (tBMT r to t) := by
  refine ⟨fun pins s σ H Q I h => ?_⟩
  refine wpAny_Call_method_late hbase hfew hline rfl (thn (ho.run pins s σ H _ I h) fun v s1 ⟨x, H1, I1, r1, ty, q1⟩ => ?_)
  obtain ⟨p, ob, xs, rfl, hp, hd⟩ := ty
  obtain rfl : v = Value.ref p := r1
  obtain ⟨hg, _, its, _, o2, hg2, hc2, _⟩ := I1.hok p _ hp
  rw [hg] at hg2
  cases hg2
  have h1 : s1.TypeIs (.ref p) "tuple" := ⟨ob, hg, hc2⟩
  have h2 : ∀ a, Value.ref p = .ref a → ∃ ob, s1.heap.get? a = some ob ∧ ob.dict = none := fun a e => by
    cases e
    exact ⟨ob, hg, hd⟩
  refine ⟨"tuple", idn, pa, slot, hty, h1, h2, ?_⟩
  have hA := ha.run cpos pins s1 σ H1 _ I1 q1
  rw [hs] at hA ⊢
  refine Calls.callWith_builtin (by show (false || (backTo cpos (starEach es X.env)).any (·.1)) = false; rw [hplain] <;> rfl) (Calls.evalArgs_plain ?_)
  exact thn hA fun us s2 ⟨vs, H2, I2, r2, q2⟩ => hm pins s2 σ H2 (.ref p) vs (.ref p) us Q I2 rfl r2 q2
end
end Wn
/-! values beside lists that still grow: the heap without them; expressions over it -/
namespace Wn
open PySem PySem.Spec PyProof.Rows L2

def di (xs : List Nat) : PyData := .tuple ((ni xs).map PyData.int)
theorem sm_ni {xs : List Nat} {m : Nat} (h : ∀ k ∈ xs, k < 8192) (hm : xs.length ≤ m) : Sm (di xs) 13 1 (m * 14) := by
  refine Sm.tup (W := 13) m (fun d hd => ?_) (by unfold ni; rw [List.length_map, List.length_map]; exact hm)
  obtain ⟨z, hz, rfl⟩ := List.mem_map.mp hd
  obtain ⟨k, hk, rfl⟩ := List.mem_map.mp hz
  exact Sm.int (by decide) (by rw [Int.natAbs_natCast]; exact h k hk) (by decide)
theorem sml_ni {xs : List Nat} {m : Nat} (h : ∀ k ∈ xs, k < 8192) (hm : xs.length ≤ m) : Sm (.list ((ni xs).map PyData.int)) 13 1 (m * 14) := by
  refine Sm.lst (W := 13) m (fun d hd => ?_) (by unfold ni; rw [List.length_map, List.length_map]; exact hm)
  obtain ⟨z, hz, rfl⟩ := List.mem_map.mp hd
  obtain ⟨k, hk, rfl⟩ := List.mem_map.mp hz
  exact Sm.int (by decide) (by rw [Int.natAbs_natCast]; exact h k hk) (by decide)
theorem dp_vnT {K : PySem.W.Frag} {H : Hp} {t : Addr} {xs : List Nat} (h : H t = some (.tup (vn xs))) : Dp K H (.ref t) (di xs) := by
  rw [vn_ni] at h
  exact dp_tup h (dpAll_ints _)
theorem dp_vnL {K : PySem.W.Frag} {H : Hp} {t : Addr} {xs : List Nat} (h : H t = some (.lst (vn xs))) : Dp K H (.ref t) (.list ((ni xs).map PyData.int)) := by
  rw [vn_ni] at h
  exact dp_lst h (dpAll_ints _)

/-! values beside lists that still grow: the heap without them -/
def hid (W : List Addr) (H : Hp) : Hp := fun a => if a ∈ W then none else H a
theorem hid_get {W : List Addr} {H : Hp} {a : Addr} {o : HO} (h : H a = some o) (n : a ∉ W) : hid W H a = some o := by
  unfold hid
  rw [if_neg n]
  exact h
theorem hid_inv {W : List Addr} {H : Hp} {a : Addr} {o : HO} (h : hid W H a = some o) : a ∉ W ∧ H a = some o := by
  unfold hid at h
  by_cases m : a ∈ W
  · rw [if_pos m] at h
    cases h
  · rw [if_neg m] at h
    exact ⟨m, h⟩
theorem hid_kp {W : List Addr} {H H' : Hp} (g : Gr W H H') : Kp (hid W H) (hid W H') :=
  ⟨fun a _ e => hid_get (g a _ (hid_inv e).1 (hid_inv e).2) (hid_inv e).1, fun a _ e => hid_get (g a _ (hid_inv e).1 (hid_inv e).2) (hid_inv e).1, fun a _ _ e => hid_get (g a _ (hid_inv e).1 (hid_inv e).2) (hid_inv e).1⟩
theorem hid_out {W : List Addr} {H : Hp} : Kp (hid W H) H := ⟨fun a _ e => (hid_inv e).2, fun a _ e => (hid_inv e).2, fun a _ _ e => (hid_inv e).2⟩
theorem hid_in0 {H : Hp} : Kp H (hid [] H) := ⟨fun a _ e => hid_get e (by simp), fun a _ e => hid_get e (by simp), fun a _ _ e => hid_get e (by simp)⟩
theorem ne_none {H : Hp} {a S : Addr} {o : HO} (e : H a = some o) (n : H S = none) : a ∉ [S] := fun m => by
  rw [List.mem_singleton] at m
  subst m
  rw [n] at e
  cases e
theorem hid_in {H H' : Hp} {S : Addr} (n : H S = none) (g : Gr [S] H H') : Kp H (hid [S] H') :=
  ⟨fun a _ e => hid_get (g a _ (ne_none e n) e) (ne_none e n), fun a _ e => hid_get (g a _ (ne_none e n) e) (ne_none e n), fun a _ _ e => hid_get (g a _ (ne_none e n) e) (ne_none e n)⟩
def Wst (W : List Addr) (H : Hp) : Prop := ∀ a, a ∈ W → H a ≠ none
theorem Wst.gr {W : List Addr} {H H' : Hp} (s : Wst W H) (g : Gr [] H H') : Wst W H' := fun a m z => by
  cases e : H a with
  | none => exact s a m e
  | some o =>
    rw [g a o (by simp) e] at z
    cases z
theorem Wst.ne {W : List Addr} {H : Hp} {p : Addr} (s : Wst W H) (n : H p = none) : p ∉ W := fun m => s p m n
theorem gr0 {W : List Addr} {H H' : Hp} (g : Gr [] H H') : Gr W H H' := g.mono (by simp)
section
variable {K : PySem.W.Frag} {σ : L2.St} {H : Hp} {W : List Addr}
theorem dpAll_take {H : Hp} : ∀ {vs : List V} {ds : List PyData} (j : Nat), DpAll K H vs ds → DpAll K H (vs.take j) (ds.take j)
  | _, _, 0, _ => by
    rw [List.take_zero, List.take_zero]
    exact .nil
  | _, _, j + 1, .nil => .nil
  | _, _, j + 1, .cons a b => .cons a (dpAll_take j b)
def EvW (K : PySem.W.Frag) (W : List Addr) (te : TE) (σ : L2.St) (H : Hp) (d : PyData) : Prop := ∀ H1, Gr W H H1 → Wst W H1 → ∀ Q : VK, (∀ v H2, Gr [] H1 H2 → Dp K (hid W H2) v d → Q v H2) → te σ H1 Q
def EsW (K : PySem.W.Frag) (W : List Addr) (ta : TA) (σ : L2.St) (H : Hp) (ds : List PyData) : Prop := ∀ H1, Gr W H H1 → Wst W H1 → ∀ Q : List V → Hp → Prop, (∀ vs H2, Gr [] H1 H2 → DpAll K (hid W H2) vs ds → Q vs H2) → ta σ H1 Q
def ElW (W : List Addr) (te : TE) (σ : L2.St) (H : Hp) (xs : List Nat) : Prop := ∀ H1, Gr W H H1 → Wst W H1 → ∀ Q : VK, (∀ p H2, Gr [] H1 H2 → p ∉ W → H2 p = some (.lst (vn xs)) → Q (.ref p) H2) → te σ H1 Q
theorem ew_var {i : Nat} {v : V} {d : PyData} (e : σ[i]? = some (some v)) (h : Dp K (hid W H) v d) : EvW K W (tVar i) σ H d := fun H1 g _ Q q => ⟨v, e, q v H1 (Gr.refl _ _) (Dp.kp (hid_kp g) h)⟩
theorem ew_int {i : Int} : EvW K W (tC (.int i)) σ H (.int i) := fun H1 _ _ Q q => q _ H1 (Gr.refl _ _) (.int i)
theorem ew_bl {i : Bool} : EvW K W (tC (.bl i)) σ H (.bool i) := fun H1 _ _ Q q => q _ H1 (Gr.refl _ _) (.bl i)
theorem ew_str {i : Str} : EvW K W (tC (.str i)) σ H (.str i) := fun H1 _ _ Q q => q _ H1 (Gr.refl _ _) (.str i)
theorem ew_non : EvW K W (tC .non) σ H .none := fun H1 _ _ Q q => q _ H1 (Gr.refl _ _) .non
theorem esw_nil : EsW K W tNil σ H [] := fun H1 _ _ Q q => q _ H1 (Gr.refl _ _) .nil
theorem esw_cons {te : TE} {ta : TA} {d : PyData} {ds : List PyData} (h : EvW K W te σ H d) (r : EsW K W ta σ H ds) : EsW K W (tCons te ta) σ H (d :: ds) := fun H1 g s Q q =>
  h H1 g s _ fun v H2 g2 dv => r H2 (g.trans (gr0 g2)) (s.gr g2) _ fun vs H3 g3 dvs => q _ H3 (g2.trans g3) (.cons (Dp.kp (hid_kp (gr0 g3)) dv) dvs)
theorem ew_tup {ta : TA} {ds : List PyData} (h : EsW K W ta σ H ds) (hz : ds.length ≤ 1000 := by exact Nat.le_of_ble_eq_true rfl) : EvW K W (tTup ta) σ H (.tuple ds) := fun H1 g s Q q =>
  h H1 g s _ fun vs H2 g2 a => ⟨by rw [dpAll_len a]; exact Nat.le_of_lt (small1000 hz), fun p np => q _ _ (g2.trans (Gr.new np)) (dp_tup (hid_get upd_same ((s.gr g2).ne np)) (DpAll.kp (hid_kp (Gr.new np)) a))⟩
theorem ew_lst {ta : TA} {ds : List PyData} (h : EsW K W ta σ H ds) (hz : ds.length ≤ 1000 := by exact Nat.le_of_ble_eq_true rfl) : EvW K W (tLst ta) σ H (.list ds) := fun H1 g s Q q =>
  h H1 g s _ fun vs H2 g2 a => ⟨by rw [dpAll_len a]; exact Nat.le_of_lt (small1000 hz), fun p np => q _ _ (g2.trans (Gr.new np)) (dp_lst (hid_get upd_same ((s.gr g2).ne np)) (DpAll.kp (hid_kp (Gr.new np)) a))⟩
theorem elw_var {i : Nat} {r : Addr} {xs : List Nat} (e : σ[i]? = some (some (.ref r))) (h : H r = some (.lst (vn xs))) (n : r ∉ W) : ElW W (tVar i) σ H xs := fun H1 g _ Q q => ⟨_, e, q r H1 (Gr.refl _ _) n (g r _ n h)⟩
def lstD (xs : List Nat) : PyData := .list ((ni xs).map PyData.int)
theorem elw_d {te : TE} {xs : List Nat} (h : ElW W te σ H xs) : EvW K W te σ H (lstD xs) := fun H1 g s Q q => h H1 g s _ fun p H2 g2 n e => q _ H2 g2 (dp_vnL (hid_get e n))
theorem elw_take {te : TE} {xs : List Nat} {j : Nat} (h : ElW W te σ H xs) (hj : j ≤ xs.length) : ElW W (tSl (rSlL K) te tNoPart (tPart (tC (.int (j : Nat))))) σ H (xs.take j) := fun H1 g s Q q =>
  h H1 g s _ fun p H2 g2 n e => ⟨(j : Int), rfl, p, vn xs, rfl, sq_lst e, fun t nt => q t _ (g2.trans (Gr.new nt)) ((s.gr g2).ne nt) (by
    rw [upd_same, cut_lo (by rw [vn_len]; exact hj)]
    unfold vn
    rw [List.map_take])⟩
theorem elw_drop {te : TE} {xs : List Nat} {j : Nat} (h : ElW W te σ H xs) (hj : j ≤ xs.length) : ElW W (tSl (rSlL K) te (tPart (tC (.int (j : Nat)))) tNoPart) σ H (xs.drop j) := fun H1 g s Q q =>
  h H1 g s _ fun p H2 g2 n e => ⟨(j : Int), rfl, p, vn xs, rfl, sq_lst e, fun t nt => q t _ (g2.trans (Gr.new nt)) ((s.gr g2).ne nt) (by
    rw [upd_same, cut_hi (by rw [vn_len]; exact hj)]
    unfold vn
    rw [List.map_drop])⟩
theorem cut_init {xs : List Nat} {y : Nat} : cutV (vn (xs ++ [y])) none (some (-1)) = vn xs := by
  unfold cutV
  have e : HT.sIx (vn (xs ++ [y])).length (vn (xs ++ [y])).length (some (-1)) = xs.length := by
    have e0 : ∀ n d : Nat, HT.sIx n d (some (-1)) = ((-1 : Int) + (n : Int)).toNat := fun n d => by
      unfold HT.sIx
      exact if_pos (by decide)
    rw [e0, vn_len, List.length_append]
    show ((-1 : Int) + ((xs.length + 1 : Nat) : Int)).toNat = _
    omega
  rw [e, HT.sIx_none, List.drop_zero, Nat.sub_zero]
  unfold vn
  rw [← List.map_take, List.take_append_of_le_length (Nat.le_refl _), List.take_length]
theorem elw_init {te : TE} {xs : List Nat} {y : Nat} (h : ElW W te σ H (xs ++ [y])) : ElW W (tSl (rSlL K) te tNoPart (tPart (tUn (rU fun i => V.int (-i)) (tC (.int 1))))) σ H xs := fun H1 g s Q q =>
  h H1 g s _ fun p H2 g2 n e => ⟨1, rfl, (-1 : Int), rfl, p, vn (xs ++ [y]), rfl, sq_lst e, fun t nt => q t _ (g2.trans (Gr.new nt)) ((s.gr g2).ne nt) (by rw [upd_same, cut_init])⟩
theorem elw_cat {ta tb : TE} {xs ys : List Nat} (h1 : ElW W ta σ H xs) (h2 : ElW W tb σ H ys) (hz : xs.length + ys.length ≤ 6000) : ElW W (tOp rCat ta tb) σ H (xs ++ ys) := fun H1 g s Q q =>
  h1 H1 g s _ fun p H2 g2 n2 e2 => h2 H2 (g.trans (gr0 g2)) (s.gr g2) _ fun p3 H3 g3 n3 e3 =>
    ⟨p, p3, vn xs, vn ys, rfl, rfl, g3 p _ (by simp) e2, e3, by rw [vn_len, vn_len]; exact Nat.le_trans hz (by decide), fun t nt => q t _ ((g2.trans g3).trans (Gr.new nt)) (((s.gr g2).gr g3).ne nt) (by
      rw [upd_same]
      unfold vn
      rw [List.map_append])⟩
theorem ew_tupOf {te : TE} {xs : List Nat} (h : ElW W te σ H xs) : EvW K W (tCB (rTpO K) (tCons te tNil)) σ H (di xs) := fun H1 g s Q q =>
  h H1 g s _ fun p H2 g2 n e => ⟨p, vn xs, rfl, .inl ⟨sq_lst e, fun t nt => q _ _ (g2.trans (Gr.new nt)) (dp_vnT (hid_get upd_same ((s.gr g2).ne nt)))⟩⟩
theorem ew_listOf {te : TE} {ds : List PyData} (h : EvW K W te σ H (.tuple ds)) : EvW K W (tCB (rLsO K) (tCons te tNil)) σ H (.list ds) := fun H1 g s Q q =>
  h H1 g s _ fun v H2 g2 e => by
    cases e with
    | tup s' a' => exact ⟨_, _, rfl, .inr (hid_out.sqT s'), fun l nl => q _ _ (g2.trans (Gr.new nl)) (dp_lst (hid_get upd_same ((s.gr g2).ne nl)) (DpAll.kp (hid_kp (Gr.new nl)) a'))⟩
theorem ew_slT {te : TE} {ds : List PyData} {j : Nat} (h : EvW K W te σ H (.tuple ds)) (hj : j ≤ ds.length) : EvW K W (tSl (rSlA K) te tNoPart (tPart (tC (.int (j : Nat))))) σ H (.tuple (ds.take j)) := fun H1 g s Q q =>
  h H1 g s _ fun v H2 g2 e => by
    cases e with
    | @tup a ys _ s' t =>
      have hl := dpAll_len t
      refine ⟨(j : Int), rfl, a, ys, rfl, hid_out.sqT s', fun z => ?_, fun _ p np => ?_⟩
      · have e1 := z.2
        rw [HT.sIx_nat] at e1
        have e2 : ds.take j = ds := List.take_of_length_le (by omega)
        refine q _ H2 g2 ?_
        rw [e2]
        exact .tup s' t
      · refine q _ _ (g2.trans (Gr.new np)) (dp_tup (hid_get upd_same ((s.gr g2).ne np)) ?_)
        rw [cut_lo (by omega)]
        exact DpAll.kp (hid_kp (Gr.new np)) (dpAll_take j t)
theorem ew_catT {ta tb : TE} {ds es : List PyData} (h1 : EvW K W ta σ H (.tuple ds)) (h2 : EvW K W tb σ H (.tuple es)) (hz : ds.length + es.length ≤ 6000) : EvW K W (tOp (rCatA K) ta tb) σ H (.tuple (ds ++ es)) := fun H1 g s Q q =>
  h1 H1 g s _ fun v H2 g2 e2 => h2 H2 (g.trans (gr0 g2)) (s.gr g2) _ fun v3 H3 g3 e3 => by
    have e2 := Dp.kp (hid_kp (gr0 g3)) e2
    cases e2 with
    | @tup a xs _ s1 t1 =>
      cases e3 with
      | @tup b ys _ s2 t2 =>
        have l1 := dpAll_len t1
        have l2 := dpAll_len t2
        refine ⟨a, b, xs, ys, rfl, rfl, hid_out.sqT s1, hid_out.sqT s2, Nat.le_trans (show _ ≤ 6000 by omega) (by decide), fun z => ?_, fun _ z => ?_, fun _ _ p np => ?_⟩
        · subst z
          cases t1
          exact q _ H3 (g2.trans g3) (.tup s2 t2)
        · subst z
          cases t2
          rw [List.append_nil] at q
          exact q _ H3 (g2.trans g3) (.tup s1 t1)
        · exact q _ _ ((g2.trans g3).trans (Gr.new np)) (dp_tup (hid_get upd_same (((s.gr g2).gr g3).ne np)) (DpAll.kp (hid_kp (Gr.new np)) (dpAll_append t1 t2)))
/-- a pair put to a list that grows -/
theorem hid_put {H : Hp} {S p : Addr} {vs : List V} {ds : List PyData} {s : Str} {v : V} {d : PyData} (e : H S = some (.lst vs)) (a : DpAll K (hid [S] H) vs ds) (h : Dp K (hid [S] H) v d) (np : H p = none) :
    (upd H p (.tup [.str s, v])) S = some (.lst vs) ∧ Gr [S] H (upd (upd H p (.tup [.str s, v])) S (.lst (vs ++ [.ref p]))) ∧ DpAll K (hid [S] (upd (upd H p (.tup [.str s, v])) S (.lst (vs ++ [.ref p])))) (vs ++ [.ref p]) (ds ++ [.tuple [.str s, d]]) := by
  have hne : p ≠ S := fun z => by
    subst z
    rw [np] at e
    cases e
  have g1 : Gr [] H (upd H p (.tup [.str s, v])) := Gr.new np
  have g2 : Gr [S] H (upd (upd H p (.tup [.str s, v])) S (.lst (vs ++ [.ref p]))) := (gr0 g1).trans (Gr.wr (by simp))
  have hp : hid [S] (upd (upd H p (.tup [.str s, v])) S (.lst (vs ++ [.ref p]))) p = some (.tup [.str s, v]) := hid_get (by rw [upd_ne hne, upd_same]) (by simpa using hne)
  exact ⟨g1 S _ (by simp) e, g2, dpAll_append (DpAll.kp (hid_kp g2) a) (.cons (dp_tup hp (.cons (.str _) (.cons (Dp.kp (hid_kp g2) h) .nil))) .nil)⟩
end

theorem EvW.evd {K : PySem.W.Frag} {te : TE} {σ : L2.St} {H : Hp} {d : PyData} (h : EvW K [] te σ H d) : EvD K te σ H d := fun H1 g Q q => h H1 g (fun a m => by simp at m) Q fun v H2 g2 e => q v H2 g2 (Dp.kp hid_out e)
theorem EvD.evw {K : PySem.W.Frag} {te : TE} {σ : L2.St} {H : Hp} {d : PyData} (h : EvD K te σ H d) : EvW K [] te σ H d := fun H1 g _ Q q => h H1 g Q fun v H2 g2 e => q v H2 g2 (Dp.kp hid_in0 e)
theorem dpA_at {K : PySem.W.Frag} {H : Hp} : ∀ {xs : List V} {ds : List PyData} {i : Nat} {y : V}, DpAll K H xs ds → xs[i]? = some y → ∃ d, ds[i]? = some d ∧ Dp K H y d
  | _, _, i, y, .nil, h => by simp at h
  | _, _, 0, y, .cons a b, h => by
    simp at h
    subst h
    exact ⟨_, rfl, a⟩
  | _, _, i + 1, y, .cons a b, h => by
    obtain ⟨d, e1, e2⟩ := dpA_at (i := i) b (by simpa using h)
    exact ⟨d, by simpa using e1, e2⟩
theorem dpA_get {K : PySem.W.Frag} {H : Hp} : ∀ {xs : List V} {ds : List PyData} {i : Nat} {d : PyData}, DpAll K H xs ds → ds[i]? = some d → ∃ y, xs[i]? = some y ∧ Dp K H y d
  | _, _, i, y, .nil, h => by simp at h
  | _, _, 0, y, .cons a b, h => by
    simp at h
    subst h
    exact ⟨_, rfl, a⟩
  | _, _, i + 1, y, .cons a b, h => by
    obtain ⟨d, e1, e2⟩ := dpA_get (i := i) b (by simpa using h)
    exact ⟨d, by simpa using e1, e2⟩
theorem dpA_drop {K : PySem.W.Frag} {H : Hp} : ∀ {vs : List V} {ds : List PyData} (j : Nat), DpAll K H vs ds → DpAll K H (vs.drop j) (ds.drop j)
  | _, _, 0, h => by
    rw [List.drop_zero, List.drop_zero]
    exact h
  | _, _, j + 1, .nil => .nil
  | _, _, j + 1, .cons a b => dpA_drop j b
theorem dpA_rev {K : PySem.W.Frag} {H : Hp} : ∀ {vs : List V} {ds : List PyData}, DpAll K H vs ds → DpAll K H vs.reverse ds.reverse
  | _, _, .nil => .nil
  | _, _, .cons a b => by
    rw [List.reverse_cons, List.reverse_cons]
    exact dpAll_append (dpA_rev b) (.cons a .nil)
theorem hid_ofM {W : List Addr} {H H' : Hp} {d : Addr} (g : Gr [d] H H') (h : ∃ kvs, H d = some (.dK kvs)) (n : d ∉ W) : Kp (hid W H) (hid W H') :=
  Kp.ofM (d := d) (fun a o m e => hid_get (g a o m (hid_inv e).2) (hid_inv e).1) (by
    obtain ⟨kvs, h⟩ := h
    exact ⟨kvs, hid_get h n⟩)
theorem fresh_keep {H H1 H2 : Hp} {d : Addr} (nd : H d = none) (g1 : Gr [] H H1) (g2 : Gr [d] H1 H2) : Gr [] H H2 := fun u o _ e => g2 u o (by rw [List.mem_singleton]; exact ne_of_none e nd) (g1 u o (by simp) e)
theorem cut_hi' {xs : List V} {j : Nat} : cutV xs (some (j : Int)) none = xs.drop j := by
  unfold cutV
  rw [HT.sIx_nat, HT.sIx_none]
  rcases Nat.le_total j xs.length with h | h
  · rw [Nat.min_eq_left h]
    exact List.take_of_length_le (by rw [List.length_drop]; omega)
  · rw [Nat.min_eq_right h, List.drop_eq_nil_of_le h, Nat.sub_self, List.take_zero]
theorem cut_lo' {xs : List V} {j : Nat} : cutV xs none (some (j : Int)) = xs.take j := by
  unfold cutV
  rw [HT.sIx_nat, HT.sIx_none, List.drop_zero, Nat.sub_zero]
  rcases Nat.le_total j xs.length with h | h
  · rw [Nat.min_eq_left h]
  · rw [Nat.min_eq_right h, List.take_of_length_le h, List.take_of_length_le (Nat.le_refl _)]
section
variable {K : PySem.W.Frag} {σ : L2.St} {H : Hp} {W : List Addr}
theorem EvW.on {te : TE} {d : PyData} {H' : Hp} (h : EvW K W te σ H d) (g : Gr W H H') : EvW K W te σ H' d := fun H1 g1 s Q q => h H1 (g.trans g1) s Q q
theorem ew_i0 {g : Int → Int → Int} {ta tb : TE} {i j : Int} (h1 : EvW K W ta σ H (.int i)) (h2 : EvW K W tb σ H (.int j)) : EvW K W (tOp (rI0 fun i j => .int (g i j)) ta tb) σ H (.int (g i j)) := fun H1 gr s Q q =>
  h1 H1 gr s _ fun v H2 g2 e => h2 H2 (gr.trans (gr0 g2)) (s.gr g2) _ fun w H3 g3 e3 => by
    obtain rfl := dp_int e
    obtain rfl := dp_int e3
    exact ⟨i, j, rfl, rfl, q _ H3 (g2.trans g3) (.int _)⟩
theorem ew_iC {C : Int → Int → Prop} {g : Int → Int → Int} {ta tb : TE} {i j : Int} (h1 : EvW K W ta σ H (.int i)) (h2 : EvW K W tb σ H (.int j)) (hc : C i j) : EvW K W (tOp (rI C fun i j => .int (g i j)) ta tb) σ H (.int (g i j)) := fun H1 gr s Q q =>
  h1 H1 gr s _ fun v H2 g2 e => h2 H2 (gr.trans (gr0 g2)) (s.gr g2) _ fun w H3 g3 e3 => by
    obtain rfl := dp_int e
    obtain rfl := dp_int e3
    exact ⟨i, j, rfl, rfl, hc, q _ H3 (g2.trans g3) (.int _)⟩
theorem ew_neg {g : Int → Int} {ta : TE} {i : Int} (h1 : EvW K W ta σ H (.int i)) : EvW K W (tUn (rU fun i => .int (g i)) ta) σ H (.int (g i)) := fun H1 gr s Q q =>
  h1 H1 gr s _ fun v H2 g2 e => by
    obtain rfl := dp_int e
    exact ⟨i, rfl, q _ H2 g2 (.int _)⟩
theorem ew_to {te : TE} {d e : PyData} (h : EvW K W te σ H d) (z : d = e) : EvW K W te σ H e := z ▸ h
theorem ew_take {te tp : TE} {ds : List PyData} {j : Nat} (h : EvW K W te σ H (.tuple ds)) (hp : EvW K W tp σ H (.int (j : Nat))) : EvW K W (tSl (rSlA K) te tNoPart (tPart tp)) σ H (.tuple (ds.take j)) := fun H1 g s Q q =>
  h H1 g s _ fun v H2 g2 e => hp H2 (g.trans (gr0 g2)) (s.gr g2) _ fun vj H3 g3 ej => by
    obtain rfl := dp_int ej
    have e := Dp.kp (hid_kp (gr0 g3)) e
    cases e with
    | @tup a ys _ s' t =>
      have hl := dpAll_len t
      refine ⟨(j : Int), rfl, a, ys, rfl, hid_out.sqT s', fun z => ?_, fun _ p np => ?_⟩
      · have e1 := z.2
        rw [HT.sIx_nat] at e1
        have e2 : ds.take j = ds := List.take_of_length_le (by omega)
        refine q _ H3 (g2.trans g3) ?_
        rw [e2]
        exact .tup s' t
      · refine q _ _ ((g2.trans g3).trans (Gr.new np)) (dp_tup (hid_get upd_same (((s.gr g2).gr g3).ne np)) ?_)
        rw [cut_lo']
        exact DpAll.kp (hid_kp (Gr.new np)) (dpAll_take j t)
theorem ew_drop {te tp : TE} {ds : List PyData} {j : Nat} (h : EvW K W te σ H (.tuple ds)) (hp : EvW K W tp σ H (.int (j : Nat))) : EvW K W (tSl (rSlA K) te (tPart tp) tNoPart) σ H (.tuple (ds.drop j)) := fun H1 g s Q q =>
  h H1 g s _ fun v H2 g2 e => hp H2 (g.trans (gr0 g2)) (s.gr g2) _ fun vj H3 g3 ej => by
    obtain rfl := dp_int ej
    have e := Dp.kp (hid_kp (gr0 g3)) e
    cases e with
    | @tup a ys _ s' t =>
      have hl := dpAll_len t
      refine ⟨(j : Int), rfl, a, ys, rfl, hid_out.sqT s', fun z => ?_, fun _ p np => ?_⟩
      · have e1 := z.1
        rw [HT.sIx_nat] at e1
        refine q _ H3 (g2.trans g3) ?_
        have e2 : ds.drop j = ds := by
          rcases Nat.eq_zero_or_pos j with z | z
          · subst z
            rfl
          · have : ds.length = 0 := by omega
            rw [List.length_eq_zero_iff.mp this]
            cases j <;> rfl
        rw [e2]
        exact .tup s' t
      · refine q _ _ ((g2.trans g3).trans (Gr.new np)) (dp_tup (hid_get upd_same (((s.gr g2).gr g3).ne np)) ?_)
        rw [cut_hi']
        exact DpAll.kp (hid_kp (Gr.new np)) (dpA_drop j t)
theorem ew_rev {te : TE} {ds : List PyData} (h : EvW K W te σ H (.tuple ds)) : EvW K W (tStL (rRvT K) te (tUn (rU fun i => V.int (-i)) (tC (.int 1)))) σ H (.tuple ds.reverse) := fun H1 g s Q q =>
  h H1 g s _ fun v H2 g2 e => by
    cases e with
    | @tup a ys _ s' t =>
      exact ⟨1, rfl, a, ys, rfl, rfl, hid_out.sqT s', fun p np => q _ _ (g2.trans (Gr.new np)) (dp_tup (hid_get upd_same ((s.gr g2).ne np)) (DpAll.kp (hid_kp (Gr.new np)) (dpA_rev t)))⟩
theorem ew_ixT {te ti : TE} {ds : List PyData} {d : PyData} {j : Nat} (h : EvW K W te σ H (.tuple ds)) (hi : EvW K W ti σ H (.int (j : Nat))) (hj : ds[j]? = some d) : EvW K W (tOp (rIxT K) te ti) σ H d := fun H1 g s Q q =>
  h H1 g s _ fun v H2 g2 e => hi H2 (g.trans (gr0 g2)) (s.gr g2) _ fun vi H3 g3 ei => by
    obtain rfl := dp_int ei
    have e := Dp.kp (hid_kp (gr0 g3)) e
    cases e with
    | @tup a ys _ s' t =>
      obtain ⟨y, hy, dy⟩ := dpA_get t hj
      exact ⟨a, ys, (j : Int), y, rfl, rfl, hid_out.sqT s', atI_nat hy, q _ H3 (g2.trans g3) dy⟩
theorem ew_ixL {te ti : TE} {ds : List PyData} {d : PyData} {j : Nat} (h : EvW K W te σ H (.list ds)) (hi : EvW K W ti σ H (.int (j : Nat))) (hj : ds[j]? = some d) : EvW K W (tOp (rIxL K) te ti) σ H d := fun H1 g s Q q =>
  h H1 g s _ fun v H2 g2 e => hi H2 (g.trans (gr0 g2)) (s.gr g2) _ fun vi H3 g3 ei => by
    obtain rfl := dp_int ei
    have e := Dp.kp (hid_kp (gr0 g3)) e
    cases e with
    | @lst a ys _ s' t =>
      obtain ⟨y, hy, dy⟩ := dpA_get t hj
      exact ⟨a, ys, (j : Int), y, rfl, rfl, hid_out.sqL s', atI_nat hy, q _ H3 (g2.trans g3) dy⟩
theorem ew_lenT {te : TE} {ds : List PyData} (h : EvW K W te σ H (.tuple ds)) : EvW K W (tCB (rLn K) (tCons te tNil)) σ H (.int (ds.length : Nat)) := fun H1 g s Q q =>
  h H1 g s _ fun v H2 g2 e => by
    cases e with
    | @tup a ys _ s' t => exact ⟨a, ys, rfl, .inr (hid_out.sqT s'), by rw [dpAll_len t]; exact q _ H2 g2 (.int _)⟩
theorem ew_lenL {te : TE} {ds : List PyData} (h : EvW K W te σ H (.list ds)) : EvW K W (tCB (rLn K) (tCons te tNil)) σ H (.int (ds.length : Nat)) := fun H1 g s Q q =>
  h H1 g s _ fun v H2 g2 e => by
    cases e with
    | @lst a ys _ s' t => exact ⟨a, ys, rfl, .inl (hid_out.sqL s'), by rw [dpAll_len t]; exact q _ H2 g2 (.int _)⟩
theorem ew_repr {te : TE} {d : PyData} (h : EvW K W te σ H d) (f : Fits d) : EvW K W (tCB (rRepr K) (tCons te tNil)) σ H (.str d.shown) := fun H1 g s Q q =>
  h H1 g s _ fun v H2 g2 a => ⟨v, d, rfl, Dp.kp hid_out a, f, q _ H2 g2 (.str _)⟩
theorem ew_neS {ta tb : TE} {x y : Str} (h1 : EvW K W ta σ H (.str x)) (h2 : EvW K W tb σ H (.str y)) : EvW K W (tOp rNe ta tb) σ H (.bool (!decide (x = y))) := fun H1 g s Q q =>
  h1 H1 g s _ fun v H2 g2 a => h2 H2 (g.trans (gr0 g2)) (s.gr g2) _ fun w H3 g3 b => by
    have e1 : v = .str x := by cases a; rfl
    have e2 : w = .str y := by cases b; rfl
    subst e1 e2
    refine ⟨rfl, ?_⟩
    have e3 : decide (V.str x = V.str y) = decide (x = y) := by
      rw [decide_eq_decide]
      exact ⟨fun z => V.str.inj z, fun z => by rw [z]⟩
    show Q (.bl (!decide (V.str x = V.str y))) H3
    rw [e3]
    exact q _ H3 (g2.trans g3) (.bl _)
theorem ew_eqD {ta tb : TE} {d e : PyData} (h1 : EvW K W ta σ H d) (h2 : EvW K W tb σ H e) (s1 : SeqAt.shaped d = true) (s2 : SeqAt.shaped e = true) : EvW K W (tOp (rEqD K) ta tb) σ H (.bool (PyData.eqv d e)) := fun H1 g s Q q =>
  h1 H1 g s _ fun v H2 g2 a => h2 H2 (g.trans (gr0 g2)) (s.gr g2) _ fun w H3 g3 b => ⟨d, e, Dp.kp hid_out (Dp.kp (hid_kp (gr0 g3)) a), Dp.kp hid_out b, s1, s2, q _ H3 (g2.trans g3) (.bl _)⟩
theorem ew_neD {ta tb : TE} {d e : PyData} (h1 : EvW K W ta σ H d) (h2 : EvW K W tb σ H e) (s1 : SeqAt.shaped d = true) (s2 : SeqAt.shaped e = true) : EvW K W (tOp (rNeD K) ta tb) σ H (.bool (!PyData.eqv d e)) := fun H1 g s Q q =>
  h1 H1 g s _ fun v H2 g2 a => h2 H2 (g.trans (gr0 g2)) (s.gr g2) _ fun w H3 g3 b => ⟨d, e, Dp.kp hid_out (Dp.kp (hid_kp (gr0 g3)) a), Dp.kp hid_out b, s1, s2, q _ H3 (g2.trans g3) (.bl _)⟩
/-- a test that is data, under hidden lists -/
theorem tw_of {te : TE} {b : Bool} {Q : Bool → Hp → Prop} (wst : Wst W H) (h : EvW K W te σ H (.bool b)) (q : ∀ H2, Gr [] H H2 → Q b H2) : tTest te σ H Q := h H (Gr.refl _ _) wst _ fun v H2 g2 e => ⟨b, dp_bool e, q H2 g2⟩
theorem twb_of {te : TE} {b : Bool} {Q : Bool → Hp → Prop} (wst : Wst W H) (h : EvW K W te σ H (.bool b)) (q : ∀ H2, Gr [] H H2 → Q b H2) : tB te σ H Q := h H (Gr.refl _ _) wst _ fun v H2 g2 e => ⟨b, dp_bool e, q H2 g2⟩
theorem st_asgW {ta : TA} {i : Nat} {ds : List PyData} {D : Ends} (h : EsW K [] ta σ H ds) (hz : ds.length ≤ 1000) (k : ∀ vs H2 S, Gr [] H H2 → H2 S = none → DpAll K H2 vs ds → D.nx (σ.set i (some (.ref S))) (upd H2 S (.lst vs))) : tAsg (tLst ta) (gName i) D σ H :=
  h H (Gr.refl _ _) (fun a m => by simp at m) _ fun vs H2 g2 a => ⟨by rw [dpAll_len a]; exact Nat.le_of_lt (small1000 hz), fun S nS => k vs H2 S g2 nS (DpAll.kp hid_out a)⟩
theorem st_asgV {ta : TA} {i : Nat} {ds : List PyData} {D : Ends} (wst : Wst W H) (h : EsW K W ta σ H ds) (hz : ds.length ≤ 1000) (k : ∀ os H2 p, Gr [] H H2 → H2 p = none → p ∉ W → DpAll K (hid W H2) os ds → D.nx (σ.set i (some (.ref p))) (upd H2 p (.lst os))) : tAsg (tLst ta) (gName i) D σ H :=
  h H (Gr.refl _ _) wst _ fun vs H2 g2 a => ⟨by rw [dpAll_len a]; exact Nat.le_of_lt (small1000 hz), fun p np => k vs H2 p g2 np ((wst.gr g2).ne np) a⟩
/-- xs.append(e), by the size of the list -/
theorem st_appD {te : TE} {i : Nat} {l : Addr} {xs : List V} {ds : List PyData} {d : PyData} {D : Ends} (hi : σ[i]? = some (some (.ref l))) (e : H l = some (.lst xs)) (a : DpAll K H xs ds) (h : EvW K [] te σ H d) (hn : noLenAll ds.length (ds ++ [d]) = true) (hz : ds.length < 1000)
    (k : ∀ ys H2, Gr [l] H H2 → H2 l = some (.lst ys) → DpAll K H2 ys (ds ++ [d]) → (∀ v d, Dp K H v d → noLen ds.length d = true → Dp K H2 v d) → D.nx σ H2) : tDrop (tBM K "list" rAppend (tVar i) (tCons te tNil)) D σ H := by
  refine ⟨_, hi, .inl ⟨rfl, _, sq_lst e⟩, ?_⟩
  refine h H (Gr.refl _ _) (fun a m => by simp at m) _ fun v H2 g2 dv => ?_
  have dv := Dp.kp hid_out dv
  have hl := dpAll_len a
  have e2 := g2 l _ (by simp) e
  have a2 := DpAll.kp (Kp.of g2) a
  rw [noLenAll_app, Bool.and_eq_true] at hn
  have n2 : noLen ds.length d = true := by
    have := hn.2
    rw [noLenAll, Bool.and_eq_true] at this
    exact this.1
  refine ⟨l, xs, v, rfl, rfl, e2, Nat.lt_of_lt_of_le (show xs.length < 6000 by omega) (by decide), ?_⟩
  refine k (xs ++ [v]) _ ((gr0 g2).trans (Gr.wr (by simp))) upd_same (dpAll_append (DpAll.app e2 a2 (by rw [hl]; exact hn.1)) (.cons (Dp.app e2 dv (by rw [hl]; exact n2)) .nil)) fun w dd hw hn => ?_
  exact Dp.app e2 (Dp.kp (Kp.of g2) hw) (by rw [hl]; exact hn)
theorem dpA_ints : ∀ {H : Hp} {vs : List V} {zs : List Int}, DpAll K H vs (zs.map PyData.int) → vs = zs.map V.int
  | _, _, [], .nil => rfl
  | _, _, z :: zs, .cons a b => by
    rw [dp_int a, dpA_ints b]
    rfl
theorem dpA_int2 {H : Hp} {vs : List V} {x : Int} {d : PyData} (h : DpAll K H vs [.int x, d]) : ∃ v, vs = [.int x, v] ∧ Dp K H v d := by
  cases h with
  | cons a h =>
    cases h with
    | cons b h =>
      cases h
      obtain rfl := dp_int a
      exact ⟨_, rfl, b⟩
theorem dpA_int3 {H : Hp} {vs : List V} {x y : Int} {d : PyData} (h : DpAll K H vs [.int x, .int y, d]) : ∃ v, vs = [.int x, .int y, v] ∧ Dp K H v d := by
  cases h with
  | cons a h =>
    obtain rfl := dp_int a
    obtain ⟨v, rfl, e⟩ := dpA_int2 h
    exact ⟨v, rfl, e⟩
theorem dp_two {H : Hp} {v : V} {i j : Int} (h : Dp K H v (.tuple [.int i, .int j])) : ∃ a, v = .ref a ∧ SqT K H a [.int i, .int j] := by
  cases h with
  | @tup a xs _ s t =>
    cases t with
    | cons h1 t =>
      cases t with
      | cons h2 t =>
        cases t
        obtain rfl := dp_int h1
        obtain rfl := dp_int h2
        exact ⟨a, rfl, s⟩
theorem two_dp {H : Hp} {a : Addr} {i j : Int} (s : SqT K H a [.int i, .int j]) : Dp K H (.ref a) (.tuple [.int i, .int j]) := .tup s (.cons (.int _) (.cons (.int _) .nil))
/-- a call that gives data -/
def SpD (K : PySem.W.Frag) (sp : Sp) (E : XK) (ds : List PyData) (d : PyData) : Prop := ∀ vs H1 Q, DpAll K H1 vs ds → (∀ v H2, Gr [] H1 H2 → Dp K H2 v d → Q v H2) → sp vs H1 Q E
theorem ew_call {sp : Sp} {ta : TA} {E : XK} {ds : List PyData} {d : PyData} (h : EsW K [] ta σ H ds) (hs : SpD K sp E ds d) : EvW K [] (tCall sp [] E ta) σ H d := fun H1 g s Q q =>
  h H1 g s _ fun vs H2 g2 a => by
    show sp (vs ++ []) H2 Q E
    rw [List.append_nil]
    exact hs vs H2 Q (DpAll.kp hid_out a) fun v H3 g3 dv => q v H3 (g2.trans g3) (Dp.kp hid_in0 dv)
theorem ew_andV {ta tb : TE} {a b : Bool} (h1 : EvW K W ta σ H (.bool a)) (h2 : EvW K W tb σ H (.bool b)) : EvW K W (tAndV ta tb) σ H (.bool (a && b)) := fun H1 g s Q q =>
  h1 H1 g s _ fun v H2 g2 e => ⟨a, dp_bool e, by
    cases a with
    | true => exact iteT (h2 H2 (g.trans (gr0 g2)) (s.gr g2) _ fun w H3 g3 e3 => q w H3 (g2.trans g3) e3)
    | false => exact iteF (q _ H2 g2 (.bl false))⟩
theorem ew_orV {ta tb : TE} {a b : Bool} (h1 : EvW K W ta σ H (.bool a)) (h2 : EvW K W tb σ H (.bool b)) : EvW K W (tOrV ta tb) σ H (.bool (a || b)) := fun H1 g s Q q =>
  h1 H1 g s _ fun v H2 g2 e => ⟨a, dp_bool e, by
    cases a with
    | true => exact iteT (q _ H2 g2 (.bl true))
    | false => exact iteF (h2 H2 (g.trans (gr0 g2)) (s.gr g2) _ fun w H3 g3 e3 => q w H3 (g2.trans g3) e3)⟩
theorem ew_catL {ta tb : TE} {ds es : List PyData} (h1 : EvL K ta σ H ds) (h2 : EvL K tb σ H es) (hz : ds.length + es.length ≤ 1000) : EvW K [] (tOp rCat ta tb) σ H (.list (ds ++ es)) := (el_cat h1 h2 hz).d.evw
/-- scalars compared -/
theorem ew_eqI {ta tb : TE} {x y : Int} (h1 : EvW K W ta σ H (.int x)) (h2 : EvW K W tb σ H (.int y)) : EvW K W (tOp rEq ta tb) σ H (.bool (decide (x = y))) := fun H1 g s Q q =>
  h1 H1 g s _ fun v H2 g2 a => h2 H2 (g.trans (gr0 g2)) (s.gr g2) _ fun w H3 g3 b => by
    obtain rfl := dp_int a
    obtain rfl := dp_int b
    refine ⟨rfl, ?_⟩
    have e3 : decide (V.int x = V.int y) = decide (x = y) := by
      rw [decide_eq_decide]
      exact ⟨fun z => V.int.inj z, fun z => by rw [z]⟩
    show Q (.bl (decide (V.int x = V.int y))) H3
    rw [e3]
    exact q _ H3 (g2.trans g3) (.bl _)
theorem ew_neI {ta tb : TE} {x y : Int} (h1 : EvW K W ta σ H (.int x)) (h2 : EvW K W tb σ H (.int y)) : EvW K W (tOp rNe ta tb) σ H (.bool (!decide (x = y))) := fun H1 g s Q q =>
  h1 H1 g s _ fun v H2 g2 a => h2 H2 (g.trans (gr0 g2)) (s.gr g2) _ fun w H3 g3 b => by
    obtain rfl := dp_int a
    obtain rfl := dp_int b
    refine ⟨rfl, ?_⟩
    have e3 : decide (V.int x = V.int y) = decide (x = y) := by
      rw [decide_eq_decide]
      exact ⟨fun z => V.int.inj z, fun z => by rw [z]⟩
    show Q (.bl (!decide (V.int x = V.int y))) H3
    rw [e3]
    exact q _ H3 (g2.trans g3) (.bl _)
theorem ew_bool {te : TE} {a b : Bool} (h : EvW K W te σ H (.bool a)) (e : a = b) : EvW K W te σ H (.bool b) := e ▸ h
/-- x = e, e data, beside hidden lists -/
theorem st_setW {te : TE} {i : Nat} {d : PyData} {D : Ends} (wst : Wst W H) (h : EvW K W te σ H d) (k : ∀ v H2, Gr [] H H2 → Dp K (hid W H2) v d → D.nx (σ.set i (some v)) H2) : tAsg te (gName i) D σ H := h H (Gr.refl _ _) wst _ k
/-- xs = xs + [..], the list and what it holds; all else stays -/
theorem st_catW {ta : TA} {i j : Nat} {S : Addr} {vs : List V} {ds es : List PyData} {D : Ends} (hj : σ[j]? = some (some (.ref S))) (hS : H S = some (.lst vs)) (a : DpAll K H vs ds) (h : EsW K [] ta σ H es) (hz : ds.length + es.length ≤ 1000)
    (k : ∀ ws H2 S2, Gr [] H H2 → H2 S2 = none → DpAll K H2 ws (ds ++ es) → D.nx (σ.set i (some (.ref S2))) (upd H2 S2 (.lst ws))) : tAsg (tOp rCat (tVar j) (tLst ta)) (gName i) D σ H :=
  ⟨_, hj, h H (Gr.refl _ _) (fun a m => by simp at m) _ fun ws H2 g2 b => ⟨by rw [dpAll_len b]; exact Nat.le_of_lt (small1000 (by omega)), fun p np => by
    have g3 : Gr [] H2 (upd H2 p (.lst ws)) := Gr.new np
    have l1 := dpAll_len a
    have l2 := dpAll_len b
    refine ⟨S, p, vs, ws, rfl, rfl, (g2.trans g3) S _ (by simp) hS, upd_same, Nat.le_trans (show _ ≤ 6000 by omega) (by decide), fun S2 n2 => ?_⟩
    exact k _ _ S2 (g2.trans g3) n2 (dpAll_append (DpAll.kp (Kp.of (g2.trans g3)) a) (DpAll.kp (Kp.of g3) (DpAll.kp hid_out b)))⟩⟩
/-- xs.append(e) -/
theorem st_appW {te : TE} {i : Nat} {S : Addr} {vs : List V} {ds : List PyData} {e : PyData} {D : Ends} (hi : σ[i]? = some (some (.ref S))) (hS : H S = some (.lst vs)) (a : DpAll K (hid [S] H) vs ds) (h : EvW K [S] te σ H e) (hz : ds.length ≤ 6000)
    (k : ∀ ws H2, Gr [S] H H2 → H2 S = some (.lst ws) → DpAll K (hid [S] H2) ws (ds ++ [e]) → D.nx σ H2) : tDrop (tBM K "list" rAppend (tVar i) (tCons te tNil)) D σ H := by
  refine ⟨_, hi, .inl ⟨rfl, _, sq_lst hS⟩, h H (Gr.refl _ _) (fun a m => by rw [List.mem_singleton] at m; subst m; rw [hS]; exact fun z => by cases z) _ fun v H2 g2 ev => ?_⟩
  have hS2 := g2 S _ (by simp) hS
  have g3 : Gr [S] H2 (upd H2 S (.lst (vs ++ [v]))) := Gr.wr (by simp)
  have l1 := dpAll_len a
  refine ⟨S, vs, v, rfl, rfl, hS2, Nat.lt_of_lt_of_le (show vs.length < 7000 by omega) (by decide), ?_⟩
  refine k (vs ++ [v]) _ ((gr0 g2).trans g3) upd_same (dpAll_append (DpAll.kp ((hid_kp (gr0 g2)).trans (hid_kp g3)) a) (.cons (Dp.kp (hid_kp g3) ev) .nil))
/-- for x in xs: ys.append(..) -/
theorem for_appW {te : TE} {i9 i4 : Nat} {p S : Addr} {os vs : List V} {odds ds : List PyData} {f : PyData → PyData} {σ0 : L2.St} {H6 : Hp} {D : Ends} (hp : H6 p = some (.lst os)) (hpS : p ∉ [S]) (hS : H6 S = some (.lst vs)) (a : DpAll K (hid [S] H6) vs ds) (ao : DpAll K (hid [S] H6) os odds)
    (hz : ds.length + odds.length ≤ 6000) (h4 : σ0[i4]? = some (some (.ref S))) (hne : i9 ≠ i4) (h9 : i9 < σ0.length)
    (he : ∀ x v H', Gr [S] H6 H' → Dp K (hid [S] H') v x → x ∈ odds → EvW K [S] te (σ0.set i9 (some v)) H' (f x))
    (hd : ∀ v9 vs' H', Gr [S] H6 H' → H' S = some (.lst vs') → DpAll K (hid [S] H') vs' (ds ++ odds.map f) → D.nx (σ0.set i9 v9) H') (h0 : ∃ v, σ0 = σ0.set i9 v) :
    ∃ Wf : Nat → Nat → L2.St → Hp → Prop, (∃ m, Wf 0 m σ0 H6) ∧ ∀ i m σ H, Wf i m σ H →
      ((Itl K p).stop i H ∧ D.nx σ H) ∨ ((Itl K p).go i H ∧ ∃ N : L2.St → Hp → Prop, (∀ σ' H', N σ' H' → ∃ m', m' < m ∧ Wf (i + 1) m' σ' H') ∧ ∀ x H', (Itl K p).yld i H x H' → gName i9 x σ H' fun σ2 H2 => tDrop (tBM K "list" rAppend (tVar i4) (tCons te tNil)) { D with nx := N, ct := N, bk := D.nx } σ2 H2) := by
  have lo := dpAll_len ao
  refine for_list (K := K) (a := p) (xs := os) (fun i σ H' => Gr [S] H6 H' ∧ ∃ v9 vs', H' S = some (.lst vs') ∧ DpAll K (hid [S] H') vs' (ds ++ (odds.take i).map f) ∧ σ = σ0.set i9 v9) ?_ (fun i σ H' _ z => sq_lst (z.1 p _ hpS hp)) ?_ ?_
  · obtain ⟨v, hv⟩ := h0
    exact ⟨Gr.refl _ _, v, vs, hS, by rw [List.take_zero, List.map_nil, List.append_nil]; exact a, hv⟩
  · rintro i x σ H' hx ⟨G, v9, vs', hS', a', rfl⟩
    obtain ⟨dd, hdd, dx⟩ := dpA_at ao hx
    have hi : i < odds.length := (List.getElem?_eq_some_iff.mp hdd).1
    have ed : odds[i] = dd := (List.getElem?_eq_some_iff.mp hdd).2
    show tDrop (tBM K "list" rAppend (tVar i4) (tCons te tNil)) _ ((σ0.set i9 v9).set i9 (some x)) H'
    rw [List.set_set]
    refine st_appW (K := K) (S := S) (vs := vs') (by rw [List.getElem?_set_ne hne]; exact h4) hS' a' (he dd x H' G (Dp.kp (hid_kp G) dx) (List.mem_of_getElem? hdd)) (by rw [List.length_append, List.length_map, List.length_take]; omega) fun ws H2 g2 hS2 a2 => ?_
    refine ⟨G.trans g2, some x, ws, hS2, ?_, rfl⟩
    rw [List.take_succ_eq_append_getElem hi, List.map_append, ed, ← List.append_assoc]
    exact a2
  · rintro σ H' ⟨G, v9, vs', hS', a', rfl⟩
    rw [lo, List.take_of_length_le (Nat.le_refl _)] at a'
    exact hd v9 vs' H' G hS' a'
end

section
variable {K : PySem.W.Frag} {σ : L2.St} {H : Hp}
/-- for x in a tuple that is data -/
theorem st_forT {tl : TE} {g : TG} {tb : TS} {D : Ends} {ds : List PyData} (h : EvW K [] tl σ H (.tuple ds)) (Pv : Hp → Nat → L2.St → Hp → Prop) (h0 : ∀ H2, Gr [] H H2 → Pv H2 0 σ H2) (hk : ∀ H2 i σ' H', Pv H2 i σ' H' → Kp H2 H')
    (hs : ∀ H2 i d v σ' H', Gr [] H H2 → ds[i]? = some d → Dp K H' v d → Pv H2 i σ' H' → g v σ' H' fun σ3 H3 => tb { D with nx := Pv H2 (i + 1), ct := Pv H2 (i + 1), bk := D.nx } σ3 H3) (hd : ∀ H2 σ' H', Gr [] H H2 → Pv H2 ds.length σ' H' → D.nx σ' H') : tFor (iTup K tl) g tb D σ H :=
  h H (Gr.refl _ _) (fun a m => by simp at m) _ fun v H2 g2 e => by
    have e := Dp.kp hid_out e
    cases e with
    | @tup a xs _ s t =>
      have lx := dpAll_len t
      refine ⟨a, rfl, ⟨_, s⟩, ?_⟩
      refine for_tup (K := K) (a := a) (xs := xs) (Pv H2) (h0 H2 g2) (fun i σ' H' _ z => (hk H2 i σ' H' z).sqT s) (fun i x σ' H' hx z => ?_) (fun σ' H' z => hd H2 σ' H' g2 (by rw [← lx]; exact z))
      obtain ⟨dd, hdd, dx⟩ := dpA_at t hx
      exact hs H2 i dd x σ' H' g2 hdd (Dp.kp (hk H2 i σ' H' z) dx) z
theorem st_forL {tl : TE} {g : TG} {tb : TS} {D : Ends} {ds : List PyData} (h : EvW K [] tl σ H (.list ds)) (Pv : Hp → Nat → L2.St → Hp → Prop) (h0 : ∀ H2, Gr [] H H2 → Pv H2 0 σ H2) (hk : ∀ H2 i σ' H', Pv H2 i σ' H' → Kp H2 H')
    (hs : ∀ H2 i d v σ' H', Gr [] H H2 → ds[i]? = some d → Dp K H' v d → Pv H2 i σ' H' → g v σ' H' fun σ3 H3 => tb { D with nx := Pv H2 (i + 1), ct := Pv H2 (i + 1), bk := D.nx } σ3 H3) (hd : ∀ H2 σ' H', Gr [] H H2 → Pv H2 ds.length σ' H' → D.nx σ' H') : tFor (iList K tl) g tb D σ H :=
  h H (Gr.refl _ _) (fun a m => by simp at m) _ fun v H2 g2 e => by
    have e := Dp.kp hid_out e
    cases e with
    | @lst a xs _ s t =>
      have lx := dpAll_len t
      refine ⟨a, rfl, ⟨_, s⟩, ?_⟩
      refine for_list (K := K) (a := a) (xs := xs) (Pv H2) (h0 H2 g2) (fun i σ' H' _ z => (hk H2 i σ' H' z).sqL s) (fun i x σ' H' hx z => ?_) (fun σ' H' z => hd H2 σ' H' g2 (by rw [← lx]; exact z))
      obtain ⟨dd, hdd, dx⟩ := dpA_at t hx
      exact hs H2 i dd x σ' H' g2 hdd (Dp.kp (hk H2 i σ' H' z) dx) z
end
theorem psNox {X : Cx} {st : Stmt} {t : TS} (h : PS X.nox st t) : PS X st t := ⟨fun pins s σ H D I hw =>
  wpAny_mono (h.run pins s σ H D (I.wish _) hw) (fun _ _ q => q.unwish) fun _ _ z => False.elim z⟩
/-! comprehensions that give data -/
mutual
/-- no list in it -/
def noL : PyData → Bool
  | .list _ => false
  | .tuple xs => noLAll xs
  | .dict _ => false
  | _ => true
def noLAll : List PyData → Bool
  | [] => true
  | x :: xs => noL x && noLAll xs
end
mutual
theorem dp_noL {K : PySem.W.Frag} {H : Hp} {D : Addr} {us : List V} (hD : H D = some (.lst us)) : ∀ {v : V} {d : PyData}, Dp K H v d → noL d = true → Dp K (hid [D] H) v d
  | _, _, .non, _ => .non
  | _, _, .bl b, _ => .bl b
  | _, _, .int i, _ => .int i
  | _, _, .str z, _ => .str z
  | _, _, .lst _ _, n => by cases n
  | _, _, .tup (a := a) (xs := zs) (ds := ds) s t, n => by
    have n : noLAll ds = true := n
    refine .tup ?_ (dpA_noL hD t n)
    have ne : ∀ {o}, H a = some o → (∀ u, o ≠ .lst u) → a ∉ [D] := fun {o} h k m => by
      rw [List.mem_singleton] at m
      subst m
      rw [hD] at h
      injection h with h
      exact k us h.symm
    rcases s with (s | ⟨o, s⟩) | s
    · exact .inl (.inl (hid_get s (ne s fun u z => by cases z)))
    · exact .inl (.inr ⟨o, hid_get s (ne s fun u z => by cases z)⟩)
    · exact .inr s
theorem dpA_noL {K : PySem.W.Frag} {H : Hp} {D : Addr} {us : List V} (hD : H D = some (.lst us)) : ∀ {vs : List V} {ds : List PyData}, DpAll K H vs ds → noLAll ds = true → DpAll K (hid [D] H) vs ds
  | _, _, .nil, _ => .nil
  | _, _, .cons a b, n => by
    rw [noLAll, Bool.and_eq_true] at n
    exact .cons (dp_noL hD a n.1) (dpA_noL hD b n.2)
end
section
variable {K : PySem.W.Frag} {σ : L2.St} {H : Hp}
/-- a turn of a comprehension: what is put, or none -/
def LcT (K : PySem.W.Frag) (g : TG) (tt : TT) (te : TE) (vs : List Nat) (σ : L2.St) (H1 : Hp) (v : V) (r : Option PyData) : Prop :=
  ∀ (Q1 : VK) (Q0 : Hp → Prop), (∀ d y H2, r = some d → Gr [] H1 H2 → Dp K H2 y d → Q1 y H2) → (∀ H2, r = none → Gr [] H1 H2 → Q0 H2) →
    g v (wipe σ vs) H1 fun σ2 H2 => wipe σ2 vs = wipe σ vs ∧ tt σ2 H2 fun b H3 => if b = true then te σ2 H3 Q1 else Q0 H3
theorem lcT_put {K : PySem.W.Frag} {g : TG} {tt : TT} {te : TE} {vs : List Nat} {ds : List PyData} {f : PyData → Option PyData} {H2 H' : Hp} {D : Addr} {us : List V} {i : Nat} {dd : PyData} {x : V} (nD : H2 D = none) (hi : ds[i]? = some dd) (hz : ds.length ≤ 6000)
    (G : Gr [] H2 H') (hD : H' D = some (.lst us)) (aU : DpAll K (hid [D] H') us ((ds.take i).filterMap f)) (he : LcT K g tt te vs σ H' x (f dd)) (hn : ∀ d, f dd = some d → noL d = true) :
    g x (wipe σ vs) H' fun σ2 H2' => wipe σ2 vs = wipe σ vs ∧ tt σ2 H2' fun b H3 => if b = true then te σ2 H3 fun y H4 => ∃ acc, H4 D = some (.lst acc) ∧ acc.length < sizeLine ∧
      (Gr [] H2 (upd H4 D (.lst (acc ++ [y]))) ∧ ∃ us, (upd H4 D (.lst (acc ++ [y]))) D = some (.lst us) ∧ DpAll K (hid [D] (upd H4 D (.lst (acc ++ [y])))) us ((ds.take (i + 1)).filterMap f))
      else (Gr [] H2 H3 ∧ ∃ us, H3 D = some (.lst us) ∧ DpAll K (hid [D] H3) us ((ds.take (i + 1)).filterMap f)) := by
  have hi' : i < ds.length := (List.getElem?_eq_some_iff.mp hi).1
  have ed : ds[i] = dd := (List.getElem?_eq_some_iff.mp hi).2
  have tk := List.take_succ_eq_append_getElem hi'
  rw [ed] at tk
  have lu := dpAll_len aU
  have lf := List.length_filterMap_le f (ds.take i)
  rw [List.length_take] at lf
  refine he _ _ (fun d y H4 hr g4 dy => ?_) (fun H3 hr g3 => ?_)
  · have hD4 := g4 D _ (by simp) hD
    have gC : Gr [D] H4 (upd H4 D (.lst (us ++ [y]))) := Gr.wr (by simp)
    refine ⟨us, hD4, Nat.lt_of_lt_of_le (show us.length < 7000 by omega) (by decide), fresh_keep nD (G.trans g4) gC, us ++ [y], upd_same, ?_⟩
    rw [tk, List.filterMap_append]
    have e1 : List.filterMap f [dd] = [d] := by
      rw [List.filterMap_cons, hr]
      rfl
    rw [e1]
    exact dpAll_append (DpAll.kp ((hid_kp (gr0 g4)).trans (hid_kp gC)) aU) (.cons (Dp.kp (hid_kp gC) (dp_noL hD4 dy (hn d hr))) .nil)
  · refine ⟨G.trans g3, us, g3 D _ (by simp) hD, ?_⟩
    rw [tk, List.filterMap_append]
    have e1 : List.filterMap f [dd] = [] := by
      rw [List.filterMap_cons, hr]
      rfl
    rw [e1, List.append_nil]
    exact DpAll.kp (hid_kp (gr0 g3)) aU
theorem el_lcT {tl te : TE} {g : TG} {tt : TT} {vs : List Nat} {ds : List PyData} (f : PyData → Option PyData) (h : EvW K [] tl σ H (.tuple ds)) (hz : ds.length ≤ 6000)
    (he : ∀ x v H1, x ∈ ds → Gr [] H H1 → Dp K H1 v x → LcT K g tt te vs σ H1 v (f x)) (hn : ∀ x ∈ ds, ∀ d, f x = some d → noL d = true) : EvL K (tLc (iTup K tl) g tt te vs) σ H (ds.filterMap f) := fun H1 g1 Q q =>
  h H1 g1 (fun a m => by simp at m) _ fun v H2 g2 e => by
    have e := Dp.kp hid_out e
    cases e with
    | @tup a xs _ s t =>
      have lx := dpAll_len t
      refine ⟨a, rfl, ⟨_, s⟩, fun D nD => ?_⟩
      refine lc_tup (K := K) (a := a) (xs := xs) (fun i H' => Gr [] H2 H' ∧ ∃ us, H' D = some (.lst us) ∧ DpAll K (hid [D] H') us ((ds.take i).filterMap f)) ⟨Gr.new nD, [], upd_same, .nil⟩ (fun i H' _ z => (Kp.of z.1).sqT s) ?_ ?_
      · rintro i x H' hx ⟨G, us, hD, aU⟩
        obtain ⟨dd, hdd, dx⟩ := dpA_at t hx
        exact lcT_put nD hdd hz G hD aU (he dd x H' (List.mem_of_getElem? hdd) ((g1.trans g2).trans G) (Dp.kp (Kp.of G) dx)) (hn dd (List.mem_of_getElem? hdd))
      · rintro H3 ⟨G, us, hD, aU⟩
        rw [lx, List.take_of_length_le (Nat.le_refl _)] at aU
        exact q D us H3 (g2.trans G) hD (DpAll.kp hid_out aU)
theorem el_lcL {tl te : TE} {g : TG} {tt : TT} {vs : List Nat} {ds : List PyData} (f : PyData → Option PyData) (h : EvW K [] tl σ H (.list ds)) (hz : ds.length ≤ 6000)
    (he : ∀ x v H1, x ∈ ds → Gr [] H H1 → Dp K H1 v x → LcT K g tt te vs σ H1 v (f x)) (hn : ∀ x ∈ ds, ∀ d, f x = some d → noL d = true) : EvL K (tLc (iList K tl) g tt te vs) σ H (ds.filterMap f) := fun H1 g1 Q q =>
  h H1 g1 (fun a m => by simp at m) _ fun v H2 g2 e => by
    have e := Dp.kp hid_out e
    cases e with
    | @lst a xs _ s t =>
      have lx := dpAll_len t
      refine ⟨a, rfl, ⟨_, s⟩, fun D nD => ?_⟩
      refine lc_list (K := K) (a := a) (xs := xs) (fun i H' => Gr [] H2 H' ∧ ∃ us, H' D = some (.lst us) ∧ DpAll K (hid [D] H') us ((ds.take i).filterMap f)) ⟨Gr.new nD, [], upd_same, .nil⟩ (fun i H' _ z => (Kp.of z.1).sqL s) ?_ ?_
      · rintro i x H' hx ⟨G, us, hD, aU⟩
        obtain ⟨dd, hdd, dx⟩ := dpA_at t hx
        exact lcT_put nD hdd hz G hD aU (he dd x H' (List.mem_of_getElem? hdd) ((g1.trans g2).trans G) (Dp.kp (Kp.of G) dx)) (hn dd (List.mem_of_getElem? hdd))
      · rintro H3 ⟨G, us, hD, aU⟩
        rw [lx, List.take_of_length_le (Nat.le_refl _)] at aU
        exact q D us H3 (g2.trans G) hD (DpAll.kp hid_out aU)
theorem el_lstW {ta : TA} {ds : List PyData} (h : EsW K [] ta σ H ds) (hz : ds.length ≤ 1000 := by exact Nat.le_of_ble_eq_true rfl) : EvL K (tLst ta) σ H ds := fun H1 g Q q =>
  h H1 g (fun a m => by simp at m) _ fun vs H2 g2 a => ⟨by rw [dpAll_len a]; exact Nat.le_of_lt (small1000 hz), fun p np => q _ _ _ (g2.trans (Gr.new np)) upd_same (DpAll.kp (Kp.of (Gr.new np)) (DpAll.kp hid_out a))⟩
theorem el_to {te : TE} {ds es : List PyData} (h : EvL K te σ H ds) (z : ds = es) : EvL K te σ H es := z ▸ h
/-- for x in ..: each turn puts what te gives -/
theorem lcT_name {te : TE} {vs : List Nat} {i : Nat} {H1 : Hp} {v : V} {d : PyData} (hw : wipe ((wipe σ vs).set i (some v)) vs = wipe σ vs) (h : EvW K [] te ((wipe σ vs).set i (some v)) H1 d) : LcT K (gName i) tYes te vs σ H1 v (some d) := fun Q1 Q0 q _ =>
  ⟨hw, iteT (B := Q0 H1) (h H1 (Gr.refl _ _) (fun a m => by simp at m) Q1 fun y H2 g2 dy => q d y H2 rfl g2 (Dp.kp hid_out dy))⟩
/-- for x, y in .. -/
theorem lcT_two {te : TE} {vs : List Nat} {i j : Nat} {H1 : Hp} {v : V} {x y d : PyData} (hv : Dp K H1 v (.tuple [x, y])) (hw : ∀ a b, wipe (((wipe σ vs).set i (some a)).set j (some b)) vs = wipe σ vs)
    (h : ∀ a b, Dp K H1 a x → Dp K H1 b y → EvW K [] te (((wipe σ vs).set i (some a)).set j (some b)) H1 d) : LcT K (gTup K 2 (gCons (gName i) (gCons (gName j) gNil))) tYes te vs σ H1 v (some d) := fun Q1 Q0 q _ => by
  cases hv with
  | @tup p xs _ s t =>
    cases t with
    | @cons a _ _ _ h1 t =>
      cases t with
      | @cons b _ _ _ h2 t =>
        cases t
        exact ⟨p, _, rfl, s, rfl, a, _, rfl, b, _, rfl, rfl, hw a b, iteT (B := Q0 H1) (h a b h1 h2 H1 (Gr.refl _ _) (fun a m => by simp at m) Q1 fun y H2 g2 dy => q d y H2 rfl g2 (Dp.kp hid_out dy))⟩
end
theorem filA_yes {α : Type} {xs : List α} {p : α → Bool} {x : α} (h : p x = true) : (xs ++ [x]).filter p = xs.filter p ++ [x] := by
  rw [List.filter_append, List.filter_cons_of_pos h]
  rfl
theorem filA_no {α : Type} {xs : List α} {p : α → Bool} {x : α} (h : p x = false) : (xs ++ [x]).filter p = xs.filter p := by
  rw [List.filter_append, List.filter_cons_of_neg (by rw [h]; decide)]
  exact List.append_nil _
/-! data equal to data -/
mutual
theorem eqv_self : ∀ {d : PyData}, d.hasDict = false → PyData.eqv d d = true
  | .none, _ => rfl
  | .bool b, _ => by
    show (b == b) = true
    exact beq_self_eq_true b
  | .int i, _ => by
    show (i == i) = true
    exact beq_self_eq_true i
  | .str x, _ => by
    show (x == x) = true
    exact beq_self_eq_true x
  | .list xs, h => eqvAll_self (xs := xs) h
  | .tuple xs, h => eqvAll_self (xs := xs) h
  | .dict xs, h => by cases h
theorem eqvAll_self : ∀ {xs : List PyData}, PyData.hasDictAll xs = false → PyData.eqvAll xs xs = true
  | [], _ => rfl
  | x :: xs, h => by
    have h : (x.hasDict || PyData.hasDictAll xs) = false := h
    rw [Bool.or_eq_false_iff] at h
    show (PyData.eqv x x && PyData.eqvAll xs xs) = true
    rw [eqv_self h.1, eqvAll_self h.2]
    rfl
end
theorem Sm.eqv {d : PyData} {B D W : Nat} (h : Sm d B D W) : PyData.eqv d d = true := eqv_self h.nod
mutual
/-- no truth value, no dict in it -/
def nb : PyData → Bool
  | .none => true
  | .bool _ => false
  | .int _ => true
  | .str _ => true
  | .list xs => nbAll xs
  | .tuple xs => nbAll xs
  | .dict _ => false
def nbAll : List PyData → Bool
  | [] => true
  | x :: xs => nb x && nbAll xs
end
mutual
theorem eqv_is : ∀ {d e : PyData}, nb d = true → nb e = true → PyData.eqv d e = true → d = e
  | .none, e, _, _, h => by cases e <;> first | rfl | cases h
  | .bool b, e, h, _, _ => by cases h
  | .dict b, e, h, _, _ => by cases h
  | .int i, e, _, h2, h => by
    cases e <;> first | (cases h2; done) | (cases h; done) | skip
    rename_i j
    have h : (i == j) = true := h
    rw [eq_of_beq h]
  | .str i, e, _, h2, h => by
    cases e <;> first | (cases h2; done) | (cases h; done) | skip
    rename_i j
    have h : (i == j) = true := h
    rw [eq_of_beq h]
  | .list xs, e, h1, h2, h => by
    cases e <;> first | (cases h2; done) | (cases h; done) | skip
    rename_i ys
    rw [eqvAll_is (xs := xs) (ys := ys) h1 h2 h]
  | .tuple xs, e, h1, h2, h => by
    cases e <;> first | (cases h2; done) | (cases h; done) | skip
    rename_i ys
    rw [eqvAll_is (xs := xs) (ys := ys) h1 h2 h]
theorem eqvAll_is : ∀ {xs ys : List PyData}, nbAll xs = true → nbAll ys = true → PyData.eqvAll xs ys = true → xs = ys
  | [], [], _, _, _ => rfl
  | [], y :: ys, _, _, h => by cases h
  | x :: xs, [], _, _, h => by cases h
  | x :: xs, y :: ys, h1, h2, h => by
    have h1 : (nb x && nbAll xs) = true := h1
    have h2 : (nb y && nbAll ys) = true := h2
    have h : (PyData.eqv x y && PyData.eqvAll xs ys) = true := h
    rw [Bool.and_eq_true] at h1 h2 h
    rw [eqv_is h1.1 h2.1 h.1, eqvAll_is h1.2 h2.2 h.2]
end
mutual
theorem nb_nod : ∀ {d : PyData}, nb d = true → d.hasDict = false
  | .none, _ => rfl
  | .bool _, h => by cases h
  | .int _, _ => rfl
  | .str _, _ => rfl
  | .list xs, h => nbAll_nod (xs := xs) h
  | .tuple xs, h => nbAll_nod (xs := xs) h
  | .dict _, h => by cases h
theorem nbAll_nod : ∀ {xs : List PyData}, nbAll xs = true → PyData.hasDictAll xs = false
  | [], _ => rfl
  | x :: xs, h => by
    have h : (nb x && nbAll xs) = true := h
    rw [Bool.and_eq_true] at h
    show (x.hasDict || PyData.hasDictAll xs) = false
    rw [nb_nod h.1, nbAll_nod h.2]
    rfl
end
theorem eqv_iff {d e : PyData} (h1 : nb d = true) (h2 : nb e = true) : PyData.eqv d e = true ↔ d = e := ⟨eqv_is h1 h2, fun z => by rw [z]; exact eqv_self (nb_nod h2)⟩
theorem eqv_dec {d e : PyData} (h1 : nb d = true) (h2 : nb e = true) [Decidable (d = e)] : PyData.eqv d e = decide (d = e) := by
  by_cases h : d = e
  · rw [decide_eq_true h]
    exact (eqv_iff h1 h2).mpr h
  · rw [decide_eq_false h]
    cases z : PyData.eqv d e with
    | false => rfl
    | true => exact absurd ((eqv_iff h1 h2).mp z) h
theorem nbAll_of {xs : List PyData} (h : ∀ x ∈ xs, nb x = true) : nbAll xs = true := by
  induction xs with
  | nil => rfl
  | cons x r ih =>
    show (nb x && nbAll r) = true
    rw [h x (List.mem_cons_self ..), ih fun y hy => h y (List.mem_cons_of_mem _ hy)]
    rfl
theorem set_len {xs : List Nat} {ks : List Int} (nd : ks.Nodup) (hm : ∀ k, k ∈ ks ↔ k ∈ ni xs) : ks.length ≤ xs.length := by
  obtain ⟨zs, rfl⟩ := ni_of (zs := ks) fun k hk => by
    have := (hm k).mp hk
    unfold ni at this
    obtain ⟨j, _, rfl⟩ := List.mem_map.mp this
    omega
  unfold ni at nd hm ⊢
  have h1 : zs.Nodup := by
    rw [List.nodup_iff_pairwise_ne, List.pairwise_map] at nd
    exact nd.imp fun h e => h (by rw [e])
  have := nodup_sub (ys := xs) h1 fun z hz => by
    obtain ⟨j, hj, e⟩ := List.mem_map.mp ((hm (z : Int)).mp (List.mem_map.mpr ⟨z, hz, rfl⟩))
    rwa [show z = j by omega]
  rw [List.length_map]
  omega
end Wn
/-! what comes of a lambda that is called in a try: its value itself, or an error's word and field -/
namespace Wn
open PySem PySem.Spec PyProof.Rows L2 LamX
def TTh (es : List (Addr × Str × (V → HO))) : (XK → Hp → VK → Prop) → Hp → VK → Prop := fun tl H Q =>
  ∀ (H2 : Hp) (Qn : VK) (E : XK), Gr [] H H2 → (∀ v H3, Q v H3 → Qn v H3) →
    (∀ (C d : Addr) (f : Str) (mk : V → HO) (v : V) (H3 : Hp), (C, f, mk) ∈ es → H3 d = some (.xd [(f, v)]) → (∀ t H4, Gr [] H3 H4 → H4 t = some (mk v) → Q (.ref t) H4) → E (.ref C) (some d) H3) → tl E H2 Qn
section
variable {K : PySem.W.Frag} {T : List (Addr × Str)} {σ : L2.St} {H : Hp} {es : List (Addr × Str × (V → HO))} {t : XK → TE} {d : PyData}
theorem et_hV (h : ∀ (E : XK) (H1 : Hp), ExtN H H1 → ∀ Q : VK, (∀ v H2, Gr [] H1 H2 → Dp K H2 v d → Q v H2) → t E σ H1 Q) : EvT K T (tLam T (TTh es) t) σ H d := fun H1 g0 t1 Q q =>
  ⟨t1, fun H2 g2 t2 H3 Qn E g3 kn _ => h E H3 ((g0.trans g2).trans (extOf g3)) Qn fun v H4 g4 a => kn v H4 (q v H4 (g2.trans (extOf (g3.trans g4))) (tabsGr t2 (g3.trans g4)) a)⟩
theorem et_hX {C : Addr} {f w : Str} {mk : V → HO} (hm : (C, f, mk) ∈ es) (hk : ∀ v, mk v = .tup [.str w, v])
    (h : ∀ (E : XK) (H1 : Hp), ExtN H H1 → ∀ (Q : VK), (∀ (dd : Addr) (v : V) H2, Gr [] H1 H2 → H2 dd = some (.xd [(f, v)]) → Dp K H2 v d → E (.ref C) (some dd) H2) → t E σ H1 Q) : EvT K T (tLam T (TTh es) t) σ H (.tuple [.str w, d]) := fun H1 g0 t1 Q q =>
  ⟨t1, fun H2 g2 t2 H3 Qn E g3 kn ke => h E H3 ((g0.trans g2).trans (extOf g3)) Qn fun dd v H4 g4 hd a => ke C dd f mk v H4 hm hd fun t' H5 g5 h5 =>
    q _ _ (g2.trans (extOf ((g3.trans g4).trans g5))) (tabsGr t2 ((g3.trans g4).trans g5)) (dp_tup (by rw [h5, hk]) (.cons (.str _) (.cons (Dp.kp (Kp.of g5) a) .nil)))⟩
theorem et_hXl {C : Addr} {f w : Str} {mk : V → HO} (hm : (C, f, mk) ∈ es) (hk : ∀ v, mk v = .lst [.str w, v])
    (h : ∀ (E : XK) (H1 : Hp), ExtN H H1 → ∀ (Q : VK), (∀ (dd : Addr) (v : V) H2, Gr [] H1 H2 → H2 dd = some (.xd [(f, v)]) → Dp K H2 v d → E (.ref C) (some dd) H2) → t E σ H1 Q) : EvT K T (tLam T (TTh es) t) σ H (.list [.str w, d]) := fun H1 g0 t1 Q q =>
  ⟨t1, fun H2 g2 t2 H3 Qn E g3 kn ke => h E H3 ((g0.trans g2).trans (extOf g3)) Qn fun dd v H4 g4 hd a => ke C dd f mk v H4 hm hd fun t' H5 g5 h5 =>
    q _ _ (g2.trans (extOf ((g3.trans g4).trans g5))) (tabsGr t2 ((g3.trans g4).trans g5)) (dp_lst (by rw [h5, hk]) (.cons (.str _) (.cons (Dp.kp (Kp.of g5) a) .nil)))⟩
/-- data beside no lambda -/
theorem et_ew {te : TE} (h : ∀ H, EvW K [] te σ H d) : EvT K T te σ H d := et_of fun H => (h H).evd
theorem et_ewV {te : TE} (h : ∀ H', ExtN H H' → EvW K [] te σ H' d) : EvT K T te σ H d := fun H1 g t1 Q q => h H1 g H1 (Gr.refl _ _) (fun a m => by simp at m) Q fun v H2 g2 e => q v H2 (extOf g2) (tabsGr t1 g2) (Dp.kp hid_out e)
theorem dpA_rep {H : Hp} {vs : List V} {ds : List PyData} (a : DpAll K H vs ds) : ∀ k : Nat, DpAll K H (List.replicate k vs).flatten (List.replicate k ds).flatten
  | 0 => .nil
  | k + 1 => by
    rw [List.replicate_succ, List.replicate_succ, List.flatten_cons, List.flatten_cons]
    exact dpAll_append a (dpA_rep a k)
theorem etl_rep {te ti : TE} {ds : List PyData} {k : Nat} (h : EvTL K T te σ H ds) (hi : EvT K T ti σ H (.int (k : Nat))) (hk : k ≤ 1000 := by exact Nat.le_of_ble_eq_true rfl) (hz : ds.length ≤ 1000 := by exact Nat.le_of_ble_eq_true rfl) : EvTL K T (tOp rRep te ti) σ H (List.replicate k ds).flatten := fun H1 g t1 Q q =>
  h H1 g t1 _ fun p xs H2 g2 t2 e2 a2 => hi H2 (g.trans g2) t2 _ fun v H3 g3 t3 e3 => by
    obtain rfl := dp_int e3
    have hl := dpAll_len a2
    have hm : xs.length * k ≤ 1000 * 1000 := Nat.mul_le_mul (by omega) hk
    refine ⟨p, (k : Int), xs, rfl, rfl, ExtN.lst g3 e2, by omega, by omega, ?_, fun r nr => ?_⟩
    · rw [Int.toNat_natCast]
      exact Nat.le_trans hm (by decide)
    · rw [Int.toNat_natCast]
      have gr := Gr.new (W := []) (o := .lst (List.replicate k xs).flatten) nr
      exact q r _ _ ((g2.trans g3).trans (extOf gr)) (tabsGr t3 gr) upd_same (dpA_rep (DpAll.kp (kpExt (g3.trans (extOf gr))) a2) k)
end
end Wn
/-! rules over data with dicts -/
namespace Wn
open PySem PySem.Spec PyProof.Rows L2 LamX
def rNotInT (K : PySem.W.Frag) : R2 := fun x y H Q => ∃ d ds, Dp K H x d ∧ Dp K H y (.tuple ds) ∧ SeqAt.shaped d = true ∧ SeqAt.shaped (.list ds) = true ∧ Q (.bl (!ds.any fun z => PyData.eqv z d)) H
theorem op_notInT {X : Cx} (hu : X.A.units + 200 < cLine) : OpR X (compareOp .NotIn) (rNotInT X.K) := by
  intro pins s σ H x y v u Q I rx ry h
  obtain ⟨d, ds, hd, he, sd, se, q⟩ := h
  obtain ⟨as, r1⟩ := Dp.reads I d x v hd rx
  obtain ⟨bs, r2⟩ := Dp.reads I (.tuple ds) y u he ry
  exact SeqAt.notIn_tuple_reads r2 r1 (SeqAt.canLay_of_shaped se) (SeqAt.canLay_of_shaped sd) (room_in_shaped sd (by omega)) ⟨.bl _, H, I, rfl, q⟩
theorem op_inDL {X : Cx} (hu : X.A.units + 200 < cLine) : OpR X (compareOp .In) (rInD X.K) := op_inD (by omega)
/-- a tuple of any things == () -/
def rEqT0 (K : PySem.W.Frag) : R2 := fun x y H Q => ∃ (a b : Addr) (xs : List V), x = .ref a ∧ y = .ref b ∧ SqT K H a xs ∧ SqT K H b [] ∧ Q (.bl xs.isEmpty) H
theorem op_eqT0 {X : Cx} (hu : X.A.units + 200 < cLine) : OpR X (compareOp .Eq) (rEqT0 X.K) := by
  intro pins s σ H x y v u Q I rx ry h
  obtain ⟨a, b, xs, rfl, rfl, ha, hb, q⟩ := h
  cases rx
  cases ry
  obtain ⟨its, rv, ⟨o, ho, hc, n, hd⟩, _⟩ := I.tuple ha
  obtain ⟨its2, rv2, ⟨o2, ho2, hc2, n2, hd2⟩, _⟩ := I.tuple hb
  cases rv2
  have hl : s.heap.IsTuple a its.toArray := ⟨_, ho, hc, _, hd⟩
  have hl' : s.heap.IsTuple b (([] : List Value).toArray) := ⟨_, ho2, hc2, _, hd2⟩
  have r := SeqAt.RcAt.tuples (A := X.A) (e := fun _ => true) hl hl' (by omega) (fun j _ j2 => absurd j2 (by simp))
  refine r X.prog X.w _ _ ⟨.bl xs.isEmpty, H, I, ?_, q⟩
  have hlen := rv.length
  cases its with
  | nil =>
    cases xs with
    | nil => rfl
    | cons y ys => cases rv
  | cons z zs =>
    cases xs with
    | nil => cases rv
    | cons y ys => rfl
/-! what type a thing is of -/
def tyD : PyData → String
  | .none => "NoneType"
  | .bool _ => "bool"
  | .int _ => "int"
  | .str _ => "str"
  | .list _ => "list"
  | .tuple _ => "tuple"
  | .dict _ => "dict"
theorem sqT_ty {K : PySem.W.Frag} {H : Hp} {a : Addr} {xs : List V} (h : SqT K H a xs) : TyX K H (.ref a) (.type "tuple") := by
  rcases h with (h | ⟨o, h⟩) | ⟨o, its, n, h, c, _⟩
  · exact .base (.tup h)
  · exact .fTuple h
  · exact .kTuple h c
theorem sqL_ty {K : PySem.W.Frag} {H : Hp} {a : Addr} {xs : List V} (h : SqL K H a xs) : TyX K H (.ref a) (.type "list") := by
  rcases h with (h | ⟨o, h⟩) | ⟨o, its, n, h, c, _⟩
  · exact .base (.lst h)
  · exact .base (.frz h)
  · exact .kList h c
theorem dz_ty {K : PySem.W.Frag} {H : Hp} {v : V} {d : PyData} (h : Dz K H v d) : TyX K H v (.type (tyD d)) ∧ tyD d ∈ tyNames := by
  cases h with
  | non => exact ⟨.base .non, by show "NoneType" ∈ tyNames; decide⟩
  | bl b => exact ⟨.base (.bl b), by show "bool" ∈ tyNames; decide⟩
  | int i => exact ⟨.base (.int i), by show "int" ∈ tyNames; decide⟩
  | str x => exact ⟨.base (.str x), by show "str" ∈ tyNames; decide⟩
  | lst s a => exact ⟨sqL_ty s, by show "list" ∈ tyNames; decide⟩
  | tup s a => exact ⟨sqT_ty s, by show "tuple" ∈ tyNames; decide⟩
  | dct h1 h2 h3 => exact ⟨.base (.dK h1), by show "dict" ∈ tyNames; decide⟩
def isI : PyData → Bool
  | .int _ => true
  | _ => false
def isW (lo hi : Int) : PyData → Bool
  | .int i => decide (lo ≤ i) && decide (i ≤ hi)
  | _ => false
theorem rIs_dz {K : PySem.W.Frag} {H : Hp} {v : V} {d : PyData} {n : String} {Q : VK} (h : Dz K H v d) (hn : n ∈ qyNames) (q : Q (.bl (isB (tyD d) n)) H) : rIs K [v, .ty n] H Q :=
  ⟨v, n, rfl, tyD d, ⟨(dz_ty h).1, (dz_ty h).2, hn⟩, q⟩
theorem tyD_nn {d : PyData} (h1 : isB (tyD d) "int" = true) (h2 : isB (tyD d) "bool" = false) : ∃ i, d = .int i := by
  cases d with
  | int i => exact ⟨i, rfl⟩
  | none => cases h1
  | bool b => cases h2
  | str x => cases h1
  | list x => cases h1
  | tuple x => cases h1
  | dict x => cases h1
theorem isI_of {d : PyData} : isI d = (isB (tyD d) "int" && !isB (tyD d) "bool") := by cases d <;> rfl
theorem isTup_of {d : PyData} (h : isB (tyD d) "tuple" = true) : ∃ ds, d = .tuple ds := by
  cases d with
  | tuple ds => exact ⟨ds, rfl⟩
  | none => cases h
  | bool b => cases h
  | str x => cases h
  | list x => cases h
  | int x => cases h
  | dict x => cases h
theorem isStr_of {d : PyData} (h : isB (tyD d) "str" = true) : ∃ x, d = .str x := by
  cases d with
  | str ds => exact ⟨ds, rfl⟩
  | none => cases h
  | bool b => cases h
  | tuple x => cases h
  | list x => cases h
  | int x => cases h
  | dict x => cases h
theorem dzAll_at {K : PySem.W.Frag} {H : Hp} : ∀ {vs : List V} {ds : List PyData} {i : Nat} {d : PyData}, DzAll K H vs ds → ds[i]? = some d → ∃ v, vs[i]? = some v ∧ Dz K H v d
  | _, _, _, _, .nil, h => by simp at h
  | _, _, 0, _, .cons a _, h => ⟨_, rfl, by
    have : _ = _ := Option.some.inj h
    rw [← this]
    exact a⟩
  | _, _, i + 1, _, .cons _ t, h => by
    obtain ⟨v, h1, h2⟩ := dzAll_at (i := i) t (by simpa using h)
    exact ⟨v, by simpa using h1, h2⟩
theorem dzAll_atV {K : PySem.W.Frag} {H : Hp} {vs : List V} {ds : List PyData} {i : Nat} {v : V} (h : DzAll K H vs ds) (e : vs[i]? = some v) : ∃ d, ds[i]? = some d ∧ Dz K H v d := by
  have hl := dzAll_len h
  have hi : i < ds.length := by
    have := (List.getElem?_eq_some_iff.mp e).1
    omega
  obtain ⟨v2, h1, h2⟩ := dzAll_at h (List.getElem?_eq_getElem hi)
  rw [e] at h1
  cases h1
  exact ⟨_, List.getElem?_eq_getElem hi, h2⟩
theorem dzAll_take {K : PySem.W.Frag} {H : Hp} : ∀ {vs : List V} {ds : List PyData} (j : Nat), DzAll K H vs ds → DzAll K H (vs.take j) (ds.take j)
  | _, _, 0, _ => by
    rw [List.take_zero, List.take_zero]
    exact .nil
  | _, _, j + 1, .nil => .nil
  | _, _, j + 1, .cons a b => .cons a (dzAll_take j b)
theorem dzAll_drop {K : PySem.W.Frag} {H : Hp} : ∀ {vs : List V} {ds : List PyData} (j : Nat), DzAll K H vs ds → DzAll K H (vs.drop j) (ds.drop j)
  | _, _, 0, h => h
  | _, _, j + 1, .nil => .nil
  | _, _, j + 1, .cons a b => dzAll_drop j b
theorem dzAll_ints {K : PySem.W.Frag} {H : Hp} : ∀ {vs : List V} {ns : List Int}, DzAll K H vs (ns.map PyData.int) → vs = ns.map V.int
  | _, [], h => by cases h; rfl
  | _, n :: ns, h => by
    cases h with
    | cons a b => rw [dz_int a, dzAll_ints b]; rfl
theorem allI_ints : ∀ {ds : List PyData}, (∀ d ∈ ds, isI d = true) → ∃ ns : List Int, ds = ns.map PyData.int
  | [], _ => ⟨[], rfl⟩
  | d :: ds, h => by
    obtain ⟨ns, e⟩ := allI_ints fun x hx => h x (List.mem_cons_of_mem _ hx)
    have hd := h d (List.mem_cons_self ..)
    cases d with
    | int i => exact ⟨i :: ns, by rw [e]; rfl⟩
    | none => cases hd
    | bool b => cases hd
    | str x => cases hd
    | list x => cases hd
    | tuple x => cases hd
    | dict x => cases hd
/-! the heap without a part of it -/
theorem hid_gr {W : List Addr} {H H' : Hp} (g : Gr W H H') : Gr [] (hid W H) (hid W H') := fun a o _ e => hid_get (g a _ (hid_inv e).1 (hid_inv e).2) (hid_inv e).1
theorem hid_grO {W : List Addr} {H : Hp} : Gr [] (hid W H) H := fun a o _ e => (hid_inv e).2
theorem Dz.inh {K : PySem.W.Frag} {W : List Addr} {H H' : Hp} {v : V} {d : PyData} (g : Gr W H H') (h : Dz K (hid W H) v d) : Dz K (hid W H') v d := Dz.gr (hid_gr g) h
theorem DzAll.inh {K : PySem.W.Frag} {W : List Addr} {H H' : Hp} {v : List V} {d : List PyData} (g : Gr W H H') (h : DzAll K (hid W H) v d) : DzAll K (hid W H') v d := DzAll.gr (hid_gr g) h
theorem Dz.out {K : PySem.W.Frag} {W : List Addr} {H : Hp} {v : V} {d : PyData} (h : Dz K (hid W H) v d) : Dz K H v d := Dz.gr hid_grO h
theorem DzAll.out {K : PySem.W.Frag} {W : List Addr} {H : Hp} {v : List V} {d : List PyData} (h : DzAll K (hid W H) v d) : DzAll K H v d := DzAll.gr hid_grO h
mutual
theorem Dz.ext {K : PySem.W.Frag} {H H' : Hp} (g : ExtN H H') : ∀ {v : V} {d : PyData}, Dz K H v d → Dz K H' v d
  | _, _, .non => .non
  | _, _, .bl b => .bl b
  | _, _, .int i => .int i
  | _, _, .str x => .str x
  | _, _, .lst h1 h2 => .lst ((kpExt g).sqL h1) (DzAll.ext g h2)
  | _, _, .tup h1 h2 => .tup ((kpExt g).sqT h1) (DzAll.ext g h2)
  | _, _, .dct h1 h2 h3 => .dct (g _ _ h1 (fun _ z => by cases z)) h2 (DzAll.ext g h3)
theorem DzAll.ext {K : PySem.W.Frag} {H H' : Hp} (g : ExtN H H') : ∀ {vs : List V} {ds : List PyData}, DzAll K H vs ds → DzAll K H' vs ds
  | _, _, .nil => .nil
  | _, _, .cons h1 h2 => .cons (Dz.ext g h1) (DzAll.ext g h2)
end
/-! what repr takes, by size -/
structure Sz (d : PyData) (B D W : Nat) : Prop where
  show_ : d.showable = true
  leaf : d.leavesShort B = true
  dep : d.depth ≤ D
  wei : d.bulk ≤ W
theorem Sz.all : ∀ {xs : List PyData} {B D W : Nat}, (∀ x ∈ xs, Sz x B D W) → PyData.showableAll xs = true ∧ PyData.leavesShortAll B xs = true ∧ PyData.depthAll xs ≤ D ∧ PyData.bulkAll xs ≤ xs.length * (W + 1)
  | [], _, _, _, _ => ⟨rfl, rfl, Nat.zero_le _, Nat.zero_le _⟩
  | x :: xs, B, D, W, h => by
    obtain ⟨h1, h2, h4, h5⟩ := Sz.all (xs := xs) fun y hy => h y (List.mem_cons_of_mem _ hy)
    have hx := h x (List.mem_cons_self ..)
    refine ⟨?_, ?_, ?_, ?_⟩
    · show (x.showable && PyData.showableAll xs) = true
      rw [hx.show_, h1]
      rfl
    · show (x.leavesShort B && PyData.leavesShortAll B xs) = true
      rw [hx.leaf, h2]
      rfl
    · show max x.depth (PyData.depthAll xs) ≤ D
      exact Nat.max_le.mpr ⟨hx.dep, h4⟩
    · show x.bulk + 1 + PyData.bulkAll xs ≤ (xs.length + 1) * (W + 1)
      rw [Nat.succ_mul]
      have := hx.wei
      omega
theorem Sz.lst {xs : List PyData} {B D W : Nat} (n : Nat) (h : ∀ x ∈ xs, Sz x B D W) (hn : xs.length ≤ n) : Sz (.list xs) B (D + 1) (n * (W + 1)) := by
  obtain ⟨h1, h2, h4, h5⟩ := Sz.all h
  exact ⟨h1, h2, Nat.succ_le_succ h4, Nat.le_trans h5 (Nat.mul_le_mul_right _ hn)⟩
theorem Sz.tup {xs : List PyData} {B D W : Nat} (n : Nat) (h : ∀ x ∈ xs, Sz x B D W) (hn : xs.length ≤ n) : Sz (.tuple xs) B (D + 1) (n * (W + 1)) := by
  obtain ⟨h1, h2, h4, h5⟩ := Sz.all h
  exact ⟨h1, h2, Nat.succ_le_succ h4, Nat.le_trans h5 (Nat.mul_le_mul_right _ hn)⟩
theorem Sz.mono {d : PyData} {B D W D' W' : Nat} (h : Sz d B D W) (h1 : D ≤ D') (h2 : W ≤ W') : Sz d B D' W' := ⟨h.show_, h.leaf, Nat.le_trans h.dep h1, Nat.le_trans h.wei h2⟩
theorem Sz.int {i : Int} {k W : Nat} (hk : k ≤ 500) (h : i.natAbs < 10 ^ k) : Sz (.int i) (k + 2) 0 W := by
  refine ⟨?_, ?_, Nat.le_refl _, Nat.zero_le _⟩
  · refine decide_eq_true ?_
    have h2 : i.natAbs < 2 ^ 1900 := Nat.lt_of_lt_of_le h (Nat.le_trans (Nat.pow_le_pow_right (by decide) hk) (by decide +kernel))
    rcases Nat.eq_zero_or_pos i.natAbs with z | z
    · rw [z, Nat.log2_zero]
      decide
    · exact Nat.lt_of_lt_of_le ((Nat.log2_lt (by omega)).mpr h2) (by decide)
  · refine decide_eq_true ?_
    show (Str.ofString (toString i)).length ≤ k + 2
    rw [PySem.ofString_length]
    rcases Nat.eq_zero_or_pos k with z | z
    · subst z
      have : i = 0 := by
        rw [Nat.pow_zero] at h
        omega
      subst this
      decide
    · exact Nat.le_succ_of_le (int_text_length_le10 z h)
theorem Sz.fit {d : PyData} {B D W : Nat} (h : Sz d B D W) (h0 : 8 ≤ B := by decide) (h1 : D ≤ 100 := by decide) (h2 : (B + 2) * W + B ≤ 16777216 := by decide) : FitZ d := by
  refine ⟨h.show_, Nat.le_trans h.dep h1, ?_⟩
  have h3 := PyData.shown_le_bulk B h0 d h.leaf
  have h4 : (B + 2) * d.bulk ≤ (B + 2) * W := Nat.mul_le_mul_left _ h.wei
  rw [sizeLine_eq]
  omega
end Wn
/-! expressions that give data with dicts, beside what grows -/
namespace Wn
open PySem PySem.Spec PyProof.Rows L2 LamX
theorem dz_vnL {K : PySem.W.Frag} {H : Hp} {t : Addr} {xs : List Nat} (h : H t = some (.lst (vn xs))) : Dz K H (.ref t) (.list ((ni xs).map PyData.int)) := dz_lst h (by rw [vn_ni]; exact DzAll.of (dpAll_ints _))
theorem dz_vnT {K : PySem.W.Frag} {H : Hp} {t : Addr} {xs : List Nat} (h : H t = some (.tup (vn xs))) : Dz K H (.ref t) (di xs) := dz_tup h (by rw [vn_ni]; exact DzAll.of (dpAll_ints _))
theorem dzAll_rev {K : PySem.W.Frag} {H : Hp} : ∀ {vs : List V} {ds : List PyData}, DzAll K H vs ds → DzAll K H vs.reverse ds.reverse
  | _, _, .nil => .nil
  | _, _, .cons a b => by
    rw [List.reverse_cons, List.reverse_cons]
    exact dzAll_append (dzAll_rev b) (.cons a .nil)
section
variable {K : PySem.W.Frag} {σ : L2.St} {H : Hp} {W : List Addr}
def EzW (K : PySem.W.Frag) (W : List Addr) (te : TE) (σ : L2.St) (H : Hp) (d : PyData) : Prop := ∀ H1, Gr W H H1 → Wst W H1 → ∀ Q : VK, (∀ v H2, Gr [] H1 H2 → Dz K (hid W H2) v d → Q v H2) → te σ H1 Q
def EszW (K : PySem.W.Frag) (W : List Addr) (ta : TA) (σ : L2.St) (H : Hp) (ds : List PyData) : Prop := ∀ H1, Gr W H H1 → Wst W H1 → ∀ Q : List V → Hp → Prop, (∀ vs H2, Gr [] H1 H2 → DzAll K (hid W H2) vs ds → Q vs H2) → ta σ H1 Q
theorem ez_var {i : Nat} {v : V} {d : PyData} (e : σ[i]? = some (some v)) (h : Dz K (hid W H) v d) : EzW K W (tVar i) σ H d := fun H1 g _ Q q => ⟨v, e, q v H1 (Gr.refl _ _) (Dz.gr (hid_gr g) h)⟩
theorem ez_int {i : Int} : EzW K W (tC (.int i)) σ H (.int i) := fun H1 _ _ Q q => q _ H1 (Gr.refl _ _) (.int i)
theorem ez_bl {i : Bool} : EzW K W (tC (.bl i)) σ H (.bool i) := fun H1 _ _ Q q => q _ H1 (Gr.refl _ _) (.bl i)
theorem ez_str {i : Str} : EzW K W (tC (.str i)) σ H (.str i) := fun H1 _ _ Q q => q _ H1 (Gr.refl _ _) (.str i)
theorem ez_non : EzW K W (tC .non) σ H .none := fun H1 _ _ Q q => q _ H1 (Gr.refl _ _) .non
theorem ezs_nil : EszW K W tNil σ H [] := fun H1 _ _ Q q => q _ H1 (Gr.refl _ _) .nil
theorem ezs_cons {te : TE} {ta : TA} {d : PyData} {ds : List PyData} (h : EzW K W te σ H d) (r : EszW K W ta σ H ds) : EszW K W (tCons te ta) σ H (d :: ds) := fun H1 g s Q q =>
  h H1 g s _ fun v H2 g2 dv => r H2 (g.trans (gr0 g2)) (s.gr g2) _ fun vs H3 g3 dvs => q _ H3 (g2.trans g3) (.cons (Dz.gr (hid_gr (gr0 g3)) dv) dvs)
theorem ez_tup {ta : TA} {ds : List PyData} (h : EszW K W ta σ H ds) (hz : ds.length ≤ 1000 := by exact Nat.le_of_ble_eq_true rfl) : EzW K W (tTup ta) σ H (.tuple ds) := fun H1 g s Q q =>
  h H1 g s _ fun vs H2 g2 a => ⟨by rw [dzAll_len a]; exact Nat.le_of_lt (small1000 hz), fun p np => q _ _ (g2.trans (Gr.new np)) (dz_tup (hid_get upd_same ((s.gr g2).ne np)) (DzAll.gr (hid_gr (Gr.new np)) a))⟩
theorem ez_lst {ta : TA} {ds : List PyData} (h : EszW K W ta σ H ds) (hz : ds.length ≤ 1000 := by exact Nat.le_of_ble_eq_true rfl) : EzW K W (tLst ta) σ H (.list ds) := fun H1 g s Q q =>
  h H1 g s _ fun vs H2 g2 a => ⟨by rw [dzAll_len a]; exact Nat.le_of_lt (small1000 hz), fun p np => q _ _ (g2.trans (Gr.new np)) (dz_lst (hid_get upd_same ((s.gr g2).ne np)) (DzAll.gr (hid_gr (Gr.new np)) a))⟩
theorem ezl_d {te : TE} {xs : List Nat} (h : ElW W te σ H xs) : EzW K W te σ H (lstD xs) := fun H1 g s Q q => h H1 g s _ fun p H2 g2 n e => q _ H2 g2 (dz_vnL (hid_get e n))
theorem ez_tupOf {te : TE} {xs : List Nat} (h : ElW W te σ H xs) : EzW K W (tCB (rTpO K) (tCons te tNil)) σ H (di xs) := fun H1 g s Q q =>
  h H1 g s _ fun p H2 g2 n e => ⟨p, vn xs, rfl, .inl ⟨sq_lst e, fun t nt => q _ _ (g2.trans (Gr.new nt)) (dz_vnT (hid_get upd_same ((s.gr g2).ne nt)))⟩⟩
theorem ez_listOf {te : TE} {ds : List PyData} (h : EzW K W te σ H (.tuple ds)) : EzW K W (tCB (rLsO K) (tCons te tNil)) σ H (.list ds) := fun H1 g s Q q =>
  h H1 g s _ fun v H2 g2 e => by
    cases e with
    | tup s' a' => exact ⟨_, _, rfl, .inr (hid_out.sqT s'), fun l nl => q _ _ (g2.trans (Gr.new nl)) (dz_lst (hid_get upd_same ((s.gr g2).ne nl)) (DzAll.gr (hid_gr (Gr.new nl)) a'))⟩
theorem ez_slT {te : TE} {ds : List PyData} {j : Nat} (h : EzW K W te σ H (.tuple ds)) (hj : j ≤ ds.length) : EzW K W (tSl (rSlA K) te tNoPart (tPart (tC (.int (j : Nat))))) σ H (.tuple (ds.take j)) := fun H1 g s Q q =>
  h H1 g s _ fun v H2 g2 e => by
    cases e with
    | @tup a ys _ s' t =>
      have hl := dzAll_len t
      refine ⟨(j : Int), rfl, a, ys, rfl, hid_out.sqT s', fun z => ?_, fun _ p np => ?_⟩
      · have e1 := z.2
        rw [HT.sIx_nat] at e1
        have e2 : ds.take j = ds := List.take_of_length_le (by omega)
        refine q _ H2 g2 ?_
        rw [e2]
        exact .tup s' t
      · refine q _ _ (g2.trans (Gr.new np)) (dz_tup (hid_get upd_same ((s.gr g2).ne np)) ?_)
        rw [cut_lo (by omega)]
        exact DzAll.gr (hid_gr (Gr.new np)) (dzAll_take j t)
theorem ez_catT {ta tb : TE} {ds es : List PyData} (h1 : EzW K W ta σ H (.tuple ds)) (h2 : EzW K W tb σ H (.tuple es)) (hz : ds.length + es.length ≤ 6000) : EzW K W (tOp (rCatA K) ta tb) σ H (.tuple (ds ++ es)) := fun H1 g s Q q =>
  h1 H1 g s _ fun v H2 g2 e2 => h2 H2 (g.trans (gr0 g2)) (s.gr g2) _ fun v3 H3 g3 e3 => by
    have e2 := Dz.gr (hid_gr (gr0 g3)) e2
    cases e2 with
    | @tup a xs _ s1 t1 =>
      cases e3 with
      | @tup b ys _ s2 t2 =>
        have l1 := dzAll_len t1
        have l2 := dzAll_len t2
        refine ⟨a, b, xs, ys, rfl, rfl, hid_out.sqT s1, hid_out.sqT s2, Nat.le_trans (show _ ≤ 6000 by omega) (by decide), fun z => ?_, fun _ z => ?_, fun _ _ p np => ?_⟩
        · subst z
          cases t1
          exact q _ H3 (g2.trans g3) (.tup s2 t2)
        · subst z
          cases t2
          rw [List.append_nil] at q
          exact q _ H3 (g2.trans g3) (.tup s1 t1)
        · exact q _ _ ((g2.trans g3).trans (Gr.new np)) (dz_tup (hid_get upd_same (((s.gr g2).gr g3).ne np)) (DzAll.gr (hid_gr (Gr.new np)) (dzAll_append t1 t2)))
theorem EzW.on {te : TE} {d : PyData} {H' : Hp} (h : EzW K W te σ H d) (g : Gr W H H') : EzW K W te σ H' d := fun H1 g1 s Q q => h H1 (g.trans g1) s Q q
theorem ez_i0 {g : Int → Int → Int} {ta tb : TE} {i j : Int} (h1 : EzW K W ta σ H (.int i)) (h2 : EzW K W tb σ H (.int j)) : EzW K W (tOp (rI0 fun i j => .int (g i j)) ta tb) σ H (.int (g i j)) := fun H1 gr s Q q =>
  h1 H1 gr s _ fun v H2 g2 e => h2 H2 (gr.trans (gr0 g2)) (s.gr g2) _ fun w H3 g3 e3 => by
    obtain rfl := dz_int e
    obtain rfl := dz_int e3
    exact ⟨i, j, rfl, rfl, q _ H3 (g2.trans g3) (.int _)⟩
theorem ez_iC {C : Int → Int → Prop} {g : Int → Int → Int} {ta tb : TE} {i j : Int} (h1 : EzW K W ta σ H (.int i)) (h2 : EzW K W tb σ H (.int j)) (hc : C i j) : EzW K W (tOp (rI C fun i j => .int (g i j)) ta tb) σ H (.int (g i j)) := fun H1 gr s Q q =>
  h1 H1 gr s _ fun v H2 g2 e => h2 H2 (gr.trans (gr0 g2)) (s.gr g2) _ fun w H3 g3 e3 => by
    obtain rfl := dz_int e
    obtain rfl := dz_int e3
    exact ⟨i, j, rfl, rfl, hc, q _ H3 (g2.trans g3) (.int _)⟩
theorem ez_neg {g : Int → Int} {ta : TE} {i : Int} (h1 : EzW K W ta σ H (.int i)) : EzW K W (tUn (rU fun i => .int (g i)) ta) σ H (.int (g i)) := fun H1 gr s Q q =>
  h1 H1 gr s _ fun v H2 g2 e => by
    obtain rfl := dz_int e
    exact ⟨i, rfl, q _ H2 g2 (.int _)⟩
theorem ez_to {te : TE} {d e : PyData} (h : EzW K W te σ H d) (z : d = e) : EzW K W te σ H e := z ▸ h
theorem ez_take {te tp : TE} {ds : List PyData} {j : Nat} (h : EzW K W te σ H (.tuple ds)) (hp : EzW K W tp σ H (.int (j : Nat))) : EzW K W (tSl (rSlA K) te tNoPart (tPart tp)) σ H (.tuple (ds.take j)) := fun H1 g s Q q =>
  h H1 g s _ fun v H2 g2 e => hp H2 (g.trans (gr0 g2)) (s.gr g2) _ fun vj H3 g3 ej => by
    obtain rfl := dz_int ej
    have e := Dz.gr (hid_gr (gr0 g3)) e
    cases e with
    | @tup a ys _ s' t =>
      have hl := dzAll_len t
      refine ⟨(j : Int), rfl, a, ys, rfl, hid_out.sqT s', fun z => ?_, fun _ p np => ?_⟩
      · have e1 := z.2
        rw [HT.sIx_nat] at e1
        have e2 : ds.take j = ds := List.take_of_length_le (by omega)
        refine q _ H3 (g2.trans g3) ?_
        rw [e2]
        exact .tup s' t
      · refine q _ _ ((g2.trans g3).trans (Gr.new np)) (dz_tup (hid_get upd_same (((s.gr g2).gr g3).ne np)) ?_)
        rw [cut_lo']
        exact DzAll.gr (hid_gr (Gr.new np)) (dzAll_take j t)
theorem ez_drop {te tp : TE} {ds : List PyData} {j : Nat} (h : EzW K W te σ H (.tuple ds)) (hp : EzW K W tp σ H (.int (j : Nat))) : EzW K W (tSl (rSlA K) te (tPart tp) tNoPart) σ H (.tuple (ds.drop j)) := fun H1 g s Q q =>
  h H1 g s _ fun v H2 g2 e => hp H2 (g.trans (gr0 g2)) (s.gr g2) _ fun vj H3 g3 ej => by
    obtain rfl := dz_int ej
    have e := Dz.gr (hid_gr (gr0 g3)) e
    cases e with
    | @tup a ys _ s' t =>
      have hl := dzAll_len t
      refine ⟨(j : Int), rfl, a, ys, rfl, hid_out.sqT s', fun z => ?_, fun _ p np => ?_⟩
      · have e1 := z.1
        rw [HT.sIx_nat] at e1
        refine q _ H3 (g2.trans g3) ?_
        have e2 : ds.drop j = ds := by
          rcases Nat.eq_zero_or_pos j with z | z
          · subst z
            rfl
          · have : ds.length = 0 := by omega
            rw [List.length_eq_zero_iff.mp this]
            cases j <;> rfl
        rw [e2]
        exact .tup s' t
      · refine q _ _ ((g2.trans g3).trans (Gr.new np)) (dz_tup (hid_get upd_same (((s.gr g2).gr g3).ne np)) ?_)
        rw [cut_hi']
        exact DzAll.gr (hid_gr (Gr.new np)) (dzAll_drop j t)
theorem ez_rev {te : TE} {ds : List PyData} (h : EzW K W te σ H (.tuple ds)) : EzW K W (tStL (rRvT K) te (tUn (rU fun i => V.int (-i)) (tC (.int 1)))) σ H (.tuple ds.reverse) := fun H1 g s Q q =>
  h H1 g s _ fun v H2 g2 e => by
    cases e with
    | @tup a ys _ s' t =>
      exact ⟨1, rfl, a, ys, rfl, rfl, hid_out.sqT s', fun p np => q _ _ (g2.trans (Gr.new np)) (dz_tup (hid_get upd_same ((s.gr g2).ne np)) (DzAll.gr (hid_gr (Gr.new np)) (dzAll_rev t)))⟩
theorem ez_ixT {te ti : TE} {ds : List PyData} {d : PyData} {j : Nat} (h : EzW K W te σ H (.tuple ds)) (hi : EzW K W ti σ H (.int (j : Nat))) (hj : ds[j]? = some d) : EzW K W (tOp (rIxT K) te ti) σ H d := fun H1 g s Q q =>
  h H1 g s _ fun v H2 g2 e => hi H2 (g.trans (gr0 g2)) (s.gr g2) _ fun vi H3 g3 ei => by
    obtain rfl := dz_int ei
    have e := Dz.gr (hid_gr (gr0 g3)) e
    cases e with
    | @tup a ys _ s' t =>
      obtain ⟨y, hy, dy⟩ := dzAll_at t hj
      exact ⟨a, ys, (j : Int), y, rfl, rfl, hid_out.sqT s', atI_nat hy, q _ H3 (g2.trans g3) dy⟩
theorem ez_ixL {te ti : TE} {ds : List PyData} {d : PyData} {j : Nat} (h : EzW K W te σ H (.list ds)) (hi : EzW K W ti σ H (.int (j : Nat))) (hj : ds[j]? = some d) : EzW K W (tOp (rIxL K) te ti) σ H d := fun H1 g s Q q =>
  h H1 g s _ fun v H2 g2 e => hi H2 (g.trans (gr0 g2)) (s.gr g2) _ fun vi H3 g3 ei => by
    obtain rfl := dz_int ei
    have e := Dz.gr (hid_gr (gr0 g3)) e
    cases e with
    | @lst a ys _ s' t =>
      obtain ⟨y, hy, dy⟩ := dzAll_at t hj
      exact ⟨a, ys, (j : Int), y, rfl, rfl, hid_out.sqL s', atI_nat hy, q _ H3 (g2.trans g3) dy⟩
theorem ez_lenT {te : TE} {ds : List PyData} (h : EzW K W te σ H (.tuple ds)) : EzW K W (tCB (rLn K) (tCons te tNil)) σ H (.int (ds.length : Nat)) := fun H1 g s Q q =>
  h H1 g s _ fun v H2 g2 e => by
    cases e with
    | @tup a ys _ s' t => exact ⟨a, ys, rfl, .inr (hid_out.sqT s'), by rw [dzAll_len t]; exact q _ H2 g2 (.int _)⟩
theorem ez_lenL {te : TE} {ds : List PyData} (h : EzW K W te σ H (.list ds)) : EzW K W (tCB (rLn K) (tCons te tNil)) σ H (.int (ds.length : Nat)) := fun H1 g s Q q =>
  h H1 g s _ fun v H2 g2 e => by
    cases e with
    | @lst a ys _ s' t => exact ⟨a, ys, rfl, .inl (hid_out.sqL s'), by rw [dzAll_len t]; exact q _ H2 g2 (.int _)⟩
theorem ez_dct : EzW K W tDNewK σ H (.dict []) := fun H1 g s Q q => fun p np => q _ _ (Gr.new np) (.dct (kvs := []) (hid_get upd_same (s.ne np)) rfl .nil)
end
end Wn
/-! enumerate over a tuple -/
namespace Wn
open PySem PySem.Spec PyProof.Rows L2
theorem meets_enum1 {v : Value} {o : Obj} {G : Heap → Prop} (B : Begins v o G) :
    Meets (Builtin.«enumerate.__new__» ⟨[.type "enumerate", v], []⟩) (fun _ R s => G s.heap ∧
      R (.ok (.ret (.ref (s.heap.push o).objs.size))) { s with heap := (s.heap.push o).push { cls := .type "enumerate", data := .fields #[.none, .bool false, .ref s.heap.objs.size, rawInt 0, .none, .none] } }) :=
  .of_wp fun prog w A R s h => by
    obtain ⟨h0, g, d, tk, os⟩ := s
    obtain ⟨h1, h⟩ := h
    have hsub := sub_enumerate
    have q1 : ∀ {A' : Around} {E : Value → Shared → Prop} {Q : Value → Shared → Prop}, Q (.ref h0.objs.size) ⟨h0.push o, g, d, tk, os⟩ → wpAny (model prog w) A' (pyIter v) Q E ⟨h0, g, d, tk, os⟩ :=
      fun q => B.iter prog w _ _ ⟨h0, g, d, tk, os⟩ _ h1 q
    wp_walk using q1
    refine wpAny_stack_any fun st => wpAny_pure ?_
    split
    · rename_i c _ _ _ _ _
      cases (c == Value.type "enumerate")
      · wp_walk using q1
        exact ⟨_, rfl, h⟩
      · wp_walk using q1
        exact ⟨_, rfl, h⟩
    · wp_walk using q1
      exact ⟨_, rfl, h⟩
theorem enum1 {prog : Program} {w : World} {A : Around} {E : Value → Shared → Prop} {s : Shared} {v : Value} {o : Obj} {G : Heap → Prop} {Q : Value → Shared → Prop} (B : Begins v o G) (h1 : G s.heap)
    (h : ∀ h', IsEnum h' (s.heap.objs.size + 1) s.heap.objs.size 0 .none → h'.get? s.heap.objs.size = some o → (∀ b o, s.heap.get? b = some o → h'.get? b = some o) → Q (.ref (s.heap.objs.size + 1)) { s with heap := h' }) :
    wpAny (model prog w) A (call (.type "enumerate") [v]) Q E s := by
  refine callType_new F.called_enumerate (by decide) (F.typeCall_enumerate_1 _) (F.newCall_enumerate_1 _) (fun obj => F.args_object_init_2 obj _) F.entry_enumerate_new (meets_enum1 B) ⟨h1, ?_⟩
  have hz : (s.heap.push o).objs.size = s.heap.objs.size + 1 := Heap.size_push ..
  show _ ∧ _
  rw [hz]
  have he : IsEnum ((s.heap.push o).push { cls := .type "enumerate", data := .fields #[.none, .bool false, .ref s.heap.objs.size, rawInt 0, .none, .none] }) (s.heap.objs.size + 1) s.heap.objs.size 0 .none := by
    have z := Heap.get?_push_size (s.heap.push o) (o := { cls := .type "enumerate", data := .fields #[.none, .bool false, .ref s.heap.objs.size, rawInt 0, .none, .none] }) rfl
    rw [hz] at z
    exact z
  exact ⟨⟨_, he, rfl⟩, h _ he (Heap.get?_push_of_some _ (Heap.get?_push_size _ B.free)) fun b u x => Heap.get?_push_of_some _ (Heap.get?_push_of_some _ x)⟩
/-- the tuple at a as it stands, each item in a new pair -/
def ItE (K : PySem.W.Frag) (a : Addr) : It :=
  ⟨fun i H => ∃ (xs : List V) (x : V), SqT K H a xs ∧ xs[i]? = some x, fun i H v H' => ∃ T x, v = .ref T ∧ H T = none ∧ H' = upd H T (.tup [.int (i : Nat), x]) ∧ ∀ xs, SqT K H a xs → xs[i]? = some x, fun i H => ∃ xs : List V, SqT K H a xs ∧ xs.length = i⟩
theorem turn_enumT {P : Program} {w : World} {K : PySem.W.Frag} {elts : List Expr} {kk : Nat} {tpos : Pos} (a e it : Addr) (its : Array Value) (hat : a ≠ it) (hae : a ≠ e) (hne : e ≠ it) :
    Turn P w K (.Tuple elts kk tpos) (ItE K a) [e, it] e (fun i h => (∃ old, IsEnum h e it ((i : Nat) : Int) old) ∧ h.IsTupleIter it a i) where
  mem := by simp
  obj := fun i h st b hb => by
    obtain ⟨⟨old, he⟩, ⟨o, ho, hc, hd⟩⟩ := st
    have e' : b = e ∨ b = it := by simpa using hb
    rcases e' with z | z
    · rw [z]
      exact ⟨_, he, fun v q => nomatch q⟩
    · rw [z]
      exact ⟨o, ho, fun v q => by rw [hd] at q; cases q⟩
  keep := fun i h h' st k => let ⟨⟨old, he⟩, hi⟩ := st; ⟨⟨old, k e (by simp) _ he⟩, hi.at fun o q => k it (by simp) o q⟩
  item := by
    intro X hP hw hK hc i pins s σ H E I hf st hg
    subst hP hw hK
    obtain ⟨⟨old, he⟩, hit⟩ := st
    obtain ⟨xs, x, hq, hx⟩ := hg
    obtain ⟨vs, rv, p, hz⟩ := I.tuple hq
    obtain ⟨u, hu, ru⟩ := rv.get hx
    have hel : e < s.heap.objs.size := Heap.lt_size he
    have hil : it < s.heap.objs.size := by
      obtain ⟨_, q, _⟩ := hit
      exact Heap.lt_size q
    have D := Draws.tuple (prog := X.prog) (w := X.w) (A := X.A.in1) (I.ok.hd hc) it a hat vs.toArray
    have lt : i < vs.toArray.size := by
      rw [List.size_toArray]
      exact (List.getElem?_eq_some_iff.mp hu).1
    refine wpAny_pyNext_enum_itemD D he ⟨hit, p⟩ lt hne (by simpa using ⟨hne, Ne.symm hae⟩) fun x' h' tk hp ho hs' hT hsz hk => ?_
    have ex : x' = u := by
      have z : vs.toArray[i]? = some x' := hp
      rw [show vs.toArray[i]? = vs[i]? by simp, hu] at z
      exact (Option.some.inj z).symm
    subst ex
    refine ⟨_, rfl, wpAny_letOwnedTupleGo_enum (s := { s with heap := h', toks := tk + 1 }) ho fun h'' he' sb => ?_⟩
    have hT2 : h''.get? s.heap.objs.size = some { cls := .type "tuple", data := .seq #[.int i tk, x'] } := (sb.2 _ (Nat.ne_of_gt hel)).trans hT
    have new : ObjOk X.prog X.w (upd H s.heap.objs.size (.tup [.int (i : Nat), x])) h'' s.heap.objs.size (.tup [.int (i : Nat), x]) :=
      ⟨by show 2 ≤ sizeLine; decide, [.int i tk, x'], .cons ⟨_, rfl⟩ (.cons ru .nil), ⟨_, hT2, rfl, _, rfl⟩⟩
    have I1 : Inv X pins σ (upd H s.heap.objs.size (.tup [.int (i : Nat), x])) { s with heap := h'', toks := tk + 1 } :=
      I.turnedNew (ch := [e, it]) (fun b ob hb q => (sb.2 b (fun z => hb (by simp [z]))).trans (hk b ob (fun z => hb (by simp [z])) (fun z => hb (by simp [z])) q)) hf (Nat.le_refl _) new
    refine ⟨.ref s.heap.objs.size, _, I1, rfl, ⟨_, x, rfl, I.hok.fresh (Nat.le_refl _), rfl, fun ys hy => by rw [I.tuple_inj hy hq]; exact hx⟩, ⟨⟨x', ?_⟩, hs'.1.at fun o q => (sb.2 it (Ne.symm hne)).trans q⟩, fun b hb => ?_⟩
    · have e1 : ((i + 1 : Nat) : Int) = (i : Int) + 1 := by omega
      rw [e1]
      exact he'
    · have hb' : b < s.heap.objs.size := by
        have e' : b = e ∨ b = it := by simpa using hb
        rcases e' with z | z
        · rw [z]
          exact hel
        · rw [z]
          exact hil
      rw [upd_ne (Nat.ne_of_lt hb')]
      exact (hf b hb).1
  done := by
    intro X hP hw hK hc i pins s σ H E I hf st hg
    subst hP hw hK
    obtain ⟨⟨old, he⟩, hit⟩ := st
    obtain ⟨xs, hq, hx⟩ := hg
    obtain ⟨vs, rv, p, hz⟩ := I.tuple hq
    obtain ⟨f0, f1, f2, f3, f4, f5⟩ := hf it (by simp)
    have hl := rv.length
    have D := Draws.tuple (prog := X.prog) (w := X.w) (A := X.A.in1) (I.ok.hd hc) it a hat vs.toArray
    have en : vs.toArray.size = i := by
      rw [List.size_toArray, ← hl, hx]
    refine wpAny_pyNext_enum_endD D he ⟨by rw [en]; exact hit, p⟩ fun h' eb => ⟨rfl, I.turned (t' := s.toks) (fun b o hb q => eb b o hb q) f0 f1 f3 f4 f5⟩
  self := fun A i s Q E st h => let ⟨⟨_, he⟩, _⟩ := st; wpAny_pyIter_enum he h
def iEnumT (K : PySem.W.Frag) (ta : TA) : TI := fun σ H R => ta σ H fun vs H1 => ∃ a xs, vs = [.ref a] ∧ SqT K H1 a xs ∧ R (ItE K a) H1
theorem pi_enumT {X : Cx} {e : Expr} {ta : TA} {p pos tpos : Pos} {elts : List Expr} {kk : Nat} (hg : Gl X "enumerate") (hm : X.mg "enumerate" = none) (ha : PA X [e] ta) (hs : starEach [e] X.env = [(false, eval e X.env)] := by rfl) :
    PI X (.Tuple elts kk tpos) (.Call (.Name "enumerate" p) [e] [] pos) (iEnumT X.K ta) := by
  refine ⟨fun pins s σ H R I h => ?_⟩
  refine Call_ (ld_blt I hg hm boot_enumerate (PyProof.Rows.callWith_type1 (thn (ha.run pos pins s σ H _ I h) fun us s1 hh => ?_) hs rfl))
  obtain ⟨vs, H1, I1, r1, a, xs, ex, hq, q⟩ := hh
  subst ex
  cases r1 with
  | cons r rr =>
    cases rr
    cases r
    obtain ⟨its, rv, p', hz⟩ := I1.tuple hq
    have pT : s1.heap.IsTuple a its.toArray := p'
    refine enum1 (begins_tuple a its.toArray) pT fun h' he hit hk => wpAny_pyIter_enum he ?_
    have I2 : Inv X pins σ H1 { s1 with heap := h' } := I1.kept (t' := s1.toks) hk
    have hlt : a < s1.heap.objs.size := by
      obtain ⟨o, e, _⟩ := pT
      exact Heap.lt_size e
    refine ⟨s1.heap.objs.size + 1, [s1.heap.objs.size + 1, s1.heap.objs.size], _, _, H1, rfl, I2, turn_enumT a (s1.heap.objs.size + 1) s1.heap.objs.size its.toArray (Nat.ne_of_lt hlt) (Nat.ne_of_lt (Nat.lt_succ_of_lt hlt)) (Nat.succ_ne_self _), ⟨⟨.none, he⟩, ⟨_, hit, rfl, rfl⟩⟩, fun b hb => ?_, q⟩
    have e' : b = s1.heap.objs.size + 1 ∨ b = s1.heap.objs.size := by simpa using hb
    have hle : s1.heap.objs.size ≤ b := by
      rcases e' with z | z
      · rw [z]
        exact Nat.le_add_right _ _
      · rw [z]
        exact Nat.le_refl _
    exact I1.fpOk hle (I1.hok.fresh hle)
theorem for_enumT {K : PySem.W.Frag} {a : Addr} {xs : List V} {g : TG} {tb : TS} {D : Ends} {σ : L2.St} {H : Hp} (Pv : Nat → L2.St → Hp → Prop) (h0 : Pv 0 σ H) (hl : ∀ i σ H, i ≤ xs.length → Pv i σ H → SqT K H a xs)
    (hs : ∀ i x T σ H, xs[i]? = some x → H T = none → Pv i σ H → g (.ref T) σ (upd H T (.tup [.int (i : Nat), x])) fun σ2 H2 => tb { D with nx := Pv (i + 1), ct := Pv (i + 1), bk := D.nx } σ2 H2) (hd : ∀ σ H, Pv xs.length σ H → D.nx σ H) :
    ∃ W : Nat → Nat → L2.St → Hp → Prop, (∃ m, W 0 m σ H) ∧ ∀ i m σ H, W i m σ H →
      ((ItE K a).stop i H ∧ D.nx σ H) ∨ ((ItE K a).go i H ∧ ∃ N : L2.St → Hp → Prop, (∀ σ' H', N σ' H' → ∃ m', m' < m ∧ W (i + 1) m' σ' H') ∧ ∀ x H', (ItE K a).yld i H x H' → g x σ H' fun σ2 H2 => tb { D with nx := N, ct := N, bk := D.nx } σ2 H2) := by
  refine ⟨fun i m σ H => m = xs.length - i ∧ i ≤ xs.length ∧ Pv i σ H, ⟨xs.length, by simp, Nat.zero_le _, h0⟩, ?_⟩
  rintro i m σ H ⟨em, hi, p⟩
  subst em
  have sq := hl i σ H hi p
  rcases Nat.lt_or_eq_of_le hi with lt | e
  · refine .inr ⟨⟨xs, xs[i], sq, by simp [lt]⟩, Pv (i + 1), fun σ' H' p' => ⟨xs.length - (i + 1), by omega, rfl, lt, p'⟩, fun x H' y => ?_⟩
    obtain ⟨T, z, e1, e2, e3, e4⟩ := y
    subst e1 e3
    exact hs i z T σ H (e4 xs sq) e2 p
  · subst e
    exact .inl ⟨⟨xs, sq, rfl⟩, hd σ H p⟩
end Wn
namespace Wn
open PySem PySem.Spec PyProof.Rows L2
/-! enumerate of a list, in a loop and in a comprehension -/
theorem for_enumL {K : PySem.W.Frag} {a : Addr} {xs : List V} {g : TG} {tb : TS} {D : Ends} {σ : L2.St} {H : Hp} (Pv : Nat → L2.St → Hp → Prop) (h0 : Pv 0 σ H) (hl : ∀ i σ H, i ≤ xs.length → Pv i σ H → SqL K H a xs)
    (hs : ∀ i x T σ H, xs[i]? = some x → H T = none → Pv i σ H → g (.ref T) σ (upd H T (.tup [.int (i : Nat), x])) fun σ2 H2 => tb { D with nx := Pv (i + 1), ct := Pv (i + 1), bk := D.nx } σ2 H2) (hd : ∀ σ H, Pv xs.length σ H → D.nx σ H) :
    ∃ W : Nat → Nat → L2.St → Hp → Prop, (∃ m, W 0 m σ H) ∧ ∀ i m σ H, W i m σ H →
      ((Ite K a).stop i H ∧ D.nx σ H) ∨ ((Ite K a).go i H ∧ ∃ N : L2.St → Hp → Prop, (∀ σ' H', N σ' H' → ∃ m', m' < m ∧ W (i + 1) m' σ' H') ∧ ∀ x H', (Ite K a).yld i H x H' → g x σ H' fun σ2 H2 => tb { D with nx := N, ct := N, bk := D.nx } σ2 H2) := by
  refine ⟨fun i m σ H => m = xs.length - i ∧ i ≤ xs.length ∧ Pv i σ H, ⟨xs.length, by simp, Nat.zero_le _, h0⟩, ?_⟩
  rintro i m σ H ⟨em, hi, p⟩
  subst em
  have sq := hl i σ H hi p
  rcases Nat.lt_or_eq_of_le hi with lt | e
  · refine .inr ⟨⟨xs, xs[i], sq, by simp [lt]⟩, Pv (i + 1), fun σ' H' p' => ⟨xs.length - (i + 1), by omega, rfl, lt, p'⟩, fun x H' y => ?_⟩
    obtain ⟨T, z, e1, e2, e3, e4⟩ := y
    subst e1 e3
    exact hs i z T σ H (e4 xs sq) e2 p
  · subst e
    exact .inl ⟨⟨xs, sq, Nat.le_refl _⟩, hd σ H p⟩
theorem lc_enumL {K : PySem.W.Frag} {a : Addr} {xs : List V} {g : TG} {tt : TT} {te : TE} {vs : List Nat} {σ : L2.St} {H1 : Hp} {D : Addr} {Qd : Hp → Prop} (Pv : Nat → Hp → Prop) (h0 : Pv 0 (upd H1 D (.lst []))) (hl : ∀ i H, i ≤ xs.length → Pv i H → SqL K H a xs)
    (hs : ∀ i x T H, xs[i]? = some x → H T = none → Pv i H → g (.ref T) (wipe σ vs) (upd H T (.tup [.int (i : Nat), x])) fun σ2 H2 => wipe σ2 vs = wipe σ vs ∧ tt σ2 H2 fun b H3 =>
      if b = true then te σ2 H3 fun y H4 => ∃ acc, H4 D = some (.lst acc) ∧ acc.length < sizeLine ∧ Pv (i + 1) (upd H4 D (.lst (acc ++ [y]))) else Pv (i + 1) H3) (hd : ∀ H, Pv xs.length H → Qd H) :
    ∃ W : Nat → Nat → Hp → Prop, (∃ m, W 0 m (upd H1 D (.lst []))) ∧ ∀ i m H, W i m H →
      ((Ite K a).stop i H ∧ Qd H) ∨ ((Ite K a).go i H ∧ ∃ Nx : Hp → Prop, (∀ H', Nx H' → ∃ m', m' < m ∧ W (i + 1) m' H') ∧ ∀ x H', (Ite K a).yld i H x H' → g x (wipe σ vs) H' fun σ2 H2 => wipe σ2 vs = wipe σ vs ∧ tt σ2 H2 fun b H3 =>
        if b = true then te σ2 H3 fun y H4 => ∃ acc, H4 D = some (.lst acc) ∧ acc.length < sizeLine ∧ Nx (upd H4 D (.lst (acc ++ [y]))) else Nx H3) := by
  refine ⟨fun i m H => m = xs.length - i ∧ i ≤ xs.length ∧ Pv i H, ⟨xs.length, by simp, Nat.zero_le _, h0⟩, ?_⟩
  rintro i m H ⟨em, hi, p⟩
  subst em
  have q := hl i H hi p
  rcases Nat.lt_or_eq_of_le hi with lt | e
  · refine .inr ⟨⟨xs, xs[i], q, by simp [lt]⟩, Pv (i + 1), fun H' p' => ⟨xs.length - (i + 1), by omega, rfl, lt, p'⟩, fun x H' y => ?_⟩
    obtain ⟨T, z, e1, e2, e3, e4⟩ := y
    subst e1 e3
    exact hs i z T H (e4 xs q) e2 p
  · subst e
    exact .inl ⟨⟨xs, q, Nat.le_refl _⟩, hd H p⟩
end Wn
/-! a text times a whole number -/
namespace Wn
open PySem PySem.Spec PyProof.Rows L2
def mulS (s : Str) (k : Nat) : Str := ⟨((List.replicate k s.cps.toList).flatten).toArray⟩
theorem tl_mulS (s : Str) (k : Nat) : TL.tl (mulS s k) = (List.replicate k (TL.tl s)).flatten := rfl
theorem foldl_rep_cps (x : Array Nat) : ∀ (m : Nat) (acc : List Nat), List.foldl (fun a b => a ++ b) acc.toArray (List.replicate m x) = (acc ++ (List.replicate m x.toList).flatten).toArray
  | 0, acc => by simp
  | m + 1, acc => by
    rw [List.replicate_succ, List.foldl_cons, List.replicate_succ, List.flatten_cons]
    have : acc.toArray ++ x = (acc ++ x.toList).toArray := by
      apply Array.toList_inj.mp
      simp
    rw [this, foldl_rep_cps x m (acc ++ x.toList), List.append_assoc]
def rRepS : R2 := fun x y H Q => ∃ (s : Str) (k : Nat), x = .str s ∧ y = .int (k : Nat) ∧ k ≤ 16777216 ∧ s.length * k ≤ sizeLine ∧ Q (.str (mulS s k)) H
theorem op_repS {X : Cx} : OpR X (binaryOp .Mult) rRepS := by
  intro pins s σ H x y v u Q I rx ry h
  obtain ⟨z, k, rfl, rfl, hk, hz, q⟩ := h
  obtain ⟨t, rfl⟩ := rx
  obtain ⟨t', rfl⟩ := ry
  have hsl : sizeLine ≤ 16777216 := by decide
  refine P.mul_str (by rw [decide_eq_false (by omega), decide_eq_false (by omega)]; rfl) (fun h1 h2 => ?_) (fun _ _ => ?_) ?_
  · have hk1 : 1 ≤ k := by omega
    have hd : ((2 ^ 63 - 1 : Int)) / (k : Int) ≥ 2 ^ 38 := by
      rw [ge_iff_le, Int.le_ediv_iff_mul_le (by omega)]
      omega
    have hzl : z.length ≤ sizeLine := Nat.le_trans (Nat.le_mul_of_pos_right _ hk1) hz
    omega
  · show decide (z.length * (k : Int).toNat > sizeLine) = false
    rw [Int.toNat_natCast]
    exact decide_eq_false (by omega)
  · by_cases h1 : (k : Int) < 1
    · rw [if_pos h1]
      have hk0 : k = 0 := by omega
      subst hk0
      exact ⟨by decide, ⟨.str (mulS z 0), H, I.tok _, ⟨_, rfl⟩, q⟩⟩
    · rw [if_neg h1]
      by_cases h2 : ((k : Int) == 1 || z.length == 0) = true
      · rw [if_pos h2]
        have e : mulS z k = z := by
          refine TL.ext_tl ?_
          rw [tl_mulS]
          rw [Bool.or_eq_true, beq_iff_eq, beq_iff_eq] at h2
          rcases h2 with h2 | h2
          · have : k = 1 := by omega
            subst this
            simp
          · have : TL.tl z = [] := List.length_eq_zero_iff.mp (by rw [← h2, len_cps])
            rw [this]
            simp
        rw [e] at q
        exact ⟨.str z, H, I, ⟨_, rfl⟩, q⟩
      · rw [if_neg h2]
        have e : (⟨(List.replicate (k : Int).toNat z.cps).foldl (· ++ ·) #[]⟩ : Str) = mulS z k := by
          rw [Int.toNat_natCast]
          have := foldl_rep_cps z.cps k []
          rw [List.nil_append] at this
          unfold mulS
          rw [← this]
        rw [e]
        refine ⟨?_, ⟨.str (mulS z k), H, I.tok _, ⟨_, rfl⟩, q⟩⟩
        rw [len_cps]
        show (List.replicate k z.cps.toList).flatten.length ≤ sizeLine
        have : (List.replicate k z.cps.toList).flatten.length = z.length * k := by
          rw [len_cps]
          simp [Nat.mul_comm]
        omega
end Wn
namespace Wn
open PySem PySem.Spec PyProof.Rows L2
def isP (p : Nat) : Bool := decide (2 ≤ p) && (List.range p).all fun q => decide (q < 2) || decide (p % q ≠ 0)
theorem isP_iff {p : Nat} : isP p = true ↔ 2 ≤ p ∧ ∀ q, 2 ≤ q → q < p → ¬ q ∣ p := by
  unfold isP
  simp only [Bool.and_eq_true, decide_eq_true_eq, List.all_eq_true, List.mem_range, Bool.or_eq_true]
  constructor
  · rintro ⟨h1, h2⟩
    refine ⟨h1, fun q q1 q2 d => ?_⟩
    rcases h2 q q2 with z | z
    · omega
    · exact z (Nat.mod_eq_zero_of_dvd d)
  · rintro ⟨h1, h2⟩
    refine ⟨h1, fun q q2 => ?_⟩
    by_cases z : q < 2
    · exact .inl z
    · exact .inr fun e => h2 q (by omega) q2 (Nat.dvd_of_mod_eq_zero e)
theorem isP_dvd {p g : Nat} (h : isP p = true) (d : g ∣ p) : g = 1 ∨ g = p := by
  obtain ⟨h1, h2⟩ := isP_iff.mp h
  have hg : g ≤ p := Nat.le_of_dvd (by omega) d
  have h0 : 1 ≤ g := Nat.pos_of_ne_zero fun z => by rw [z] at d; have := Nat.eq_zero_of_zero_dvd d; omega
  by_cases e1 : g = 1
  · exact .inl e1
  · by_cases e2 : g = p
    · exact .inr e2
    · exact absurd d (h2 g (by omega) (by omega))
theorem isP_cop {p a : Nat} (h : isP p = true) (hn : ¬ p ∣ a) : Nat.gcd p a = 1 := by
  rcases isP_dvd h (Nat.gcd_dvd_left p a) with e | e
  · exact e
  · exact absurd (e ▸ Nat.gcd_dvd_right p a) hn
/-- how often p divides -/
def vlF (p : Nat) : Nat → Nat → Nat
  | 0, _ => 0
  | f + 1, n => if n % p = 0 then vlF p f (n / p) + 1 else 0
def vl (p n : Nat) : Nat := vlF p n n
theorem vlF_spec {p : Nat} (hp : 2 ≤ p) : ∀ f n, n ≤ f → 1 ≤ n → p ^ vlF p f n ∣ n ∧ ¬ p ^ (vlF p f n + 1) ∣ n
  | 0, n, h1, h2 => by omega
  | f + 1, n, h1, h2 => by
    unfold vlF
    by_cases h : n % p = 0
    · rw [if_pos h]
      obtain ⟨m, rfl⟩ := Nat.dvd_of_mod_eq_zero h
      rw [Nat.mul_div_cancel_left m (by omega)]
      have hm : 1 ≤ m := Nat.pos_of_ne_zero fun z => by rw [z] at h2; omega
      have hm2 : m < p * m := by
        have : 2 * m ≤ p * m := Nat.mul_le_mul_right _ hp
        omega
      obtain ⟨a, b⟩ := vlF_spec hp f m (by omega) hm
      refine ⟨?_, fun d => b ?_⟩
      · rw [Nat.pow_succ, Nat.mul_comm]
        exact Nat.mul_dvd_mul_left p a
      · rw [Nat.pow_succ, Nat.mul_comm] at d
        exact Nat.dvd_of_mul_dvd_mul_left (by omega) d
    · rw [if_neg h]
      refine ⟨by simp, fun d => h ?_⟩
      rw [Nat.zero_add, Nat.pow_one] at d
      exact Nat.mod_eq_zero_of_dvd d
theorem vl_spec {p n : Nat} (hp : 2 ≤ p) (hn : 1 ≤ n) : p ^ vl p n ∣ n ∧ ¬ p ^ (vl p n + 1) ∣ n := vlF_spec hp n n (Nat.le_refl _) hn
theorem vl_of {p n e : Nat} (hp : 2 ≤ p) (hn : 1 ≤ n) (h1 : p ^ e ∣ n) (h2 : ¬ p ^ (e + 1) ∣ n) : vl p n = e := by
  obtain ⟨a, b⟩ := vl_spec hp hn
  apply Nat.le_antisymm
  · apply Nat.le_of_not_lt
    intro l
    exact h2 (Nat.dvd_trans (Nat.pow_dvd_pow p l) a)
  · apply Nat.le_of_not_lt
    intro l
    exact b (Nat.dvd_trans (Nat.pow_dvd_pow p l) h1)
def fpp (n p : Nat) : Option (Nat × Nat) := if n % p = 0 ∧ isP p = true then some (p, vl p n) else none
def ppU (n k : Nat) : List (Nat × Nat) := (List.range k).filterMap (fpp n)
def ppL (n : Nat) : List (Nat × Nat) := ppU n (n + 1)
theorem ppU_succ (n k : Nat) : ppU n (k + 1) = ppU n k ++ (match fpp n k with | some r => [r] | none => []) := by
  unfold ppU
  rw [List.range_succ, List.filterMap_append]
  congr 1
  cases h : fpp n k <;> simp [h]
theorem ppU_skip {n k : Nat} : ∀ {m}, k ≤ m → (∀ p, k ≤ p → p < m → fpp n p = none) → ppU n m = ppU n k
  | 0, h, _ => by rw [show k = 0 by omega]
  | m + 1, h, hs => by
    rcases Nat.lt_or_eq_of_le h with z | z
    · rw [ppU_succ, hs m (by omega) (Nat.lt_succ_self m), List.append_nil, ppU_skip (by omega) fun p h1 h2 => hs p h1 (by omega)]
    · rw [z]
theorem ppU_len {n : Nat} : ∀ k, (ppU n k).length ≤ k := fun k => by
  unfold ppU
  refine Nat.le_trans (List.length_filterMap_le _ _) ?_
  rw [List.length_range]
  exact Nat.le_refl _
/-- what is left when all below k have been taken out -/
structure Left (n left k : Nat) : Prop where
  pos : 1 ≤ left
  dv : left ∣ n
  low : ∀ q, 2 ≤ q → q < k → ¬ q ∣ left
  same : ∀ q e, k ≤ q → isP q = true → (q ^ e ∣ left ↔ q ^ e ∣ n)
theorem Left.start {n : Nat} (hn : 1 ≤ n) : Left n n 2 := ⟨hn, Nat.dvd_refl _, fun q h1 h2 => by omega, fun _ _ _ _ => Iff.rfl⟩
theorem Left.ge {n left k : Nat} (L : Left n left k) (h : 1 < left) : k ≤ left := by
  apply Nat.le_of_not_lt
  intro z
  exact L.low left h z (Nat.dvd_refl _)
theorem Left.prime {n left k p : Nat} (L : Left n left k) (hk : 2 ≤ p) (hp : p ≤ k) (d : p ∣ left) : isP p = true := isP_iff.mpr ⟨hk, fun q h1 h2 d2 => L.low q h1 (by omega) (Nat.dvd_trans d2 d)⟩
/-- what is left has no divisor below its root: it is a prime itself -/
theorem Left.jump {n left k : Nat} (L : Left n left k) (hk : 2 ≤ k) (h : 1 < left) (h2 : left < k * k) : isP left = true ∧ Left n left left ∧ ∀ p, k ≤ p → p < left → fpp n p = none := by
  have hP : Wn.isP left = true := isP_iff.mpr ⟨h, fun q h1 h3 d => by
    obtain ⟨m, rfl⟩ := d
    have hm : 1 ≤ m := Nat.pos_of_ne_zero fun z => by rw [z] at h; omega
    have hm2 : 2 ≤ m := by
      rcases Nat.lt_or_ge m 2 with z | z
      · have : m = 1 := by omega
        rw [this] at h3
        omega
      · exact z
    have a1 : k ≤ q := Nat.le_of_not_lt fun z => L.low q h1 z (Nat.dvd_mul_right _ _)
    have a2 : k ≤ m := Nat.le_of_not_lt fun z => L.low m hm2 z (Nat.dvd_mul_left _ _)
    have := Nat.mul_le_mul a1 a2
    omega⟩
  have hge := L.ge h
  refine ⟨hP, ⟨L.pos, L.dv, fun q h1 h3 => (isP_iff.mp hP).2 q h1 h3, fun q e h1 => L.same q e (by omega)⟩, fun p h1 h3 => ?_⟩
  unfold fpp
  rw [if_neg]
  rintro ⟨h4, h5⟩
  have := (L.same p 1 h1 h5).mpr (by rw [Nat.pow_one]; exact Nat.dvd_of_mod_eq_zero h4)
  rw [Nat.pow_one] at this
  exact (isP_iff.mp hP).2 p (isP_iff.mp h5).1 h3 this
/-- p taken out e times -/
theorem Left.next {n left k r e : Nat} (L : Left n left k) (hn : 1 ≤ n) (hk : 2 ≤ k) (h : left = r * k ^ e) (hr : ¬ k ∣ r) : Left n r (k + 1) ∧ fpp n k = if e = 0 then none else some (k, e) := by
  have hr1 : 1 ≤ r := Nat.pos_of_ne_zero fun z => by have := L.pos; rw [h, z] at this; omega
  have rl : r ∣ left := ⟨k ^ e, h⟩
  refine ⟨⟨hr1, Nat.dvd_trans rl L.dv, fun q h1 h2 d => ?_, fun q c h1 hq => ?_⟩, ?_⟩
  · rcases Nat.lt_or_eq_of_le (show q ≤ k by omega) with z | z
    · exact L.low q h1 z (Nat.dvd_trans d rl)
    · exact hr (z ▸ d)
  · rw [← L.same q c (by omega) hq]
    constructor
    · exact fun d => Nat.dvd_trans d rl
    · intro d
      rw [h] at d
      refine Nat.Coprime.dvd_of_dvd_mul_right ?_ d
      refine Nat.Coprime.pow_left c (Nat.Coprime.pow_right e ?_)
      refine isP_cop hq fun d2 => ?_
      have := Nat.le_of_dvd (by omega) d2
      omega
  · by_cases e0 : e = 0
    · rw [if_pos e0]
      unfold fpp
      rw [if_neg]
      rintro ⟨h4, h5⟩
      have := (L.same k 1 (Nat.le_refl _) h5).mpr (by rw [Nat.pow_one]; exact Nat.dvd_of_mod_eq_zero h4)
      rw [Nat.pow_one, h, e0, Nat.pow_zero, Nat.mul_one] at this
      exact hr this
    · rw [if_neg e0]
      have dk : k ∣ left := by
        rw [h]
        exact Nat.dvd_trans (show k ∣ k ^ e by rw [show e = (e - 1) + 1 by omega, Nat.pow_succ]; exact Nat.dvd_mul_left _ _) (Nat.dvd_mul_left _ _)
      have hP := L.prime hk (Nat.le_refl _) dk
      have d1 : k ∣ n := Nat.dvd_trans dk L.dv
      unfold fpp
      rw [if_pos ⟨Nat.mod_eq_zero_of_dvd d1, hP⟩]
      congr 2
      refine vl_of hk hn ?_ fun d => ?_
      · exact (L.same k e (Nat.le_refl _) hP).mp (by rw [h]; exact Nat.dvd_mul_left _ _)
      · have d2 := (L.same k (e + 1) (Nat.le_refl _) hP).mpr d
        rw [h, Nat.pow_succ, Nat.mul_comm r] at d2
        exact hr (Nat.dvd_of_mul_dvd_mul_left (Nat.pow_pos (by omega)) d2)
end Wn
/-! if it is not balanced, a prime shows it -/
namespace Wn
open PySem PySem.Spec PyProof.Rows L2
theorem prime_dvd : ∀ m, 2 ≤ m → ∃ p, isP p = true ∧ p ∣ m := by
  intro m
  induction m using Nat.strongRecOn with
  | ind m ih =>
    intro hm
    cases e : isP m with
    | true => exact ⟨m, e, Nat.dvd_refl _⟩
    | false =>
      obtain ⟨q, h1, h2, h3⟩ : ∃ q, 2 ≤ q ∧ q < m ∧ q ∣ m := by
        refine Classical.byContradiction fun hno => ?_
        have := isP_iff.mpr ⟨hm, fun q h1 h2 d => hno ⟨q, h1, h2, d⟩⟩
        rw [e] at this
        cases this
      obtain ⟨p, hp, hd⟩ := ih q h2 h1
      exact ⟨p, hp, Nat.dvd_trans hd h3⟩
theorem dvd_of_pp {n R : Nat} (hn : 1 ≤ n) (h : ∀ p, isP p = true → p ∣ n → p ^ vl p n ∣ R) : n ∣ R := by
  obtain ⟨m, hm⟩ := Nat.gcd_dvd_left n R
  rcases Nat.lt_or_ge m 2 with z | z
  · have m1 : m = 1 := by
      rcases Nat.eq_zero_or_pos m with y | y
      · rw [y, Nat.mul_zero] at hm
        omega
      · omega
    rw [m1, Nat.mul_one] at hm
    have := Nat.gcd_dvd_right n R
    rwa [← hm] at this
  · exfalso
    obtain ⟨p, hp, hd⟩ := prime_dvd m z
    have p2 := (isP_iff.mp hp).1
    have pn : p ∣ n := by
      rw [hm]
      exact Nat.dvd_trans hd (Nat.dvd_mul_left _ _)
    obtain ⟨v1, v2⟩ := vl_spec p2 hn
    have hg := Nat.dvd_gcd v1 (h p hp pn)
    refine v2 ?_
    rw [Nat.pow_succ]
    have : p ^ vl p n * p ∣ Nat.gcd n R * m := Nat.mul_dvd_mul hg hd
    rwa [← hm] at this
theorem mem_ppL {n p : Nat} (hn : 1 ≤ n) (hp : isP p = true) (d : p ∣ n) : (p, vl p n) ∈ ppL n := by
  unfold ppL ppU
  rw [List.mem_filterMap]
  refine ⟨p, List.mem_range.mpr (Nat.lt_succ_of_le (Nat.le_of_dvd hn d)), ?_⟩
  unfold fpp
  rw [if_pos ⟨Nat.mod_eq_zero_of_dvd d, hp⟩]
theorem ppL_mem {n : Nat} {r : Nat × Nat} (h : r ∈ ppL n) : isP r.1 = true ∧ r.1 ∣ n ∧ r.2 = vl r.1 n := by
  unfold ppL ppU at h
  obtain ⟨p, hp, e⟩ := List.mem_filterMap.mp h
  unfold fpp at e
  by_cases c : n % p = 0 ∧ isP p = true
  · rw [if_pos c] at e
    have := Option.some.inj e
    subst this
    exact ⟨c.2, Nat.dvd_of_mod_eq_zero c.1, rfl⟩
  · rw [if_neg c] at e
    cases e
theorem shows_ex {b n k c : Nat} (hb1 : 1 ≤ b) (hn : 2 ≤ n) (h : b ^ (k * c) % n = 1 % n) (hb : bal b n k c = false) :
    ∃ r ∈ ppL n, b ^ k % r.1 = 1 ∧ restSum b n 1 k c % r.1 ^ r.2 ≠ 0 := by
  refine Classical.byContradiction fun hno => ?_
  have key : n ∣ restSum b n 1 k c := dvd_of_pp (by omega) fun p hp d => by
    have p2 := (isP_iff.mp hp).1
    obtain ⟨v1, v2⟩ := vl_spec (n := n) p2 (by omega)
    by_cases c1 : b ^ k % p = 1
    · refine Classical.byContradiction fun hd => hno ⟨(p, vl p n), mem_ppL (by omega) hp d, c1, fun z => hd (Nat.dvd_of_mod_eq_zero z)⟩
    · have bk : 1 ≤ b ^ k := Nat.pow_pos hb1
      have nd : ¬ p ∣ b ^ k - 1 := fun z => c1 (by
        obtain ⟨t, ht⟩ := z
        have e : b ^ k = p * t + 1 := by omega
        rw [e, Nat.mul_add_mod, Nat.mod_eq_of_lt (by omega)])
      have tel := geo_tel (b ^ k) c
      have dn : n ∣ geo (b ^ k) c * (b ^ k - 1) := by
        have e1 : geo (b ^ k) c * (b ^ k - 1) = (b ^ k) ^ c - 1 := by
          rw [Nat.mul_sub, Nat.mul_one]
          omega
        rw [e1, ← Nat.pow_mul]
        have one : 1 % n = 1 := Nat.mod_eq_of_lt (by omega)
        rw [one] at h
        have := Nat.div_add_mod (b ^ (k * c)) n
        rw [h] at this
        exact ⟨b ^ (k * c) / n, by omega⟩
      have cp : Nat.Coprime (p ^ vl p n) (b ^ k - 1) := Nat.Coprime.pow_left _ (isP_cop hp nd)
      have dg : p ^ vl p n ∣ geo (b ^ k) c := cp.dvd_of_dvd_mul_right (Nat.dvd_trans v1 dn)
      have rm := restSum_mod b n 1 k c
      rw [Nat.one_mul] at rm
      have h1 := (Nat.dvd_mod_iff v1).mpr dg
      rw [← rm] at h1
      exact (Nat.dvd_mod_iff v1).mp h1
  have : bal b n k c = true := by
    unfold bal
    exact decide_eq_true (Nat.mod_eq_zero_of_dvd key)
  rw [hb] at this
  cases this
end Wn
namespace Wn
open PySem PySem.Spec PyProof.Rows L2
open LamX (Tabs ExtN tLam)
local macro_rules | `(tactic| walk_at "vc") => `(tactic| simp only [cxK, cxK2, start1, start2, start3, tRet, tRetN, tSeq, tNext, tIfS, tAsg, gName, tDrop, tVar, tC, tOp, tUn, tTest, tB, tNot, tAnd, tOr, tAndV, tOrV, tNotV, tIf, tCons, tNil, tCB, tCall, tChain, tAug, ipI, rI, rI0, rU, rIs, rGcd, rEq, rNe, scal,
  List.getElem?_cons_zero, List.getElem?_cons_succ, List.set_cons_zero, List.set_cons_succ, Option.some.injEq, List.cons.injEq, V.int.injEq, V.bl.injEq, V.ref.injEq, V.str.injEq, and_true, true_and, exists_eq_left, exists_eq_left', exists_and_left, exists_and_right, List.append_nil, List.nil_append, List.cons_append, exists_eq_right, exists_eq_right', and_assoc, exists_const, V.ty.injEq, ↓reduceIte, Bool.false_eq_true, Bool.not_true, Bool.not_false, decide_eq_true_eq])
def topS (i : Nat) : Stmt := PySem.Challenge.pw_wheelnines_k19_texts_refused.main.body.getD i (.Pass ⟨0, 0, 0, 0⟩)
abbrev s_is_integer : Stmt := topS 15
theorem sc_is_integer : FnScope ["value"] ["value"] (defScope s_is_integer) := ⟨rfl, rfl, rfl, by decide +kernel, rfl, by decide +kernel, by decide +kernel⟩
abbrev s_is_within : Stmt := topS 16
theorem sc_is_within : FnScope ["value", "low", "high"] ["value", "low", "high"] (defScope s_is_within) := ⟨rfl, rfl, rfl, by decide +kernel, rfl, by decide +kernel, by decide +kernel⟩
abbrev s_need_base : Stmt := topS 17
theorem sc_need_base : FnScope ["value"] ["value"] (defScope s_need_base) := ⟨rfl, rfl, rfl, by decide +kernel, rfl, by decide +kernel, by decide +kernel⟩
abbrev s_need_denominator : Stmt := topS 18
theorem sc_need_denominator : FnScope ["value"] ["value"] (defScope s_need_denominator) := ⟨rfl, rfl, rfl, by decide +kernel, rfl, by decide +kernel, by decide +kernel⟩
abbrev s_need_fraction : Stmt := topS 19
theorem sc_need_fraction : FnScope ["value", "numerator", "denominator"] ["value"] (defScope s_need_fraction) := ⟨rfl, rfl, rfl, by decide +kernel, rfl, by decide +kernel, by decide +kernel⟩
abbrev s_pure_part : Stmt := topS 20
theorem sc_pure_part : FnScope ["base", "denominator", "pure", "common"] ["base", "denominator"] (defScope s_pure_part) := ⟨rfl, rfl, rfl, by decide +kernel, rfl, by decide +kernel, by decide +kernel⟩
abbrev s_period : Stmt := topS 21
theorem sc_period : FnScope ["base", "denominator", "pure", "one", "rest", "size"] ["base", "denominator"] (defScope s_period) := ⟨rfl, rfl, rfl, by decide +kernel, rfl, by decide +kernel, by decide +kernel⟩
abbrev s_head_size : Stmt := topS 22
theorem sc_head_size : FnScope ["base", "denominator", "impure", "rest", "size"] ["base", "denominator"] (defScope s_head_size) := ⟨rfl, rfl, rfl, by decide +kernel, rfl, by decide +kernel, by decide +kernel⟩
abbrev s_power : Stmt := topS 23
theorem sc_power : FnScope ["number", "exponent", "result", "_"] ["number", "exponent"] (defScope s_power) := ⟨rfl, rfl, rfl, by decide +kernel, rfl, by decide +kernel, by decide +kernel⟩
abbrev s_are_digits : Stmt := topS 26
theorem sc_are_digits : FnScope ["base", "value", "least", "digit"] ["base", "value", "least"] (defScope s_are_digits) := ⟨rfl, rfl, rfl, by decide +kernel, rfl, by decide +kernel, by decide +kernel⟩
abbrev s_need_digits : Stmt := topS 27
theorem sc_need_digits : FnScope ["base", "value"] ["base", "value"] (defScope s_need_digits) := ⟨rfl, rfl, rfl, by decide +kernel, rfl, by decide +kernel, by decide +kernel⟩
abbrev s_number_of : Stmt := topS 28
theorem sc_number_of : FnScope ["base", "row", "number", "digit"] ["base", "row"] (defScope s_number_of) := ⟨rfl, rfl, rfl, by decide +kernel, rfl, by decide +kernel, by decide +kernel⟩
abbrev s_divided : Stmt := topS 29
theorem sc_divided : FnScope ["base", "remainder", "denominator", "count", "row", "rest", "_"] ["base", "remainder", "denominator", "count"] (defScope s_divided) := ⟨rfl, rfl, rfl, by decide +kernel, rfl, by decide +kernel, by decide +kernel⟩
abbrev s_expansion : Stmt := topS 30
theorem sc_expansion : FnScope ["base", "fraction", "numerator", "denominator", "size", "row"] ["base", "fraction"] (defScope s_expansion) := ⟨rfl, rfl, rfl, by decide +kernel, rfl, by decide +kernel, by decide +kernel⟩
abbrev s_fraction_of : Stmt := topS 31
theorem sc_fraction_of : FnScope ["base", "head", "digits", "nines", "numerator", "denominator", "common"] ["base", "head", "digits"] (defScope s_fraction_of) := ⟨rfl, rfl, rfl, by decide +kernel, rfl, by decide +kernel, by decide +kernel⟩
abbrev s_need_string : Stmt := topS 34
theorem sc_need_string : FnScope ["value"] ["value"] (defScope s_need_string) := ⟨rfl, rfl, rfl, by decide +kernel, rfl, by decide +kernel, by decide +kernel⟩
abbrev s_run_size : Stmt := topS 35
theorem sc_run_size : FnScope ["text", "size"] ["text"] (defScope s_run_size) := ⟨rfl, rfl, rfl, by decide +kernel, rfl, by decide +kernel, by decide +kernel⟩
abbrev s_integer_in : Stmt := topS 36
theorem sc_integer_in : FnScope ["text"] ["text"] (defScope s_integer_in) := ⟨rfl, rfl, rfl, by decide +kernel, rfl, by decide +kernel, by decide +kernel⟩
abbrev s_fraction_text : Stmt := topS 37
theorem sc_fraction_text : FnScope ["fraction", "numerator", "denominator"] ["fraction"] (defScope s_fraction_text) := ⟨rfl, rfl, rfl, by decide +kernel, rfl, by decide +kernel, by decide +kernel⟩
abbrev s_read_fraction : Stmt := topS 38
theorem sc_read_fraction : FnScope ["string", "size", "numerator", "denominator"] ["string"] (defScope s_read_fraction) := ⟨rfl, rfl, rfl, by decide +kernel, rfl, by decide +kernel, by decide +kernel⟩
abbrev s_expansion_text : Stmt := topS 39
theorem sc_expansion_text : FnScope ["base", "fraction", "head", "repetend", "words", "digit"] ["base", "fraction"] (defScope s_expansion_text) := ⟨rfl, rfl, rfl, by decide +kernel, rfl, by decide +kernel, by decide +kernel⟩
abbrev s_digits_in : Stmt := topS 40
theorem sc_digits_in : FnScope ["base", "words", "row", "word", "digit"] ["base", "words"] (defScope s_digits_in) := ⟨rfl, rfl, rfl, by decide +kernel, rfl, by decide +kernel, by decide +kernel⟩
abbrev s_need_word : Stmt := topS 41
theorem sc_need_word : FnScope ["words", "at", "word"] ["words", "at", "word"] (defScope s_need_word) := ⟨rfl, rfl, rfl, by decide +kernel, rfl, by decide +kernel, by decide +kernel⟩
abbrev s_read_expansion : Stmt := topS 42
theorem sc_read_expansion : FnScope ["base", "string", "words", "head", "start", "repetend", "end"] ["base", "string"] (defScope s_read_expansion) := ⟨rfl, rfl, rfl, by decide +kernel, rfl, by decide +kernel, by decide +kernel⟩
abbrev s_law_begun : Stmt := topS 44
theorem sc_law_begun : FnScope ["script", "great", "cell"] ["script"] (defScope s_law_begun) := ⟨rfl, rfl, rfl, by decide +kernel, rfl, by decide +kernel, by decide +kernel⟩
abbrev s_law_draw : Stmt := topS 45
theorem sc_law_draw : FnScope ["m", "limit", "found", "spot", "cell", "mixed"] ["m", "limit"] (defScope s_law_draw) := ⟨rfl, rfl, rfl, by decide +kernel, rfl, by decide +kernel, by decide +kernel⟩
abbrev s_law_of : Stmt := topS 46
theorem sc_law_of : FnScope ["m", "some"] ["m", "some"] (defScope s_law_of) := ⟨rfl, rfl, rfl, by decide +kernel, rfl, by decide +kernel, by decide +kernel⟩
abbrev s_law_divisor : Stmt := topS 47
theorem sc_law_divisor : FnScope ["one", "other"] ["one", "other"] (defScope s_law_divisor) := ⟨rfl, rfl, rfl, by decide +kernel, rfl, by decide +kernel, by decide +kernel⟩
abbrev s_law_part : Stmt := topS 48
theorem sc_law_part : FnScope ["m", "most", "n", "x"] ["m", "most"] (defScope s_law_part) := ⟨rfl, rfl, rfl, by decide +kernel, rfl, by decide +kernel, by decide +kernel⟩
abbrev s_law_ring : Stmt := topS 49
theorem sc_law_ring : FnScope ["b", "part", "x", "n", "row", "spots"] ["b", "part"] (defScope s_law_ring) := ⟨rfl, rfl, rfl, by decide +kernel, rfl, by decide +kernel, by decide +kernel⟩
abbrev s_law_spread : Stmt := topS 50
theorem sc_law_spread : FnScope ["b", "part", "row", "begin", "figs", "x"] ["b", "part"] (defScope s_law_spread) := ⟨rfl, rfl, rfl, by decide +kernel, rfl, by decide +kernel, by decide +kernel⟩
abbrev s_law_worth : Stmt := topS 51
theorem sc_law_worth : FnScope ["b", "figs", "found", "fig"] ["b", "figs"] (defScope s_law_worth) := ⟨rfl, rfl, rfl, by decide +kernel, rfl, by decide +kernel, by decide +kernel⟩
abbrev s_law_power : Stmt := topS 52
theorem sc_law_power : FnScope ["b", "many", "found", "k"] ["b", "many"] (defScope s_law_power) := ⟨rfl, rfl, rfl, by decide +kernel, rfl, by decide +kernel, by decide +kernel⟩
abbrev s_law_word : Stmt := topS 53
theorem sc_law_word : FnScope ["error", "found"] ["error"] (defScope s_law_word) := ⟨rfl, rfl, rfl, by decide +kernel, rfl, by decide +kernel, by decide +kernel⟩
abbrev s_law_outcome : Stmt := topS 54
theorem sc_law_outcome : FnScope ["call", "found", "error", "e"] ["call"] (defScope s_law_outcome) := ⟨rfl, rfl, rfl, by decide +kernel, rfl, by decide +kernel, by decide +kernel⟩
abbrev s_law_is_figure : Stmt := topS 55
theorem sc_law_is_figure : FnScope ["sign"] ["sign"] (defScope s_law_is_figure) := ⟨rfl, rfl, rfl, by decide +kernel, rfl, by decide +kernel, by decide +kernel⟩
abbrev s_law_is_number : Stmt := topS 56
theorem sc_law_is_number : FnScope ["text", "sign"] ["text"] (defScope s_law_is_number) := ⟨rfl, rfl, rfl, by decide +kernel, rfl, by decide +kernel, by decide +kernel⟩
abbrev s_law_fraction_due : Stmt := topS 57
theorem sc_law_fraction_due : FnScope ["text", "size", "x", "n", "is_one"] ["text"] (defScope s_law_fraction_due) := ⟨rfl, rfl, rfl, by decide +kernel, rfl, by decide +kernel, by decide +kernel⟩
abbrev s_law_words_read : Stmt := topS 58
theorem sc_law_words_read : FnScope ["b", "words", "head", "ring", "is_open", "number", "word", "row"] ["b", "words"] (defScope s_law_words_read) := ⟨rfl, rfl, rfl, by decide +kernel, rfl, by decide +kernel, by decide +kernel⟩
abbrev s_law_expansion_due : Stmt := topS 59
theorem sc_law_expansion_due : FnScope ["b", "text", "told", "head", "ring", "nines", "x", "n", "least"] ["b", "text"] (defScope s_law_expansion_due) := ⟨rfl, rfl, rfl, by decide +kernel, rfl, by decide +kernel, by decide +kernel⟩
abbrev s_law_bent : Stmt := topS 60
theorem sc_law_bent : FnScope ["m", "text", "at", "way", "sign"] ["m", "text"] (defScope s_law_bent) := ⟨rfl, rfl, rfl, by decide +kernel, rfl, by decide +kernel, by decide +kernel⟩
abbrev s_law_right : Stmt := topS 61
theorem sc_law_right : FnScope ["b", "text", "kept", "due", "heard"] ["b", "text"] (defScope s_law_right) := ⟨rfl, rfl, rfl, by decide +kernel, rfl, by decide +kernel, by decide +kernel⟩
abbrev s_law_hand_right : Stmt := topS 62
theorem sc_law_hand_right : FnScope ["rows", "text", "place", "pair", "due", "heard"] [] (defScope s_law_hand_right) := ⟨rfl, rfl, rfl, by decide +kernel, rfl, by decide +kernel, by decide +kernel⟩
abbrev s_law : Stmt := topS 63
theorem sc_law : FnScope ["script", "m", "lap", "b", "part", "head", "ring", "text", "fig", "one", "near", "again"] ["script"] (defScope s_law) := ⟨rfl, rfl, rfl, by decide +kernel, rfl, by decide +kernel, by decide +kernel⟩
def clsB (st : Stmt) (j : Nat) : Stmt := match st with
  | .ClassDef (body := b) .. => b.getD j (.Pass ⟨0, 0, 0, 0⟩)
  | _ => .Pass ⟨0, 0, 0, 0⟩
abbrev s_BadBase_init : Stmt := clsB (topS 3) 0
theorem sc_BadBase_init : FnScope ["self", "value"] ["self", "value"] (defScope s_BadBase_init) := ⟨rfl, rfl, rfl, by decide +kernel, rfl, by decide +kernel, by decide +kernel⟩
abbrev s_BadFraction_init : Stmt := clsB (topS 5) 0
theorem sc_BadFraction_init : FnScope ["self", "value"] ["self", "value"] (defScope s_BadFraction_init) := ⟨rfl, rfl, rfl, by decide +kernel, rfl, by decide +kernel, by decide +kernel⟩
abbrev s_BadText_init : Stmt := clsB (topS 9) 0
theorem sc_BadText_init : FnScope ["self", "place"] ["self", "place"] (defScope s_BadText_init) := ⟨rfl, rfl, rfl, by decide +kernel, rfl, by decide +kernel, by decide +kernel⟩
abbrev s_TooGreat_init : Stmt := clsB (topS 10) 0
theorem sc_TooGreat_init : FnScope ["self", "most"] ["self", "most"] (defScope s_TooGreat_init) := ⟨rfl, rfl, rfl, by decide +kernel, rfl, by decide +kernel, by decide +kernel⟩
abbrev s_Nothing_init : Stmt := clsB (topS 11) 0
theorem sc_Nothing_init : FnScope ["self", "value"] ["self", "value"] (defScope s_Nothing_init) := ⟨rfl, rfl, rfl, by decide +kernel, rfl, by decide +kernel, by decide +kernel⟩
structure Txt (K : PySem.W.Frag) (mg : Str → Option Value) where
  d_is_integer : Dn K mg "is_integer" s_is_integer ["value"]
  d_is_within : Dn K mg "is_within" s_is_within ["value", "low", "high"]
  d_need_base : Dn K mg "need_base" s_need_base ["value"]
  d_need_denominator : Dn K mg "need_denominator" s_need_denominator ["value"]
  d_need_fraction : Dn K mg "need_fraction" s_need_fraction ["value"]
  d_pure_part : Dn K mg "pure_part" s_pure_part ["base", "denominator"]
  d_period : Dn K mg "period" s_period ["base", "denominator"]
  d_head_size : Dn K mg "head_size" s_head_size ["base", "denominator"]
  d_power : Dn K mg "power" s_power ["number", "exponent"]
  d_are_digits : Dn K mg "are_digits" s_are_digits ["base", "value", "least"]
  d_need_digits : Dn K mg "need_digits" s_need_digits ["base", "value"]
  d_number_of : Dn K mg "number_of" s_number_of ["base", "row"]
  d_divided : Dn K mg "divided" s_divided ["base", "remainder", "denominator", "count"]
  d_expansion : Dn K mg "expansion" s_expansion ["base", "fraction"]
  d_fraction_of : Dn K mg "fraction_of" s_fraction_of ["base", "head", "digits"]
  d_need_string : Dn K mg "need_string" s_need_string ["value"]
  d_run_size : Dn K mg "run_size" s_run_size ["text"]
  d_integer_in : Dn K mg "integer_in" s_integer_in ["text"]
  d_fraction_text : Dn K mg "fraction_text" s_fraction_text ["fraction"]
  d_read_fraction : Dn K mg "read_fraction" s_read_fraction ["string"]
  d_expansion_text : Dn K mg "expansion_text" s_expansion_text ["base", "fraction"]
  d_digits_in : Dn K mg "digits_in" s_digits_in ["base", "words"]
  d_need_word : Dn K mg "need_word" s_need_word ["words", "at", "word"]
  d_read_expansion : Dn K mg "read_expansion" s_read_expansion ["base", "string"]
  d_law_begun : Dn K mg "_law_begun" s_law_begun ["script"]
  d_law_draw : Dn K mg "_law_draw" s_law_draw ["m", "limit"]
  d_law_of : Dn K mg "_law_of" s_law_of ["m", "some"]
  d_law_divisor : Dn K mg "_law_divisor" s_law_divisor ["one", "other"]
  d_law_part : Dn K mg "_law_part" s_law_part ["m", "most"]
  d_law_ring : Dn K mg "_law_ring" s_law_ring ["b", "part"]
  d_law_spread : Dn K mg "_law_spread" s_law_spread ["b", "part"]
  d_law_worth : Dn K mg "_law_worth" s_law_worth ["b", "figs"]
  d_law_power : Dn K mg "_law_power" s_law_power ["b", "many"]
  d_law_word : Dn K mg "_law_word" s_law_word ["error"]
  d_law_outcome : Dn K mg "_law_outcome" s_law_outcome ["call"]
  d_law_is_figure : Dn K mg "_law_is_figure" s_law_is_figure ["sign"]
  d_law_is_number : Dn K mg "_law_is_number" s_law_is_number ["text"]
  d_law_fraction_due : Dn K mg "_law_fraction_due" s_law_fraction_due ["text"]
  d_law_words_read : Dn K mg "_law_words_read" s_law_words_read ["b", "words"]
  d_law_expansion_due : Dn K mg "_law_expansion_due" s_law_expansion_due ["b", "text"]
  d_law_bent : Dn K mg "_law_bent" s_law_bent ["m", "text"]
  d_law_right : Dn K mg "_law_right" s_law_right ["b", "text"]
  d_law_hand_right : Dn K mg "_law_hand_right" s_law_hand_right []
  d_law : Dn K mg "law" s_law ["script"]
  b_isinstance : mg "isinstance" = none
  b_int : mg "int" = none
  b_bool : mg "bool" = none
  b_str : mg "str" = none
  b_len : mg "len" = none
  b_range : mg "range" = none
  b_tuple : mg "tuple" = none
  b_list : mg "list" = none
  b_min : mg "min" = none
  b_repr : mg "repr" = none
  b_enumerate : mg "enumerate" = none
  b_all : mg "all" = none
  b_OverflowError : mg "OverflowError" = none
  b_LookupError : mg "LookupError" = none
  b_gcd : mg "gcd" = some (.builtin "math.gcd")
  C_WheelError : Addr
  g_WheelError : mg "WheelError" = some (.ref C_WheelError)
  r_WheelError : ClX.CRead K C_WheelError (.type "type")
  i_WheelError : PySem.W.findCls K (.ref C_WheelError) (.type "type") "__init__" = some (.val (.builtin "ValueError.__init__"))
  C_BadBase : Addr
  g_BadBase : mg "BadBase" = some (.ref C_BadBase)
  I_BadBase : Addr
  T_BadBase : ErrC K C_BadBase I_BadBase "value" "ValueError" "ValueError.__new__" "ValueError.__init__" [.type "ValueError", .type "Exception", .type "BaseException", .type "object"]
  fd_BadBase : FuncData
  F_BadBase : Fun K "__init__" "BadBase.__init__" s_BadBase_init I_BadBase fd_BadBase
  b_BadBase : Binds K fd_BadBase ["self", "value"] []
  is_BadBase : IsC K C_BadBase
  C_BadDenominator : Addr
  g_BadDenominator : mg "BadDenominator" = some (.ref C_BadDenominator)
  C_BadFraction : Addr
  g_BadFraction : mg "BadFraction" = some (.ref C_BadFraction)
  I_BadFraction : Addr
  T_BadFraction : ErrC K C_BadFraction I_BadFraction "value" "ValueError" "ValueError.__new__" "ValueError.__init__" [.type "ValueError", .type "Exception", .type "BaseException", .type "object"]
  fd_BadFraction : FuncData
  F_BadFraction : Fun K "__init__" "BadFraction.__init__" s_BadFraction_init I_BadFraction fd_BadFraction
  b_BadFraction : Binds K fd_BadFraction ["self", "value"] []
  is_BadFraction : IsC K C_BadFraction
  C_BadDigits : Addr
  g_BadDigits : mg "BadDigits" = some (.ref C_BadDigits)
  C_BadNumber : Addr
  g_BadNumber : mg "BadNumber" = some (.ref C_BadNumber)
  C_BadPaper : Addr
  g_BadPaper : mg "BadPaper" = some (.ref C_BadPaper)
  C_BadText : Addr
  g_BadText : mg "BadText" = some (.ref C_BadText)
  I_BadText : Addr
  T_BadText : ErrC K C_BadText I_BadText "place" "ValueError" "ValueError.__new__" "ValueError.__init__" [.type "ValueError", .type "Exception", .type "BaseException", .type "object"]
  fd_BadText : FuncData
  F_BadText : Fun K "__init__" "BadText.__init__" s_BadText_init I_BadText fd_BadText
  b_BadText : Binds K fd_BadText ["self", "place"] []
  is_BadText : IsC K C_BadText
  C_TooGreat : Addr
  g_TooGreat : mg "TooGreat" = some (.ref C_TooGreat)
  I_TooGreat : Addr
  T_TooGreat : ErrC K C_TooGreat I_TooGreat "most" "OverflowError" "OverflowError.__new__" "OverflowError.__init__" [.type "OverflowError", .type "ArithmeticError", .type "Exception", .type "BaseException", .type "object"]
  fd_TooGreat : FuncData
  F_TooGreat : Fun K "__init__" "TooGreat.__init__" s_TooGreat_init I_TooGreat fd_TooGreat
  b_TooGreat : Binds K fd_TooGreat ["self", "most"] []
  is_TooGreat : IsC K C_TooGreat
  C_Nothing : Addr
  g_Nothing : mg "Nothing" = some (.ref C_Nothing)
  I_Nothing : Addr
  T_Nothing : ErrC K C_Nothing I_Nothing "value" "LookupError" "LookupError.__new__" "LookupError.__init__" [.type "LookupError", .type "Exception", .type "BaseException", .type "object"]
  fd_Nothing : FuncData
  F_Nothing : Fun K "__init__" "Nothing.__init__" s_Nothing_init I_Nothing fd_Nothing
  b_Nothing : Binds K fd_Nothing ["self", "value"] []
  is_Nothing : IsC K C_Nothing
  kit_BadBase_BadBase : PySem.W.kitOne K (.ref C_BadBase) (.ref C_BadBase) = some true
  kit_BadBase_BadDenominator : PySem.W.kitOne K (.ref C_BadBase) (.ref C_BadDenominator) = some false
  kit_BadBase_BadFraction : PySem.W.kitOne K (.ref C_BadBase) (.ref C_BadFraction) = some false
  kit_BadBase_BadDigits : PySem.W.kitOne K (.ref C_BadBase) (.ref C_BadDigits) = some false
  kit_BadBase_BadNumber : PySem.W.kitOne K (.ref C_BadBase) (.ref C_BadNumber) = some false
  kit_BadBase_BadPaper : PySem.W.kitOne K (.ref C_BadBase) (.ref C_BadPaper) = some false
  kit_BadBase_BadText : PySem.W.kitOne K (.ref C_BadBase) (.ref C_BadText) = some false
  kit_BadBase_TooGreat : PySem.W.kitOne K (.ref C_BadBase) (.ref C_TooGreat) = some false
  kit_BadBase_Nothing : PySem.W.kitOne K (.ref C_BadBase) (.ref C_Nothing) = some false
  exm_BadBase : PySem.W.exmAny K (.ref C_BadBase) [.ref C_WheelError, .ref C_Nothing, .ref C_TooGreat] = some true
  kit_BadFraction_BadBase : PySem.W.kitOne K (.ref C_BadFraction) (.ref C_BadBase) = some false
  kit_BadFraction_BadDenominator : PySem.W.kitOne K (.ref C_BadFraction) (.ref C_BadDenominator) = some false
  kit_BadFraction_BadFraction : PySem.W.kitOne K (.ref C_BadFraction) (.ref C_BadFraction) = some true
  kit_BadFraction_BadDigits : PySem.W.kitOne K (.ref C_BadFraction) (.ref C_BadDigits) = some false
  kit_BadFraction_BadNumber : PySem.W.kitOne K (.ref C_BadFraction) (.ref C_BadNumber) = some false
  kit_BadFraction_BadPaper : PySem.W.kitOne K (.ref C_BadFraction) (.ref C_BadPaper) = some false
  kit_BadFraction_BadText : PySem.W.kitOne K (.ref C_BadFraction) (.ref C_BadText) = some false
  kit_BadFraction_TooGreat : PySem.W.kitOne K (.ref C_BadFraction) (.ref C_TooGreat) = some false
  kit_BadFraction_Nothing : PySem.W.kitOne K (.ref C_BadFraction) (.ref C_Nothing) = some false
  exm_BadFraction : PySem.W.exmAny K (.ref C_BadFraction) [.ref C_WheelError, .ref C_Nothing, .ref C_TooGreat] = some true
  kit_BadText_BadBase : PySem.W.kitOne K (.ref C_BadText) (.ref C_BadBase) = some false
  kit_BadText_BadDenominator : PySem.W.kitOne K (.ref C_BadText) (.ref C_BadDenominator) = some false
  kit_BadText_BadFraction : PySem.W.kitOne K (.ref C_BadText) (.ref C_BadFraction) = some false
  kit_BadText_BadDigits : PySem.W.kitOne K (.ref C_BadText) (.ref C_BadDigits) = some false
  kit_BadText_BadNumber : PySem.W.kitOne K (.ref C_BadText) (.ref C_BadNumber) = some false
  kit_BadText_BadPaper : PySem.W.kitOne K (.ref C_BadText) (.ref C_BadPaper) = some false
  kit_BadText_BadText : PySem.W.kitOne K (.ref C_BadText) (.ref C_BadText) = some true
  kit_BadText_TooGreat : PySem.W.kitOne K (.ref C_BadText) (.ref C_TooGreat) = some false
  kit_BadText_Nothing : PySem.W.kitOne K (.ref C_BadText) (.ref C_Nothing) = some false
  exm_BadText : PySem.W.exmAny K (.ref C_BadText) [.ref C_WheelError, .ref C_Nothing, .ref C_TooGreat] = some true
  kit_TooGreat_BadBase : PySem.W.kitOne K (.ref C_TooGreat) (.ref C_BadBase) = some false
  kit_TooGreat_BadDenominator : PySem.W.kitOne K (.ref C_TooGreat) (.ref C_BadDenominator) = some false
  kit_TooGreat_BadFraction : PySem.W.kitOne K (.ref C_TooGreat) (.ref C_BadFraction) = some false
  kit_TooGreat_BadDigits : PySem.W.kitOne K (.ref C_TooGreat) (.ref C_BadDigits) = some false
  kit_TooGreat_BadNumber : PySem.W.kitOne K (.ref C_TooGreat) (.ref C_BadNumber) = some false
  kit_TooGreat_BadPaper : PySem.W.kitOne K (.ref C_TooGreat) (.ref C_BadPaper) = some false
  kit_TooGreat_BadText : PySem.W.kitOne K (.ref C_TooGreat) (.ref C_BadText) = some false
  kit_TooGreat_TooGreat : PySem.W.kitOne K (.ref C_TooGreat) (.ref C_TooGreat) = some true
  kit_TooGreat_Nothing : PySem.W.kitOne K (.ref C_TooGreat) (.ref C_Nothing) = some false
  exm_TooGreat : PySem.W.exmAny K (.ref C_TooGreat) [.ref C_WheelError, .ref C_Nothing, .ref C_TooGreat] = some true
  kit_Nothing_BadBase : PySem.W.kitOne K (.ref C_Nothing) (.ref C_BadBase) = some false
  kit_Nothing_BadDenominator : PySem.W.kitOne K (.ref C_Nothing) (.ref C_BadDenominator) = some false
  kit_Nothing_BadFraction : PySem.W.kitOne K (.ref C_Nothing) (.ref C_BadFraction) = some false
  kit_Nothing_BadDigits : PySem.W.kitOne K (.ref C_Nothing) (.ref C_BadDigits) = some false
  kit_Nothing_BadNumber : PySem.W.kitOne K (.ref C_Nothing) (.ref C_BadNumber) = some false
  kit_Nothing_BadPaper : PySem.W.kitOne K (.ref C_Nothing) (.ref C_BadPaper) = some false
  kit_Nothing_BadText : PySem.W.kitOne K (.ref C_Nothing) (.ref C_BadText) = some false
  kit_Nothing_TooGreat : PySem.W.kitOne K (.ref C_Nothing) (.ref C_TooGreat) = some false
  kit_Nothing_Nothing : PySem.W.kitOne K (.ref C_Nothing) (.ref C_Nothing) = some true
  exm_Nothing : PySem.W.exmAny K (.ref C_Nothing) [.ref C_WheelError, .ref C_Nothing, .ref C_TooGreat] = some true
  i_LookupError : PySem.W.findCls K (.type "LookupError") (.type "type") "__init__" = some (.val (.builtin "LookupError.__init__"))
  i_OverflowError : PySem.W.findCls K (.type "OverflowError") (.type "type") "__init__" = some (.val (.builtin "OverflowError.__init__"))
  k_law_right : Addr
  p_law_right : Addr
  e_law_right : d_law_right.fd.code = .ref k_law_right
  k_law_hand_right : Addr
  p_law_hand_right : Addr
  e_law_hand_right : d_law_hand_right.fd.code = .ref k_law_hand_right
  ne_law_right_law_hand_right : p_law_right ≠ p_law_hand_right
  t_MOST_BASE : Tok
  c_MOST_BASE : mg "MOST_BASE" = some (.int 1000 t_MOST_BASE)
  t_MOST_DENOMINATOR : Tok
  c_MOST_DENOMINATOR : mg "MOST_DENOMINATOR" = some (.int 5000 t_MOST_DENOMINATOR)
  t_MOST_DIGITS : Tok
  c_MOST_DIGITS : mg "MOST_DIGITS" = some (.int 400 t_MOST_DIGITS)
  t_MOST_LENGTH : Tok
  c_MOST_LENGTH : mg "MOST_LENGTH" = some (.int 40 t_MOST_LENGTH)
section
variable {P : Program} {w : World} {K : PySem.W.Frag} {mg : Str → Option Value} {base : Heap}

def BN (b n : Nat) : Prop := 2 ≤ b ∧ b ≤ 1000 ∧ 1 ≤ n ∧ n ≤ 5000
def sp_is_integer : Sp := fun vs H Q _ => ∃ i : Int, vs = [.int i] ∧ Q (.bl true) H
def sp_is_within : Sp := fun vs H Q _ => ∃ i lo hi : Int, vs = [.int i, .int lo, .int hi] ∧ (lo ≤ i ∧ i ≤ hi) ∧ Q (.bl true) H
def sp_need_base : Sp := fun vs H Q _ => ∃ i : Int, vs = [.int i] ∧ (2 ≤ i ∧ i ≤ 1000) ∧ Q (.int i) H
def sp_need_denominator : Sp := fun vs H Q _ => ∃ i : Int, vs = [.int i] ∧ (1 ≤ i ∧ i ≤ 5000) ∧ Q (.int i) H
def sp_need_fraction : Sp := fun vs H Q _ => ∃ (a : Addr) (x n : Nat), vs = [.ref a] ∧ H a = some (.tup [.int x, .int n]) ∧ (x < n ∧ n ≤ 5000 ∧ Nat.gcd x n = 1) ∧ Q (.ref a) H
def sp_pure_part : Sp := fun vs H Q _ => ∃ b n : Nat, vs = [.int b, .int n] ∧ BN b n ∧ ∀ p : Nat, IsPure b n p → Q (.int p) H
def sp_period : Sp := fun vs H Q _ => ∃ b n : Nat, vs = [.int b, .int n] ∧ BN b n ∧ ∀ p d : Nat, IsPure b n p → IsPer b p d → Q (.int d) H
def sp_head_size : Sp := fun vs H Q _ => ∃ b n : Nat, vs = [.int b, .int n] ∧ BN b n ∧ ∀ p q h : Nat, IsPure b n p → n = p * q → IsHead b q h → Q (.int h) H
theorem ok_is_integer (T : Txt K mg) : FnOk P w K mg base CX0 1 T.d_is_integer.f T.d_is_integer.fd ["value"] sp_is_integer := by
  refine T.d_is_integer.F.ok sc_is_integer (fun vs H Q E h => ?_) (fun cdv A outer s H vs Q E hr h => ?_)
  · obtain ⟨i, rfl, _⟩ := h; rfl
  · have hu := hu_of hr
    refine ⟨_, (pss_one (ps_ret (pe_and (pe_callB (r := rIs K) call_is (by rfl) T.b_isinstance (by decide +kernel) (pa_cons (pv 0) (pa_cons (pe_bltn (v := .ty "int") (by rfl) T.b_int (by decide +kernel) rfl) pa_nil))) (pe_one (pe_not (pe_callB (r := rIs K) call_is (by rfl) T.b_isinstance (by decide +kernel) (pa_cons (pv 0) (pa_cons (pe_bltn (v := .ty "bool") (by rfl) T.b_bool (by decide +kernel) rfl) pa_nil)))))))), ?_⟩
    obtain ⟨i, rfl, q⟩ := h
    walk_at "vc"
    refine ⟨"int", ty_int, by decide, by decide, iteT ⟨"int", ty_int, by decide, by decide, q⟩⟩
theorem ok_is_within (T : Txt K mg) : FnOk P w K mg base CX0 2 T.d_is_within.f T.d_is_within.fd ["value", "low", "high"] sp_is_within := by
  refine T.d_is_within.F.ok sc_is_within (fun vs H Q E h => ?_) (fun cdv A outer s H vs Q E hr h => ?_)
  · obtain ⟨i, lo, hi, rfl, _⟩ := h; rfl
  · have hu := hu_of hr
    refine ⟨_, (pss_one (ps_ret (pe_and (pe_call (ok_is_integer T) (hr.mono (by decide)) (by rfl) T.d_is_integer.m T.d_is_integer.F.kp T.d_is_integer.b .nil pass0 (pa_cons (pv 0) pa_nil)) (pe_one (pe_chain op_le op_le (pv 1) (pv 0) (pv 2)))))), ?_⟩
    obtain ⟨i, lo, hi, rfl, ⟨h1, h2⟩, q⟩ := h
    refine ⟨_, rfl, i, rfl, true, rfl, iteT ?_⟩
    walk_at "vc"
    rw [if_pos h1, decide_eq_true h2]
    exact q
theorem ok_need_base (T : Txt K mg) : FnOk P w K mg base CX0 3 T.d_need_base.f T.d_need_base.fd ["value"] sp_need_base := by
  refine T.d_need_base.F.ok sc_need_base (fun vs H Q E h => ?_) (fun cdv A outer s H vs Q E hr h => ?_)
  · obtain ⟨i, rfl, _⟩ := h; rfl
  · have hu := hu_of hr
    refine ⟨_, (pss_cons (ps_if (pt_not (pt_val (pe_call (ok_is_within T) (hr.mono (by decide)) (by rfl) T.d_is_within.m T.d_is_within.F.kp T.d_is_within.b .nil pass0 (pa_cons (pv 0) (pa_cons pe_int (pa_cons (pe_glob (v := .int 1000) (by rfl) T.c_MOST_BASE ⟨_, rfl⟩) pa_nil)))))) (pss_one ps_never) pss_nil)
      (pss_one (ps_ret (pv 0)))), ?_⟩
    obtain ⟨i, rfl, ⟨h1, h2⟩, q⟩ := h
    refine ⟨_, rfl, i, _, _, rfl, ⟨h1, h2⟩, true, rfl, iteF ?_⟩
    exact ⟨_, rfl, q⟩
theorem ok_need_denominator (T : Txt K mg) : FnOk P w K mg base CX0 3 T.d_need_denominator.f T.d_need_denominator.fd ["value"] sp_need_denominator := by
  refine T.d_need_denominator.F.ok sc_need_denominator (fun vs H Q E h => ?_) (fun cdv A outer s H vs Q E hr h => ?_)
  · obtain ⟨i, rfl, _⟩ := h; rfl
  · have hu := hu_of hr
    refine ⟨_, (pss_cons (ps_if (pt_not (pt_val (pe_call (ok_is_within T) (hr.mono (by decide)) (by rfl) T.d_is_within.m T.d_is_within.F.kp T.d_is_within.b .nil pass0 (pa_cons (pv 0) (pa_cons pe_int (pa_cons (pe_glob (v := .int 5000) (by rfl) T.c_MOST_DENOMINATOR ⟨_, rfl⟩) pa_nil)))))) (pss_one ps_never) pss_nil)
      (pss_one (ps_ret (pv 0)))), ?_⟩
    obtain ⟨i, rfl, ⟨h1, h2⟩, q⟩ := h
    refine ⟨_, rfl, i, _, _, rfl, ⟨h1, h2⟩, true, rfl, iteF ?_⟩
    exact ⟨_, rfl, q⟩
theorem ok_need_fraction (T : Txt K mg) : FnOk P w K mg base CX0 3 T.d_need_fraction.f T.d_need_fraction.fd ["value"] sp_need_fraction := by
  refine T.d_need_fraction.F.ok sc_need_fraction (fun vs H Q E h => ?_) (fun cdv A outer s H vs Q E hr h => ?_)
  · obtain ⟨a, x, n, rfl, _⟩ := h; rfl
  · have hu := hu_of hr
    refine ⟨_, (pss_cons (ps_if (PW.pt (pw_or (pt_not (pt_val (pe_callB (r := rIs K) call_is (by rfl) T.b_isinstance (by decide +kernel) (pa_cons (pv 0) (pa_cons (pe_bltn (v := .ty "tuple") (by rfl) T.b_tuple (by decide +kernel) rfl) pa_nil))))) (pw_or1 (pt_cmpR op_ne (pe_callB (r := rLn K) call_ln (by rfl) T.b_len PySem.boot_len (pa_cons (pv 0) pa_nil)) pe_int (nomark _))))) (pss_one ps_never) pss_nil)
      (pss_cons (ps_asg (pv 0) (pg_tup (by rfl) (pgs_cons (pg_name (i := 1) sc_need_fraction.nd rfl (by first | exact .inl rfl | exact .inr rfl)) (pgs_cons (pg_name (i := 2) sc_need_fraction.nd rfl (by first | exact .inl rfl | exact .inr rfl)) pgs_nil))))
      (pss_cons (ps_if (PW.pt (pw_or (pt_not (pt_val (pe_call (ok_is_within T) (hr.mono (by decide)) (by rfl) T.d_is_within.m T.d_is_within.F.kp T.d_is_within.b .nil pass0 (pa_cons (pv 2) (pa_cons pe_int (pa_cons (pe_glob (v := .int 5000) (by rfl) T.c_MOST_DENOMINATOR ⟨_, rfl⟩) pa_nil)))))) (pw_or1 (pt_not (pt_val (pe_call (ok_is_within T) (hr.mono (by decide)) (by rfl) T.d_is_within.m T.d_is_within.F.kp T.d_is_within.b .nil pass0 (pa_cons (pv 1) (pa_cons pe_int (pa_cons (pe_op op_sub (pv 2) pe_int) pa_nil))))))))) (pss_one ps_never) pss_nil)
      (pss_cons (ps_if (pt_cmpR op_ne (pe_callBfun cr_gcd (by rfl) T.b_gcd (pa_cons (pv 1) (pa_cons (pv 2) pa_nil))) pe_int (nomark _)) (pss_one ps_never) pss_nil)
      (pss_one (ps_ret (pv 0))))))), ?_⟩
    obtain ⟨a, x, n, rfl, ha, ⟨h1, h2, h3⟩, q⟩ := h
    refine ⟨_, rfl, _, "tuple", rfl, "tuple", ⟨ty_tup ha, by decide, by decide⟩, true, rfl, ?_⟩
    refine iteF ⟨_, rfl, a, _, rfl, .inr (sq_tup ha), rfl, _, rfl, ?_⟩
    refine iteF ?_
    refine ⟨_, rfl, a, _, rfl, sq_tup ha, rfl, _, _, rfl, _, _, rfl, rfl, ?_⟩
    refine ⟨_, rfl, n, _, _, rfl, ⟨by omega, by omega⟩, true, rfl, iteF ?_⟩
    refine ⟨_, rfl, _, rfl, n, 1, rfl, rfl, x, _, _, rfl, ⟨by omega, by omega⟩, true, rfl, iteF ?_⟩
    refine ⟨_, rfl, _, rfl, x, n, rfl, rfl, _, rfl, ?_⟩
    have e : (!decide (V.int ((Nat.gcd (x : Int).natAbs (n : Int).natAbs : Nat) : Int) = V.int 1)) = false := by
      rw [Int.natAbs_natCast, Int.natAbs_natCast, h3]
      rfl
    rw [e]
    exact iteF ⟨_, rfl, q⟩
theorem ok_pure_part (T : Txt K mg) : FnOk P w K mg base CX0 4 T.d_pure_part.f T.d_pure_part.fd ["base", "denominator"] sp_pure_part := by
  refine T.d_pure_part.F.ok sc_pure_part (fun vs H Q E h => ?_) (fun cdv A outer s H vs Q E hr h => ?_)
  · obtain ⟨b, n, rfl, _⟩ := h; rfl
  · have hu := hu_of hr
    refine ⟨_, (pss_cons (ps_expr (pe_call (ok_need_base T) (hr.mono (by decide)) (by rfl) T.d_need_base.m T.d_need_base.F.kp T.d_need_base.b .nil pass0 (pa_cons (pv 0) pa_nil)))
      (pss_cons (ps_expr (pe_call (ok_need_denominator T) (hr.mono (by decide)) (by rfl) T.d_need_denominator.m T.d_need_denominator.F.kp T.d_need_denominator.b .nil pass0 (pa_cons (pv 1) pa_nil)))
      (pss_cons (ps_set (i := 2) sc_pure_part.nd rfl (by first | exact .inl rfl | exact .inr rfl) (pv 1))
      (pss_cons (ps_set (i := 3) sc_pure_part.nd rfl (by first | exact .inl rfl | exact .inr rfl) (pe_callBfun cr_gcd (by rfl) T.b_gcd (pa_cons (pv 0) (pa_cons (pv 2) pa_nil))))
      (pss_cons (ps_while PassesOwn.never (pt_cmpR op_gt (pv 3) pe_int (nomark _)) (pss_cons (ps_set (i := 2) sc_pure_part.nd rfl (by first | exact .inl rfl | exact .inr rfl) (pe_op op_fdiv (pv 2) (pv 3)))
      (pss_one (ps_set (i := 3) sc_pure_part.nd rfl (by first | exact .inl rfl | exact .inr rfl) (pe_callBfun cr_gcd (by rfl) T.b_gcd (pa_cons (pv 0) (pa_cons (pv 2) pa_nil)))))))
      (pss_one (ps_ret (pv 2)))))))), ?_⟩
    obtain ⟨b, n, rfl, ⟨hb1, hb2, hn1, hn2⟩, q⟩ := h
    refine ⟨_, rfl, b, rfl, ⟨by omega, by omega⟩, ?_⟩
    refine ⟨_, rfl, n, rfl, ⟨by omega, by omega⟩, ?_⟩
    refine ⟨_, rfl, _, rfl, _, rfl, b, n, rfl, ?_⟩
    refine ⟨fun m σ H' => H' = H ∧ ∃ p r k : Nat, m = p ∧ σ = [some (.int b), some (.int n), some (.int p), some (.int (Nat.gcd b p : Nat))] ∧ 1 ≤ p ∧ n = p * r ∧ r ∣ b ^ k, ⟨n, rfl, n, 1, 0, rfl, rfl, hn1, by simp, by simp⟩, ?_⟩
    rintro m σ H' ⟨rfl, p, r, k, rfl, rfl, hp, hn, hr'⟩
    have hpn : m ≤ 5000 := by
      have : m ∣ n := ⟨r, hn⟩
      have := Nat.le_of_dvd hn1 this
      omega
    have hgm : Nat.gcd b m ≤ m := Nat.gcd_le_right b hp
    have hg1 : 1 ≤ Nat.gcd b m := Nat.gcd_pos_of_pos_right b hp
    refine ⟨_, rfl, _, 1, rfl, rfl, _, rfl, ?_⟩
    by_cases hc : (1 : Int) < ((Nat.gcd b m : Nat) : Int)
    · rw [decide_eq_true hc]
      refine iteT ⟨fun σ' H2 => H2 = H' ∧ ∃ p r k : Nat, p < m ∧ σ' = [some (.int b), some (.int n), some (.int p), some (.int (Nat.gcd b p : Nat))] ∧ 1 ≤ p ∧ n = p * r ∧ r ∣ b ^ k, ?_, ?_⟩
      · rintro σ' H2 ⟨rfl, p, r, k, h1, h2, h3, h4, h5⟩
        exact ⟨p, h1, rfl, p, r, k, rfl, h2, h3, h4, h5⟩
      · refine ⟨_, rfl, _, rfl, m, Nat.gcd b m, rfl, rfl, ⟨by omega, by omega⟩, ?_⟩
        dsimp only
        rw [← Int.natCast_ediv]
        refine ⟨_, rfl, _, rfl, b, ((m / Nat.gcd b m : Nat) : Int), rfl, ?_⟩
        obtain ⟨c, hc'⟩ := Nat.gcd_dvd_right b m
        have hq : m / Nat.gcd b m = c := by
          rw [Nat.div_eq_iff_eq_mul_right hg1 (Nat.gcd_dvd_right b m)]
          exact hc'
        have hc1 : 1 ≤ c := by
          rcases Nat.eq_zero_or_pos c with z | z
          · rw [z] at hc'
            omega
          · exact z
        have hcl : c < m := by
          have hg2 : 2 ≤ Nat.gcd b m := by omega
          have : 2 * c ≤ Nat.gcd b m * c := Nat.mul_le_mul_right c hg2
          omega
        refine ⟨rfl, c, Nat.gcd b m * r, k + 1, hcl, ?_, hc1, ?_, ?_⟩
        · rw [hq]
          rfl
        · rw [hn]
          conv => lhs; rw [hc']
          rw [Nat.mul_comm (Nat.gcd b m) c, Nat.mul_assoc]
        · rw [Nat.pow_succ, Nat.mul_comm (b ^ k) b]
          exact Nat.mul_dvd_mul (Nat.gcd_dvd_left b m) hr'
    · rw [decide_eq_false hc]
      refine iteF ⟨_, rfl, ?_⟩
      exact q m ⟨by omega, r, k, hn, hr'⟩
theorem ok_period (T : Txt K mg) : FnOk P w K mg base CX0 5 T.d_period.f T.d_period.fd ["base", "denominator"] sp_period := by
  refine T.d_period.F.ok sc_period (fun vs H Q E h => ?_) (fun cdv A outer s H vs Q E hr h => ?_)
  · obtain ⟨b, n, rfl, _⟩ := h; rfl
  · have hu := hu_of hr
    refine ⟨_, (pss_cons (ps_set (i := 2) sc_period.nd rfl (by first | exact .inl rfl | exact .inr rfl) (pe_call (ok_pure_part T) (hr.mono (by decide)) (by rfl) T.d_pure_part.m T.d_pure_part.F.kp T.d_pure_part.b .nil pass0 (pa_cons (pv 0) (pa_cons (pv 1) pa_nil))))
      (pss_cons (ps_set (i := 3) sc_period.nd rfl (by first | exact .inl rfl | exact .inr rfl) (pe_op op_mod pe_int (pv 2)))
      (pss_cons (ps_set (i := 4) sc_period.nd rfl (by first | exact .inl rfl | exact .inr rfl) (pe_op op_mod (pv 0) (pv 2)))
      (pss_cons (ps_set (i := 5) sc_period.nd rfl (by first | exact .inl rfl | exact .inr rfl) pe_int)
      (pss_cons (ps_while PassesOwn.never (pt_cmpR op_ne (pv 4) (pv 3) (nomark _)) (pss_cons (ps_set (i := 4) sc_period.nd rfl (by first | exact .inl rfl | exact .inr rfl) (pe_op op_mod (pe_op op_mul (pv 4) (pv 0)) (pv 2)))
      (pss_one (ps_aug (i := 5) sc_period.nd rfl (by first | exact .inl rfl | exact .inr rfl) pe_int ip_add))))
      (pss_one (ps_ret (pv 5)))))))), ?_⟩
    obtain ⟨b, n, rfl, hbn, q⟩ := h
    have hbn' := id hbn
    obtain ⟨hb1, hb2, hn1, hn2⟩ := hbn
    refine ⟨_, rfl, _, rfl, b, n, rfl, hbn', fun p hp => ?_⟩
    obtain ⟨g0, r0, k0, e0, d0⟩ := id hp
    have hp1 : 1 ≤ p := by
      rcases Nat.eq_zero_or_pos p with z | z
      · rw [z] at e0
        omega
      · exact z
    have hpn : p ≤ 5000 := by
      have : p ∣ n := ⟨r0, e0⟩
      have := Nat.le_of_dvd hn1 this
      omega
    obtain ⟨d, hdp, hd⟩ := per_exists hp1 g0
    refine ⟨_, rfl, 1, p, rfl, rfl, (show (0 : Int) < (p : Int) by omega), ?_⟩
    refine ⟨_, rfl, _, rfl, b, p, rfl, rfl, (show (0 : Int) < (p : Int) by omega), ?_⟩
    have e1 : (1 : Int) % (p : Int) = ((1 % p : Nat) : Int) := by rw [Int.natCast_emod]; rfl
    have e2 : (b : Int) % (p : Int) = ((b ^ 1 % p : Nat) : Int) := by rw [Int.natCast_emod, Nat.pow_one]
    refine ⟨fun m σ H' => H' = H ∧ ∃ k : Nat, m = d - k ∧ σ = [some (.int b), some (.int n), some (.int p), some (.int (1 % p : Nat)), some (.int (b ^ k % p : Nat)), some (.int k)] ∧ 1 ≤ k ∧ k ≤ d, ⟨d - 1, rfl, 1, rfl, ?_, Nat.le_refl _, hd.1⟩, ?_⟩
    · rw [← e1, ← e2]
      rfl
    rintro m σ H' ⟨rfl, k, rfl, rfl, hk1, hk2⟩
    refine ⟨_, rfl, _, rfl, rfl, _, rfl, ?_⟩
    by_cases hc : b ^ k % p = 1 % p
    · have hkd : k = d := by
        apply Nat.le_antisymm hk2
        apply Nat.le_of_not_lt
        intro l
        exact hd.2.2 k hk1 l hc
      rw [decide_eq_true (show V.int ((b ^ k % p : Nat) : Int) = V.int ((1 % p : Nat) : Int) by rw [hc])]
      refine iteF ⟨_, rfl, ?_⟩
      rw [hkd]
      exact q p d hp hd
    · rw [decide_eq_false (show ¬ V.int ((b ^ k % p : Nat) : Int) = V.int ((1 % p : Nat) : Int) from fun z => hc (by have := V.int.inj z; omega))]
      have hkd : k < d := by
        rcases Nat.lt_or_eq_of_le hk2 with l | l
        · exact l
        · subst l
          exact absurd hd.2.1 hc
      refine iteT ⟨fun σ' H2 => H2 = H' ∧ σ' = [some (.int b), some (.int n), some (.int p), some (.int (1 % p : Nat)), some (.int (b ^ (k + 1) % p : Nat)), some (.int (k + 1 : Nat))], ?_, ?_⟩
      · rintro σ' H2 ⟨rfl, rfl⟩
        exact ⟨d - (k + 1), by omega, rfl, k + 1, rfl, rfl, by omega, hkd⟩
      · have hlt : b ^ k % p < p := Nat.mod_lt _ hp1
        refine ⟨_, rfl, _, rfl, _, b, rfl, rfl, .inl ⟨by omega, by omega⟩, _, rfl, _, p, rfl, rfl, (show (0 : Int) < (p : Int) by omega), ?_⟩
        dsimp only
        rw [icm, pow_mod_step]
        exact ⟨_, rfl, _, _, rfl, rfl, rfl, rfl⟩
theorem ok_head_size (T : Txt K mg) : FnOk P w K mg base CX0 5 T.d_head_size.f T.d_head_size.fd ["base", "denominator"] sp_head_size := by
  refine T.d_head_size.F.ok sc_head_size (fun vs H Q E h => ?_) (fun cdv A outer s H vs Q E hr h => ?_)
  · obtain ⟨b, n, rfl, _⟩ := h; rfl
  · have hu := hu_of hr
    refine ⟨_, (pss_cons (ps_set (i := 2) sc_head_size.nd rfl (by first | exact .inl rfl | exact .inr rfl) (pe_op op_fdiv (pv 1) (pe_call (ok_pure_part T) (hr.mono (by decide)) (by rfl) T.d_pure_part.m T.d_pure_part.F.kp T.d_pure_part.b .nil pass0 (pa_cons (pv 0) (pa_cons (pv 1) pa_nil)))))
      (pss_cons (ps_set (i := 3) sc_head_size.nd rfl (by first | exact .inl rfl | exact .inr rfl) (pe_op op_mod pe_int (pv 2)))
      (pss_cons (ps_set (i := 4) sc_head_size.nd rfl (by first | exact .inl rfl | exact .inr rfl) pe_int)
      (pss_cons (ps_while PassesOwn.never (pt_cmpR op_ne (pv 3) pe_int (nomark _)) (pss_cons (ps_set (i := 3) sc_head_size.nd rfl (by first | exact .inl rfl | exact .inr rfl) (pe_op op_mod (pe_op op_mul (pv 3) (pv 0)) (pv 2)))
      (pss_one (ps_aug (i := 4) sc_head_size.nd rfl (by first | exact .inl rfl | exact .inr rfl) pe_int ip_add))))
      (pss_one (ps_ret (pv 4))))))), ?_⟩
    obtain ⟨b, n, rfl, hbn, q⟩ := h
    have hbn' := id hbn
    obtain ⟨hb1, hb2, hn1, hn2⟩ := hbn
    refine ⟨_, rfl, _, rfl, _, rfl, b, n, rfl, hbn', fun p hp => ?_⟩
    obtain ⟨g0, r, k0, e0, d0⟩ := id hp
    have hp1 : 1 ≤ p := by
      rcases Nat.eq_zero_or_pos p with z | z
      · rw [z] at e0
        omega
      · exact z
    have hr1 : 1 ≤ r := by
      rcases Nat.eq_zero_or_pos r with z | z
      · rw [z] at e0
        omega
      · exact z
    have hpn : p ≤ 5000 := by
      have : p ∣ n := ⟨r, e0⟩
      have := Nat.le_of_dvd hn1 this
      omega
    have hrn : r ≤ 5000 := by
      have : r ∣ n := ⟨p, by rw [e0, Nat.mul_comm]⟩
      have := Nat.le_of_dvd hn1 this
      omega
    obtain ⟨d, hdk, hd⟩ := head_exists d0
    have hdr : d ≤ r := head_le hr1 hd
    refine ⟨n, p, rfl, rfl, ⟨by omega, by omega⟩, ?_⟩
    have e3 : (n : Int) / (p : Int) = ((r : Nat) : Int) := by
      rw [← Int.natCast_ediv, e0, Nat.mul_div_cancel_left r hp1]
    dsimp only
    rw [e3]
    refine ⟨_, rfl, 1, r, rfl, rfl, (show (0 : Int) < (r : Int) by omega), ?_⟩
    have e1 : (1 : Int) % (r : Int) = ((b ^ 0 % r : Nat) : Int) := by rw [Int.natCast_emod, Nat.pow_zero]; rfl
    refine ⟨fun m σ H' => H' = H ∧ ∃ k : Nat, m = d - k ∧ σ = [some (.int b), some (.int n), some (.int r), some (.int (b ^ k % r : Nat)), some (.int k)] ∧ k ≤ d, ⟨d, rfl, 0, rfl, ?_, Nat.zero_le _⟩, ?_⟩
    · rw [← e1]
      rfl
    rintro m σ H' ⟨rfl, k, rfl, rfl, hk2⟩
    refine ⟨_, rfl, rfl, _, rfl, ?_⟩
    by_cases hc : b ^ k % r = 0
    · have hkd : k = d := by
        apply Nat.le_antisymm hk2
        apply Nat.le_of_not_lt
        intro l
        exact hd.2 k l hc
      rw [decide_eq_true (show V.int ((b ^ k % r : Nat) : Int) = V.int 0 by rw [hc]; rfl)]
      refine iteF ⟨_, rfl, ?_⟩
      rw [hkd]
      exact q p r d hp e0 hd
    · rw [decide_eq_false (show ¬ V.int ((b ^ k % r : Nat) : Int) = V.int 0 from fun z => hc (by have := V.int.inj z; omega))]
      have hkd : k < d := by
        rcases Nat.lt_or_eq_of_le hk2 with l | l
        · exact l
        · subst l
          exact absurd hd.1 hc
      refine iteT ⟨fun σ' H2 => H2 = H' ∧ σ' = [some (.int b), some (.int n), some (.int r), some (.int (b ^ (k + 1) % r : Nat)), some (.int (k + 1 : Nat))], ?_, ?_⟩
      · rintro σ' H2 ⟨rfl, rfl⟩
        exact ⟨d - (k + 1), by omega, rfl, k + 1, rfl, rfl, hkd⟩
      · have hlt : b ^ k % r < r := Nat.mod_lt _ hr1
        refine ⟨_, rfl, _, rfl, _, b, rfl, rfl, .inl ⟨by omega, by omega⟩, _, rfl, _, r, rfl, rfl, (show (0 : Int) < (r : Int) by omega), ?_⟩
        dsimp only
        rw [icm, pow_mod_step]
        exact ⟨_, rfl, _, _, rfl, rfl, rfl, rfl⟩

/-- the digits of a division that has come to x: so many of them -/
def dgs (b n x c : Nat) : List V := (List.range c).map fun i => V.int ((rem b n x i * b / n : Nat) : Int)
def sp_divided : Sp := fun vs H Q _ => ∃ b x n c : Nat, vs = [.int b, .int x, .int n, .int c] ∧ (BN b n ∧ x < n ∧ c ≤ 10000) ∧ ∀ t H', Gr [] H H' → H' t = some (.tup (dgs b n x c)) → Q (.ref t) H'
theorem ok_divided (T : Txt K mg) : FnOk P w K mg base CX0 1 T.d_divided.f T.d_divided.fd ["base", "remainder", "denominator", "count"] sp_divided := by
  refine T.d_divided.F.ok sc_divided (fun vs H Q E h => ?_) (fun cdv A outer s H vs Q E hr h => ?_)
  · obtain ⟨b, x, n, c, rfl, _⟩ := h; rfl
  · have hu := hu_of hr
    refine ⟨_, (pss_cons (ps_set (i := 4) sc_divided.nd rfl (by first | exact .inl rfl | exact .inr rfl) (pe_lst pa_nil))
      (pss_cons (ps_set (i := 5) sc_divided.nd rfl (by first | exact .inl rfl | exact .inr rfl) (pv 1))
      (pss_cons (ps_for PassesOwn.never rfl (pi_range1 (by rfl) T.b_range (pa_cons (pv 3) pa_nil)) (pg_name (i := 6) sc_divided.nd rfl (by first | exact .inl rfl | exact .inr rfl)) (pss_cons (ps_expr (pe_bm PySem.F.plainAttrs_list PySem.F.slot_list_append PySem.F.type_list_append mt_append (pv 4) (pa_cons (pe_op op_fdiv (pe_op op_mul (pv 5) (pv 0)) (pv 2)) pa_nil)))
      (pss_one (ps_set (i := 5) sc_divided.nd rfl (by first | exact .inl rfl | exact .inr rfl) (pe_op op_mod (pe_op op_mul (pv 5) (pv 0)) (pv 2))))))
      (pss_one (ps_ret (pe_callTy (r := rTpO K) call_tpO (by rfl) T.b_tuple (by decide +kernel) (pa_cons (pv 4) pa_nil))))))), ?_⟩
    obtain ⟨b, x, n, c, rfl, ⟨⟨hb1, hb2, hn1, hn2⟩, hx, hc⟩, q⟩ := h
    refine ⟨Nat.zero_le _, fun l hl => ?_⟩
    refine ⟨_, rfl, _, rfl, (c : Int), rfl, by omega, by omega, ?_⟩
    refine for_range (lo := 0) (n := (c : Int).toNat) (fun i σ H' => Gr [] H H' ∧ H' l = some (.lst (dgs b n x i)) ∧ ∃ v, σ = [some (.int b), some (.int x), some (.int n), some (.int c), some (.ref l), some (.int (rem b n x i : Nat)), v]) ⟨Gr.new hl, upd_same, none, ?_⟩ ?_ ?_
    · rw [rem_zero hx]
      rfl
    · rintro i σ H' hi ⟨hg, hL, v, rfl⟩
      have hlt : rem b n x i < n := rem_lt hn1
      refine ⟨_, rfl, .inl ⟨rfl, _, sq_lst hL⟩, _, rfl, _, rfl, _, b, rfl, rfl, .inl ⟨by omega, by omega⟩, _, rfl, _, n, rfl, rfl, ⟨by omega, by omega⟩, ?_⟩
      refine ⟨l, _, _, rfl, rfl, hL, ?_, ?_⟩
      · unfold dgs
        rw [List.length_map, List.length_range]
        exact Nat.lt_of_lt_of_le (show i < 20000 by omega) (by decide)
      · refine ⟨_, rfl, _, rfl, _, b, rfl, rfl, .inl ⟨by omega, by omega⟩, _, rfl, _, n, rfl, rfl, (show (0 : Int) < (n : Int) by omega), ?_⟩
        dsimp only
        rw [icm, rem_succ, icd]
        refine ⟨fun a o _ e => ?_, ?_, _, rfl⟩
        · rw [upd_ne (ne_of_none e hl)]
          exact hg a o (by simp) e
        · rw [upd_same]
          unfold dgs
          rw [List.range_succ, List.map_append]
          rfl
    · rintro σ H' ⟨hg, hL, v, rfl⟩
      rw [Int.toNat_natCast] at hL
      refine ⟨_, rfl, l, _, rfl, .inl ⟨sq_lst hL, fun t ht => ?_⟩⟩
      exact q t _ (hg.trans (Gr.new ht)) upd_same

def dgf (b n x lo c : Nat) : List V := (List.range c).map fun i => V.int ((rem b n x (lo + i) * b / n : Nat) : Int)
structure Exp (H : Hp) (r : Addr) (b x n h L : Nat) : Prop where
  at_ : ∃ a c, H r = some (.tup [.ref a, .ref c]) ∧ H a = some (.tup (dgf b n x 0 h)) ∧ H c = some (.tup (dgf b n x h L))
def sp_expansion : Sp := fun vs H Q _ => ∃ (b x n : Nat) (a : Addr), vs = [.int b, .ref a] ∧ H a = some (.tup [.int x, .int n]) ∧ (BN b n ∧ x < n ∧ Nat.gcd x n = 1) ∧
  ∀ p q h L t H', IsPure b n p → n = p * q → IsHead b q h → IsPer b p L → Gr [] H H' → Exp H' t b x n h L → Q (.ref t) H'
theorem ok_expansion (T : Txt K mg) : FnOk P w K mg base CX0 6 T.d_expansion.f T.d_expansion.fd ["base", "fraction"] sp_expansion := by
  refine T.d_expansion.F.ok sc_expansion (fun vs H Q E h => ?_) (fun cdv A outer s H vs Q E hr h => ?_)
  · obtain ⟨b, x, n, a, rfl, _⟩ := h; rfl
  · have hu := hu_of hr
    refine ⟨_, (pss_cons (ps_expr (pe_call (ok_need_base T) (hr.mono (by decide)) (by rfl) T.d_need_base.m T.d_need_base.F.kp T.d_need_base.b .nil pass0 (pa_cons (pv 0) pa_nil)))
      (pss_cons (ps_asg (pe_call (ok_need_fraction T) (hr.mono (by decide)) (by rfl) T.d_need_fraction.m T.d_need_fraction.F.kp T.d_need_fraction.b .nil pass0 (pa_cons (pv 1) pa_nil)) (pg_tup (by rfl) (pgs_cons (pg_name (i := 2) sc_expansion.nd rfl (by first | exact .inl rfl | exact .inr rfl)) (pgs_cons (pg_name (i := 3) sc_expansion.nd rfl (by first | exact .inl rfl | exact .inr rfl)) pgs_nil))))
      (pss_cons (ps_set (i := 4) sc_expansion.nd rfl (by first | exact .inl rfl | exact .inr rfl) (pe_call (ok_head_size T) (hr.mono (by decide)) (by rfl) T.d_head_size.m T.d_head_size.F.kp T.d_head_size.b .nil pass0 (pa_cons (pv 0) (pa_cons (pv 3) pa_nil))))
      (pss_cons (ps_set (i := 5) sc_expansion.nd rfl (by first | exact .inl rfl | exact .inr rfl) (pe_call (ok_divided T) (hr.mono (by decide)) (by rfl) T.d_divided.m T.d_divided.F.kp T.d_divided.b .nil pass0 (pa_cons (pv 0) (pa_cons (pv 2) (pa_cons (pv 3) (pa_cons (pe_op op_add (pv 4) (pe_call (ok_period T) (hr.mono (by decide)) (by rfl) T.d_period.m T.d_period.F.kp T.d_period.b .nil pass0 (pa_cons (pv 0) (pa_cons (pv 3) pa_nil)))) pa_nil))))))
      (pss_one (ps_ret (pe_tup (pa_cons (pe_slice (r := rSlA K) sl_tupA (pv 5) po_none (po_some (pv 4))) (pa_cons (pe_slice (r := rSlA K) sl_tupA (pv 5) (po_some (pv 4)) po_none) pa_nil))))))))), ?_⟩
    obtain ⟨b, x, n, a, rfl, ha, ⟨hbn, hx, hg⟩, q⟩ := h
    have hbn' := id hbn
    obtain ⟨hb1, hb2, hn1, hn2⟩ := hbn
    refine ⟨_, rfl, b, rfl, ⟨by omega, by omega⟩, ?_⟩
    refine ⟨_, rfl, a, x, n, rfl, ha, ⟨hx, hn2, hg⟩, ?_⟩
    refine ⟨a, _, rfl, sq_tup ha, rfl, _, _, rfl, _, _, rfl, rfl, ?_⟩
    refine ⟨_, rfl, _, rfl, b, n, rfl, hbn', fun p r h hp e0 hh => ?_⟩
    refine ⟨_, rfl, _, rfl, _, rfl, _, rfl, _, rfl, _, rfl, b, n, rfl, hbn', fun p' L hp' hL => ?_⟩
    have ep : p' = p := hp'.uniq hp
    subst ep
    obtain ⟨g0, r0, k0, e00, d0⟩ := id hp
    have hp1 : 1 ≤ p' := by
      rcases Nat.eq_zero_or_pos p' with z | z
      · rw [z] at e0
        omega
      · exact z
    have hr1 : 1 ≤ r := by
      rcases Nat.eq_zero_or_pos r with z | z
      · rw [z] at e0
        omega
      · exact z
    have hLn : L ≤ 5000 := by
      obtain ⟨d, hd, hd'⟩ := per_exists hp1 g0
      have := hd'.uniq hL
      have : p' ∣ n := ⟨r, e0⟩
      have := Nat.le_of_dvd hn1 this
      omega
    have hhn : h ≤ 5000 := by
      have := head_le hr1 hh
      have : r ∣ n := ⟨p', by rw [e0, Nat.mul_comm]⟩
      have := Nat.le_of_dvd hn1 this
      omega
    refine ⟨h, L, rfl, rfl, b, x, n, h + L, rfl, ⟨hbn', hx, by omega⟩, fun t H1 g1 h1 => ?_⟩
    refine ⟨_, rfl, _, rfl, (h : Int), rfl, slA_of h1 fun a2 H2 g2 h2 => ?_⟩
    have h1' := g2 t _ (by simp) h1
    refine ⟨_, rfl, _, rfl, (h : Int), rfl, ?_⟩
    dsimp only [tNoPart]
    refine slA_of h1' fun a3 H3 g3 h3 => ?_
    refine ⟨by show 2 ≤ sizeLine; decide, fun t4 n4 => ?_⟩
    refine q p' r h L t4 _ hp e0 hh hL ((g1.trans g2).trans (g3.trans (Gr.new n4))) ⟨a2, a3, upd_same, ?_, ?_⟩
    · have h2' := g3 a2 _ (by simp) h2
      rw [upd_ne (ne_of_none h2' n4), h2', cut_lo (by unfold dgs; rw [List.length_map, List.length_range]; omega)]
      unfold dgs dgf
      rw [← List.map_take, List.take_range, Nat.min_eq_left (by omega)]
      simp
    · rw [upd_ne (ne_of_none h3 n4), h3, cut_hi (by unfold dgs; rw [List.length_map, List.length_range]; omega)]
      unfold dgs dgf
      rw [← List.map_drop]
      congr 2
      apply List.ext_getElem
      · simp
      · intro i i1 i2
        simp

/-! the state of the draws -/
def mkv (c : Addr) (l s : Int) : List (Key × V) := [(Sum.inr "cells", .ref c), (Sum.inr "left", .int l), (Sum.inr "spot", .int s)]
theorem k_cl : ¬ (("cells" : Str) = "left") := by decide +kernel
theorem k_cs : ¬ (("cells" : Str) = "spot") := by decide +kernel
theorem k_ls : ¬ (("left" : Str) = "spot") := by decide +kernel
theorem k_sl : ¬ (("spot" : Str) = "left") := by decide +kernel
theorem k_lc : ¬ (("left" : Str) = "cells") := by decide +kernel
theorem k_sc : ¬ (("spot" : Str) = "cells") := by decide +kernel
theorem mv_c (c : Addr) (l s : Int) : valV (mkv c l s) (Sum.inr "cells" : Key) = some (.ref c) := by
  unfold mkv
  rw [valV_pos rfl]
theorem mv_l (c : Addr) (l s : Int) : valV (mkv c l s) (Sum.inr "left" : Key) = some (.int l) := by
  unfold mkv
  rw [valV_neg (by intro z; exact k_cl (Sum.inr.inj z)), valV_pos rfl]
theorem mv_s (c : Addr) (l s : Int) : valV (mkv c l s) (Sum.inr "spot" : Key) = some (.int s) := by
  unfold mkv
  rw [valV_neg (by intro z; exact k_cs (Sum.inr.inj z)), valV_neg (by intro z; exact k_ls (Sum.inr.inj z)), valV_pos rfl]
theorem mp_l (c : Addr) (l s l' : Int) : putK (mkv c l s) (Sum.inr "left" : Key) (.int l') = mkv c l' s := by
  unfold mkv putK
  simp [k_cl, k_sl]
theorem mp_s (c : Addr) (l s s' : Int) : putK (mkv c l s) (Sum.inr "spot" : Key) (.int s') = mkv c l s' := by
  unfold mkv putK
  simp [k_cs, k_ls]
theorem mm (c : Addr) (l s : Int) : mergeK [] (mkv c l s) = mkv c l s := by
  unfold mkv mergeK putK
  simp [k_cs, k_ls, k_cl]
theorem dg_c {H : Hp} {d c : Addr} {l s : Int} (h : H d = some (.dK (mkv c l s))) : DGet H d (.str "cells") (some (.ref c)) := by
  rw [← mv_c c l s]
  exact DGet.k (k := Sum.inr "cells") h
theorem dg_l {H : Hp} {d c : Addr} {l s : Int} (h : H d = some (.dK (mkv c l s))) : DGet H d (.str "left") (some (.int l)) := by
  rw [← mv_l c l s]
  exact DGet.k (k := Sum.inr "left") h
theorem dg_s {H : Hp} {d c : Addr} {l s : Int} (h : H d = some (.dK (mkv c l s))) : DGet H d (.str "spot") (some (.int s)) := by
  rw [← mv_s c l s]
  exact DGet.k (k := Sum.inr "spot") h
theorem dp_l {H : Hp} {d c : Addr} {l s l' : Int} (h : H d = some (.dK (mkv c l s))) : DPut H d (.str "left") (.int l') (upd H d (.dK (mkv c l' s))) := by
  rw [← mp_l c l s l']
  exact DPut.k (k := Sum.inr "left") h (by show 3 < sizeLine; decide)
theorem dp_s {H : Hp} {d c : Addr} {l s s' : Int} (h : H d = some (.dK (mkv c l s))) : DPut H d (.str "spot") (.int s') (upd H d (.dK (mkv c l s'))) := by
  rw [← mp_s c l s s']
  exact DPut.k (k := Sum.inr "spot") h (by show 3 < sizeLine; decide)
def MOk (H : Hp) (d : Addr) (n : Nat) : Prop := ∃ (c : Addr) (xs : List Int) (l s : Int), H d = some (.dK (mkv c l s)) ∧ H c = some (.lst (xs.map V.int)) ∧ xs ≠ [] ∧ 0 ≤ s ∧ s ≤ (n : Int)
theorem MOk.gr {H H' : Hp} {d : Addr} {n : Nat} (h : MOk H d n) (g : Gr [] H H') : MOk H' d n := by
  obtain ⟨c, xs, l, s, h1, h2, h3⟩ := h
  exact ⟨c, xs, l, s, g d _ (by simp) h1, g c _ (by simp) h2, h3⟩
theorem MOk.mono {H : Hp} {d : Addr} {n n' : Nat} (h : MOk H d n) (g : n ≤ n') : MOk H d n' := by
  obtain ⟨c, xs, l, s, h1, h2, h3, h4, h5⟩ := h
  exact ⟨c, xs, l, s, h1, h2, h3, h4, by omega⟩
theorem MOk.ne {H : Hp} {d a : Addr} {n : Nat} {o : HO} (h : MOk H d n) (e : H a = some o) (k : ∀ kvs, o ≠ .dK kvs) : a ∉ [d] := by
  obtain ⟨c, xs, l, s, h1, _⟩ := h
  intro z
  rw [List.mem_singleton] at z
  subst z
  rw [h1] at e
  exact k _ (Option.some.inj e).symm
/-! what draws leave as it was: lists, tuples -/
theorem MOk.lst {H H' : Hp} {d a : Addr} {n : Nat} {xs : List V} (h : MOk H d n) (g : Gr [d] H H') (e : H a = some (.lst xs)) : H' a = some (.lst xs) := g a _ (h.ne e (fun _ z => by cases z)) e
theorem MOk.tup {H H' : Hp} {d a : Addr} {n : Nat} {xs : List V} (h : MOk H d n) (g : Gr [d] H H') (e : H a = some (.tup xs)) : H' a = some (.tup xs) := g a _ (h.ne e (fun _ z => by cases z)) e
def sp_law_draw : Sp := fun vs H Q _ => ∃ (d : Addr) (lim n : Nat), vs = [.ref d, .int lim] ∧ MOk H d n ∧ (1 ≤ lim ∧ lim ≤ 1000000000 ∧ n ≤ 1000000000000) ∧
  ∀ (r : Nat) H', r < lim → Gr [d] H H' → MOk H' d (n + 1) → Q (.int r) H'
theorem imod_nat (x : Int) (lim : Nat) (h : 1 ≤ lim) : ∃ r : Nat, x % (lim : Int) = (r : Int) ∧ r < lim := by
  have h1 := Int.emod_nonneg x (show (lim : Int) ≠ 0 by omega)
  have h2 := Int.emod_lt_of_pos x (show (0 : Int) < (lim : Int) by omega)
  exact ⟨(x % (lim : Int)).toNat, by omega, by omega⟩
theorem ok_law_draw (T : Txt K mg) : FnOk P w K mg base CX0 1 T.d_law_draw.f T.d_law_draw.fd ["m", "limit"] sp_law_draw := by
  refine T.d_law_draw.F.ok sc_law_draw (fun vs H Q E h => ?_) (fun cdv A outer s H vs Q E hr h => ?_)
  · obtain ⟨d, lim, n, rfl, _⟩ := h; rfl
  · have hu := hu_of hr
    refine ⟨_, (pss_cons (ps_if (pt_cmpR op_gt (pe_dget hu (pv 0) pe_str (fun _ _ => rfl)) pe_int (nomark _)) (pss_cons (ps_set (i := 2) sc_law_draw.nd rfl (by first | exact .inl rfl | exact .inr rfl) (pe_op op_mod (pe_callTy call_int1 (by rfl) T.b_int (by decide +kernel) (pa_cons (pe_dget hu (pv 0) pe_str (fun _ _ => rfl)) pa_nil)) (pv 1)))
      (pss_cons (ps_dput hu (pv 0) pe_str (pe_op op_fdiv (pe_dget hu (pv 0) pe_str (fun _ _ => rfl)) (pv 1)) rfl)
      (pss_one (ps_ret (pv 2))))) pss_nil)
      (pss_cons (ps_set (i := 3) sc_law_draw.nd rfl (by first | exact .inl rfl | exact .inr rfl) (pe_op op_add (pe_dget hu (pv 0) pe_str (fun _ _ => rfl)) pe_int))
      (pss_cons (ps_dput hu (pv 0) pe_str (pv 3) rfl)
      (pss_cons (ps_set (i := 4) sc_law_draw.nd rfl (by first | exact .inl rfl | exact .inr rfl) (pe_ix (r := rIxL K) ix_list (pe_dget hu (pv 0) pe_str (fun _ _ => rfl)) (pe_op op_mod (pe_callTy call_int1 (by rfl) T.b_int (by decide +kernel) (pa_cons (pv 3) pa_nil)) (pe_callB (r := rLn K) call_ln (by rfl) T.b_len PySem.boot_len (pa_cons (pe_dget hu (pv 0) pe_str (fun _ _ => rfl)) pa_nil))) (fun _ _ => rfl)))
      (pss_cons (ps_set (i := 5) sc_law_draw.nd rfl (by first | exact .inl rfl | exact .inr rfl) (pe_op op_mul (pe_callTy call_int1 (by rfl) T.b_int (by decide +kernel) (pa_cons (pe_op op_add (pe_op op_add (pe_op op_mod (pe_callTy call_int1 (by rfl) T.b_int (by decide +kernel) (pa_cons (pv 4) pa_nil)) pe_int) (pe_op op_mul pe_int (pv 3))) (pe_op op_mul (pe_op op_mul pe_int (pv 3)) (pv 3))) pa_nil)) pe_int))
      (pss_cons (ps_set (i := 5) sc_law_draw.nd rfl (by first | exact .inl rfl | exact .inr rfl) (pe_op op_mul (pe_callTy call_int1 (by rfl) T.b_int (by decide +kernel) (pa_cons (pe_op op_add (pe_op op_mod (pe_callTy call_int1 (by rfl) T.b_int (by decide +kernel) (pa_cons (pv 5) pa_nil)) pe_int) (pe_op op_mul pe_int (pv 3))) pa_nil)) pe_int))
      (pss_one (ps_ret (pe_op op_mod (pe_callTy call_int1 (by rfl) T.b_int (by decide +kernel) (pa_cons (pe_op op_fdiv (pe_op op_mod (pe_callTy call_int1 (by rfl) T.b_int (by decide +kernel) (pa_cons (pv 5) pa_nil)) pe_int) pe_int) pa_nil)) (pv 1)))))))))), ?_⟩
    obtain ⟨d, lim, n, rfl, ⟨c, xs, l, z, hd, hc, hx, hz0, hzn⟩, ⟨h1, h2, h3⟩, q⟩ := h
    have hdc : d ≠ c := ne_of hd hc (by intro q; cases q)
    refine ⟨_, rfl, d, _, rfl, dg_l hd, l, 0, rfl, rfl, _, rfl, ?_⟩
    have hl0 : (0 : Int) < (lim : Int) := by omega
    by_cases hl : (0 : Int) < l
    · rw [decide_eq_true hl]
      refine iteT ⟨_, rfl, d, _, rfl, dg_l hd, .inl ⟨l, rfl, _, rfl, l, lim, rfl, rfl, hl0, ?_⟩⟩
      obtain ⟨r, er, hr1⟩ := imod_nat l lim h1
      dsimp only
      rw [er]
      refine ⟨_, rfl, d, _, rfl, dg_l hd, _, rfl, l, lim, rfl, rfl, ⟨hl0, by omega⟩, _, rfl, d, _, rfl, dp_l hd, _, rfl, ?_⟩
      refine q r _ hr1 (Gr.wr (by simp)) ⟨c, xs, l / lim, z, upd_same, ?_, hx, hz0, by omega⟩
      rw [upd_ne hdc.symm]
      exact hc
    · rw [decide_eq_false hl]
      refine iteF ?_
      refine ⟨_, rfl, d, _, rfl, dg_s hd, z, 1, rfl, rfl, ?_⟩
      refine ⟨_, rfl, _, rfl, d, _, rfl, dp_s hd, ?_⟩
      have hd' : (upd H d (.dK (mkv c l (z + 1)))) d = some (.dK (mkv c l (z + 1))) := upd_same
      have hc' : (upd H d (.dK (mkv c l (z + 1)))) c = some (.lst (xs.map V.int)) := by
        rw [upd_ne hdc.symm]
        exact hc
      have hxl : 1 ≤ xs.length := by
        cases xs with
        | nil => exact absurd rfl hx
        | cons x r => simp
      refine ⟨_, rfl, d, _, rfl, dg_c hd', _, rfl, .inl ⟨z + 1, rfl, _, rfl, d, _, rfl, dg_c hd', c, _, rfl, .inl (sq_lst hc'), _, _, rfl, rfl, ?_, ?_⟩⟩
      · rw [List.length_map]
        omega
      rw [List.length_map]
      obtain ⟨j, ej, hj⟩ := imod_nat (z + 1) xs.length hxl
      dsimp only
      refine ⟨c, _, _, .int xs[j], rfl, rfl, sq_lst hc', ?_, ?_⟩
      · rw [ej]
        refine atI_nat ?_
        rw [List.getElem?_map, List.getElem?_eq_getElem hj]
        rfl
      refine ⟨_, rfl, .inl ⟨_, rfl, _, _, rfl, rfl, (by show (0 : Int) < 2147483629; decide), _, rfl, _, _, rfl, rfl, .inl ⟨by decide, by decide⟩, _, _, rfl, rfl, _, rfl, _, _, rfl, rfl, .inl ⟨by decide, by decide⟩, _, rfl, _, _, rfl, rfl, .inr ⟨by omega, by omega⟩, _, _, rfl, rfl, ?_⟩⟩
      refine .inl ⟨_, rfl, _, _, rfl, rfl, .inr ⟨by decide, by decide⟩, ?_⟩
      refine ⟨_, rfl, .inl ⟨_, rfl, _, _, rfl, rfl, (by show (0 : Int) < 2147483647; decide), _, rfl, _, _, rfl, rfl, .inl ⟨by decide, by decide⟩, _, _, rfl, rfl, ?_⟩⟩
      refine .inl ⟨_, rfl, _, _, rfl, rfl, .inr ⟨by decide, by decide⟩, ?_⟩
      refine ⟨_, rfl, .inl ⟨_, rfl, _, _, rfl, rfl, (by show (0 : Int) < 2147483587; decide), _, _, rfl, rfl, ⟨by decide, by decide⟩, ?_⟩⟩
      refine .inl ⟨_, rfl, _, rfl, _, _, rfl, rfl, hl0, ?_⟩
      dsimp only
      obtain ⟨r, er, hr1⟩ := imod_nat _ lim h1
      rw [er]
      exact q r _ hr1 (Gr.wr (by simp)) ⟨c, xs, l, z + 1, hd', hc', hx, by omega, by omega⟩

def sp_law_of (K : PySem.W.Frag) : Sp := fun vs H Q _ => ∃ (d a : Addr) (n : Nat) (xs : List V), vs = [.ref d, .ref a] ∧ MOk H d n ∧ H a = some (.lst xs) ∧ (xs ≠ [] ∧ xs.length ≤ 100000 ∧ n ≤ 1000000000000) ∧
  ∀ v H', v ∈ xs → Gr [d] H H' → MOk H' d (n + 1) → Q v H'
theorem ok_law_of (T : Txt K mg) : FnOk P w K mg base CX0 2 T.d_law_of.f T.d_law_of.fd ["m", "some"] (sp_law_of K) := by
  refine T.d_law_of.F.ok sc_law_of (fun vs H Q E h => ?_) (fun cdv A outer s H vs Q E hr h => ?_)
  · obtain ⟨d, a, n, xs, rfl, _⟩ := h; rfl
  · have hu := hu_of hr
    refine ⟨_, (pss_one (ps_ret (pe_ix (r := rIxL K) ix_list (pv 1) (pe_call (ok_law_draw T) (hr.mono (by decide)) (by rfl) T.d_law_draw.m T.d_law_draw.F.kp T.d_law_draw.b .nil pass0 (pa_cons (pv 0) (pa_cons (pe_callB (r := rLn K) call_ln (by rfl) T.b_len PySem.boot_len (pa_cons (pv 1) pa_nil)) pa_nil))) (fun _ _ => rfl)))), ?_⟩
    obtain ⟨d, a, n, xs, rfl, M, ha, ⟨h1, h2, h3⟩, q⟩ := h
    have hl : 1 ≤ xs.length := by
      cases xs with
      | nil => exact absurd rfl h1
      | cons x r => simp
    refine ⟨_, rfl, _, rfl, _, rfl, a, _, rfl, .inl (sq_lst ha), ?_⟩
    refine ⟨d, xs.length, n, rfl, M, ⟨hl, by omega, h3⟩, fun r H' hr g M' => ?_⟩
    have ha' := M.lst g ha
    exact ⟨a, xs, r, xs[r], rfl, rfl, sq_lst ha', atI_nat (by rw [List.getElem?_eq_getElem hr]), q _ _ (List.getElem_mem _) g M'⟩

def sp_law_divisor : Sp := fun vs H Q _ => ∃ a c : Nat, vs = [.int a, .int c] ∧ Q (.int (Nat.gcd a c : Nat)) H
theorem ok_law_divisor (T : Txt K mg) : FnOk P w K mg base CX0 1 T.d_law_divisor.f T.d_law_divisor.fd ["one", "other"] sp_law_divisor := by
  refine T.d_law_divisor.F.ok sc_law_divisor (fun vs H Q E h => ?_) (fun cdv A outer s H vs Q E hr h => ?_)
  · obtain ⟨a, c, rfl, _⟩ := h; rfl
  · have hu := hu_of hr
    refine ⟨_, (pss_cons (ps_while PassesOwn.never (pt_cmpR op_gt (pv 1) pe_int (nomark _)) (pss_one (ps_par (i := 0) (j := 1) (by rfl) sc_law_divisor.nd rfl rfl (by decide) rfl rfl (pa_cons (pv 1) (pa_cons (pe_op op_mod (pv 0) (pv 1)) pa_nil)) (by rfl))))
      (pss_one (ps_ret (pv 0)))), ?_⟩
    obtain ⟨a, c, rfl, q⟩ := h
    refine ⟨fun m σ H' => H' = H ∧ ∃ u : Nat, σ = [some (.int u), some (.int m)] ∧ Nat.gcd u m = Nat.gcd a c, ⟨c, rfl, a, rfl, rfl⟩, ?_⟩
    rintro m σ H' ⟨rfl, u, rfl, e⟩
    refine ⟨_, rfl, _, _, rfl, rfl, _, rfl, ?_⟩
    by_cases hc : (0 : Int) < (m : Int)
    · rw [decide_eq_true hc]
      refine iteT ⟨fun σ' H2 => H2 = H' ∧ σ' = [some (.int m), some (.int (u % m : Nat))], ?_, ?_⟩
      · rintro σ' H2 ⟨rfl, rfl⟩
        refine ⟨u % m, Nat.mod_lt _ (by omega), rfl, m, rfl, ?_⟩
        rw [← e, Nat.gcd_comm m, ← Nat.gcd_rec, Nat.gcd_comm]
      · refine ⟨_, rfl, _, rfl, _, rfl, _, _, rfl, rfl, hc, ?_⟩
        exact ⟨_, _, rfl, rfl, by dsimp only; rw [← Int.natCast_emod]; rfl⟩
    · rw [decide_eq_false hc]
      refine iteF ⟨_, rfl, ?_⟩
      have z : m = 0 := by omega
      subst z
      rw [← e, Nat.gcd_zero_right]  at q
      exact q

def sp_law_base (lo hi : Nat) : Sp := fun vs H Q _ => ∃ (d : Addr) (n : Nat), vs = [.ref d] ∧ MOk H d n ∧ n ≤ 1000000000 ∧ ∀ (b : Nat) H', 2 ≤ b → b ≤ 1000 → Gr [d] H H' → MOk H' d (n + 3) → Q (.int b) H'

def sp_law_part : Sp := fun vs H Q _ => ∃ (d : Addr) (most n : Nat), vs = [.ref d, .int most] ∧ MOk H d n ∧ (1 ≤ most ∧ most ≤ 5000 ∧ n ≤ 1000000000) ∧
  ∀ (a : Addr) (x k : Nat) H', H' a = some (.tup [.int x, .int k]) → x < k → k ≤ most → Nat.gcd x k = 1 → Gr [d] H H' → MOk H' d (n + 2) → Q (.ref a) H'
theorem ok_law_part (T : Txt K mg) : FnOk P w K mg base CX0 2 T.d_law_part.f T.d_law_part.fd ["m", "most"] sp_law_part := by
  refine T.d_law_part.F.ok sc_law_part (fun vs H Q E h => ?_) (fun cdv A outer s H vs Q E hr h => ?_)
  · obtain ⟨d, most, n, rfl, _⟩ := h; rfl
  · have hu := hu_of hr
    refine ⟨_, (pss_cons (ps_set (i := 2) sc_law_part.nd rfl (by first | exact .inl rfl | exact .inr rfl) (pe_op op_add pe_int (pe_call (ok_law_draw T) (hr.mono (by decide)) (by rfl) T.d_law_draw.m T.d_law_draw.F.kp T.d_law_draw.b .nil pass0 (pa_cons (pv 0) (pa_cons (pv 1) pa_nil)))))
      (pss_cons (ps_set (i := 3) sc_law_part.nd rfl (by first | exact .inl rfl | exact .inr rfl) (pe_call (ok_law_draw T) (hr.mono (by decide)) (by rfl) T.d_law_draw.m T.d_law_draw.F.kp T.d_law_draw.b .nil pass0 (pa_cons (pv 0) (pa_cons (pv 2) pa_nil))))
      (pss_cons (ps_while PassesOwn.never (pt_cmpR op_ne (pe_call (ok_law_divisor T) (hr.mono (by decide)) (by rfl) T.d_law_divisor.m T.d_law_divisor.F.kp T.d_law_divisor.b .nil pass0 (pa_cons (pv 3) (pa_cons (pv 2) pa_nil))) pe_int (nomark _)) (pss_one (ps_set (i := 3) sc_law_part.nd rfl (by first | exact .inl rfl | exact .inr rfl) (pe_op op_mod (pe_callTy call_int1 (by rfl) T.b_int (by decide +kernel) (pa_cons (pe_op op_add (pv 3) pe_int) pa_nil)) (pv 2)))))
      (pss_one (ps_ret (pe_tup (pa_cons (pv 3) (pa_cons (pv 2) pa_nil)))))))), ?_⟩
    obtain ⟨d, most, n, rfl, M, ⟨h1, h2, h3⟩, q⟩ := h
    refine ⟨_, rfl, _, rfl, d, most, n, rfl, M, ⟨h1, by omega, by omega⟩, fun r1 H1 hr1 g1 M1 => ?_⟩
    refine ⟨1, r1, rfl, rfl, ?_⟩
    have e1 : (1 : Int) + (r1 : Int) = ((1 + r1 : Nat) : Int) := by omega
    dsimp only
    rw [e1]
    generalize hk : 1 + r1 = k
    refine ⟨_, rfl, _, rfl, d, k, n + 1, rfl, M1, ⟨by omega, by omega, by omega⟩, fun x H2 hx g2 M2 => ?_⟩
    refine ⟨fun m σ H' => H' = H2 ∧ ∃ y : Nat, m = k - y ∧ y < k ∧ σ = [some (.ref d), some (.int most), some (.int k), some (.int y)], ⟨k - x, rfl, x, rfl, hx, rfl⟩, ?_⟩
    rintro m σ H' ⟨rfl, y, rfl, hy, rfl⟩
    refine ⟨_, rfl, _, rfl, y, k, rfl, rfl, _, rfl, ?_⟩
    by_cases hc : Nat.gcd y k = 1
    · rw [show (!decide (V.int ((Nat.gcd y k : Nat) : Int) = V.int 1)) = false by rw [hc]; rfl]
      refine iteF ⟨_, rfl, _, rfl, by show 2 ≤ sizeLine; decide, fun t nt => ?_⟩
      exact q t y k _ upd_same hy (by omega) hc ((g1.trans g2).trans (Gr.new nt)) (M2.gr (Gr.new nt))
    · rw [show (!decide (V.int ((Nat.gcd y k : Nat) : Int) = V.int 1)) = true by rw [decide_eq_false (fun z => hc (by have := V.int.inj z; omega))]; rfl]
      have hyk : y + 1 < k := by
        rcases Nat.lt_or_eq_of_le (show y + 1 ≤ k from hy) with l | l
        · exact l
        · subst l
          exact absurd (by rw [Nat.gcd_comm, show Nat.gcd (y + 1) y = 1 by simp] ) hc
      refine iteT ⟨fun σ' H3 => H3 = H' ∧ σ' = [some (.ref d), some (.int most), some (.int k), some (.int (y + 1 : Nat))], ?_, ?_⟩
      · rintro σ' H3 ⟨rfl, rfl⟩
        exact ⟨k - (y + 1), by omega, rfl, y + 1, rfl, hyk, rfl⟩
      · refine ⟨_, rfl, _, _, rfl, rfl, .inl ⟨_, rfl, _, rfl, _, _, rfl, rfl, (show (0 : Int) < (k : Int) by omega), ?_⟩⟩
        dsimp only
        have e2 : ((y : Int) + 1) % (k : Int) = ((y + 1 : Nat) : Int) := by
          rw [show (y : Int) + 1 = ((y + 1 : Nat) : Int) by omega, ← Int.natCast_emod, Nat.mod_eq_of_lt hyk]
        rw [e2]
        exact ⟨rfl, rfl⟩

theorem val_none : ∀ {kvs : List (Key × V)} {k : Key}, (∀ kv ∈ kvs, kv.1 ≠ k) → valV kvs k = none
  | [], _, _ => rfl
  | p :: r, k, h => by
    rw [valV_neg (h p (List.mem_cons_self ..))]
    exact val_none fun kv hk => h kv (List.mem_cons_of_mem _ hk)
theorem val_some : ∀ {kvs : List (Key × V)} {k : Key} {v : V} (i : Nat), kvs[i]? = some (k, v) → (∀ j, j < i → ∀ kv, kvs[j]? = some kv → kv.1 ≠ k) → valV kvs k = some v
  | [], _, _, i, h, _ => by simp at h
  | p :: r, k, v, 0, h, _ => by
    have e : p = (k, v) := Option.some.inj h
    subst e
    exact valV_pos rfl
  | p :: r, k, v, i + 1, h, d => by
    rw [valV_neg (d 0 (Nat.succ_pos _) p rfl)]
    exact val_some i h fun j hj kv hk => d (j + 1) (Nat.succ_lt_succ hj) kv hk
def rms (b n x c : Nat) : List V := (List.range c).map fun i => V.int (rem b n x i : Nat)
def rkv (b n x c : Nat) : List (Key × V) := (List.range c).map fun i => ((Sum.inl ((rem b n x i : Nat) : Int) : Key), V.int (i : Nat))
theorem rms_succ (b n x c : Nat) : rms b n x (c + 1) = rms b n x c ++ [V.int (rem b n x c : Nat)] := by
  unfold rms
  rw [List.range_succ, List.map_append]
  rfl
theorem rkv_succ (b n x c : Nat) : rkv b n x (c + 1) = rkv b n x c ++ [(Sum.inl ((rem b n x c : Nat) : Int), V.int (c : Nat))] := by
  unfold rkv
  rw [List.range_succ, List.map_append]
  rfl
theorem rms_len (b n x c : Nat) : (rms b n x c).length = c := by simp [rms]
theorem rkv_len (b n x c : Nat) : (rkv b n x c).length = c := by simp [rkv]
theorem rkv_none {b n x c y : Nat} (h : ∀ j, j < c → rem b n x j ≠ y) : valV (rkv b n x c) (Sum.inl (y : Int) : Key) = none := by
  refine val_none fun kv hk e => ?_
  obtain ⟨j, hj, rfl⟩ := List.mem_map.mp hk
  have := Sum.inl.inj e
  exact h j (List.mem_range.mp hj) (by omega)
theorem rkv_some {b n x c j : Nat} (hj : j < c) (h : ∀ i, i < j → rem b n x i ≠ rem b n x j) : valV (rkv b n x c) (Sum.inl ((rem b n x j : Nat) : Int) : Key) = some (.int (j : Nat)) := by
  refine val_some j ?_ fun i hi kv hk e => ?_
  · unfold rkv
    rw [List.getElem?_map, List.getElem?_range hj]
    rfl
  · unfold rkv at hk
    rw [List.getElem?_map, List.getElem?_range (by omega)] at hk
    have e2 := Option.some.inj hk
    subst e2
    have := Sum.inl.inj e
    exact h i hi (by omega)
def sp_law_ring : Sp := fun vs H Q _ => ∃ (b x n : Nat) (a : Addr), vs = [.int b, .ref a] ∧ H a = some (.tup [.int x, .int n]) ∧ (b ≤ 1000 ∧ n ≤ 5000 ∧ x < n ∧ Nat.gcd x n = 1) ∧
  ∀ (t l : Addr) H' (p q h L : Nat), Par b n p q h L → Gr [] H H' → H' t = some (.tup [.ref l, .int (h : Nat)]) → H' l = some (.lst (rms b n x (h + L))) → Q (.ref t) H'
theorem ok_law_ring (T : Txt K mg) : FnOk P w K mg base CX0 1 T.d_law_ring.f T.d_law_ring.fd ["b", "part"] sp_law_ring := by
  refine T.d_law_ring.F.ok sc_law_ring (fun vs H Q E h => ?_) (fun cdv A outer s H vs Q E hr h => ?_)
  · obtain ⟨b, x, n, a, rfl, _⟩ := h; rfl
  · have hu := hu_of hr
    refine ⟨_, (pss_cons (ps_asg (pv 1) (pg_tup (by rfl) (pgs_cons (pg_name (i := 2) sc_law_ring.nd rfl (by first | exact .inl rfl | exact .inr rfl)) (pgs_cons (pg_name (i := 3) sc_law_ring.nd rfl (by first | exact .inl rfl | exact .inr rfl)) pgs_nil))))
      (pss_cons (ps_par (i := 4) (j := 5) (by rfl) sc_law_ring.nd rfl rfl (by decide) rfl rfl (pa_cons (pe_lst pa_nil) (pa_cons pe_dnewK pa_nil)) (by rfl))
      (pss_cons (ps_while PassesOwn.never (pt_cmp (pc_dnotin hu (pv 2) (pv 5))) (pss_cons (ps_dput hu (pv 5) (pv 2) (pe_callB (r := rLn K) call_ln (by rfl) T.b_len PySem.boot_len (pa_cons (pv 4) pa_nil)) rfl)
      (pss_cons (ps_expr (pe_bm PySem.F.plainAttrs_list PySem.F.slot_list_append PySem.F.type_list_append mt_append (pv 4) (pa_cons (pv 2) pa_nil)))
      (pss_one (ps_set (i := 2) sc_law_ring.nd rfl (by first | exact .inl rfl | exact .inr rfl) (pe_op op_mod (pe_op op_mul (pv 2) (pv 0)) (pv 3)))))))
      (pss_one (ps_ret (pe_tup (pa_cons (pv 4) (pa_cons (pe_dget hu (pv 5) (pv 2) (fun _ _ => rfl)) pa_nil)))))))), ?_⟩
    obtain ⟨b, x, n, a, rfl, ha, ⟨hb, hn, hx, hg⟩, q⟩ := h
    have hn1 : 1 ≤ n := by omega
    refine ⟨_, rfl, a, _, rfl, sq_tup ha, rfl, _, _, rfl, _, _, rfl, rfl, ?_⟩
    refine ⟨Nat.zero_le _, fun l nl => ?_⟩
    intro e ne
    have nle : l ≠ e := ne_of_none (o := .lst []) upd_same ne
    refine ⟨_, _, rfl, ?_⟩
    have hE : ∀ {o}, H e = o → H e = o := fun h => h
    have ne0 : H e = none := by
      rw [upd_ne nle.symm] at ne
      exact ne
    refine ⟨fun m σ H' => ∃ i : Nat, m = n - i ∧ i ≤ n ∧ Gr [] H H' ∧ H' l = some (.lst (rms b n x i)) ∧ H' e = some (.dK (rkv b n x i)) ∧ σ = [some (.int b), some (.ref a), some (.int (rem b n x i : Nat)), some (.int n), some (.ref l), some (.ref e)] ∧ (∀ u v, u < v → v < i → rem b n x u ≠ rem b n x v),
      ⟨n, 0, rfl, Nat.zero_le _, (Gr.new nl).trans (Gr.new ne), ?_, upd_same, ?_, fun u v _ z => absurd z (Nat.not_lt_zero _)⟩, ?_⟩
    · rw [upd_ne nle, upd_same]
      rfl
    · rw [rem_zero hx]
      rfl
    rintro m σ H' ⟨i, rfl, hi, G, hL, hD, rfl, hd⟩
    refine ⟨_, rfl, _, rfl, e, _, rfl, DGet.k (k := Sum.inl ((rem b n x i : Nat) : Int)) hD, _, rfl, ?_⟩
    by_cases hc : ∃ j, j < i ∧ rem b n x j = rem b n x i
    · obtain ⟨j, hj, ej⟩ := hc
      have hv : valV (rkv b n x i) (Sum.inl ((rem b n x i : Nat) : Int) : Key) = some (.int (j : Nat)) := by
        rw [← ej]
        exact rkv_some hj fun u hu => hd u j hu hj
      rw [hv]
      refine iteF ?_
      obtain ⟨p, q0, h, L, P⟩ := par_exists (b := b) hn1
      obtain ⟨ei, eh⟩ := ring_end P hn1 hg hd hj ej
      refine ⟨_, rfl, _, rfl, _, rfl, e, .int (j : Nat), rfl, ?_, by show 2 ≤ sizeLine; decide, fun t nt => ?_⟩
      · rw [← hv]
        exact DGet.k (k := Sum.inl ((rem b n x i : Nat) : Int)) hD
      · refine q t l _ p q0 h L P (G.trans (Gr.new nt)) ?_ ?_
        · rw [upd_same, eh]
        · rw [upd_ne (ne_of_none hL nt), hL, ei]
    · have hno : ∀ j, j < i → rem b n x j ≠ rem b n x i := fun j hj ej => hc ⟨j, hj, ej⟩
      rw [rkv_none hno]
      refine iteT ?_
      have hlt : rem b n x i < n := rem_lt hn1
      have hin : i + 1 ≤ n := by
        have := nodup_le n ((List.range (i + 1)).map fun u => rem b n x u) (by
          rw [List.nodup_iff_pairwise_ne, List.pairwise_map, List.pairwise_iff_getElem]
          intro u v hu hv huv
          rw [List.getElem_range, List.getElem_range]
          rw [List.length_range] at hv
          rcases Nat.lt_or_eq_of_le (show v ≤ i by omega) with z | z
          · exact hd u v huv z
          · rw [z]
            exact hno u (by omega)) (fun y hy => by
          obtain ⟨u, _, rfl⟩ := List.mem_map.mp hy
          exact rem_lt hn1)
        rw [List.length_map, List.length_range] at this
        exact this
      refine ⟨fun σ' H2 => Gr [] H H2 ∧ H2 l = some (.lst (rms b n x (i + 1))) ∧ H2 e = some (.dK (rkv b n x (i + 1))) ∧ σ' = [some (.int b), some (.ref a), some (.int (rem b n x (i + 1) : Nat)), some (.int n), some (.ref l), some (.ref e)], ?_, ?_⟩
      · rintro σ' H2 ⟨G2, L2, D2, rfl⟩
        refine ⟨n - (i + 1), by omega, i + 1, rfl, hin, G2, L2, D2, rfl, fun u v huv hv => ?_⟩
        rcases Nat.lt_or_eq_of_le (show v ≤ i by omega) with z | z
        · exact hd u v huv z
        · rw [z]
          exact hno u (by omega)
      · have small : ∀ {k : Nat}, k ≤ 5000 → k < sizeLine := fun h => Nat.lt_of_lt_of_le (show _ < 6000 by omega) (by decide)
        refine ⟨_, rfl, l, _, rfl, .inl (sq_lst hL), _, rfl, _, rfl, e, _, rfl, DPut.k (k := Sum.inl ((rem b n x i : Nat) : Int)) hD (by rw [rkv_len]; exact small (by omega)), ?_⟩
        rw [putK_new _ (rkv_none hno), rms_len, ← rkv_succ]
        have hL2 : (upd H' e (.dK (rkv b n x (i + 1)))) l = some (.lst (rms b n x i)) := by
          rw [upd_ne nle]
          exact hL
        refine ⟨_, rfl, .inl ⟨rfl, _, sq_lst hL2⟩, _, rfl, l, _, _, rfl, rfl, hL2, by rw [rms_len]; exact small (by omega), ?_⟩
        refine ⟨_, rfl, _, rfl, _, b, rfl, rfl, .inl ⟨by omega, by omega⟩, _, rfl, _, n, rfl, rfl, (show (0 : Int) < (n : Int) by omega), ?_⟩
        dsimp only
        rw [icm, rem_succ, ← rms_succ]
        refine ⟨fun c o _ ec => ?_, upd_same, ?_, rfl⟩
        · rw [upd_ne (ne_of_none ec nl), upd_ne (ne_of_none ec ne0)]
          exact G c o (by simp) ec
        · rw [upd_ne nle.symm, upd_same]

theorem dgs_take (b n x h L : Nat) : (dgs b n x (h + L)).take h = dgf b n x 0 h := by
  unfold dgs dgf
  rw [← List.map_take, List.take_range, Nat.min_eq_left (by omega)]
  simp
theorem dgs_drop (b n x h L : Nat) : (dgs b n x (h + L)).drop h = dgf b n x h L := by
  unfold dgs dgf
  rw [← List.map_drop]
  apply List.ext_getElem
  · simp
  · intro i i1 i2
    simp
def sp_law_spread : Sp := fun vs H Q _ => ∃ (b x n : Nat) (a : Addr), vs = [.int b, .ref a] ∧ H a = some (.tup [.int x, .int n]) ∧ (b ≤ 1000 ∧ n ≤ 5000 ∧ x < n ∧ Nat.gcd x n = 1) ∧
  ∀ (t : Addr) H' (p q h L : Nat), Par b n p q h L → Gr [] H H' → Exp H' t b x n h L → Q (.ref t) H'
theorem ok_law_spread (T : Txt K mg) : FnOk P w K mg base CX0 2 T.d_law_spread.f T.d_law_spread.fd ["b", "part"] sp_law_spread := by
  refine T.d_law_spread.F.ok sc_law_spread (fun vs H Q E h => ?_) (fun cdv A outer s H vs Q E hr h => ?_)
  · obtain ⟨b, x, n, a, rfl, _⟩ := h; rfl
  · have hu := hu_of hr
    refine ⟨_, (pss_cons (ps_asg (pe_call (ok_law_ring T) (hr.mono (by decide)) (by rfl) T.d_law_ring.m T.d_law_ring.F.kp T.d_law_ring.b .nil pass0 (pa_cons (pv 0) (pa_cons (pv 1) pa_nil))) (pg_tup (by rfl) (pgs_cons (pg_name (i := 2) sc_law_spread.nd rfl (by first | exact .inl rfl | exact .inr rfl)) (pgs_cons (pg_name (i := 3) sc_law_spread.nd rfl (by first | exact .inl rfl | exact .inr rfl)) pgs_nil))))
      (pss_cons (ps_setLc (i := 4) (own := [("x", 5)]) (g := gName 5) (tt := tYes) rfl sc_law_spread.nd rfl rfl (sw_true rfl rfl rfl (by decide +kernel)) (pi_list (pv 2)) (blkOk_by (own := [("x", 5)]) (N := ["b", "part", "row", "begin", "figs", "x"]) (sc := defScope s_law_spread) (by decide +kernel)) (fun _ _ _ _ _ => (pg_name (i := 5) sc_law_spread.nd rfl (by first | exact .inl rfl | exact .inr rfl))) (fun _ _ _ _ _ => pts_nil) (fun _ _ _ _ _ => (pe_op op_fdiv (pe_op op_mul (pv 5) (pv 0)) (pe_ix (r := rIxT K) ix_tup (pv 1) pe_int (fun _ _ => rfl)))))
      (pss_one (ps_ret (pe_tup (pa_cons (pe_callTy (r := rTpO K) call_tpO (by rfl) T.b_tuple (by decide +kernel) (pa_cons (pe_slice (r := rSlL K) sl_list (pv 4) po_none (po_some (pv 3))) pa_nil)) (pa_cons (pe_callTy (r := rTpO K) call_tpO (by rfl) T.b_tuple (by decide +kernel) (pa_cons (pe_slice (r := rSlL K) sl_list (pv 4) (po_some (pv 3)) po_none) pa_nil)) pa_nil))))))), ?_⟩
    obtain ⟨b, x, n, a, rfl, ha, ⟨hb, hn, hx, hg⟩, q⟩ := h
    have hn1 : 1 ≤ n := by omega
    refine ⟨_, rfl, _, rfl, b, x, n, a, rfl, ha, ⟨hb, hn, hx, hg⟩, fun t l H1 p q0 h L P g1 ht hl => ?_⟩
    refine ⟨t, _, rfl, sq_tup ht, rfl, _, _, rfl, _, _, rfl, rfl, ?_⟩
    refine ⟨_, rfl, l, rfl, ⟨_, sq_lst hl⟩, fun D nD => ?_⟩
    refine lc_list (K := K) (a := l) (xs := rms b n x (h + L)) (fun i H' => Gr [] H1 H' ∧ H' D = some (.lst (dgs b n x i))) ⟨Gr.new nD, upd_same⟩ (fun i H' _ z => sq_lst (z.1 l _ (by simp) hl)) ?_ ?_
    · rintro i y H' hy ⟨G, hD⟩
      have ey : y = V.int ((rem b n x i : Nat) : Int) := by
        unfold rms at hy
        rw [List.getElem?_map] at hy
        cases e : (List.range (h + L))[i]? with
        | none =>
          rw [e] at hy
          cases hy
        | some u =>
          rw [e] at hy
          obtain ⟨hi, e2⟩ := List.getElem?_eq_some_iff.mp e
          rw [List.getElem_range] at e2
          subst e2
          exact (Option.some.inj hy).symm
      have hi : i < h + L := by
        have := (List.getElem?_eq_some_iff.mp hy).1
        rw [rms_len] at this
        exact this
      subst ey
      have hlt : rem b n x i < n := rem_lt hn1
      have ha' := G a _ (by simp) (g1 a _ (by simp) ha)
      have hLn := P.Ln hn1
      have hhn := P.hn hn1
      refine ⟨rfl, ?_⟩
      dsimp only [tYes]
      refine iteT ?_
      refine ⟨_, rfl, _, rfl, _, b, rfl, rfl, .inl ⟨by omega, by omega⟩, _, rfl, a, _, _, .int n, rfl, rfl, sq_tup ha', atI_nat (j := 1) rfl, _, n, rfl, rfl, ⟨by omega, by omega⟩, ?_⟩
      refine ⟨_, hD, ?_, ?_, ?_⟩
      · unfold dgs
        rw [List.length_map, List.length_range]
        exact Nat.lt_of_lt_of_le (show i < 20000 by omega) (by decide)
      · intro c o _ e
        rw [upd_ne (ne_of_none e nD)]
        exact G c o (by simp) e
      · dsimp only
        rw [icd, upd_same]
        unfold dgs
        rw [List.range_succ, List.map_append]
        rfl
    rintro H2 ⟨G, hD⟩
    rw [rms_len] at hD
    have lenD : (dgs b n x (h + L)).length = h + L := by
      unfold dgs
      rw [List.length_map, List.length_range]
    refine ⟨_, rfl, _, rfl, (h : Int), rfl, D, _, rfl, sq_lst hD, fun p1 n1 => ?_⟩
    refine ⟨p1, _, rfl, .inl ⟨sq_lst upd_same, fun t1 m1 => ?_⟩⟩
    have np1 : D ≠ p1 := ne_of_none hD n1
    have k1 : (upd H2 p1 (.lst (cutV (dgs b n x (h + L)) none (some (h : Int))))) D = some (.lst (dgs b n x (h + L))) := by
      rw [upd_ne np1]
      exact hD
    generalize hH3 : upd H2 p1 (.lst (cutV (dgs b n x (h + L)) none (some (h : Int)))) = H3 at m1 k1 ⊢
    have g3 : Gr [] H2 H3 := by
      rw [← hH3]
      exact Gr.new n1
    have k2 : (upd H3 t1 (.tup (cutV (dgs b n x (h + L)) none (some (h : Int))))) D = some (.lst (dgs b n x (h + L))) := by
      rw [upd_ne (ne_of_none k1 m1)]
      exact k1
    have k3 : (upd H3 t1 (.tup (cutV (dgs b n x (h + L)) none (some (h : Int))))) t1 = some (.tup (cutV (dgs b n x (h + L)) none (some (h : Int)))) := upd_same
    have g4 : Gr [] H3 (upd H3 t1 (.tup (cutV (dgs b n x (h + L)) none (some (h : Int))))) := Gr.new m1
    generalize upd H3 t1 (.tup (cutV (dgs b n x (h + L)) none (some (h : Int)))) = H4 at k2 k3 g4 ⊢
    refine ⟨_, rfl, _, rfl, (h : Int), rfl, ?_⟩
    dsimp only [tNoPart]
    refine ⟨D, _, rfl, sq_lst k2, fun p2 n2 => ?_⟩
    refine ⟨p2, _, rfl, .inl ⟨sq_lst upd_same, fun t2 m2 => ?_⟩⟩
    have k4 : (upd H4 p2 (.lst (cutV (dgs b n x (h + L)) (some (h : Int)) none))) t1 = some (.tup (cutV (dgs b n x (h + L)) none (some (h : Int)))) := by
      rw [upd_ne (ne_of_none k3 n2)]
      exact k3
    have g5 : Gr [] H4 (upd H4 p2 (.lst (cutV (dgs b n x (h + L)) (some (h : Int)) none))) := Gr.new n2
    generalize upd H4 p2 (.lst (cutV (dgs b n x (h + L)) (some (h : Int)) none)) = H5 at m2 k4 g5 ⊢
    have g6 : Gr [] H5 (upd H5 t2 (.tup (cutV (dgs b n x (h + L)) (some (h : Int)) none))) := Gr.new m2
    have k5 : (upd H5 t2 (.tup (cutV (dgs b n x (h + L)) (some (h : Int)) none))) t2 = some (.tup (cutV (dgs b n x (h + L)) (some (h : Int)) none)) := upd_same
    have k6 := g6 t1 _ (by simp) k4
    generalize upd H5 t2 (.tup (cutV (dgs b n x (h + L)) (some (h : Int)) none)) = H6 at k5 k6 g6 ⊢
    refine ⟨by show 2 ≤ sizeLine; decide, fun t7 n7 => ?_⟩
    refine q t7 _ p q0 h L P (((((g1.trans G).trans g3).trans g4).trans g5).trans (g6.trans (Gr.new n7))) ⟨t1, t2, upd_same, ?_, ?_⟩
    · rw [upd_ne (ne_of_none k6 n7), k6, cut_lo (by rw [lenD]; omega), dgs_take]
    · rw [upd_ne (ne_of_none k5 n7), k5, cut_hi (by rw [lenD]; omega), dgs_drop]

def sp_law_begun (K : PySem.W.Frag) : Sp := fun vs H Q _ => ∃ (a : Addr) (ns : List Int), vs = [.ref a] ∧ SqL K H a (ns.map V.int) ∧ ns.length ≤ 63 ∧ ∀ d H', Gr [] H H' → MOk H' d 0 → Q (.ref d) H'
theorem eqv_nil (ys : List Int) : PyData.eqv (.list (ys.map PyData.int)) (.list []) = ys.isEmpty := by
  cases ys with
  | nil => rfl
  | cons y r => rfl
theorem lay_ints : ∀ ys : List Int, PyData.canLayAll0 (ys.map PyData.int) = true ∧ PyData.depthAll (ys.map PyData.int) = 0
  | [] => ⟨rfl, rfl⟩
  | y :: r => by
    obtain ⟨h1, h2⟩ := lay_ints r
    refine ⟨?_, ?_⟩
    · show (true && PyData.canLayAll0 (r.map PyData.int)) = true
      rw [h1]
      rfl
    · show max 0 (PyData.depthAll (r.map PyData.int)) = 0
      rw [h2]
      rfl
theorem shaped_ints (ys : List Int) : SeqAt.shaped (.list (ys.map PyData.int)) = true := by
  obtain ⟨h1, h2⟩ := lay_ints ys
  exact Fits.shaped h1 (by show PyData.depthAll _ + 1 ≤ 64; rw [h2]; decide)
theorem get_ints {ns : List Int} {i : Nat} {x : V} (h : (ns.map V.int)[i]? = some x) : ∃ n, x = .int n ∧ ns[i]? = some n ∧ i < ns.length := by
  rw [List.getElem?_map] at h
  cases e : ns[i]? with
  | none =>
    rw [e] at h
    cases h
  | some n =>
    rw [e] at h
    exact ⟨n, (Option.some.inj h).symm, rfl, (List.getElem?_eq_some_iff.mp e).1⟩
theorem ok_law_begun (T : Txt K mg) : FnOk P w K mg base CX0 1 T.d_law_begun.f T.d_law_begun.fd ["script"] (sp_law_begun K) := by
  refine T.d_law_begun.F.ok sc_law_begun (fun vs H Q E h => ?_) (fun cdv A outer s H vs Q E hr h => ?_)
  · obtain ⟨a, ns, rfl, _⟩ := h; rfl
  · have hu := hu_of hr
    refine ⟨_, (pss_cons (ps_setLc (i := 1) (own := [("cell", 2)]) (g := gName 2) (tt := _) rfl sc_law_begun.nd rfl rfl (sw_true rfl rfl rfl (by decide +kernel)) (pi_list (pv 0)) (blkOk_by (own := [("cell", 2)]) (N := ["script", "great", "cell"]) (sc := defScope s_law_begun) (by decide +kernel)) (fun _ _ _ _ _ => (pg_name (i := 2) sc_law_begun.nd rfl (by first | exact .inl rfl | exact .inr rfl))) (fun _ _ _ _ _ => (pts_one (pt_cmpR op_ge (pv 2) (pe_op op_pow pe_int pe_int) (nomark _)))) (fun _ _ _ _ _ => (pv 2)))
      (pss_one (ps_ret (pe_disp (pps_cons pe_str (pe_op op_cat (pe_callTy (r := rLsO K) call_lsO (by rfl) T.b_list (by decide +kernel) (pa_cons (pv 0) pa_nil)) (pe_lst (pa_cons (pe_callB (r := rLn K) call_ln (by rfl) T.b_len PySem.boot_len (pa_cons (pv 0) pa_nil)) pa_nil))) (pps_cons pe_str (pe_ifExp (pt_cmpR (r := rNeD K) (op_neD hr.units) (pv 1) (pe_lst pa_nil) (nomark _)) (pe_ix (r := rIxL K) ix_list (pv 1) pe_int (fun _ _ => rfl)) pe_int) (pps_cons pe_str pe_int pps_nil))) (by rfl) (by rfl) (fun z => by cases z) (by decide))))), ?_⟩
    obtain ⟨a, ns, rfl, hS, hn, q⟩ := h
    have sz : ∀ {k : Nat}, k ≤ 1000 → k < sizeLine := fun h => small1000 h
    refine ⟨_, rfl, a, rfl, ⟨_, hS⟩, fun D nD => ?_⟩
    refine lc_list (K := K) (a := a) (xs := ns.map V.int) (fun i H' => Gr [] H H' ∧ ∃ ys : List Int, ys.length ≤ i ∧ H' D = some (.lst (ys.map V.int))) ⟨Gr.new nD, [], Nat.le_refl _, upd_same⟩ (fun i H' _ z => (Kp.of z.1).sqL hS) ?_ ?_
    · rintro i y H' hy ⟨G, ys, hl, hD⟩
      obtain ⟨n, rfl, hn', hi⟩ := get_ints hy
      refine ⟨rfl, ?_⟩
      refine ⟨_, rfl, _, _, rfl, rfl, ⟨by decide, by decide, by decide⟩, _, _, rfl, rfl, _, rfl, ?_⟩
      have ex : ∀ {o : HO}, Gr [] H (upd H' D o) := fun {o} c u _ e => by
        rw [upd_ne (ne_of_none e nD)]
        exact G c u (by simp) e
      refine ite2 (fun _ => ?_) (fun _ => ?_)
      · refine ⟨_, rfl, _, hD, by rw [List.length_map]; exact sz (by omega), ex, ys ++ [n], by rw [List.length_append]; simp; omega, ?_⟩
        rw [upd_same, List.map_append]
        rfl
      · exact ⟨G, ys, by omega, hD⟩
    rintro H1 ⟨g1, ys, hl, hD⟩
    rw [List.length_map] at hl
    intro p np
    have hS1 : SqL K (upd H1 p (.dK [])) a (ns.map V.int) := (Kp.of (g1.trans (Gr.new np))).sqL hS
    have hD1 := (Gr.new (W := []) (o := .dK []) np) D _ (by simp) hD
    refine ⟨_, rfl, a, _, rfl, .inl hS1, fun l nl => ?_⟩
    have hS2 := (Kp.of (Gr.new (o := .lst (ns.map V.int)) nl)).sqL hS1
    refine ⟨_, rfl, a, _, rfl, .inl hS2, by show 1 ≤ sizeLine; decide, fun l2 nl2 => ?_⟩
    have k1 := (Gr.new (W := []) (o := .lst [V.int ((ns.map V.int).length : Nat)]) nl2) l _ (by simp) (upd_same (o := .lst (ns.map V.int)))
    refine ⟨l, l2, _, _, rfl, rfl, k1, upd_same, ?_, fun p3 np3 => ?_⟩
    · rw [List.length_map]
      exact Nat.le_of_lt (sz (by show ns.length + 1 ≤ 1000; omega))
    have gA : Gr [] (upd H1 p (.dK [])) (upd (upd (upd (upd H1 p (.dK [])) l (.lst (ns.map V.int))) l2 (.lst [V.int ((ns.map V.int).length : Nat)])) p3 (.lst (ns.map V.int ++ [V.int ((ns.map V.int).length : Nat)]))) :=
      ((Gr.new nl).trans (Gr.new nl2)).trans (Gr.new np3)
    have hp3 : (upd (upd (upd (upd H1 p (.dK [])) l (.lst (ns.map V.int))) l2 (.lst [V.int ((ns.map V.int).length : Nat)])) p3 (.lst (ns.map V.int ++ [V.int ((ns.map V.int).length : Nat)]))) p3 = some (.lst ((ns ++ [(ns.length : Int)]).map V.int)) := by
      rw [upd_same, List.map_append, List.length_map]
      rfl
    generalize (upd (upd (upd (upd H1 p (.dK [])) l (.lst (ns.map V.int))) l2 (.lst [V.int ((ns.map V.int).length : Nat)])) p3 (.lst (ns.map V.int ++ [V.int ((ns.map V.int).length : Nat)]))) = H4 at gA hp3 ⊢
    have hD4 := gA D _ (by simp) hD1
    have hp4 := gA p _ (by simp) (upd_same (o := .dK []))
    have G4 : ∀ (H5 : Hp) (l0 : Int), Gr [] H4 H5 → Q (.ref p) (upd H5 p (.dK (mergeK [] (mkv p3 l0 0)))) := fun H5 l0 g5 => by
      rw [mm]
      have h3 := g5 p3 _ (by simp) hp3
      have hne : p3 ≠ p := by
        intro e
        rw [e, hp4] at hp3
        cases hp3
      refine q p _ (fun c u _ e => ?_) ⟨p3, ns ++ [(ns.length : Int)], l0, 0, upd_same, ?_, by simp, Int.le_refl _, Int.le_refl _⟩
      · have hcp : c ≠ p := ne_of_none (g1 c u (by simp) e) np
        rw [upd_ne hcp]
        refine g5 c u (by simp) (gA c u (by simp) ?_)
        rw [upd_ne hcp]
        exact g1 c u (by simp) e
      · rw [upd_ne hne]
        exact h3
    refine ⟨_, rfl, Nat.zero_le _, fun q0 nq => ?_⟩
    have hq := (Gr.new (W := []) (o := .lst []) nq)
    refine ⟨.list (ys.map PyData.int), .list [], dp_lst (hq D _ (by simp) hD4) (dpAll_ints ys), dp_lst upd_same .nil, shaped_ints ys, rfl, _, rfl, ?_⟩
    rw [eqv_nil]
    cases ys with
    | nil =>
      refine iteF ?_
      refine ⟨hq p _ (by simp) hp4, mkv p3 0 0, rfl, by show 3 ≤ 15; decide, G4 _ 0 hq⟩
    | cons y r =>
      refine iteT ⟨_, rfl, D, _, 0, .int y, rfl, rfl, sq_lst (hq D _ (by simp) hD4), atI_nat (j := 0) rfl, ?_⟩
      refine ⟨hq p _ (by simp) hp4, mkv p3 y 0, rfl, by show 3 ≤ 15; decide, G4 _ y hq⟩

end
end Wn
namespace Wn
open PySem PySem.Spec PyProof.Rows L2
open LamX (Tabs ExtN tLam)
local macro_rules | `(tactic| walk_at "vc") => `(tactic| simp only [cxK, cxK2, start1, start2, start3, tRet, tRetN, tSeq, tNext, tIfS, tAsg, gName, tDrop, tVar, tC, tOp, tUn, tTest, tB, tNot, tAnd, tOr, tAndV, tOrV, tNotV, tIf, tCons, tNil, tCB, tCall, tChain, tAug, ipI, rI, rI0, rU, rIs, rGcd, rEq, rNe, scal,
  List.getElem?_cons_zero, List.getElem?_cons_succ, List.set_cons_zero, List.set_cons_succ, Option.some.injEq, List.cons.injEq, V.int.injEq, V.bl.injEq, V.ref.injEq, V.str.injEq, and_true, true_and, exists_eq_left, exists_eq_left', exists_and_left, exists_and_right, List.append_nil, List.nil_append, List.cons_append, exists_eq_right, exists_eq_right', and_assoc, exists_const, V.ty.injEq, ↓reduceIte, Bool.false_eq_true, Bool.not_true, Bool.not_false, decide_eq_true_eq])

section
variable {P : Program} {w : World} {K : PySem.W.Frag} {mg : Str → Option Value} {base : Heap}
theorem ok_init_BadBase (T : Txt K mg) : FnOk P w K mg base CX0 1 T.I_BadBase T.fd_BadBase ["self", "value"] (spInit T.C_BadBase "value") := by
  refine T.F_BadBase.ok sc_BadBase_init (fun vs H Q E h => ?_) (fun cdv A outer s H vs Q E hr h => ?_)
  · obtain ⟨a, v, rfl, _⟩ := h
    rfl
  · obtain ⟨a, v, rfl, ha, q⟩ := h
    refine ⟨_, pss_cons (ps_expr (pe_initW T.T_BadBase (by rfl) T.g_WheelError T.r_WheelError T.i_WheelError (by rfl) (pa_cons (pv 0) (pa_cons pe_str pa_nil)))) (pss_one (ps_ostE T.T_BadBase (pv 0) (pv 1))), ?_⟩
    exact ⟨_, rfl, a, _, rfl, by show 1 ≤ 1000; decide, ha, _, rfl, _, rfl, a, rfl, ha, fun d nd da => q d nd da⟩
theorem ok_init_BadFraction (T : Txt K mg) : FnOk P w K mg base CX0 1 T.I_BadFraction T.fd_BadFraction ["self", "value"] (spInit T.C_BadFraction "value") := by
  refine T.F_BadFraction.ok sc_BadFraction_init (fun vs H Q E h => ?_) (fun cdv A outer s H vs Q E hr h => ?_)
  · obtain ⟨a, v, rfl, _⟩ := h
    rfl
  · obtain ⟨a, v, rfl, ha, q⟩ := h
    refine ⟨_, pss_cons (ps_expr (pe_initW T.T_BadFraction (by rfl) T.g_WheelError T.r_WheelError T.i_WheelError (by rfl) (pa_cons (pv 0) (pa_cons pe_str pa_nil)))) (pss_one (ps_ostE T.T_BadFraction (pv 0) (pv 1))), ?_⟩
    exact ⟨_, rfl, a, _, rfl, by show 1 ≤ 1000; decide, ha, _, rfl, _, rfl, a, rfl, ha, fun d nd da => q d nd da⟩
theorem ok_init_BadText (T : Txt K mg) : FnOk P w K mg base CX0 1 T.I_BadText T.fd_BadText ["self", "place"] (spInit T.C_BadText "place") := by
  refine T.F_BadText.ok sc_BadText_init (fun vs H Q E h => ?_) (fun cdv A outer s H vs Q E hr h => ?_)
  · obtain ⟨a, v, rfl, _⟩ := h
    rfl
  · obtain ⟨a, v, rfl, ha, q⟩ := h
    refine ⟨_, pss_cons (ps_expr (pe_initW T.T_BadText (by rfl) T.g_WheelError T.r_WheelError T.i_WheelError (by rfl) (pa_cons (pv 0) (pa_cons pe_str pa_nil)))) (pss_one (ps_ostE T.T_BadText (pv 0) (pv 1))), ?_⟩
    exact ⟨_, rfl, a, _, rfl, by show 1 ≤ 1000; decide, ha, _, rfl, _, rfl, a, rfl, ha, fun d nd da => q d nd da⟩
theorem ok_init_TooGreat (T : Txt K mg) : FnOk P w K mg base CX0 1 T.I_TooGreat T.fd_TooGreat ["self", "most"] (spInit T.C_TooGreat "most") := by
  refine T.F_TooGreat.ok sc_TooGreat_init (fun vs H Q E h => ?_) (fun cdv A outer s H vs Q E hr h => ?_)
  · obtain ⟨a, v, rfl, _⟩ := h
    rfl
  · obtain ⟨a, v, rfl, ha, q⟩ := h
    refine ⟨_, pss_cons (ps_expr (pe_initB T.T_TooGreat (by rfl) T.b_OverflowError (by rfl) (by decide) (by decide) (by kernel_rfl) (by decide +kernel) T.i_OverflowError (by rfl) (pa_cons (pv 0) (pa_cons pe_str pa_nil)))) (pss_one (ps_ostE T.T_TooGreat (pv 0) (pv 1))), ?_⟩
    exact ⟨_, rfl, a, _, rfl, by show 1 ≤ 1000; decide, ha, _, rfl, _, rfl, a, rfl, ha, fun d nd da => q d nd da⟩
theorem ok_init_Nothing (T : Txt K mg) : FnOk P w K mg base CX0 1 T.I_Nothing T.fd_Nothing ["self", "value"] (spInit T.C_Nothing "value") := by
  refine T.F_Nothing.ok sc_Nothing_init (fun vs H Q E h => ?_) (fun cdv A outer s H vs Q E hr h => ?_)
  · obtain ⟨a, v, rfl, _⟩ := h
    rfl
  · obtain ⟨a, v, rfl, ha, q⟩ := h
    refine ⟨_, pss_cons (ps_expr (pe_initB T.T_Nothing (by rfl) T.b_LookupError (by rfl) (by decide) (by decide) (by kernel_rfl) (by decide +kernel) T.i_LookupError (by rfl) (pa_cons (pv 0) (pa_cons pe_str pa_nil)))) (pss_one (ps_ostE T.T_Nothing (pv 0) (pv 1))), ?_⟩
    exact ⟨_, rfl, a, _, rfl, by show 1 ≤ 1000; decide, ha, _, rfl, _, rfl, a, rfl, ha, fun d nd da => q d nd da⟩

theorem names3 {X : Cx} (T : Txt K mg) (hm : X.mg = mg) (h1 : X.env.kindOf "WheelError" = some .globalImplicit) (h2 : X.env.kindOf "Nothing" = some .globalImplicit) (h3 : X.env.kindOf "TooGreat" = some .globalImplicit) : Names3 X "WheelError" "Nothing" "TooGreat" T.C_WheelError T.C_Nothing T.C_TooGreat :=
  ⟨⟨h1, by decide, hm ▸ T.g_WheelError⟩, ⟨h2, by decide, hm ▸ T.g_Nothing⟩, ⟨h3, by decide, hm ▸ T.g_TooGreat⟩⟩
/-- the errors that may be met here: class, field, word -/
def errs (T : Txt K mg) : List (Addr × Str × Str) := [(T.C_BadBase, "value", "base"), (T.C_BadFraction, "value", "fraction"), (T.C_BadText, "place", "text"), (T.C_TooGreat, "most", "great"), (T.C_Nothing, "value", "nothing")]
def tl (T : Txt K mg) : List (Addr × Str) := [(T.p_law_right, ("_law_right" : Str) ++ ".<locals>." ++ "<lambda>"), (T.p_law_hand_right, ("_law_hand_right" : Str) ++ ".<locals>." ++ "<lambda>")]
theorem hm_law_right (T : Txt K mg) : (T.p_law_right, ("_law_right" : Str) ++ ".<locals>." ++ "<lambda>") ∈ tl T := by
  unfold tl
  simp
theorem hu_law_right (T : Txt K mg) : ∀ p ∈ tl T, p.1 = T.p_law_right → p.2 = ("_law_right" : Str) ++ ".<locals>." ++ "<lambda>" := by
  intro p hp e
  unfold tl at hp
  simp only [List.mem_cons, List.not_mem_nil, or_false] at hp
  rcases hp with rfl | rfl
  · rfl
  · exact absurd e (Ne.symm T.ne_law_right_law_hand_right)
theorem hm_law_hand_right (T : Txt K mg) : (T.p_law_hand_right, ("_law_hand_right" : Str) ++ ".<locals>." ++ "<lambda>") ∈ tl T := by
  unfold tl
  simp
theorem hu_law_hand_right (T : Txt K mg) : ∀ p ∈ tl T, p.1 = T.p_law_hand_right → p.2 = ("_law_hand_right" : Str) ++ ".<locals>." ++ "<lambda>" := by
  intro p hp e
  unfold tl at hp
  simp only [List.mem_cons, List.not_mem_nil, or_false] at hp
  rcases hp with rfl | rfl
  · exact absurd e T.ne_law_right_law_hand_right
  · rfl

structure Tbs (T : Txt K mg) (base : Heap) : Prop where
  tb_law_right : LamX.TabB base mg T.k_law_right T.p_law_right
  tb_law_hand_right : LamX.TabB base mg T.k_law_hand_right T.p_law_hand_right

def sp_law_word (T : Txt K mg) : Sp := fun vs H Q _ => ∃ (a C d : Addr) (f w : Str) (v : V), vs = [.ref a] ∧ (C, f, w) ∈ errs T ∧ H a = some (ExV (.ref C) (some d) a) ∧ H d = some (.xd [(f, v)]) ∧ ∀ t H', Gr [] H H' → H' t = some (.tup [.str w, v]) → Q (.ref t) H'
theorem lookup_one (f : Str) (v : V) : List.lookup f [(f, v)] = some v := by simp [List.lookup]
theorem ok_law_word (T : Txt K mg) : FnOk P w K mg base CX0 1 T.d_law_word.f T.d_law_word.fd ["error"] (sp_law_word T) := by
  refine T.d_law_word.F.ok sc_law_word (fun vs H Q E h => ?_) (fun cdv A outer s H vs Q E hr h => ?_)
  · obtain ⟨a, C, d, f, w, v, rfl, _⟩ := h; rfl
  · have hu := hu_of hr
    refine ⟨_, (pss_cons (ps_set (i := 1) sc_law_word.nd rfl (by first | exact .inl rfl | exact .inr rfl) (pe_lst pa_nil))
      (pss_cons (ps_if (pt_val (pe_callB (r := rIsV K) call_isV (by rfl) T.b_isinstance (by decide +kernel) (pa_cons (pv 0) (pa_cons (pe_glob (v := .ref T.C_BadBase) (by rfl) T.g_BadBase rfl) pa_nil)))) (pss_one (ps_expr (pe_bm PySem.F.plainAttrs_list PySem.F.slot_list_append PySem.F.type_list_append mt_append (pv 1) (pa_cons (pe_tup (pa_cons pe_str (pa_cons (pe_fldE (pv 0)) pa_nil))) pa_nil)))) pss_nil)
      (pss_cons (ps_if (pt_val (pe_callB (r := rIsV K) call_isV (by rfl) T.b_isinstance (by decide +kernel) (pa_cons (pv 0) (pa_cons (pe_glob (v := .ref T.C_BadDenominator) (by rfl) T.g_BadDenominator rfl) pa_nil)))) (pss_one (ps_expr (pe_bm PySem.F.plainAttrs_list PySem.F.slot_list_append PySem.F.type_list_append mt_append (pv 1) (pa_cons (pe_tup (pa_cons pe_str (pa_cons (pe_fldE (pv 0)) pa_nil))) pa_nil)))) pss_nil)
      (pss_cons (ps_if (pt_val (pe_callB (r := rIsV K) call_isV (by rfl) T.b_isinstance (by decide +kernel) (pa_cons (pv 0) (pa_cons (pe_glob (v := .ref T.C_BadFraction) (by rfl) T.g_BadFraction rfl) pa_nil)))) (pss_one (ps_expr (pe_bm PySem.F.plainAttrs_list PySem.F.slot_list_append PySem.F.type_list_append mt_append (pv 1) (pa_cons (pe_tup (pa_cons pe_str (pa_cons (pe_fldE (pv 0)) pa_nil))) pa_nil)))) pss_nil)
      (pss_cons (ps_if (pt_val (pe_callB (r := rIsV K) call_isV (by rfl) T.b_isinstance (by decide +kernel) (pa_cons (pv 0) (pa_cons (pe_glob (v := .ref T.C_BadDigits) (by rfl) T.g_BadDigits rfl) pa_nil)))) (pss_one (ps_expr (pe_bm PySem.F.plainAttrs_list PySem.F.slot_list_append PySem.F.type_list_append mt_append (pv 1) (pa_cons (pe_tup (pa_cons pe_str (pa_cons (pe_fldE (pv 0)) pa_nil))) pa_nil)))) pss_nil)
      (pss_cons (ps_if (pt_val (pe_callB (r := rIsV K) call_isV (by rfl) T.b_isinstance (by decide +kernel) (pa_cons (pv 0) (pa_cons (pe_glob (v := .ref T.C_BadNumber) (by rfl) T.g_BadNumber rfl) pa_nil)))) (pss_one (ps_expr (pe_bm PySem.F.plainAttrs_list PySem.F.slot_list_append PySem.F.type_list_append mt_append (pv 1) (pa_cons (pe_tup (pa_cons pe_str (pa_cons (pe_fldE (pv 0)) pa_nil))) pa_nil)))) pss_nil)
      (pss_cons (ps_if (pt_val (pe_callB (r := rIsV K) call_isV (by rfl) T.b_isinstance (by decide +kernel) (pa_cons (pv 0) (pa_cons (pe_glob (v := .ref T.C_BadPaper) (by rfl) T.g_BadPaper rfl) pa_nil)))) (pss_one (ps_expr (pe_bm PySem.F.plainAttrs_list PySem.F.slot_list_append PySem.F.type_list_append mt_append (pv 1) (pa_cons (pe_tup (pa_cons pe_str (pa_cons (pe_fldE (pv 0)) pa_nil))) pa_nil)))) pss_nil)
      (pss_cons (ps_if (pt_val (pe_callB (r := rIsV K) call_isV (by rfl) T.b_isinstance (by decide +kernel) (pa_cons (pv 0) (pa_cons (pe_glob (v := .ref T.C_BadText) (by rfl) T.g_BadText rfl) pa_nil)))) (pss_one (ps_expr (pe_bm PySem.F.plainAttrs_list PySem.F.slot_list_append PySem.F.type_list_append mt_append (pv 1) (pa_cons (pe_tup (pa_cons pe_str (pa_cons (pe_fldE (pv 0)) pa_nil))) pa_nil)))) pss_nil)
      (pss_cons (ps_if (pt_val (pe_callB (r := rIsV K) call_isV (by rfl) T.b_isinstance (by decide +kernel) (pa_cons (pv 0) (pa_cons (pe_glob (v := .ref T.C_TooGreat) (by rfl) T.g_TooGreat rfl) pa_nil)))) (pss_one (ps_expr (pe_bm PySem.F.plainAttrs_list PySem.F.slot_list_append PySem.F.type_list_append mt_append (pv 1) (pa_cons (pe_tup (pa_cons pe_str (pa_cons (pe_fldE (pv 0)) pa_nil))) pa_nil)))) pss_nil)
      (pss_cons (ps_if (pt_val (pe_callB (r := rIsV K) call_isV (by rfl) T.b_isinstance (by decide +kernel) (pa_cons (pv 0) (pa_cons (pe_glob (v := .ref T.C_Nothing) (by rfl) T.g_Nothing rfl) pa_nil)))) (pss_one (ps_expr (pe_bm PySem.F.plainAttrs_list PySem.F.slot_list_append PySem.F.type_list_append mt_append (pv 1) (pa_cons (pe_tup (pa_cons pe_str (pa_cons (pe_fldE (pv 0)) pa_nil))) pa_nil)))) pss_nil)
      (pss_one (ps_ret (pe_ifExp (pt_cmpR op_eq (pe_callB (r := rLn K) call_ln (by rfl) T.b_len PySem.boot_len (pa_cons (pv 1) pa_nil)) pe_int (nomark _)) (pe_ix (r := rIxL K) ix_list (pv 1) pe_int (fun _ _ => rfl)) (pe_tup (pa_cons pe_str (pa_cons pe_non pa_nil)))))))))))))))), ?_⟩
    obtain ⟨a, C, d, f, w, v, rfl, hc, ha, hd, q⟩ := h
    unfold errs at hc
    simp only [List.mem_cons, List.not_mem_nil, or_false, Prod.mk.injEq] at hc
    rcases hc with hc | hc | hc | hc | hc
    · obtain ⟨rfl, rfl, rfl⟩ := hc
      refine ⟨Nat.zero_le _, fun l nl => ?_⟩
      have gl : Gr [] H (upd H l (.lst [])) := Gr.new nl
      have hl : (upd H l (.lst [])) l = some (.lst []) := upd_same
      have ha1 := gl a _ (by simp) ha
      have hd1 := gl d _ (by simp) hd
      have nl0 : H l = none := nl
      generalize upd H l (.lst []) = H1 at gl hl ha1 hd1 ⊢
      refine ⟨_, rfl, a, T.C_BadBase, d, _, .ref T.C_BadBase, _, _, rfl, T.is_BadBase, ha1, hd1, (fun u z => z), T.kit_BadBase_BadBase, _, rfl, iteT ?_⟩
      refine ⟨_, rfl, .inl ⟨rfl, _, sq_lst hl⟩, _, rfl, a, T.C_BadBase, d, _, v, rfl, T.T_BadBase.xf, T.T_BadBase.no, ha1, hd1, lookup_one _ _, ?_⟩
      refine ⟨by show 2 ≤ sizeLine; decide, fun p np => ?_⟩
      have g2 : Gr [] H1 (upd H1 p (.tup [.str "base", v])) := Gr.new np
      have hp := upd_same (H := H1) (a := p) (o := .tup [.str "base", v])
      have hl2 := g2 l _ (by simp) hl
      have ha2 := g2 a _ (by simp) ha1
      have hd2 := g2 d _ (by simp) hd1
      generalize upd H1 p (.tup [.str "base", v]) = H2 at g2 hp hl2 ha2 hd2 ⊢
      refine ⟨l, _, _, rfl, rfl, hl2, by show 0 < sizeLine; decide, ?_⟩
      have gA : Gr [] H (upd H2 l (.lst ([] ++ [.ref p]))) := fun u o _ e => by
        rw [upd_ne (ne_of_none e nl0)]
        exact g2 u o (by simp) (gl u o (by simp) e)
      have hl3 : (upd H2 l (.lst ([] ++ [.ref p]))) l = some (.lst [.ref p]) := upd_same
      have hp3 : (upd H2 l (.lst ([] ++ [.ref p]))) p = some (.tup [.str "base", v]) := by
        rw [upd_ne (ne_of hp hl2 (by intro z; cases z))]
        exact hp
      have ha2 := gA a _ (by simp) ha
      have hd2 := gA d _ (by simp) hd
      generalize upd H2 l (.lst ([] ++ [.ref p])) = H3 at gA hl3 hp3 ha2 hd2 ⊢
      refine ⟨_, rfl, a, T.C_BadBase, d, _, .ref T.C_BadDenominator, _, _, rfl, T.is_BadBase, ha2, hd2, (fun u z => z), T.kit_BadBase_BadDenominator, _, rfl, iteF ?_⟩
      refine ⟨_, rfl, a, T.C_BadBase, d, _, .ref T.C_BadFraction, _, _, rfl, T.is_BadBase, ha2, hd2, (fun u z => z), T.kit_BadBase_BadFraction, _, rfl, iteF ?_⟩
      refine ⟨_, rfl, a, T.C_BadBase, d, _, .ref T.C_BadDigits, _, _, rfl, T.is_BadBase, ha2, hd2, (fun u z => z), T.kit_BadBase_BadDigits, _, rfl, iteF ?_⟩
      refine ⟨_, rfl, a, T.C_BadBase, d, _, .ref T.C_BadNumber, _, _, rfl, T.is_BadBase, ha2, hd2, (fun u z => z), T.kit_BadBase_BadNumber, _, rfl, iteF ?_⟩
      refine ⟨_, rfl, a, T.C_BadBase, d, _, .ref T.C_BadPaper, _, _, rfl, T.is_BadBase, ha2, hd2, (fun u z => z), T.kit_BadBase_BadPaper, _, rfl, iteF ?_⟩
      refine ⟨_, rfl, a, T.C_BadBase, d, _, .ref T.C_BadText, _, _, rfl, T.is_BadBase, ha2, hd2, (fun u z => z), T.kit_BadBase_BadText, _, rfl, iteF ?_⟩
      refine ⟨_, rfl, a, T.C_BadBase, d, _, .ref T.C_TooGreat, _, _, rfl, T.is_BadBase, ha2, hd2, (fun u z => z), T.kit_BadBase_TooGreat, _, rfl, iteF ?_⟩
      refine ⟨_, rfl, a, T.C_BadBase, d, _, .ref T.C_Nothing, _, _, rfl, T.is_BadBase, ha2, hd2, (fun u z => z), T.kit_BadBase_Nothing, _, rfl, iteF ?_⟩
      refine ⟨_, rfl, l, _, rfl, .inl (sq_lst hl3), rfl, _, rfl, iteT ?_⟩
      exact ⟨_, rfl, l, _, _, .ref p, rfl, rfl, sq_lst hl3, atI_nat (j := 0) rfl, q p _ gA hp3⟩
    · obtain ⟨rfl, rfl, rfl⟩ := hc
      refine ⟨Nat.zero_le _, fun l nl => ?_⟩
      have gl : Gr [] H (upd H l (.lst [])) := Gr.new nl
      have hl : (upd H l (.lst [])) l = some (.lst []) := upd_same
      have ha1 := gl a _ (by simp) ha
      have hd1 := gl d _ (by simp) hd
      have nl0 : H l = none := nl
      generalize upd H l (.lst []) = H1 at gl hl ha1 hd1 ⊢
      refine ⟨_, rfl, a, T.C_BadFraction, d, _, .ref T.C_BadBase, _, _, rfl, T.is_BadFraction, ha1, hd1, (fun u z => z), T.kit_BadFraction_BadBase, _, rfl, iteF ?_⟩
      refine ⟨_, rfl, a, T.C_BadFraction, d, _, .ref T.C_BadDenominator, _, _, rfl, T.is_BadFraction, ha1, hd1, (fun u z => z), T.kit_BadFraction_BadDenominator, _, rfl, iteF ?_⟩
      refine ⟨_, rfl, a, T.C_BadFraction, d, _, .ref T.C_BadFraction, _, _, rfl, T.is_BadFraction, ha1, hd1, (fun u z => z), T.kit_BadFraction_BadFraction, _, rfl, iteT ?_⟩
      refine ⟨_, rfl, .inl ⟨rfl, _, sq_lst hl⟩, _, rfl, a, T.C_BadFraction, d, _, v, rfl, T.T_BadFraction.xf, T.T_BadFraction.no, ha1, hd1, lookup_one _ _, ?_⟩
      refine ⟨by show 2 ≤ sizeLine; decide, fun p np => ?_⟩
      have g2 : Gr [] H1 (upd H1 p (.tup [.str "fraction", v])) := Gr.new np
      have hp := upd_same (H := H1) (a := p) (o := .tup [.str "fraction", v])
      have hl2 := g2 l _ (by simp) hl
      have ha2 := g2 a _ (by simp) ha1
      have hd2 := g2 d _ (by simp) hd1
      generalize upd H1 p (.tup [.str "fraction", v]) = H2 at g2 hp hl2 ha2 hd2 ⊢
      refine ⟨l, _, _, rfl, rfl, hl2, by show 0 < sizeLine; decide, ?_⟩
      have gA : Gr [] H (upd H2 l (.lst ([] ++ [.ref p]))) := fun u o _ e => by
        rw [upd_ne (ne_of_none e nl0)]
        exact g2 u o (by simp) (gl u o (by simp) e)
      have hl3 : (upd H2 l (.lst ([] ++ [.ref p]))) l = some (.lst [.ref p]) := upd_same
      have hp3 : (upd H2 l (.lst ([] ++ [.ref p]))) p = some (.tup [.str "fraction", v]) := by
        rw [upd_ne (ne_of hp hl2 (by intro z; cases z))]
        exact hp
      have ha2 := gA a _ (by simp) ha
      have hd2 := gA d _ (by simp) hd
      generalize upd H2 l (.lst ([] ++ [.ref p])) = H3 at gA hl3 hp3 ha2 hd2 ⊢
      refine ⟨_, rfl, a, T.C_BadFraction, d, _, .ref T.C_BadDigits, _, _, rfl, T.is_BadFraction, ha2, hd2, (fun u z => z), T.kit_BadFraction_BadDigits, _, rfl, iteF ?_⟩
      refine ⟨_, rfl, a, T.C_BadFraction, d, _, .ref T.C_BadNumber, _, _, rfl, T.is_BadFraction, ha2, hd2, (fun u z => z), T.kit_BadFraction_BadNumber, _, rfl, iteF ?_⟩
      refine ⟨_, rfl, a, T.C_BadFraction, d, _, .ref T.C_BadPaper, _, _, rfl, T.is_BadFraction, ha2, hd2, (fun u z => z), T.kit_BadFraction_BadPaper, _, rfl, iteF ?_⟩
      refine ⟨_, rfl, a, T.C_BadFraction, d, _, .ref T.C_BadText, _, _, rfl, T.is_BadFraction, ha2, hd2, (fun u z => z), T.kit_BadFraction_BadText, _, rfl, iteF ?_⟩
      refine ⟨_, rfl, a, T.C_BadFraction, d, _, .ref T.C_TooGreat, _, _, rfl, T.is_BadFraction, ha2, hd2, (fun u z => z), T.kit_BadFraction_TooGreat, _, rfl, iteF ?_⟩
      refine ⟨_, rfl, a, T.C_BadFraction, d, _, .ref T.C_Nothing, _, _, rfl, T.is_BadFraction, ha2, hd2, (fun u z => z), T.kit_BadFraction_Nothing, _, rfl, iteF ?_⟩
      refine ⟨_, rfl, l, _, rfl, .inl (sq_lst hl3), rfl, _, rfl, iteT ?_⟩
      exact ⟨_, rfl, l, _, _, .ref p, rfl, rfl, sq_lst hl3, atI_nat (j := 0) rfl, q p _ gA hp3⟩
    · obtain ⟨rfl, rfl, rfl⟩ := hc
      refine ⟨Nat.zero_le _, fun l nl => ?_⟩
      have gl : Gr [] H (upd H l (.lst [])) := Gr.new nl
      have hl : (upd H l (.lst [])) l = some (.lst []) := upd_same
      have ha1 := gl a _ (by simp) ha
      have hd1 := gl d _ (by simp) hd
      have nl0 : H l = none := nl
      generalize upd H l (.lst []) = H1 at gl hl ha1 hd1 ⊢
      refine ⟨_, rfl, a, T.C_BadText, d, _, .ref T.C_BadBase, _, _, rfl, T.is_BadText, ha1, hd1, (fun u z => z), T.kit_BadText_BadBase, _, rfl, iteF ?_⟩
      refine ⟨_, rfl, a, T.C_BadText, d, _, .ref T.C_BadDenominator, _, _, rfl, T.is_BadText, ha1, hd1, (fun u z => z), T.kit_BadText_BadDenominator, _, rfl, iteF ?_⟩
      refine ⟨_, rfl, a, T.C_BadText, d, _, .ref T.C_BadFraction, _, _, rfl, T.is_BadText, ha1, hd1, (fun u z => z), T.kit_BadText_BadFraction, _, rfl, iteF ?_⟩
      refine ⟨_, rfl, a, T.C_BadText, d, _, .ref T.C_BadDigits, _, _, rfl, T.is_BadText, ha1, hd1, (fun u z => z), T.kit_BadText_BadDigits, _, rfl, iteF ?_⟩
      refine ⟨_, rfl, a, T.C_BadText, d, _, .ref T.C_BadNumber, _, _, rfl, T.is_BadText, ha1, hd1, (fun u z => z), T.kit_BadText_BadNumber, _, rfl, iteF ?_⟩
      refine ⟨_, rfl, a, T.C_BadText, d, _, .ref T.C_BadPaper, _, _, rfl, T.is_BadText, ha1, hd1, (fun u z => z), T.kit_BadText_BadPaper, _, rfl, iteF ?_⟩
      refine ⟨_, rfl, a, T.C_BadText, d, _, .ref T.C_BadText, _, _, rfl, T.is_BadText, ha1, hd1, (fun u z => z), T.kit_BadText_BadText, _, rfl, iteT ?_⟩
      refine ⟨_, rfl, .inl ⟨rfl, _, sq_lst hl⟩, _, rfl, a, T.C_BadText, d, _, v, rfl, T.T_BadText.xf, T.T_BadText.no, ha1, hd1, lookup_one _ _, ?_⟩
      refine ⟨by show 2 ≤ sizeLine; decide, fun p np => ?_⟩
      have g2 : Gr [] H1 (upd H1 p (.tup [.str "text", v])) := Gr.new np
      have hp := upd_same (H := H1) (a := p) (o := .tup [.str "text", v])
      have hl2 := g2 l _ (by simp) hl
      have ha2 := g2 a _ (by simp) ha1
      have hd2 := g2 d _ (by simp) hd1
      generalize upd H1 p (.tup [.str "text", v]) = H2 at g2 hp hl2 ha2 hd2 ⊢
      refine ⟨l, _, _, rfl, rfl, hl2, by show 0 < sizeLine; decide, ?_⟩
      have gA : Gr [] H (upd H2 l (.lst ([] ++ [.ref p]))) := fun u o _ e => by
        rw [upd_ne (ne_of_none e nl0)]
        exact g2 u o (by simp) (gl u o (by simp) e)
      have hl3 : (upd H2 l (.lst ([] ++ [.ref p]))) l = some (.lst [.ref p]) := upd_same
      have hp3 : (upd H2 l (.lst ([] ++ [.ref p]))) p = some (.tup [.str "text", v]) := by
        rw [upd_ne (ne_of hp hl2 (by intro z; cases z))]
        exact hp
      have ha2 := gA a _ (by simp) ha
      have hd2 := gA d _ (by simp) hd
      generalize upd H2 l (.lst ([] ++ [.ref p])) = H3 at gA hl3 hp3 ha2 hd2 ⊢
      refine ⟨_, rfl, a, T.C_BadText, d, _, .ref T.C_TooGreat, _, _, rfl, T.is_BadText, ha2, hd2, (fun u z => z), T.kit_BadText_TooGreat, _, rfl, iteF ?_⟩
      refine ⟨_, rfl, a, T.C_BadText, d, _, .ref T.C_Nothing, _, _, rfl, T.is_BadText, ha2, hd2, (fun u z => z), T.kit_BadText_Nothing, _, rfl, iteF ?_⟩
      refine ⟨_, rfl, l, _, rfl, .inl (sq_lst hl3), rfl, _, rfl, iteT ?_⟩
      exact ⟨_, rfl, l, _, _, .ref p, rfl, rfl, sq_lst hl3, atI_nat (j := 0) rfl, q p _ gA hp3⟩
    · obtain ⟨rfl, rfl, rfl⟩ := hc
      refine ⟨Nat.zero_le _, fun l nl => ?_⟩
      have gl : Gr [] H (upd H l (.lst [])) := Gr.new nl
      have hl : (upd H l (.lst [])) l = some (.lst []) := upd_same
      have ha1 := gl a _ (by simp) ha
      have hd1 := gl d _ (by simp) hd
      have nl0 : H l = none := nl
      generalize upd H l (.lst []) = H1 at gl hl ha1 hd1 ⊢
      refine ⟨_, rfl, a, T.C_TooGreat, d, _, .ref T.C_BadBase, _, _, rfl, T.is_TooGreat, ha1, hd1, (fun u z => z), T.kit_TooGreat_BadBase, _, rfl, iteF ?_⟩
      refine ⟨_, rfl, a, T.C_TooGreat, d, _, .ref T.C_BadDenominator, _, _, rfl, T.is_TooGreat, ha1, hd1, (fun u z => z), T.kit_TooGreat_BadDenominator, _, rfl, iteF ?_⟩
      refine ⟨_, rfl, a, T.C_TooGreat, d, _, .ref T.C_BadFraction, _, _, rfl, T.is_TooGreat, ha1, hd1, (fun u z => z), T.kit_TooGreat_BadFraction, _, rfl, iteF ?_⟩
      refine ⟨_, rfl, a, T.C_TooGreat, d, _, .ref T.C_BadDigits, _, _, rfl, T.is_TooGreat, ha1, hd1, (fun u z => z), T.kit_TooGreat_BadDigits, _, rfl, iteF ?_⟩
      refine ⟨_, rfl, a, T.C_TooGreat, d, _, .ref T.C_BadNumber, _, _, rfl, T.is_TooGreat, ha1, hd1, (fun u z => z), T.kit_TooGreat_BadNumber, _, rfl, iteF ?_⟩
      refine ⟨_, rfl, a, T.C_TooGreat, d, _, .ref T.C_BadPaper, _, _, rfl, T.is_TooGreat, ha1, hd1, (fun u z => z), T.kit_TooGreat_BadPaper, _, rfl, iteF ?_⟩
      refine ⟨_, rfl, a, T.C_TooGreat, d, _, .ref T.C_BadText, _, _, rfl, T.is_TooGreat, ha1, hd1, (fun u z => z), T.kit_TooGreat_BadText, _, rfl, iteF ?_⟩
      refine ⟨_, rfl, a, T.C_TooGreat, d, _, .ref T.C_TooGreat, _, _, rfl, T.is_TooGreat, ha1, hd1, (fun u z => z), T.kit_TooGreat_TooGreat, _, rfl, iteT ?_⟩
      refine ⟨_, rfl, .inl ⟨rfl, _, sq_lst hl⟩, _, rfl, a, T.C_TooGreat, d, _, v, rfl, T.T_TooGreat.xf, T.T_TooGreat.no, ha1, hd1, lookup_one _ _, ?_⟩
      refine ⟨by show 2 ≤ sizeLine; decide, fun p np => ?_⟩
      have g2 : Gr [] H1 (upd H1 p (.tup [.str "great", v])) := Gr.new np
      have hp := upd_same (H := H1) (a := p) (o := .tup [.str "great", v])
      have hl2 := g2 l _ (by simp) hl
      have ha2 := g2 a _ (by simp) ha1
      have hd2 := g2 d _ (by simp) hd1
      generalize upd H1 p (.tup [.str "great", v]) = H2 at g2 hp hl2 ha2 hd2 ⊢
      refine ⟨l, _, _, rfl, rfl, hl2, by show 0 < sizeLine; decide, ?_⟩
      have gA : Gr [] H (upd H2 l (.lst ([] ++ [.ref p]))) := fun u o _ e => by
        rw [upd_ne (ne_of_none e nl0)]
        exact g2 u o (by simp) (gl u o (by simp) e)
      have hl3 : (upd H2 l (.lst ([] ++ [.ref p]))) l = some (.lst [.ref p]) := upd_same
      have hp3 : (upd H2 l (.lst ([] ++ [.ref p]))) p = some (.tup [.str "great", v]) := by
        rw [upd_ne (ne_of hp hl2 (by intro z; cases z))]
        exact hp
      have ha2 := gA a _ (by simp) ha
      have hd2 := gA d _ (by simp) hd
      generalize upd H2 l (.lst ([] ++ [.ref p])) = H3 at gA hl3 hp3 ha2 hd2 ⊢
      refine ⟨_, rfl, a, T.C_TooGreat, d, _, .ref T.C_Nothing, _, _, rfl, T.is_TooGreat, ha2, hd2, (fun u z => z), T.kit_TooGreat_Nothing, _, rfl, iteF ?_⟩
      refine ⟨_, rfl, l, _, rfl, .inl (sq_lst hl3), rfl, _, rfl, iteT ?_⟩
      exact ⟨_, rfl, l, _, _, .ref p, rfl, rfl, sq_lst hl3, atI_nat (j := 0) rfl, q p _ gA hp3⟩
    · obtain ⟨rfl, rfl, rfl⟩ := hc
      refine ⟨Nat.zero_le _, fun l nl => ?_⟩
      have gl : Gr [] H (upd H l (.lst [])) := Gr.new nl
      have hl : (upd H l (.lst [])) l = some (.lst []) := upd_same
      have ha1 := gl a _ (by simp) ha
      have hd1 := gl d _ (by simp) hd
      have nl0 : H l = none := nl
      generalize upd H l (.lst []) = H1 at gl hl ha1 hd1 ⊢
      refine ⟨_, rfl, a, T.C_Nothing, d, _, .ref T.C_BadBase, _, _, rfl, T.is_Nothing, ha1, hd1, (fun u z => z), T.kit_Nothing_BadBase, _, rfl, iteF ?_⟩
      refine ⟨_, rfl, a, T.C_Nothing, d, _, .ref T.C_BadDenominator, _, _, rfl, T.is_Nothing, ha1, hd1, (fun u z => z), T.kit_Nothing_BadDenominator, _, rfl, iteF ?_⟩
      refine ⟨_, rfl, a, T.C_Nothing, d, _, .ref T.C_BadFraction, _, _, rfl, T.is_Nothing, ha1, hd1, (fun u z => z), T.kit_Nothing_BadFraction, _, rfl, iteF ?_⟩
      refine ⟨_, rfl, a, T.C_Nothing, d, _, .ref T.C_BadDigits, _, _, rfl, T.is_Nothing, ha1, hd1, (fun u z => z), T.kit_Nothing_BadDigits, _, rfl, iteF ?_⟩
      refine ⟨_, rfl, a, T.C_Nothing, d, _, .ref T.C_BadNumber, _, _, rfl, T.is_Nothing, ha1, hd1, (fun u z => z), T.kit_Nothing_BadNumber, _, rfl, iteF ?_⟩
      refine ⟨_, rfl, a, T.C_Nothing, d, _, .ref T.C_BadPaper, _, _, rfl, T.is_Nothing, ha1, hd1, (fun u z => z), T.kit_Nothing_BadPaper, _, rfl, iteF ?_⟩
      refine ⟨_, rfl, a, T.C_Nothing, d, _, .ref T.C_BadText, _, _, rfl, T.is_Nothing, ha1, hd1, (fun u z => z), T.kit_Nothing_BadText, _, rfl, iteF ?_⟩
      refine ⟨_, rfl, a, T.C_Nothing, d, _, .ref T.C_TooGreat, _, _, rfl, T.is_Nothing, ha1, hd1, (fun u z => z), T.kit_Nothing_TooGreat, _, rfl, iteF ?_⟩
      refine ⟨_, rfl, a, T.C_Nothing, d, _, .ref T.C_Nothing, _, _, rfl, T.is_Nothing, ha1, hd1, (fun u z => z), T.kit_Nothing_Nothing, _, rfl, iteT ?_⟩
      refine ⟨_, rfl, .inl ⟨rfl, _, sq_lst hl⟩, _, rfl, a, T.C_Nothing, d, _, v, rfl, T.T_Nothing.xf, T.T_Nothing.no, ha1, hd1, lookup_one _ _, ?_⟩
      refine ⟨by show 2 ≤ sizeLine; decide, fun p np => ?_⟩
      have g2 : Gr [] H1 (upd H1 p (.tup [.str "nothing", v])) := Gr.new np
      have hp := upd_same (H := H1) (a := p) (o := .tup [.str "nothing", v])
      have hl2 := g2 l _ (by simp) hl
      have ha2 := g2 a _ (by simp) ha1
      have hd2 := g2 d _ (by simp) hd1
      generalize upd H1 p (.tup [.str "nothing", v]) = H2 at g2 hp hl2 ha2 hd2 ⊢
      refine ⟨l, _, _, rfl, rfl, hl2, by show 0 < sizeLine; decide, ?_⟩
      have gA : Gr [] H (upd H2 l (.lst ([] ++ [.ref p]))) := fun u o _ e => by
        rw [upd_ne (ne_of_none e nl0)]
        exact g2 u o (by simp) (gl u o (by simp) e)
      have hl3 : (upd H2 l (.lst ([] ++ [.ref p]))) l = some (.lst [.ref p]) := upd_same
      have hp3 : (upd H2 l (.lst ([] ++ [.ref p]))) p = some (.tup [.str "nothing", v]) := by
        rw [upd_ne (ne_of hp hl2 (by intro z; cases z))]
        exact hp
      have ha2 := gA a _ (by simp) ha
      have hd2 := gA d _ (by simp) hd
      generalize upd H2 l (.lst ([] ++ [.ref p])) = H3 at gA hl3 hp3 ha2 hd2 ⊢
      refine ⟨_, rfl, l, _, rfl, .inl (sq_lst hl3), rfl, _, rfl, iteT ?_⟩
      exact ⟨_, rfl, l, _, _, .ref p, rfl, rfl, sq_lst hl3, atI_nat (j := 0) rfl, q p _ gA hp3⟩

/-- what comes of _law_outcome(lambda: e) -/
abbrev TTout (T : Txt K mg) : (XK → Hp → VK → Prop) → Hp → VK → Prop := TTg (errs T)
theorem exm_ok (T : Txt K mg) {C : Addr} {f w : Str} (h : (C, f, w) ∈ errs T) : PySem.W.exmAny K (.ref C) [.ref T.C_WheelError, .ref T.C_Nothing, .ref T.C_TooGreat] = some true := by
  unfold errs at h
  simp only [List.mem_cons, List.not_mem_nil, or_false, Prod.mk.injEq] at h
  rcases h with ⟨rfl, _, _⟩ | ⟨rfl, _, _⟩ | ⟨rfl, _, _⟩ | ⟨rfl, _, _⟩ | ⟨rfl, _, _⟩
  · exact T.exm_BadBase
  · exact T.exm_BadFraction
  · exact T.exm_BadText
  · exact T.exm_TooGreat
  · exact T.exm_Nothing
theorem gives_out {X : Cx} (T : Txt K mg) (hK : X.K = K) (hm : X.mg = mg) {q : Str} : Gives X ["call", "found", "error", "e"] "_law_outcome" (defScope s_law_outcome) T.d_law_outcome.f T.d_law_outcome.fd.code (defBody s_law_outcome) "call" q (TTout T) := by
  subst hK hm
  intro f c' s H Q tl hr act hc h
  have hu := hu_of hr
  refine ⟨_, (pss_cons (ps_asg (pe_tup (pa_cons pe_non (pa_cons pe_non pa_nil))) (pg_tup (by rfl) (pgs_cons (pg_name (i := 1) sc_law_outcome.nd rfl (by first | exact .inl rfl | exact .inr rfl)) (pgs_cons (pg_name (i := 2) sc_law_outcome.nd rfl (by first | exact .inl rfl | exact .inr rfl)) pgs_nil))))
      (pss_cons (ps_try_keep (i := 3) (j := 2) rfl rfl sc_law_outcome.nd rfl rfl (by decide) rfl rfl (names3 T rfl rfl rfl rfl) (fun W pn xe tk _ => pss_one (ps_set (i := 1) sc_law_outcome.nd rfl (by first | exact .inl rfl | exact .inr rfl) (act W pn xe _ _ tk))))
      (pss_one (ps_ret (pe_ifExp (pt_cmpR op_isN (pv 2) pe_non (nomark _)) (pe_lst (pa_cons (pv 1) pa_nil)) (pe_call (ok_law_word T) (hr.mono (by decide)) (by rfl) T.d_law_word.m T.d_law_word.F.kp T.d_law_word.b .nil pass0 (pa_cons (pv 2) pa_nil))))))), ?_⟩
  refine ⟨by show 2 ≤ sizeLine; decide, fun p np => ?_⟩
  refine ⟨p, _, rfl, sq_tup upd_same, rfl, _, _, rfl, _, _, rfl, rfl, ?_⟩
  have g1 : Gr [] H (upd H p (.tup [.non, .non])) := Gr.new np
  generalize upd H p (.tup [.non, .non]) = H1 at g1 ⊢
  refine ⟨rfl, g1 c' _ (by simp) hc, fun cls d H3 => ∃ (C dd : Addr) (f w : Str) (v : V), cls = .ref C ∧ d = some dd ∧ (C, f, w) ∈ errs T ∧ H3 dd = some (.xd [(f, v)]) ∧ ∀ t H4, Gr [] H3 H4 → H4 t = some (.tup [.str w, v]) → Q (.ref t) H4, ?_, ?_⟩
  · rintro cls d H3 ⟨C, dd, f, w, v, rfl, rfl, he, hx, k⟩
    refine ⟨exm_ok T he, fun a na => ?_⟩
    refine ⟨_, rfl, rfl, _, rfl, iteFb (decide_eq_false (by intro z; cases z)) ?_⟩
    refine ⟨_, rfl, a, C, dd, f, w, v, rfl, he, upd_same, ?_, fun t H4 g4 h4 => k t H4 ((Gr.new na).trans g4) h4⟩
    rw [upd_ne (ne_of_none hx na)]
    exact hx
  · refine h H1 _ _ g1 (fun v H3 k => ?_) (fun C d f w v H3 he hx k => ⟨C, d, f, w, v, rfl, rfl, he, hx, k⟩)
    refine ⟨_, rfl, rfl, _, rfl, iteTb rfl ?_⟩
    exact ⟨_, rfl, by show 1 ≤ sizeLine; decide, fun l nl => k l nl⟩

end
end Wn
namespace Wn
open PySem PySem.Spec PyProof.Rows L2
open LamX (Tabs ExtN tLam)
local macro_rules | `(tactic| walk_at "vc") => `(tactic| simp only [cxK, cxK2, start1, start2, start3, tRet, tRetN, tSeq, tNext, tIfS, tAsg, gName, tDrop, tVar, tC, tOp, tUn, tTest, tB, tNot, tAnd, tOr, tAndV, tOrV, tNotV, tIf, tCons, tNil, tCB, tCall, tChain, tAug, ipI, rI, rI0, rU, rIs, rGcd, rEq, rNe, scal,
  List.getElem?_cons_zero, List.getElem?_cons_succ, List.set_cons_zero, List.set_cons_succ, Option.some.injEq, List.cons.injEq, V.int.injEq, V.bl.injEq, V.ref.injEq, V.str.injEq, and_true, true_and, exists_eq_left, exists_eq_left', exists_and_left, exists_and_right, List.append_nil, List.nil_append, List.cons_append, exists_eq_right, exists_eq_right', and_assoc, exists_const, V.ty.injEq, ↓reduceIte, Bool.false_eq_true, Bool.not_true, Bool.not_false, decide_eq_true_eq])

section
variable {P : Program} {w : World} {K : PySem.W.Frag} {mg : Str → Option Value} {base : Heap}

def PF (b x n : Nat) : Prop := BN b n ∧ x < n ∧ Nat.gcd x n = 1 ∧ Nat.gcd b n = 1
def sp_need_pure_fraction : Sp := fun vs H Q _ => ∃ (b x n : Nat) (a : Addr), vs = [.int b, .ref a] ∧ H a = some (.tup [.int x, .int n]) ∧ PF b x n ∧ Q (.ref a) H

def sp_piece_size : Sp := fun vs H Q _ => ∃ b n L c : Nat, vs = [.int b, .int n, .int c] ∧ BN b n ∧ Nat.gcd b n = 1 ∧ IsPer b n L ∧ (2 ≤ c ∧ c ∣ L) ∧ Q (.int (L / c : Nat)) H

def sp_number_of : Sp := fun vs H Q _ => ∃ (b : Nat) (t : Addr) (ds : List Nat), vs = [.int b, .ref t] ∧ H t = some (.tup (vn ds)) ∧ b ≤ 1000 ∧ Q (.int (wrt b ds : Nat)) H
theorem wrt_step {b : Nat} {ds : List Nat} {i : Nat} (hi : i < ds.length) : wrt b (ds.take (i + 1)) = wrt b (ds.take i) * b + ds[i] := by
  rw [List.take_succ_eq_append_getElem hi, wrt_snoc]
theorem ok_number_of (T : Txt K mg) : FnOk P w K mg base CX0 1 T.d_number_of.f T.d_number_of.fd ["base", "row"] sp_number_of := by
  refine T.d_number_of.F.ok sc_number_of (fun vs H Q E h => ?_) (fun cdv A outer s H vs Q E hr h => ?_)
  · obtain ⟨b, t, ds, rfl, _⟩ := h; rfl
  · have hu := hu_of hr
    refine ⟨_, (pss_cons (ps_set (i := 2) sc_number_of.nd rfl (by first | exact .inl rfl | exact .inr rfl) pe_int)
      (pss_cons (ps_for PassesOwn.never rfl (pi_tup (pv 1)) (pg_name (i := 3) sc_number_of.nd rfl (by first | exact .inl rfl | exact .inr rfl)) (pss_one (ps_set (i := 2) sc_number_of.nd rfl (by first | exact .inl rfl | exact .inr rfl) (pe_op op_add (pe_op op_mul (pv 2) (pv 0)) (pv 3)))))
      (pss_one (ps_ret (pv 2))))), ?_⟩
    obtain ⟨b, t, ds, rfl, ht, hb, q⟩ := h
    refine ⟨_, rfl, t, rfl, ⟨_, sq_tup ht⟩, ?_⟩
    refine for_tup (K := K) (a := t) (xs := vn ds) (fun i σ H' => H' = H ∧ ∃ v, σ = [some (.int b), some (.ref t), some (.int (wrt b (ds.take i) : Nat)), v]) ⟨rfl, none, ?_⟩ (fun i σ H' _ z => by rw [z.1]; exact sq_tup ht) ?_ ?_
    · rfl
    · rintro i y σ H' hy ⟨rfl, v, rfl⟩
      obtain ⟨hi, rfl⟩ := vn_get hy
      refine ⟨_, rfl, _, rfl, _, _, rfl, rfl, .inr ⟨by omega, by omega⟩, _, rfl, _, _, rfl, rfl, rfl, some (.int (ds[i] : Nat)), ?_⟩
      dsimp only
      rw [wrt_step hi, Int.natCast_add, Int.natCast_mul]
      rfl
    rintro σ H' ⟨rfl, v, rfl⟩
    rw [List.take_of_length_le (by rw [vn_len]; exact Nat.le_refl _)]
    exact ⟨_, rfl, q⟩
theorem ok_law_worth (T : Txt K mg) : FnOk P w K mg base CX0 1 T.d_law_worth.f T.d_law_worth.fd ["b", "figs"] sp_number_of := by
  refine T.d_law_worth.F.ok sc_law_worth (fun vs H Q E h => ?_) (fun cdv A outer s H vs Q E hr h => ?_)
  · obtain ⟨b, t, ds, rfl, _⟩ := h; rfl
  · have hu := hu_of hr
    refine ⟨_, (pss_cons (ps_set (i := 2) sc_law_worth.nd rfl (by first | exact .inl rfl | exact .inr rfl) pe_int)
      (pss_cons (ps_for PassesOwn.never rfl (pi_tup (pv 1)) (pg_name (i := 3) sc_law_worth.nd rfl (by first | exact .inl rfl | exact .inr rfl)) (pss_one (ps_set (i := 2) sc_law_worth.nd rfl (by first | exact .inl rfl | exact .inr rfl) (pe_op op_add (pe_op op_mul (pv 2) (pv 0)) (pv 3)))))
      (pss_one (ps_ret (pv 2))))), ?_⟩
    obtain ⟨b, t, ds, rfl, ht, hb, q⟩ := h
    refine ⟨_, rfl, t, rfl, ⟨_, sq_tup ht⟩, ?_⟩
    refine for_tup (K := K) (a := t) (xs := vn ds) (fun i σ H' => H' = H ∧ ∃ v, σ = [some (.int b), some (.ref t), some (.int (wrt b (ds.take i) : Nat)), v]) ⟨rfl, none, ?_⟩ (fun i σ H' _ z => by rw [z.1]; exact sq_tup ht) ?_ ?_
    · rfl
    · rintro i y σ H' hy ⟨rfl, v, rfl⟩
      obtain ⟨hi, rfl⟩ := vn_get hy
      refine ⟨_, rfl, _, rfl, _, _, rfl, rfl, .inr ⟨by omega, by omega⟩, _, rfl, _, _, rfl, rfl, rfl, some (.int (ds[i] : Nat)), ?_⟩
      dsimp only
      rw [wrt_step hi, Int.natCast_add, Int.natCast_mul]
      rfl
    rintro σ H' ⟨rfl, v, rfl⟩
    rw [List.take_of_length_le (by rw [vn_len]; exact Nat.le_refl _)]
    exact ⟨_, rfl, q⟩

theorem dgf_vn (b n x lo c : Nat) : dgf b n x lo c = vn (dg b n x lo c) := by
  unfold dgf vn dg
  rw [List.map_map]
  rfl
theorem dg_cut {b n x L lo hi : Nat} (h1 : lo ≤ hi) (h2 : hi ≤ L) : cutV (vn (dg b n x 0 L)) (some (lo : Int)) (some (hi : Int)) = vn (dg b n x lo (hi - lo)) := by
  unfold cutV
  rw [HT.sIx_nat, HT.sIx_nat, vn_len, dg_len, Nat.min_eq_left h2, Nat.min_eq_left (Nat.le_trans h1 h2)]
  unfold vn dg
  rw [← List.map_drop, ← List.map_take, ← List.map_drop, ← List.map_take]
  rw [List.map_map, List.map_map]
  apply List.ext_getElem
  · simp
    omega
  · intro i i1 i2
    simp
theorem par_pure {b n p q h L : Nat} (hn : 1 ≤ n) (hg : Nat.gcd b n = 1) (P : Par b n p q h L) : p = n ∧ h = 0 := by
  have ep := P.hp.uniq (IsPure.self hg)
  subst ep
  have eq1 : q = 1 := by
    have := P.e
    have : p * 1 = p * q := by omega
    exact (Nat.eq_of_mul_eq_mul_left (by omega) this).symm
  subst eq1
  exact ⟨rfl, P.hh.uniq ⟨Nat.mod_one _, fun j hj => absurd hj (Nat.not_lt_zero _)⟩⟩
def CT (b n L k c : Nat) : Prop := IsPer b n L ∧ 2 ≤ c ∧ 1 ≤ k ∧ L = k * c
theorem CT.d {b n L k c : Nat} (h : CT b n L k c) : c ∣ L ∧ L / c = k := by
  obtain ⟨h1, h2, h3, h4⟩ := h
  exact ⟨⟨k, by rw [h4, Nat.mul_comm]⟩, by rw [h4]; exact Nat.mul_div_cancel _ (by omega)⟩
def sp_pieces : Sp := fun vs H Q _ => ∃ (b x n L k c : Nat) (a : Addr), vs = [.int b, .ref a, .int c] ∧ H a = some (.tup [.int x, .int n]) ∧ PF b x n ∧ CT b n L k c ∧
  ∀ t H', Gr [] H H' → H' t = some (.tup (vn (pcs b n x k c))) → Q (.ref t) H'

def qv (b n x k c : Nat) : V := if restSum b n x k c % n = 0 then .int (restSum b n x k c / n : Nat) else .non
def sp_quotient : Sp := fun vs H Q _ => ∃ (b x n L k c : Nat) (a : Addr), vs = [.int b, .ref a, .int c] ∧ H a = some (.tup [.int x, .int n]) ∧ PF b x n ∧ CT b n L k c ∧
  ∀ H', Gr [] H H' → Q (qv b n x k c) H'

def sp_law_power : Sp := fun vs H Q _ => ∃ b k : Nat, vs = [.int b, .int k] ∧ (b ≤ 1000 ∧ k ≤ 100000) ∧ Q (.int (b ^ k : Nat)) H

def sp_are_digits : Sp := fun vs H Q _ => ∃ (a : Addr) (b lo : Nat) (ds : List Nat), vs = [.int b, .ref a, .int lo] ∧ H a = some (.tup (vn ds)) ∧ (∀ d ∈ ds, d < b) ∧ (lo ≤ ds.length ∧ ds.length ≤ 400) ∧ ∀ H', Gr [] H H' → Q (.bl true) H'
theorem ok_are_digits (T : Txt K mg) : FnOk P w K mg base CX0 3 T.d_are_digits.f T.d_are_digits.fd ["base", "value", "least"] sp_are_digits := by
  refine T.d_are_digits.F.ok sc_are_digits (fun vs H Q E h => ?_) (fun cdv A outer s H vs Q E hr h => ?_)
  · obtain ⟨a, b, lo, ds, rfl, _⟩ := h; rfl
  · have hu := hu_of hr
    refine ⟨_, (pss_cons (ps_if (PW.pt (pw_or (pt_not (pt_val (pe_callB (r := rIs K) call_is (by rfl) T.b_isinstance (by decide +kernel) (pa_cons (pv 1) (pa_cons (pe_bltn (v := .ty "tuple") (by rfl) T.b_tuple (by decide +kernel) rfl) pa_nil))))) (pw_or1 (pt_not (pt_chain op_le op_le (pv 2) (pe_callB (r := rLn K) call_ln (by rfl) T.b_len PySem.boot_len (pa_cons (pv 1) pa_nil)) (pe_glob (v := .int 400) (by rfl) T.c_MOST_DIGITS ⟨_, rfl⟩)))))) (pss_one (ps_ret pe_bl)) pss_nil)
      (pss_one (ps_ret (pe_callB (r := rAll K) (cr_all rfl) (by rfl) T.b_all (by decide +kernel) (pa_cons (pe_lc (own := [("digit", 3)]) (g := gName 3) (tt := tYes) rfl sc_are_digits.nd (pi_tup (pv 1)) (blkOk_by (own := [("digit", 3)]) (N := ["base", "value", "least", "digit"]) (sc := defScope s_are_digits) (by decide +kernel)) (fun _ _ _ _ _ => (pg_name (i := 3) sc_are_digits.nd rfl (by first | exact .inl rfl | exact .inr rfl))) (fun _ _ _ _ _ => pts_nil) (fun _ _ _ _ _ => (pe_call (ok_is_within T) (hr.mono (by decide)) (by rfl) T.d_is_within.m T.d_is_within.F.kp T.d_is_within.b .nil pass0 (pa_cons (pv 3) (pa_cons pe_int (pa_cons (pe_op op_sub (pv 0) pe_int) pa_nil)))))) pa_nil))))), ?_⟩
    obtain ⟨a, b, lo, ds, rfl, ha, hds, ⟨h1, h2⟩, q⟩ := h
    refine ⟨_, rfl, _, "tuple", rfl, "tuple", ⟨ty_tup ha, by decide, by decide⟩, true, rfl, ?_⟩
    refine iteF ⟨_, rfl, _, rfl, a, _, rfl, .inr (sq_tup ha), ?_⟩
    rw [vn_len]
    refine ⟨_, _, rfl, rfl, _, rfl, iteTb (decide_eq_true (by omega)) ⟨_, _, rfl, rfl, _, rfl, iteFb ?_ ?_⟩⟩
    · rw [decide_eq_true (show (ds.length : Int) ≤ 400 by omega)]
      rfl
    refine ⟨_, rfl, a, rfl, ⟨_, sq_tup ha⟩, fun D nD => ?_⟩
    refine lc_tup (K := K) (a := a) (xs := vn ds) (fun j H2 => Gr [] H H2 ∧ H2 D = some (.lst ((List.replicate j true).map V.bl))) ⟨Gr.new nD, upd_same⟩ (fun i H2 _ z => sq_tup (z.1 a _ (by simp) ha)) ?_ ?_
    · rintro j y H2 hy ⟨G2, hD⟩
      obtain ⟨hj, rfl⟩ := vn_get hy
      have hk := hds _ (List.getElem_mem hj)
      refine ⟨rfl, ?_⟩
      dsimp only [tYes]
      refine iteT ⟨_, rfl, _, rfl, _, 1, rfl, rfl, _, _, _, rfl, ⟨by omega, by omega⟩, _, hD, ?_, ?_, ?_⟩
      · rw [List.length_map, List.length_replicate]
        exact Nat.lt_of_lt_of_le (show j < 6000 by omega) (by decide)
      · intro u o _ e
        rw [upd_ne (ne_of_none e nD)]
        exact G2 u o (by simp) e
      · rw [upd_same, List.replicate_succ', List.map_append]
        rfl
    rintro H2 ⟨G2, hD⟩
    refine ⟨D, _, rfl, sq_lst hD, ?_⟩
    have e : (List.replicate (vn ds).length true).all id = true := by
      rw [List.all_eq_true]
      intro x hx
      rw [List.eq_of_mem_replicate hx]
      rfl
    rw [e]
    exact q _ G2

def sp_need_digits : Sp := fun vs H Q _ => ∃ (a : Addr) (b : Nat) (ds : List Nat), vs = [.int b, .ref a] ∧ H a = some (.tup (vn ds)) ∧ (2 ≤ b ∧ b ≤ 1000) ∧ (∀ d ∈ ds, d < b) ∧ (1 ≤ ds.length ∧ ds.length ≤ 400) ∧ ∀ H', Gr [] H H' → Q (.ref a) H'
theorem ok_need_digits (T : Txt K mg) : FnOk P w K mg base CX0 4 T.d_need_digits.f T.d_need_digits.fd ["base", "value"] sp_need_digits := by
  refine T.d_need_digits.F.ok sc_need_digits (fun vs H Q E h => ?_) (fun cdv A outer s H vs Q E hr h => ?_)
  · obtain ⟨a, b, ds, rfl, _⟩ := h; rfl
  · have hu := hu_of hr
    refine ⟨_, (pss_cons (ps_expr (pe_call (ok_need_base T) (hr.mono (by decide)) (by rfl) T.d_need_base.m T.d_need_base.F.kp T.d_need_base.b .nil pass0 (pa_cons (pv 0) pa_nil)))
      (pss_cons (ps_if (pt_not (pt_val (pe_call (ok_are_digits T) (hr.mono (by decide)) (by rfl) T.d_are_digits.m T.d_are_digits.F.kp T.d_are_digits.b .nil pass0 (pa_cons (pv 0) (pa_cons (pv 1) (pa_cons pe_int pa_nil)))))) (pss_one ps_never) pss_nil)
      (pss_one (ps_ret (pv 1))))), ?_⟩
    obtain ⟨a, b, ds, rfl, ha, ⟨hb1, hb2⟩, hds, ⟨h1, h2⟩, q⟩ := h
    refine ⟨_, rfl, b, rfl, ⟨by omega, by omega⟩, ?_⟩
    refine ⟨_, rfl, _, rfl, a, b, 1, ds, rfl, ha, hds, ⟨h1, h2⟩, fun H1 g1 => ⟨_, rfl, iteF ?_⟩⟩
    exact ⟨_, rfl, q _ g1⟩

def sp_rotated : Sp := fun vs H Q _ => ∃ (a : Addr) (b by_ : Nat) (ds : List Nat), vs = [.int b, .ref a, .int by_] ∧ H a = some (.tup (vn ds)) ∧ (2 ≤ b ∧ b ≤ 1000) ∧ (∀ d ∈ ds, d < b) ∧ (1 ≤ ds.length ∧ ds.length ≤ 400) ∧ by_ ≤ 10 ^ 30 ∧ ∀ t H', Gr [] H H' → H' t = some (.tup (vn (rotL ds (by_ % ds.length)))) → Q (.ref t) H'
theorem vn_drop (ds : List Nat) (k : Nat) : (vn ds).drop k = vn (ds.drop k) := by
  unfold vn
  rw [List.map_drop]
theorem vn_take (ds : List Nat) (k : Nat) : (vn ds).take k = vn (ds.take k) := by
  unfold vn
  rw [List.map_take]
theorem vn_app (xs ys : List Nat) : vn xs ++ vn ys = vn (xs ++ ys) := by
  unfold vn
  rw [List.map_append]
theorem vn_nil {xs : List Nat} (h : vn xs = []) : xs = [] := List.map_eq_nil_iff.mp h

def sp_law_turned : Sp := fun vs H Q _ => ∃ (a : Addr) (by_ : Nat) (ds : List Nat), vs = [.ref a, .int by_] ∧ H a = some (.tup (vn ds)) ∧ (1 ≤ ds.length ∧ ds.length ≤ 5000) ∧ ∀ t H', Gr [] H H' → H' t = some (.tup (vn (rotL ds (by_ % ds.length)))) → Q (.ref t) H'

def DG (b : Nat) (ds : List Nat) : Prop := (2 ≤ b ∧ b ≤ 1000) ∧ (∀ d ∈ ds, d < b) ∧ (1 ≤ ds.length ∧ ds.length ≤ 400)
def sp_value_of : Sp := fun vs H Q _ => ∃ (a : Addr) (b : Nat) (ds : List Nat), vs = [.int b, .ref a] ∧ H a = some (.tup (vn ds)) ∧ DG b ds ∧ ∀ H', Gr [] H H' → Q (.int (wrt b ds : Nat)) H'
theorem pow_bits {b k : Nat} (hb : b ≤ 1000) : b ^ k < 2 ^ (10 * k + 1) := by
  refine Nat.lt_of_le_of_lt (Nat.pow_le_pow_left (show b ≤ 2 ^ 10 by omega) k) ?_
  rw [← Nat.pow_mul]
  exact Nat.pow_lt_pow_right (by decide) (by omega)
theorem wrt_bits {b : Nat} {ds : List Nat} (hb : b ≤ 1000) (h : ∀ d ∈ ds, d < b) : wrt b ds < 2 ^ (10 * ds.length + 1) := Nat.lt_trans (wrt_lt h) (pow_bits hb)
theorem catA_of {K : PySem.W.Frag} {H : Hp} {p1 p2 : Addr} {xs ys : List V} {Q : VK} (h1 : H p1 = some (.tup xs)) (h2 : H p2 = some (.tup ys)) (hz : xs.length + ys.length ≤ 6000) (q : ∀ p H', Gr [] H H' → H' p = some (.tup (xs ++ ys)) → Q (.ref p) H') : rCatA K (.ref p1) (.ref p2) H Q :=
  ⟨p1, p2, xs, ys, rfl, rfl, sq_tup h1, sq_tup h2, Nat.le_trans hz (by decide), fun z => q p2 H (Gr.refl _ _) (by rw [z]; exact h2), fun _ z => q p1 H (Gr.refl _ _) (by rw [z, List.append_nil]; exact h1), fun _ _ p np => q p _ (Gr.new np) upd_same⟩
theorem ok_power (T : Txt K mg) : FnOk P w K mg base CX0 1 T.d_power.f T.d_power.fd ["number", "exponent"] sp_law_power := by
  refine T.d_power.F.ok sc_power (fun vs H Q E h => ?_) (fun cdv A outer s H vs Q E hr h => ?_)
  · obtain ⟨b, k, rfl, _⟩ := h; rfl
  · have hu := hu_of hr
    refine ⟨_, (pss_cons (ps_set (i := 2) sc_power.nd rfl (by first | exact .inl rfl | exact .inr rfl) pe_int)
      (pss_cons (ps_for PassesOwn.never rfl (pi_range1 (by rfl) T.b_range (pa_cons (pv 1) pa_nil)) (pg_name (i := 3) sc_power.nd rfl (by first | exact .inl rfl | exact .inr rfl)) (pss_one (ps_set (i := 2) sc_power.nd rfl (by first | exact .inl rfl | exact .inr rfl) (pe_op op_mul (pv 2) (pv 0)))))
      (pss_one (ps_ret (pv 2))))), ?_⟩
    obtain ⟨b, k, rfl, ⟨hb, hk⟩, q⟩ := h
    refine ⟨_, rfl, (k : Int), rfl, by omega, by omega, ?_⟩
    refine for_range (lo := 0) (n := ((k : Int)).toNat) (fun i σ H' => H' = H ∧ ∃ v, σ = [some (.int b), some (.int k), some (.int (b ^ i : Nat)), v]) ⟨rfl, none, ?_⟩ ?_ ?_
    · rfl
    · rintro i σ H' hi ⟨rfl, v, rfl⟩
      refine ⟨_, rfl, _, rfl, _, _, rfl, rfl, .inr ⟨by omega, by omega⟩, rfl, some (.int (0 + (i : Int))), ?_⟩
      dsimp only
      rw [Nat.pow_succ, Int.natCast_mul]
      rfl
    rintro σ H' ⟨rfl, v, rfl⟩
    rw [Int.toNat_natCast]
    exact ⟨_, rfl, q⟩
theorem ok_law_power (T : Txt K mg) : FnOk P w K mg base CX0 1 T.d_law_power.f T.d_law_power.fd ["b", "many"] sp_law_power := by
  refine T.d_law_power.F.ok sc_law_power (fun vs H Q E h => ?_) (fun cdv A outer s H vs Q E hr h => ?_)
  · obtain ⟨b, k, rfl, _⟩ := h; rfl
  · have hu := hu_of hr
    refine ⟨_, (pss_cons (ps_set (i := 2) sc_law_power.nd rfl (by first | exact .inl rfl | exact .inr rfl) pe_int)
      (pss_cons (ps_for PassesOwn.never rfl (pi_range1 (by rfl) T.b_range (pa_cons (pv 1) pa_nil)) (pg_name (i := 3) sc_law_power.nd rfl (by first | exact .inl rfl | exact .inr rfl)) (pss_one (ps_set (i := 2) sc_law_power.nd rfl (by first | exact .inl rfl | exact .inr rfl) (pe_op op_mul (pv 2) (pv 0)))))
      (pss_one (ps_ret (pv 2))))), ?_⟩
    obtain ⟨b, k, rfl, ⟨hb, hk⟩, q⟩ := h
    refine ⟨_, rfl, (k : Int), rfl, by omega, by omega, ?_⟩
    refine for_range (lo := 0) (n := ((k : Int)).toNat) (fun i σ H' => H' = H ∧ ∃ v, σ = [some (.int b), some (.int k), some (.int (b ^ i : Nat)), v]) ⟨rfl, none, ?_⟩ ?_ ?_
    · rfl
    · rintro i σ H' hi ⟨rfl, v, rfl⟩
      refine ⟨_, rfl, _, rfl, _, _, rfl, rfl, .inr ⟨by omega, by omega⟩, rfl, some (.int (0 + (i : Int))), ?_⟩
      dsimp only
      rw [Nat.pow_succ, Int.natCast_mul]
      rfl
    rintro σ H' ⟨rfl, v, rfl⟩
    rw [Int.toNat_natCast]
    exact ⟨_, rfl, q⟩

def DH (b : Nat) (ds : List Nat) : Prop := (∀ d ∈ ds, d < b) ∧ ds.length ≤ 400
/-- the fraction in lowest terms -/
def frF (b : Nat) (h g : List Nat) : Nat × Nat := (frN b h g / Nat.gcd (frN b h g) (frD b h g), frD b h g / Nat.gcd (frN b h g) (frD b h g))
def sp_fraction_ofX (T : Txt K mg) : Sp := fun vs H Q E => ∃ (a c : Addr) (b : Nat) (h g : List Nat), vs = [.int b, .ref a, .ref c] ∧ H a = some (.tup (vn h)) ∧ H c = some (.tup (vn g)) ∧ DH b h ∧ DG b g ∧
  (frN b h g = frD b h g → ∀ H1 d, Gr [] H H1 → H1 d = none → E (.ref T.C_Nothing) (some d) (upd H1 d (.xd [("value", .ref c)]))) ∧
  (frN b h g ≠ frD b h g → 5000 < (frF b h g).2 → ∀ H1 d, Gr [] H H1 → H1 d = none → E (.ref T.C_TooGreat) (some d) (upd H1 d (.xd [("most", .int 5000)]))) ∧
  (frN b h g ≠ frD b h g → (frF b h g).2 ≤ 5000 → ∀ t H', Gr [] H H' → H' t = some (.tup [.int ((frF b h g).1 : Nat), .int ((frF b h g).2 : Nat)]) → Q (.ref t) H')
theorem nines_cast {b k : Nat} (hb : 2 ≤ b) : ((b ^ k : Nat) : Int) - 1 = ((b ^ k - 1 : Nat) : Int) := by
  have : 1 ≤ b ^ k := Nat.pow_pos (by omega)
  omega
theorem pow4 {b k : Nat} (hb : b ≤ 1000) (hk : k ≤ 400) : b ^ k < 2 ^ 4001 := Nat.lt_of_lt_of_le (pow_bits hb) (Nat.pow_le_pow_right (by decide) (by omega))
theorem frD_bits {b : Nat} {h g : List Nat} (hb : b ≤ 1000) (h1 : h.length ≤ 400) (h2 : g.length ≤ 400) : frD b h g < 2 ^ 8002 := by
  have a1 := pow4 hb h1
  have a2 := pow4 (k := g.length) hb h2
  have : frD b h g ≤ b ^ h.length * b ^ g.length := Nat.mul_le_mul_left _ (Nat.sub_le _ _)
  refine Nat.lt_of_le_of_lt this ?_
  rw [show 8002 = 4001 + 4001 from rfl, Nat.pow_add]
  exact Nat.mul_lt_mul'' a1 a2
theorem frF_den {b : Nat} {h g : List Nat} (hb : 2 ≤ b) (hg : 1 ≤ g.length) : 1 ≤ Nat.gcd (frN b h g) (frD b h g) ∧ Nat.gcd (frN b h g) (frD b h g) ≤ frD b h g :=
  ⟨Nat.gcd_pos_of_pos_right _ (frD_pos hb hg), Nat.le_of_dvd (frD_pos hb hg) (Nat.gcd_dvd_right _ _)⟩
theorem okX_fraction_of (T : Txt K mg) : FnOk P w K mg base (L2.CX P w) 6 T.d_fraction_of.f T.d_fraction_of.fd ["base", "head", "digits"] (sp_fraction_ofX T) := by
  refine T.d_fraction_of.F.okX sc_fraction_of (fun vs H Q E h => ?_) (fun cdv A outer s H vs Q E hr h => ?_)
  · obtain ⟨a, c, b, h, g, rfl, _⟩ := h; rfl
  · have hu := hu_of hr
    refine ⟨_, (pss_cons (ps_expr (pe_call (ok_need_base T) (hr.mono (by decide)) (by rfl) T.d_need_base.m T.d_need_base.F.kp T.d_need_base.b .nil pass0 (pa_cons (pv 0) pa_nil)))
      (pss_cons (ps_if (pt_not (pt_val (pe_call (ok_are_digits T) (hr.mono (by decide)) (by rfl) T.d_are_digits.m T.d_are_digits.F.kp T.d_are_digits.b .nil pass0 (pa_cons (pv 0) (pa_cons (pv 1) (pa_cons pe_int pa_nil)))))) (PSs.nox (pss_one ps_never)) pss_nil)
      (pss_cons (ps_expr (pe_call (ok_need_digits T) (hr.mono (by decide)) (by rfl) T.d_need_digits.m T.d_need_digits.F.kp T.d_need_digits.b .nil pass0 (pa_cons (pv 0) (pa_cons (pv 2) pa_nil))))
      (pss_cons (ps_set (i := 3) sc_fraction_of.nd rfl (by first | exact .inl rfl | exact .inr rfl) (pe_op op_sub (pe_call (ok_power T) (hr.mono (by decide)) (by rfl) T.d_power.m T.d_power.F.kp T.d_power.b .nil pass0 (pa_cons (pv 0) (pa_cons (pe_callB (r := rLn K) call_ln (by rfl) T.b_len PySem.boot_len (pa_cons (pv 2) pa_nil)) pa_nil))) pe_int))
      (pss_cons (ps_set (i := 4) sc_fraction_of.nd rfl (by first | exact .inl rfl | exact .inr rfl) (pe_op op_add (pe_op op_mulW (pe_call (ok_number_of T) (hr.mono (by decide)) (by rfl) T.d_number_of.m T.d_number_of.F.kp T.d_number_of.b .nil pass0 (pa_cons (pv 0) (pa_cons (pv 1) pa_nil))) (pv 3)) (pe_call (ok_number_of T) (hr.mono (by decide)) (by rfl) T.d_number_of.m T.d_number_of.F.kp T.d_number_of.b .nil pass0 (pa_cons (pv 0) (pa_cons (pv 2) pa_nil)))))
      (pss_cons (ps_set (i := 5) sc_fraction_of.nd rfl (by first | exact .inl rfl | exact .inr rfl) (pe_op op_mulW (pe_call (ok_power T) (hr.mono (by decide)) (by rfl) T.d_power.m T.d_power.F.kp T.d_power.b .nil pass0 (pa_cons (pv 0) (pa_cons (pe_callB (r := rLn K) call_ln (by rfl) T.b_len PySem.boot_len (pa_cons (pv 1) pa_nil)) pa_nil))) (pv 3)))
      (pss_cons (ps_if (pt_cmpR op_eq (pv 4) (pv 5) (nomark _)) (pss_one (ps_raise rfl (takes_of rfl rfl rfl rfl) (pmkE T.T_Nothing (ok_init_Nothing T) (hr.mono (by decide)) T.b_Nothing pass0 (by rfl) T.g_Nothing (pa_cons (pv 2) pa_nil)))) pss_nil)
      (pss_cons (ps_set (i := 6) sc_fraction_of.nd rfl (by first | exact .inl rfl | exact .inr rfl) (pe_callBfun cr_gcd (by rfl) T.b_gcd (pa_cons (pv 4) (pa_cons (pv 5) pa_nil))))
      (pss_cons (ps_if (pt_cmpR op_gt (pe_op op_fdivW (pv 5) (pv 6)) (pe_glob (v := .int 5000) (by rfl) T.c_MOST_DENOMINATOR ⟨_, rfl⟩) (nomark _)) (pss_one (ps_raise rfl (takes_of rfl rfl rfl rfl) (pmkE T.T_TooGreat (ok_init_TooGreat T) (hr.mono (by decide)) T.b_TooGreat pass0 (by rfl) T.g_TooGreat (pa_cons (pe_glob (v := .int 5000) (by rfl) T.c_MOST_DENOMINATOR ⟨_, rfl⟩) pa_nil)))) pss_nil)
      (PSs.nox (pss_one (ps_ret (pe_tup (pa_cons (pe_op op_fdivW (pv 4) (pv 6)) (pa_cons (pe_op op_fdivW (pv 5) (pv 6)) pa_nil))))))))))))))), ?_⟩
    obtain ⟨a, c, b, h, g, rfl, ha, hc, hh, hD, e1, e2, q⟩ := h
    obtain ⟨⟨hb1, hb2⟩, hds, ⟨h1, h2⟩⟩ := id hD
    refine ⟨_, rfl, b, rfl, ⟨by omega, by omega⟩, ?_⟩
    refine ⟨_, rfl, _, rfl, a, b, 0, h, rfl, ha, hh.1, ⟨Nat.zero_le _, hh.2⟩, fun H1 g1 => ⟨_, rfl, iteF ?_⟩⟩
    have hc1 := g1 c _ (by simp) hc
    refine ⟨_, rfl, _, rfl, c, b, g, rfl, hc1, ⟨hb1, hb2⟩, hds, ⟨h1, h2⟩, fun H2 g2 => ?_⟩
    have ha2 := g2 a _ (by simp) (g1 a _ (by simp) ha)
    have hc2 := g2 c _ (by simp) hc1
    have G := g1.trans g2
    refine ⟨_, rfl, _, rfl, c, _, rfl, .inr (sq_tup hc2), b, g.length, ?_, ⟨hb2, by omega⟩, _, _, rfl, rfl, ?_⟩
    · rw [vn_len]
      rfl
    dsimp only
    rw [nines_cast hb1]
    have p1 := pow4 (k := g.length) hb2 h2
    have p2 := pow4 (k := h.length) hb2 hh.2
    have wh := Nat.lt_trans (wrt_lt hh.1) p2
    have np : b ^ g.length - 1 < 2 ^ 4001 := Nat.lt_of_le_of_lt (Nat.sub_le _ _) p1
    have cm : ∀ {u v : Nat}, u < 2 ^ 4001 → v < 2 ^ 4001 → CMulW (u : Int) (v : Int) := fun h1 h2 => wide_mul (a := 4001) (b := 4001) (by rw [Int.natAbs_natCast]; exact h1) (by rw [Int.natAbs_natCast]; exact h2) (by decide) (by decide) (by decide)
    refine ⟨_, rfl, _, rfl, b, a, h, rfl, ha2, hb2, _, rfl, _, _, rfl, rfl, cm wh np, _, rfl, _, rfl, b, c, g, rfl, hc2, hb2, _, _, rfl, rfl, ?_⟩
    refine ⟨_, rfl, _, rfl, a, _, rfl, .inr (sq_tup ha2), b, h.length, ?_, ⟨hb2, by have := hh.2; omega⟩, _, rfl, _, _, rfl, rfl, cm p2 np, ?_⟩
    · rw [vn_len]
      rfl
    dsimp only
    have en : ((wrt b h : Nat) : Int) * ((b ^ g.length - 1 : Nat) : Int) + ((wrt b g : Nat) : Int) = ((frN b h g : Nat) : Int) := by
      unfold frN
      rw [Int.natCast_add, Int.natCast_mul]
    have ed : ((b ^ h.length : Nat) : Int) * ((b ^ g.length - 1 : Nat) : Int) = ((frD b h g : Nat) : Int) := by
      unfold frD
      rw [Int.natCast_mul]
    rw [en, ed]
    have dp := frD_pos (h := h) hb1 h1
    have db := frD_bits (h := h) (g := g) hb2 hh.2 h2
    obtain ⟨c1, c2⟩ := frF_den (h := h) hb1 h1
    have q' : ∀ t H', Gr [] H H' → H' t = some (.tup [.int ((frN b h g / Nat.gcd (frN b h g) (frD b h g) : Nat) : Int), .int ((frD b h g / Nat.gcd (frN b h g) (frD b h g) : Nat) : Int)]) → frN b h g ≠ frD b h g → frD b h g / Nat.gcd (frN b h g) (frD b h g) ≤ 5000 → Q (.ref t) H' := fun t H' g0 e n1 n2 => q n1 n2 t H' g0 e
    have e2' : frN b h g ≠ frD b h g → 5000 < frD b h g / Nat.gcd (frN b h g) (frD b h g) → ∀ H1 d, Gr [] H H1 → H1 d = none → E (.ref T.C_TooGreat) (some d) (upd H1 d (.xd [("most", .int 5000)])) := e2
    generalize frN b h g = N at *
    generalize frD b h g = D at *
    refine ⟨_, rfl, _, rfl, rfl, _, rfl, ?_⟩
    by_cases hND : N = D
    · refine iteTb (decide_eq_true (by rw [hND])) ⟨_, rfl, mk1_go fun d nd => e1 hND H2 d G nd⟩
    refine iteFb (decide_eq_false (fun z => hND (by have := V.int.inj z; omega))) ?_
    refine ⟨_, rfl, _, rfl, _, _, rfl, ?_⟩
    rw [Int.natAbs_natCast, Int.natAbs_natCast]
    have cd : CDivW (D : Int) ((Nat.gcd N D : Nat) : Int) := wide_div (b := 8002) (by omega) (by rw [Int.natAbs_natCast]; exact Nat.lt_of_le_of_lt c2 db) (by decide) (by decide)
    refine ⟨_, rfl, _, rfl, _, _, rfl, rfl, cd, _, _, rfl, rfl, _, rfl, ?_⟩
    dsimp only
    rw [← Int.natCast_ediv]
    by_cases hg : 5000 < D / Nat.gcd N D
    · refine iteTb (decide_eq_true (by omega)) (mk1_go fun d nd => e2' hND hg H2 d G nd)
    refine iteFb (decide_eq_false (by omega)) ?_
    refine ⟨_, rfl, _, rfl, _, _, rfl, rfl, cd, _, rfl, _, rfl, _, _, rfl, rfl, cd, by show 2 ≤ sizeLine; decide, fun t nt => ?_⟩
    refine q' t _ (G.trans (Gr.new nt)) ?_ hND (by omega)
    rw [upd_same]
    exact congrArg (fun z => some (HO.tup z)) (by rw [Int.natCast_ediv, Int.natCast_ediv])

end
end Wn
namespace Wn
open PySem PySem.Spec PyProof.Rows L2
open LamX (Tabs ExtN tLam)
local macro_rules | `(tactic| walk_at "vc") => `(tactic| simp only [cxK, cxK2, start1, start2, start3, tRet, tRetN, tSeq, tNext, tIfS, tAsg, gName, tDrop, tVar, tC, tOp, tUn, tTest, tB, tNot, tAnd, tOr, tAndV, tOrV, tNotV, tIf, tCons, tNil, tCB, tCall, tChain, tAug, ipI, rI, rI0, rU, rIs, rGcd, rEq, rNe, scal,
  List.getElem?_cons_zero, List.getElem?_cons_succ, List.set_cons_zero, List.set_cons_succ, Option.some.injEq, List.cons.injEq, V.int.injEq, V.bl.injEq, V.ref.injEq, V.str.injEq, and_true, true_and, exists_eq_left, exists_eq_left', exists_and_left, exists_and_right, List.append_nil, List.nil_append, List.cons_append, exists_eq_right, exists_eq_right', and_assoc, exists_const, V.ty.injEq, ↓reduceIte, Bool.false_eq_true, Bool.not_true, Bool.not_false, decide_eq_true_eq])

section
variable {P : Program} {w : World} {K : PySem.W.Frag} {mg : Str → Option Value} {base : Heap}
def isS (d : PyData) : Bool := isB (tyD d) "str"
def sp_need_stringX (T : Txt K mg) : Sp := fun vs H Q E => ∃ (v : V) (d : PyData), vs = [v] ∧ Dz K H v d ∧ (isS d = true → Q .non H) ∧ (isS d = false → ∀ dd H', Gr [] H H' → H' dd = some (.xd [("place", .non)]) → E (.ref T.C_BadText) (some dd) H')
def optV : Option Nat → V
  | none => .non
  | some n => .int (n : Nat)
def sp_run_size : Sp := fun vs H Q _ => ∃ (s : Str), vs = [.str s] ∧ s.length ≤ sizeLine ∧ Q (.int (runN s : Nat)) H
def sp_integer_in : Sp := fun vs H Q _ => ∃ (s : Str), vs = [.str s] ∧ s.length ≤ sizeLine ∧ Q (optV (intIn s)) H
def sp_digits_in : Sp := fun vs H Q _ => ∃ (b : Nat) (a : Addr) (ws : List Str), vs = [.int b, .ref a] ∧ H a = some (.lst (ws.map V.str)) ∧ (∀ w ∈ ws, w.length ≤ sizeLine) ∧ (ws.length ≤ sizeLine) ∧ ∀ t H', Gr [] H H' → H' t = some (.tup (vn (digIn b ws))) → Q (.ref t) H'
/-- signs below 128 -/
def Asc (s : Str) : Prop := ∀ c ∈ s.cps.toList, c < 128
theorem Asc.lay {s : Str} (h : Asc s) : (PyData.str s).canLay0 = true := by
  show (s.cps.all (· < 0x110000)) = true
  rw [← Array.all_toList, List.all_eq_true]
  intro c hc
  exact decide_eq_true (Nat.lt_trans (h c hc) (by decide))
def sp_need_wordX (T : Txt K mg) : Sp := fun vs H Q E => ∃ (a : Addr) (ws : List Str) (k : Nat) (w : Str), vs = [.ref a, .int k, .str w] ∧ H a = some (.lst (ws.map V.str)) ∧ (∀ w ∈ ws, Asc w) ∧ Asc w ∧ (ws[k]? = some w → ∀ H', Gr [] H H' → Q .non H') ∧
  (ws[k]? ≠ some w → ∀ dd H', Gr [] H H' → H' dd = some (.xd [("place", .int (k : Nat))]) → E (.ref T.C_BadText) (some dd) H')
theorem sz40 {k : Nat} (h : k ≤ 6000) : k ≤ sizeLine := Nat.le_trans h (by decide)
theorem cut_one (ws : List Str) (k : Nat) : cutV (ws.map V.str) (some (k : Int)) (some ((k : Int) + 1)) = (match ws[k]? with | some w => [V.str w] | none => []) := by
  rw [show (k : Int) + 1 = ((k + 1 : Nat) : Int) by omega]
  unfold cutV
  rw [HT.sIx_nat, HT.sIx_nat, List.length_map]
  by_cases hk : k < ws.length
  · rw [Nat.min_eq_left (by omega), Nat.min_eq_left (by omega), show k + 1 - k = 1 by omega, ← List.map_drop, ← List.map_take, List.drop_eq_getElem_cons hk, List.getElem?_eq_getElem hk]
    rfl
  · rw [List.getElem?_eq_none (by omega), Nat.min_eq_right (by omega), Nat.min_eq_right (by omega), Nat.sub_self, List.take_zero]
theorem lay_one {w : Str} (h : Asc w) : SeqAt.shaped (.list [.str w]) = true := by
  unfold SeqAt.shaped
  rw [Bool.and_eq_true]
  refine ⟨?_, by rfl⟩
  show ((PyData.str w).canLay0 && true) = true
  rw [h.lay]
  rfl
theorem okX_need_string (T : Txt K mg) : FnOk P w K mg base (L2.CX P w) 3 T.d_need_string.f T.d_need_string.fd ["value"] (sp_need_stringX T) := by
  refine T.d_need_string.F.okX sc_need_string (fun vs H Q E h => ?_) (fun cdv A outer s H vs Q E hr h => ?_)
  · obtain ⟨v, d, rfl, _⟩ := h; rfl
  · have hu := hu_of hr
    refine ⟨_, (pss_one (ps_if (pt_not (pt_val (pe_callB (r := rIs K) call_is (by rfl) T.b_isinstance (by decide +kernel) (pa_cons (pv 0) (pa_cons (pe_bltn (v := .ty "str") (by rfl) T.b_str (by decide +kernel) rfl) pa_nil))))) (pss_one (ps_raise rfl (takes_of rfl rfl rfl rfl) (pmkE T.T_BadText (ok_init_BadText T) (hr.mono (by decide)) T.b_BadText pass0 (by rfl) T.g_BadText (pa_cons pe_non pa_nil)))) pss_nil)), ?_⟩
    obtain ⟨v, d, rfl, hd, q, e⟩ := h
    refine ⟨_, rfl, v, "str", rfl, tyD d, ⟨(dz_ty hd).1, (dz_ty hd).2, by decide⟩, _, rfl, ?_⟩
    cases hS : isB (tyD d) "str" with
    | true => exact iteF (q hS)
    | false => exact iteT (mk1_go fun dd nd => e hS dd _ (Gr.new nd) upd_same)
theorem ok_run_size (T : Txt K mg) : FnOk P w K mg base CX0 1 T.d_run_size.f T.d_run_size.fd ["text"] sp_run_size := by
  refine T.d_run_size.F.ok sc_run_size (fun vs H Q E h => ?_) (fun cdv A outer s H vs Q E hr h => ?_)
  · obtain ⟨s, rfl, _⟩ := h; rfl
  · have hu := hu_of hr
    refine ⟨_, (pss_cons (ps_set (i := 1) sc_run_size.nd rfl (by first | exact .inl rfl | exact .inr rfl) pe_int)
      (pss_cons (ps_while PassesOwn.never (PW.pt (pw_and (pt_cmpR op_lt (pv 1) (pe_callB call_len_str (by rfl) T.b_len PySem.boot_len (pa_cons (pv 0) pa_nil)) (nomark _)) (pw_and1 (pt_cmpR op_in_sign (pe_ix (r := rIxS) ix_str (pv 0) (pv 1) (fun _ _ => rfl)) pe_str rfl)))) (pss_one (ps_aug (i := 1) sc_run_size.nd rfl (by first | exact .inl rfl | exact .inr rfl) pe_int ip_add)))
      (pss_one (ps_ret (pv 1))))), ?_⟩
    obtain ⟨s, rfl, hs, q⟩ := h
    have hr := run_le s
    refine ⟨fun m σ H' => H' = H ∧ ∃ i, i ≤ runN s ∧ m = runN s - i ∧ σ = [some (.str s), some (.int (i : Nat))], ⟨runN s, rfl, 0, Nat.zero_le _, by omega, rfl⟩, ?_⟩
    rintro m σ H' ⟨rfl, i, hi, rfl, rfl⟩
    refine ⟨_, rfl, _, rfl, s, rfl, hs, _, _, rfl, rfl, _, rfl, ?_⟩
    by_cases hl : i < s.length
    case neg =>
      refine iteFb (decide_eq_false (by omega)) (iteF ⟨_, rfl, ?_⟩)
      rw [show runN s = i by omega] at q
      exact q
    case pos =>
    refine iteTb (decide_eq_true (by omega)) ?_
    have hl' : i < s.cps.toList.length := by rw [← len_cps]; exact hl
    obtain ⟨t1, t2⟩ := take_at (f := dgC) (List.getElem?_eq_getElem hl') hi
    refine ⟨_, rfl, _, rfl, s, (i : Int), s.cps.toList[i], rfl, rfl, hs, atI_nat (List.getElem?_eq_getElem hl'), _, _, rfl, rfl, ?_⟩
    rw [in_ten]
    cases hd : dgC s.cps.toList[i] with
    | true =>
      refine ⟨_, rfl, iteT ⟨fun σ' H2 => H2 = H' ∧ σ' = [some (.str s), some (.int ((i + 1 : Nat) : Int))], ?_, ?_⟩⟩
      · rintro σ' H2 ⟨rfl, rfl⟩
        have := t1 hd
        change i + 1 ≤ runN s at this
        exact ⟨runN s - (i + 1), by omega, rfl, i + 1, this, rfl, rfl⟩
      · exact ⟨_, rfl, _, _, rfl, rfl, rfl, rfl⟩
    | false =>
      refine ⟨_, rfl, iteF ⟨_, rfl, ?_⟩⟩
      have := t2 hd
      change i = runN s at this
      rw [← this] at q
      exact q
theorem ok_integer_in (T : Txt K mg) : FnOk P w K mg base CX0 2 T.d_integer_in.f T.d_integer_in.fd ["text"] sp_integer_in := by
  refine T.d_integer_in.F.ok sc_integer_in (fun vs H Q E h => ?_) (fun cdv A outer s H vs Q E hr h => ?_)
  · obtain ⟨s, rfl, _⟩ := h; rfl
  · have hu := hu_of hr
    refine ⟨_, (pss_cons (ps_if (PW.pt (pw_or (pt_not (pt_chain op_le op_le pe_int (pe_callB call_len_str (by rfl) T.b_len PySem.boot_len (pa_cons (pv 0) pa_nil)) (pe_glob (v := .int 40) (by rfl) T.c_MOST_LENGTH ⟨_, rfl⟩))) (pw_or1 (pt_cmpR op_ne (pe_call (ok_run_size T) (hr.mono (by decide)) (by rfl) T.d_run_size.m T.d_run_size.F.kp T.d_run_size.b .nil pass0 (pa_cons (pv 0) pa_nil)) (pe_callB call_len_str (by rfl) T.b_len PySem.boot_len (pa_cons (pv 0) pa_nil)) (nomark _))))) (pss_one (ps_ret pe_non)) pss_nil)
      (pss_cons (ps_if (PW.pt (pw_and (pt_cmpR op_gt (pe_callB call_len_str (by rfl) T.b_len PySem.boot_len (pa_cons (pv 0) pa_nil)) pe_int (nomark _)) (pw_and1 (pt_cmpR op_eq (pe_ix (r := rIxS) ix_str (pv 0) pe_int (fun _ _ => rfl)) pe_str (nomark _))))) (pss_one (ps_ret pe_non)) pss_nil)
      (pss_one (ps_ret (pe_callTy call_int_str (by rfl) T.b_int (by decide +kernel) (pa_cons (pv 0) pa_nil)))))), ?_⟩
    obtain ⟨s, rfl, hs, q⟩ := h
    refine ⟨_, rfl, s, rfl, hs, _, _, rfl, rfl, _, rfl, ?_⟩
    by_cases h1 : 1 ≤ s.length
    case neg =>
      refine iteFb (decide_eq_false (by omega)) ⟨_, rfl, iteT ?_⟩
      unfold intIn at q
      rw [if_neg (fun z => h1 z.1)] at q
      exact q
    case pos =>
    refine iteTb (decide_eq_true (by omega)) ⟨_, _, rfl, rfl, _, rfl, ?_⟩
    by_cases h2 : s.length ≤ 40
    case neg =>
      refine iteTb (by rw [decide_eq_false (show ¬ (s.length : Int) ≤ 40 by omega)]; rfl) ?_
      unfold intIn at q
      rw [if_neg (fun z => h2 z.2.1)] at q
      exact q
    case pos =>
    refine iteFb (by rw [decide_eq_true (show (s.length : Int) ≤ 40 by omega)]; rfl) ?_
    refine ⟨_, rfl, s, rfl, hs, _, rfl, s, rfl, hs, rfl, _, rfl, ?_⟩
    by_cases h3 : runN s = s.length
    case neg =>
      refine iteTb (by rw [decide_eq_false (fun z => h3 (by have := V.int.inj z; omega))]; rfl) ?_
      unfold intIn at q
      rw [if_neg (fun z => h3 z.2.2.1)] at q
      exact q
    case pos =>
    refine iteFb (by rw [decide_eq_true (by rw [h3])]; rfl) ?_
    refine ⟨_, rfl, s, rfl, hs, _, _, rfl, rfl, _, rfl, ?_⟩
    have hl0 : 0 < s.cps.toList.length := by rw [← len_cps]; omega
    have hh : s.cps.toList.head? = some s.cps.toList[0] := by
      rw [List.head?_eq_getElem?, List.getElem?_eq_getElem hl0]
    have z48 : Str.ofString "0" = ⟨#[48]⟩ := by decide +kernel
    have fin : (¬ (1 < s.length ∧ s.cps.toList.head? = some 48)) → intIn s = some (NumText.digitsVal s.cps.toList) := fun h4 => by
      unfold intIn
      rw [if_pos ⟨h1, h2, h3, h4⟩]
    have last : (¬ (1 < s.length ∧ s.cps.toList.head? = some 48)) → ∃ a n, [V.str s] = [V.str a] ∧ PySem.intText? a = some n ∧ a.length ≤ 640 ∧ Q (.int n) H := fun h4 => by
      have e := fin h4
      obtain ⟨i1, i2⟩ := intIn_int e
      rw [e] at q
      exact ⟨s, _, rfl, i1, by omega, q⟩
    by_cases h4 : 1 < s.length
    case neg =>
      refine iteFb (decide_eq_false (by omega)) (iteF ⟨_, rfl, ?_⟩)
      exact last (fun z => h4 z.1)
    case pos =>
    refine iteTb (decide_eq_true (by omega)) ?_
    refine ⟨_, rfl, s, 0, s.cps.toList[0], rfl, rfl, hs, atI_nat (j := 0) (List.getElem?_eq_getElem hl0), rfl, _, rfl, ?_⟩
    by_cases h5 : s.cps.toList[0] = 48
    · refine iteTb (decide_eq_true (by rw [h5, z48])) ?_
      unfold intIn at q
      rw [if_neg (fun z => z.2.2.2 ⟨h4, by rw [hh, h5]⟩)] at q
      exact q
    · refine iteFb (decide_eq_false (fun z => h5 ?_)) ⟨_, rfl, last (fun z => h5 (by rw [hh] at z; exact Option.some.inj z.2))⟩
      have := V.str.inj z
      rw [z48] at this
      have := congrArg (fun u : Str => u.cps) this
      simpa using this
theorem ok_digits_in (T : Txt K mg) : FnOk P w K mg base CX0 3 T.d_digits_in.f T.d_digits_in.fd ["base", "words"] sp_digits_in := by
  refine T.d_digits_in.F.ok sc_digits_in (fun vs H Q E h => ?_) (fun cdv A outer s H vs Q E hr h => ?_)
  · obtain ⟨b, a, ws, rfl, _⟩ := h; rfl
  · have hu := hu_of hr
    refine ⟨_, (pss_cons (ps_set (i := 2) sc_digits_in.nd rfl (by first | exact .inl rfl | exact .inr rfl) (pe_lst pa_nil))
      (pss_cons (ps_for PassesOwn.never rfl (pi_list (pe_slice (r := rSlL K) sl_list (pv 1) po_none (po_some (pe_glob (v := .int 400) (by rfl) T.c_MOST_DIGITS ⟨_, rfl⟩)))) (pg_name (i := 3) sc_digits_in.nd rfl (by first | exact .inl rfl | exact .inr rfl)) (pss_cons (ps_set (i := 4) sc_digits_in.nd rfl (by first | exact .inl rfl | exact .inr rfl) (pe_call (ok_integer_in T) (hr.mono (by decide)) (by rfl) T.d_integer_in.m T.d_integer_in.F.kp T.d_integer_in.b .nil pass0 (pa_cons (pv 3) pa_nil)))
      (pss_cons (ps_if (PW.pt (pw_or (pt_cmpR op_isN (pv 4) pe_non (nomark _)) (pw_or1 (pt_cmpR op_ge (pv 4) (pv 0) (nomark _))))) (pss_one ps_break) pss_nil)
      (pss_one (ps_expr (pe_bm PySem.F.plainAttrs_list PySem.F.slot_list_append PySem.F.type_list_append mt_append (pv 2) (pa_cons (pv 4) pa_nil)))))))
      (pss_one (ps_ret (pe_callTy (r := rTpO K) call_tpO (by rfl) T.b_tuple (by decide +kernel) (pa_cons (pv 2) pa_nil)))))), ?_⟩
    obtain ⟨b, a, ws, rfl, ha, hwz, hwl, q⟩ := h
    refine ⟨Nat.zero_le _, fun r nr => ?_⟩
    have gr := Gr.new (W := []) (o := .lst []) nr
    have hr : (upd H r (.lst [])) r = some (.lst []) := upd_same
    have ha1 := gr a _ (by simp) ha
    have har : r ≠ a := fun z => by rw [z, ha] at nr; cases nr
    refine ⟨_, rfl, (400 : Int), rfl, a, _, rfl, sq_lst ha1, fun p np => ?_⟩
    have ec : cutV (ws.map V.str) none (some (400 : Int)) = (ws.take 400).map V.str := by
      have h4 : (400 : Int) = ((400 : Nat) : Int) := rfl
      unfold cutV
      rw [h4, HT.sIx_nat, HT.sIx_none, List.length_map, List.drop_zero, Nat.sub_zero, List.map_take]
      rcases Nat.le_total 400 ws.length with z | z
      · rw [Nat.min_eq_left z]
      · rw [Nat.min_eq_right z, List.take_of_length_le (by simp), List.take_of_length_le (by simp; exact z)]
    rw [ec]
    have gp := Gr.new (W := []) (o := .lst ((ws.take 400).map V.str)) np
    have hp : (upd (upd H r (.lst [])) p (.lst ((ws.take 400).map V.str))) p = some (.lst ((ws.take 400).map V.str)) := upd_same
    have hr2 := gp r _ (by simp) hr
    have hpr : p ≠ r := fun z => by rw [z, hr] at np; cases np
    obtain ⟨W, eW⟩ : ∃ W, W = ws.take 400 := ⟨_, rfl⟩
    have hWl : W.length ≤ 400 := by rw [eW, List.length_take]; exact Nat.min_le_left _ _
    have hWz : ∀ w ∈ W, w.length ≤ sizeLine := fun w hw => hwz w (by rw [eW] at hw; exact List.mem_of_mem_take hw)
    have eD : digIn b ws = digL b W := by rw [eW]; rfl
    rw [eD] at q
    rw [← eW] at hp hr2 gp ⊢
    have G0 := gr.trans gp
    generalize upd (upd H r (.lst [])) p (.lst (W.map V.str)) = H2 at hp hr2 G0 ⊢
    have fin : ∀ (ds : List Nat) (H' : Hp) (v3 v4 : Option V), Gr [r] H2 H' → H' r = some (.lst (vn ds)) → digL b W = ds → ∀ (D' : Ends), True := fun _ _ _ _ _ _ _ _ => True.intro
    clear fin
    have gout : ∀ {H' : Hp}, Gr [r] H2 H' → Gr [] H H' := fun {H'} g u o _ e => by
      have nu : u ≠ r := ne_of_none e nr
      exact g u o (by simpa using nu) (G0 u o (by simp) e)
    refine ⟨p, rfl, ⟨_, sq_lst hp⟩, ?_⟩
    refine for_list (K := K) (a := p) (xs := W.map V.str) (fun i σ H' => Gr [r] H2 H' ∧ ∃ ds : List Nat, ds.length = i ∧ H' r = some (.lst (vn ds)) ∧ digL b W = ds ++ digL b (W.drop i) ∧ ∃ v3 v4, σ = [some (.int b), some (.ref a), some (.ref r), v3, v4]) ⟨Gr.refl _ _, [], rfl, hr2, rfl, none, none, rfl⟩ (fun i σ H' _ z => sq_lst (z.1 p _ (by simpa using hpr) hp)) ?_ ?_
    · rintro i y σ H' hy ⟨G, ds, hdl, hR, hdd, v3, v4, rfl⟩
      obtain ⟨w, hw, rfl⟩ : ∃ w, W[i]? = some w ∧ y = .str w := by
        rw [List.getElem?_map] at hy
        cases e : W[i]? with
        | none => rw [e] at hy; cases hy
        | some w => rw [e] at hy; exact ⟨w, rfl, (Option.some.inj hy).symm⟩
      have hi := (List.getElem?_eq_some_iff.mp hw).1
      have hdrop : W.drop i = w :: W.drop (i + 1) := by
        rw [List.drop_eq_getElem_cons hi]
        rw [List.getElem?_eq_getElem hi] at hw
        rw [Option.some.inj hw]
      rw [hdrop] at hdd
      have hdd : digL b W = ds ++ (match intIn w with
        | some d => if d < b then d :: digL b (W.drop (i + 1)) else []
        | none => []) := hdd
      have brk : digL b W = ds → ∀ v4, (tCB (rTpO K) (tCons (tVar 2) tNil)) [some (.int b), some (.ref a), some (.ref r), some (.str w), v4] H' Q := fun e v4 => by
        refine ⟨_, rfl, r, vn ds, rfl, .inl ⟨sq_lst hR, fun t nt => ?_⟩⟩
        exact q t _ ((gout G).trans (Gr.new nt)) (by rw [upd_same, e])
      refine ⟨_, rfl, w, rfl, hWz w (List.mem_of_getElem? hw), ?_⟩
      cases ei : intIn w with
      | none =>
        rw [ei] at hdd
        dsimp only at hdd
        refine ⟨_, rfl, rfl, _, rfl, iteT ?_⟩
        exact brk (by rw [hdd, List.append_nil]) _
      | some d =>
        rw [ei] at hdd
        dsimp only at hdd
        refine ⟨_, rfl, rfl, _, rfl, iteF ?_⟩
        refine ⟨_, rfl, _, rfl, _, _, rfl, rfl, _, rfl, ?_⟩
        by_cases hd : d < b
        · rw [if_pos hd] at hdd
          refine iteFb (decide_eq_false (by omega)) ?_
          refine ⟨_, rfl, .inl ⟨rfl, _, sq_lst hR⟩, _, rfl, r, _, _, rfl, rfl, hR, ?_, ?_⟩
          · rw [vn_len]
            exact Nat.lt_of_lt_of_le (show ds.length < 6000 by omega) (by decide)
          · refine ⟨G.trans (Gr.wr (by simp)), ds ++ [d], by rw [List.length_append, hdl]; rfl, ?_, by rw [hdd, List.append_assoc]; rfl, _, _, rfl⟩
            rw [upd_same]
            unfold vn
            rw [List.map_append]
            rfl
        · rw [if_neg hd] at hdd
          refine iteTb (decide_eq_true (by omega)) ?_
          exact brk (by rw [hdd, List.append_nil]) _
    rintro σ H' ⟨G, ds, hdl, hR, hdd, v3, v4, rfl⟩
    rw [List.length_map] at hdl hdd
    refine ⟨_, rfl, r, vn ds, rfl, .inl ⟨sq_lst hR, fun t nt => ?_⟩⟩
    refine q t _ ((gout G).trans (Gr.new nt)) ?_
    rw [upd_same, hdd, List.drop_of_length_le (Nat.le_refl _)]
    show _ = some (HO.tup (vn (ds ++ [])))
    rw [List.append_nil]
theorem okX_need_word (T : Txt K mg) : FnOk P w K mg base (L2.CX P w) 3 T.d_need_word.f T.d_need_word.fd ["words", "at", "word"] (sp_need_wordX T) := by
  refine T.d_need_word.F.okX sc_need_word (fun vs H Q E h => ?_) (fun cdv A outer s H vs Q E hr h => ?_)
  · obtain ⟨a, ws, k, w, rfl, _⟩ := h; rfl
  · have hu := hu_of hr
    refine ⟨_, (pss_one (ps_if (pt_cmpR (r := rNeD K) (op_neD hr.units) (pe_slice (r := rSlL K) sl_list (pv 0) (po_some (pv 1)) (po_some (pe_op op_add (pv 1) pe_int))) (pe_lst (pa_cons (pv 2) pa_nil)) (nomark _)) (pss_one (ps_raise rfl (takes_of rfl rfl rfl rfl) (pmkE T.T_BadText (ok_init_BadText T) (hr.mono (by decide)) T.b_BadText pass0 (by rfl) T.g_BadText (pa_cons (pv 1) pa_nil)))) pss_nil)), ?_⟩
    obtain ⟨a, ws, k, w, rfl, ha, hws, hw, q, e⟩ := h
    refine ⟨_, rfl, _, rfl, (k : Int), rfl, _, rfl, _, _, rfl, rfl, ?_⟩
    refine ⟨_, rfl, a, _, rfl, sq_lst ha, fun p1 np1 => ?_⟩
    dsimp only
    rw [cut_one]
    have g1 := Gr.new (W := []) (o := .lst (match ws[k]? with | some w => [V.str w] | none => [])) np1
    refine ⟨_, rfl, by show 1 ≤ sizeLine; decide, fun p2 np2 => ?_⟩
    have G := g1.trans (Gr.new (W := []) (o := .lst [V.str w]) np2)
    cases hk : ws[k]? with
    | none =>
      rw [hk] at np2 G e q
      dsimp only at np2 G ⊢
      have h1 := (Gr.new (W := []) (o := .lst [V.str w]) np2) p1 _ (by simp) upd_same
      refine ⟨.list [], .list [.str w], dp_lst h1 .nil, dp_lst upd_same (.cons (.str _) .nil), by rfl, lay_one hw, _, rfl, iteTb rfl ?_⟩
      exact ⟨_, rfl, mk1_go fun dd nd => e (fun z => by cases z) dd _ (G.trans (Gr.new nd)) upd_same⟩
    | some u =>
      have hu := List.mem_of_getElem? hk
      rw [hk] at np2 G e q
      dsimp only at np2 G ⊢
      have h1 := (Gr.new (W := []) (o := .lst [V.str w]) np2) p1 _ (by simp) upd_same
      have ev : PyData.eqv (.list [.str u]) (.list [.str w]) = (u == w) := by
        show ((u == w) && true) = _
        rw [Bool.and_true]
      refine ⟨.list [.str u], .list [.str w], dp_lst h1 (.cons (.str _) .nil), dp_lst upd_same (.cons (.str _) .nil), lay_one (hws u hu), lay_one hw, _, rfl, ?_⟩
      rw [ev]
      by_cases huw : u = w
      · refine iteFb (by rw [huw]; simp) (q (by rw [huw]) _ G)
      · refine iteTb (by rw [Bool.not_eq_true', beq_eq_false_iff_ne]; exact huw) ?_
        exact ⟨_, rfl, mk1_go fun dd nd => e (fun z => huw (Option.some.inj z)) dd _ (G.trans (Gr.new nd)) upd_same⟩

end
end Wn
namespace Wn
open PySem PySem.Spec PyProof.Rows L2
open LamX (Tabs ExtN tLam)
local macro_rules | `(tactic| walk_at "vc") => `(tactic| simp only [cxK, cxK2, start1, start2, start3, tRet, tRetN, tSeq, tNext, tIfS, tAsg, gName, tDrop, tVar, tC, tOp, tUn, tTest, tB, tNot, tAnd, tOr, tAndV, tOrV, tNotV, tIf, tCons, tNil, tCB, tCall, tChain, tAug, ipI, rI, rI0, rU, rIs, rGcd, rEq, rNe, scal,
  List.getElem?_cons_zero, List.getElem?_cons_succ, List.set_cons_zero, List.set_cons_succ, Option.some.injEq, List.cons.injEq, V.int.injEq, V.bl.injEq, V.ref.injEq, V.str.injEq, and_true, true_and, exists_eq_left, exists_eq_left', exists_and_left, exists_and_right, List.append_nil, List.nil_append, List.cons_append, exists_eq_right, exists_eq_right', and_assoc, exists_const, V.ty.injEq, ↓reduceIte, Bool.false_eq_true, Bool.not_true, Bool.not_false, decide_eq_true_eq])

section
variable {P : Program} {w : World} {K : PySem.W.Frag} {mg : Str → Option Value} {base : Heap}

def sp_is_integerZ (K : PySem.W.Frag) : Sp := fun vs H Q _ => ∃ (v : V) (d : PyData), vs = [v] ∧ Dz K H v d ∧ Q (.bl (isI d)) H
def sp_is_withinZ (K : PySem.W.Frag) : Sp := fun vs H Q _ => ∃ (v : V) (d : PyData) (lo hi : Int), vs = [v, .int lo, .int hi] ∧ Dz K H v d ∧ Q (.bl (isW lo hi d)) H
theorem okZ_is_integer (T : Txt K mg) : FnOk P w K mg base CX0 1 T.d_is_integer.f T.d_is_integer.fd ["value"] (sp_is_integerZ K) := by
  refine T.d_is_integer.F.ok sc_is_integer (fun vs H Q E h => ?_) (fun cdv A outer s H vs Q E hr h => ?_)
  · obtain ⟨v, d, rfl, _⟩ := h; rfl
  · have hu := hu_of hr
    refine ⟨_, (pss_one (ps_ret (pe_and (pe_callB (r := rIs K) call_is (by rfl) T.b_isinstance (by decide +kernel) (pa_cons (pv 0) (pa_cons (pe_bltn (v := .ty "int") (by rfl) T.b_int (by decide +kernel) rfl) pa_nil))) (pe_one (pe_not (pe_callB (r := rIs K) call_is (by rfl) T.b_isinstance (by decide +kernel) (pa_cons (pv 0) (pa_cons (pe_bltn (v := .ty "bool") (by rfl) T.b_bool (by decide +kernel) rfl) pa_nil)))))))), ?_⟩
    obtain ⟨v, d, rfl, hd, q⟩ := h
    refine ⟨_, rfl, v, "int", rfl, tyD d, ⟨(dz_ty hd).1, (dz_ty hd).2, by decide⟩, _, rfl, ?_⟩
    rw [isI_of] at q
    cases h1 : isB (tyD d) "int" with
    | false =>
      rw [h1, Bool.false_and] at q
      exact iteF q
    | true =>
      rw [h1, Bool.true_and] at q
      exact iteT ⟨_, rfl, v, "bool", rfl, tyD d, ⟨(dz_ty hd).1, (dz_ty hd).2, by decide⟩, _, rfl, q⟩
theorem okZ_is_within (T : Txt K mg) : FnOk P w K mg base CX0 2 T.d_is_within.f T.d_is_within.fd ["value", "low", "high"] (sp_is_withinZ K) := by
  refine T.d_is_within.F.ok sc_is_within (fun vs H Q E h => ?_) (fun cdv A outer s H vs Q E hr h => ?_)
  · obtain ⟨v, d, lo, hi, rfl, _⟩ := h; rfl
  · have hu := hu_of hr
    refine ⟨_, (pss_one (ps_ret (pe_and (pe_call (okZ_is_integer T) (hr.mono (by decide)) (by rfl) T.d_is_integer.m T.d_is_integer.F.kp T.d_is_integer.b .nil pass0 (pa_cons (pv 0) pa_nil)) (pe_one (pe_chain op_le op_le (pv 1) (pv 0) (pv 2)))))), ?_⟩
    obtain ⟨v, d, lo, hi, rfl, hd, q⟩ := h
    refine ⟨_, rfl, v, d, rfl, hd, _, rfl, ?_⟩
    cases d with
    | int i =>
      obtain rfl := dz_int hd
      refine iteT ?_
      walk_at "vc"
      by_cases h1 : lo ≤ i
      · have e : isW lo hi (.int i) = decide (i ≤ hi) := by
          show (decide (lo ≤ i) && decide (i ≤ hi)) = _
          rw [decide_eq_true h1, Bool.true_and]
        rw [if_pos h1, ← e]
        exact q
      · have e : isW lo hi (.int i) = false := by
          show (decide (lo ≤ i) && decide (i ≤ hi)) = _
          rw [decide_eq_false h1, Bool.false_and]
        rw [if_neg h1, ← e]
        exact q
    | none => exact iteF q
    | bool b => exact iteF q
    | str x => exact iteF q
    | list x => exact iteF q
    | tuple x => exact iteF q
    | dict x => exact iteF q
/-- judged: the very value, or an error with it -/
def spJ (K : PySem.W.Frag) (ok : PyData → Bool) (C : Addr) : Sp := fun vs H Q E => ∃ (v : V) (d : PyData), vs = [v] ∧ Dz K H v d ∧ (ok d = true → ∀ H', Gr [] H H' → Q v H') ∧ (ok d = false → ∀ dd H', Gr [] H H' → H' dd = some (.xd [("value", v)]) → E (.ref C) (some dd) H')
def frI (x n : PyData) : Bool := match x, n with
  | .int x, .int n => decide (1 ≤ n) && decide (n ≤ 5000) && (decide (0 ≤ x) && decide (x ≤ n - 1)) && decide (Int.gcd x n = 1)
  | _, _ => false
def frB : PyData → Bool
  | .tuple [x, n] => frI x n
  | _ => false
theorem frB_two (x n : PyData) : frB (.tuple [x, n]) = frI x n := rfl
theorem frB_tup {d : PyData} (h : isB (tyD d) "tuple" = false) : frB d = false := by
  cases d with
  | tuple s => cases h
  | _ => rfl
theorem frB_len {ds : List PyData} (h : ds.length ≠ 2) : frB (.tuple ds) = false := by
  match ds, h with
  | [], _ => rfl
  | [_], _ => rfl
  | [_, _], h => exact absurd rfl h
  | _ :: _ :: _ :: _, _ => rfl
theorem isW_int {lo hi : Int} {d : PyData} (h : isW lo hi d = true) : ∃ i, d = .int i ∧ lo ≤ i ∧ i ≤ hi := by
  cases d with
  | int i =>
    have h : (decide (lo ≤ i) && decide (i ≤ hi)) = true := h
    rw [Bool.and_eq_true, decide_eq_true_iff, decide_eq_true_iff] at h
    exact ⟨i, rfl, h.1, h.2⟩
  | _ => cases h
theorem frI_n {x n : PyData} (h : isW 1 5000 n = false) : frI x n = false := by
  cases x <;> cases n <;> try rfl
  rename_i a b
  have h : (decide (1 ≤ b) && decide (b ≤ 5000)) = false := h
  show (decide (1 ≤ b) && decide (b ≤ 5000) && (decide (0 ≤ a) && decide (a ≤ b - 1)) && decide (Int.gcd a b = 1)) = false
  rw [h, Bool.false_and, Bool.false_and]
theorem frI_x {x : PyData} {n : Int} (h : isW 0 (n - 1) x = false) : frI x (.int n) = false := by
  cases x <;> try rfl
  rename_i a
  have h : (decide (0 ≤ a) && decide (a ≤ n - 1)) = false := h
  show (decide (1 ≤ n) && decide (n ≤ 5000) && (decide (0 ≤ a) && decide (a ≤ n - 1)) && decide (Int.gcd a n = 1)) = false
  rw [h, Bool.and_false, Bool.false_and]
theorem frI_g {x n : Int} (h1 : isW 1 5000 (.int n) = true) (h2 : isW 0 (n - 1) (.int x) = true) : frI (.int x) (.int n) = decide (Int.gcd x n = 1) := by
  have h1 : (decide (1 ≤ n) && decide (n ≤ 5000)) = true := h1
  have h2 : (decide (0 ≤ x) && decide (x ≤ n - 1)) = true := h2
  show (decide (1 ≤ n) && decide (n ≤ 5000) && (decide (0 ≤ x) && decide (x ≤ n - 1)) && decide (Int.gcd x n = 1)) = _
  rw [h1, h2, Bool.true_and, Bool.true_and]
theorem okX_need_base (T : Txt K mg) : FnOk P w K mg base (L2.CX P w) 3 T.d_need_base.f T.d_need_base.fd ["value"] (spJ K (isW 2 1000) T.C_BadBase) := by
  refine T.d_need_base.F.okX sc_need_base (fun vs H Q E h => ?_) (fun cdv A outer s H vs Q E hr h => ?_)
  · obtain ⟨v, d, rfl, _⟩ := h; rfl
  · have hu := hu_of hr
    refine ⟨_, (pss_cons (ps_if (pt_not (pt_val (pe_call (okZ_is_within T) (hr.mono (by decide)) (by rfl) T.d_is_within.m T.d_is_within.F.kp T.d_is_within.b .nil pass0 (pa_cons (pv 0) (pa_cons pe_int (pa_cons (pe_glob (v := .int 1000) (by rfl) T.c_MOST_BASE ⟨_, rfl⟩) pa_nil)))))) (pss_one (ps_raise rfl (takes_of rfl rfl rfl rfl) (pmkE T.T_BadBase (ok_init_BadBase T) (hr.mono (by decide)) T.b_BadBase pass0 (by rfl) T.g_BadBase (pa_cons (pv 0) pa_nil)))) pss_nil)
      (PSs.nox (pss_one (ps_ret (pv 0))))), ?_⟩
    obtain ⟨v, d, rfl, hd, q, e⟩ := h
    refine ⟨_, rfl, v, d, 2, 1000, rfl, hd, _, rfl, ?_⟩
    cases hw : isW 2 1000 d with
    | true => exact iteF ⟨_, rfl, q hw H (Gr.refl _ _)⟩
    | false => exact iteT ⟨_, rfl, mk1_go fun dd nd => e hw dd _ (Gr.new nd) upd_same⟩
theorem okX_need_fraction (T : Txt K mg) : FnOk P w K mg base (L2.CX P w) 3 T.d_need_fraction.f T.d_need_fraction.fd ["value"] (spJ K frB T.C_BadFraction) := by
  refine T.d_need_fraction.F.okX sc_need_fraction (fun vs H Q E h => ?_) (fun cdv A outer s H vs Q E hr h => ?_)
  · obtain ⟨v, d, rfl, _⟩ := h; rfl
  · have hu := hu_of hr
    refine ⟨_, (pss_cons (ps_if (PW.pt (pw_or (pt_not (pt_val (pe_callB (r := rIs K) call_is (by rfl) T.b_isinstance (by decide +kernel) (pa_cons (pv 0) (pa_cons (pe_bltn (v := .ty "tuple") (by rfl) T.b_tuple (by decide +kernel) rfl) pa_nil))))) (pw_or1 (pt_cmpR op_ne (pe_callB (r := rLn K) call_ln (by rfl) T.b_len PySem.boot_len (pa_cons (pv 0) pa_nil)) pe_int (nomark _))))) (pss_one (ps_raise rfl (takes_of rfl rfl rfl rfl) (pmkE T.T_BadFraction (ok_init_BadFraction T) (hr.mono (by decide)) T.b_BadFraction pass0 (by rfl) T.g_BadFraction (pa_cons (pv 0) pa_nil)))) pss_nil)
      (pss_cons (ps_asg (pv 0) (pg_tup (by rfl) (pgs_cons (pg_name (i := 1) sc_need_fraction.nd rfl (by first | exact .inl rfl | exact .inr rfl)) (pgs_cons (pg_name (i := 2) sc_need_fraction.nd rfl (by first | exact .inl rfl | exact .inr rfl)) pgs_nil))))
      (pss_cons (ps_if (PW.pt (pw_or (pt_not (pt_val (pe_call (okZ_is_within T) (hr.mono (by decide)) (by rfl) T.d_is_within.m T.d_is_within.F.kp T.d_is_within.b .nil pass0 (pa_cons (pv 2) (pa_cons pe_int (pa_cons (pe_glob (v := .int 5000) (by rfl) T.c_MOST_DENOMINATOR ⟨_, rfl⟩) pa_nil)))))) (pw_or1 (pt_not (pt_val (pe_call (okZ_is_within T) (hr.mono (by decide)) (by rfl) T.d_is_within.m T.d_is_within.F.kp T.d_is_within.b .nil pass0 (pa_cons (pv 1) (pa_cons pe_int (pa_cons (pe_op op_sub (pv 2) pe_int) pa_nil))))))))) (pss_one (ps_raise rfl (takes_of rfl rfl rfl rfl) (pmkE T.T_BadFraction (ok_init_BadFraction T) (hr.mono (by decide)) T.b_BadFraction pass0 (by rfl) T.g_BadFraction (pa_cons (pv 0) pa_nil)))) pss_nil)
      (pss_cons (ps_if (pt_cmpR op_ne (pe_callBfun cr_gcd (by rfl) T.b_gcd (pa_cons (pv 1) (pa_cons (pv 2) pa_nil))) pe_int (nomark _)) (pss_one (ps_raise rfl (takes_of rfl rfl rfl rfl) (pmkE T.T_BadFraction (ok_init_BadFraction T) (hr.mono (by decide)) T.b_BadFraction pass0 (by rfl) T.g_BadFraction (pa_cons (pv 0) pa_nil)))) pss_nil)
      (PSs.nox (pss_one (ps_ret (pv 0)))))))), ?_⟩
    obtain ⟨v, d, rfl, hd, q, e⟩ := h
    refine ⟨_, rfl, v, "tuple", rfl, tyD d, ⟨(dz_ty hd).1, (dz_ty hd).2, by decide⟩, _, rfl, ?_⟩
    cases ht : isB (tyD d) "tuple" with
    | false => exact iteT (iteT ⟨_, rfl, mk1_go fun dd nd => e (frB_tup ht) dd _ (Gr.new nd) upd_same⟩)
    | true =>
    obtain ⟨ds, rfl⟩ := isTup_of ht
    refine iteF ?_
    have hd0 := hd
    cases hd with
    | @tup a xs _ hx hA =>
    have hlx := dzAll_len hA
    refine ⟨_, rfl, a, xs, rfl, .inr hx, rfl, _, rfl, ?_⟩
    by_cases hl : ds.length = 2
    case neg =>
      refine iteTb ?_ ⟨_, rfl, mk1_go fun dd nd => e (frB_len hl) dd _ (Gr.new nd) upd_same⟩
      rw [decide_eq_false (fun z => hl (by have := V.int.inj z; omega))]
      rfl
    case pos =>
    match ds, hl, hA, hlx, q, e, hd0 with
    | [dx, dn], _, .cons (v := x) h1 (.cons (v := n) h2 .nil), _, q, e, hd0 =>
    refine iteFb (by rfl) ?_
    refine ⟨_, rfl, a, _, rfl, hx, rfl, _, _, rfl, _, _, rfl, rfl, ?_⟩
    refine ⟨_, rfl, n, dn, 1, 5000, rfl, h2, _, rfl, ?_⟩
    cases hn : isW 1 5000 dn with
    | false => exact iteT (iteT ⟨_, rfl, mk1_go fun dd nd => e (frI_n hn) dd _ (Gr.new nd) upd_same⟩)
    | true =>
    obtain ⟨ni, rfl, hn1, hn2⟩ := isW_int hn
    obtain rfl := dz_int h2
    refine iteF ?_
    refine ⟨_, rfl, _, rfl, _, _, rfl, rfl, x, dx, 0, ni - 1, rfl, h1, _, rfl, ?_⟩
    cases hx0 : isW 0 (ni - 1) dx with
    | false => exact iteT ⟨_, rfl, mk1_go fun dd nd => e (frI_x hx0) dd _ (Gr.new nd) upd_same⟩
    | true =>
    obtain ⟨xi, rfl, hx1, hx2⟩ := isW_int hx0
    obtain rfl := dz_int h1
    refine iteF ?_
    have ef := frI_g hn hx0
    obtain ⟨xn, rfl⟩ := Int.eq_ofNat_of_zero_le hx1
    obtain ⟨nn, rfl⟩ := Int.eq_ofNat_of_zero_le (show (0 : Int) ≤ ni by omega)
    refine ⟨_, rfl, _, rfl, xn, nn, rfl, rfl, _, rfl, ?_⟩
    have eg : Int.gcd (xn : Int) (nn : Int) = Nat.gcd xn nn := rfl
    rw [eg] at ef
    by_cases hg : Nat.gcd xn nn = 1
    · refine iteFb (by rw [decide_eq_true (show V.int ((Nat.gcd (xn : Int).natAbs (nn : Int).natAbs : Nat) : Int) = V.int 1 by rw [Int.natAbs_natCast, Int.natAbs_natCast, hg]; rfl)]; rfl) ⟨_, rfl, q ?_ H (Gr.refl _ _)⟩
      rw [frB_two]
      rw [ef, decide_eq_true hg]
    · refine iteTb (by simp only [Int.natAbs_natCast]; rw [decide_eq_false (fun z => hg (by have := V.int.inj z; omega))]; rfl) ⟨_, rfl, mk1_go fun dd nd => e ?_ dd _ (Gr.new nd) upd_same⟩
      rw [frB_two]
      rw [ef, decide_eq_false hg]
/-- what a reader tells -/
inductive Out where
  | val (x n : Nat)
  | text (p : Option Nat)
  | frac (x n : Nat)
  | nothing (g : List Nat)
  | great
def Outs (T : Txt K mg) (o : Out) (H : Hp) (Q : VK) (E : XK) : Prop := match o with
  | .val x n => ∀ t H', Gr [] H H' → H' t = some (.tup [.int (x : Nat), .int (n : Nat)]) → Q (.ref t) H'
  | .text p => ∀ dd H', Gr [] H H' → H' dd = some (.xd [("place", optV p)]) → E (.ref T.C_BadText) (some dd) H'
  | .frac x n => ∀ dd t H', Gr [] H H' → H' t = some (.tup [.int (x : Nat), .int (n : Nat)]) → H' dd = some (.xd [("value", .ref t)]) → E (.ref T.C_BadFraction) (some dd) H'
  | .nothing g => ∀ dd t H', Gr [] H H' → H' t = some (.tup (vn g)) → H' dd = some (.xd [("value", .ref t)]) → E (.ref T.C_Nothing) (some dd) H'
  | .great => ∀ dd H', Gr [] H H' → H' dd = some (.xd [("most", .int 5000)]) → E (.ref T.C_TooGreat) (some dd) H'
theorem Outs.gr {T : Txt K mg} {o : Out} {H H1 : Hp} {Q : VK} {E : XK} (g : Gr [] H H1) (h : Outs T o H Q E) : Outs T o H1 Q E := by
  cases o with
  | val x n => exact fun t H' g' => h t H' (g.trans g')
  | text p => exact fun dd H' g' => h dd H' (g.trans g')
  | frac x n => exact fun dd t H' g' => h dd t H' (g.trans g')
  | nothing gg => exact fun dd t H' g' => h dd t H' (g.trans g')
  | great => exact fun dd H' g' => h dd H' (g.trans g')
def frJ (x n : Nat) : Bool := decide (1 ≤ n) && decide (n ≤ 5000) && decide (x < n) && decide (Nat.gcd x n = 1)
/-- a text as a fraction -/
def frO (s : Str) : Out := match intIn (cutS s none (some ((runN s : Nat) : Int))) with
  | none => .text (some 0)
  | some x => if cutS s (some ((runN s : Nat) : Int)) (some ((runN s + 1 : Nat) : Int)) = Str.ofString "/" then
      match intIn (cutS s (some ((runN s + 1 : Nat) : Int)) none) with
      | none => .text (some 2)
      | some n => if frJ x n = true then .val x n else .frac x n
    else .text (some 1)
def frOd : PyData → Out
  | .str s => frO s
  | _ => .text none
theorem frI_J (x n : Nat) : frB (.tuple [.int (x : Nat), .int (n : Nat)]) = frJ x n := by
  show (decide ((1 : Int) ≤ (n : Int)) && decide ((n : Int) ≤ 5000) && (decide ((0 : Int) ≤ (x : Int)) && decide ((x : Int) ≤ (n : Int) - 1)) && decide (Int.gcd (x : Int) (n : Int) = 1)) = frJ x n
  unfold frJ
  have e : Int.gcd (x : Int) (n : Int) = Nat.gcd x n := rfl
  rw [e, Bool.eq_iff_iff]
  simp only [Bool.and_eq_true, decide_eq_true_iff]
  omega
theorem isS_str {d : PyData} (h : isS d = true) : ∃ s, d = .str s := by
  cases d with
  | str s => exact ⟨s, rfl⟩
  | none => cases h
  | bool b => cases h
  | list x => cases h
  | tuple x => cases h
  | int x => cases h
  | dict x => cases h
theorem frOd_no {d : PyData} (h : isS d = false) : frOd d = .text none := by
  cases d with
  | str s => cases h
  | _ => rfl
theorem cutS_len (s : Str) (lo hi : Option Int) : (cutS s lo hi).length ≤ s.length := by
  rw [len_cps, len_cps]
  show ((s.cps.toList.drop _).take _).length ≤ _
  rw [List.length_take, List.length_drop]
  omega
def sp_read_fractionX (T : Txt K mg) : Sp := fun vs H Q E => ∃ (v : V) (d : PyData), vs = [v] ∧ Dz K H v d ∧ (∀ s, d = .str s → s.length ≤ 4000) ∧ Outs T (frOd d) H Q E
theorem okX_read_fraction (T : Txt K mg) : FnOk P w K mg base (L2.CX P w) 4 T.d_read_fraction.f T.d_read_fraction.fd ["string"] (sp_read_fractionX T) := by
  refine T.d_read_fraction.F.okX sc_read_fraction (fun vs H Q E h => ?_) (fun cdv A outer s H vs Q E hr h => ?_)
  · obtain ⟨v, d, rfl, _⟩ := h; rfl
  · have hu := hu_of hr
    refine ⟨_, (pss_cons (ps_expr (pe_call (okX_need_string T) (hr.mono (by decide)) (by rfl) T.d_need_string.m T.d_need_string.F.kp T.d_need_string.b .nil (passes_call (takes_of rfl rfl rfl rfl) (fun _ _ _ _ z => z)) (pa_cons (pv 0) pa_nil)))
      (pss_cons (ps_set (i := 1) sc_read_fraction.nd rfl (by first | exact .inl rfl | exact .inr rfl) (pe_call (ok_run_size T) (hr.mono (by decide)) (by rfl) T.d_run_size.m T.d_run_size.F.kp T.d_run_size.b .nil pass0 (pa_cons (pv 0) pa_nil)))
      (pss_cons (ps_set (i := 2) sc_read_fraction.nd rfl (by first | exact .inl rfl | exact .inr rfl) (pe_call (ok_integer_in T) (hr.mono (by decide)) (by rfl) T.d_integer_in.m T.d_integer_in.F.kp T.d_integer_in.b .nil pass0 (pa_cons (pe_slice (r := rSlS) sl_str (pv 0) po_none (po_some (pv 1))) pa_nil)))
      (pss_cons (ps_if (pt_cmpR op_isN (pv 2) pe_non (nomark _)) (pss_one (ps_raise rfl (takes_of rfl rfl rfl rfl) (pmkE T.T_BadText (ok_init_BadText T) (hr.mono (by decide)) T.b_BadText pass0 (by rfl) T.g_BadText (pa_cons pe_int pa_nil)))) pss_nil)
      (pss_cons (ps_if (pt_cmpR op_ne (pe_slice (r := rSlS) sl_str (pv 0) (po_some (pv 1)) (po_some (pe_op op_add (pv 1) pe_int))) pe_str (nomark _)) (pss_one (ps_raise rfl (takes_of rfl rfl rfl rfl) (pmkE T.T_BadText (ok_init_BadText T) (hr.mono (by decide)) T.b_BadText pass0 (by rfl) T.g_BadText (pa_cons pe_int pa_nil)))) pss_nil)
      (pss_cons (ps_set (i := 3) sc_read_fraction.nd rfl (by first | exact .inl rfl | exact .inr rfl) (pe_call (ok_integer_in T) (hr.mono (by decide)) (by rfl) T.d_integer_in.m T.d_integer_in.F.kp T.d_integer_in.b .nil pass0 (pa_cons (pe_slice (r := rSlS) sl_str (pv 0) (po_some (pe_op op_add (pv 1) pe_int)) po_none) pa_nil)))
      (pss_cons (ps_if (pt_cmpR op_isN (pv 3) pe_non (nomark _)) (pss_one (ps_raise rfl (takes_of rfl rfl rfl rfl) (pmkE T.T_BadText (ok_init_BadText T) (hr.mono (by decide)) T.b_BadText pass0 (by rfl) T.g_BadText (pa_cons pe_int pa_nil)))) pss_nil)
      (pss_one (ps_ret (pe_call (okX_need_fraction T) (hr.mono (by decide)) (by rfl) T.d_need_fraction.m T.d_need_fraction.F.kp T.d_need_fraction.b .nil (passes_call (takes_of rfl rfl rfl rfl) (fun _ _ _ _ z => z)) (pa_cons (pe_tup (pa_cons (pv 2) (pa_cons (pv 3) pa_nil))) pa_nil))))))))))), ?_⟩
    obtain ⟨v, d, rfl, hd, hl, q⟩ := h
    refine ⟨_, rfl, v, d, rfl, hd, fun hS => ?_, fun hS dd H' g e => ?_⟩
    case refine_2 =>
      rw [frOd_no hS] at q
      exact q dd H' g e
    obtain ⟨s, rfl⟩ := isS_str hS
    obtain rfl := dz_str hd
    have lz : s.length ≤ sizeLine := Nat.le_trans (hl s rfl) (by decide)
    have lc : ∀ lo hi, (cutS s lo hi).length ≤ sizeLine := fun lo hi => Nat.le_trans (cutS_len s lo hi) lz
    change Outs T (frO s) H Q E at q
    unfold frO at q
    refine ⟨_, rfl, s, rfl, lz, ?_⟩
    have e1 : ((runN s : Nat) : Int) + 1 = ((runN s + 1 : Nat) : Int) := by omega
    refine ⟨_, rfl, _, rfl, _, rfl, _, rfl, lz, _, rfl, lc _ _, ?_⟩
    cases ha : intIn (cutS s none (some ((runN s : Nat) : Int))) with
    | none =>
      rw [ha] at q
      dsimp only at q
      exact ⟨_, rfl, rfl, _, rfl, iteT (mk1_go fun dd nd => q dd _ (Gr.new nd) upd_same)⟩
    | some x =>
    rw [ha] at q
    dsimp only at q
    refine ⟨_, rfl, rfl, _, rfl, iteF ?_⟩
    refine ⟨_, rfl, _, rfl, _, rfl, _, rfl, _, _, rfl, rfl, _, rfl, _, rfl, lz, ?_⟩
    dsimp only
    rw [e1]
    by_cases hb : cutS s (some ((runN s : Nat) : Int)) (some ((runN s + 1 : Nat) : Int)) = Str.ofString "/"
    case neg =>
      rw [if_neg hb] at q
      exact ⟨rfl, _, rfl, iteTb (by rw [decide_eq_false (fun z => hb (V.str.inj z))]; rfl) (mk1_go fun dd nd => q dd _ (Gr.new nd) upd_same)⟩
    case pos =>
    rw [if_pos hb] at q
    refine ⟨rfl, _, rfl, iteFb (by rw [decide_eq_true (by rw [hb])]; rfl) ?_⟩
    refine ⟨_, rfl, _, rfl, _, _, rfl, rfl, _, rfl, _, rfl, lz, ?_⟩
    dsimp only
    rw [e1]
    refine ⟨_, rfl, lc _ _, ?_⟩
    cases hc : intIn (cutS s (some ((runN s + 1 : Nat) : Int)) none) with
    | none =>
      rw [hc] at q
      dsimp only at q
      exact ⟨_, rfl, rfl, _, rfl, iteT (mk1_go fun dd nd => q dd _ (Gr.new nd) upd_same)⟩
    | some n =>
    rw [hc] at q
    dsimp only at q
    refine ⟨_, rfl, rfl, _, rfl, iteF ?_⟩
    refine ⟨_, rfl, _, rfl, by show 2 ≤ sizeLine; decide, fun t nt => ?_⟩
    have gt := Gr.new (W := []) (o := .tup [.int (x : Nat), .int (n : Nat)]) nt
    have ht : (upd H t (.tup [.int (x : Nat), .int (n : Nat)])) t = some (.tup [.int (x : Nat), .int (n : Nat)]) := upd_same
    have eO : optV (some x) = V.int (x : Nat) ∧ optV (some n) = V.int (n : Nat) := ⟨rfl, rfl⟩
    rw [eO.1, eO.2]
    generalize upd H t (.tup [.int (x : Nat), .int (n : Nat)]) = H1 at gt ht ⊢
    refine ⟨.ref t, .tuple [.int (x : Nat), .int (n : Nat)], rfl, dz_tup ht (.cons (.int _) (.cons (.int _) .nil)), fun hf H2 g2 => ?_, fun hf dd H2 g2 hdd => ?_⟩
    · rw [frI_J] at hf
      rw [if_pos hf] at q
      exact q t H2 (gt.trans g2) (g2 t _ (by simp) ht)
    · rw [frI_J] at hf
      rw [if_neg (by rw [hf]; decide)] at q
      exact q dd t H2 (gt.trans g2) (g2 t _ (by simp) ht) hdd

end
end Wn
namespace Wn
open PySem PySem.Spec PyProof.Rows L2
open LamX (Tabs ExtN tLam)
local macro_rules | `(tactic| walk_at "vc") => `(tactic| simp only [cxK, cxK2, start1, start2, start3, tRet, tRetN, tSeq, tNext, tIfS, tAsg, gName, tDrop, tVar, tC, tOp, tUn, tTest, tB, tNot, tAnd, tOr, tAndV, tOrV, tNotV, tIf, tCons, tNil, tCB, tCall, tChain, tAug, ipI, rI, rI0, rU, rIs, rGcd, rEq, rNe, scal,
  List.getElem?_cons_zero, List.getElem?_cons_succ, List.set_cons_zero, List.set_cons_succ, Option.some.injEq, List.cons.injEq, V.int.injEq, V.bl.injEq, V.ref.injEq, V.str.injEq, and_true, true_and, exists_eq_left, exists_eq_left', exists_and_left, exists_and_right, List.append_nil, List.nil_append, List.cons_append, exists_eq_right, exists_eq_right', and_assoc, exists_const, V.ty.injEq, ↓reduceIte, Bool.false_eq_true, Bool.not_true, Bool.not_false, decide_eq_true_eq])

section
variable {P : Program} {w : World} {K : PySem.W.Frag} {mg : Str → Option Value} {base : Heap}
theorem spl_in : ∀ (l acc w : List Nat), w ∈ TL.spl [32] 0 acc l → w.length ≤ acc.length + l.length ∧ ∀ c ∈ w, c ∈ acc ∨ c ∈ l
  | [], acc, w, h => by
    have h : w ∈ [acc] := h
    rw [List.mem_singleton] at h
    subst h
    exact ⟨by simp, fun c hc => .inl hc⟩
  | c :: r, acc, w, h => by
    have h : w ∈ (if TL.pre [32] (c :: r) = true then acc :: TL.spl [32] 0 [] r else TL.spl [32] 0 (acc ++ [c]) r) := h
    split at h
    · rcases List.mem_cons.mp h with h | h
      · subst h
        exact ⟨by simp, fun c hc => .inl hc⟩
      · obtain ⟨h1, h2⟩ := spl_in r [] w h
        refine ⟨by simp at h1 ⊢; omega, fun d hd => ?_⟩
        rcases h2 d hd with z | z
        · cases z
        · exact .inr (List.mem_cons_of_mem _ z)
    · obtain ⟨h1, h2⟩ := spl_in r (acc ++ [c]) w h
      refine ⟨by simp at h1 ⊢; omega, fun d hd => ?_⟩
      rcases h2 d hd with z | z
      · rcases List.mem_append.mp z with z | z
        · exact .inl z
        · rw [List.mem_singleton] at z
          exact .inr (by rw [z]; exact List.mem_cons_self ..)
      · exact .inr (List.mem_cons_of_mem _ z)
theorem wd_in {s w : Str} (h : w ∈ Txt.split s (Str.ofString " ")) : w.length ≤ s.length ∧ (Asc s → Asc w) := by
  have e := TL.split_spl s (Str.ofString " ") (by decide +kernel) (TL.kind_ok (by decide +kernel))
  rw [show TL.tl (Str.ofString " ") = [32] from sp_tl] at e
  have hw : TL.tl w ∈ TL.spl [32] 0 [] (TL.tl s) := by
    rw [← e]
    exact List.mem_map_of_mem h
  obtain ⟨h1, h2⟩ := spl_in _ _ _ hw
  refine ⟨?_, fun ha c hc => ?_⟩
  · rw [len_cps, len_cps]
    simpa using h1
  · rcases h2 c hc with z | z
    · cases z
    · exact ha c z
theorem digL_ok {b : Nat} : ∀ ws : List Str, (∀ d ∈ digL b ws, d < b) ∧ (digL b ws).length ≤ ws.length
  | [] => ⟨fun d h => (by cases h), Nat.le_refl _⟩
  | w :: r => by
    obtain ⟨h1, h2⟩ := digL_ok (b := b) r
    unfold digL
    split
    · split
      · rename_i d hd
        refine ⟨fun x hx => ?_, by simp; omega⟩
        rcases List.mem_cons.mp hx with rfl | hx
        · exact hd
        · exact h1 x hx
      · exact ⟨fun d h => (by cases h), Nat.zero_le _⟩
    · exact ⟨fun d h => (by cases h), Nat.zero_le _⟩
theorem digIn_ok (b : Nat) (ws : List Str) : (∀ d ∈ digIn b ws, d < b) ∧ (digIn b ws).length ≤ 400 ∧ (digIn b ws).length ≤ ws.length := by
  obtain ⟨h1, h2⟩ := digL_ok (b := b) (ws.take 400)
  rw [List.length_take] at h2
  exact ⟨h1, Nat.le_trans h2 (Nat.min_le_left _ _), Nat.le_trans h2 (Nat.min_le_right _ _)⟩
/-- words as an expansion -/
def exT (b : Nat) (ws : List Str) (h g : List Nat) : Out :=
  if ws[h.length]? = some (Str.ofString "(") then
    if g = [] then .text (some (h.length + 1))
    else if ws[h.length + 1 + g.length]? = some (Str.ofString ")") then
      if h.length + 1 + g.length + 1 < ws.length then .text (some (h.length + 1 + g.length + 1))
      else if frN b h g = frD b h g then .nothing g
      else if (frF b h g).2 ≤ 5000 then .val (frF b h g).1 (frF b h g).2 else .great
    else .text (some (h.length + 1 + g.length))
  else .text (some h.length)
def exW (b : Nat) (ws : List Str) : Out := exT b ws (digIn b ws) (digIn b (ws.drop ((digIn b ws).length + 1)))
def exOd (b : Nat) : PyData → Out
  | .str s => exW b (Txt.split s (Str.ofString " "))
  | _ => .text none
theorem exOd_no {b : Nat} {d : PyData} (h : isS d = false) : exOd b d = .text none := by
  cases d with
  | str s => cases h
  | _ => rfl
def sp_read_expansionX (T : Txt K mg) : Sp := fun vs H Q E => ∃ (u : V) (du : PyData) (v : V) (d : PyData), vs = [u, v] ∧ Dz K H u du ∧ Dz K H v d ∧ (∀ s, d = .str s → s.length ≤ 4000 ∧ Asc s) ∧
  (isW 2 1000 du = false → ∀ dd H', Gr [] H H' → H' dd = some (.xd [("value", u)]) → E (.ref T.C_BadBase) (some dd) H') ∧ (∀ b : Nat, du = .int (b : Nat) → (2 ≤ b ∧ b ≤ 1000) → Outs T (exOd b d) H Q E)
theorem paren_asc : Asc (Str.ofString "(") ∧ Asc (Str.ofString ")") := ⟨by unfold Asc; decide +kernel, by unfold Asc; decide +kernel⟩
theorem okX_read_expansion (T : Txt K mg) : FnOk P w K mg base (L2.CX P w) 7 T.d_read_expansion.f T.d_read_expansion.fd ["base", "string"] (sp_read_expansionX T) := by
  refine T.d_read_expansion.F.okX sc_read_expansion (fun vs H Q E h => ?_) (fun cdv A outer s H vs Q E hr h => ?_)
  · obtain ⟨u, du, v, d, rfl, _⟩ := h; rfl
  · have hu := hu_of hr
    refine ⟨_, (pss_cons (ps_expr (pe_call (okX_need_base T) (hr.mono (by decide)) (by rfl) T.d_need_base.m T.d_need_base.F.kp T.d_need_base.b .nil (passes_call (takes_of rfl rfl rfl rfl) (fun _ _ _ _ z => z)) (pa_cons (pv 0) pa_nil)))
      (pss_cons (ps_expr (pe_call (okX_need_string T) (hr.mono (by decide)) (by rfl) T.d_need_string.m T.d_need_string.F.kp T.d_need_string.b .nil (passes_call (takes_of rfl rfl rfl rfl) (fun _ _ _ _ z => z)) (pa_cons (pv 1) pa_nil)))
      (pss_cons (ps_set (i := 2) sc_read_expansion.nd rfl (by first | exact .inl rfl | exact .inr rfl) (pe_split (pv 1) pe_str))
      (pss_cons (ps_set (i := 3) sc_read_expansion.nd rfl (by first | exact .inl rfl | exact .inr rfl) (pe_call (ok_digits_in T) (hr.mono (by decide)) (by rfl) T.d_digits_in.m T.d_digits_in.F.kp T.d_digits_in.b .nil pass0 (pa_cons (pv 0) (pa_cons (pv 2) pa_nil))))
      (pss_cons (ps_set (i := 4) sc_read_expansion.nd rfl (by first | exact .inl rfl | exact .inr rfl) (pe_op op_add (pe_callB (r := rLn K) call_ln (by rfl) T.b_len PySem.boot_len (pa_cons (pv 3) pa_nil)) pe_int))
      (pss_cons (ps_expr (pe_call (okX_need_word T) (hr.mono (by decide)) (by rfl) T.d_need_word.m T.d_need_word.F.kp T.d_need_word.b .nil (passes_call (takes_of rfl rfl rfl rfl) (fun _ _ _ _ z => z)) (pa_cons (pv 2) (pa_cons (pe_op op_sub (pv 4) pe_int) (pa_cons pe_str pa_nil)))))
      (pss_cons (ps_set (i := 5) sc_read_expansion.nd rfl (by first | exact .inl rfl | exact .inr rfl) (pe_call (ok_digits_in T) (hr.mono (by decide)) (by rfl) T.d_digits_in.m T.d_digits_in.F.kp T.d_digits_in.b .nil pass0 (pa_cons (pv 0) (pa_cons (pe_slice (r := rSlL K) sl_list (pv 2) (po_some (pv 4)) po_none) pa_nil))))
      (pss_cons (ps_if (pt_cmpR op_eq (pe_callB (r := rLn K) call_ln (by rfl) T.b_len PySem.boot_len (pa_cons (pv 5) pa_nil)) pe_int (nomark _)) (pss_one (ps_raise rfl (takes_of rfl rfl rfl rfl) (pmkE T.T_BadText (ok_init_BadText T) (hr.mono (by decide)) T.b_BadText pass0 (by rfl) T.g_BadText (pa_cons (pv 4) pa_nil)))) pss_nil)
      (pss_cons (ps_set (i := 6) sc_read_expansion.nd rfl (by first | exact .inl rfl | exact .inr rfl) (pe_op op_add (pv 4) (pe_callB (r := rLn K) call_ln (by rfl) T.b_len PySem.boot_len (pa_cons (pv 5) pa_nil))))
      (pss_cons (ps_expr (pe_call (okX_need_word T) (hr.mono (by decide)) (by rfl) T.d_need_word.m T.d_need_word.F.kp T.d_need_word.b .nil (passes_call (takes_of rfl rfl rfl rfl) (fun _ _ _ _ z => z)) (pa_cons (pv 2) (pa_cons (pv 6) (pa_cons pe_str pa_nil)))))
      (pss_cons (ps_if (pt_cmpR op_gt (pe_callB (r := rLn K) call_ln (by rfl) T.b_len PySem.boot_len (pa_cons (pv 2) pa_nil)) (pe_op op_add (pv 6) pe_int) (nomark _)) (pss_one (ps_raise rfl (takes_of rfl rfl rfl rfl) (pmkE T.T_BadText (ok_init_BadText T) (hr.mono (by decide)) T.b_BadText pass0 (by rfl) T.g_BadText (pa_cons (pe_op op_add (pv 6) pe_int) pa_nil)))) pss_nil)
      (pss_one (ps_ret (pe_call (okX_fraction_of T) (hr.mono (by decide)) (by rfl) T.d_fraction_of.m T.d_fraction_of.F.kp T.d_fraction_of.b .nil (passes_call (takes_of rfl rfl rfl rfl) (fun _ _ _ _ z => z)) (pa_cons (pv 0) (pa_cons (pv 3) (pa_cons (pv 5) pa_nil))))))))))))))))), ?_⟩
    obtain ⟨u, du, v, d, rfl, hu0, hd, hl, eb, q⟩ := h
    refine ⟨_, rfl, u, du, rfl, hu0, fun hb H0 g0 => ?_, fun hb dd H' g e => eb hb dd H' g e⟩
    obtain ⟨i, rfl, i1, i2⟩ := isW_int hb
    obtain ⟨b, rfl⟩ := Int.eq_ofNat_of_zero_le (show (0 : Int) ≤ i by omega)
    obtain rfl := dz_int hu0
    have hb1 : 2 ≤ b := by omega
    have hb2 : b ≤ 1000 := by omega
    have q := (q b rfl ⟨hb1, hb2⟩).gr g0
    have hd := Dz.gr g0 hd
    clear eb hb i1 i2 hu0 g0
    refine ⟨_, rfl, v, d, rfl, hd, fun hS => ?_, fun hS dd H' g e => ?_⟩
    case refine_2 =>
      rw [exOd_no hS] at q
      exact q dd H' g e
    obtain ⟨s, rfl⟩ := isS_str hS
    obtain rfl := dz_str hd
    obtain ⟨hsl, hsa⟩ := hl s rfl
    change Outs T (exW b (Txt.split s (Str.ofString " "))) H0 Q E at q
    have wsl : (Txt.split s (Str.ofString " ")).length ≤ s.length + 2 := PyProof.Rows.split_le _ _
    have wsw : ∀ w ∈ Txt.split s (Str.ofString " "), w.length ≤ sizeLine ∧ Asc w := fun w hw => ⟨Nat.le_trans (wd_in hw).1 (Nat.le_trans hsl (by decide)), (wd_in hw).2 hsa⟩
    refine ⟨_, rfl, ⟨_, rfl⟩, _, _, rfl, rfl, by decide +kernel, Nat.le_trans (show s.length + 2 ≤ 6000 by omega) (by decide), fun p np => ?_⟩
    generalize Txt.split s (Str.ofString " ") = ws at wsl wsw q ⊢
    have g1 := Gr.new (W := []) (o := .lst (ws.map V.str)) np
    have hp : (upd H0 p (.lst (ws.map V.str))) p = some (.lst (ws.map V.str)) := upd_same
    generalize upd H0 p (.lst (ws.map V.str)) = H1 at g1 hp ⊢
    have wz : ∀ w ∈ ws, w.length ≤ sizeLine := fun w hw => (wsw w hw).1
    have wa : ∀ w ∈ ws, Asc w := fun w hw => (wsw w hw).2
    refine ⟨_, rfl, _, rfl, b, p, ws, rfl, hp, wz, sz40 (by omega), fun t1 H2 g2 ht1 => ?_⟩
    unfold exW at q
    obtain ⟨hh1, hh2, hh3⟩ := digIn_ok b ws
    generalize digIn b ws = h at q hh1 hh2 hh3 ht1
    have hp2 := g2 p _ (by simp) hp
    refine ⟨_, rfl, t1, _, rfl, .inr (sq_tup ht1), _, _, rfl, rfl, ?_⟩
    rw [vn_len]
    have ea : (h.length : Int) + 1 = ((h.length + 1 : Nat) : Int) := by omega
    have eb : ((h.length + 1 : Nat) : Int) - 1 = ((h.length : Nat) : Int) := by omega
    dsimp only
    rw [ea]
    refine ⟨_, rfl, _, rfl, _, _, rfl, rfl, ?_⟩
    dsimp only
    rw [eb]
    refine ⟨p, ws, h.length, Str.ofString "(", rfl, hp2, wa, paren_asc.1, fun hk H3 g3 => ?_, fun hk dd H3 g3 hdd => ?_⟩
    case refine_2 =>
      unfold exT at q
      rw [if_neg hk] at q
      exact q dd H3 ((g1.trans g2).trans g3) hdd
    have hp3 := g3 p _ (by simp) hp2
    have ht13 := g3 t1 _ (by simp) ht1
    refine ⟨_, rfl, _, rfl, _, rfl, ((h.length + 1 : Nat) : Int), rfl, p, _, rfl, sq_lst hp3, fun p4 np4 => ?_⟩
    have hlt := (List.getElem?_eq_some_iff.mp hk).1
    have ec : cutV (ws.map V.str) (some ((h.length + 1 : Nat) : Int)) none = (ws.drop (h.length + 1)).map V.str := by
      rw [cut_hi (by rw [List.length_map]; omega), ← List.map_drop]
    rw [ec]
    have g4 := Gr.new (W := []) (o := .lst ((ws.drop (h.length + 1)).map V.str)) np4
    have hp4 : (upd H3 p4 (.lst ((ws.drop (h.length + 1)).map V.str))) p4 = some (.lst ((ws.drop (h.length + 1)).map V.str)) := upd_same
    have hp34 := g4 p _ (by simp) hp3
    have ht14 := g4 t1 _ (by simp) ht13
    generalize upd H3 p4 (.lst ((ws.drop (h.length + 1)).map V.str)) = H4 at g4 hp4 hp34 ht14 ⊢
    refine ⟨b, p4, ws.drop (h.length + 1), rfl, hp4, (fun w hw => wz w (List.mem_of_mem_drop hw)), sz40 (by rw [List.length_drop]; omega), fun t2 H5 g5 ht2 => ?_⟩
    obtain ⟨gg1, gg2, gg3⟩ := digIn_ok b (ws.drop (h.length + 1))
    generalize digIn b (ws.drop (h.length + 1)) = g at q gg1 gg2 gg3 ht2
    unfold exT at q
    rw [if_pos hk] at q
    have hp5 := g5 p _ (by simp) hp34
    have ht15 := g5 t1 _ (by simp) ht14
    have G5 := (((g1.trans g2).trans g3).trans g4).trans g5
    refine ⟨_, rfl, t2, _, rfl, .inr (sq_tup ht2), rfl, _, rfl, ?_⟩
    rw [vn_len]
    by_cases hg0 : g = []
    case pos =>
      rw [if_pos hg0] at q
      refine iteTb (decide_eq_true (by rw [hg0]; rfl)) ?_
      exact ⟨_, rfl, mk1_go fun dd nd => q dd _ (G5.trans (Gr.new nd)) upd_same⟩
    case neg =>
    rw [if_neg hg0] at q
    have hg1 : 1 ≤ g.length := List.length_pos_iff.mpr hg0
    refine iteFb (decide_eq_false (fun z => by have := V.int.inj z; omega)) ?_
    refine ⟨_, rfl, _, rfl, t2, _, rfl, .inr (sq_tup ht2), _, _, rfl, rfl, ?_⟩
    rw [vn_len]
    have ed : ((h.length + 1 : Nat) : Int) + (g.length : Int) = ((h.length + 1 + g.length : Nat) : Int) := by omega
    dsimp only
    rw [ed]
    refine ⟨_, rfl, _, rfl, p, ws, h.length + 1 + g.length, Str.ofString ")", rfl, hp5, wa, paren_asc.2, fun hk2 H6 g6 => ?_, fun hk2 dd H6 g6 hdd => ?_⟩
    case refine_2 =>
      rw [if_neg hk2] at q
      exact q dd H6 (G5.trans g6) hdd
    rw [if_pos hk2] at q
    have hp6 := g6 p _ (by simp) hp5
    have ht16 := g6 t1 _ (by simp) ht15
    have ht26 := g6 t2 _ (by simp) ht2
    have G6 := G5.trans g6
    refine ⟨_, rfl, p, _, rfl, .inl (sq_lst hp6), _, rfl, _, _, rfl, rfl, _, _, rfl, rfl, _, rfl, ?_⟩
    rw [List.length_map]
    by_cases hlong : h.length + 1 + g.length + 1 < ws.length
    case pos =>
      rw [if_pos hlong] at q
      refine iteTb (decide_eq_true (by omega)) ?_
      refine ⟨_, rfl, _, _, rfl, rfl, ?_⟩
      dsimp only
      rw [show ((h.length + 1 + g.length : Nat) : Int) + 1 = ((h.length + 1 + g.length + 1 : Nat) : Int) by omega]
      exact mk1_go fun dd nd => q dd _ (G6.trans (Gr.new nd)) upd_same
    case neg =>
    rw [if_neg hlong] at q
    refine iteFb (decide_eq_false (by omega)) ?_
    refine ⟨_, rfl, _, rfl, _, rfl, t1, t2, b, h, g, rfl, ht16, ht26, ⟨hh1, hh2⟩, ⟨⟨hb1, hb2⟩, gg1, hg1, gg2⟩, fun hv H7 d g7 nd => ?_, fun hv h5 H7 d g7 nd => ?_, fun hv h5 t H7 g7 h7 => ?_⟩
    · rw [if_pos hv] at q
      exact q d t2 _ (G6.trans (g7.trans (Gr.new nd))) ((g7.trans (Gr.new nd)) t2 _ (by simp) ht26) upd_same
    · rw [if_neg hv, if_neg (by omega)] at q
      exact q d _ (G6.trans (g7.trans (Gr.new nd))) upd_same
    · rw [if_neg hv, if_pos h5] at q
      exact q t H7 (G6.trans g7) h7

end
end Wn
namespace Wn
open PySem PySem.Spec PyProof.Rows L2
open LamX (Tabs ExtN tLam)
local macro_rules | `(tactic| walk_at "vc") => `(tactic| simp only [cxK, cxK2, start1, start2, start3, tRet, tRetN, tSeq, tNext, tIfS, tAsg, gName, tDrop, tVar, tC, tOp, tUn, tTest, tB, tNot, tAnd, tOr, tAndV, tOrV, tNotV, tIf, tCons, tNil, tCB, tCall, tChain, tAug, ipI, rI, rI0, rU, rIs, rGcd, rEq, rNe, scal,
  List.getElem?_cons_zero, List.getElem?_cons_succ, List.set_cons_zero, List.set_cons_succ, Option.some.injEq, List.cons.injEq, V.int.injEq, V.bl.injEq, V.ref.injEq, V.str.injEq, and_true, true_and, exists_eq_left, exists_eq_left', exists_and_left, exists_and_right, List.append_nil, List.nil_append, List.cons_append, exists_eq_right, exists_eq_right', and_assoc, exists_const, V.ty.injEq, ↓reduceIte, Bool.false_eq_true, Bool.not_true, Bool.not_false, decide_eq_true_eq])

section
variable {P : Program} {w : World} {K : PySem.W.Frag} {mg : Str → Option Value} {base : Heap}
def sp_law_is_figure : Sp := fun vs H Q _ => ∃ (c : Nat), vs = [.str ⟨#[c]⟩] ∧ ∀ H', Gr [] H H' → Q (.bl (dgC c)) H'
def sp_law_is_number : Sp := fun vs H Q _ => ∃ (s : Str), vs = [.str s] ∧ s.length ≤ 4000 ∧ Asc s ∧ ∀ H', Gr [] H H' → Q (.bl (intIn s).isSome) H'
def ten : List V := [.str (Str.ofString "0"), .str (Str.ofString "1"), .str (Str.ofString "2"), .str (Str.ofString "3"), .str (Str.ofString "4"), .str (Str.ofString "5"), .str (Str.ofString "6"), .str (Str.ofString "7"), .str (Str.ofString "8"), .str (Str.ofString "9")]
theorem str1_inj {a c : Nat} : ((⟨#[a]⟩ : Str) == ⟨#[c]⟩) = decide (c = a) := by
  rw [Bool.eq_iff_iff, beq_iff_eq, decide_eq_true_iff]
  constructor
  · intro h
    have := congrArg (fun u : Str => u.cps.toList) h
    simpa using this.symm
  · intro h
    rw [h]
theorem fig_in (c : Nat) : inV (.str ⟨#[c]⟩) ten = dgC c := by
  have e : ten = [.str ⟨#[48]⟩, .str ⟨#[49]⟩, .str ⟨#[50]⟩, .str ⟨#[51]⟩, .str ⟨#[52]⟩, .str ⟨#[53]⟩, .str ⟨#[54]⟩, .str ⟨#[55]⟩, .str ⟨#[56]⟩, .str ⟨#[57]⟩] := by
    unfold ten
    rw [show Str.ofString "0" = ⟨#[48]⟩ by decide +kernel, show Str.ofString "1" = ⟨#[49]⟩ by decide +kernel, show Str.ofString "2" = ⟨#[50]⟩ by decide +kernel, show Str.ofString "3" = ⟨#[51]⟩ by decide +kernel, show Str.ofString "4" = ⟨#[52]⟩ by decide +kernel, show Str.ofString "5" = ⟨#[53]⟩ by decide +kernel, show Str.ofString "6" = ⟨#[54]⟩ by decide +kernel, show Str.ofString "7" = ⟨#[55]⟩ by decide +kernel, show Str.ofString "8" = ⟨#[56]⟩ by decide +kernel, show Str.ofString "9" = ⟨#[57]⟩ by decide +kernel]
  rw [e]
  unfold inV
  simp only [List.any_cons, List.any_nil, eqV, str1_inj]
  unfold dgC
  rw [Bool.eq_iff_iff]
  simp only [Bool.or_eq_true, Bool.and_eq_true, decide_eq_true_iff, Bool.false_eq_true, or_false]
  omega
/-- signs that are no figures -/
def nfg (l : List Nat) : List Nat := l.filter fun c => !dgC c
def s1 (c : Nat) : Str := ⟨#[c]⟩
theorem nfg_take {l : List Nat} {i c : Nat} (h : l[i]? = some c) : nfg (l.take (i + 1)) = if dgC c = true then nfg (l.take i) else nfg (l.take i) ++ [c] := by
  obtain ⟨hi, e⟩ := List.getElem?_eq_some_iff.mp h
  rw [List.take_succ_eq_append_getElem hi, e]
  unfold nfg
  rw [List.filter_append]
  cases hd : dgC c <;> simp [hd]
theorem nfg_run (s : Str) : (nfg s.cps.toList).isEmpty = decide (runN s = s.length) := by
  rw [Bool.eq_iff_iff, decide_eq_true_iff, List.isEmpty_iff]
  unfold nfg runN
  rw [List.filter_eq_nil_iff, len_cps]
  constructor
  · intro h
    rw [take_all fun c hc => by simpa using h c hc]
  · intro h c hc
    have := take_len h c hc
    simp [this]
theorem dp_s1 {K : PySem.W.Frag} {H : Hp} : ∀ l : List Nat, DpAll K H (l.map fun c => V.str (s1 c)) (l.map fun c => PyData.str (s1 c))
  | [] => .nil
  | c :: r => .cons (.str _) (dp_s1 r)
theorem lay_s1 : ∀ l : List Nat, (∀ c ∈ l, c < 128) → PyData.canLayAll0 (l.map fun c => PyData.str (s1 c)) = true ∧ PyData.depthAll (l.map fun c => PyData.str (s1 c)) ≤ 1
  | [], _ => ⟨rfl, Nat.zero_le _⟩
  | c :: r, h => by
    obtain ⟨h1, h2⟩ := lay_s1 r fun x hx => h x (List.mem_cons_of_mem _ hx)
    refine ⟨?_, ?_⟩
    · show ((PyData.str (s1 c)).canLay0 && _) = true
      rw [h1, Asc.lay (s := s1 c) (fun x hx => by
        have : x = c := by simpa [s1] using hx
        rw [this]
        exact h c (List.mem_cons_self ..))]
      rfl
    · show max (PyData.depth (PyData.str (s1 c))) (PyData.depthAll _) ≤ 1
      exact Nat.max_le.mpr ⟨Nat.zero_le _, h2⟩
theorem shaped_s1 {l : List Nat} (h : ∀ c ∈ l, c < 128) : SeqAt.shaped (.list (l.map fun c => PyData.str (s1 c))) = true := by
  unfold SeqAt.shaped
  rw [Bool.and_eq_true]
  refine ⟨(lay_s1 l h).1, decide_eq_true ?_⟩
  show PyData.depthAll (l.map fun c => PyData.str (s1 c)) + 1 ≤ 64
  have := (lay_s1 l h).2
  omega
theorem eqv_s1 (l : List Nat) : PyData.eqv (.list (l.map fun c => PyData.str (s1 c))) (.list []) = l.isEmpty := by
  cases l with
  | nil => rfl
  | cons c r => rfl
theorem ok_law_is_figure (T : Txt K mg) : FnOk P w K mg base CX0 1 T.d_law_is_figure.f T.d_law_is_figure.fd ["sign"] sp_law_is_figure := by
  refine T.d_law_is_figure.F.ok sc_law_is_figure (fun vs H Q E h => ?_) (fun cdv A outer s H vs Q E hr h => ?_)
  · obtain ⟨c, rfl, _⟩ := h; rfl
  · have hu := hu_of hr
    refine ⟨_, (pss_one (ps_ret (pe_cmpR (r := rIn K false) op_in_seq (pv 0) (pe_tup (pa_cons pe_str (pa_cons pe_str (pa_cons pe_str (pa_cons pe_str (pa_cons pe_str (pa_cons pe_str (pa_cons pe_str (pa_cons pe_str (pa_cons pe_str (pa_cons pe_str pa_nil))))))))))) rfl))), ?_⟩
    obtain ⟨c, rfl, q⟩ := h
    refine ⟨_, rfl, by show 10 ≤ sizeLine; decide, fun p np => ?_⟩
    refine ⟨p, ten, rfl, .inr (sq_tup upd_same), rfl, rfl, ?_⟩
    have e : (if false = true then !inV (.str ⟨#[c]⟩) ten else inV (.str ⟨#[c]⟩) ten) = dgC c := by
      rw [if_neg (by decide), fig_in]
    rw [e]
    exact q _ (Gr.new np)
theorem ok_law_is_number (T : Txt K mg) : FnOk P w K mg base CX0 2 T.d_law_is_number.f T.d_law_is_number.fd ["text"] sp_law_is_number := by
  refine T.d_law_is_number.F.ok sc_law_is_number (fun vs H Q E h => ?_) (fun cdv A outer s H vs Q E hr h => ?_)
  · obtain ⟨s, rfl, _⟩ := h; rfl
  · have hu := hu_of hr
    refine ⟨_, (pss_cons (ps_if (PW.pt (pw_or (pt_not (pt_chain op_le op_le pe_int (pe_callB call_len_str (by rfl) T.b_len PySem.boot_len (pa_cons (pv 0) pa_nil)) pe_int)) (pw_or1 (pt_cmpR (r := rNeD K) (op_neD hr.units) (pe_lc (own := [("sign", 1)]) (g := gName 1) (tt := _) rfl sc_law_is_number.nd (pi_str (pv 0)) (blkOk_by (own := [("sign", 1)]) (N := ["text", "sign"]) (sc := defScope s_law_is_number) (by decide +kernel)) (fun _ _ _ _ _ => (pg_name (i := 1) sc_law_is_number.nd rfl (by first | exact .inl rfl | exact .inr rfl))) (fun _ _ _ _ _ => (pts_one (pt_not (pt_val (pe_call (ok_law_is_figure T) (hr.mono (by decide)) (by rfl) T.d_law_is_figure.m T.d_law_is_figure.F.kp T.d_law_is_figure.b .nil pass0 (pa_cons (pv 1) pa_nil)))))) (fun _ _ _ _ _ => (pv 1))) (pe_lst pa_nil) (nomark _))))) (pss_one (ps_ret pe_bl)) pss_nil)
      (pss_one (ps_ret (pe_or (pe_cmpR op_eq (pv 0) pe_str (nomark _)) (pe_one (pe_cmpR op_ne (pe_ix (r := rIxS) ix_str (pv 0) pe_int (fun _ _ => rfl)) pe_str (nomark _))))))), ?_⟩
    obtain ⟨s, rfl, hs, ha, q⟩ := h
    have hz : s.length ≤ sizeLine := Nat.le_trans hs (by decide)
    refine ⟨_, rfl, s, rfl, hz, _, _, rfl, rfl, _, rfl, ?_⟩
    by_cases h1 : 1 ≤ s.length
    case neg =>
      refine iteFb (decide_eq_false (by omega)) ⟨_, rfl, iteT ?_⟩
      unfold intIn at q
      rw [if_neg (fun z => h1 z.1)] at q
      exact q _ (Gr.refl _ _)
    case pos =>
    refine iteTb (decide_eq_true (by omega)) ⟨_, _, rfl, rfl, _, rfl, ?_⟩
    by_cases h2 : s.length ≤ 40
    case neg =>
      refine iteTb (by rw [decide_eq_false (show ¬ (s.length : Int) ≤ 40 by omega)]; rfl) ?_
      unfold intIn at q
      rw [if_neg (fun z => h2 z.2.1)] at q
      exact q _ (Gr.refl _ _)
    case pos =>
    refine iteFb (by rw [decide_eq_true (show (s.length : Int) ≤ 40 by omega)]; rfl) ?_
    refine ⟨_, rfl, s, rfl, fun D nD => ?_⟩
    have hsz : s.cps.size = s.cps.toList.length := by simp
    refine lc_it (walk_str (z := s)) (fun i H' => Gr [] H H' ∧ H' D = some (.lst ((nfg (s.cps.toList.take i)).map fun c => V.str (s1 c)))) ⟨Gr.new nD, upd_same⟩ (fun _ _ _ _ => True.intro) ?_ ?_
    · rintro i x H' H2 hi ⟨G, hD⟩ ⟨rfl, c, hc, rfl⟩
      have hc' : s.cps.toList[i]? = some c := by simpa using hc
      refine ⟨rfl, ?_⟩
      refine ⟨_, rfl, c, rfl, fun H3 g3 => ⟨_, rfl, ?_⟩⟩
      have hD3 := g3 D _ (by simp) hD
      have e := nfg_take hc'
      cases hd : dgC c with
      | true =>
        rw [if_pos hd] at e
        exact iteF ⟨G.trans g3, by rw [e]; exact hD3⟩
      | false =>
        rw [if_neg (by rw [hd]; decide)] at e
        refine iteT ⟨_, rfl, _, hD3, ?_, fun u o _ eu => ?_, ?_⟩
        · rw [List.length_map]
          have : (nfg (s.cps.toList.take i)).length ≤ 40 := Nat.le_trans (List.length_filter_le _ _) (by rw [List.length_take, ← hsz]; have := len_cps s; omega)
          exact Nat.lt_of_le_of_lt this (by decide)
        · rw [upd_ne (ne_of_none eu nD)]
          exact (G.trans g3) u o (by simp) eu
        · rw [upd_same, e, List.map_append]
          rfl
    rintro H4 ⟨G, hD⟩
    rw [hsz, List.take_length] at hD
    refine ⟨Nat.zero_le _, fun p np => ?_⟩
    have gp := Gr.new (W := []) (o := .lst []) np
    have hD5 := gp D _ (by simp) hD
    have hl : ∀ c ∈ nfg s.cps.toList, c < 128 := fun c hc => ha c (List.mem_filter.mp hc).1
    have G5 := G.trans gp
    refine ⟨_, _, dp_lst hD5 (dp_s1 _), dp_lst upd_same .nil, shaped_s1 hl, by rfl, _, rfl, ?_⟩
    rw [eqv_s1, nfg_run]
    generalize upd H4 p (.lst []) = H5 at G5 ⊢
    have q := q H5 G5
    by_cases h3 : runN s = s.length
    case neg =>
      refine iteTb (by rw [decide_eq_false h3]; rfl) ?_
      unfold intIn at q
      rw [if_neg (fun z => h3 z.2.2.1)] at q
      exact q
    case pos =>
    refine iteFb (by rw [decide_eq_true h3]; rfl) ?_
    have hl0 : 0 < s.cps.toList.length := by rw [← len_cps]; omega
    have hh : s.cps.toList.head? = some s.cps.toList[0] := by
      rw [List.head?_eq_getElem?, List.getElem?_eq_getElem hl0]
    have z48 : Str.ofString "0" = ⟨#[48]⟩ := by decide +kernel
    refine ⟨_, rfl, rfl, _, rfl, ?_⟩
    have len0 : ∀ c, s.cps.toList = [c] → s = ⟨#[c]⟩ := fun c e => TL.ext_tl (by show s.cps.toList = _; rw [e])
    by_cases hs0 : s = Str.ofString "0"
    · refine iteTb (decide_eq_true (by rw [hs0])) ?_
      have : (intIn s).isSome = true := by rw [hs0]; decide +kernel
      rw [this] at q
      exact q
    refine iteFb (decide_eq_false (fun z => hs0 (V.str.inj z))) ?_
    refine ⟨_, rfl, s, 0, s.cps.toList[0], rfl, rfl, hz, atI_nat (j := 0) (List.getElem?_eq_getElem hl0), rfl, ?_⟩
    have e : (intIn s).isSome = !decide (V.str ⟨#[s.cps.toList[0]]⟩ = V.str (Str.ofString "0")) := by
      by_cases h5 : s.cps.toList[0] = 48
      · have hl1 : 1 < s.length := by
          refine Nat.lt_of_not_le fun z => hs0 ?_
          have hl : s.cps.toList.length = 1 := by rw [← len_cps]; omega
          obtain ⟨c, ec⟩ := List.length_eq_one_iff.mp hl
          rw [len0 c ec, z48]
          have : s.cps.toList[0] = c := by simp [ec]
          rw [← this, h5]
        unfold intIn
        rw [if_neg (fun z => z.2.2.2 ⟨hl1, by rw [hh, h5]⟩), decide_eq_true (by rw [h5, z48])]
        rfl
      · unfold intIn
        rw [if_pos ⟨h1, h2, h3, fun z => h5 (by rw [hh] at z; exact Option.some.inj z.2)⟩, decide_eq_false (fun z => h5 ?_)]
        · rfl
        · have := V.str.inj z
          rw [z48] at this
          have := congrArg (fun u : Str => u.cps) this
          simpa using this
    rw [e] at q
    exact q

end
end Wn
namespace Wn
open PySem PySem.Spec PyProof.Rows L2
open LamX (Tabs ExtN tLam)
local macro_rules | `(tactic| walk_at "vc") => `(tactic| simp only [cxK, cxK2, start1, start2, start3, tRet, tRetN, tSeq, tNext, tIfS, tAsg, gName, tDrop, tVar, tC, tOp, tUn, tTest, tB, tNot, tAnd, tOr, tAndV, tOrV, tNotV, tIf, tCons, tNil, tCB, tCall, tChain, tAug, ipI, rI, rI0, rU, rIs, rGcd, rEq, rNe, scal,
  List.getElem?_cons_zero, List.getElem?_cons_succ, List.set_cons_zero, List.set_cons_succ, Option.some.injEq, List.cons.injEq, V.int.injEq, V.bl.injEq, V.ref.injEq, V.str.injEq, and_true, true_and, exists_eq_left, exists_eq_left', exists_and_left, exists_and_right, List.append_nil, List.nil_append, List.cons_append, exists_eq_right, exists_eq_right', and_assoc, exists_const, V.ty.injEq, ↓reduceIte, Bool.false_eq_true, Bool.not_true, Bool.not_false, decide_eq_true_eq])

section
variable {P : Program} {w : World} {K : PySem.W.Frag} {mg : Str → Option Value} {base : Heap}
/-- what is due -/
def dueO : Out → PyData
  | .val x n => .list [.tuple [.int (x : Nat), .int (n : Nat)]]
  | .text none => .tuple [.str (Str.ofString "text"), .none]
  | .text (some k) => .tuple [.str (Str.ofString "text"), .int (k : Nat)]
  | .frac x n => .tuple [.str (Str.ofString "fraction"), .tuple [.int (x : Nat), .int (n : Nat)]]
  | .nothing g => .tuple [.str (Str.ofString "nothing"), .tuple ((g.map fun d => ((d : Nat) : Int)).map PyData.int)]
  | .great => .tuple [.str (Str.ofString "great"), .int 5000]
def sp_law_fraction_due (K : PySem.W.Frag) : Sp := fun vs H Q _ => ∃ (v : V) (d : PyData), vs = [v] ∧ Dz K H v d ∧ (∀ s, d = .str s → s.length ≤ 4000 ∧ Asc s) ∧ ∀ p H', Gr [] H H' → Dz K H' p (dueO (frOd d)) → Q p H'
theorem merge1 {α : Type} {S F : α → Prop} {G : Prop} (h1 : (∀ a, S a → F a) → G) (h2 : ∀ a, S a → F a) : G := h1 h2
theorem cutS_asc {s : Str} (h : Asc s) (lo hi : Option Int) : Asc (cutS s lo hi) := fun c hc => by
  have hc : c ∈ (s.cps.toList.drop (HT.sIx s.length 0 lo)).take (HT.sIx s.length s.length hi - HT.sIx s.length 0 lo) := hc
  exact h c (List.mem_of_mem_drop (List.mem_of_mem_take hc))
theorem ok_law_fraction_due (T : Txt K mg) : FnOk P w K mg base CX0 3 T.d_law_fraction_due.f T.d_law_fraction_due.fd ["text"] (sp_law_fraction_due K) := by
  refine T.d_law_fraction_due.F.ok sc_law_fraction_due (fun vs H Q E h => ?_) (fun cdv A outer s H vs Q E hr h => ?_)
  · obtain ⟨v, d, rfl, _⟩ := h; rfl
  · have hu := hu_of hr
    refine ⟨_, (pss_cons (ps_if (pt_not (pt_val (pe_callB (r := rIs K) call_is (by rfl) T.b_isinstance (by decide +kernel) (pa_cons (pv 0) (pa_cons (pe_bltn (v := .ty "str") (by rfl) T.b_str (by decide +kernel) rfl) pa_nil))))) (pss_one (ps_ret (pe_tup (pa_cons pe_str (pa_cons pe_non pa_nil))))) pss_nil)
      (pss_cons (ps_set (i := 1) sc_law_fraction_due.nd rfl (by first | exact .inl rfl | exact .inr rfl) pe_int)
      (pss_cons (ps_while PassesOwn.never (PW.pt (pw_and (pt_cmpR op_lt (pv 1) (pe_callB call_len_str (by rfl) T.b_len PySem.boot_len (pa_cons (pv 0) pa_nil)) (nomark _)) (pw_and1 (pt_val (pe_call (ok_law_is_figure T) (hr.mono (by decide)) (by rfl) T.d_law_is_figure.m T.d_law_is_figure.F.kp T.d_law_is_figure.b .nil pass0 (pa_cons (pe_ix (r := rIxS) ix_str (pv 0) (pv 1) (fun _ _ => rfl)) pa_nil)))))) (pss_one (ps_set (i := 1) sc_law_fraction_due.nd rfl (by first | exact .inl rfl | exact .inr rfl) (pe_op op_add (pv 1) pe_int))))
      (pss_cons (ps_if (pt_not (pt_val (pe_call (ok_law_is_number T) (hr.mono (by decide)) (by rfl) T.d_law_is_number.m T.d_law_is_number.F.kp T.d_law_is_number.b .nil pass0 (pa_cons (pe_slice (r := rSlS) sl_str (pv 0) po_none (po_some (pv 1))) pa_nil)))) (pss_one (ps_ret (pe_tup (pa_cons pe_str (pa_cons pe_int pa_nil))))) pss_nil)
      (pss_cons (ps_if (pt_cmpR op_ne (pe_slice (r := rSlS) sl_str (pv 0) (po_some (pv 1)) (po_some (pe_op op_add (pv 1) pe_int))) pe_str (nomark _)) (pss_one (ps_ret (pe_tup (pa_cons pe_str (pa_cons pe_int pa_nil))))) pss_nil)
      (pss_cons (ps_if (pt_not (pt_val (pe_call (ok_law_is_number T) (hr.mono (by decide)) (by rfl) T.d_law_is_number.m T.d_law_is_number.F.kp T.d_law_is_number.b .nil pass0 (pa_cons (pe_slice (r := rSlS) sl_str (pv 0) (po_some (pe_op op_add (pv 1) pe_int)) po_none) pa_nil)))) (pss_one (ps_ret (pe_tup (pa_cons pe_str (pa_cons pe_int pa_nil))))) pss_nil)
      (pss_cons (ps_par (i := 2) (j := 3) (by rfl) sc_law_fraction_due.nd rfl rfl (by decide) rfl rfl (pa_cons (pe_callTy call_int_str (by rfl) T.b_int (by decide +kernel) (pa_cons (pe_slice (r := rSlS) sl_str (pv 0) po_none (po_some (pv 1))) pa_nil)) (pa_cons (pe_callTy call_int_str (by rfl) T.b_int (by decide +kernel) (pa_cons (pe_slice (r := rSlS) sl_str (pv 0) (po_some (pe_op op_add (pv 1) pe_int)) po_none) pa_nil)) pa_nil)) (by rfl))
      (pss_cons (ps_set (i := 4) sc_law_fraction_due.nd rfl (by first | exact .inl rfl | exact .inr rfl) (pe_and (pe_chain op_le op_le pe_int (pv 3) pe_int) (pe_and (pe_cmpR op_lt (pv 2) (pv 3) (nomark _)) (pe_one (pe_cmpR op_eq (pe_call (ok_law_divisor T) (hr.mono (by decide)) (by rfl) T.d_law_divisor.m T.d_law_divisor.F.kp T.d_law_divisor.b .nil pass0 (pa_cons (pv 2) (pa_cons (pv 3) pa_nil))) pe_int (nomark _))))))
      (pss_one (ps_ret (pe_ifExp (pt_val (pv 4)) (pe_lst (pa_cons (pe_tup (pa_cons (pv 2) (pa_cons (pv 3) pa_nil))) pa_nil)) (pe_tup (pa_cons pe_str (pa_cons (pe_tup (pa_cons (pv 2) (pa_cons (pv 3) pa_nil))) pa_nil)))))))))))))), ?_⟩
    obtain ⟨v, d, rfl, hd, hl, q⟩ := h
    refine ⟨_, rfl, v, "str", rfl, tyD d, ⟨(dz_ty hd).1, (dz_ty hd).2, by decide⟩, _, rfl, ?_⟩
    cases hS : isB (tyD d) "str" with
    | false =>
      rw [frOd_no hS] at q
      exact iteT ⟨by show 2 ≤ sizeLine; decide, fun p np => q (.ref p) _ (Gr.new np) (dz_tup upd_same (.cons (.str _) (.cons .non .nil)))⟩
    | true =>
    refine iteF ?_
    obtain ⟨s, rfl⟩ := isS_str hS
    obtain rfl := dz_str hd
    obtain ⟨hs4, hsa⟩ := hl s rfl
    have lz : s.length ≤ sizeLine := Nat.le_trans hs4 (by decide)
    have lc : ∀ lo hi, (cutS s lo hi).length ≤ 4000 := fun lo hi => Nat.le_trans (cutS_len s lo hi) hs4
    have ac : ∀ lo hi, Asc (cutS s lo hi) := fun lo hi => cutS_asc hsa lo hi
    have hr := run_le s
    apply merge1 (α := Hp) (S := fun H' => Gr [] H H')
    · intro hm
      refine ⟨fun m σ H' => Gr [] H H' ∧ ∃ i, i ≤ runN s ∧ m = runN s - i ∧ σ = [some (.str s), some (.int (i : Nat)), none, none, none], ⟨runN s, Gr.refl _ _, 0, Nat.zero_le _, by omega, rfl⟩, ?_⟩
      rintro m σ H' ⟨G, i, hi, rfl, rfl⟩
      refine ⟨_, rfl, _, rfl, s, rfl, lz, _, _, rfl, rfl, _, rfl, ?_⟩
      by_cases hl : i < s.length
      case neg =>
        obtain rfl : i = runN s := by omega
        refine iteFb (decide_eq_false (by omega)) (iteF ?_)
        exact hm H' G
      case pos =>
      refine iteTb (decide_eq_true (by omega)) ?_
      have hl' : i < s.cps.toList.length := by rw [← len_cps]; exact hl
      obtain ⟨t1, t2⟩ := take_at (f := dgC) (List.getElem?_eq_getElem hl') hi
      refine ⟨_, rfl, _, rfl, s, (i : Int), s.cps.toList[i], rfl, rfl, lz, atI_nat (List.getElem?_eq_getElem hl'), s.cps.toList[i], rfl, fun H2 g2 => ⟨_, rfl, ?_⟩⟩
      cases hd : dgC s.cps.toList[i] with
      | true =>
        refine iteT ⟨fun σ' H3 => Gr [] H H3 ∧ σ' = [some (.str s), some (.int ((i + 1 : Nat) : Int)), none, none, none], ?_, ?_⟩
        · rintro σ' H3 ⟨G3, rfl⟩
          have := t1 hd
          change i + 1 ≤ runN s at this
          exact ⟨runN s - (i + 1), by omega, G3, i + 1, this, rfl, rfl⟩
        · exact ⟨_, rfl, _, _, rfl, rfl, G.trans g2, rfl⟩
      | false =>
        have := t2 hd
        change i = runN s at this
        subst this
        exact iteF (hm H2 (G.trans g2))
    intro H1 G1
    change ∀ p H', Gr [] H H' → Dz K H' p (dueO (frO s)) → Q p H' at q
    unfold frO at q
    have e1 : ((runN s : Nat) : Int) + 1 = ((runN s + 1 : Nat) : Int) := by omega
    refine ⟨_, rfl, _, rfl, _, rfl, _, rfl, lz, _, rfl, lc _ _, ac _ _, fun H2 g2 => ⟨_, rfl, ?_⟩⟩
    have G2 := G1.trans g2
    cases ha : intIn (cutS s none (some ((runN s : Nat) : Int))) with
    | none =>
      rw [ha] at q
      exact iteT ⟨by show 2 ≤ sizeLine; decide, fun p np => q (.ref p) _ (G2.trans (Gr.new np)) (dz_tup upd_same (.cons (.str _) (.cons (.int _) .nil)))⟩
    | some x =>
    rw [ha] at q
    dsimp only at q
    refine iteF ?_
    refine ⟨_, rfl, _, rfl, _, rfl, _, rfl, _, _, rfl, rfl, _, rfl, _, rfl, lz, ?_⟩
    dsimp only
    rw [e1]
    by_cases hb : cutS s (some ((runN s : Nat) : Int)) (some ((runN s + 1 : Nat) : Int)) = Str.ofString "/"
    case neg =>
      rw [if_neg hb] at q
      refine ⟨rfl, _, rfl, iteTb (by rw [decide_eq_false (fun z => hb (V.str.inj z))]; rfl) ?_⟩
      exact ⟨by show 2 ≤ sizeLine; decide, fun p np => q (.ref p) _ (G2.trans (Gr.new np)) (dz_tup upd_same (.cons (.str _) (.cons (.int _) .nil)))⟩
    case pos =>
    rw [if_pos hb] at q
    refine ⟨rfl, _, rfl, iteFb (by rw [decide_eq_true (by rw [hb])]; rfl) ?_⟩
    refine ⟨_, rfl, _, rfl, _, _, rfl, rfl, _, rfl, _, rfl, lz, ?_⟩
    dsimp only
    rw [e1]
    refine ⟨_, rfl, lc _ _, ac _ _, fun H3 g3 => ⟨_, rfl, ?_⟩⟩
    have G3 := G2.trans g3
    cases hc : intIn (cutS s (some ((runN s + 1 : Nat) : Int)) none) with
    | none =>
      rw [hc] at q
      exact iteT ⟨by show 2 ≤ sizeLine; decide, fun p np => q (.ref p) _ (G3.trans (Gr.new np)) (dz_tup upd_same (.cons (.str _) (.cons (.int _) .nil)))⟩
    | some n =>
    rw [hc] at q
    dsimp only at q
    refine iteF ?_
    obtain ⟨i1, i2⟩ := intIn_int ha
    obtain ⟨i3, i4⟩ := intIn_int hc
    refine ⟨_, rfl, _, rfl, _, rfl, _, rfl, lz, _, _, rfl, i1, by omega, ?_⟩
    refine ⟨_, rfl, _, rfl, _, _, rfl, rfl, _, rfl, _, rfl, lz, ?_⟩
    dsimp only
    rw [e1]
    refine ⟨_, _, rfl, i3, by omega, ?_⟩
    refine ⟨_, _, rfl, ?_⟩
    apply merge1 (α := Bool) (S := fun b => b = frJ x n)
    · intro hm
      have ej : frJ x n = (decide (1 ≤ n) && decide (n ≤ 5000) && decide (x < n) && decide (Nat.gcd x n = 1)) := rfl
      refine ⟨_, rfl, _, _, rfl, rfl, _, rfl, ?_⟩
      by_cases h1 : 1 ≤ n
      case pos =>
        refine iteTb (decide_eq_true (by omega)) ⟨_, _, rfl, rfl, _, rfl, ?_⟩
        by_cases h2 : n ≤ 5000
        case pos =>
          refine iteTb (decide_eq_true (by omega)) ⟨_, rfl, _, rfl, _, _, rfl, rfl, _, rfl, ?_⟩
          by_cases h3 : x < n
          case pos =>
            refine iteTb (decide_eq_true (by omega)) ⟨_, rfl, _, rfl, x, n, rfl, rfl, ?_⟩
            have eb : decide (V.int (Nat.gcd x n : Nat) = V.int 1) = frJ x n := by
              rw [ej, decide_eq_true h1, decide_eq_true h2, decide_eq_true h3, Bool.true_and, Bool.true_and, Bool.true_and, Bool.eq_iff_iff, decide_eq_true_iff, decide_eq_true_iff]
              exact ⟨fun z => by have := V.int.inj z; omega, fun z => by rw [z]; rfl⟩
            generalize decide (V.int (Nat.gcd x n : Nat) = V.int 1) = bb at eb ⊢
            exact hm bb eb
          case neg =>
            refine iteFb (decide_eq_false (by omega)) ?_
            exact hm false (by rw [ej, decide_eq_false h3, Bool.and_false, Bool.false_and])
        case neg =>
          refine iteFb (decide_eq_false (by omega)) ?_
          exact hm false (by rw [ej, decide_eq_false h2, Bool.and_false, Bool.false_and, Bool.false_and])
      case neg =>
        refine iteFb (decide_eq_false (by omega)) ⟨_, rfl, iteF ?_⟩
        exact hm false (by rw [ej, decide_eq_false h1, Bool.false_and, Bool.false_and, Bool.false_and])
    rintro b rfl
    refine ⟨_, rfl, _, rfl, ?_⟩
    cases hj : frJ x n with
    | true =>
      rw [hj, if_pos rfl] at q
      refine iteT ?_
      refine ⟨_, rfl, _, rfl, by show 2 ≤ sizeLine; decide, fun p1 np1 => ⟨by show 1 ≤ sizeLine; decide, fun p2 np2 => ?_⟩⟩
      exact q (.ref p2) _ (G3.trans ((Gr.new np1).trans (Gr.new np2))) (dz_lst upd_same (.cons (Dz.gr (Gr.new np2) (dz_tup upd_same (.cons (.int _) (.cons (.int _) .nil)))) .nil))
    | false =>
      rw [hj, if_neg (by decide)] at q
      refine iteF ?_
      refine ⟨_, rfl, _, rfl, by show 2 ≤ sizeLine; decide, fun p1 np1 => ⟨by show 2 ≤ sizeLine; decide, fun p2 np2 => ?_⟩⟩
      exact q (.ref p2) _ (G3.trans ((Gr.new np1).trans (Gr.new np2))) (dz_tup upd_same (.cons (.str _) (.cons (Dz.gr (Gr.new np2) (dz_tup upd_same (.cons (.int _) (.cons (.int _) .nil)))) .nil)))

end
end Wn
namespace Wn
open PySem PySem.Spec PyProof.Rows L2
open LamX (Tabs ExtN tLam)
local macro_rules | `(tactic| walk_at "vc") => `(tactic| simp only [cxK, cxK2, start1, start2, start3, tRet, tRetN, tSeq, tNext, tIfS, tAsg, gName, tDrop, tVar, tC, tOp, tUn, tTest, tB, tNot, tAnd, tOr, tAndV, tOrV, tNotV, tIf, tCons, tNil, tCB, tCall, tChain, tAug, ipI, rI, rI0, rU, rIs, rGcd, rEq, rNe, scal,
  List.getElem?_cons_zero, List.getElem?_cons_succ, List.set_cons_zero, List.set_cons_succ, Option.some.injEq, List.cons.injEq, V.int.injEq, V.bl.injEq, V.ref.injEq, V.str.injEq, and_true, true_and, exists_eq_left, exists_eq_left', exists_and_left, exists_and_right, List.append_nil, List.nil_append, List.cons_append, exists_eq_right, exists_eq_right', and_assoc, exists_const, V.ty.injEq, ↓reduceIte, Bool.false_eq_true, Bool.not_true, Bool.not_false, decide_eq_true_eq])

section
variable {P : Program} {w : World} {K : PySem.W.Frag} {mg : Str → Option Value} {base : Heap}
/-- the number of the first wrong word -/
def exK (ws : List Str) (h g : List Nat) : Option Nat :=
  if ws[h.length]? = some (Str.ofString "(") then
    if g = [] then some (h.length + 1)
    else if ws[h.length + 1 + g.length]? = some (Str.ofString ")") then
      if h.length + 1 + g.length + 1 < ws.length then some (h.length + 1 + g.length + 1) else none
    else some (h.length + 1 + g.length)
  else some h.length
theorem exT_K (b : Nat) (ws : List Str) (h g : List Nat) : exT b ws h g = match exK ws h g with
    | some k => .text (some k)
    | none => if frN b h g = frD b h g then .nothing g else if (frF b h g).2 ≤ 5000 then .val (frF b h g).1 (frF b h g).2 else .great := by
  unfold exT exK
  split
  · split
    · rfl
    · split
      · split <;> rfl
      · rfl
  · rfl
def sp_law_words_read : Sp := fun vs H Q _ => ∃ (b : Nat) (a : Addr) (ws : List Str), vs = [.int b, .ref a] ∧ H a = some (.lst (ws.map V.str)) ∧ (∀ w ∈ ws, w.length ≤ 4000 ∧ Asc w) ∧ ws.length ≤ 5000 ∧
  (∀ k H', exK ws (digIn b ws) (digIn b (ws.drop ((digIn b ws).length + 1))) = some k → Gr [] H H' → Q (.int (k : Nat)) H') ∧
  (∀ t t1 t2 H', exK ws (digIn b ws) (digIn b (ws.drop ((digIn b ws).length + 1))) = none → Gr [] H H' → H' t = some (.tup [.ref t1, .ref t2]) → H' t1 = some (.tup (vn (digIn b ws))) → H' t2 = some (.tup (vn (digIn b (ws.drop ((digIn b ws).length + 1))))) → Q (.ref t) H')
/-- the first words are digits, that many -/
def Dg (b : Nat) (ws : List Str) (row : List Nat) : Prop := row.length ≤ 400 ∧ row.length ≤ ws.length ∧ digIn b ws = row ++ digL b ((ws.take 400).drop row.length)
theorem Dg.nil {b : Nat} {ws : List Str} : Dg b ws [] := ⟨Nat.zero_le _, Nat.zero_le _, rfl⟩
theorem drop_at {ws : List Str} {i : Nat} {w : Str} (h : ws[i]? = some w) (hi : i < 400) : (ws.take 400).drop i = w :: (ws.take 400).drop (i + 1) := by
  obtain ⟨h1, h2⟩ := List.getElem?_eq_some_iff.mp h
  have hl : i < (ws.take 400).length := by rw [List.length_take]; omega
  rw [List.drop_eq_getElem_cons hl, List.getElem_take, h2]
theorem digL_cons (b : Nat) (w : Str) (r : List Str) : digL b (w :: r) = (match intIn w with
    | some d => if d < b then d :: digL b r else []
    | none => []) := rfl
/-- the word behind them is none -/
theorem Dg.stop {b : Nat} {ws : List Str} {row : List Nat} (D : Dg b ws row) {w : Str} (h : ws[row.length]? = some w) (hw : intIn w = none ∨ (∃ d, intIn w = some d ∧ b ≤ d) ∨ row.length = 400) : digIn b ws = row := by
  obtain ⟨h1, _, h2⟩ := D
  rw [h2]
  have e : digL b ((ws.take 400).drop row.length) = [] := by
    by_cases hi : row.length < 400
    · rw [drop_at h hi, digL_cons]
      rcases hw with z | ⟨d, z, hd⟩ | z
      · rw [z]
      · rw [z]
        show (if d < b then _ else _) = _
        rw [if_neg (by omega)]
      · omega
    · rw [List.drop_of_length_le (by rw [List.length_take]; omega)]
      rfl
  rw [e, List.append_nil]
theorem Dg.end_ {b : Nat} {ws : List Str} {row : List Nat} (D : Dg b ws row) (h : row.length = ws.length) : digIn b ws = row := by
  obtain ⟨h1, _, h2⟩ := D
  rw [h2, List.drop_of_length_le (by rw [List.length_take]; omega)]
  show row ++ [] = row
  rw [List.append_nil]
theorem Dg.next {b : Nat} {ws : List Str} {row : List Nat} (D : Dg b ws row) {w : Str} {d : Nat} (h : ws[row.length]? = some w) (hw : intIn w = some d) (hd : d < b) (hl : row.length ≠ 400) : Dg b ws (row ++ [d]) := by
  obtain ⟨h1, _, h2⟩ := D
  have hlt := (List.getElem?_eq_some_iff.mp h).1
  refine ⟨by rw [List.length_append]; show row.length + 1 ≤ 400; omega, by rw [List.length_append]; show row.length + 1 ≤ _; omega, ?_⟩
  rw [h2, drop_at h (by omega), digL_cons, hw]
  show row ++ (if d < b then _ else _) = _
  rw [if_pos hd, List.append_assoc, List.length_append]
  rfl
/-- where the reading stands -/
def Ph (b : Nat) (ws : List Str) (i : Nat) (h g : List Nat) : Bool → Prop
  | false => g = [] ∧ h.length = i ∧ Dg b ws h
  | true => digIn b ws = h ∧ ws[h.length]? = some (Str.ofString "(") ∧ h.length + 1 + g.length = i ∧ Dg b (ws.drop (h.length + 1)) g
theorem vn_emp {ds : List Nat} : PyData.eqv (.list ((ds.map fun d => ((d : Nat) : Int)).map PyData.int)) (.list []) = ds.isEmpty := by
  cases ds <;> rfl
theorem mergeP {F G : Prop} (h1 : F → G) (h2 : F) : G := h1 h2
section
variable {b i : Nat} {ws : List Str} {h g : List Nat} {w : Str}
def Bd (b : Nat) (w : Str) (row : List Nat) : Prop := intIn w = none ∨ (∃ d, intIn w = some d ∧ b ≤ d) ∨ row.length = 400
theorem Ph.stopF (P : Ph b ws i h g false) (hw : ws[i]? = some w) (hn : w ≠ Str.ofString "(") (hb : Bd b w h) : exK ws (digIn b ws) (digIn b (ws.drop ((digIn b ws).length + 1))) = some i := by
  obtain ⟨rfl, rfl, D⟩ := P
  rw [D.stop hw hb]
  unfold exK
  rw [if_neg (fun z => hn (by rw [hw] at z; exact Option.some.inj z))]
theorem Ph.get (P : Ph b ws i h g true) : (ws.drop (h.length + 1))[g.length]? = ws[i]? := by
  obtain ⟨_, _, rfl, _⟩ := P
  rw [List.getElem?_drop]
theorem Ph.stopT (P : Ph b ws i h g true) (hw : ws[i]? = some w) (hn : w ≠ Str.ofString ")" ∨ g = []) (hb : Bd b w g) : exK ws (digIn b ws) (digIn b (ws.drop ((digIn b ws).length + 1))) = some i := by
  have eg := P.get
  obtain ⟨e1, e2, e3, D⟩ := P
  rw [e1, D.stop (by rw [eg]; exact hw) hb]
  unfold exK
  rw [if_pos e2]
  by_cases hg : g = []
  · rw [if_pos hg, ← e3, hg]
    rfl
  · rw [if_neg hg, if_neg (fun z => ?_), e3]
    rw [e3, hw] at z
    rcases hn with hn | hn
    · exact hn (Option.some.inj z)
    · exact hg hn
theorem Ph.closeT (P : Ph b ws i h g true) (hw : ws[i]? = some (Str.ofString ")")) (hg : g ≠ []) : digIn b ws = h ∧ digIn b (ws.drop (h.length + 1)) = g ∧ exK ws (digIn b ws) (digIn b (ws.drop ((digIn b ws).length + 1))) = if i + 1 < ws.length then some (i + 1) else none := by
  have eg := P.get
  obtain ⟨e1, e2, e3, D⟩ := P
  have e4 := D.stop (by rw [eg]; exact hw) (.inl no_par.2)
  refine ⟨e1, e4, ?_⟩
  rw [e1, e4]
  unfold exK
  rw [if_pos e2, if_neg hg, e3, if_pos hw]
theorem Ph.endF (P : Ph b ws ws.length h g false) : exK ws (digIn b ws) (digIn b (ws.drop ((digIn b ws).length + 1))) = some ws.length := by
  obtain ⟨e0, e1, D⟩ := P
  rw [D.end_ e1]
  unfold exK
  rw [if_neg (fun z => by rw [e1, List.getElem?_eq_none (Nat.le_refl _)] at z; cases z), e1]
theorem Ph.endT (P : Ph b ws ws.length h g true) : exK ws (digIn b ws) (digIn b (ws.drop ((digIn b ws).length + 1))) = some ws.length := by
  obtain ⟨e1, e2, e3, D⟩ := P
  rw [e1, D.end_ (by rw [List.length_drop]; omega)]
  unfold exK
  rw [if_pos e2]
  by_cases hg : g = []
  · rw [if_pos hg, ← e3, hg]
    rfl
  · rw [if_neg hg, if_neg (fun z => by rw [e3, List.getElem?_eq_none (Nat.le_refl _)] at z; cases z), e3]
theorem Ph.openF (P : Ph b ws i h g false) (hw : ws[i]? = some (Str.ofString "(")) : Ph b ws (i + 1) h g true := by
  obtain ⟨rfl, rfl, D⟩ := P
  exact ⟨D.stop hw (.inl no_par.1), hw, rfl, Dg.nil⟩
theorem Ph.nextF (P : Ph b ws i h g false) {d : Nat} (hw : ws[i]? = some w) (e : intIn w = some d) (hd : d < b) (hl : h.length ≠ 400) : Ph b ws (i + 1) (h ++ [d]) g false := by
  obtain ⟨rfl, rfl, D⟩ := P
  exact ⟨rfl, by rw [List.length_append]; rfl, D.next hw e hd hl⟩
theorem Ph.nextT (P : Ph b ws i h g true) {d : Nat} (hw : ws[i]? = some w) (e : intIn w = some d) (hd : d < b) (hl : g.length ≠ 400) : Ph b ws (i + 1) h (g ++ [d]) true := by
  have eg := P.get
  obtain ⟨e1, e2, e3, D⟩ := P
  exact ⟨e1, e2, by rw [List.length_append]; show h.length + 1 + (g.length + 1) = i + 1; omega, D.next (by rw [eg]; exact hw) e hd hl⟩
end
theorem ok_law_words_read (T : Txt K mg) : FnOk P w K mg base CX0 3 T.d_law_words_read.f T.d_law_words_read.fd ["b", "words"] sp_law_words_read := by
  refine T.d_law_words_read.F.ok sc_law_words_read (fun vs H Q E h => ?_) (fun cdv A outer s H vs Q E hr h => ?_)
  · obtain ⟨b, a, ws, rfl, _⟩ := h; rfl
  · have hu := hu_of hr
    refine ⟨_, (pss_cons (ps_par3 (i := 2) (j := 3) (l := 4) (by rfl) sc_law_words_read.nd rfl rfl rfl (by decide) (by decide) (by decide) rfl rfl rfl (pa_cons (pe_lst pa_nil) (pa_cons (pe_lst pa_nil) (pa_cons pe_bl pa_nil))) (by rfl))
      (pss_cons (ps_for PassesOwn.never rfl (pi_enum (by rfl) T.b_enumerate (pa_cons (pv 1) pa_nil)) (pg_tup (by rfl) (pgs_cons (pg_name (i := 5) sc_law_words_read.nd rfl (by first | exact .inl rfl | exact .inr rfl)) (pgs_cons (pg_name (i := 6) sc_law_words_read.nd rfl (by first | exact .inl rfl | exact .inr rfl)) pgs_nil))) (pss_one (ps_if (PW.pt (pw_and (pt_cmpR op_eq (pv 6) pe_str (nomark _)) (pw_and1 (pt_not (pt_val (pv 4)))))) (pss_one (ps_set (i := 4) sc_law_words_read.nd rfl (by first | exact .inl rfl | exact .inr rfl) pe_bl)) (pss_one (ps_if (PW.pt (pw_and (pt_cmpR op_eq (pv 6) pe_str (nomark _)) (pw_and (pt_val (pv 4)) (pw_and1 (pt_cmpR (r := rNeD K) (op_neD hr.units) (pv 3) (pe_lst pa_nil) (nomark _)))))) (pss_one (ps_ret (pe_ifExp (pt_cmpR op_eq (pv 5) (pe_op op_sub (pe_callB (r := rLn K) call_ln (by rfl) T.b_len PySem.boot_len (pa_cons (pv 1) pa_nil)) pe_int) (nomark _)) (pe_tup (pa_cons (pe_callTy (r := rTpO K) call_tpO (by rfl) T.b_tuple (by decide +kernel) (pa_cons (pv 2) pa_nil)) (pa_cons (pe_callTy (r := rTpO K) call_tpO (by rfl) T.b_tuple (by decide +kernel) (pa_cons (pv 3) pa_nil)) pa_nil))) (pe_op op_add (pv 5) pe_int)))) (pss_cons (ps_set (i := 7) sc_law_words_read.nd rfl (by first | exact .inl rfl | exact .inr rfl) (pe_ifExp (pt_val (pv 4)) (pv 3) (pv 2)))
      (pss_cons (ps_if (PW.pt (pw_or (pt_not (pt_val (pe_call (ok_law_is_number T) (hr.mono (by decide)) (by rfl) T.d_law_is_number.m T.d_law_is_number.F.kp T.d_law_is_number.b .nil pass0 (pa_cons (pv 6) pa_nil)))) (pw_or (pt_cmpR op_ge (pe_callTy call_int_str (by rfl) T.b_int (by decide +kernel) (pa_cons (pv 6) pa_nil)) (pv 0) (nomark _)) (pw_or1 (pt_cmpR op_eq (pe_callB (r := rLn K) call_ln (by rfl) T.b_len PySem.boot_len (pa_cons (pv 7) pa_nil)) pe_int (nomark _)))))) (pss_one (ps_ret (pv 5))) pss_nil)
      (pss_one (ps_expr (pe_bm PySem.F.plainAttrs_list PySem.F.slot_list_append PySem.F.type_list_append mt_append (pv 7) (pa_cons (pe_callTy call_int_str (by rfl) T.b_int (by decide +kernel) (pa_cons (pv 6) pa_nil)) pa_nil)))))))))))
      (pss_one (ps_ret (pe_callB (r := rLn K) call_ln (by rfl) T.b_len PySem.boot_len (pa_cons (pv 1) pa_nil)))))), ?_⟩
    obtain ⟨b, a, ws, rfl, ha, hw, hl, q1, q2⟩ := h
    refine ⟨Nat.zero_le _, fun hA nhA => ⟨Nat.zero_le _, fun rA nrA => ⟨_, _, _, rfl, ?_⟩⟩⟩
    have g0 := (Gr.new (W := []) (o := .lst []) nhA).trans (Gr.new (W := []) (o := .lst []) nrA)
    have hh0 : (upd (upd H hA (.lst [])) rA (.lst [])) hA = some (.lst (vn [])) := (Gr.new (W := []) nrA) hA _ (by simp) upd_same
    have hr0 : (upd (upd H hA (.lst [])) rA (.lst [])) rA = some (.lst (vn [])) := upd_same
    have nhr : hA ≠ rA := fun z => by rw [z] at hh0 nrA; rw [← z, upd_same] at nrA; cases nrA
    have nH1 : H hA = none := nhA
    have nH2 : H rA = none := by
      rw [upd_ne (Ne.symm nhr)] at nrA
      exact nrA
    generalize upd (upd H hA (.lst [])) rA (.lst []) = H1 at g0 hh0 hr0 ⊢
    clear nhA nrA
    have ha1 := g0 a _ (by simp) ha
    refine ⟨_, rfl, a, _, rfl, sq_lst ha1, ?_⟩
    refine for_enumL (D := ⟨_, Q, fun _ _ => False, fun _ _ => False⟩) (K := K) (a := a) (xs := ws.map V.str) (fun i σ H' => Gr [] H H' ∧ ∃ (h g : List Nat) (o : Bool) (v5 v6 v7 : Option V), H' hA = some (.lst (vn h)) ∧ H' rA = some (.lst (vn g)) ∧ Ph b ws i h g o ∧ σ = [some (.int b), some (.ref a), some (.ref hA), some (.ref rA), some (.bl o), v5, v6, v7]) ⟨g0, [], [], false, none, none, none, hh0, hr0, ⟨rfl, rfl, Dg.nil⟩, rfl⟩ (fun i σ H' _ z => sq_lst (z.1 a _ (by simp) ha)) ?_ ?_
    · rintro i x Tt σ H' hx nT ⟨G, h, g, o, v5, v6, v7, hh, hr, P, rfl⟩
      obtain ⟨w, hwi, rfl⟩ : ∃ w, ws[i]? = some w ∧ x = .str w := by
        rw [List.getElem?_map] at hx
        cases e : ws[i]? with
        | none => rw [e] at hx; cases hx
        | some w => rw [e] at hx; exact ⟨w, rfl, (Option.some.inj hx).symm⟩
      have hwm := List.mem_of_getElem? hwi
      have gT := Gr.new (W := []) (o := .tup [.int (i : Nat), .str w]) nT
      refine ⟨Tt, _, rfl, sq_tup upd_same, rfl, _, _, rfl, _, _, rfl, rfl, ?_⟩
      have hh2 := gT hA _ (by simp) hh
      have hr2 := gT rA _ (by simp) hr
      have G2 := G.trans gT
      generalize upd H' Tt (.tup [.int (i : Nat), .str w]) = H2 at gT hh2 hr2 G2 ⊢
      clear gT hh hr G nT hx
      apply merge1 (α := Nat) (S := fun _ => w ≠ Str.ofString "(" ∨ o = true)
      · intro hm
        obtain ⟨z0, _⟩ : ∃ z : Nat, True := ⟨0, True.intro⟩
        refine ⟨_, rfl, rfl, _, rfl, ?_⟩
        by_cases hwo : w = Str.ofString "("
        case neg =>
          exact iteFb (decide_eq_false (fun z => hwo (V.str.inj z))) (iteF (hm z0 (.inl hwo)))
        case pos =>
          refine iteTb (decide_eq_true (by rw [hwo])) ⟨_, rfl, _, rfl, ?_⟩
          by_cases ho : o = true
          case pos => exact iteFb (by rw [ho]; rfl) (hm z0 (.inr ho))
          case neg =>
            have ho' : o = false := by simpa using ho
            refine iteTb (by rw [ho']; rfl) ⟨G2, h, g, true, _, _, _, hh2, hr2, ?_, rfl⟩
            rw [ho'] at P
            exact P.openF (by rw [hwi, hwo])
      rintro _ c1
      apply merge1 (α := Hp) (S := fun H4 => Gr [] H H4 ∧ H4 hA = some (.lst (vn h)) ∧ H4 rA = some (.lst (vn g)) ∧ (w ≠ Str.ofString ")" ∨ o = false ∨ g = []))
      · intro hm
        obtain ⟨H3, eH3⟩ : ∃ H3, H3 = H2 := ⟨_, rfl⟩
        rw [← eH3] at G2 hh2 hr2 ⊢
        clear eH3
        refine ⟨_, rfl, rfl, _, rfl, ?_⟩
        by_cases hwo : w = Str.ofString ")"
        case neg =>
          exact iteFb (decide_eq_false (fun z => hwo (V.str.inj z))) (iteF (hm H3 ⟨G2, hh2, hr2, .inl hwo⟩))
        case pos =>
        refine iteTb (decide_eq_true (by rw [hwo])) ⟨_, rfl, _, rfl, ?_⟩
        by_cases ho : o = true
        case neg =>
          have ho' : o = false := by simpa using ho
          exact iteFb ho' (iteF (hm H3 ⟨G2, hh2, hr2, .inr (.inl ho')⟩))
        case pos =>
        refine iteTb ho ⟨_, rfl, Nat.zero_le _, fun e1 ne1 => ?_⟩
        have ge := Gr.new (W := []) (o := .lst []) ne1
        have hh4 := ge hA _ (by simp) hh2
        have hr4 := ge rA _ (by simp) hr2
        have he4 : (upd H3 e1 (.lst [])) e1 = some (.lst []) := upd_same
        have G4 := G2.trans ge
        generalize upd H3 e1 (.lst []) = H4 at ge hh4 hr4 he4 G4 ⊢
        have dr : Dp K H4 (.ref rA) (.list ((g.map fun d => ((d : Nat) : Int)).map PyData.int)) := dp_lst (by rw [hr4]; unfold vn; rw [List.map_map]; rfl) (dpAll_ints _)
        refine ⟨_, _, dr, dp_lst he4 .nil, shaped_ints _, by rfl, _, rfl, ?_⟩
        rw [vn_emp]
        by_cases hg : g = []
        case pos =>
          exact iteFb (by rw [hg]; rfl) (hm H4 ⟨G4, hh4, hr4, .inr (.inr hg)⟩)
        case neg =>
        refine iteTb (by cases g with | nil => exact absurd rfl hg | cons => rfl) ?_
        have hwc : ws[i]? = some (Str.ofString ")") := by rw [hwi, hwo]
        rw [ho] at P
        obtain ⟨c1, c2, c3⟩ := P.closeT hwc hg
        have ha4 := G4 a _ (by simp) ha
        have hil := (List.getElem?_eq_some_iff.mp hwi).1
        refine ⟨_, rfl, _, rfl, a, _, rfl, .inl (sq_lst ha4), _, _, rfl, rfl, rfl, _, rfl, ?_⟩
        rw [List.length_map]
        by_cases hi : i + 1 < ws.length
        case pos =>
          rw [if_pos hi] at c3
          refine iteFb (decide_eq_false (fun z => by have := V.int.inj z; omega)) ⟨_, rfl, _, _, rfl, rfl, ?_⟩
          exact q1 (i + 1) H4 c3 G4
        case neg =>
        rw [if_neg hi] at c3
        refine iteTb (decide_eq_true (congrArg V.int (by omega))) ?_
        refine ⟨_, rfl, hA, vn h, rfl, .inl ⟨sq_lst hh4, fun t1 n1 => ?_⟩⟩
        have k1 := Gr.new (W := []) (o := .tup (vn h)) n1
        have e1 : (upd H4 t1 (.tup (vn h))) t1 = some (.tup (vn h)) := upd_same
        have hr5 := k1 rA _ (by simp) hr4
        have G5 := G4.trans k1
        generalize upd H4 t1 (.tup (vn h)) = H5 at k1 e1 hr5 G5 ⊢
        refine ⟨_, rfl, rA, vn g, rfl, .inl ⟨sq_lst hr5, fun t2 n2 => ?_⟩⟩
        have k2 := Gr.new (W := []) (o := .tup (vn g)) n2
        have e2 : (upd H5 t2 (.tup (vn g))) t2 = some (.tup (vn g)) := upd_same
        have e1' := k2 t1 _ (by simp) e1
        have G6 := G5.trans k2
        generalize upd H5 t2 (.tup (vn g)) = H6 at k2 e2 e1' G6 ⊢
        refine ⟨by show 2 ≤ sizeLine; decide, fun t nt => ?_⟩
        have k3 := Gr.new (W := []) (o := .tup [.ref t1, .ref t2]) nt
        exact q2 t t1 t2 _ c3 (G6.trans k3) upd_same (by rw [c1]; exact k3 t1 _ (by simp) e1') (by rw [c1, c2]; exact k3 t2 _ (by simp) e2)
      rintro H4 ⟨G4, hh4, hr4, c2⟩
      refine ⟨_, rfl, _, rfl, ?_⟩
      by_cases ho : o = true
      case pos =>
        rw [ho] at P
        have c3 : w ≠ Str.ofString ")" ∨ g = [] := by
          rcases c2 with z | z | z
          · exact .inl z
          · rw [ho] at z
            cases z
          · exact .inr z
        refine iteTb ho ?_
        refine ⟨_, rfl, _, rfl, w, rfl, (hw w hwm).1, (hw w hwm).2, fun H5 g5 => ⟨_, rfl, ?_⟩⟩
        have hh5 := g5 hA _ (by simp) hh4
        have hr5 := g5 rA _ (by simp) hr4
        have G5 := G4.trans g5
        cases ei : intIn w with
        | none => exact iteT (iteT ⟨_, rfl, q1 i H5 (P.stopT hwi c3 (.inl ei)) G5⟩)
        | some d =>
        refine iteF ?_
        obtain ⟨n1, n2⟩ := intIn_int ei
        refine ⟨_, rfl, _, _, rfl, n1, by omega, _, rfl, _, _, rfl, rfl, _, rfl, ?_⟩
        by_cases hd : d < b
        case neg =>
          exact iteTb (decide_eq_true (by omega)) (iteT ⟨_, rfl, q1 i H5 (P.stopT hwi c3 (.inr (.inl ⟨d, ei, by omega⟩))) G5⟩)
        case pos =>
        refine iteFb (decide_eq_false (by omega)) ?_
        refine ⟨_, rfl, rA, _, rfl, .inl (sq_lst hr5), rfl, _, rfl, ?_⟩
        rw [vn_len]
        by_cases h4 : g.length = 400
        case pos =>
          exact iteTb (decide_eq_true (by rw [h4]; rfl)) ⟨_, rfl, q1 i H5 (P.stopT hwi c3 (.inr (.inr h4))) G5⟩
        case neg =>
        refine iteFb (decide_eq_false (fun z => h4 (by have := V.int.inj z; omega))) ?_
        refine ⟨_, rfl, .inl ⟨rfl, _, sq_lst hr5⟩, _, rfl, _, _, rfl, n1, by omega, rA, _, _, rfl, rfl, hr5, ?_, ?_⟩
        · rw [vn_len]
          have := P.2.2.2.1
          exact Nat.lt_of_lt_of_le (show g.length < 6000 by omega) (by decide)
        · refine ⟨fun u o' _ e => ?_, h, g ++ [d], o, _, _, _, ?_, ?_, ?_, rfl⟩
          · rw [upd_ne (ne_of_none e nH2)]
            exact G5 u o' (by simp) e
          · rw [upd_ne nhr]
            exact hh5
          · rw [upd_same]
            unfold vn
            rw [List.map_append]
            rfl
          · rw [ho]
            exact P.nextT hwi ei hd h4
      case neg =>
        have ho' : o = false := by simpa using ho
        rw [ho'] at P
        have c3 : w ≠ Str.ofString "(" := by
          rcases c1 with z | z
          · exact z
          · exact absurd z ho
        refine iteFb ho' ?_
        refine ⟨_, rfl, _, rfl, w, rfl, (hw w hwm).1, (hw w hwm).2, fun H5 g5 => ⟨_, rfl, ?_⟩⟩
        have hh5 := g5 hA _ (by simp) hh4
        have hr5 := g5 rA _ (by simp) hr4
        have G5 := G4.trans g5
        cases ei : intIn w with
        | none => exact iteT (iteT ⟨_, rfl, q1 i H5 (P.stopF hwi c3 (.inl ei)) G5⟩)
        | some d =>
        refine iteF ?_
        obtain ⟨n1, n2⟩ := intIn_int ei
        refine ⟨_, rfl, _, _, rfl, n1, by omega, _, rfl, _, _, rfl, rfl, _, rfl, ?_⟩
        by_cases hd : d < b
        case neg =>
          exact iteTb (decide_eq_true (by omega)) (iteT ⟨_, rfl, q1 i H5 (P.stopF hwi c3 (.inr (.inl ⟨d, ei, by omega⟩))) G5⟩)
        case pos =>
        refine iteFb (decide_eq_false (by omega)) ?_
        refine ⟨_, rfl, hA, _, rfl, .inl (sq_lst hh5), rfl, _, rfl, ?_⟩
        rw [vn_len]
        by_cases h4 : h.length = 400
        case pos =>
          exact iteTb (decide_eq_true (by rw [h4]; rfl)) ⟨_, rfl, q1 i H5 (P.stopF hwi c3 (.inr (.inr h4))) G5⟩
        case neg =>
        refine iteFb (decide_eq_false (fun z => h4 (by have := V.int.inj z; omega))) ?_
        refine ⟨_, rfl, .inl ⟨rfl, _, sq_lst hh5⟩, _, rfl, _, _, rfl, n1, by omega, hA, _, _, rfl, rfl, hh5, ?_, ?_⟩
        · rw [vn_len]
          have := P.2.2.1
          exact Nat.lt_of_lt_of_le (show h.length < 6000 by omega) (by decide)
        · refine ⟨fun u o' _ e => ?_, h ++ [d], g, o, _, _, _, ?_, ?_, ?_, rfl⟩
          · rw [upd_ne (ne_of_none e nH1)]
            exact G5 u o' (by simp) e
          · rw [upd_same]
            unfold vn
            rw [List.map_append]
            rfl
          · rw [upd_ne (Ne.symm nhr)]
            exact hr5
          · rw [ho']
            exact P.nextF hwi ei hd h4
    rintro σ H4 ⟨G, h, g, o, v5, v6, v7, hh, hr, P, rfl⟩
    refine ⟨_, rfl, a, _, rfl, .inl (sq_lst (G a _ (by simp) ha)), ?_⟩
    rw [List.length_map] at P ⊢
    cases o with
    | true => exact q1 ws.length H4 P.endT G
    | false => exact q1 ws.length H4 P.endF G

end
end Wn
namespace Wn
open PySem PySem.Spec PyProof.Rows L2
open LamX (Tabs ExtN tLam)
local macro_rules | `(tactic| walk_at "vc") => `(tactic| simp only [cxK, cxK2, start1, start2, start3, tRet, tRetN, tSeq, tNext, tIfS, tAsg, gName, tDrop, tVar, tC, tOp, tUn, tTest, tB, tNot, tAnd, tOr, tAndV, tOrV, tNotV, tIf, tCons, tNil, tCB, tCall, tChain, tAug, ipI, rI, rI0, rU, rIs, rGcd, rEq, rNe, scal,
  List.getElem?_cons_zero, List.getElem?_cons_succ, List.set_cons_zero, List.set_cons_succ, Option.some.injEq, List.cons.injEq, V.int.injEq, V.bl.injEq, V.ref.injEq, V.str.injEq, and_true, true_and, exists_eq_left, exists_eq_left', exists_and_left, exists_and_right, List.append_nil, List.nil_append, List.cons_append, exists_eq_right, exists_eq_right', and_assoc, exists_const, V.ty.injEq, ↓reduceIte, Bool.false_eq_true, Bool.not_true, Bool.not_false, decide_eq_true_eq])

section
variable {P : Program} {w : World} {K : PySem.W.Frag} {mg : Str → Option Value} {base : Heap}
def sp_law_expansion_due (K : PySem.W.Frag) : Sp := fun vs H Q _ => ∃ (b : Nat) (v : V) (d : PyData), vs = [.int b, v] ∧ Dz K H v d ∧ (∀ s, d = .str s → s.length ≤ 4000 ∧ Asc s) ∧ (2 ≤ b ∧ b ≤ 1000) ∧ ∀ p H', Gr [] H H' → Dz K H' p (dueO (exOd b d)) → Q p H'
theorem exK_none {ws : List Str} {h g : List Nat} (e : exK ws h g = none) : 1 ≤ g.length := by
  unfold exK at e
  split at e
  · split at e
    · cases e
    · rename_i hg
      exact List.length_pos_iff.mpr hg
  · cases e
theorem dz_vn {K : PySem.W.Frag} {H : Hp} {t : Addr} {g : List Nat} (h : H t = some (.tup (vn g))) : Dz K H (.ref t) (.tuple ((g.map fun d => ((d : Nat) : Int)).map PyData.int)) := by
  refine dz_tup h ?_
  have : ∀ g : List Nat, DzAll K H (vn g) ((g.map fun d => ((d : Nat) : Int)).map PyData.int) := fun g => by
    induction g with
    | nil => exact .nil
    | cons d r ih => exact .cons (.int _) ih
  exact this g
theorem ok_law_expansion_due (T : Txt K mg) : FnOk P w K mg base CX0 4 T.d_law_expansion_due.f T.d_law_expansion_due.fd ["b", "text"] (sp_law_expansion_due K) := by
  refine T.d_law_expansion_due.F.ok sc_law_expansion_due (fun vs H Q E h => ?_) (fun cdv A outer s H vs Q E hr h => ?_)
  · obtain ⟨b, v, d, rfl, _⟩ := h; rfl
  · have hu := hu_of hr
    refine ⟨_, (pss_cons (ps_if (pt_not (pt_val (pe_callB (r := rIs K) call_is (by rfl) T.b_isinstance (by decide +kernel) (pa_cons (pv 1) (pa_cons (pe_bltn (v := .ty "str") (by rfl) T.b_str (by decide +kernel) rfl) pa_nil))))) (pss_one (ps_ret (pe_tup (pa_cons pe_str (pa_cons pe_non pa_nil))))) pss_nil)
      (pss_cons (ps_set (i := 2) sc_law_expansion_due.nd rfl (by first | exact .inl rfl | exact .inr rfl) (pe_call (ok_law_words_read T) (hr.mono (by decide)) (by rfl) T.d_law_words_read.m T.d_law_words_read.F.kp T.d_law_words_read.b .nil pass0 (pa_cons (pv 0) (pa_cons (pe_split (pv 1) pe_str) pa_nil))))
      (pss_cons (ps_if (pt_val (pe_callB (r := rIs K) call_is (by rfl) T.b_isinstance (by decide +kernel) (pa_cons (pv 2) (pa_cons (pe_bltn (v := .ty "int") (by rfl) T.b_int (by decide +kernel) rfl) pa_nil)))) (pss_one (ps_ret (pe_tup (pa_cons pe_str (pa_cons (pv 2) pa_nil))))) pss_nil)
      (pss_cons (ps_asg (pv 2) (pg_tup (by rfl) (pgs_cons (pg_name (i := 3) sc_law_expansion_due.nd rfl (by first | exact .inl rfl | exact .inr rfl)) (pgs_cons (pg_name (i := 4) sc_law_expansion_due.nd rfl (by first | exact .inl rfl | exact .inr rfl)) pgs_nil))))
      (pss_cons (ps_set (i := 5) sc_law_expansion_due.nd rfl (by first | exact .inl rfl | exact .inr rfl) (pe_op op_sub (pe_call (ok_law_power T) (hr.mono (by decide)) (by rfl) T.d_law_power.m T.d_law_power.F.kp T.d_law_power.b .nil pass0 (pa_cons (pv 0) (pa_cons (pe_callB (r := rLn K) call_ln (by rfl) T.b_len PySem.boot_len (pa_cons (pv 4) pa_nil)) pa_nil))) pe_int))
      (pss_cons (ps_par (i := 6) (j := 7) (by rfl) sc_law_expansion_due.nd rfl rfl (by decide) rfl rfl (pa_cons (pe_op op_add (pe_op op_mulW (pe_call (ok_law_worth T) (hr.mono (by decide)) (by rfl) T.d_law_worth.m T.d_law_worth.F.kp T.d_law_worth.b .nil pass0 (pa_cons (pv 0) (pa_cons (pv 3) pa_nil))) (pv 5)) (pe_call (ok_law_worth T) (hr.mono (by decide)) (by rfl) T.d_law_worth.m T.d_law_worth.F.kp T.d_law_worth.b .nil pass0 (pa_cons (pv 0) (pa_cons (pv 4) pa_nil)))) (pa_cons (pe_op op_mulW (pe_call (ok_law_power T) (hr.mono (by decide)) (by rfl) T.d_law_power.m T.d_law_power.F.kp T.d_law_power.b .nil pass0 (pa_cons (pv 0) (pa_cons (pe_callB (r := rLn K) call_ln (by rfl) T.b_len PySem.boot_len (pa_cons (pv 3) pa_nil)) pa_nil))) (pv 5)) pa_nil)) (by rfl))
      (pss_cons (ps_if (pt_cmpR op_eq (pv 6) (pv 7) (nomark _)) (pss_one (ps_ret (pe_tup (pa_cons pe_str (pa_cons (pv 4) pa_nil))))) pss_nil)
      (pss_cons (ps_set (i := 8) sc_law_expansion_due.nd rfl (by first | exact .inl rfl | exact .inr rfl) (pe_call (ok_law_divisor T) (hr.mono (by decide)) (by rfl) T.d_law_divisor.m T.d_law_divisor.F.kp T.d_law_divisor.b .nil pass0 (pa_cons (pv 6) (pa_cons (pv 7) pa_nil))))
      (pss_one (ps_ret (pe_ifExp (pt_cmpR op_le (pe_op op_fdivW (pv 7) (pv 8)) pe_int (nomark _)) (pe_lst (pa_cons (pe_tup (pa_cons (pe_op op_fdivW (pv 6) (pv 8)) (pa_cons (pe_op op_fdivW (pv 7) (pv 8)) pa_nil))) pa_nil)) (pe_tup (pa_cons pe_str (pa_cons pe_int pa_nil)))))))))))))), ?_⟩
    obtain ⟨b, v, d, rfl, hd, hl, ⟨hb1, hb2⟩, q⟩ := h
    refine ⟨_, rfl, v, "str", rfl, tyD d, ⟨(dz_ty hd).1, (dz_ty hd).2, by decide⟩, _, rfl, ?_⟩
    cases hS : isB (tyD d) "str" with
    | false =>
      rw [exOd_no hS] at q
      exact iteT ⟨by show 2 ≤ sizeLine; decide, fun p np => q (.ref p) _ (Gr.new np) (dz_tup upd_same (.cons (.str _) (.cons .non .nil)))⟩
    | true =>
    refine iteF ?_
    obtain ⟨s, rfl⟩ := isS_str hS
    obtain rfl := dz_str hd
    obtain ⟨hs4, hsa⟩ := hl s rfl
    have wsl : (Txt.split s (Str.ofString " ")).length ≤ s.length + 2 := PyProof.Rows.split_le _ _
    have wsw : ∀ w ∈ Txt.split s (Str.ofString " "), w.length ≤ 4000 ∧ Asc w := fun w hw => ⟨Nat.le_trans (wd_in hw).1 hs4, (wd_in hw).2 hsa⟩
    change ∀ p H', Gr [] H H' → Dz K H' p (dueO (exW b (Txt.split s (Str.ofString " ")))) → Q p H' at q
    refine ⟨_, rfl, _, rfl, ⟨_, rfl⟩, _, _, rfl, rfl, by decide +kernel, Nat.le_trans (show s.length + 2 ≤ 6000 by omega) (by decide), fun p np => ?_⟩
    generalize Txt.split s (Str.ofString " ") = ws at wsl wsw q ⊢
    have g1 := Gr.new (W := []) (o := .lst (ws.map V.str)) np
    have hp : (upd H p (.lst (ws.map V.str))) p = some (.lst (ws.map V.str)) := upd_same
    generalize upd H p (.lst (ws.map V.str)) = H1 at g1 hp ⊢
    unfold exW at q
    refine ⟨b, p, ws, rfl, hp, wsw, by omega, fun k H2 ek g2 => ?_, fun t a c H2 ek g2 ht ha hc => ?_⟩
    case refine_1 =>
      rw [exT_K, ek] at q
      refine ⟨_, rfl, _, "int", rfl, "int", ⟨.base (.int _), by decide, by decide⟩, _, rfl, iteT ?_⟩
      exact ⟨_, rfl, by show 2 ≤ sizeLine; decide, fun p2 np2 => q (.ref p2) _ ((g1.trans g2).trans (Gr.new np2)) (dz_tup upd_same (.cons (.str _) (.cons (.int _) .nil)))⟩
    rw [exT_K, ek] at q
    dsimp only at q
    have h1 := exK_none ek
    obtain ⟨hh1, hh2, _⟩ := digIn_ok b ws
    obtain ⟨gg1, gg2, _⟩ := digIn_ok b (ws.drop ((digIn b ws).length + 1))
    clear ek
    generalize digIn b (ws.drop ((digIn b ws).length + 1)) = g at q h1 gg1 gg2 hc
    generalize digIn b ws = h at q hh1 hh2 ha
    refine ⟨_, rfl, _, "int", rfl, "tuple", ⟨.base (.tup ht), by decide, by decide⟩, _, rfl, iteF ?_⟩
    refine ⟨_, rfl, t, _, rfl, sq_tup ht, rfl, _, _, rfl, _, _, rfl, rfl, ?_⟩
    have G2 := g1.trans g2
    refine ⟨_, rfl, _, rfl, c, _, rfl, .inr (sq_tup hc), b, g.length, ?_, ⟨hb2, by omega⟩, _, _, rfl, rfl, ?_⟩
    · rw [vn_len]
      rfl
    dsimp only
    rw [nines_cast hb1]
    have p1 := pow4 (k := g.length) hb2 gg2
    have p2 := pow4 (k := h.length) hb2 hh2
    have wh := Nat.lt_trans (wrt_lt hh1) p2
    have np : b ^ g.length - 1 < 2 ^ 4001 := Nat.lt_of_le_of_lt (Nat.sub_le _ _) p1
    have cm : ∀ {u v : Nat}, u < 2 ^ 4001 → v < 2 ^ 4001 → CMulW (u : Int) (v : Int) := fun h1 h2 => wide_mul (a := 4001) (b := 4001) (by rw [Int.natAbs_natCast]; exact h1) (by rw [Int.natAbs_natCast]; exact h2) (by decide) (by decide) (by decide)
    refine ⟨_, rfl, _, rfl, b, a, h, rfl, ha, hb2, _, rfl, _, _, rfl, rfl, cm wh np, _, rfl, _, rfl, b, c, g, rfl, hc, hb2, _, _, rfl, rfl, ?_⟩
    refine ⟨_, rfl, _, rfl, a, _, rfl, .inr (sq_tup ha), b, h.length, ?_, ⟨hb2, by omega⟩, _, rfl, _, _, rfl, rfl, cm p2 np, ?_⟩
    · rw [vn_len]
      rfl
    refine ⟨_, _, rfl, ?_⟩
    dsimp only
    have en : ((wrt b h : Nat) : Int) * ((b ^ g.length - 1 : Nat) : Int) + ((wrt b g : Nat) : Int) = ((frN b h g : Nat) : Int) := by
      unfold frN
      rw [Int.natCast_add, Int.natCast_mul]
    have ed : ((b ^ h.length : Nat) : Int) * ((b ^ g.length - 1 : Nat) : Int) = ((frD b h g : Nat) : Int) := by
      unfold frD
      rw [Int.natCast_mul]
    rw [en, ed]
    have dp := frD_pos (h := h) hb1 h1
    have db := frD_bits (h := h) (g := g) hb2 hh2 gg2
    obtain ⟨c1, c2⟩ := frF_den (h := h) hb1 h1
    unfold frF at q
    generalize frN b h g = N at *
    generalize frD b h g = D at *
    refine ⟨_, rfl, _, rfl, rfl, _, rfl, ?_⟩
    by_cases hND : N = D
    · rw [if_pos hND] at q
      refine iteTb (decide_eq_true (by rw [hND])) ?_
      exact ⟨_, rfl, by show 2 ≤ sizeLine; decide, fun p3 np3 => q (.ref p3) _ (G2.trans (Gr.new np3)) (dz_tup upd_same (.cons (.str _) (.cons (Dz.gr (Gr.new np3) (dz_vn hc)) .nil)))⟩
    rw [if_neg hND] at q
    refine iteFb (decide_eq_false (fun z => hND (by have := V.int.inj z; omega))) ?_
    refine ⟨_, rfl, _, rfl, N, D, rfl, ?_⟩
    have cd : CDivW (D : Int) ((Nat.gcd N D : Nat) : Int) := wide_div (b := 8002) (by omega) (by rw [Int.natAbs_natCast]; exact Nat.lt_of_le_of_lt c2 db) (by decide) (by decide)
    refine ⟨_, rfl, _, rfl, _, _, rfl, rfl, cd, _, _, rfl, rfl, _, rfl, ?_⟩
    dsimp only
    rw [← Int.natCast_ediv]
    by_cases hg : D / Nat.gcd N D ≤ 5000
    · rw [if_pos hg] at q
      refine iteTb (decide_eq_true (by omega)) ?_
      refine ⟨_, rfl, _, rfl, _, _, rfl, rfl, cd, _, rfl, _, rfl, _, _, rfl, rfl, cd, by show 2 ≤ sizeLine; decide, fun t3 nt3 => ⟨by show 1 ≤ sizeLine; decide, fun p3 np3 => ?_⟩⟩
      dsimp only
      rw [← Int.natCast_ediv, ← Int.natCast_ediv]
      exact q (.ref p3) _ (G2.trans ((Gr.new nt3).trans (Gr.new np3))) (dz_lst upd_same (.cons (Dz.gr (Gr.new np3) (dz_tup upd_same (.cons (.int _) (.cons (.int _) .nil)))) .nil))
    · rw [if_neg hg] at q
      refine iteFb (decide_eq_false (by omega)) ?_
      exact ⟨by show 2 ≤ sizeLine; decide, fun p3 np3 => q (.ref p3) _ (G2.trans (Gr.new np3)) (dz_tup upd_same (.cons (.str _) (.cons (.int _) .nil)))⟩

end
end Wn
namespace Wn
open PySem PySem.Spec PyProof.Rows L2
open LamX (Tabs ExtN tLam)
local macro_rules | `(tactic| walk_at "vc") => `(tactic| simp only [cxK, cxK2, start1, start2, start3, tRet, tRetN, tSeq, tNext, tIfS, tAsg, gName, tDrop, tVar, tC, tOp, tUn, tTest, tB, tNot, tAnd, tOr, tAndV, tOrV, tNotV, tIf, tCons, tNil, tCB, tCall, tChain, tAug, ipI, rI, rI0, rU, rIs, rGcd, rEq, rNe, scal,
  List.getElem?_cons_zero, List.getElem?_cons_succ, List.set_cons_zero, List.set_cons_succ, Option.some.injEq, List.cons.injEq, V.int.injEq, V.bl.injEq, V.ref.injEq, V.str.injEq, and_true, true_and, exists_eq_left, exists_eq_left', exists_and_left, exists_and_right, List.append_nil, List.nil_append, List.cons_append, exists_eq_right, exists_eq_right', and_assoc, exists_const, V.ty.injEq, ↓reduceIte, Bool.false_eq_true, Bool.not_true, Bool.not_false, decide_eq_true_eq])

section
variable {P : Program} {w : World} {K : PySem.W.Frag} {mg : Str → Option Value} {base : Heap}
def sp_law_bent : Sp := fun vs H Q _ => ∃ (d : Addr) (s : Str) (k : Nat), vs = [.ref d, .str s] ∧ MOk H d k ∧ (s.length ≤ 3000 ∧ Asc s ∧ k + 10 ≤ 900000000) ∧ ∀ s' H', s'.length ≤ s.length + 3 → Asc s' → Gr [d] H H' → MOk H' d (k + 3) → Q (.str s') H'
theorem len_cut1 (s : Str) (a : Nat) : (cutS s none (some (a : Int))).length = min a s.length := by
  rw [len_cps]
  show ((s.cps.toList.drop (HT.sIx s.length 0 none)).take (HT.sIx s.length s.length (some (a : Int)) - HT.sIx s.length 0 none)).length = _
  rw [HT.sIx_none, HT.sIx_nat, List.length_take, List.length_drop, ← len_cps]
  omega
theorem len_cut2 (s : Str) (c : Nat) : (cutS s (some (c : Int)) none).length = s.length - min c s.length := by
  rw [len_cps]
  show ((s.cps.toList.drop (HT.sIx s.length 0 (some (c : Int)))).take (HT.sIx s.length s.length none - HT.sIx s.length 0 (some (c : Int)))).length = _
  rw [HT.sIx_none, HT.sIx_nat, List.length_take, List.length_drop, ← len_cps]
  omega
theorem len_appS (x y : Str) : (x ++ y).length = x.length + y.length := by
  rw [len_cps, len_cps, len_cps]
  show (TL.tl (x ++ y)).length = _
  rw [TL.tl_append, List.length_append]
theorem asc_app {x y : Str} (h1 : Asc x) (h2 : Asc y) : Asc (x ++ y) := fun c hc => by
  have hc : c ∈ TL.tl (x ++ y) := hc
  rw [TL.tl_append] at hc
  rcases List.mem_append.mp hc with z | z
  · exact h1 c z
  · exact h2 c z
def signs : List Str := [Str.ofString "0", Str.ofString "1", Str.ofString "7", Str.ofString "9", Str.ofString " ", Str.ofString "/", Str.ofString "(", Str.ofString ")", Str.ofString "-", Str.ofString ".", Str.ofString "x", Str.ofString "12", Str.ofString " 0 ", Str.ofString "\n", Str.ofString "( "]
theorem signs_ok : ∀ s ∈ signs, s.length ≤ 3 ∧ Asc s := by
  unfold Asc
  decide +kernel
theorem ok_law_bent (T : Txt K mg) : FnOk P w K mg base CX0 3 T.d_law_bent.f T.d_law_bent.fd ["m", "text"] sp_law_bent := by
  refine T.d_law_bent.F.ok sc_law_bent (fun vs H Q E h => ?_) (fun cdv A outer s H vs Q E hr h => ?_)
  · obtain ⟨d, s, k, rfl, _⟩ := h; rfl
  · have hu := hu_of hr
    refine ⟨_, (pss_cons (ps_par (i := 2) (j := 3) (by rfl) sc_law_bent.nd rfl rfl (by decide) rfl rfl (pa_cons (pe_call (ok_law_draw T) (hr.mono (by decide)) (by rfl) T.d_law_draw.m T.d_law_draw.F.kp T.d_law_draw.b .nil pass0 (pa_cons (pv 0) (pa_cons (pe_op op_add (pe_callB call_len_str (by rfl) T.b_len PySem.boot_len (pa_cons (pv 1) pa_nil)) pe_int) pa_nil))) (pa_cons (pe_call (ok_law_draw T) (hr.mono (by decide)) (by rfl) T.d_law_draw.m T.d_law_draw.F.kp T.d_law_draw.b .nil pass0 (pa_cons (pv 0) (pa_cons pe_int pa_nil))) pa_nil)) (by rfl))
      (pss_cons (ps_set (i := 4) sc_law_bent.nd rfl (by first | exact .inl rfl | exact .inr rfl) (pe_call (ok_law_of T) (hr.mono (by decide)) (by rfl) T.d_law_of.m T.d_law_of.F.kp T.d_law_of.b .nil pass0 (pa_cons (pv 0) (pa_cons (pe_lst (pa_cons pe_str (pa_cons pe_str (pa_cons pe_str (pa_cons pe_str (pa_cons pe_str (pa_cons pe_str (pa_cons pe_str (pa_cons pe_str (pa_cons pe_str (pa_cons pe_str (pa_cons pe_str (pa_cons pe_str (pa_cons pe_str (pa_cons pe_str (pa_cons pe_str pa_nil)))))))))))))))) pa_nil))))
      (pss_cons (ps_if (pt_cmpR op_eq (pv 3) pe_int (nomark _)) (pss_one (ps_ret (pe_op op_add_str (pe_slice (r := rSlS) sl_str (pv 1) po_none (po_some (pv 2))) (pe_slice (r := rSlS) sl_str (pv 1) (po_some (pe_op op_add (pv 2) pe_int)) po_none)))) pss_nil)
      (pss_one (ps_ret (pe_op op_add_str (pe_op op_add_str (pe_slice (r := rSlS) sl_str (pv 1) po_none (po_some (pv 2))) (pv 4)) (pe_slice (r := rSlS) sl_str (pv 1) (po_some (pe_op op_add (pv 2) (pe_callTy call_int1 (by rfl) T.b_int (by decide +kernel) (pa_cons (pe_cmpR op_gt (pv 3) pe_int (nomark _)) pa_nil)))) po_none))))))), ?_⟩
    obtain ⟨d, s, k, rfl, M, ⟨hs, ha, hk⟩, q⟩ := h
    have lz : s.length ≤ sizeLine := Nat.le_trans hs (by decide)
    refine ⟨_, rfl, _, rfl, s, rfl, lz, _, _, rfl, rfl, d, s.length + 1, k, ?_, M, ⟨by omega, by omega, by omega⟩, fun at_ H1 hat g1 M1 => ?_⟩
    · rfl
    refine ⟨_, rfl, d, 4, k + 1, rfl, M1, ⟨by omega, by omega, by omega⟩, fun way H2 hway g2 M2 => ?_⟩
    refine ⟨_, _, rfl, ?_⟩
    refine ⟨_, rfl, by show 15 ≤ sizeLine; decide, fun lp nlp => ?_⟩
    have g3 := Gr.new (W := []) (o := .lst (signs.map V.str)) nlp
    refine ⟨d, lp, k + 2, signs.map V.str, rfl, M2.gr g3, upd_same, ⟨by decide, by show 15 ≤ 100000; decide, by omega⟩, fun v H4 hv g4 M4 => ?_⟩
    obtain ⟨sg, hsg, rfl⟩ := List.mem_map.mp hv
    obtain ⟨sl, sa⟩ := signs_ok sg hsg
    have GG : Gr [d] H H4 := (g1.trans g2).trans (Gr.trans (fun u o hu e => g3 u o (by simp) e) g4)
    refine ⟨_, rfl, rfl, _, rfl, ?_⟩
    have l1 := len_cut1 s at_
    have a1 := cutS_asc ha none (some (at_ : Int))
    by_cases hw : way = 0
    case pos =>
      refine iteTb (decide_eq_true (by rw [hw]; rfl)) ?_
      refine ⟨_, rfl, _, rfl, _, rfl, _, rfl, lz, _, rfl, _, rfl, _, _, rfl, rfl, _, rfl, _, rfl, lz, ?_⟩
      dsimp only
      rw [show (at_ : Int) + 1 = ((at_ + 1 : Nat) : Int) by omega]
      have l2 := len_cut2 s (at_ + 1)
      have a2 := cutS_asc ha (some ((at_ + 1 : Nat) : Int)) none
      refine ⟨_, _, rfl, rfl, Nat.le_trans (show _ ≤ 6000 by omega) (by decide), ?_⟩
      exact q _ H4 (by rw [len_appS]; omega) (asc_app a1 a2) GG M4
    case neg =>
    refine iteFb (decide_eq_false (fun z => hw (by have := V.int.inj z; omega))) ?_
    refine ⟨_, rfl, _, rfl, _, rfl, _, rfl, lz, _, rfl, _, _, rfl, rfl, Nat.le_trans (show _ ≤ 6000 by omega) (by decide), ?_⟩
    refine ⟨_, rfl, _, rfl, _, rfl, _, _, rfl, rfl, .inr ⟨_, rfl, ?_⟩⟩
    obtain ⟨e, he, he1⟩ : ∃ e : Nat, (at_ : Int) + (if decide ((1 : Int) < (way : Int)) = true then 1 else 0) = (e : Int) ∧ at_ ≤ e := by
      split
      · exact ⟨at_ + 1, by omega, by omega⟩
      · exact ⟨at_, by omega, Nat.le_refl _⟩
    refine ⟨_, _, rfl, rfl, _, rfl, _, rfl, lz, ?_⟩
    dsimp only
    rw [he]
    have l2 := len_cut2 s e
    have a2 := cutS_asc ha (some (e : Int)) none
    have l3 := len_appS (cutS s none (some (at_ : Int))) sg
    refine ⟨_, _, rfl, rfl, Nat.le_trans (show _ ≤ 6000 by rw [l3]; omega) (by decide), ?_⟩
    exact q _ H4 (by rw [len_appS, l3]; omega) (asc_app (asc_app a1 sa) a2) GG M4

end
end Wn
namespace Wn
open PySem PySem.Spec PyProof.Rows L2
open LamX (Tabs ExtN tLam)
local macro_rules | `(tactic| walk_at "vc") => `(tactic| simp only [cxK, cxK2, start1, start2, start3, tRet, tRetN, tSeq, tNext, tIfS, tAsg, gName, tDrop, tVar, tC, tOp, tUn, tTest, tB, tNot, tAnd, tOr, tAndV, tOrV, tNotV, tIf, tCons, tNil, tCB, tCall, tChain, tAug, ipI, rI, rI0, rU, rIs, rGcd, rEq, rNe, scal,
  List.getElem?_cons_zero, List.getElem?_cons_succ, List.set_cons_zero, List.set_cons_succ, Option.some.injEq, List.cons.injEq, V.int.injEq, V.bl.injEq, V.ref.injEq, V.str.injEq, and_true, true_and, exists_eq_left, exists_eq_left', exists_and_left, exists_and_right, List.append_nil, List.nil_append, List.cons_append, exists_eq_right, exists_eq_right', and_assoc, exists_const, V.ty.injEq, ↓reduceIte, Bool.false_eq_true, Bool.not_true, Bool.not_false, decide_eq_true_eq])

section
variable {P : Program} {w : World} {K : PySem.W.Frag} {mg : Str → Option Value} {base : Heap}
def sp_law_right (T : Txt K mg) : Sp := fun vs H Q _ => ∃ (b : Nat) (v : V) (d : PyData), vs = [.int b, v] ∧ Tabs (tl T) H ∧ Dz K H v d ∧ FitZ d ∧ (∀ s, d = .str s → s.length ≤ 4000 ∧ Asc s) ∧ (2 ≤ b ∧ b ≤ 1000) ∧ ∀ H', ExtN H H' → Tabs (tl T) H' → Q (.bl true) H'
theorem dv_lt : ∀ (n : Nat) (l : List Nat), l.length = n → (∀ c ∈ l, dgC c = true) → NumText.digitsVal l < 10 ^ n
  | 0, l, h, _ => by
    rw [List.length_eq_zero_iff.mp h]
    decide
  | n + 1, l, h, hc => by
    have hne : l ≠ [] := fun z => by rw [z] at h; cases h
    obtain ⟨m, c, rfl⟩ : ∃ m c, l = m ++ [c] := ⟨l.dropLast, l.getLast hne, (List.dropLast_concat_getLast hne).symm⟩
    rw [List.length_append] at h
    have h1 : m.length = n := by simpa using h
    have ih := dv_lt n m h1 fun x hx => hc x (List.mem_append_left _ hx)
    have h2 := hc c (by simp)
    unfold dgC at h2
    rw [Bool.and_eq_true, decide_eq_true_iff, decide_eq_true_iff] at h2
    rw [NumText.digitsVal_snoc, Nat.pow_succ]
    omega
theorem intIn_lt {s : Str} {n : Nat} (h : intIn s = some n) : n < 10 ^ 40 := by
  unfold intIn at h
  split at h
  · rename_i z
    obtain ⟨z1, z2, z3, _⟩ := z
    have e := Option.some.inj h
    have := dv_lt s.cps.toList.length s.cps.toList rfl (take_len (by rw [← len_cps]; exact z3))
    rw [e] at this
    exact Nat.lt_of_lt_of_le this (Nat.pow_le_pow_right (by decide) (by rw [← len_cps]; exact z2))
  · cases h
def OkO : Out → Prop
  | .val x n => x < 10 ^ 40 ∧ n < 10 ^ 40
  | .frac x n => x < 10 ^ 40 ∧ n < 10 ^ 40
  | .text (some p) => p < 10 ^ 40
  | .text none => True
  | .nothing g => g.length ≤ 400 ∧ ∀ d ∈ g, d < 1000
  | .great => True
theorem frO_ok (s : Str) : OkO (frO s) := by
  unfold frO
  split
  · exact Nat.pos_of_ne_zero (by decide)
  · rename_i x hx
    split
    · split
      · exact (by decide : 2 < 10 ^ 40)
      · rename_i n hn
        split <;> exact ⟨intIn_lt hx, intIn_lt hn⟩
    · exact (by decide : 1 < 10 ^ 40)
theorem frOd_ok (d : PyData) : OkO (frOd d) := by
  cases d with
  | str s => exact frO_ok s
  | _ => exact True.intro
theorem frN_leQ {b : Nat} {h g : List Nat} (hh : ∀ d ∈ h, d < b) (hg : ∀ d ∈ g, d < b) : frN b h g ≤ frD b h g := by
  have h1 := wrt_lt hh
  have h2 := wrt_lt hg
  unfold frN frD
  have e : b ^ h.length = (b ^ h.length - 1) + 1 := by omega
  rw [e, Nat.add_mul, Nat.one_mul]
  exact Nat.add_le_add (Nat.mul_le_mul_right _ (by omega)) (by omega)
theorem exT_ok {b : Nat} {ws : List Str} {h g : List Nat} (hb : b ≤ 1000) (hh : (∀ d ∈ h, d < b) ∧ h.length ≤ 400) (hg : (∀ d ∈ g, d < b) ∧ g.length ≤ 400) : OkO (exT b ws h g) := by
  have sm : ∀ k : Nat, k ≤ 1000 → k < 10 ^ 40 := fun k hk => Nat.lt_of_le_of_lt hk (by decide)
  unfold exT
  split
  · split
    · exact sm _ (by omega)
    · split
      · split
        · exact sm _ (by omega)
        · split
          · exact ⟨hg.2, fun d hd => Nat.lt_of_lt_of_le (hg.1 d hd) hb⟩
          · split
            · rename_i h5
              refine ⟨?_, Nat.lt_of_le_of_lt h5 (by decide)⟩
              have : (frF b h g).1 ≤ (frF b h g).2 := Nat.div_le_div_right (frN_leQ hh.1 hg.1)
              exact Nat.lt_of_le_of_lt (Nat.le_trans this h5) (by decide)
            · exact True.intro
      · exact sm _ (by omega)
  · exact sm _ (by omega)
theorem exOd_ok {b : Nat} (hb : b ≤ 1000) (d : PyData) : OkO (exOd b d) := by
  cases d with
  | str s =>
    obtain ⟨h1, h2, _⟩ := digIn_ok b (Txt.split s (Str.ofString " "))
    obtain ⟨h3, h4, _⟩ := digIn_ok b ((Txt.split s (Str.ofString " ")).drop ((digIn b (Txt.split s (Str.ofString " "))).length + 1))
    exact exT_ok hb ⟨h1, h2⟩ ⟨h3, h4⟩
  | _ => exact True.intro
theorem sz_w {w : Str} (h : (PyData.str w).showable = true ∧ (PyData.str w).leavesShort 42 = true ∧ (PyData.str w).depth ≤ 0 ∧ (PyData.str w).bulk ≤ 500) : Sz (.str w) 42 0 500 := ⟨h.1, h.2.1, h.2.2.1, h.2.2.2⟩
theorem sz_n {x : Nat} (h : x < 10 ^ 40) : Sz (.int (x : Nat)) 42 0 500 := Sz.int (k := 40) (by decide) (by rw [Int.natAbs_natCast]; exact h)
theorem sz_pr {x n : Nat} (h1 : x < 10 ^ 40) (h2 : n < 10 ^ 40) : Sz (.tuple [.int (x : Nat), .int (n : Nat)]) 42 1 1002 := Sz.tup (W := 500) 2 (fun d hd => by
  simp only [List.mem_cons, List.not_mem_nil, or_false] at hd
  rcases hd with rfl | rfl
  · exact sz_n h1
  · exact sz_n h2) (Nat.le_refl _)
theorem sz_two {u v : PyData} {D W : Nat} (h1 : Sz u 42 D W) (h2 : Sz v 42 D W) : Sz (.tuple [u, v]) 42 (D + 1) (2 * (W + 1)) := Sz.tup 2 (fun d hd => by
  simp only [List.mem_cons, List.not_mem_nil, or_false] at hd
  rcases hd with rfl | rfl
  · exact h1
  · exact h2) (Nat.le_refl _)
theorem dueO_sz {o : Out} (h : OkO o) : Sz (dueO o) 42 3 20000 := by
  have w1 : Sz (.str (Str.ofString "text")) 42 0 500 := sz_w (by decide +kernel)
  have w2 : Sz (.str (Str.ofString "fraction")) 42 0 500 := sz_w (by decide +kernel)
  have w3 : Sz (.str (Str.ofString "nothing")) 42 0 500 := sz_w (by decide +kernel)
  have w4 : Sz (.str (Str.ofString "great")) 42 0 500 := sz_w (by decide +kernel)
  have w5 : Sz .none 42 0 500 := ⟨by decide +kernel, by decide +kernel, by decide +kernel, by decide +kernel⟩
  match o, h with
  | .val x n, h => exact (Sz.lst (D := 1) (W := 1002) 1 (fun d hd => by rw [List.mem_singleton] at hd; rw [hd]; exact sz_pr h.1 h.2) (Nat.le_refl _)).mono (by decide) (by decide)
  | .frac x n, h => exact (sz_two (w2.mono (by decide) (by decide)) (sz_pr h.1 h.2)).mono (by decide) (by decide)
  | .text (some p), h => exact (sz_two w1 (sz_n h)).mono (by decide) (by decide)
  | .text none, _ => exact (sz_two w1 w5).mono (by decide) (by decide)
  | .great, _ => exact (sz_two w4 (sz_n (x := 5000) (by decide))).mono (by decide) (by decide)
  | .nothing g, h =>
    have : Sz (.tuple ((g.map fun d => ((d : Nat) : Int)).map PyData.int)) 42 1 8000 := (Sz.tup (D := 0) (W := 10) 400 (fun d hd => by
      obtain ⟨i, hi, rfl⟩ := List.mem_map.mp hd
      obtain ⟨c, hc, rfl⟩ := List.mem_map.mp hi
      have := h.2 c hc
      exact Sz.int (k := 40) (by decide) (by rw [Int.natAbs_natCast]; exact Nat.lt_of_lt_of_le this (by decide))) (by rw [List.length_map, List.length_map]; exact h.1)).mono (by decide) (by decide)
    exact (sz_two (w3.mono (by decide) (by decide)) this).mono (by decide) (by decide)
theorem fit4 {A B : PyData} (h1 : Sz A 42 3 20000) (h2 : Sz B 42 3 20000) : FitZ (.list [A, B, A, B]) := (Sz.lst 4 (fun d hd => by
  simp only [List.mem_cons, List.not_mem_nil, or_false] at hd
  rcases hd with rfl | rfl | rfl | rfl
  · exact h1
  · exact h2
  · exact h1
  · exact h2) (Nat.le_refl _)).fit
/-- what the law hears of a reader -/
theorem tt_outs {T : Txt K mg} {t0 : XK → Hp → VK → Prop} {o : Out} {H : Hp} (h : ∀ H2 Qn E, Gr [] H H2 → Outs T o H2 Qn E → t0 E H2 Qn) {Q : VK} (q : ∀ p H', Gr [] H H' → Dz K H' p (dueO o) → Q p H') : TTg (errs T) t0 H Q := fun H2 Qn E g k1 k2 => h H2 Qn E g (by
  cases o with
  | val x n => exact fun t H' g' ht => k1 (.ref t) H' fun p np => q (.ref p) _ ((g.trans g').trans (Gr.new np)) (dz_lst upd_same (.cons (Dz.gr (Gr.new np) (dz_tup ht (.cons (.int _) (.cons (.int _) .nil)))) .nil))
  | text p =>
    refine fun dd H' g' hdd => k2 T.C_BadText dd "place" "text" _ H' (by unfold errs; simp) hdd fun t H4 g4 ht => q (.ref t) H4 ((g.trans g').trans g4) ?_
    cases p with
    | none => exact dz_tup ht (.cons (.str _) (.cons .non .nil))
    | some k => exact dz_tup ht (.cons (.str _) (.cons (.int _) .nil))
  | frac x n => exact fun dd t H' g' ht hdd => k2 T.C_BadFraction dd "value" "fraction" _ H' (by unfold errs; simp) hdd fun t2 H4 g4 h4 => q (.ref t2) H4 ((g.trans g').trans g4) (dz_tup h4 (.cons (.str _) (.cons (Dz.gr g4 (dz_tup ht (.cons (.int _) (.cons (.int _) .nil)))) .nil)))
  | nothing gg => exact fun dd t H' g' ht hdd => k2 T.C_Nothing dd "value" "nothing" _ H' (by unfold errs; simp) hdd fun t2 H4 g4 h4 => q (.ref t2) H4 ((g.trans g').trans g4) (dz_tup h4 (.cons (.str _) (.cons (Dz.gr g4 (dz_vn ht)) .nil)))
  | great => exact fun dd H' g' hdd => k2 T.C_TooGreat dd "most" "great" _ H' (by unfold errs; simp) hdd fun t2 H4 g4 h4 => q (.ref t2) H4 ((g.trans g').trans g4) (dz_tup h4 (.cons (.str _) (.cons (.int _) .nil))))
theorem okG_law_right (T : Txt K mg) (B : Tbs T base) : FnG P w K mg base CX0 11 T.d_law_right.f T.d_law_right.fd ["b", "text"] (sp_law_right T) := by
  refine fnGc0 T.d_law_right.F sc_law_right (fun vs H Q E h => ?_) (fun cdv A outer s H vs Q E hcc hgd hr h => ?_)
  · obtain ⟨b, v, d, rfl, _⟩ := h; rfl
  · have hu := hu_of hr
    have hcode : cdv = .ref T.k_law_right := hcc.symm.trans T.e_law_right
    refine ⟨_, (pss_cons (ps_par (i := 2) (j := 3) (by rfl) sc_law_right.nd rfl rfl (by decide) rfl rfl (pa_cons (pe_callB (r := rReprZ K) (call_reprZ hgd (gu_of hr)) (by rfl) T.b_repr (by decide +kernel) (pa_cons (pv 1) pa_nil)) (pa_cons (pe_op op_rep (pe_lst (pa_cons (pe_call (ok_law_fraction_due T) (hr.mono (by decide)) (by rfl) T.d_law_fraction_due.m T.d_law_fraction_due.F.kp T.d_law_fraction_due.b .nil pass0 (pa_cons (pv 1) pa_nil)) (pa_cons (pe_call (ok_law_expansion_due T) (hr.mono (by decide)) (by rfl) T.d_law_expansion_due.m T.d_law_expansion_due.F.kp T.d_law_expansion_due.b .nil pass0 (pa_cons (pv 0) (pa_cons (pv 1) pa_nil))) pa_nil))) pe_int) pa_nil)) (by rfl))
      (pss_cons (ps_set (i := 4) sc_law_right.nd rfl (by first | exact .inl rfl | exact .inr rfl) (pe_lst (pa_cons (pe_outc (T := tl T) (TT := TTout T) (k := 8) (by rfl) T.d_law_outcome.m T.d_law_outcome.F.kp T.d_law_outcome.F rfl T.d_law_outcome.b sc_law_outcome rfl (by first | exact .inl rfl | exact .inr (.inl rfl)) (gives_out T rfl rfl) (fun pins σ H s Q I hT h => lam_plain I (B.tb_law_right) hcode (hm_law_right T) (hu_law_right T) hT rfl (LamD.has (lamD_by (N := ["b", "text", "kept", "due", "heard"]) (sc := defScope s_law_right) (by decide +kernel)) I.ok) (fun _ _ _ _ _ _ => rfl) h) (hr.mono (by decide)) (lamD_by (N := ["b", "text", "kept", "due", "heard"]) (sc := defScope s_law_right) (by decide +kernel)) (fun _ _ _ _ _ _ _ hr => (pe_call (okX_read_fraction T) (hr.mono (by decide)) (by rfl) T.d_read_fraction.m T.d_read_fraction.F.kp T.d_read_fraction.b .nil (passes_call (takes_of rfl rfl rfl rfl) (fun _ _ _ _ z => z)) (pa_cons (pv 1) pa_nil)))) (pa_cons (pe_outc (T := tl T) (TT := TTout T) (k := 8) (by rfl) T.d_law_outcome.m T.d_law_outcome.F.kp T.d_law_outcome.F rfl T.d_law_outcome.b sc_law_outcome rfl (by first | exact .inl rfl | exact .inr (.inl rfl)) (gives_out T rfl rfl) (fun pins σ H s Q I hT h => lam_dflt I (B.tb_law_right) hcode (hm_law_right T) (hu_law_right T) hT rfl rfl (LamD.has (lamD_by (N := ["b", "text", "kept", "due", "heard"]) (sc := defScope s_law_right) (by decide +kernel)) I.ok) (fun _ _ _ _ _ _ _ _ => ⟨_, rfl, rfl⟩) rfl (fun _ _ z => z) h) (hr.mono (by decide)) (lamD_by (N := ["b", "text", "kept", "due", "heard"]) (sc := defScope s_law_right) (by decide +kernel)) (fun _ _ _ _ _ _ _ hr => (pe_call (okX_read_expansion T) (hr.mono (by decide)) (by rfl) T.d_read_expansion.m T.d_read_expansion.F.kp T.d_read_expansion.b .nil (passes_call (takes_of rfl rfl rfl rfl) (fun _ _ _ _ z => z)) (pa_cons (pv 0) (pa_cons (pv 1) pa_nil))))) pa_nil))))
      (pss_cons (ps_set (i := 4) sc_law_right.nd rfl (by first | exact .inl rfl | exact .inr rfl) (pe_op op_cat (pv 4) (pe_lst (pa_cons (pe_outc (T := tl T) (TT := TTout T) (k := 8) (by rfl) T.d_law_outcome.m T.d_law_outcome.F.kp T.d_law_outcome.F rfl T.d_law_outcome.b sc_law_outcome rfl (by first | exact .inl rfl | exact .inr (.inl rfl)) (gives_out T rfl rfl) (fun pins σ H s Q I hT h => lam_plain I (B.tb_law_right) hcode (hm_law_right T) (hu_law_right T) hT rfl (LamD.has (lamD_by (N := ["b", "text", "kept", "due", "heard"]) (sc := defScope s_law_right) (by decide +kernel)) I.ok) (fun _ _ _ _ _ _ => rfl) h) (hr.mono (by decide)) (lamD_by (N := ["b", "text", "kept", "due", "heard"]) (sc := defScope s_law_right) (by decide +kernel)) (fun _ _ _ _ _ _ _ hr => (pe_call (okX_read_fraction T) (hr.mono (by decide)) (by rfl) T.d_read_fraction.m T.d_read_fraction.F.kp T.d_read_fraction.b .nil (passes_call (takes_of rfl rfl rfl rfl) (fun _ _ _ _ z => z)) (pa_cons (pv 1) pa_nil)))) (pa_cons (pe_outc (T := tl T) (TT := TTout T) (k := 8) (by rfl) T.d_law_outcome.m T.d_law_outcome.F.kp T.d_law_outcome.F rfl T.d_law_outcome.b sc_law_outcome rfl (by first | exact .inl rfl | exact .inr (.inl rfl)) (gives_out T rfl rfl) (fun pins σ H s Q I hT h => lam_dflt I (B.tb_law_right) hcode (hm_law_right T) (hu_law_right T) hT rfl rfl (LamD.has (lamD_by (N := ["b", "text", "kept", "due", "heard"]) (sc := defScope s_law_right) (by decide +kernel)) I.ok) (fun _ _ _ _ _ _ _ _ => ⟨_, rfl, rfl⟩) rfl (fun _ _ z => z) h) (hr.mono (by decide)) (lamD_by (N := ["b", "text", "kept", "due", "heard"]) (sc := defScope s_law_right) (by decide +kernel)) (fun _ _ _ _ _ _ _ hr => (pe_call (okX_read_expansion T) (hr.mono (by decide)) (by rfl) T.d_read_expansion.m T.d_read_expansion.F.kp T.d_read_expansion.b .nil (passes_call (takes_of rfl rfl rfl rfl) (fun _ _ _ _ z => z)) (pa_cons (pv 0) (pa_cons (pv 1) pa_nil))))) pa_nil)))))
      (pss_one (ps_ret (pe_and (pe_cmpR op_eq (pe_callB (r := rReprZ K) (call_reprZ hgd (gu_of hr)) (by rfl) T.b_repr (by decide +kernel) (pa_cons (pv 4) pa_nil)) (pe_callB (r := rReprZ K) (call_reprZ hgd (gu_of hr)) (by rfl) T.b_repr (by decide +kernel) (pa_cons (pv 3) pa_nil)) (nomark _)) (pe_one (pe_cmpR op_eq (pe_callB (r := rReprZ K) (call_reprZ hgd (gu_of hr)) (by rfl) T.b_repr (by decide +kernel) (pa_cons (pv 1) pa_nil)) (pv 2) (nomark _))))))))), ?_⟩
    obtain ⟨b, v, d, rfl, tH, hd, hf, hl, hb, q⟩ := h
    have bad : (2 ≤ b ∧ b ≤ 1000) → ∀ {Hx : Hp} {E : XK}, isW 2 1000 (.int (b : Nat)) = false → ∀ dd H', Gr [] Hx H' → H' dd = some (.xd [("value", .int (b : Nat))]) → E (.ref T.C_BadBase) (some dd) H' := fun hb Hx E hw => by
      have e : isW 2 1000 (.int (b : Nat)) = true := by
        show (decide ((2 : Int) ≤ (b : Int)) && decide ((b : Int) ≤ 1000)) = true
        rw [decide_eq_true (by omega), decide_eq_true (by omega)]
        rfl
      rw [e] at hw
      cases hw
    have good : ∀ {Hx : Hp} {Qn : VK} {E : XK}, Outs T (exOd b d) Hx Qn E → ∀ b2 : Nat, PyData.int (b : Nat) = .int (b2 : Nat) → (2 ≤ b2 ∧ b2 ≤ 1000) → Outs T (exOd b2 d) Hx Qn E := fun ho b2 e _ => by
      have : b = b2 := by have := PyData.int.inj e; omega
      subst this
      exact ho
    have sA := dueO_sz (frOd_ok d)
    have sB := dueO_sz (exOd_ok hb.2 d)
    refine ⟨_, rfl, v, d, rfl, hd, hf, ?_⟩
    refine ⟨_, rfl, v, d, rfl, hd, hl, fun p1 H1 g1 d1 => ?_⟩
    refine ⟨_, rfl, _, rfl, b, v, d, rfl, Dz.gr g1 hd, hl, hb, fun p2 H2 g2 d2 => ?_⟩
    refine ⟨by show 2 ≤ sizeLine; decide, fun l nl => ⟨l, 2, _, rfl, rfl, upd_same, by decide, by decide, by show 2 * 2 ≤ sizeLine; decide, fun m nm => ?_⟩⟩
    refine ⟨_, _, rfl, ?_⟩
    have k1 := Gr.new (W := []) (o := .lst [p1, p2]) nl
    have k2 := Gr.new (W := []) (o := .lst [p1, p2, p1, p2]) nm
    have kk := k1.trans k2
    have hm : Dz K (upd (upd H2 l (.lst [p1, p2])) m (.lst [p1, p2, p1, p2])) (.ref m) (.list [dueO (frOd d), dueO (exOd b d), dueO (frOd d), dueO (exOd b d)]) := by
      have e1 := Dz.gr (g2.trans kk) d1
      have e2 := Dz.gr kk d2
      exact dz_lst upd_same (.cons e1 (.cons e2 (.cons e1 (.cons e2 .nil))))
    have G3 := (g1.trans g2).trans kk
    change tSeq _ _ _ _ (upd (upd H2 l (.lst [p1, p2])) m (.lst [p1, p2, p1, p2]))
    generalize upd (upd H2 l (.lst [p1, p2])) m (.lst [p1, p2, p1, p2]) = H3 at hm G3 ⊢
    have t3 := tabsGr tH G3
    have hd3 := Dz.gr G3 hd
    refine ⟨t3, fun H4 e4 t4 => tt_outs (o := frOd d) (fun Hx Qn E gx ho => ⟨_, rfl, v, d, rfl, Dz.gr gx (Dz.ext e4 hd3), fun s hs => (hl s hs).1, ho⟩) fun p5 H5 g5 d5 => ?_⟩
    have t5 := tabsGr t4 g5
    have E5 := (e4.trans (extOf g5))
    have hd5 := Dz.ext E5 hd3
    refine ⟨t5, fun H6 e6 t6 => tt_outs (o := exOd b d) (fun Hx Qn E gx ho => ⟨_, rfl, _, rfl, .int (b : Nat), .int (b : Nat), v, d, rfl, .int _, Dz.gr gx (Dz.ext e6 hd5), hl, bad hb, good ho⟩) fun p7 H7 g7 d7 => ?_⟩
    have t7 := tabsGr t6 g7
    have E7 := e6.trans (extOf g7)
    refine ⟨by show 2 ≤ sizeLine; decide, fun l1 nl1 => ?_⟩
    have k3 := Gr.new (W := []) (o := .lst [p5, p7]) nl1
    have h1 : (upd H7 l1 (.lst [p5, p7])) l1 = some (.lst [p5, p7]) := upd_same
    have E8 := (E5.trans E7).trans (extOf k3)
    have d5' := Dz.ext (E7.trans (extOf k3)) d5
    have d7' := Dz.gr k3 d7
    have t8 := tabsGr t7 k3
    generalize upd H7 l1 (.lst [p5, p7]) = H8 at k3 h1 E8 d5' d7' t8 ⊢
    have hd8 := Dz.ext E8 hd3
    refine ⟨_, rfl, t8, fun H9 e9 t9 => tt_outs (o := frOd d) (fun Hx Qn E gx ho => ⟨_, rfl, v, d, rfl, Dz.gr gx (Dz.ext e9 hd8), fun s hs => (hl s hs).1, ho⟩) fun p10 H10 g10 d10 => ?_⟩
    have t10 := tabsGr t9 g10
    have E10 := e9.trans (extOf g10)
    have hd10 := Dz.ext E10 hd8
    refine ⟨t10, fun H11 e11 t11 => tt_outs (o := exOd b d) (fun Hx Qn E gx ho => ⟨_, rfl, _, rfl, .int (b : Nat), .int (b : Nat), v, d, rfl, .int _, Dz.gr gx (Dz.ext e11 hd10), hl, bad hb, good ho⟩) fun p12 H12 g12 d12 => ?_⟩
    have t12 := tabsGr t11 g12
    have E12 := e11.trans (extOf g12)
    refine ⟨by show 2 ≤ sizeLine; decide, fun l2 nl2 => ?_⟩
    have k4 := Gr.new (W := []) (o := .lst [p10, p12]) nl2
    have h2 : (upd H12 l2 (.lst [p10, p12])) l2 = some (.lst [p10, p12]) := upd_same
    have F13 := (E10.trans E12).trans (extOf k4)
    have h1' : (upd H12 l2 (.lst [p10, p12])) l1 = some (.lst [p5, p7]) := F13 _ _ h1 (fun _ z => by cases z)
    have d10' := Dz.ext (E12.trans (extOf k4)) d10
    have d12' := Dz.gr k4 d12
    have t13 := tabsGr t12 k4
    generalize upd H12 l2 (.lst [p10, p12]) = H13 at k4 h2 F13 h1' d10' d12' t13 ⊢
    refine ⟨l1, l2, _, _, rfl, rfl, h1', h2, by show 2 + 2 ≤ sizeLine; decide, fun l3 nl3 => ?_⟩
    have k5 := Gr.new (W := []) (o := .lst [p5, p7, p10, p12]) nl3
    have dl : Dz K (upd H13 l3 (.lst [p5, p7, p10, p12])) (.ref l3) (.list [dueO (frOd d), dueO (exOd b d), dueO (frOd d), dueO (exOd b d)]) := dz_lst upd_same (.cons (Dz.ext (F13.trans (extOf k5)) d5') (.cons (Dz.ext (F13.trans (extOf k5)) d7') (.cons (Dz.gr k5 d10') (.cons (Dz.gr k5 d12') .nil))))
    have EE := (E8.trans F13).trans (extOf k5)
    have t14 := tabsGr t13 k5
    change tSeq _ _ _ _ (upd H13 l3 (.lst [p5, p7, p10, p12]))
    generalize upd H13 l3 (.lst [p5, p7, p10, p12]) = H14 at dl EE t14 ⊢
    have ft := fit4 sA sB
    refine ⟨_, rfl, .ref l3, _, rfl, dl, ft, _, rfl, .ref m, _, rfl, Dz.ext EE hm, ft, rfl, _, rfl, iteTb (decide_eq_true rfl) ?_⟩
    refine ⟨_, rfl, v, d, rfl, Dz.ext EE hd3, hf, _, rfl, rfl, ?_⟩
    rw [decide_eq_true rfl]
    exact q H14 ((extOf G3).trans EE) t14

end
end Wn
namespace Wn
open PySem PySem.Spec PyProof.Rows L2
open LamX (Tabs ExtN tLam)
local macro_rules | `(tactic| walk_at "vc") => `(tactic| simp only [cxK, cxK2, start1, start2, start3, tRet, tRetN, tSeq, tNext, tIfS, tAsg, gName, tDrop, tVar, tC, tOp, tUn, tTest, tB, tNot, tAnd, tOr, tAndV, tOrV, tNotV, tIf, tCons, tNil, tCB, tCall, tChain, tAug, ipI, rI, rI0, rU, rIs, rGcd, rEq, rNe, scal,
  List.getElem?_cons_zero, List.getElem?_cons_succ, List.set_cons_zero, List.set_cons_succ, Option.some.injEq, List.cons.injEq, V.int.injEq, V.bl.injEq, V.ref.injEq, V.str.injEq, and_true, true_and, exists_eq_left, exists_eq_left', exists_and_left, exists_and_right, List.append_nil, List.nil_append, List.cons_append, exists_eq_right, exists_eq_right', and_assoc, exists_const, V.ty.injEq, ↓reduceIte, Bool.false_eq_true, Bool.not_true, Bool.not_false, decide_eq_true_eq])

section
variable {P : Program} {w : World} {K : PySem.W.Frag} {mg : Str → Option Value} {base : Heap}
def sp_expansionX (T : Txt K mg) : Sp := fun vs H Q E => ∃ (u : V) (du : PyData) (v : V) (d : PyData), vs = [u, v] ∧ Dz K H u du ∧ Dz K H v d ∧ (isW 2 1000 du = false ∨ frB d = false) ∧
  (isW 2 1000 du = false → ∀ dd H', Gr [] H H' → H' dd = some (.xd [("value", u)]) → E (.ref T.C_BadBase) (some dd) H') ∧ (isW 2 1000 du = true → frB d = false → ∀ dd H', Gr [] H H' → H' dd = some (.xd [("value", v)]) → E (.ref T.C_BadFraction) (some dd) H')
def sp_fraction_textX (T : Txt K mg) : Sp := fun vs H Q E => ∃ (v : V) (d : PyData), vs = [v] ∧ Dz K H v d ∧ frB d = false ∧ ∀ dd H', Gr [] H H' → H' dd = some (.xd [("value", v)]) → E (.ref T.C_BadFraction) (some dd) H'
theorem okX_expansion (T : Txt K mg) : FnOk P w K mg base (L2.CX P w) 6 T.d_expansion.f T.d_expansion.fd ["base", "fraction"] (sp_expansionX T) := by
  refine T.d_expansion.F.okX sc_expansion (fun vs H Q E h => ?_) (fun cdv A outer s H vs Q E hr h => ?_)
  · obtain ⟨u, du, v, d, rfl, _⟩ := h; rfl
  · have hu := hu_of hr
    refine ⟨_, (pss_cons (ps_expr (pe_call (okX_need_base T) (hr.mono (by decide)) (by rfl) T.d_need_base.m T.d_need_base.F.kp T.d_need_base.b .nil (passes_call (takes_of rfl rfl rfl rfl) (fun _ _ _ _ z => z)) (pa_cons (pv 0) pa_nil)))
      (pss_cons (ps_asg (pe_call (okX_need_fraction T) (hr.mono (by decide)) (by rfl) T.d_need_fraction.m T.d_need_fraction.F.kp T.d_need_fraction.b .nil (passes_call (takes_of rfl rfl rfl rfl) (fun _ _ _ _ z => z)) (pa_cons (pv 1) pa_nil)) (pg_tup (by rfl) (pgs_cons (pg_name (i := 2) sc_expansion.nd rfl (by first | exact .inl rfl | exact .inr rfl)) (pgs_cons (pg_name (i := 3) sc_expansion.nd rfl (by first | exact .inl rfl | exact .inr rfl)) pgs_nil))))
      (PSs.nox (pss_cons (ps_set (i := 4) sc_expansion.nd rfl (by first | exact .inl rfl | exact .inr rfl) (pe_call (ok_head_size T) (hr.mono (by decide)) (by rfl) T.d_head_size.m T.d_head_size.F.kp T.d_head_size.b .nil pass0 (pa_cons (pv 0) (pa_cons (pv 3) pa_nil))))
      (pss_cons (ps_set (i := 5) sc_expansion.nd rfl (by first | exact .inl rfl | exact .inr rfl) (pe_call (ok_divided T) (hr.mono (by decide)) (by rfl) T.d_divided.m T.d_divided.F.kp T.d_divided.b .nil pass0 (pa_cons (pv 0) (pa_cons (pv 2) (pa_cons (pv 3) (pa_cons (pe_op op_add (pv 4) (pe_call (ok_period T) (hr.mono (by decide)) (by rfl) T.d_period.m T.d_period.F.kp T.d_period.b .nil pass0 (pa_cons (pv 0) (pa_cons (pv 3) pa_nil)))) pa_nil))))))
      (pss_one (ps_ret (pe_tup (pa_cons (pe_slice (r := rSlA K) sl_tupA (pv 5) po_none (po_some (pv 4))) (pa_cons (pe_slice (r := rSlA K) sl_tupA (pv 5) (po_some (pv 4)) po_none) pa_nil)))))))))), ?_⟩
    obtain ⟨u, du, v, d, rfl, hu0, hd, hc, e1, e2⟩ := h
    refine ⟨_, rfl, u, du, rfl, hu0, fun hb H1 g1 => ?_, fun hb dd H' g e => e1 hb dd H' g e⟩
    have hfr : frB d = false := by
      rcases hc with z | z
      · rw [hb] at z
        cases z
      · exact z
    refine ⟨_, rfl, v, d, rfl, Dz.gr g1 hd, fun z => (by rw [hfr] at z; cases z), fun _ dd H' g e => e2 hb hfr dd H' (g1.trans g) e⟩
theorem okX_fraction_text (T : Txt K mg) : FnOk P w K mg base (L2.CX P w) 4 T.d_fraction_text.f T.d_fraction_text.fd ["fraction"] (sp_fraction_textX T) := by
  refine T.d_fraction_text.F.okX sc_fraction_text (fun vs H Q E h => ?_) (fun cdv A outer s H vs Q E hr h => ?_)
  · obtain ⟨v, d, rfl, _⟩ := h; rfl
  · have hu := hu_of hr
    refine ⟨_, (pss_cons (ps_asg (pe_call (okX_need_fraction T) (hr.mono (by decide)) (by rfl) T.d_need_fraction.m T.d_need_fraction.F.kp T.d_need_fraction.b .nil (passes_call (takes_of rfl rfl rfl rfl) (fun _ _ _ _ z => z)) (pa_cons (pv 0) pa_nil)) (pg_tup (by rfl) (pgs_cons (pg_name (i := 1) sc_fraction_text.nd rfl (by first | exact .inl rfl | exact .inr rfl)) (pgs_cons (pg_name (i := 2) sc_fraction_text.nd rfl (by first | exact .inl rfl | exact .inr rfl)) pgs_nil))))
      (PSs.nox (pss_one (ps_ret (pe_joined (PJ.cons (pe_fmt (pv 1)) (PJ.cons pe_str (PJ.cons (pe_fmt (pv 2)) PJ.nil)))))))), ?_⟩
    obtain ⟨v, d, rfl, hd, hf, e⟩ := h
    exact ⟨_, rfl, v, d, rfl, hd, fun z => (by rw [hf] at z; cases z), fun _ dd H' g h => e dd H' g h⟩
theorem okX_expansion_text (T : Txt K mg) : FnOk P w K mg base (L2.CX P w) 7 T.d_expansion_text.f T.d_expansion_text.fd ["base", "fraction"] (sp_expansionX T) := by
  refine T.d_expansion_text.F.okX sc_expansion_text (fun vs H Q E h => ?_) (fun cdv A outer s H vs Q E hr h => ?_)
  · obtain ⟨u, du, v, d, rfl, _⟩ := h; rfl
  · have hu := hu_of hr
    refine ⟨_, (pss_cons (ps_asg (pe_call (okX_expansion T) (hr.mono (by decide)) (by rfl) T.d_expansion.m T.d_expansion.F.kp T.d_expansion.b .nil (passes_call (takes_of rfl rfl rfl rfl) (fun _ _ _ _ z => z)) (pa_cons (pv 0) (pa_cons (pv 1) pa_nil))) (pg_tup (by rfl) (pgs_cons (pg_name (i := 2) sc_expansion_text.nd rfl (by first | exact .inl rfl | exact .inr rfl)) (pgs_cons (pg_name (i := 3) sc_expansion_text.nd rfl (by first | exact .inl rfl | exact .inr rfl)) pgs_nil))))
      (PSs.nox (pss_cons (ps_set (i := 4) sc_expansion_text.nd rfl (by first | exact .inl rfl | exact .inr rfl) (pe_op op_cat (pe_op op_cat (pe_op op_cat (pe_lc (own := [("digit", 5)]) (g := gName 5) (tt := tYes) rfl sc_expansion_text.nd (pi_tup (pv 2)) (blkOk_by (own := [("digit", 5)]) (N := ["base", "fraction", "head", "repetend", "words", "digit"]) (sc := defScope s_expansion_text) (by decide +kernel)) (fun _ _ _ _ _ => (pg_name (i := 5) sc_expansion_text.nd rfl (by first | exact .inl rfl | exact .inr rfl))) (fun _ _ _ _ _ => pts_nil) (fun _ _ _ _ _ => (pe_callTy call_str_int (by rfl) T.b_str (by decide +kernel) (pa_cons (pv 5) pa_nil)))) (pe_lst (pa_cons pe_str pa_nil))) (pe_lc (own := [("digit", 5)]) (g := gName 5) (tt := tYes) rfl sc_expansion_text.nd (pi_tup (pv 3)) (blkOk_by (own := [("digit", 5)]) (N := ["base", "fraction", "head", "repetend", "words", "digit"]) (sc := defScope s_expansion_text) (by decide +kernel)) (fun _ _ _ _ _ => (pg_name (i := 5) sc_expansion_text.nd rfl (by first | exact .inl rfl | exact .inr rfl))) (fun _ _ _ _ _ => pts_nil) (fun _ _ _ _ _ => (pe_callTy call_str_int (by rfl) T.b_str (by decide +kernel) (pa_cons (pv 5) pa_nil))))) (pe_lst (pa_cons pe_str pa_nil))))
      (pss_one (ps_ret (pe_join pe_str (pv 4))))))), ?_⟩
    obtain ⟨u, du, v, d, rfl, hu0, hd, hc, e1, e2⟩ := h
    exact ⟨_, rfl, _, rfl, u, du, v, d, rfl, hu0, hd, hc, e1, e2⟩

end
end Wn
namespace Wn
open PySem PySem.Spec PyProof.Rows L2
open LamX (Tabs ExtN tLam)
local macro_rules | `(tactic| walk_at "vc") => `(tactic| simp only [cxK, cxK2, start1, start2, start3, tRet, tRetN, tSeq, tNext, tIfS, tAsg, gName, tDrop, tVar, tC, tOp, tUn, tTest, tB, tNot, tAnd, tOr, tAndV, tOrV, tNotV, tIf, tCons, tNil, tCB, tCall, tChain, tAug, ipI, rI, rI0, rU, rIs, rGcd, rEq, rNe, scal,
  List.getElem?_cons_zero, List.getElem?_cons_succ, List.set_cons_zero, List.set_cons_succ, Option.some.injEq, List.cons.injEq, V.int.injEq, V.bl.injEq, V.ref.injEq, V.str.injEq, and_true, true_and, exists_eq_left, exists_eq_left', exists_and_left, exists_and_right, List.append_nil, List.nil_append, List.cons_append, exists_eq_right, exists_eq_right', and_assoc, exists_const, V.ty.injEq, ↓reduceIte, Bool.false_eq_true, Bool.not_true, Bool.not_false, decide_eq_true_eq])

section
variable {P : Program} {w : World} {K : PySem.W.Frag} {mg : Str → Option Value} {base : Heap}
def sp_law (T : Txt K mg) : Sp := fun vs H Q _ => ∃ (a : Addr) (ns : List Int), vs = [.ref a] ∧ Tabs (tl T) H ∧ SqL K H a (ns.map V.int) ∧ ns.length ≤ 63 ∧ ∀ H', Q (.bl true) H'
def sp_law_hand_right (T : Txt K mg) : Sp := fun vs H Q _ => vs = [] ∧ Tabs (tl T) H ∧ ∀ H', Q (.bl true) H'
theorem dp_vn {K : PySem.W.Frag} {H : Hp} {t : Addr} {g : List Nat} (h : H t = some (.tup (vn g))) : Dp K H (.ref t) (.tuple ((g.map fun d => ((d : Nat) : Int)).map PyData.int)) := by
  refine dp_tup h ?_
  have : ∀ g : List Nat, DpAll K H (vn g) ((g.map fun d => ((d : Nat) : Int)).map PyData.int) := fun g => by
    induction g with
    | nil => exact .nil
    | cons d r ih => exact .cons (.int _) ih
  exact this g
/-- what the law hears of a reader -/
theorem tt_outsD {T : Txt K mg} {t0 : XK → Hp → VK → Prop} {o : Out} {H : Hp} (h : ∀ H2 Qn E, Gr [] H H2 → Outs T o H2 Qn E → t0 E H2 Qn) {Q : VK} (q : ∀ p H', Gr [] H H' → Dp K H' p (dueO o) → Q p H') : TTg (errs T) t0 H Q := fun H2 Qn E g k1 k2 => h H2 Qn E g (by
  cases o with
  | val x n => exact fun t H' g' ht => k1 (.ref t) H' fun p np => q (.ref p) _ ((g.trans g').trans (Gr.new np)) (dp_lst upd_same (.cons (Dp.kp (Kp.of (Gr.new np)) (dp_tup ht (.cons (.int _) (.cons (.int _) .nil)))) .nil))
  | text p =>
    refine fun dd H' g' hdd => k2 T.C_BadText dd "place" "text" _ H' (by unfold errs; simp) hdd fun t H4 g4 ht => q (.ref t) H4 ((g.trans g').trans g4) ?_
    cases p with
    | none => exact dp_tup ht (.cons (.str _) (.cons .non .nil))
    | some k => exact dp_tup ht (.cons (.str _) (.cons (.int _) .nil))
  | frac x n => exact fun dd t H' g' ht hdd => k2 T.C_BadFraction dd "value" "fraction" _ H' (by unfold errs; simp) hdd fun t2 H4 g4 h4 => q (.ref t2) H4 ((g.trans g').trans g4) (dp_tup h4 (.cons (.str _) (.cons (Dp.kp (Kp.of g4) (dp_tup ht (.cons (.int _) (.cons (.int _) .nil)))) .nil)))
  | nothing gg => exact fun dd t H' g' ht hdd => k2 T.C_Nothing dd "value" "nothing" _ H' (by unfold errs; simp) hdd fun t2 H4 g4 h4 => q (.ref t2) H4 ((g.trans g').trans g4) (dp_tup h4 (.cons (.str _) (.cons (Dp.kp (Kp.of g4) (dp_vn ht)) .nil)))
  | great => exact fun dd H' g' hdd => k2 T.C_TooGreat dd "most" "great" _ H' (by unfold errs; simp) hdd fun t2 H4 g4 h4 => q (.ref t2) H4 ((g.trans g').trans g4) (dp_tup h4 (.cons (.str _) (.cons (.int _) .nil))))

/-- rows of a text and what is due of it -/
def rowsD (rs : List (Str × PyData)) : List PyData := rs.map fun r => .tuple [.str r.1, r.2]
def simple : PyData → Bool
  | .int _ => true
  | .none => true
  | .tuple [.int _, .int _] => true
  | _ => false
theorem dp_simple {K : PySem.W.Frag} {H : Hp} {v : V} : ∀ {d : PyData}, simple d = true → Dz K H v d → Dp K H v d
  | .int i, _, z => by
    obtain rfl := dz_int z
    exact .int i
  | .none, _, z => by
    cases z
    exact .non
  | .tuple [.int i, .int j], _, z => by
    cases z with
    | tup s a =>
      cases a with
      | cons h1 t =>
        cases t with
        | cons h2 t2 =>
          cases t2
          obtain rfl := dz_int h1
          obtain rfl := dz_int h2
          exact .tup s (.cons (.int _) (.cons (.int _) .nil))
def okF (due : PyData → PyData) (r : Str × PyData) : Bool := PyData.eqv (dueO (frO r.1)) (due r.2) && SeqAt.shaped (dueO (frO r.1)) && SeqAt.shaped (due r.2) && simple r.2 && decide (r.1.length ≤ 4000) && r.1.cps.toList.all fun c => decide (c < 128)
def S9 (k : Nat) : Str := mulS (Str.ofString "9") k
def rows1 : List (Str × PyData) := [(Str.ofString "", .int 0), (Str.ofString "/7", .int 0), (Str.ofString "07/9", .int 0), (Str.ofString "x", .int 0), (Str.ofString "-1/7", .int 0), (Str.ofString "1", .int 1), (Str.ofString "1 /7", .int 1), (Str.ofString "1.5", .int 1), (Str.ofString "1/", .int 2), (Str.ofString "1/07", .int 2)]
def rows2 : List (Str × PyData) := [(Str.ofString "1/7 ", .int 2), (Str.ofString "1/-7", .int 2), (Str.ofString "1//7", .int 2), (Str.ofString "1/7/9", .int 2), (S9 41 ++ Str.ofString "/7", .int 0), (Str.ofString "1/" ++ S9 41, .int 2)]
theorem rows12_ok : ∀ r ∈ rows1 ++ rows2, okF (fun e => .tuple [.str (Str.ofString "text"), e]) r = true := by decide +kernel
theorem ez_rep {K : PySem.W.Frag} {W : List Addr} {σ : L2.St} {H : Hp} {s : Str} {i : Int} (k : Nat) (e : i = (k : Int)) (h : s.length * k ≤ 6000) (hk : k ≤ 6000) : EzW K W (tOp rRepS (tC (.str s)) (tC (.int i))) σ H (.str (mulS s k)) := fun H1 _ _ Q q => by
  subst e
  exact ⟨s, k, rfl, rfl, by omega, Nat.le_trans h (by decide), q _ H1 (Gr.refl _ _) (.str _)⟩
theorem ez_catS {K : PySem.W.Frag} {W : List Addr} {σ : L2.St} {H : Hp} {ta tb : TE} {a b : Str} (h1 : EzW K W ta σ H (.str a)) (h2 : EzW K W tb σ H (.str b)) (hl : a.length + b.length ≤ 6000) :
    EzW K W (tOp (fun x y H Q => ∃ i j, x = .str i ∧ y = .str j ∧ i.length + j.length ≤ sizeLine ∧ Q (.str (i ++ j)) H) ta tb) σ H (.str (a ++ b)) := fun H1 g s Q q =>
  h1 H1 g s _ fun v H2 g2 e => h2 H2 (g.trans (gr0 g2)) (s.gr g2) _ fun w H3 g3 e3 => by
    obtain rfl := dz_str e
    obtain rfl := dz_str e3
    exact ⟨a, b, rfl, rfl, Nat.le_trans hl (by decide), q _ H3 (g2.trans g3) (.str _)⟩
theorem ezl_lst {K : PySem.W.Frag} {σ : L2.St} {H : Hp} {W : List Addr} {ta : TA} {ds : List PyData} (h : EszW K W ta σ H ds) (hz : ds.length ≤ 1000) {H1 : Hp} (g : Gr W H H1) (s : Wst W H1) {Q : VK} (q : ∀ p vs H2, Gr [] H1 H2 → H2 p = some (.lst vs) → DzAll K (hid W H2) vs ds → Q (.ref p) H2) : tLst ta σ H1 Q :=
  h H1 g s _ fun vs H2 g2 a => ⟨by rw [dzAll_len a]; exact Nat.le_of_lt (small1000 hz), fun p np => q p vs _ (g2.trans (Gr.new np)) upd_same (DzAll.gr (hid_gr (gr0 (Gr.new np))) a)⟩
theorem dz_tupI {K : PySem.W.Frag} {H : Hp} {v : V} {ds : List PyData} (h : Dz K H v (.tuple ds)) : ∃ a xs, v = .ref a ∧ SqT K H a xs ∧ DzAll K H xs ds := by
  cases h with
  | tup h1 h2 => exact ⟨_, _, rfl, h1, h2⟩
theorem dzAll_at9 {K : PySem.W.Frag} {H : Hp} : ∀ {vs : List V} {ds : List PyData}, DzAll K H vs ds → ∀ {i : Nat} {v : V}, vs[i]? = some v → ∃ d, ds[i]? = some d ∧ Dz K H v d
  | _, _, .nil, i, v, h => by simp at h
  | u :: _, _, .cons (d := d) h0 t, 0, v, h => by
    have e : u = v := by simpa using h
    exact ⟨d, rfl, e ▸ h0⟩
  | _, _, .cons h0 t, i + 1, v, h => by
    obtain ⟨d, e, hd⟩ := dzAll_at9 t (i := i) (v := v) (by simpa using h)
    exact ⟨d, by simpa using e, hd⟩
/-- one row of a list of rows -/
theorem row_at {K : PySem.W.Frag} {H : Hp} {vs : List V} {rs : List (Str × PyData)} (a : DzAll K H vs (rowsD rs)) {i : Nat} {y : V} (h : vs[i]? = some y) : ∃ (r : Str × PyData) (t : Addr) (w : V), r ∈ rs ∧ y = .ref t ∧ SqT K H t [.str r.1, w] ∧ Dz K H w r.2 := by
  obtain ⟨d, hd, hz⟩ := dzAll_at9 a h
  unfold rowsD at hd
  rw [List.getElem?_map] at hd
  obtain ⟨r, hr, rfl⟩ := Option.map_eq_some_iff.mp hd
  obtain ⟨t, xs, rfl, hs, hx⟩ := dz_tupI hz
  cases hx with
  | @cons v1 vs1 d1 ds1 h1 h2 =>
    cases h2 with
    | @cons v2 vs2 d2 ds2 h3 h4 =>
      cases h4
      obtain rfl := dz_str h1
      exact ⟨r, t, v2, List.mem_of_getElem? hr, rfl, hs, h3⟩
theorem okF_out {due : PyData → PyData} {r : Str × PyData} (h : okF due r = true) : PyData.eqv (dueO (frO r.1)) (due r.2) = true ∧ SeqAt.shaped (dueO (frO r.1)) = true ∧ SeqAt.shaped (due r.2) = true ∧ simple r.2 = true ∧ (∀ s, PyData.str r.1 = .str s → s.length ≤ 4000 ∧ Asc s) := by
  unfold okF at h
  rw [Bool.and_eq_true, Bool.and_eq_true, Bool.and_eq_true, Bool.and_eq_true, Bool.and_eq_true, decide_eq_true_iff, List.all_eq_true] at h
  obtain ⟨⟨⟨⟨⟨h1, h2⟩, h3⟩, h4⟩, h5⟩, h6⟩ := h
  refine ⟨h1, h2, h3, h4, fun s e => ?_⟩
  have := PyData.str.inj e
  subst this
  exact ⟨h5, fun c hc => of_decide_eq_true (h6 c hc)⟩
theorem ez_pow40 {K : PySem.W.Frag} {σ : L2.St} {H : Hp} {W : List Addr} : EzW K W (tOp (rI CPow fun i j => .int (i ^ j.toNat)) (tC (.int 10)) (tC (.int 40))) σ H (.int (10 ^ 40)) := fun H1 g s Q q => ⟨10, 40, rfl, rfl, ⟨by decide, by decide, by decide⟩, q _ H1 (Gr.refl _ _) (by
  have e : ((10 : Int) ^ (40 : Int).toNat) = 10 ^ 40 := by decide +kernel
  dsimp only
  rw [e]
  exact .int _)⟩
def rows3 : List (Str × PyData) := [(Str.ofString "2/4", .tuple [.int 2, .int 4]), (Str.ofString "7/7", .tuple [.int 7, .int 7]), (Str.ofString "0/2", .tuple [.int 0, .int 2]), (Str.ofString "1/5001", .tuple [.int 1, .int 5001]), (Str.ofString "1/0", .tuple [.int 1, .int 0]), (Str.ofString "8/7", .tuple [.int 8, .int 7])]
def rows4 : List (Str × PyData) := [(S9 40 ++ Str.ofString "/7", .tuple [.int (10 ^ 40 - 1), .int 7]), (Str.ofString "1/" ++ S9 40, .tuple [.int 1, .int (10 ^ 40 - 1)])]
theorem rows34_ok : ∀ r ∈ rows3 ++ rows4, okF (fun e => .tuple [.str (Str.ofString "fraction"), e]) r = true := by decide +kernel
def dueE : PyData → PyData
  | .none => .tuple [.str (Str.ofString "great"), .int 5000]
  | e => .tuple [.str (Str.ofString "text"), e]
def okE (r : Str × PyData) : Bool := PyData.eqv (dueO (exOd 10 (.str r.1))) (dueE r.2) && SeqAt.shaped (dueO (exOd 10 (.str r.1))) && SeqAt.shaped (dueE r.2) && decide (r.1.length ≤ 4000) && r.1.cps.toList.all fun c => decide (c < 128)
def rows5 : List (Str × PyData) := [(Str.ofString "", .int 0), (Str.ofString "1", .int 1), (Str.ofString "(", .int 1), (Str.ofString "( )", .int 1), (Str.ofString "( 1", .int 2), (Str.ofString "1 2", .int 2), (Str.ofString "( 1 ) ", .int 3), (Str.ofString "( 1 ) 2", .int 3), (Str.ofString "( 1 ( 2 )", .int 2)]
def rows6 : List (Str × PyData) := [(Str.ofString "1  ( 2 )", .int 1), (Str.ofString " ( 1 )", .int 0), (Str.ofString "10 ( 1 )", .int 0), (Str.ofString "( 01 )", .int 1), (Str.ofString "(1)", .int 0), (Str.ofString ") 1", .int 0), (Str.ofString "( 1 x )", .int 2)]
def rows7 : List (Str × PyData) := [(mulS (Str.ofString "2 ") 400 ++ Str.ofString "( 1 )", .none), (mulS (Str.ofString "2 ") 401 ++ Str.ofString "( 1 )", .int 400), (Str.ofString "( " ++ mulS (Str.ofString "1 ") 401 ++ Str.ofString ")", .int 401)]
theorem rows56_ok : ∀ r ∈ rows5 ++ rows6, okE r = true := by decide +kernel
theorem jl (w : List Nat) (rest : List (List Nat)) (hr : rest ≠ []) : ∀ k, (List.replicate k (w ++ [32])).flatten ++ TL.joinL [32] rest = TL.joinL [32] (List.replicate k w ++ rest)
  | 0 => by simp
  | k + 1 => by
    rw [List.replicate_succ, List.flatten_cons, List.replicate_succ, List.cons_append, List.append_assoc, jl w rest hr k]
    cases e : List.replicate k w ++ rest with
    | nil => exact absurd (List.append_eq_nil_iff.mp e).2 hr
    | cons q r =>
      show w ++ [32] ++ TL.joinL [32] (q :: r) = w ++ ([32] ++ TL.joinL [32] (q :: r))
      rw [List.append_assoc]
theorem wsplit {s : Str} {W : List Str} (h : W ≠ []) (hn : ∀ w ∈ W, 32 ∉ TL.tl w) (e : TL.tl s = TL.joinL [32] (W.map TL.tl)) : Txt.split s (Str.ofString " ") = W := by
  have : s = Txt.join (Str.ofString " ") W := TL.ext_tl (by rw [TL.join_eq, TL.tl_join, show TL.tl (Str.ofString " ") = [32] from sp_tl, e])
  rw [this]
  exact TL.split_join (s := 32) (S := []) sp_tl (by decide +kernel) h hn
def w2 : Str := Str.ofString "2"
def w1 : Str := Str.ofString "1"
def wo : Str := Str.ofString "("
def wc : Str := Str.ofString ")"
theorem no32 : 32 ∉ TL.tl w2 ∧ 32 ∉ TL.tl w1 ∧ 32 ∉ TL.tl wo ∧ 32 ∉ TL.tl wc := by decide +kernel
theorem split2 (k : Nat) : Txt.split (mulS (Str.ofString "2 ") k ++ Str.ofString "( 1 )") (Str.ofString " ") = List.replicate k w2 ++ [wo, w1, wc] := by
  refine wsplit (by simp) (fun w hw => ?_) ?_
  · rcases List.mem_append.mp hw with z | z
    · rw [List.eq_of_mem_replicate z]; exact no32.1
    · simp only [List.mem_cons, List.not_mem_nil, or_false] at z
      rcases z with rfl | rfl | rfl
      · exact no32.2.2.1
      · exact no32.2.1
      · exact no32.2.2.2
  · have e2 : TL.tl (Str.ofString "2 ") = TL.tl w2 ++ [32] := by decide +kernel
    have e3 : TL.tl (Str.ofString "( 1 )") = TL.joinL [32] ([wo, w1, wc].map TL.tl) := by decide +kernel
    rw [TL.tl_append, tl_mulS, e2, e3, jl _ _ (by simp), List.map_append, List.map_replicate]
theorem split3 (k : Nat) : Txt.split (Str.ofString "( " ++ mulS (Str.ofString "1 ") k ++ Str.ofString ")") (Str.ofString " ") = wo :: (List.replicate k w1 ++ [wc]) := by
  refine wsplit (by simp) (fun w hw => ?_) ?_
  · rcases List.mem_cons.mp hw with z | hw
    · rw [z]; exact no32.2.2.1
    rcases List.mem_append.mp hw with z | z
    · rw [List.eq_of_mem_replicate z]; exact no32.2.1
    · rw [List.mem_singleton] at z
      rw [z]; exact no32.2.2.2
  · have e1 : TL.tl (Str.ofString "( ") = TL.tl wo ++ [32] := by decide +kernel
    have e2 : TL.tl (Str.ofString "1 ") = TL.tl w1 ++ [32] := by decide +kernel
    have e3 : TL.tl (Str.ofString ")") = TL.joinL [32] ([wc].map TL.tl) := by decide +kernel
    have h1 := jl (TL.tl wo) ((List.replicate k w1 ++ [wc]).map TL.tl) (by simp) 1
    rw [TL.tl_append, TL.tl_append, tl_mulS, e1, e2, e3, List.append_assoc, jl _ _ (by simp)]
    rw [List.map_append, List.map_replicate] at h1
    simpa using h1
theorem exL1 : exW 10 (List.replicate 400 w2 ++ [wo, w1, wc]) = .great := by
  have e1 : digIn 10 (List.replicate 400 w2 ++ [wo, w1, wc]) = List.replicate 400 2 := by decide +kernel
  unfold exW
  rw [e1]
  have e2 : digIn 10 ((List.replicate 400 w2 ++ [wo, w1, wc]).drop ((List.replicate 400 2).length + 1)) = [1] := by decide +kernel
  rw [e2]
  unfold exT
  rw [if_pos (by decide +kernel), if_neg (by decide), if_pos (by decide +kernel), if_neg (by decide +kernel), if_neg (by decide +kernel), if_neg (by decide +kernel)]
theorem exL2 : exW 10 (List.replicate 401 w2 ++ [wo, w1, wc]) = .text (some 400) := by
  have e1 : digIn 10 (List.replicate 401 w2 ++ [wo, w1, wc]) = List.replicate 400 2 := by decide +kernel
  unfold exW
  rw [e1]
  unfold exT
  rw [if_neg (by decide +kernel)]
  rfl
theorem exL3 : exW 10 (wo :: (List.replicate 401 w1 ++ [wc])) = .text (some 401) := by
  have e1 : digIn 10 (wo :: (List.replicate 401 w1 ++ [wc])) = [] := by decide +kernel
  unfold exW
  rw [e1]
  have e2 : digIn 10 ((wo :: (List.replicate 401 w1 ++ [wc])).drop (([] : List Nat).length + 1)) = List.replicate 400 1 := by decide +kernel
  rw [e2]
  unfold exT
  rw [if_pos (by decide +kernel), if_neg (by decide), if_neg (by decide +kernel)]
  rfl

theorem len_mulS (s : Str) (k : Nat) : (mulS s k).length = s.length * k := by
  rw [len_cps, len_cps]
  show (List.replicate k s.cps.toList).flatten.length = _
  simp [Nat.mul_comm]
theorem asc_mulS {s : Str} (h : Asc s) (k : Nat) : Asc (mulS s k) := fun c hc => by
  have hc : c ∈ (List.replicate k s.cps.toList).flatten := hc
  obtain ⟨l, hl, hcl⟩ := List.mem_flatten.mp hc
  rw [List.eq_of_mem_replicate hl] at hcl
  exact h c hcl
structure OkX (r : Str × PyData) : Prop where
  ev : PyData.eqv (dueO (exOd 10 (.str r.1))) (dueE r.2) = true
  s1 : SeqAt.shaped (dueO (exOd 10 (.str r.1))) = true
  s2 : SeqAt.shaped (dueE r.2) = true
  dn : r.2 = .none ∨ ∃ k : Nat, r.2 = .int (k : Nat)
  sm : ∀ s, PyData.str r.1 = .str s → s.length ≤ 4000 ∧ Asc s
theorem okX_of {r : Str × PyData} (h : okE r = true) (hn : r.2 = .none ∨ ∃ k : Nat, r.2 = .int (k : Nat)) : OkX r := by
  unfold okE at h
  rw [Bool.and_eq_true, Bool.and_eq_true, Bool.and_eq_true, Bool.and_eq_true, decide_eq_true_iff, List.all_eq_true] at h
  obtain ⟨⟨⟨⟨h1, h2⟩, h3⟩, h5⟩, h6⟩ := h
  refine ⟨h1, h2, h3, hn, fun s e => ?_⟩
  have := PyData.str.inj e
  subst this
  exact ⟨h5, fun c hc => of_decide_eq_true (h6 c hc)⟩
theorem asc_small : Asc (Str.ofString "2 ") ∧ Asc (Str.ofString "1 ") ∧ Asc (Str.ofString "( 1 )") ∧ Asc (Str.ofString "( ") ∧ Asc (Str.ofString ")") := by
  unfold Asc
  decide +kernel
theorem len_small : (Str.ofString "2 ").length = 2 ∧ (Str.ofString "1 ").length = 2 ∧ (Str.ofString "( 1 )").length = 5 ∧ (Str.ofString "( ").length = 2 ∧ (Str.ofString ")").length = 1 := by decide +kernel
theorem okX_out {s : Str} {e : PyData} {o : Out} (h : exW 10 (Txt.split s (Str.ofString " ")) = o) (h1 : PyData.eqv (dueO o) (dueE e) = true ∧ SeqAt.shaped (dueO o) = true ∧ SeqAt.shaped (dueE e) = true) (hn : e = .none ∨ ∃ k : Nat, e = .int (k : Nat)) (hl : s.length ≤ 4000) (ha : Asc s) : OkX (s, e) := by
  have ex : exOd 10 (.str s) = o := h
  refine ⟨?_, ?_, h1.2.2, hn, fun s' e => ?_⟩
  · show PyData.eqv (dueO (exOd 10 (.str s))) _ = true
    rw [ex]
    exact h1.1
  · show SeqAt.shaped (dueO (exOd 10 (.str s))) = true
    rw [ex]
    exact h1.2.1
  · have := PyData.str.inj e
    subst this
    exact ⟨hl, ha⟩
theorem rows567_ok : ∀ r ∈ (rows5 ++ rows6) ++ rows7, OkX r := by
  intro r h
  rcases List.mem_append.mp h with h | h
  · refine okX_of (rows56_ok r h) (.inr ?_)
    unfold rows5 rows6 at h
    simp only [List.cons_append, List.nil_append, List.mem_cons, List.not_mem_nil, or_false] at h
    rcases h with rfl | rfl | rfl | rfl | rfl | rfl | rfl | rfl | rfl | rfl | rfl | rfl | rfl | rfl | rfl | rfl <;> exact ⟨_, rfl⟩
  · obtain ⟨a1, a2, a3, a4, a5⟩ := asc_small
    obtain ⟨l1, l2, l3, l4, l5⟩ := len_small
    unfold rows7 at h
    simp only [List.mem_cons, List.not_mem_nil, or_false] at h
    rcases h with rfl | rfl | rfl
    · exact okX_out ((congrArg (exW 10) (split2 400)).trans exL1) (by decide +kernel) (.inl rfl) (by rw [len_appS, len_mulS, l1, l3]; decide) (asc_app (asc_mulS a1 _) a3)
    · exact okX_out ((congrArg (exW 10) (split2 401)).trans exL2) (by decide +kernel) (.inr ⟨400, rfl⟩) (by rw [len_appS, len_mulS, l1, l3]; decide) (asc_app (asc_mulS a1 _) a3)
    · exact okX_out ((congrArg (exW 10) (split3 401)).trans exL3) (by decide +kernel) (.inr ⟨401, rfl⟩) (by rw [len_appS, len_appS, len_mulS, l4, l2, l5]; decide) (asc_app (asc_app a4 (asc_mulS a2 _)) a5)
theorem tt_err {T : Txt K mg} {t0 : XK → Hp → VK → Prop} {H : Hp} {C : Addr} {f w : Str} (d0 : PyData) (hm : (C, f, w) ∈ errs T) (h : ∀ H2 Qn E, Gr [] H H2 → (∀ dd v H', Gr [] H2 H' → H' dd = some (.xd [(f, v)]) → Dp K H' v d0 → E (.ref C) (some dd) H') → t0 E H2 Qn) {Q : VK}
    (q : ∀ p H', Gr [] H H' → Dp K H' p (.tuple [.str w, d0]) → Q p H') : TTg (errs T) t0 H Q := fun H2 Qn E g k1 k2 => h H2 Qn E g fun dd v H' g' hd hv => k2 C dd f w v H' hm hd fun t H4 g4 ht => q (.ref t) H4 ((g.trans g').trans g4) (dp_tup ht (.cons (.str _) (.cons (Dp.kp (Kp.of g4) hv) .nil)))
def end5 : List PyData := [.tuple [.str (Str.ofString "base"), .int 1], .tuple [.str (Str.ofString "text"), .none], .tuple [.str (Str.ofString "fraction"), .tuple [.int 2, .int 4]], .tuple [.str (Str.ofString "fraction"), .str (Str.ofString "1/7")], .tuple [.str (Str.ofString "base"), .none]]
theorem fit5 : Fits (.list end5) := Sm.fits (D := 3) (W := 1000) ⟨by decide +kernel, by decide +kernel, by decide +kernel, by decide +kernel, by decide +kernel, by decide +kernel⟩
theorem kpE {H H' : Hp} (g : ExtN H H') : Kp H H' := ⟨fun a _ e => g a _ e (fun _ z => by cases z), fun a _ e => g a _ e (fun _ z => by cases z), fun a _ _ e => g a _ e (fun _ z => by cases z)⟩
theorem okG_law_hand_right (T : Txt K mg) (B : Tbs T base) : FnG P w K mg base CX0 11 T.d_law_hand_right.f T.d_law_hand_right.fd [] (sp_law_hand_right T) := by
  refine fnGc0 T.d_law_hand_right.F sc_law_hand_right (fun vs H Q E h => ?_) (fun cdv A outer s H vs Q E hcc hgd hr h => ?_)
  · rw [h.1]; rfl
  · have hu := hu_of hr
    have hcode : cdv = .ref T.k_law_hand_right := hcc.symm.trans T.e_law_hand_right
    refine ⟨_, (pss_cons (ps_set (i := 0) sc_law_hand_right.nd rfl (by first | exact .inl rfl | exact .inr rfl) (pe_lst (pa_cons (pe_tup (pa_cons pe_str (pa_cons pe_int pa_nil))) (pa_cons (pe_tup (pa_cons pe_str (pa_cons pe_int pa_nil))) (pa_cons (pe_tup (pa_cons pe_str (pa_cons pe_int pa_nil))) (pa_cons (pe_tup (pa_cons pe_str (pa_cons pe_int pa_nil))) (pa_cons (pe_tup (pa_cons pe_str (pa_cons pe_int pa_nil))) (pa_cons (pe_tup (pa_cons pe_str (pa_cons pe_int pa_nil))) (pa_cons (pe_tup (pa_cons pe_str (pa_cons pe_int pa_nil))) (pa_cons (pe_tup (pa_cons pe_str (pa_cons pe_int pa_nil))) (pa_cons (pe_tup (pa_cons pe_str (pa_cons pe_int pa_nil))) (pa_cons (pe_tup (pa_cons pe_str (pa_cons pe_int pa_nil))) pa_nil))))))))))))
      (pss_cons (ps_set (i := 0) sc_law_hand_right.nd rfl (by first | exact .inl rfl | exact .inr rfl) (pe_op op_cat (pv 0) (pe_lst (pa_cons (pe_tup (pa_cons pe_str (pa_cons pe_int pa_nil))) (pa_cons (pe_tup (pa_cons pe_str (pa_cons pe_int pa_nil))) (pa_cons (pe_tup (pa_cons pe_str (pa_cons pe_int pa_nil))) (pa_cons (pe_tup (pa_cons pe_str (pa_cons pe_int pa_nil))) (pa_cons (pe_tup (pa_cons (pe_op op_add_str (pe_op (r := rRepS) op_repS pe_str pe_int) pe_str) (pa_cons pe_int pa_nil))) (pa_cons (pe_tup (pa_cons (pe_op op_add_str pe_str (pe_op (r := rRepS) op_repS pe_str pe_int)) (pa_cons pe_int pa_nil))) pa_nil)))))))))
      (pss_cons (ps_for PassesOwn.never rfl (pi_list (pv 0)) (pg_tup (by rfl) (pgs_cons (pg_name (i := 1) sc_law_hand_right.nd rfl (by first | exact .inl rfl | exact .inr rfl)) (pgs_cons (pg_name (i := 2) sc_law_hand_right.nd rfl (by first | exact .inl rfl | exact .inr rfl)) pgs_nil))) (pss_one (ps_if (pt_cmpR (r := rNeD K) (op_neD hr.units) (pe_outc (T := tl T) (TT := TTout T) (k := 8) (by rfl) T.d_law_outcome.m T.d_law_outcome.F.kp T.d_law_outcome.F rfl T.d_law_outcome.b sc_law_outcome rfl (by first | exact .inl rfl | exact .inr (.inl rfl)) (gives_out T rfl rfl) (fun pins σ H s Q I hT h => lam_plain I (B.tb_law_hand_right) hcode (hm_law_hand_right T) (hu_law_hand_right T) hT rfl (LamD.has (lamD_by (N := ["rows", "text", "place", "pair", "due", "heard"]) (sc := defScope s_law_hand_right) (by decide +kernel)) I.ok) (fun _ _ _ _ _ _ => rfl) h) (hr.mono (by decide)) (lamD_by (N := ["rows", "text", "place", "pair", "due", "heard"]) (sc := defScope s_law_hand_right) (by decide +kernel)) (fun _ _ _ _ _ _ _ hr => (pe_call (okX_read_fraction T) (hr.mono (by decide)) (by rfl) T.d_read_fraction.m T.d_read_fraction.F.kp T.d_read_fraction.b .nil (passes_call (takes_of rfl rfl rfl rfl) (fun _ _ _ _ z => z)) (pa_cons (pv 1) pa_nil)))) (pe_tup (pa_cons pe_str (pa_cons (pv 2) pa_nil))) (nomark _)) (pss_one (ps_ret pe_bl)) pss_nil)))
      (pss_cons (ps_set (i := 0) sc_law_hand_right.nd rfl (by first | exact .inl rfl | exact .inr rfl) (pe_lst (pa_cons (pe_tup (pa_cons pe_str (pa_cons (pe_tup (pa_cons pe_int (pa_cons pe_int pa_nil))) pa_nil))) (pa_cons (pe_tup (pa_cons pe_str (pa_cons (pe_tup (pa_cons pe_int (pa_cons pe_int pa_nil))) pa_nil))) (pa_cons (pe_tup (pa_cons pe_str (pa_cons (pe_tup (pa_cons pe_int (pa_cons pe_int pa_nil))) pa_nil))) (pa_cons (pe_tup (pa_cons pe_str (pa_cons (pe_tup (pa_cons pe_int (pa_cons pe_int pa_nil))) pa_nil))) (pa_cons (pe_tup (pa_cons pe_str (pa_cons (pe_tup (pa_cons pe_int (pa_cons pe_int pa_nil))) pa_nil))) (pa_cons (pe_tup (pa_cons pe_str (pa_cons (pe_tup (pa_cons pe_int (pa_cons pe_int pa_nil))) pa_nil))) pa_nil))))))))
      (pss_cons (ps_set (i := 0) sc_law_hand_right.nd rfl (by first | exact .inl rfl | exact .inr rfl) (pe_op op_cat (pv 0) (pe_lst (pa_cons (pe_tup (pa_cons (pe_op op_add_str (pe_op (r := rRepS) op_repS pe_str pe_int) pe_str) (pa_cons (pe_tup (pa_cons (pe_op op_sub (pe_op op_pow pe_int pe_int) pe_int) (pa_cons pe_int pa_nil))) pa_nil))) (pa_cons (pe_tup (pa_cons (pe_op op_add_str pe_str (pe_op (r := rRepS) op_repS pe_str pe_int)) (pa_cons (pe_tup (pa_cons pe_int (pa_cons (pe_op op_sub (pe_op op_pow pe_int pe_int) pe_int) pa_nil))) pa_nil))) pa_nil)))))
      (pss_cons (ps_for PassesOwn.never rfl (pi_list (pv 0)) (pg_tup (by rfl) (pgs_cons (pg_name (i := 1) sc_law_hand_right.nd rfl (by first | exact .inl rfl | exact .inr rfl)) (pgs_cons (pg_name (i := 3) sc_law_hand_right.nd rfl (by first | exact .inl rfl | exact .inr rfl)) pgs_nil))) (pss_one (ps_if (pt_cmpR (r := rNeD K) (op_neD hr.units) (pe_outc (T := tl T) (TT := TTout T) (k := 8) (by rfl) T.d_law_outcome.m T.d_law_outcome.F.kp T.d_law_outcome.F rfl T.d_law_outcome.b sc_law_outcome rfl (by first | exact .inl rfl | exact .inr (.inl rfl)) (gives_out T rfl rfl) (fun pins σ H s Q I hT h => lam_plain I (B.tb_law_hand_right) hcode (hm_law_hand_right T) (hu_law_hand_right T) hT rfl (LamD.has (lamD_by (N := ["rows", "text", "place", "pair", "due", "heard"]) (sc := defScope s_law_hand_right) (by decide +kernel)) I.ok) (fun _ _ _ _ _ _ => rfl) h) (hr.mono (by decide)) (lamD_by (N := ["rows", "text", "place", "pair", "due", "heard"]) (sc := defScope s_law_hand_right) (by decide +kernel)) (fun _ _ _ _ _ _ _ hr => (pe_call (okX_read_fraction T) (hr.mono (by decide)) (by rfl) T.d_read_fraction.m T.d_read_fraction.F.kp T.d_read_fraction.b .nil (passes_call (takes_of rfl rfl rfl rfl) (fun _ _ _ _ z => z)) (pa_cons (pv 1) pa_nil)))) (pe_tup (pa_cons pe_str (pa_cons (pv 3) pa_nil))) (nomark _)) (pss_one (ps_ret pe_bl)) pss_nil)))
      (pss_cons (ps_set (i := 0) sc_law_hand_right.nd rfl (by first | exact .inl rfl | exact .inr rfl) (pe_lst (pa_cons (pe_tup (pa_cons pe_str (pa_cons pe_int pa_nil))) (pa_cons (pe_tup (pa_cons pe_str (pa_cons pe_int pa_nil))) (pa_cons (pe_tup (pa_cons pe_str (pa_cons pe_int pa_nil))) (pa_cons (pe_tup (pa_cons pe_str (pa_cons pe_int pa_nil))) (pa_cons (pe_tup (pa_cons pe_str (pa_cons pe_int pa_nil))) (pa_cons (pe_tup (pa_cons pe_str (pa_cons pe_int pa_nil))) (pa_cons (pe_tup (pa_cons pe_str (pa_cons pe_int pa_nil))) (pa_cons (pe_tup (pa_cons pe_str (pa_cons pe_int pa_nil))) (pa_cons (pe_tup (pa_cons pe_str (pa_cons pe_int pa_nil))) pa_nil)))))))))))
      (pss_cons (ps_set (i := 0) sc_law_hand_right.nd rfl (by first | exact .inl rfl | exact .inr rfl) (pe_op op_cat (pv 0) (pe_lst (pa_cons (pe_tup (pa_cons pe_str (pa_cons pe_int pa_nil))) (pa_cons (pe_tup (pa_cons pe_str (pa_cons pe_int pa_nil))) (pa_cons (pe_tup (pa_cons pe_str (pa_cons pe_int pa_nil))) (pa_cons (pe_tup (pa_cons pe_str (pa_cons pe_int pa_nil))) (pa_cons (pe_tup (pa_cons pe_str (pa_cons pe_int pa_nil))) (pa_cons (pe_tup (pa_cons pe_str (pa_cons pe_int pa_nil))) (pa_cons (pe_tup (pa_cons pe_str (pa_cons pe_int pa_nil))) pa_nil))))))))))
      (pss_cons (ps_set (i := 0) sc_law_hand_right.nd rfl (by first | exact .inl rfl | exact .inr rfl) (pe_op op_cat (pv 0) (pe_lst (pa_cons (pe_tup (pa_cons (pe_op op_add_str (pe_op (r := rRepS) op_repS pe_str pe_int) pe_str) (pa_cons pe_non pa_nil))) (pa_cons (pe_tup (pa_cons (pe_op op_add_str (pe_op (r := rRepS) op_repS pe_str pe_int) pe_str) (pa_cons pe_int pa_nil))) (pa_cons (pe_tup (pa_cons (pe_op op_add_str (pe_op op_add_str pe_str (pe_op (r := rRepS) op_repS pe_str pe_int)) pe_str) (pa_cons pe_int pa_nil))) pa_nil))))))
      (pss_cons (ps_for PassesOwn.never rfl (pi_list (pv 0)) (pg_tup (by rfl) (pgs_cons (pg_name (i := 1) sc_law_hand_right.nd rfl (by first | exact .inl rfl | exact .inr rfl)) (pgs_cons (pg_name (i := 2) sc_law_hand_right.nd rfl (by first | exact .inl rfl | exact .inr rfl)) pgs_nil))) (pss_cons (ps_set (i := 4) sc_law_hand_right.nd rfl (by first | exact .inl rfl | exact .inr rfl) (pe_ifExp (pt_cmpR op_notN (pv 2) pe_non (nomark _)) (pe_tup (pa_cons pe_str (pa_cons (pv 2) pa_nil))) (pe_tup (pa_cons pe_str (pa_cons pe_int pa_nil)))))
      (pss_one (ps_if (pt_cmpR (r := rNeD K) (op_neD hr.units) (pe_outc (T := tl T) (TT := TTout T) (k := 8) (by rfl) T.d_law_outcome.m T.d_law_outcome.F.kp T.d_law_outcome.F rfl T.d_law_outcome.b sc_law_outcome rfl (by first | exact .inl rfl | exact .inr (.inl rfl)) (gives_out T rfl rfl) (fun pins σ H s Q I hT h => lam_plain I (B.tb_law_hand_right) hcode (hm_law_hand_right T) (hu_law_hand_right T) hT rfl (LamD.has (lamD_by (N := ["rows", "text", "place", "pair", "due", "heard"]) (sc := defScope s_law_hand_right) (by decide +kernel)) I.ok) (fun _ _ _ _ _ _ => rfl) h) (hr.mono (by decide)) (lamD_by (N := ["rows", "text", "place", "pair", "due", "heard"]) (sc := defScope s_law_hand_right) (by decide +kernel)) (fun _ _ _ _ _ _ _ hr => (pe_call (okX_read_expansion T) (hr.mono (by decide)) (by rfl) T.d_read_expansion.m T.d_read_expansion.F.kp T.d_read_expansion.b .nil (passes_call (takes_of rfl rfl rfl rfl) (fun _ _ _ _ z => z)) (pa_cons pe_int (pa_cons (pv 1) pa_nil))))) (pv 4) (nomark _)) (pss_one (ps_ret pe_bl)) pss_nil))))
      (pss_cons (ps_set (i := 5) sc_law_hand_right.nd rfl (by first | exact .inl rfl | exact .inr rfl) (pe_lst (pa_cons (pe_outc (T := tl T) (TT := TTout T) (k := 8) (by rfl) T.d_law_outcome.m T.d_law_outcome.F.kp T.d_law_outcome.F rfl T.d_law_outcome.b sc_law_outcome rfl (by first | exact .inl rfl | exact .inr (.inl rfl)) (gives_out T rfl rfl) (fun pins σ H s Q I hT h => lam_plain I (B.tb_law_hand_right) hcode (hm_law_hand_right T) (hu_law_hand_right T) hT rfl (LamD.has (lamD_by (N := ["rows", "text", "place", "pair", "due", "heard"]) (sc := defScope s_law_hand_right) (by decide +kernel)) I.ok) (fun _ _ _ _ _ _ => rfl) h) (hr.mono (by decide)) (lamD_by (N := ["rows", "text", "place", "pair", "due", "heard"]) (sc := defScope s_law_hand_right) (by decide +kernel)) (fun _ _ _ _ _ _ _ hr => (pe_call (okX_read_expansion T) (hr.mono (by decide)) (by rfl) T.d_read_expansion.m T.d_read_expansion.F.kp T.d_read_expansion.b .nil (passes_call (takes_of rfl rfl rfl rfl) (fun _ _ _ _ z => z)) (pa_cons pe_int (pa_cons pe_non pa_nil))))) (pa_cons (pe_outc (T := tl T) (TT := TTout T) (k := 8) (by rfl) T.d_law_outcome.m T.d_law_outcome.F.kp T.d_law_outcome.F rfl T.d_law_outcome.b sc_law_outcome rfl (by first | exact .inl rfl | exact .inr (.inl rfl)) (gives_out T rfl rfl) (fun pins σ H s Q I hT h => lam_dflt I (B.tb_law_hand_right) hcode (hm_law_hand_right T) (hu_law_hand_right T) hT rfl rfl (LamD.has (lamD_by (N := ["rows", "text", "place", "pair", "due", "heard"]) (sc := defScope s_law_hand_right) (by decide +kernel)) I.ok) (fun _ _ _ _ _ _ _ _ => ⟨_, rfl, rfl⟩) rfl (fun _ _ z => z) h) (hr.mono (by decide)) (lamD_by (N := ["rows", "text", "place", "pair", "due", "heard"]) (sc := defScope s_law_hand_right) (by decide +kernel)) (fun _ _ _ _ _ _ _ hr => (pe_call (okX_read_expansion T) (hr.mono (by decide)) (by rfl) T.d_read_expansion.m T.d_read_expansion.F.kp T.d_read_expansion.b .nil (passes_call (takes_of rfl rfl rfl rfl) (fun _ _ _ _ z => z)) (pa_cons pe_int (pa_cons (pe_lst (pa_cons pe_str pa_nil)) pa_nil))))) pa_nil))))
      (pss_cons (ps_set (i := 5) sc_law_hand_right.nd rfl (by first | exact .inl rfl | exact .inr rfl) (pe_op op_cat (pv 5) (pe_lst (pa_cons (pe_outc (T := tl T) (TT := TTout T) (k := 8) (by rfl) T.d_law_outcome.m T.d_law_outcome.F.kp T.d_law_outcome.F rfl T.d_law_outcome.b sc_law_outcome rfl (by first | exact .inl rfl | exact .inr (.inl rfl)) (gives_out T rfl rfl) (fun pins σ H s Q I hT h => lam_plain I (B.tb_law_hand_right) hcode (hm_law_hand_right T) (hu_law_hand_right T) hT rfl (LamD.has (lamD_by (N := ["rows", "text", "place", "pair", "due", "heard"]) (sc := defScope s_law_hand_right) (by decide +kernel)) I.ok) (fun _ _ _ _ _ _ => rfl) h) (hr.mono (by decide)) (lamD_by (N := ["rows", "text", "place", "pair", "due", "heard"]) (sc := defScope s_law_hand_right) (by decide +kernel)) (fun _ _ _ _ _ _ _ hr => (pe_call (okX_fraction_text T) (hr.mono (by decide)) (by rfl) T.d_fraction_text.m T.d_fraction_text.F.kp T.d_fraction_text.b .nil (passes_call (takes_of rfl rfl rfl rfl) (fun _ _ _ _ z => z)) (pa_cons (pe_tup (pa_cons pe_int (pa_cons pe_int pa_nil))) pa_nil)))) (pa_cons (pe_outc (T := tl T) (TT := TTout T) (k := 8) (by rfl) T.d_law_outcome.m T.d_law_outcome.F.kp T.d_law_outcome.F rfl T.d_law_outcome.b sc_law_outcome rfl (by first | exact .inl rfl | exact .inr (.inl rfl)) (gives_out T rfl rfl) (fun pins σ H s Q I hT h => lam_dflt I (B.tb_law_hand_right) hcode (hm_law_hand_right T) (hu_law_hand_right T) hT rfl rfl (LamD.has (lamD_by (N := ["rows", "text", "place", "pair", "due", "heard"]) (sc := defScope s_law_hand_right) (by decide +kernel)) I.ok) (fun _ _ _ _ _ _ _ _ => ⟨_, rfl, rfl⟩) rfl (fun _ _ z => z) h) (hr.mono (by decide)) (lamD_by (N := ["rows", "text", "place", "pair", "due", "heard"]) (sc := defScope s_law_hand_right) (by decide +kernel)) (fun _ _ _ _ _ _ _ hr => (pe_call (okX_expansion_text T) (hr.mono (by decide)) (by rfl) T.d_expansion_text.m T.d_expansion_text.F.kp T.d_expansion_text.b .nil (passes_call (takes_of rfl rfl rfl rfl) (fun _ _ _ _ z => z)) (pa_cons pe_int (pa_cons pe_str pa_nil))))) pa_nil)))))
      (pss_cons (ps_expr (pe_bm PySem.F.plainAttrs_list PySem.F.slot_list_append PySem.F.type_list_append mt_append (pv 5) (pa_cons (pe_outc (T := tl T) (TT := TTout T) (k := 8) (by rfl) T.d_law_outcome.m T.d_law_outcome.F.kp T.d_law_outcome.F rfl T.d_law_outcome.b sc_law_outcome rfl (by first | exact .inl rfl | exact .inr (.inl rfl)) (gives_out T rfl rfl) (fun pins σ H s Q I hT h => lam_plain I (B.tb_law_hand_right) hcode (hm_law_hand_right T) (hu_law_hand_right T) hT rfl (LamD.has (lamD_by (N := ["rows", "text", "place", "pair", "due", "heard"]) (sc := defScope s_law_hand_right) (by decide +kernel)) I.ok) (fun _ _ _ _ _ _ => rfl) h) (hr.mono (by decide)) (lamD_by (N := ["rows", "text", "place", "pair", "due", "heard"]) (sc := defScope s_law_hand_right) (by decide +kernel)) (fun _ _ _ _ _ _ _ hr => (pe_call (okX_expansion_text T) (hr.mono (by decide)) (by rfl) T.d_expansion_text.m T.d_expansion_text.F.kp T.d_expansion_text.b .nil (passes_call (takes_of rfl rfl rfl rfl) (fun _ _ _ _ z => z)) (pa_cons pe_non (pa_cons pe_non pa_nil))))) pa_nil)))
      (pss_cons (ps_set (i := 4) sc_law_hand_right.nd rfl (by first | exact .inl rfl | exact .inr rfl) (pe_lst (pa_cons (pe_tup (pa_cons pe_str (pa_cons pe_int pa_nil))) (pa_cons (pe_tup (pa_cons pe_str (pa_cons pe_non pa_nil))) (pa_cons (pe_tup (pa_cons pe_str (pa_cons (pe_tup (pa_cons pe_int (pa_cons pe_int pa_nil))) pa_nil))) (pa_cons (pe_tup (pa_cons pe_str (pa_cons pe_str pa_nil))) (pa_cons (pe_tup (pa_cons pe_str (pa_cons pe_non pa_nil))) pa_nil)))))))
      (pss_one (ps_ret (pe_cmpR op_eq (pe_callB (r := rRepr K) (call_repr hgd (gu_of hr)) (by rfl) T.b_repr (by decide +kernel) (pa_cons (pv 5) pa_nil)) (pe_callB (r := rRepr K) (call_repr hgd (gu_of hr)) (by rfl) T.b_repr (by decide +kernel) (pa_cons (pv 4) pa_nil)) (nomark _)))))))))))))))))), ?_⟩
    obtain ⟨rfl, tH, q⟩ := h
    unfold tSeq tAsg
    refine ezl_lst (K := K) (W := []) (ds := rowsD rows1) ?e1 (by decide) (Gr.refl _ _) (fun a ha => by simp at ha) fun p1 vs1 H1 g1 ep1 aa1 => ?_
    case e1 =>
      exact ezs_cons (ez_tup (ezs_cons ez_str (ezs_cons ez_int ezs_nil))) (ezs_cons (ez_tup (ezs_cons ez_str (ezs_cons ez_int ezs_nil))) (ezs_cons (ez_tup (ezs_cons ez_str (ezs_cons ez_int ezs_nil))) (ezs_cons (ez_tup (ezs_cons ez_str (ezs_cons ez_int ezs_nil))) (ezs_cons (ez_tup (ezs_cons ez_str (ezs_cons ez_int ezs_nil))) (ezs_cons (ez_tup (ezs_cons ez_str (ezs_cons ez_int ezs_nil))) (ezs_cons (ez_tup (ezs_cons ez_str (ezs_cons ez_int ezs_nil))) (ezs_cons (ez_tup (ezs_cons ez_str (ezs_cons ez_int ezs_nil))) (ezs_cons (ez_tup (ezs_cons ez_str (ezs_cons ez_int ezs_nil))) (ezs_cons (ez_tup (ezs_cons ez_str (ezs_cons ez_int ezs_nil))) ezs_nil)))))))))
    have aa1 := aa1.out
    have t1 := tabsGr tH g1
    refine ⟨_, rfl, ?_⟩
    refine ezl_lst (K := K) (W := []) (ds := rowsD rows2) ?e2 (by decide) (Gr.refl _ _) (fun a ha => by simp at ha) fun p2 vs2 H2 g2 ep2 aa2 => ?_
    case e2 =>
      exact ezs_cons (ez_tup (ezs_cons ez_str (ezs_cons ez_int ezs_nil))) (ezs_cons (ez_tup (ezs_cons ez_str (ezs_cons ez_int ezs_nil))) (ezs_cons (ez_tup (ezs_cons ez_str (ezs_cons ez_int ezs_nil))) (ezs_cons (ez_tup (ezs_cons ez_str (ezs_cons ez_int ezs_nil))) (ezs_cons (ez_tup (ezs_cons (ez_catS (ez_rep 41 rfl (by decide +kernel) (by decide)) ez_str (by decide +kernel)) (ezs_cons ez_int ezs_nil))) (ezs_cons (ez_tup (ezs_cons (ez_catS ez_str (ez_rep 41 rfl (by decide +kernel) (by decide)) (by decide +kernel)) (ezs_cons ez_int ezs_nil))) ezs_nil)))))
    have aa2 := aa2.out
    have t2 := tabsGr t1 g2
    have lv1 := dzAll_len aa1
    have lv2 := dzAll_len aa2
    refine ⟨p1, p2, vs1, vs2, rfl, rfl, g2 p1 _ (by simp) ep1, ep2, ?_, fun p3 np3 => ?_⟩
    · rw [lv1, lv2]
      exact Nat.le_trans (show _ ≤ 6000 by decide) (by decide)
    have g3 := Gr.new (W := []) (o := .lst (vs1 ++ vs2)) np3
    have h3 : (upd H2 p3 (.lst (vs1 ++ vs2))) p3 = some (.lst (vs1 ++ vs2)) := upd_same
    have a3 : DzAll K (upd H2 p3 (.lst (vs1 ++ vs2))) (vs1 ++ vs2) (rowsD (rows1 ++ rows2)) := DzAll.gr g3 (dzAll_append (DzAll.gr g2 aa1) aa2)
    have t3 := tabsGr t2 g3
    generalize upd H2 p3 (.lst (vs1 ++ vs2)) = H3 at g3 h3 a3 t3 ⊢
    clear np3 lv1 lv2 aa1 aa2 ep1 ep2
    generalize vs1 ++ vs2 = vs at h3 a3
    refine ⟨_, rfl, p3, rfl, ⟨_, sq_lst h3⟩, ?_⟩
    refine for_list (D := ⟨_, Q, fun _ _ => False, fun _ _ => False⟩) (K := K) (a := p3) (xs := vs) (fun i σ H' => ExtN H3 H' ∧ Tabs (tl T) H' ∧ ∃ v1 v2, σ = [some (.ref p3), v1, v2, none, none, none]) ⟨ExtN.refl _, t3, _, _, rfl⟩ (fun i σ H' _ z => sq_lst (ExtN.lst z.1 h3)) ?_ ?_
    · rintro i y σ H4 hy ⟨e4, t4, v1, v2, rfl⟩
      obtain ⟨r, t, w, hr, rfl, hs, hw⟩ := row_at (DzAll.ext e4 a3) hy
      obtain ⟨o1, o2, o3, o4, o5⟩ := okF_out (rows12_ok r hr)
      refine ⟨t, _, rfl, hs, rfl, _, _, rfl, _, _, rfl, rfl, ?_⟩
      refine ⟨t4, fun H5 e5 t5 => tt_outsD (o := frO r.1) (fun Hx Qn E gx ho => ⟨_, rfl, .str r.1, .str r.1, rfl, .str _, fun s hs => (o5 s hs).1, ho⟩) fun p H6 g6 d6 => ?_⟩
      refine ⟨_, rfl, by show 2 ≤ sizeLine; decide, fun u nu => ?_⟩
      have gu := Gr.new (W := []) (o := .tup [.str (Str.ofString "text"), w]) nu
      have E6 := (e5.trans (extOf g6)).trans (extOf gu)
      have hw6 := dp_simple o4 (Dz.ext E6 hw)
      refine ⟨dueO (frO r.1), .tuple [.str (Str.ofString "text"), r.2], Dp.kp (Kp.of gu) d6, dp_tup upd_same (.cons (.str _) (.cons hw6 .nil)), o2, o3, _, rfl, iteFb (by rw [o1]; rfl) ?_⟩
      exact ⟨e4.trans E6, tabsGr (tabsGr t5 g6) gu, _, _, rfl⟩
    rintro σ H4 ⟨e4, t4, v1, v2, rfl⟩
    clear h3 a3 t3 e4 g1 g2 g3 t1 t2
    dsimp only
    refine ezl_lst (K := K) (W := []) (ds := rowsD rows3) ?e3 (by decide) (Gr.refl _ _) (fun a ha => by simp at ha) fun p5 vs5 H5 g5 ep5 aa5 => ?_
    case e3 =>
      exact (ezs_cons (ez_tup (ezs_cons ez_str (ezs_cons (ez_tup (ezs_cons ez_int (ezs_cons ez_int ezs_nil))) ezs_nil))) (ezs_cons (ez_tup (ezs_cons ez_str (ezs_cons (ez_tup (ezs_cons ez_int (ezs_cons ez_int ezs_nil))) ezs_nil))) (ezs_cons (ez_tup (ezs_cons ez_str (ezs_cons (ez_tup (ezs_cons ez_int (ezs_cons ez_int ezs_nil))) ezs_nil))) (ezs_cons (ez_tup (ezs_cons ez_str (ezs_cons (ez_tup (ezs_cons ez_int (ezs_cons ez_int ezs_nil))) ezs_nil))) (ezs_cons (ez_tup (ezs_cons ez_str (ezs_cons (ez_tup (ezs_cons ez_int (ezs_cons ez_int ezs_nil))) ezs_nil))) (ezs_cons (ez_tup (ezs_cons ez_str (ezs_cons (ez_tup (ezs_cons ez_int (ezs_cons ez_int ezs_nil))) ezs_nil))) ezs_nil))))))
    have aa5 := aa5.out
    have t5 := tabsGr t4 g5
    refine ⟨_, rfl, ?_⟩
    refine ezl_lst (K := K) (W := []) (ds := rowsD rows4) ?e4 (by decide) (Gr.refl _ _) (fun a ha => by simp at ha) fun p6 vs6 H6 g6 ep6 aa6 => ?_
    case e4 =>
      exact ezs_cons (ez_tup (ezs_cons (ez_catS (ez_rep 40 rfl (by decide +kernel) (by decide)) ez_str (by decide +kernel)) (ezs_cons (ez_tup (ezs_cons (ez_i0 (g := fun i j => i - j) ez_pow40 ez_int) (ezs_cons ez_int ezs_nil))) ezs_nil))) (ezs_cons (ez_tup (ezs_cons (ez_catS ez_str (ez_rep 40 rfl (by decide +kernel) (by decide)) (by decide +kernel)) (ezs_cons (ez_tup (ezs_cons ez_int (ezs_cons (ez_i0 (g := fun i j => i - j) ez_pow40 ez_int) ezs_nil))) ezs_nil))) ezs_nil)
    have aa6 := aa6.out
    have t6 := tabsGr t5 g6
    have lv5 := dzAll_len aa5
    have lv6 := dzAll_len aa6
    refine ⟨p5, p6, vs5, vs6, rfl, rfl, g6 p5 _ (by simp) ep5, ep6, ?_, fun p7 np7 => ?_⟩
    · rw [lv5, lv6]
      exact Nat.le_trans (show _ ≤ 6000 by decide) (by decide)
    have g7 := Gr.new (W := []) (o := .lst (vs5 ++ vs6)) np7
    have h7 : (upd H6 p7 (.lst (vs5 ++ vs6))) p7 = some (.lst (vs5 ++ vs6)) := upd_same
    have a7 : DzAll K (upd H6 p7 (.lst (vs5 ++ vs6))) (vs5 ++ vs6) (rowsD (rows3 ++ rows4)) := DzAll.gr g7 (dzAll_append (DzAll.gr g6 aa5) aa6)
    have t7 := tabsGr t6 g7
    generalize upd H6 p7 (.lst (vs5 ++ vs6)) = H7 at g7 h7 a7 t7 ⊢
    clear np7 lv5 lv6 aa5 aa6 ep5 ep6
    generalize vs5 ++ vs6 = vs at h7 a7
    refine ⟨_, rfl, p7, rfl, ⟨_, sq_lst h7⟩, ?_⟩
    refine for_list (D := ⟨_, Q, fun _ _ => False, fun _ _ => False⟩) (K := K) (a := p7) (xs := vs) (fun i σ H' => ExtN H7 H' ∧ Tabs (tl T) H' ∧ ∃ v1 v2 v3, σ = [some (.ref p7), v1, v2, v3, none, none]) ⟨ExtN.refl _, t7, _, _, _, rfl⟩ (fun i σ H' _ z => sq_lst (ExtN.lst z.1 h7)) ?_ ?_
    · rintro i y σ H8 hy ⟨e8, t8, v1, v2, v3, rfl⟩
      obtain ⟨r, t, w, hr, rfl, hs, hw⟩ := row_at (DzAll.ext e8 a7) hy
      obtain ⟨o1, o2, o3, o4, o5⟩ := okF_out (rows34_ok r hr)
      refine ⟨t, _, rfl, hs, rfl, _, _, rfl, _, _, rfl, rfl, ?_⟩
      refine ⟨t8, fun H9 e9 t9 => tt_outsD (o := frO r.1) (fun Hx Qn E gx ho => ⟨_, rfl, .str r.1, .str r.1, rfl, .str _, fun s hs => (o5 s hs).1, ho⟩) fun p HA gA dA => ?_⟩
      refine ⟨_, rfl, by show 2 ≤ sizeLine; decide, fun u nu => ?_⟩
      have gu := Gr.new (W := []) (o := .tup [.str (Str.ofString "fraction"), w]) nu
      have EA := (e9.trans (extOf gA)).trans (extOf gu)
      have hwA := dp_simple o4 (Dz.ext EA hw)
      refine ⟨dueO (frO r.1), .tuple [.str (Str.ofString "fraction"), r.2], Dp.kp (Kp.of gu) dA, dp_tup upd_same (.cons (.str _) (.cons hwA .nil)), o2, o3, _, rfl, iteFb (by rw [o1]; rfl) ?_⟩
      exact ⟨e8.trans EA, tabsGr (tabsGr t9 gA) gu, _, _, _, rfl⟩
    rintro σ H8 ⟨e8, t8, v1, v2, v3, rfl⟩
    clear h7 a7 t7 e8 g5 g6 g7 t5 t6
    dsimp only
    refine ezl_lst (K := K) (W := []) (ds := rowsD rows5) ?e5 (by decide) (Gr.refl _ _) (fun a ha => by simp at ha) fun p9 vs9 H9 g9 ep9 aa9 => ?_
    case e5 =>
      exact (ezs_cons (ez_tup (ezs_cons ez_str (ezs_cons ez_int ezs_nil))) (ezs_cons (ez_tup (ezs_cons ez_str (ezs_cons ez_int ezs_nil))) (ezs_cons (ez_tup (ezs_cons ez_str (ezs_cons ez_int ezs_nil))) (ezs_cons (ez_tup (ezs_cons ez_str (ezs_cons ez_int ezs_nil))) (ezs_cons (ez_tup (ezs_cons ez_str (ezs_cons ez_int ezs_nil))) (ezs_cons (ez_tup (ezs_cons ez_str (ezs_cons ez_int ezs_nil))) (ezs_cons (ez_tup (ezs_cons ez_str (ezs_cons ez_int ezs_nil))) (ezs_cons (ez_tup (ezs_cons ez_str (ezs_cons ez_int ezs_nil))) (ezs_cons (ez_tup (ezs_cons ez_str (ezs_cons ez_int ezs_nil))) ezs_nil)))))))))
    have aa9 := aa9.out
    have t9 := tabsGr t8 g9
    refine ⟨_, rfl, ?_⟩
    refine ezl_lst (K := K) (W := []) (ds := rowsD rows6) ?e6 (by decide) (Gr.refl _ _) (fun a ha => by simp at ha) fun pA vsA HA gA epA aaA => ?_
    case e6 =>
      exact (ezs_cons (ez_tup (ezs_cons ez_str (ezs_cons ez_int ezs_nil))) (ezs_cons (ez_tup (ezs_cons ez_str (ezs_cons ez_int ezs_nil))) (ezs_cons (ez_tup (ezs_cons ez_str (ezs_cons ez_int ezs_nil))) (ezs_cons (ez_tup (ezs_cons ez_str (ezs_cons ez_int ezs_nil))) (ezs_cons (ez_tup (ezs_cons ez_str (ezs_cons ez_int ezs_nil))) (ezs_cons (ez_tup (ezs_cons ez_str (ezs_cons ez_int ezs_nil))) (ezs_cons (ez_tup (ezs_cons ez_str (ezs_cons ez_int ezs_nil))) ezs_nil)))))))
    have aaA := aaA.out
    have tA := tabsGr t9 gA
    have lv9 := dzAll_len aa9
    have lvA := dzAll_len aaA
    refine ⟨p9, pA, vs9, vsA, rfl, rfl, gA p9 _ (by simp) ep9, epA, ?_, fun pB npB => ?_⟩
    · rw [lv9, lvA]
      exact Nat.le_trans (show _ ≤ 6000 by decide) (by decide)
    have gB := Gr.new (W := []) (o := .lst (vs9 ++ vsA)) npB
    have hB : (upd HA pB (.lst (vs9 ++ vsA))) pB = some (.lst (vs9 ++ vsA)) := upd_same
    have aB : DzAll K (upd HA pB (.lst (vs9 ++ vsA))) (vs9 ++ vsA) (rowsD (rows5 ++ rows6)) := DzAll.gr gB (dzAll_append (DzAll.gr gA aa9) aaA)
    have tB := tabsGr tA gB
    have lB : (vs9 ++ vsA).length = 16 := by rw [List.length_append, lv9, lvA]; rfl
    generalize upd HA pB (.lst (vs9 ++ vsA)) = HB at gB hB aB tB ⊢
    clear npB lv9 lvA aa9 aaA ep9 epA
    generalize vs9 ++ vsA = vs at hB aB lB ⊢
    refine ⟨_, rfl, ?_⟩
    refine ezl_lst (K := K) (W := []) (ds := rowsD rows7) ?e7 (by decide) (Gr.refl _ _) (fun a ha => by simp at ha) fun pC vsC HC gC epC aaC => ?_
    case e7 =>
      exact ezs_cons (ez_tup (ezs_cons (ez_catS (ez_rep 400 rfl (by rw [len_small.1]; decide) (by decide)) ez_str (by rw [len_mulS, len_small.1, len_small.2.2.1]; decide)) (ezs_cons ez_non ezs_nil))) (ezs_cons (ez_tup (ezs_cons (ez_catS (ez_rep 401 rfl (by rw [len_small.1]; decide) (by decide)) ez_str (by rw [len_mulS, len_small.1, len_small.2.2.1]; decide)) (ezs_cons ez_int ezs_nil))) (ezs_cons (ez_tup (ezs_cons (ez_catS (ez_catS ez_str (ez_rep 401 rfl (by rw [len_small.2.1]; decide) (by decide)) (by rw [len_mulS, len_small.2.1, len_small.2.2.2.1]; decide)) ez_str (by rw [len_appS, len_mulS, len_small.2.1, len_small.2.2.2.1, len_small.2.2.2.2]; decide)) (ezs_cons ez_int ezs_nil))) ezs_nil))
    have aaC := aaC.out
    have uC := tabsGr tB gC
    have lvC := dzAll_len aaC
    refine ⟨pB, pC, vs, vsC, rfl, rfl, gC pB _ (by simp) hB, epC, ?_, fun pD npD => ?_⟩
    · rw [lB, lvC]
      exact Nat.le_trans (show _ ≤ 6000 by decide) (by decide)
    have gD := Gr.new (W := []) (o := .lst (vs ++ vsC)) npD
    have hD : (upd HC pD (.lst (vs ++ vsC))) pD = some (.lst (vs ++ vsC)) := upd_same
    have aD : DzAll K (upd HC pD (.lst (vs ++ vsC))) (vs ++ vsC) (rowsD ((rows5 ++ rows6) ++ rows7)) := DzAll.gr gD (dzAll_append (DzAll.gr gC aB) aaC)
    have tD := tabsGr uC gD
    generalize upd HC pD (.lst (vs ++ vsC)) = HD at gD hD aD tD ⊢
    clear npD aB aaC
    generalize vs ++ vsC = ws at hD aD ⊢
    refine ⟨_, rfl, pD, rfl, ⟨_, sq_lst hD⟩, ?_⟩
    have bad10 : ∀ {Hx : Hp} {E : XK}, isW 2 1000 (.int ((10 : Nat) : Int)) = false → ∀ dd H', Gr [] Hx H' → H' dd = some (.xd [("value", .int 10)]) → E (.ref T.C_BadBase) (some dd) H' := fun hw => absurd hw (by decide)
    have good10 : ∀ {Hx : Hp} {Qn : VK} {E : XK} {d : PyData}, Outs T (exOd 10 d) Hx Qn E → ∀ b2 : Nat, PyData.int ((10 : Nat) : Int) = .int (b2 : Nat) → (2 ≤ b2 ∧ b2 ≤ 1000) → Outs T (exOd b2 d) Hx Qn E := fun ho b2 e _ => by
      have : (10 : Nat) = b2 := by have := PyData.int.inj e; omega
      subst this
      exact ho
    refine for_list (D := ⟨_, Q, fun _ _ => False, fun _ _ => False⟩) (tb := fun D σ H => tIf (tTest (tOp (fun x y H Q => y = V.non ∧ Q (V.bl !decide (x = V.non)) H) (tVar 2) (tC V.non))) (tTup (tCons (tC (V.str (Str.ofString "text"))) (tCons (tVar 2) tNil))) (tTup (tCons (tC (V.str (Str.ofString "great"))) (tCons (tC (V.int 5000)) tNil))) σ H fun x H1 => gName 4 x σ H1 (tIfS (tTest (tOp (rNeD K) (tLam (tl T) (TTout T) fun x => tCall (sp_read_expansionX T) [] x (tCons (tC (V.int 10)) (tCons (tVar 1) tNil))) (tVar 4))) (tRet (tC (V.bl false))) tNext D)) (K := K) (a := pD) (xs := ws) (fun i σ H' => ExtN HD H' ∧ Tabs (tl T) H' ∧ ∃ v1 v2 v3 v4, σ = [some (.ref pD), v1, v2, v3, v4, none]) ⟨ExtN.refl _, tD, _, _, _, _, rfl⟩ (fun i σ H' _ z => sq_lst (ExtN.lst z.1 hD)) ?_ ?_
    · rintro i y σ J1 hy ⟨k1, u1, v1, v2, v3, v4, rfl⟩
      obtain ⟨r, t, w, hr, rfl, hs, hw⟩ := row_at (DzAll.ext k1 aD) hy
      have ok := rows567_ok r hr
      refine ⟨t, _, rfl, hs, rfl, _, _, rfl, _, _, rfl, rfl, ?_⟩
      rcases ok.dn with e | ⟨k, e⟩
      · rw [e] at hw
        have : w = .non := by cases hw; rfl
        subst this
        refine ⟨_, rfl, rfl, _, rfl, iteFb (by rfl) ?_⟩
        refine ⟨by show 2 ≤ sizeLine; decide, fun u nu => ?_⟩
        have gu := Gr.new (W := []) (o := .tup [.str (Str.ofString "great"), .int 5000]) nu
        have hu : (upd J1 u (.tup [.str (Str.ofString "great"), .int 5000])) u = some (.tup [.str (Str.ofString "great"), .int 5000]) := upd_same
        have u2 := tabsGr u1 gu
        generalize upd J1 u (.tup [.str (Str.ofString "great"), .int 5000]) = J2 at gu hu u2 ⊢
        refine ⟨u2, fun J3 k3 u3 => tt_outsD (o := exOd 10 (.str r.1)) (fun Hx Qn E gx ho => ⟨_, rfl, .int 10, .int ((10 : Nat) : Int), .str r.1, .str r.1, rfl, .int _, .str _, ok.sm, bad10, good10 ho⟩) fun p J4 g4 d4 => ⟨_, rfl, ?_⟩⟩
        have E4 := k3.trans (extOf g4)
        refine ⟨_, dueE r.2, d4, ?_, ok.s1, ok.s2, _, rfl, iteFb (by rw [ok.ev]; rfl) ?_⟩
        · rw [e]
          exact dp_tup (ExtN.tup E4 hu) (.cons (.str _) (.cons (.int _) .nil))
        exact ⟨(k1.trans (extOf gu)).trans E4, tabsGr u3 g4, _, _, _, _, rfl⟩
      · rw [e] at hw
        have : w = .int (k : Nat) := dz_int hw
        subst this
        refine ⟨_, rfl, rfl, _, rfl, iteTb (by rfl) ?_⟩
        refine ⟨_, rfl, by show 2 ≤ sizeLine; decide, fun u nu => ?_⟩
        have gu := Gr.new (W := []) (o := .tup [.str (Str.ofString "text"), .int (k : Nat)]) nu
        have hu : (upd J1 u (.tup [.str (Str.ofString "text"), .int (k : Nat)])) u = some (.tup [.str (Str.ofString "text"), .int (k : Nat)]) := upd_same
        have u2 := tabsGr u1 gu
        generalize upd J1 u (.tup [.str (Str.ofString "text"), .int (k : Nat)]) = J2 at gu hu u2 ⊢
        refine ⟨u2, fun J3 k3 u3 => tt_outsD (o := exOd 10 (.str r.1)) (fun Hx Qn E gx ho => ⟨_, rfl, .int 10, .int ((10 : Nat) : Int), .str r.1, .str r.1, rfl, .int _, .str _, ok.sm, bad10, good10 ho⟩) fun p J4 g4 d4 => ⟨_, rfl, ?_⟩⟩
        have E4 := k3.trans (extOf g4)
        refine ⟨_, dueE r.2, d4, ?_, ok.s1, ok.s2, _, rfl, iteFb (by rw [ok.ev]; rfl) ?_⟩
        · rw [e]
          exact dp_tup (ExtN.tup E4 hu) (.cons (.str _) (.cons (.int _) .nil))
        exact ⟨(k1.trans (extOf gu)).trans E4, tabsGr u3 g4, _, _, _, _, rfl⟩
    rintro σ J1 ⟨k1, u1, v1, v2, v3, v4, rfl⟩
    clear aD hD tD uC tB tA t9
    dsimp only
    refine ⟨u1, fun J2 k2 u2 => tt_err (f := "value") (w := "base") (C := T.C_BadBase) (.int 1) (by unfold errs; simp) (fun Hx Qn E gx hh => ⟨.int 1, .int 1, .non, .none, rfl, .int _, .non, fun s e => (by cases e), fun _ dd H' g hd => hh dd _ H' g hd (.int _), fun b e hb => absurd hb.1 (by have := PyData.int.inj e; omega)⟩) fun p1 J3 g3 d1 => ?_⟩
    have u3 := tabsGr u2 g3
    refine ⟨u3, fun J4 k4 u4 => tt_err (f := "place") (w := "text") (C := T.C_BadText) .none (by unfold errs; simp) (fun Hx Qn E gx hh => ⟨by show 1 ≤ sizeLine; decide, fun l nl => ⟨.int 10, .int ((10 : Nat) : Int), .ref l, .list [.str (Str.ofString "( 1 )")], rfl, .int _, dz_lst upd_same (.cons (.str _) .nil), fun s e => (by cases e), bad10, fun b2 _ _ dd H' g hd => hh dd _ H' ((Gr.new nl).trans g) hd .non⟩⟩) fun p2 J5 g5 d2 => ?_⟩
    have u5 := tabsGr u4 g5
    have E5 := k4.trans (extOf g5)
    refine ⟨by show 2 ≤ sizeLine; decide, fun l1 nl1 => ?_⟩
    have m1 := Gr.new (W := []) (o := .lst [p1, p2]) nl1
    have h1 : (upd J5 l1 (.lst [p1, p2])) l1 = some (.lst [p1, p2]) := upd_same
    have u6 := tabsGr u5 m1
    have E6 := E5.trans (extOf m1)
    have d2' := Dp.kp (Kp.of m1) d2
    generalize upd J5 l1 (.lst [p1, p2]) = J6 at m1 h1 u6 E6 d2' ⊢
    refine ⟨_, rfl, u6, fun J7 k7 u7 => tt_err (f := "value") (w := "fraction") (C := T.C_BadFraction) (.tuple [.int 2, .int 4]) (by unfold errs; simp) (fun Hx Qn E gx hh => ⟨by show 2 ≤ sizeLine; decide, fun l nl => ⟨.ref l, .tuple [.int 2, .int 4], rfl, dz_tup upd_same (.cons (.int _) (.cons (.int _) .nil)), by decide, fun dd H' g hd => hh dd _ H' ((Gr.new nl).trans g) hd (dp_tup (g l _ (by simp) upd_same) (.cons (.int _) (.cons (.int _) .nil)))⟩⟩) fun p3 J8 g8 d3 => ?_⟩
    have u8 := tabsGr u7 g8
    have E8 := k7.trans (extOf g8)
    refine ⟨u8, fun J9 k9 u9 => tt_err (f := "value") (w := "fraction") (C := T.C_BadFraction) (.str (Str.ofString "1/7")) (by unfold errs; simp) (fun Hx Qn E gx hh => ⟨.int 10, .int 10, .str (Str.ofString "1/7"), .str (Str.ofString "1/7"), rfl, .int _, .str _, .inr rfl, fun hw => absurd hw (by decide), fun _ _ dd H' g hd => hh dd _ H' g hd (.str _)⟩) fun p4 JA gA d4 => ?_⟩
    have uA := tabsGr u9 gA
    have EA := k9.trans (extOf gA)
    refine ⟨by show 2 ≤ sizeLine; decide, fun l2 nl2 => ?_⟩
    have m2 := Gr.new (W := []) (o := .lst [p3, p4]) nl2
    have h2 : (upd JA l2 (.lst [p3, p4])) l2 = some (.lst [p3, p4]) := upd_same
    have F6 := (E8.trans EA).trans (extOf m2)
    have h1' : (upd JA l2 (.lst [p3, p4])) l1 = some (.lst [p1, p2]) := ExtN.lst F6 h1
    have d1' := Dp.kp (kpE ((E6).trans F6)) d1
    have d2'' := Dp.kp (kpE F6) d2'
    have d3' := Dp.kp (kpE (EA.trans (extOf m2))) d3
    have d4' := Dp.kp (Kp.of m2) d4
    have uB := tabsGr uA m2
    generalize upd JA l2 (.lst [p3, p4]) = JB at m2 h2 F6 h1' d1' d2'' d3' d4' uB ⊢
    refine ⟨l1, l2, _, _, rfl, rfl, h1', h2, by show 2 + 2 ≤ sizeLine; decide, fun l3 nl3 => ?_⟩
    rw [show ([p1, p2] : List V) ++ [p3, p4] = [p1, p2, p3, p4] from rfl]
    have m3 := Gr.new (W := []) (o := .lst [p1, p2, p3, p4]) nl3
    have h3 : (upd JB l3 (.lst [p1, p2, p3, p4])) l3 = some (.lst [p1, p2, p3, p4]) := upd_same
    have dA : DpAll K (upd JB l3 (.lst [p1, p2, p3, p4])) [p1, p2, p3, p4] [.tuple [.str (Str.ofString "base"), .int 1], .tuple [.str (Str.ofString "text"), .none], .tuple [.str (Str.ofString "fraction"), .tuple [.int 2, .int 4]], .tuple [.str (Str.ofString "fraction"), .str (Str.ofString "1/7")]] := .cons (Dp.kp (Kp.of m3) d1') (.cons (Dp.kp (Kp.of m3) d2'') (.cons (Dp.kp (Kp.of m3) d3') (.cons (Dp.kp (Kp.of m3) d4') .nil)))
    have uC := tabsGr uB m3
    generalize upd JB l3 (.lst [p1, p2, p3, p4]) = JC at m3 h3 dA uC ⊢
    refine ⟨_, rfl, .inl ⟨rfl, _, sq_lst h3⟩, uC, fun JD kD uD => tt_err (f := "value") (w := "base") (C := T.C_BadBase) .none (by unfold errs; simp) (fun Hx Qn E gx hh => ⟨.non, .none, .non, .none, rfl, .non, .non, .inl rfl, fun _ dd H' g hd => hh dd _ H' g hd .non, fun hw => absurd hw (by decide)⟩) fun p5 JE gE d5 => ?_⟩
    have EE := kD.trans (extOf gE)
    have h3' := ExtN.lst EE h3
    have dAE := DpAll.kp (kpE EE) dA
    refine ⟨l3, _, _, rfl, rfl, h3', by show 4 < sizeLine; decide, ?_⟩
    have dall : DpAll K (upd JE l3 (.lst ([p1, p2, p3, p4] ++ [p5]))) ([p1, p2, p3, p4] ++ [p5]) end5 := DpAll.app h3' (dpAll_append dAE (.cons d5 .nil)) (show noLenAll 4 end5 = true by decide +kernel)
    have h5 : (upd JE l3 (.lst ([p1, p2, p3, p4] ++ [p5]))) l3 = some (.lst ([p1, p2, p3, p4] ++ [p5])) := upd_same
    generalize upd JE l3 (.lst ([p1, p2, p3, p4] ++ [p5])) = JF at dall h5 ⊢
    dsimp only
    refine ezl_lst (K := K) (W := []) (ds := end5) ?e8 (by decide) (Gr.refl _ _) (fun a ha => by simp at ha) fun pZ vZ JZ gZ epZ aaZ => ?_
    case e8 =>
      exact ezs_cons (ez_tup (ezs_cons ez_str (ezs_cons ez_int ezs_nil))) (ezs_cons (ez_tup (ezs_cons ez_str (ezs_cons ez_non ezs_nil))) (ezs_cons (ez_tup (ezs_cons ez_str (ezs_cons (ez_tup (ezs_cons ez_int (ezs_cons ez_int ezs_nil))) ezs_nil))) (ezs_cons (ez_tup (ezs_cons ez_str (ezs_cons ez_str ezs_nil))) (ezs_cons (ez_tup (ezs_cons ez_str (ezs_cons ez_non ezs_nil))) ezs_nil))))
    have aaZ := aaZ.out
    have dZ := Dz.dp (by decide +kernel) (dz_lst epZ aaZ)
    have dL := Dp.kp (Kp.of gZ) (dp_lst h5 dall)
    refine ⟨_, rfl, .ref l3, _, rfl, dL, fit5, _, rfl, .ref pZ, _, rfl, dZ, fit5, rfl, ?_⟩
    rw [decide_eq_true rfl]
    exact q _

end
end Wn
namespace Wn
open PySem PySem.Spec PyProof.Rows L2
open LamX (Tabs ExtN tLam)
local macro_rules | `(tactic| walk_at "vc") => `(tactic| simp only [cxK, cxK2, start1, start2, start3, tRet, tRetN, tSeq, tNext, tIfS, tAsg, gName, tDrop, tVar, tC, tOp, tUn, tTest, tB, tNot, tAnd, tOr, tAndV, tOrV, tNotV, tIf, tCons, tNil, tCB, tCall, tChain, tAug, ipI, rI, rI0, rU, rIs, rGcd, rEq, rNe, scal,
  List.getElem?_cons_zero, List.getElem?_cons_succ, List.set_cons_zero, List.set_cons_succ, Option.some.injEq, List.cons.injEq, V.int.injEq, V.bl.injEq, V.ref.injEq, V.str.injEq, and_true, true_and, exists_eq_left, exists_eq_left', exists_and_left, exists_and_right, List.append_nil, List.nil_append, List.cons_append, exists_eq_right, exists_eq_right', and_assoc, exists_const, V.ty.injEq, ↓reduceIte, Bool.false_eq_true, Bool.not_true, Bool.not_false, decide_eq_true_eq])

section
variable {P : Program} {w : World} {K : PySem.W.Frag} {mg : Str → Option Value} {base : Heap}
def frS (x n : Nat) : Str := nS x ++ Str.ofString "/" ++ nS n
theorem frS_len (x n : Nat) (hx : x ≤ 5000) (hn : n ≤ 5000) : (frS x n).length ≤ 9 ∧ (nS x).length ≤ 4 ∧ (nS n).length ≤ 4 := by
  have h1 := nS_len (n := x) (k := 4) (by decide) (by omega)
  have h2 := nS_len (n := n) (k := 4) (by decide) (by omega)
  refine ⟨?_, h1, h2⟩
  rw [len_cps]
  show (TL.tl (frS x n)).length ≤ 9
  unfold frS
  rw [TL.tl_append, TL.tl_append, List.length_append, List.length_append]
  rw [len_cps] at h1 h2
  have h3 : (TL.tl (Str.ofString "/")).length = 1 := by decide +kernel
  change (TL.tl (nS x)).length ≤ 4 at h1
  change (TL.tl (nS n)).length ≤ 4 at h2
  omega
theorem tl_frS (x n : Nat) : TL.tl (frS x n) = TL.numL x ++ 47 :: TL.numL n := by
  unfold frS
  rw [TL.tl_append, TL.tl_append]
  have h3 : TL.tl (Str.ofString "/") = [47] := by decide +kernel
  rw [h3, show TL.tl (nS x) = TL.numL x from TL.tl_num x, show TL.tl (nS n) = TL.numL n from TL.tl_num n, List.append_assoc]
  rfl
theorem log_small {k : Nat} (h : k ≤ 5000) : ((k : Nat) : Int).natAbs.log2 < 1920 := by
  rw [Int.natAbs_natCast]
  rcases Nat.eq_zero_or_pos k with z | z
  · rw [z, Nat.log2_zero]
    decide
  · exact Nat.lt_of_lt_of_le ((Nat.log2_lt (by omega)).mpr (show k < 2 ^ 13 by omega)) (by decide)
theorem sl1 : (Str.ofString "/").length = 1 := by decide +kernel
theorem len_app (x y : Str) : (x ++ y).length = x.length + y.length := by
  rw [len_cps, len_cps, len_cps]
  show (TL.tl (x ++ y)).length = _
  rw [TL.tl_append, List.length_append]
theorem exp_dg {H : Hp} {t : Addr} {b x n h L : Nat} (E : Exp H t b x n h L) : ∃ a c, H t = some (.tup [.ref a, .ref c]) ∧ H a = some (.tup (vn (dg b n x 0 h))) ∧ H c = some (.tup (vn (dg b n x h L))) := by
  obtain ⟨a, c, h1, h2, h3⟩ := E.at_
  have e : ∀ lo c, dgf b n x lo c = vn (dg b n x lo c) := fun lo c => by
    unfold dgf vn dg
    rw [List.map_map]
    rfl
  rw [e] at h2 h3
  exact ⟨a, c, h1, h2, h3⟩
theorem dg_lt {b n x lo c : Nat} (hb : 1 ≤ b) (hn : 1 ≤ n) : ∀ d ∈ dg b n x lo c, d < b := fun d h => by
  obtain ⟨i, _, rfl⟩ := List.mem_map.mp h
  rw [Nat.div_lt_iff_lt_mul hn, Nat.mul_comm b]
  exact Nat.mul_lt_mul_of_pos_right (rem_lt hn) hb
theorem join_len (y : Str) : ∀ parts : List Str, (Txt.join y parts).length ≤ (parts.map (·.length)).sum + parts.length * y.length := by
  intro parts
  rw [TL.join_eq]
  induction parts with
  | nil => exact Nat.zero_le _
  | cons x r ih =>
    cases r with
    | nil =>
      show x.length ≤ _
      simp
    | cons z r =>
      show (x ++ y ++ Str.join y (z :: r)).length ≤ _
      rw [len_app, len_app]
      simp only [List.map_cons, List.sum_cons, List.length_cons] at ih ⊢
      rw [Nat.add_mul, Nat.one_mul]
      omega
theorem expS_len {h g : List Nat} (hh : ∀ d ∈ h, d < 1000) (hg : ∀ d ∈ g, d < 1000) : (expS h g).length ≤ 4 * (h.length + g.length + 2) := by
  have s1 := expW_sum hh hg
  have s2 := expW_len h g
  have s3 : (Str.ofString " ").length = 1 := by decide +kernel
  have s4 := join_len (Str.ofString " ") (expW h g)
  rw [s3] at s4
  unfold expS
  omega
theorem expW_small {h g : List Nat} (hh : ∀ d ∈ h, d < 1000) (hg : ∀ d ∈ g, d < 1000) : ∀ w ∈ expW h g, w.length ≤ 3 := fun w hw => by
  unfold expW at hw
  simp only [List.mem_append, List.mem_map, List.mem_singleton] at hw
  rcases hw with ((⟨n, hn, rfl⟩ | rfl) | ⟨n, hn, rfl⟩) | rfl
  · exact nS_len (by decide) (hh n hn)
  · decide +kernel
  · exact nS_len (by decide) (hg n hn)
  · decide +kernel
theorem mem_joinL {S : List Nat} {c : Nat} : ∀ {ps : List (List Nat)}, c ∈ TL.joinL S ps → c ∈ S ∨ ∃ p ∈ ps, c ∈ p
  | [], h => by cases h
  | [p], h => .inr ⟨p, List.mem_singleton.mpr rfl, h⟩
  | p :: q :: r, h => by
    have h : c ∈ p ++ (S ++ TL.joinL S (q :: r)) := h
    rw [List.mem_append, List.mem_append] at h
    rcases h with h | h | h
    · exact .inr ⟨p, List.mem_cons_self .., h⟩
    · exact .inl h
    · rcases mem_joinL h with h | ⟨z, hz, h⟩
      · exact .inl h
      · exact .inr ⟨z, List.mem_cons_of_mem _ hz, h⟩
theorem nS_128 (n : Nat) : ∀ c ∈ (nS n).cps.toList, c < 128 := fun c hc => by
  have := nS_dig n c hc
  unfold dgC at this
  rw [Bool.and_eq_true, decide_eq_true_iff, decide_eq_true_iff] at this
  omega
theorem expS_128 (h g : List Nat) : ∀ c ∈ (expS h g).cps.toList, c < 128 := fun c hc => by
  change c ∈ TL.tl (Txt.join (Str.ofString " ") (expW h g)) at hc
  rw [TL.join_eq, TL.tl_join] at hc
  have l1 : ∀ c ∈ TL.tl (Str.ofString " "), c < 128 := by decide +kernel
  have l2 : ∀ c ∈ TL.tl (Str.ofString "("), c < 128 := by decide +kernel
  have l3 : ∀ c ∈ TL.tl (Str.ofString ")"), c < 128 := by decide +kernel
  rcases mem_joinL hc with h1 | ⟨p, hp, h1⟩
  · exact l1 c h1
  · obtain ⟨w, hw, rfl⟩ := List.mem_map.mp hp
    unfold expW at hw
    simp only [List.mem_append, List.mem_map, List.mem_singleton] at hw
    rcases hw with ((⟨n, _, rfl⟩ | rfl) | ⟨n, _, rfl⟩) | rfl
    · exact nS_128 n c h1
    · exact l2 c h1
    · exact nS_128 n c h1
    · exact l3 c h1
theorem frS_128 (x n : Nat) : ∀ c ∈ (frS x n).cps.toList, c < 128 := fun c hc => by
  rw [show (frS x n).cps.toList = TL.numL x ++ 47 :: TL.numL n from tl_frS x n, List.mem_append, List.mem_cons] at hc
  rcases hc with h | h | h
  · exact nS_128 x c (by rw [tl_nS]; exact h)
  · omega
  · exact nS_128 n c (by rw [tl_nS]; exact h)
theorem MOk.ext {H H' : Hp} {d : Addr} {n : Nat} (h : MOk H d n) (g : ExtN H H') : MOk H' d n := by
  obtain ⟨c, xs, l, s, h1, h2, h3⟩ := h
  exact ⟨c, xs, l, s, g _ _ h1 (fun _ z => by cases z), g _ _ h2 (fun _ z => by cases z), h3⟩
theorem MOk.isK {H : Hp} {d : Addr} {n : Nat} (M : MOk H d n) : ∃ kvs, H d = some (.dK kvs) := by
  obtain ⟨_, _, _, _, z, _⟩ := M
  exact ⟨_, z⟩
theorem sm_str {s : Str} {B W : Nat} (h : ∀ c ∈ s.cps.toList, c < 128) (hl : s.length ≤ W) : Sm (.str s) B 0 W := by
  refine ⟨rfl, ?_, rfl, ?_, Nat.le_refl _, hl⟩
  · show (s.cps.toList.all fun c => decide (c < 16 ^ 8)) = true
    rw [List.all_eq_true]
    intro c hc
    exact decide_eq_true (Nat.lt_trans (h c hc) (by decide))
  · show (s.cps.all (· < 0x110000)) = true
    rw [← Array.all_toList, List.all_eq_true]
    intro c hc
    exact decide_eq_true (Nat.lt_trans (h c hc) (by decide))
theorem fit_str {s : Str} (h : Asc s) (hl : s.length ≤ 4000) : FitZ (.str s) := fitZ_of (Sm.fits (sm_str (B := 13) h hl))
theorem strc {s0 : Str} (h : Asc s0) (hl : s0.length ≤ 4000) : ∀ s, PyData.str s0 = .str s → s.length ≤ 4000 ∧ Asc s := fun s e => by
  have := PyData.str.inj e
  subst this
  exact ⟨hl, h⟩
theorem MOk.wst {H : Hp} {d : Addr} {n : Nat} (h : MOk H d n) : Wst [d] H := fun a ha z => by
  rw [List.mem_singleton] at ha
  subst ha
  obtain ⟨c, xs, l, s, e, _⟩ := h
  rw [e] at z
  cases z
theorem dzAll_mem {K : PySem.W.Frag} {H : Hp} : ∀ {vs : List V} {ds : List PyData} {v : V}, DzAll K H vs ds → v ∈ vs → ∃ d ∈ ds, Dz K H v d
  | _, _, _, .nil, h => by simp at h
  | _, _, _, .cons a b, h => by
    rcases List.mem_cons.mp h with rfl | h
    · exact ⟨_, List.mem_cons_self .., a⟩
    · obtain ⟨d, h1, h2⟩ := dzAll_mem b h
      exact ⟨d, List.mem_cons_of_mem _ h1, h2⟩
def odd19 : List PyData := [.none, .int 7, .tuple [.str (Str.ofString "1/7")], .list [.str (Str.ofString "( 1 )")], .bool true, .dict [], .tuple []]
theorem odd19_ok : ∀ d ∈ odd19, FitZ d ∧ ∀ s, d = .str s → s.length ≤ 4000 ∧ Asc s := by
  have sb : ∀ {d : PyData}, (d.showable = true ∧ d.leavesShort 60 = true ∧ d.depth ≤ 2 ∧ d.bulk ≤ 50) → FitZ d := fun h => Sz.fit (B := 60) (D := 2) (W := 50) ⟨h.1, h.2.1, h.2.2.1, h.2.2.2⟩
  intro d h
  unfold odd19 at h
  simp only [List.mem_cons, List.not_mem_nil, or_false] at h
  rcases h with rfl | rfl | rfl | rfl | rfl | rfl | rfl <;> exact ⟨sb (by decide +kernel), fun s e => by cases e⟩
theorem okG_law (T : Txt K mg) (B : Tbs T base) : FnG P w K mg base CX0 12 T.d_law.f T.d_law.fd ["script"] (sp_law T) := by
  refine fnGc0 T.d_law.F sc_law (fun vs H Q E h => ?_) (fun cdv A outer s H vs Q E hcc hgd hr h => ?_)
  · obtain ⟨a, ns, rfl, _⟩ := h; rfl
  · have hu := hu_of hr
    refine ⟨_, (pss_cons (ps_set (i := 1) sc_law.nd rfl (by first | exact .inl rfl | exact .inr rfl) (pe_call (ok_law_begun T) (hr.mono (by decide)) (by rfl) T.d_law_begun.m T.d_law_begun.F.kp T.d_law_begun.b .nil pass0 (pa_cons (pv 0) pa_nil)))
      (pss_cons (ps_for PassesOwn.never rfl (pi_range1 (by rfl) T.b_range (pa_cons (pe_op op_add pe_int (pe_callB (call_min2 rfl) (by rfl) T.b_min (by decide +kernel) (pa_cons (pe_callB (r := rLn K) call_ln (by rfl) T.b_len PySem.boot_len (pa_cons (pv 0) pa_nil)) (pa_cons pe_int pa_nil)))) pa_nil)) (pg_name (i := 2) sc_law.nd rfl (by first | exact .inl rfl | exact .inr rfl)) (pss_cons (ps_par (i := 3) (j := 4) (by rfl) sc_law.nd rfl rfl (by decide) rfl rfl (pa_cons (pe_call (ok_law_of T) (hr.mono (by decide)) (by rfl) T.d_law_of.m T.d_law_of.F.kp T.d_law_of.b .nil pass0 (pa_cons (pv 1) (pa_cons (pe_lst (pa_cons pe_int (pa_cons pe_int (pa_cons pe_int (pa_cons pe_int pa_nil))))) pa_nil))) (pa_cons (pe_call (ok_law_part T) (hr.mono (by decide)) (by rfl) T.d_law_part.m T.d_law_part.F.kp T.d_law_part.b .nil pass0 (pa_cons (pv 1) (pa_cons pe_int pa_nil))) pa_nil)) (by rfl))
      (pss_cons (ps_asg (pe_call (ok_law_spread T) (hr.mono (by decide)) (by rfl) T.d_law_spread.m T.d_law_spread.F.kp T.d_law_spread.b .nil pass0 (pa_cons (pv 3) (pa_cons (pv 4) pa_nil))) (pg_tup (by rfl) (pgs_cons (pg_name (i := 5) sc_law.nd rfl (by first | exact .inl rfl | exact .inr rfl)) (pgs_cons (pg_name (i := 6) sc_law.nd rfl (by first | exact .inl rfl | exact .inr rfl)) pgs_nil))))
      (pss_cons (ps_set (i := 7) sc_law.nd rfl (by first | exact .inl rfl | exact .inr rfl) (pe_join pe_str (pe_op op_cat (pe_op op_cat (pe_op op_cat (pe_lc (own := [("fig", 8)]) (g := gName 8) (tt := tYes) rfl sc_law.nd (pi_tup (pv 5)) (blkOk_by (own := [("fig", 8)]) (N := ["script", "m", "lap", "b", "part", "head", "ring", "text", "fig", "one", "near", "again"]) (sc := defScope s_law) (by decide +kernel)) (fun _ _ _ _ _ => (pg_name (i := 8) sc_law.nd rfl (by first | exact .inl rfl | exact .inr rfl))) (fun _ _ _ _ _ => pts_nil) (fun _ _ _ _ _ => (pe_callTy call_str_int (by rfl) T.b_str (by decide +kernel) (pa_cons (pv 8) pa_nil)))) (pe_lst (pa_cons pe_str pa_nil))) (pe_lc (own := [("fig", 8)]) (g := gName 8) (tt := tYes) rfl sc_law.nd (pi_tup (pv 6)) (blkOk_by (own := [("fig", 8)]) (N := ["script", "m", "lap", "b", "part", "head", "ring", "text", "fig", "one", "near", "again"]) (sc := defScope s_law) (by decide +kernel)) (fun _ _ _ _ _ => (pg_name (i := 8) sc_law.nd rfl (by first | exact .inl rfl | exact .inr rfl))) (fun _ _ _ _ _ => pts_nil) (fun _ _ _ _ _ => (pe_callTy call_str_int (by rfl) T.b_str (by decide +kernel) (pa_cons (pv 8) pa_nil))))) (pe_lst (pa_cons pe_str pa_nil)))))
      (pss_cons (ps_for PassesOwn.never rfl (pi_tup (pe_tup (pa_cons (pe_op op_add_str (pe_op op_add_str (pe_callTy call_str_int (by rfl) T.b_str (by decide +kernel) (pa_cons (pe_ix (r := rIxT K) ix_tup (pv 4) pe_int (fun _ _ => rfl)) pa_nil)) pe_str) (pe_callTy call_str_int (by rfl) T.b_str (by decide +kernel) (pa_cons (pe_ix (r := rIxT K) ix_tup (pv 4) pe_int (fun _ _ => rfl)) pa_nil))) (pa_cons (pv 7) pa_nil)))) (pg_name (i := 9) sc_law.nd rfl (by first | exact .inl rfl | exact .inr rfl)) (pss_cons (ps_set (i := 10) sc_law.nd rfl (by first | exact .inl rfl | exact .inr rfl) (pv 9))
      (pss_cons (ps_for PassesOwn.never rfl (pi_range1 (by rfl) T.b_range (pa_cons pe_int pa_nil)) (pg_name (i := 11) sc_law.nd rfl (by first | exact .inl rfl | exact .inr rfl)) (pss_cons (ps_set (i := 10) sc_law.nd rfl (by first | exact .inl rfl | exact .inr rfl) (pe_call (ok_law_bent T) (hr.mono (by decide)) (by rfl) T.d_law_bent.m T.d_law_bent.F.kp T.d_law_bent.b .nil pass0 (pa_cons (pv 1) (pa_cons (pe_ifExp (pt_cmpR op_eq (pe_call (ok_law_draw T) (hr.mono (by decide)) (by rfl) T.d_law_draw.m T.d_law_draw.F.kp T.d_law_draw.b .nil pass0 (pa_cons (pv 1) (pa_cons pe_int pa_nil))) pe_int (nomark _)) (pv 10) (pv 9)) pa_nil))))
      (pss_one (ps_if (pt_not (pt_val (pe_callG hgd (okG_law_right T B) (hr.mono (by decide)) (by rfl) T.d_law_right.m T.d_law_right.F.kp T.d_law_right.b .nil pass0 (pa_cons (pv 3) (pa_cons (pv 10) pa_nil))))) (pss_one (ps_ret pe_bl)) pss_nil))))
      (pss_one (ps_if (pt_not (pt_val (pe_callG hgd (okG_law_right T B) (hr.mono (by decide)) (by rfl) T.d_law_right.m T.d_law_right.F.kp T.d_law_right.b .nil pass0 (pa_cons (pv 3) (pa_cons (pv 9) pa_nil))))) (pss_one (ps_ret pe_bl)) pss_nil)))))
      (pss_one (ps_if (pt_not (pt_val (pe_callG hgd (okG_law_right T B) (hr.mono (by decide)) (by rfl) T.d_law_right.m T.d_law_right.F.kp T.d_law_right.b .nil pass0 (pa_cons (pv 3) (pa_cons (pe_call (ok_law_of T) (hr.mono (by decide)) (by rfl) T.d_law_of.m T.d_law_of.F.kp T.d_law_of.b .nil pass0 (pa_cons (pv 1) (pa_cons (pe_lst (pa_cons pe_non (pa_cons pe_int (pa_cons (pe_tup (pa_cons pe_str pa_nil)) (pa_cons (pe_lst (pa_cons pe_str pa_nil)) (pa_cons pe_bl (pa_cons pe_dnewK (pa_cons (pe_tup pa_nil) pa_nil)))))))) pa_nil))) pa_nil))))) (pss_one (ps_ret pe_bl)) pss_nil)))))))
      (pss_one (ps_ret (pe_callG0 hgd (okG_law_hand_right T B) (hr.mono (by decide)) (by rfl) T.d_law_hand_right.m T.d_law_hand_right.F.kp T.d_law_hand_right.b .nil pass0))))), ?_⟩
    obtain ⟨a, ns, rfl, hT, hS, hn, q⟩ := h
    refine ⟨_, rfl, a, ns, rfl, hS, hn, fun d H1 g1 M1 => ?_⟩
    have t1 := tabsGr hT g1
    refine ⟨_, rfl, a, _, rfl, .inl ((Kp.of g1).sqL hS), _, _, rfl, ?_⟩
    rw [List.length_map]
    obtain ⟨N, eN, hN⟩ : ∃ N : Nat, (6 : Int) + (if (8 : Int) < (ns.length : Int) then (8 : Int) else (ns.length : Int)) = (N : Int) ∧ N ≤ 60 := by
      split
      · exact ⟨14, rfl, by decide⟩
      · exact ⟨6 + ns.length, by omega, by omega⟩
    refine ⟨_, _, rfl, rfl, ?_⟩
    refine ⟨(N : Int), congrArg (fun z => [V.int z]) eN, by omega, by omega, ?_⟩
    refine for_range (D := ⟨_, Q, fun _ _ => False, fun _ _ => False⟩) (lo := 0) (n := ((N : Int)).toNat) (fun i σ H' => Tabs (tl T) H' ∧ ∃ k, k ≤ 200 * i ∧ MOk H' d k ∧ ∃ v2 v3 v4 v5 v6 v7 v9 v10 v11, σ = [some (.ref a), some (.ref d), v2, v3, v4, v5, v6, v7, none, v9, v10, v11]) ⟨t1, 0, by omega, M1, none, none, none, none, none, none, none, none, none, ?_⟩ ?_ ?_
    · rfl
    · rintro i σ H2 hi ⟨t2, k, hk, M2, v2, v3, v4, v5, v6, v7, v9, v10, v11, rfl⟩
      have hi24 : i < 60 := by
        rw [Int.toNat_natCast] at hi
        omega
      refine ⟨_, rfl, by show 4 ≤ sizeLine; decide, fun lp nlp => ?_⟩
      have gl := Gr.new (W := []) (o := .lst [.int 2, .int 10, .int 10, .int 16]) nlp
      refine ⟨d, lp, k, _, rfl, M2.gr gl, upd_same, ⟨by simp, by show 4 ≤ 100000; decide, by omega⟩, fun vb H3 hv g3 M3 => ?_⟩
      obtain ⟨b, rfl, hb1, hb2⟩ : ∃ b : Nat, vb = .int (b : Nat) ∧ 2 ≤ b ∧ b ≤ 16 := by
        simp only [List.mem_cons, List.not_mem_nil, or_false] at hv
        rcases hv with rfl | rfl | rfl | rfl
        · exact ⟨2, rfl, by omega, by omega⟩
        · exact ⟨10, rfl, by omega, by omega⟩
        · exact ⟨10, rfl, by omega, by omega⟩
        · exact ⟨16, rfl, by omega, by omega⟩
      have t3 : Tabs (tl T) H3 := tabsGrM (tabsGr t2 gl) g3 (M2.gr gl).isK
      refine ⟨_, rfl, d, 40, k + 1, rfl, M3, ⟨by omega, by omega, by omega⟩, fun pa x n H4 hp hx hn40 hg g4 M4 => ?_⟩
      have t4 : Tabs (tl T) H4 := tabsGrM t3 g4 M3.isK
      refine ⟨_, _, rfl, ?_⟩
      refine ⟨_, rfl, _, rfl, b, x, n, pa, rfl, hp, ⟨by omega, by omega, hx, hg⟩, fun t H5 pp qq h L P g5 E5 => ?_⟩
      obtain ⟨ea, ec, et, eh, er⟩ := exp_dg E5
      refine ⟨t, _, rfl, sq_tup et, rfl, _, _, rfl, _, _, rfl, rfl, ?_⟩
      have M5 := M4.gr g5
      have t5 := tabsGr t4 g5
      have hp5 := g5 pa _ (by simp) hp
      have hn1 : 1 ≤ n := by omega
      have sh : ∀ d ∈ dg b n x 0 h, d < 1000 := fun d hd => Nat.lt_of_lt_of_le (dg_lt (by omega) hn1 d hd) (by omega)
      have sg : ∀ d ∈ dg b n x h L, d < 1000 := fun d hd => Nat.lt_of_lt_of_le (dg_lt (by omega) hn1 d hd) (by omega)
      have lh : (dg b n x 0 h).length ≤ 40 := by rw [dg_len]; exact Nat.le_trans (P.hn hn1) hn40
      have lL : L ≤ n := P.Ln hn1
      have lg : (dg b n x h L).length ≤ 40 := by rw [dg_len]; omega
      generalize dg b n x 0 h = hh at eh sh lh
      generalize dg b n x h L = gg at er sg lg
      dsimp only [List.set]
      refine ⟨⟨_, rfl⟩, ?_⟩
      refine ⟨_, rfl, ea, rfl, ⟨_, sq_tup eh⟩, fun D1 nD1 => ?_⟩
      refine lc_tup (K := K) (a := ea) (xs := vn (hh)) (fun j H' => Gr [] H5 H' ∧ H' D1 = some (.lst (((hh).take j).map fun d => V.str (nS d)))) ⟨Gr.new nD1, upd_same⟩ (fun i H' _ z => sq_tup (z.1 ea _ (by simp) eh)) ?_ ?_
      · rintro j y H' hy ⟨G, hD⟩
        obtain ⟨hj, rfl⟩ := vn_get hy
        have hd := sh _ (List.getElem_mem hj)
        refine ⟨rfl, ?_⟩
        dsimp only [tYes]
        refine iteT ⟨_, rfl, _, rfl, log_small (by omega), _, hD, ?_, ?_, ?_⟩
        · rw [List.length_map, List.length_take]
          exact Nat.lt_of_le_of_lt (Nat.min_le_left _ _) (Nat.lt_of_lt_of_le (show j < 6000 by omega) (by decide))
        · intro u o _ e
          rw [upd_ne (ne_of_none e nD1)]
          exact G u o (by simp) e
        · rw [upd_same, List.take_succ, List.map_append, List.getElem?_eq_getElem hj]
          rfl
      rintro J2 ⟨j2, hD1⟩
      rw [vn_len, List.take_length] at hD1
    
      refine ⟨by show 1 ≤ sizeLine; decide, fun w1 nw1 => ?_⟩
      refine ⟨D1, w1, _, _, rfl, rfl, (Gr.new (W := []) nw1) D1 _ (by simp) hD1, upd_same, ?_, fun w2 nw2 => ?_⟩
      · rw [List.length_map]
        exact sz40 (show hh.length + 1 ≤ 6000 by omega)
      have j3 := (Gr.new (W := []) (o := .lst [.str (Str.ofString "(")]) nw1).trans (Gr.new (o := .lst (hh.map (fun d => V.str (nS d)) ++ [.str (Str.ofString "(")])) nw2)
      have hw2 : (upd (upd J2 w1 (.lst [.str (Str.ofString "(")])) w2 (.lst (hh.map (fun d => V.str (nS d)) ++ [.str (Str.ofString "(")]))) w2 = some (.lst (hh.map (fun d => V.str (nS d)) ++ [.str (Str.ofString "(")])) := upd_same
      generalize upd (upd J2 w1 (.lst [.str (Str.ofString "(")])) w2 (.lst (hh.map (fun d => V.str (nS d)) ++ [.str (Str.ofString "(")])) = J3 at j3 hw2 ⊢
      have e23 := (j2.trans j3) ec _ (by simp) er
      refine ⟨_, rfl, ec, rfl, ⟨_, sq_tup e23⟩, fun D2 nD2 => ?_⟩
      refine lc_tup (K := K) (a := ec) (xs := vn (gg)) (fun j H' => Gr [] J3 H' ∧ H' D2 = some (.lst (((gg).take j).map fun d => V.str (nS d)))) ⟨Gr.new nD2, upd_same⟩ (fun i H' _ z => sq_tup (z.1 ec _ (by simp) e23)) ?_ ?_
      · rintro j y H' hy ⟨G, hD⟩
        obtain ⟨hj, rfl⟩ := vn_get hy
        have hd := sg _ (List.getElem_mem hj)
        refine ⟨rfl, ?_⟩
        dsimp only [tYes]
        refine iteT ⟨_, rfl, _, rfl, log_small (by omega), _, hD, ?_, ?_, ?_⟩
        · rw [List.length_map, List.length_take]
          exact Nat.lt_of_le_of_lt (Nat.min_le_left _ _) (Nat.lt_of_lt_of_le (show j < 6000 by omega) (by decide))
        · intro u o _ e
          rw [upd_ne (ne_of_none e nD2)]
          exact G u o (by simp) e
        · rw [upd_same, List.take_succ, List.map_append, List.getElem?_eq_getElem hj]
          rfl
      rintro J4 ⟨j4, hD2⟩
      rw [vn_len, List.take_length] at hD2
    
      have hw24 := j4 w2 _ (by simp) hw2
      refine ⟨w2, D2, _, _, rfl, rfl, hw24, hD2, ?_, fun w3 nw3 => ?_⟩
      · rw [List.length_append, List.length_map, List.length_map, Nat.add_assoc]
        exact Nat.le_trans (show hh.length + ([V.str (Str.ofString "(")].length + gg.length) ≤ 20000 by show hh.length + (1 + gg.length) ≤ 20000; omega) (by decide)
      refine ⟨by show 1 ≤ sizeLine; decide, fun w4 nw4 => ?_⟩
      refine ⟨w3, w4, _, _, rfl, rfl, (Gr.new (W := []) nw4) w3 _ (by simp) upd_same, upd_same, ?_, fun w5 nw5 => ?_⟩
      · rw [List.length_append, List.length_append, List.length_map, List.length_map, Nat.add_assoc, Nat.add_assoc]
        exact Nat.le_trans (show hh.length + ([V.str (Str.ofString "(")].length + (gg.length + [V.str (Str.ofString ")")].length)) ≤ 20000 by show hh.length + (1 + (gg.length + 1)) ≤ 20000; omega) (by decide)
      have j5 := ((Gr.new (W := []) nw3).trans (Gr.new nw4)).trans (Gr.new (o := .lst (hh.map (fun d => V.str (nS d)) ++ [.str (Str.ofString "(")] ++ gg.map (fun d => V.str (nS d)) ++ [.str (Str.ofString ")")])) nw5)
      have eW : hh.map (fun d => V.str (nS d)) ++ [.str (Str.ofString "(")] ++ gg.map (fun d => V.str (nS d)) ++ [.str (Str.ofString ")")] = (expW hh gg).map V.str := by
        unfold expW
        simp only [List.map_append, List.map_map, List.map_cons, List.map_nil]
        rfl
      refine ⟨_, w5, expW hh gg, rfl, rfl, .inl (sq_lst (by rw [upd_same]; exact congrArg (fun z => some (HO.lst z)) eW)), ?_, ?_⟩
      · have y1 := expW_sum sh sg
        have y2 := expW_len hh gg
        have y3 : (Str.ofString " ").length = 1 := by decide +kernel
        rw [y3]
        omega
      have G6 := ((j2.trans j3).trans j4).trans j5
      have t6 := tabsGr t5 G6
      have M6 := M5.gr G6
      have hp6 := G6 pa _ (by simp) hp5
      have ef : Txt.join (Str.ofString " ") (expW hh gg) = expS hh gg := rfl
      rw [ef]
      have fl := expS_len sh sg
      have fa : Asc (expS hh gg) := expS_128 hh gg
      generalize expS hh gg = full at fl fa ⊢
      obtain ⟨x9, x4, n4⟩ := frS_len x n (by omega) (by omega)
      have xa : Asc (frS x n) := frS_128 x n
      refine ⟨_, rfl, pa, _, 0, .int x, rfl, rfl, sq_tup hp6, atI_nat (j := 0) rfl, _, rfl, log_small (by omega), _, _, rfl, rfl, ?_, ?_⟩
      · show (nS x).length + (Str.ofString "/").length ≤ sizeLine
        rw [sl1]
        exact sz40 (by omega)
      refine ⟨_, rfl, pa, _, 1, .int n, rfl, rfl, sq_tup hp6, atI_nat (j := 1) rfl, _, rfl, log_small (by omega), _, _, rfl, rfl, ?_, ?_⟩
      · show (nS x ++ Str.ofString "/").length + (nS n).length ≤ sizeLine
        rw [len_app, sl1]
        exact sz40 (by omega)
      refine ⟨_, rfl, by show 2 ≤ sizeLine; decide, fun pt npt => ?_⟩
      have gt := Gr.new (W := []) (o := .tup [.str (frS x n), .str full]) npt
      refine ⟨pt, rfl, ⟨_, sq_tup upd_same⟩, ?_⟩
      refine for_tup (D := ⟨_, Q, _, _⟩) (K := K) (a := pt) (xs := [.str (frS x n), .str full]) (fun j σ H' => Tabs (tl T) H' ∧ H' pt = some (.tup [.str (frS x n), .str full]) ∧ ∃ k1, k1 ≤ k + 3 + 20 * j ∧ MOk H' d k1 ∧ ∃ v9 v10 v11, σ = [some (.ref a), some (.ref d), some (.int (0 + (i : Nat))), some (.int b), some (.ref pa), some (.ref ea), some (.ref ec), some (.str full), none, v9, v10, v11]) ⟨tabsGr t6 gt, upd_same, k + 3, by omega, M6.gr gt, _, _, _, rfl⟩ (fun i σ H' _ z => sq_tup z.2.1) ?_ ?_
      · rintro j y σ H7 hy ⟨t7, pt7, k1, hk1, M7, v9, v10, v11, rfl⟩
        obtain ⟨s, rfl, sl, sa⟩ : ∃ s, y = .str s ∧ s.length ≤ 330 ∧ Asc s := by
          have hm := List.mem_of_getElem? hy
          simp only [List.mem_cons, List.not_mem_nil, or_false] at hm
          rcases hm with rfl | rfl
          · exact ⟨_, rfl, by omega, xa⟩
          · exact ⟨_, rfl, by omega, fa⟩
        have hj : j < 2 := (List.getElem?_eq_some_iff.mp hy).1
        refine ⟨_, rfl, ?_⟩
        refine ⟨(4 : Int), rfl, by decide, by decide, ?_⟩
        refine for_range (D := ⟨_, Q, _, _⟩) (lo := 0) (n := 4) (fun i1 σ H' => Tabs (tl T) H' ∧ H' pt = some (.tup [.str (frS x n), .str full]) ∧ ∃ k2, k2 ≤ k1 + 4 * i1 ∧ MOk H' d k2 ∧ ∃ s' v11, s'.length ≤ 330 + 3 * i1 ∧ Asc s' ∧ σ = [some (.ref a), some (.ref d), some (.int (0 + (i : Nat))), some (.int b), some (.ref pa), some (.ref ea), some (.ref ec), some (.str full), none, some (.str s), some (.str s'), v11]) ⟨t7, pt7, k1, by omega, M7, s, _, by omega, sa, rfl⟩ ?_ ?_
        · rintro i1 σ H6 hi1 ⟨t6, pt6, k2, hk2, M6, s1, v11, sl1', sa1, rfl⟩
          refine ⟨_, rfl, _, rfl, d, 2, k2, rfl, M6, ⟨by omega, by omega, by omega⟩, fun r H7 hr g7 M7 => ?_⟩
          have t7 := tabsGrM t6 g7 (MOk.isK M6)
          have pt7 := M6.tup g7 pt6
          refine ⟨rfl, _, rfl, ?_⟩
          by_cases hr0 : r = 0
          case pos =>
            refine iteTb (decide_eq_true (by rw [hr0]; rfl)) ?_
            refine ⟨_, rfl, d, s1, k2 + 1, rfl, M7, ⟨by omega, sa1, by omega⟩, fun s2 H8 l2 a2 g8 M8 => ?_⟩
            have t8 := tabsGrM t7 g8 (MOk.isK M7)
            have pt8 := M7.tup g8 pt7
            refine ⟨_, rfl, _, rfl, b, .str s2, .str s2, rfl, t8, .str _, fit_str a2 (by omega), strc a2 (by omega), ⟨hb1, by omega⟩, fun H9 e9 t9 => ⟨_, rfl, iteF ?_⟩⟩
            exact ⟨t9, ExtN.tup e9 pt8, k2 + 1 + 3, by omega, MOk.ext M8 e9, s2, _, by omega, a2, rfl⟩
          case neg =>
            refine iteFb (decide_eq_false (fun z => hr0 (by have := V.int.inj z; omega))) ?_
            refine ⟨_, rfl, d, s, k2 + 1, rfl, M7, ⟨by omega, sa, by omega⟩, fun s2 H8 l2 a2 g8 M8 => ?_⟩
            have t8 := tabsGrM t7 g8 (MOk.isK M7)
            have pt8 := M7.tup g8 pt7
            refine ⟨_, rfl, _, rfl, b, .str s2, .str s2, rfl, t8, .str _, fit_str a2 (by omega), strc a2 (by omega), ⟨hb1, by omega⟩, fun H9 e9 t9 => ⟨_, rfl, iteF ?_⟩⟩
            exact ⟨t9, ExtN.tup e9 pt8, k2 + 1 + 3, by omega, MOk.ext M8 e9, s2, _, by omega, a2, rfl⟩
        rintro σ H8 ⟨t8, pt8, k2, hk2, M8, s1, v11, sl1', sa1, rfl⟩
        refine ⟨_, rfl, _, rfl, b, .str s, .str s, rfl, t8, .str _, fit_str sa (by omega), strc sa (by omega), ⟨hb1, by omega⟩, fun H9 e9 t9 => ⟨_, rfl, iteF ?_⟩⟩
        exact ⟨t9, ExtN.tup e9 pt8, k2, by omega, MOk.ext M8 e9, _, _, _, rfl⟩
      rintro σ H7 ⟨t7, pt7, k1, hk1, M7, v9, v10, v11, rfl⟩
      have hk12 : k1 ≤ 20000 := by
        simp only [List.length_cons, List.length_nil] at hk1
        omega
      refine ⟨_, rfl, _, rfl, ?_⟩
      refine ezl_lst (K := K) (W := [d]) (ds := odd19) (ezs_cons ez_non (ezs_cons ez_int (ezs_cons (ez_tup (ezs_cons ez_str ezs_nil)) (ezs_cons (ez_lst (ezs_cons ez_str ezs_nil)) (ezs_cons ez_bl (ezs_cons ez_dct (ezs_cons (ez_tup ezs_nil) ezs_nil))))))) (by decide) (Gr.refl _ _) (MOk.wst M7) fun p8 vs H8 g8 ep aa => ?_
      have lv := dzAll_len aa
      refine ⟨d, p8, k1, vs, rfl, M7.gr g8, ep, ⟨fun z => (by rw [z] at lv; cases lv), by rw [lv]; decide, by omega⟩, fun v H9 hv g9 M9 => ?_⟩
      obtain ⟨dd, hdd, hz⟩ := dzAll_mem (DzAll.inh g9 aa) hv
      obtain ⟨o1, o2⟩ := odd19_ok dd hdd
      have t9 := tabsGrM (tabsGr t7 g8) g9 (MOk.isK (M7.gr g8))
      refine ⟨b, v, dd, rfl, t9, hz.out, o1, o2, ⟨hb1, by omega⟩, fun H10 e10 t10 => ⟨_, rfl, iteF ?_⟩⟩
      exact ⟨t10, k1 + 1, by simp only [List.length_cons, List.length_nil] at hk1; omega, MOk.ext M9 e10, _, _, _, _, _, _, _, _, _, rfl⟩
    rintro σ H2 ⟨t2, k, hk, M2, v2, v3, v4, v5, v6, v7, v9, v10, v11, rfl⟩
    exact ⟨rfl, t2, q⟩

end
end Wn
namespace Wn
open PySem PySem.Spec PyProof.Rows L2
open LamX (Tabs ExtN tLam)
theorem all_mk {l : PySem.W.OpenLaw} {w : World} {K : PySem.W.Frag} {h : Heap} {mg : Str → Option Value} {fa : Addr} (X : K.In h) (G : h.Ns mainGlobals mg) (hfa : mg "law" = some (.ref fa))
    {f_is_integer : Addr} {oc_is_integer kV_is_integer dc_is_integer pm_is_integer cd_is_integer ct_is_integer : Value} {od_is_integer an_is_integer : Option Addr} {sl_is_integer : Array (Option Value)}
    {f_is_within : Addr} {oc_is_within kV_is_within dc_is_within pm_is_within cd_is_within ct_is_within : Value} {od_is_within an_is_within : Option Addr} {sl_is_within : Array (Option Value)}
    {f_need_base : Addr} {oc_need_base kV_need_base dc_need_base pm_need_base cd_need_base ct_need_base : Value} {od_need_base an_need_base : Option Addr} {sl_need_base : Array (Option Value)}
    {f_need_denominator : Addr} {oc_need_denominator kV_need_denominator dc_need_denominator pm_need_denominator cd_need_denominator ct_need_denominator : Value} {od_need_denominator an_need_denominator : Option Addr} {sl_need_denominator : Array (Option Value)}
    {f_need_fraction : Addr} {oc_need_fraction kV_need_fraction dc_need_fraction pm_need_fraction cd_need_fraction ct_need_fraction : Value} {od_need_fraction an_need_fraction : Option Addr} {sl_need_fraction : Array (Option Value)}
    {f_pure_part : Addr} {oc_pure_part kV_pure_part dc_pure_part pm_pure_part cd_pure_part ct_pure_part : Value} {od_pure_part an_pure_part : Option Addr} {sl_pure_part : Array (Option Value)}
    {f_period : Addr} {oc_period kV_period dc_period pm_period cd_period ct_period : Value} {od_period an_period : Option Addr} {sl_period : Array (Option Value)}
    {f_head_size : Addr} {oc_head_size kV_head_size dc_head_size pm_head_size cd_head_size ct_head_size : Value} {od_head_size an_head_size : Option Addr} {sl_head_size : Array (Option Value)}
    {f_power : Addr} {oc_power kV_power dc_power pm_power cd_power ct_power : Value} {od_power an_power : Option Addr} {sl_power : Array (Option Value)}
    {f_are_digits : Addr} {oc_are_digits kV_are_digits dc_are_digits pm_are_digits cd_are_digits ct_are_digits : Value} {od_are_digits an_are_digits : Option Addr} {sl_are_digits : Array (Option Value)}
    {f_need_digits : Addr} {oc_need_digits kV_need_digits dc_need_digits pm_need_digits cd_need_digits ct_need_digits : Value} {od_need_digits an_need_digits : Option Addr} {sl_need_digits : Array (Option Value)}
    {f_number_of : Addr} {oc_number_of kV_number_of dc_number_of pm_number_of cd_number_of ct_number_of : Value} {od_number_of an_number_of : Option Addr} {sl_number_of : Array (Option Value)}
    {f_divided : Addr} {oc_divided kV_divided dc_divided pm_divided cd_divided ct_divided : Value} {od_divided an_divided : Option Addr} {sl_divided : Array (Option Value)}
    {f_expansion : Addr} {oc_expansion kV_expansion dc_expansion pm_expansion cd_expansion ct_expansion : Value} {od_expansion an_expansion : Option Addr} {sl_expansion : Array (Option Value)}
    {f_fraction_of : Addr} {oc_fraction_of kV_fraction_of dc_fraction_of pm_fraction_of cd_fraction_of ct_fraction_of : Value} {od_fraction_of an_fraction_of : Option Addr} {sl_fraction_of : Array (Option Value)}
    {f_need_string : Addr} {oc_need_string kV_need_string dc_need_string pm_need_string cd_need_string ct_need_string : Value} {od_need_string an_need_string : Option Addr} {sl_need_string : Array (Option Value)}
    {f_run_size : Addr} {oc_run_size kV_run_size dc_run_size pm_run_size cd_run_size ct_run_size : Value} {od_run_size an_run_size : Option Addr} {sl_run_size : Array (Option Value)}
    {f_integer_in : Addr} {oc_integer_in kV_integer_in dc_integer_in pm_integer_in cd_integer_in ct_integer_in : Value} {od_integer_in an_integer_in : Option Addr} {sl_integer_in : Array (Option Value)}
    {f_fraction_text : Addr} {oc_fraction_text kV_fraction_text dc_fraction_text pm_fraction_text cd_fraction_text ct_fraction_text : Value} {od_fraction_text an_fraction_text : Option Addr} {sl_fraction_text : Array (Option Value)}
    {f_read_fraction : Addr} {oc_read_fraction kV_read_fraction dc_read_fraction pm_read_fraction cd_read_fraction ct_read_fraction : Value} {od_read_fraction an_read_fraction : Option Addr} {sl_read_fraction : Array (Option Value)}
    {f_expansion_text : Addr} {oc_expansion_text kV_expansion_text dc_expansion_text pm_expansion_text cd_expansion_text ct_expansion_text : Value} {od_expansion_text an_expansion_text : Option Addr} {sl_expansion_text : Array (Option Value)}
    {f_digits_in : Addr} {oc_digits_in kV_digits_in dc_digits_in pm_digits_in cd_digits_in ct_digits_in : Value} {od_digits_in an_digits_in : Option Addr} {sl_digits_in : Array (Option Value)}
    {f_need_word : Addr} {oc_need_word kV_need_word dc_need_word pm_need_word cd_need_word ct_need_word : Value} {od_need_word an_need_word : Option Addr} {sl_need_word : Array (Option Value)}
    {f_read_expansion : Addr} {oc_read_expansion kV_read_expansion dc_read_expansion pm_read_expansion cd_read_expansion ct_read_expansion : Value} {od_read_expansion an_read_expansion : Option Addr} {sl_read_expansion : Array (Option Value)}
    {f_law_begun : Addr} {oc_law_begun kV_law_begun dc_law_begun pm_law_begun cd_law_begun ct_law_begun : Value} {od_law_begun an_law_begun : Option Addr} {sl_law_begun : Array (Option Value)}
    {f_law_draw : Addr} {oc_law_draw kV_law_draw dc_law_draw pm_law_draw cd_law_draw ct_law_draw : Value} {od_law_draw an_law_draw : Option Addr} {sl_law_draw : Array (Option Value)}
    {f_law_of : Addr} {oc_law_of kV_law_of dc_law_of pm_law_of cd_law_of ct_law_of : Value} {od_law_of an_law_of : Option Addr} {sl_law_of : Array (Option Value)}
    {f_law_divisor : Addr} {oc_law_divisor kV_law_divisor dc_law_divisor pm_law_divisor cd_law_divisor ct_law_divisor : Value} {od_law_divisor an_law_divisor : Option Addr} {sl_law_divisor : Array (Option Value)}
    {f_law_part : Addr} {oc_law_part kV_law_part dc_law_part pm_law_part cd_law_part ct_law_part : Value} {od_law_part an_law_part : Option Addr} {sl_law_part : Array (Option Value)}
    {f_law_ring : Addr} {oc_law_ring kV_law_ring dc_law_ring pm_law_ring cd_law_ring ct_law_ring : Value} {od_law_ring an_law_ring : Option Addr} {sl_law_ring : Array (Option Value)}
    {f_law_spread : Addr} {oc_law_spread kV_law_spread dc_law_spread pm_law_spread cd_law_spread ct_law_spread : Value} {od_law_spread an_law_spread : Option Addr} {sl_law_spread : Array (Option Value)}
    {f_law_worth : Addr} {oc_law_worth kV_law_worth dc_law_worth pm_law_worth cd_law_worth ct_law_worth : Value} {od_law_worth an_law_worth : Option Addr} {sl_law_worth : Array (Option Value)}
    {f_law_power : Addr} {oc_law_power kV_law_power dc_law_power pm_law_power cd_law_power ct_law_power : Value} {od_law_power an_law_power : Option Addr} {sl_law_power : Array (Option Value)}
    {f_law_word : Addr} {oc_law_word kV_law_word dc_law_word pm_law_word cd_law_word ct_law_word : Value} {od_law_word an_law_word : Option Addr} {sl_law_word : Array (Option Value)}
    {f_law_outcome : Addr} {oc_law_outcome kV_law_outcome dc_law_outcome pm_law_outcome cd_law_outcome ct_law_outcome : Value} {od_law_outcome an_law_outcome : Option Addr} {sl_law_outcome : Array (Option Value)}
    {f_law_is_figure : Addr} {oc_law_is_figure kV_law_is_figure dc_law_is_figure pm_law_is_figure cd_law_is_figure ct_law_is_figure : Value} {od_law_is_figure an_law_is_figure : Option Addr} {sl_law_is_figure : Array (Option Value)}
    {f_law_is_number : Addr} {oc_law_is_number kV_law_is_number dc_law_is_number pm_law_is_number cd_law_is_number ct_law_is_number : Value} {od_law_is_number an_law_is_number : Option Addr} {sl_law_is_number : Array (Option Value)}
    {f_law_fraction_due : Addr} {oc_law_fraction_due kV_law_fraction_due dc_law_fraction_due pm_law_fraction_due cd_law_fraction_due ct_law_fraction_due : Value} {od_law_fraction_due an_law_fraction_due : Option Addr} {sl_law_fraction_due : Array (Option Value)}
    {f_law_words_read : Addr} {oc_law_words_read kV_law_words_read dc_law_words_read pm_law_words_read cd_law_words_read ct_law_words_read : Value} {od_law_words_read an_law_words_read : Option Addr} {sl_law_words_read : Array (Option Value)}
    {f_law_expansion_due : Addr} {oc_law_expansion_due kV_law_expansion_due dc_law_expansion_due pm_law_expansion_due cd_law_expansion_due ct_law_expansion_due : Value} {od_law_expansion_due an_law_expansion_due : Option Addr} {sl_law_expansion_due : Array (Option Value)}
    {f_law_bent : Addr} {oc_law_bent kV_law_bent dc_law_bent pm_law_bent cd_law_bent ct_law_bent : Value} {od_law_bent an_law_bent : Option Addr} {sl_law_bent : Array (Option Value)}
    {f_law_right : Addr} {oc_law_right kV_law_right dc_law_right pm_law_right cd_law_right ct_law_right : Value} {od_law_right an_law_right : Option Addr} {sl_law_right : Array (Option Value)}
    {f_law_hand_right : Addr} {oc_law_hand_right kV_law_hand_right dc_law_hand_right pm_law_hand_right cd_law_hand_right ct_law_hand_right : Value} {od_law_hand_right an_law_hand_right : Option Addr} {sl_law_hand_right : Array (Option Value)}
    {f_law : Addr} {oc_law kV_law dc_law pm_law cd_law ct_law : Value} {od_law an_law : Option Addr} {sl_law : Array (Option Value)}
    {C_WheelError : Addr}
    {C_BadBase : Addr}
    {I_BadBase : Addr} {ioc_BadBase ikV_BadBase idc_BadBase ipm_BadBase icd_BadBase ict_BadBase : Value} {iod_BadBase ian_BadBase : Option Addr} {isl_BadBase : Array (Option Value)}
    {C_BadDenominator : Addr}
    {C_BadFraction : Addr}
    {I_BadFraction : Addr} {ioc_BadFraction ikV_BadFraction idc_BadFraction ipm_BadFraction icd_BadFraction ict_BadFraction : Value} {iod_BadFraction ian_BadFraction : Option Addr} {isl_BadFraction : Array (Option Value)}
    {C_BadDigits : Addr}
    {C_BadNumber : Addr}
    {C_BadPaper : Addr}
    {C_BadText : Addr}
    {I_BadText : Addr} {ioc_BadText ikV_BadText idc_BadText ipm_BadText icd_BadText ict_BadText : Value} {iod_BadText ian_BadText : Option Addr} {isl_BadText : Array (Option Value)}
    {C_TooGreat : Addr}
    {I_TooGreat : Addr} {ioc_TooGreat ikV_TooGreat idc_TooGreat ipm_TooGreat icd_TooGreat ict_TooGreat : Value} {iod_TooGreat ian_TooGreat : Option Addr} {isl_TooGreat : Array (Option Value)}
    {C_Nothing : Addr}
    {I_Nothing : Addr} {ioc_Nothing ikV_Nothing idc_Nothing ipm_Nothing icd_Nothing ict_Nothing : Value} {iod_Nothing ian_Nothing : Option Addr} {isl_Nothing : Array (Option Value)}
    {kk_law_right pp_law_right : Addr}
    {c1_law_right : Value} {d1_law_right : Option Addr} {vs_law_right : Array Value} {s1_law_right : Array (Option Value)}
    {kk_law_hand_right pp_law_hand_right : Addr}
    {c1_law_hand_right : Value} {d1_law_hand_right : Option Addr} {vs_law_hand_right : Array Value} {s1_law_hand_right : Array (Option Value)}
    {t_MOST_BASE : Tok}
    {t_MOST_DENOMINATOR : Tok}
    {t_MOST_DIGITS : Tok}
    {t_MOST_LENGTH : Tok}
    (a_is_integer : PySem.W.nsIn K mainGlobals "is_integer" = some (some (.ref f_is_integer)))
    (l_is_integer : K.lookup f_is_integer = some ⟨oc_is_integer, od_is_integer, .func (PySem.W.fnOf "is_integer" "is_integer" (defArgs s_is_integer) (defBody s_is_integer) (defScope s_is_integer) .none kV_is_integer dc_is_integer pm_is_integer an_is_integer cd_is_integer ct_is_integer), sl_is_integer⟩)
    (c_is_integer : PySem.W.codeIn K cd_is_integer "is_integer" = true)
    (k_is_integer : PySem.W.keepIn K (.ref f_is_integer) = true)
    (a_is_within : PySem.W.nsIn K mainGlobals "is_within" = some (some (.ref f_is_within)))
    (l_is_within : K.lookup f_is_within = some ⟨oc_is_within, od_is_within, .func (PySem.W.fnOf "is_within" "is_within" (defArgs s_is_within) (defBody s_is_within) (defScope s_is_within) .none kV_is_within dc_is_within pm_is_within an_is_within cd_is_within ct_is_within), sl_is_within⟩)
    (c_is_within : PySem.W.codeIn K cd_is_within "is_within" = true)
    (k_is_within : PySem.W.keepIn K (.ref f_is_within) = true)
    (a_need_base : PySem.W.nsIn K mainGlobals "need_base" = some (some (.ref f_need_base)))
    (l_need_base : K.lookup f_need_base = some ⟨oc_need_base, od_need_base, .func (PySem.W.fnOf "need_base" "need_base" (defArgs s_need_base) (defBody s_need_base) (defScope s_need_base) .none kV_need_base dc_need_base pm_need_base an_need_base cd_need_base ct_need_base), sl_need_base⟩)
    (c_need_base : PySem.W.codeIn K cd_need_base "need_base" = true)
    (k_need_base : PySem.W.keepIn K (.ref f_need_base) = true)
    (a_need_denominator : PySem.W.nsIn K mainGlobals "need_denominator" = some (some (.ref f_need_denominator)))
    (l_need_denominator : K.lookup f_need_denominator = some ⟨oc_need_denominator, od_need_denominator, .func (PySem.W.fnOf "need_denominator" "need_denominator" (defArgs s_need_denominator) (defBody s_need_denominator) (defScope s_need_denominator) .none kV_need_denominator dc_need_denominator pm_need_denominator an_need_denominator cd_need_denominator ct_need_denominator), sl_need_denominator⟩)
    (c_need_denominator : PySem.W.codeIn K cd_need_denominator "need_denominator" = true)
    (k_need_denominator : PySem.W.keepIn K (.ref f_need_denominator) = true)
    (a_need_fraction : PySem.W.nsIn K mainGlobals "need_fraction" = some (some (.ref f_need_fraction)))
    (l_need_fraction : K.lookup f_need_fraction = some ⟨oc_need_fraction, od_need_fraction, .func (PySem.W.fnOf "need_fraction" "need_fraction" (defArgs s_need_fraction) (defBody s_need_fraction) (defScope s_need_fraction) .none kV_need_fraction dc_need_fraction pm_need_fraction an_need_fraction cd_need_fraction ct_need_fraction), sl_need_fraction⟩)
    (c_need_fraction : PySem.W.codeIn K cd_need_fraction "need_fraction" = true)
    (k_need_fraction : PySem.W.keepIn K (.ref f_need_fraction) = true)
    (a_pure_part : PySem.W.nsIn K mainGlobals "pure_part" = some (some (.ref f_pure_part)))
    (l_pure_part : K.lookup f_pure_part = some ⟨oc_pure_part, od_pure_part, .func (PySem.W.fnOf "pure_part" "pure_part" (defArgs s_pure_part) (defBody s_pure_part) (defScope s_pure_part) .none kV_pure_part dc_pure_part pm_pure_part an_pure_part cd_pure_part ct_pure_part), sl_pure_part⟩)
    (c_pure_part : PySem.W.codeIn K cd_pure_part "pure_part" = true)
    (k_pure_part : PySem.W.keepIn K (.ref f_pure_part) = true)
    (a_period : PySem.W.nsIn K mainGlobals "period" = some (some (.ref f_period)))
    (l_period : K.lookup f_period = some ⟨oc_period, od_period, .func (PySem.W.fnOf "period" "period" (defArgs s_period) (defBody s_period) (defScope s_period) .none kV_period dc_period pm_period an_period cd_period ct_period), sl_period⟩)
    (c_period : PySem.W.codeIn K cd_period "period" = true)
    (k_period : PySem.W.keepIn K (.ref f_period) = true)
    (a_head_size : PySem.W.nsIn K mainGlobals "head_size" = some (some (.ref f_head_size)))
    (l_head_size : K.lookup f_head_size = some ⟨oc_head_size, od_head_size, .func (PySem.W.fnOf "head_size" "head_size" (defArgs s_head_size) (defBody s_head_size) (defScope s_head_size) .none kV_head_size dc_head_size pm_head_size an_head_size cd_head_size ct_head_size), sl_head_size⟩)
    (c_head_size : PySem.W.codeIn K cd_head_size "head_size" = true)
    (k_head_size : PySem.W.keepIn K (.ref f_head_size) = true)
    (a_power : PySem.W.nsIn K mainGlobals "power" = some (some (.ref f_power)))
    (l_power : K.lookup f_power = some ⟨oc_power, od_power, .func (PySem.W.fnOf "power" "power" (defArgs s_power) (defBody s_power) (defScope s_power) .none kV_power dc_power pm_power an_power cd_power ct_power), sl_power⟩)
    (c_power : PySem.W.codeIn K cd_power "power" = true)
    (k_power : PySem.W.keepIn K (.ref f_power) = true)
    (a_are_digits : PySem.W.nsIn K mainGlobals "are_digits" = some (some (.ref f_are_digits)))
    (l_are_digits : K.lookup f_are_digits = some ⟨oc_are_digits, od_are_digits, .func (PySem.W.fnOf "are_digits" "are_digits" (defArgs s_are_digits) (defBody s_are_digits) (defScope s_are_digits) .none kV_are_digits dc_are_digits pm_are_digits an_are_digits cd_are_digits ct_are_digits), sl_are_digits⟩)
    (c_are_digits : PySem.W.codeIn K cd_are_digits "are_digits" = true)
    (k_are_digits : PySem.W.keepIn K (.ref f_are_digits) = true)
    (a_need_digits : PySem.W.nsIn K mainGlobals "need_digits" = some (some (.ref f_need_digits)))
    (l_need_digits : K.lookup f_need_digits = some ⟨oc_need_digits, od_need_digits, .func (PySem.W.fnOf "need_digits" "need_digits" (defArgs s_need_digits) (defBody s_need_digits) (defScope s_need_digits) .none kV_need_digits dc_need_digits pm_need_digits an_need_digits cd_need_digits ct_need_digits), sl_need_digits⟩)
    (c_need_digits : PySem.W.codeIn K cd_need_digits "need_digits" = true)
    (k_need_digits : PySem.W.keepIn K (.ref f_need_digits) = true)
    (a_number_of : PySem.W.nsIn K mainGlobals "number_of" = some (some (.ref f_number_of)))
    (l_number_of : K.lookup f_number_of = some ⟨oc_number_of, od_number_of, .func (PySem.W.fnOf "number_of" "number_of" (defArgs s_number_of) (defBody s_number_of) (defScope s_number_of) .none kV_number_of dc_number_of pm_number_of an_number_of cd_number_of ct_number_of), sl_number_of⟩)
    (c_number_of : PySem.W.codeIn K cd_number_of "number_of" = true)
    (k_number_of : PySem.W.keepIn K (.ref f_number_of) = true)
    (a_divided : PySem.W.nsIn K mainGlobals "divided" = some (some (.ref f_divided)))
    (l_divided : K.lookup f_divided = some ⟨oc_divided, od_divided, .func (PySem.W.fnOf "divided" "divided" (defArgs s_divided) (defBody s_divided) (defScope s_divided) .none kV_divided dc_divided pm_divided an_divided cd_divided ct_divided), sl_divided⟩)
    (c_divided : PySem.W.codeIn K cd_divided "divided" = true)
    (k_divided : PySem.W.keepIn K (.ref f_divided) = true)
    (a_expansion : PySem.W.nsIn K mainGlobals "expansion" = some (some (.ref f_expansion)))
    (l_expansion : K.lookup f_expansion = some ⟨oc_expansion, od_expansion, .func (PySem.W.fnOf "expansion" "expansion" (defArgs s_expansion) (defBody s_expansion) (defScope s_expansion) .none kV_expansion dc_expansion pm_expansion an_expansion cd_expansion ct_expansion), sl_expansion⟩)
    (c_expansion : PySem.W.codeIn K cd_expansion "expansion" = true)
    (k_expansion : PySem.W.keepIn K (.ref f_expansion) = true)
    (a_fraction_of : PySem.W.nsIn K mainGlobals "fraction_of" = some (some (.ref f_fraction_of)))
    (l_fraction_of : K.lookup f_fraction_of = some ⟨oc_fraction_of, od_fraction_of, .func (PySem.W.fnOf "fraction_of" "fraction_of" (defArgs s_fraction_of) (defBody s_fraction_of) (defScope s_fraction_of) .none kV_fraction_of dc_fraction_of pm_fraction_of an_fraction_of cd_fraction_of ct_fraction_of), sl_fraction_of⟩)
    (c_fraction_of : PySem.W.codeIn K cd_fraction_of "fraction_of" = true)
    (k_fraction_of : PySem.W.keepIn K (.ref f_fraction_of) = true)
    (a_need_string : PySem.W.nsIn K mainGlobals "need_string" = some (some (.ref f_need_string)))
    (l_need_string : K.lookup f_need_string = some ⟨oc_need_string, od_need_string, .func (PySem.W.fnOf "need_string" "need_string" (defArgs s_need_string) (defBody s_need_string) (defScope s_need_string) .none kV_need_string dc_need_string pm_need_string an_need_string cd_need_string ct_need_string), sl_need_string⟩)
    (c_need_string : PySem.W.codeIn K cd_need_string "need_string" = true)
    (k_need_string : PySem.W.keepIn K (.ref f_need_string) = true)
    (a_run_size : PySem.W.nsIn K mainGlobals "run_size" = some (some (.ref f_run_size)))
    (l_run_size : K.lookup f_run_size = some ⟨oc_run_size, od_run_size, .func (PySem.W.fnOf "run_size" "run_size" (defArgs s_run_size) (defBody s_run_size) (defScope s_run_size) .none kV_run_size dc_run_size pm_run_size an_run_size cd_run_size ct_run_size), sl_run_size⟩)
    (c_run_size : PySem.W.codeIn K cd_run_size "run_size" = true)
    (k_run_size : PySem.W.keepIn K (.ref f_run_size) = true)
    (a_integer_in : PySem.W.nsIn K mainGlobals "integer_in" = some (some (.ref f_integer_in)))
    (l_integer_in : K.lookup f_integer_in = some ⟨oc_integer_in, od_integer_in, .func (PySem.W.fnOf "integer_in" "integer_in" (defArgs s_integer_in) (defBody s_integer_in) (defScope s_integer_in) .none kV_integer_in dc_integer_in pm_integer_in an_integer_in cd_integer_in ct_integer_in), sl_integer_in⟩)
    (c_integer_in : PySem.W.codeIn K cd_integer_in "integer_in" = true)
    (k_integer_in : PySem.W.keepIn K (.ref f_integer_in) = true)
    (a_fraction_text : PySem.W.nsIn K mainGlobals "fraction_text" = some (some (.ref f_fraction_text)))
    (l_fraction_text : K.lookup f_fraction_text = some ⟨oc_fraction_text, od_fraction_text, .func (PySem.W.fnOf "fraction_text" "fraction_text" (defArgs s_fraction_text) (defBody s_fraction_text) (defScope s_fraction_text) .none kV_fraction_text dc_fraction_text pm_fraction_text an_fraction_text cd_fraction_text ct_fraction_text), sl_fraction_text⟩)
    (c_fraction_text : PySem.W.codeIn K cd_fraction_text "fraction_text" = true)
    (k_fraction_text : PySem.W.keepIn K (.ref f_fraction_text) = true)
    (a_read_fraction : PySem.W.nsIn K mainGlobals "read_fraction" = some (some (.ref f_read_fraction)))
    (l_read_fraction : K.lookup f_read_fraction = some ⟨oc_read_fraction, od_read_fraction, .func (PySem.W.fnOf "read_fraction" "read_fraction" (defArgs s_read_fraction) (defBody s_read_fraction) (defScope s_read_fraction) .none kV_read_fraction dc_read_fraction pm_read_fraction an_read_fraction cd_read_fraction ct_read_fraction), sl_read_fraction⟩)
    (c_read_fraction : PySem.W.codeIn K cd_read_fraction "read_fraction" = true)
    (k_read_fraction : PySem.W.keepIn K (.ref f_read_fraction) = true)
    (a_expansion_text : PySem.W.nsIn K mainGlobals "expansion_text" = some (some (.ref f_expansion_text)))
    (l_expansion_text : K.lookup f_expansion_text = some ⟨oc_expansion_text, od_expansion_text, .func (PySem.W.fnOf "expansion_text" "expansion_text" (defArgs s_expansion_text) (defBody s_expansion_text) (defScope s_expansion_text) .none kV_expansion_text dc_expansion_text pm_expansion_text an_expansion_text cd_expansion_text ct_expansion_text), sl_expansion_text⟩)
    (c_expansion_text : PySem.W.codeIn K cd_expansion_text "expansion_text" = true)
    (k_expansion_text : PySem.W.keepIn K (.ref f_expansion_text) = true)
    (a_digits_in : PySem.W.nsIn K mainGlobals "digits_in" = some (some (.ref f_digits_in)))
    (l_digits_in : K.lookup f_digits_in = some ⟨oc_digits_in, od_digits_in, .func (PySem.W.fnOf "digits_in" "digits_in" (defArgs s_digits_in) (defBody s_digits_in) (defScope s_digits_in) .none kV_digits_in dc_digits_in pm_digits_in an_digits_in cd_digits_in ct_digits_in), sl_digits_in⟩)
    (c_digits_in : PySem.W.codeIn K cd_digits_in "digits_in" = true)
    (k_digits_in : PySem.W.keepIn K (.ref f_digits_in) = true)
    (a_need_word : PySem.W.nsIn K mainGlobals "need_word" = some (some (.ref f_need_word)))
    (l_need_word : K.lookup f_need_word = some ⟨oc_need_word, od_need_word, .func (PySem.W.fnOf "need_word" "need_word" (defArgs s_need_word) (defBody s_need_word) (defScope s_need_word) .none kV_need_word dc_need_word pm_need_word an_need_word cd_need_word ct_need_word), sl_need_word⟩)
    (c_need_word : PySem.W.codeIn K cd_need_word "need_word" = true)
    (k_need_word : PySem.W.keepIn K (.ref f_need_word) = true)
    (a_read_expansion : PySem.W.nsIn K mainGlobals "read_expansion" = some (some (.ref f_read_expansion)))
    (l_read_expansion : K.lookup f_read_expansion = some ⟨oc_read_expansion, od_read_expansion, .func (PySem.W.fnOf "read_expansion" "read_expansion" (defArgs s_read_expansion) (defBody s_read_expansion) (defScope s_read_expansion) .none kV_read_expansion dc_read_expansion pm_read_expansion an_read_expansion cd_read_expansion ct_read_expansion), sl_read_expansion⟩)
    (c_read_expansion : PySem.W.codeIn K cd_read_expansion "read_expansion" = true)
    (k_read_expansion : PySem.W.keepIn K (.ref f_read_expansion) = true)
    (a_law_begun : PySem.W.nsIn K mainGlobals "_law_begun" = some (some (.ref f_law_begun)))
    (l_law_begun : K.lookup f_law_begun = some ⟨oc_law_begun, od_law_begun, .func (PySem.W.fnOf "_law_begun" "_law_begun" (defArgs s_law_begun) (defBody s_law_begun) (defScope s_law_begun) .none kV_law_begun dc_law_begun pm_law_begun an_law_begun cd_law_begun ct_law_begun), sl_law_begun⟩)
    (c_law_begun : PySem.W.codeIn K cd_law_begun "_law_begun" = true)
    (k_law_begun : PySem.W.keepIn K (.ref f_law_begun) = true)
    (a_law_draw : PySem.W.nsIn K mainGlobals "_law_draw" = some (some (.ref f_law_draw)))
    (l_law_draw : K.lookup f_law_draw = some ⟨oc_law_draw, od_law_draw, .func (PySem.W.fnOf "_law_draw" "_law_draw" (defArgs s_law_draw) (defBody s_law_draw) (defScope s_law_draw) .none kV_law_draw dc_law_draw pm_law_draw an_law_draw cd_law_draw ct_law_draw), sl_law_draw⟩)
    (c_law_draw : PySem.W.codeIn K cd_law_draw "_law_draw" = true)
    (k_law_draw : PySem.W.keepIn K (.ref f_law_draw) = true)
    (a_law_of : PySem.W.nsIn K mainGlobals "_law_of" = some (some (.ref f_law_of)))
    (l_law_of : K.lookup f_law_of = some ⟨oc_law_of, od_law_of, .func (PySem.W.fnOf "_law_of" "_law_of" (defArgs s_law_of) (defBody s_law_of) (defScope s_law_of) .none kV_law_of dc_law_of pm_law_of an_law_of cd_law_of ct_law_of), sl_law_of⟩)
    (c_law_of : PySem.W.codeIn K cd_law_of "_law_of" = true)
    (k_law_of : PySem.W.keepIn K (.ref f_law_of) = true)
    (a_law_divisor : PySem.W.nsIn K mainGlobals "_law_divisor" = some (some (.ref f_law_divisor)))
    (l_law_divisor : K.lookup f_law_divisor = some ⟨oc_law_divisor, od_law_divisor, .func (PySem.W.fnOf "_law_divisor" "_law_divisor" (defArgs s_law_divisor) (defBody s_law_divisor) (defScope s_law_divisor) .none kV_law_divisor dc_law_divisor pm_law_divisor an_law_divisor cd_law_divisor ct_law_divisor), sl_law_divisor⟩)
    (c_law_divisor : PySem.W.codeIn K cd_law_divisor "_law_divisor" = true)
    (k_law_divisor : PySem.W.keepIn K (.ref f_law_divisor) = true)
    (a_law_part : PySem.W.nsIn K mainGlobals "_law_part" = some (some (.ref f_law_part)))
    (l_law_part : K.lookup f_law_part = some ⟨oc_law_part, od_law_part, .func (PySem.W.fnOf "_law_part" "_law_part" (defArgs s_law_part) (defBody s_law_part) (defScope s_law_part) .none kV_law_part dc_law_part pm_law_part an_law_part cd_law_part ct_law_part), sl_law_part⟩)
    (c_law_part : PySem.W.codeIn K cd_law_part "_law_part" = true)
    (k_law_part : PySem.W.keepIn K (.ref f_law_part) = true)
    (a_law_ring : PySem.W.nsIn K mainGlobals "_law_ring" = some (some (.ref f_law_ring)))
    (l_law_ring : K.lookup f_law_ring = some ⟨oc_law_ring, od_law_ring, .func (PySem.W.fnOf "_law_ring" "_law_ring" (defArgs s_law_ring) (defBody s_law_ring) (defScope s_law_ring) .none kV_law_ring dc_law_ring pm_law_ring an_law_ring cd_law_ring ct_law_ring), sl_law_ring⟩)
    (c_law_ring : PySem.W.codeIn K cd_law_ring "_law_ring" = true)
    (k_law_ring : PySem.W.keepIn K (.ref f_law_ring) = true)
    (a_law_spread : PySem.W.nsIn K mainGlobals "_law_spread" = some (some (.ref f_law_spread)))
    (l_law_spread : K.lookup f_law_spread = some ⟨oc_law_spread, od_law_spread, .func (PySem.W.fnOf "_law_spread" "_law_spread" (defArgs s_law_spread) (defBody s_law_spread) (defScope s_law_spread) .none kV_law_spread dc_law_spread pm_law_spread an_law_spread cd_law_spread ct_law_spread), sl_law_spread⟩)
    (c_law_spread : PySem.W.codeIn K cd_law_spread "_law_spread" = true)
    (k_law_spread : PySem.W.keepIn K (.ref f_law_spread) = true)
    (a_law_worth : PySem.W.nsIn K mainGlobals "_law_worth" = some (some (.ref f_law_worth)))
    (l_law_worth : K.lookup f_law_worth = some ⟨oc_law_worth, od_law_worth, .func (PySem.W.fnOf "_law_worth" "_law_worth" (defArgs s_law_worth) (defBody s_law_worth) (defScope s_law_worth) .none kV_law_worth dc_law_worth pm_law_worth an_law_worth cd_law_worth ct_law_worth), sl_law_worth⟩)
    (c_law_worth : PySem.W.codeIn K cd_law_worth "_law_worth" = true)
    (k_law_worth : PySem.W.keepIn K (.ref f_law_worth) = true)
    (a_law_power : PySem.W.nsIn K mainGlobals "_law_power" = some (some (.ref f_law_power)))
    (l_law_power : K.lookup f_law_power = some ⟨oc_law_power, od_law_power, .func (PySem.W.fnOf "_law_power" "_law_power" (defArgs s_law_power) (defBody s_law_power) (defScope s_law_power) .none kV_law_power dc_law_power pm_law_power an_law_power cd_law_power ct_law_power), sl_law_power⟩)
    (c_law_power : PySem.W.codeIn K cd_law_power "_law_power" = true)
    (k_law_power : PySem.W.keepIn K (.ref f_law_power) = true)
    (a_law_word : PySem.W.nsIn K mainGlobals "_law_word" = some (some (.ref f_law_word)))
    (l_law_word : K.lookup f_law_word = some ⟨oc_law_word, od_law_word, .func (PySem.W.fnOf "_law_word" "_law_word" (defArgs s_law_word) (defBody s_law_word) (defScope s_law_word) .none kV_law_word dc_law_word pm_law_word an_law_word cd_law_word ct_law_word), sl_law_word⟩)
    (c_law_word : PySem.W.codeIn K cd_law_word "_law_word" = true)
    (k_law_word : PySem.W.keepIn K (.ref f_law_word) = true)
    (a_law_outcome : PySem.W.nsIn K mainGlobals "_law_outcome" = some (some (.ref f_law_outcome)))
    (l_law_outcome : K.lookup f_law_outcome = some ⟨oc_law_outcome, od_law_outcome, .func (PySem.W.fnOf "_law_outcome" "_law_outcome" (defArgs s_law_outcome) (defBody s_law_outcome) (defScope s_law_outcome) .none kV_law_outcome dc_law_outcome pm_law_outcome an_law_outcome cd_law_outcome ct_law_outcome), sl_law_outcome⟩)
    (c_law_outcome : PySem.W.codeIn K cd_law_outcome "_law_outcome" = true)
    (k_law_outcome : PySem.W.keepIn K (.ref f_law_outcome) = true)
    (a_law_is_figure : PySem.W.nsIn K mainGlobals "_law_is_figure" = some (some (.ref f_law_is_figure)))
    (l_law_is_figure : K.lookup f_law_is_figure = some ⟨oc_law_is_figure, od_law_is_figure, .func (PySem.W.fnOf "_law_is_figure" "_law_is_figure" (defArgs s_law_is_figure) (defBody s_law_is_figure) (defScope s_law_is_figure) .none kV_law_is_figure dc_law_is_figure pm_law_is_figure an_law_is_figure cd_law_is_figure ct_law_is_figure), sl_law_is_figure⟩)
    (c_law_is_figure : PySem.W.codeIn K cd_law_is_figure "_law_is_figure" = true)
    (k_law_is_figure : PySem.W.keepIn K (.ref f_law_is_figure) = true)
    (a_law_is_number : PySem.W.nsIn K mainGlobals "_law_is_number" = some (some (.ref f_law_is_number)))
    (l_law_is_number : K.lookup f_law_is_number = some ⟨oc_law_is_number, od_law_is_number, .func (PySem.W.fnOf "_law_is_number" "_law_is_number" (defArgs s_law_is_number) (defBody s_law_is_number) (defScope s_law_is_number) .none kV_law_is_number dc_law_is_number pm_law_is_number an_law_is_number cd_law_is_number ct_law_is_number), sl_law_is_number⟩)
    (c_law_is_number : PySem.W.codeIn K cd_law_is_number "_law_is_number" = true)
    (k_law_is_number : PySem.W.keepIn K (.ref f_law_is_number) = true)
    (a_law_fraction_due : PySem.W.nsIn K mainGlobals "_law_fraction_due" = some (some (.ref f_law_fraction_due)))
    (l_law_fraction_due : K.lookup f_law_fraction_due = some ⟨oc_law_fraction_due, od_law_fraction_due, .func (PySem.W.fnOf "_law_fraction_due" "_law_fraction_due" (defArgs s_law_fraction_due) (defBody s_law_fraction_due) (defScope s_law_fraction_due) .none kV_law_fraction_due dc_law_fraction_due pm_law_fraction_due an_law_fraction_due cd_law_fraction_due ct_law_fraction_due), sl_law_fraction_due⟩)
    (c_law_fraction_due : PySem.W.codeIn K cd_law_fraction_due "_law_fraction_due" = true)
    (k_law_fraction_due : PySem.W.keepIn K (.ref f_law_fraction_due) = true)
    (a_law_words_read : PySem.W.nsIn K mainGlobals "_law_words_read" = some (some (.ref f_law_words_read)))
    (l_law_words_read : K.lookup f_law_words_read = some ⟨oc_law_words_read, od_law_words_read, .func (PySem.W.fnOf "_law_words_read" "_law_words_read" (defArgs s_law_words_read) (defBody s_law_words_read) (defScope s_law_words_read) .none kV_law_words_read dc_law_words_read pm_law_words_read an_law_words_read cd_law_words_read ct_law_words_read), sl_law_words_read⟩)
    (c_law_words_read : PySem.W.codeIn K cd_law_words_read "_law_words_read" = true)
    (k_law_words_read : PySem.W.keepIn K (.ref f_law_words_read) = true)
    (a_law_expansion_due : PySem.W.nsIn K mainGlobals "_law_expansion_due" = some (some (.ref f_law_expansion_due)))
    (l_law_expansion_due : K.lookup f_law_expansion_due = some ⟨oc_law_expansion_due, od_law_expansion_due, .func (PySem.W.fnOf "_law_expansion_due" "_law_expansion_due" (defArgs s_law_expansion_due) (defBody s_law_expansion_due) (defScope s_law_expansion_due) .none kV_law_expansion_due dc_law_expansion_due pm_law_expansion_due an_law_expansion_due cd_law_expansion_due ct_law_expansion_due), sl_law_expansion_due⟩)
    (c_law_expansion_due : PySem.W.codeIn K cd_law_expansion_due "_law_expansion_due" = true)
    (k_law_expansion_due : PySem.W.keepIn K (.ref f_law_expansion_due) = true)
    (a_law_bent : PySem.W.nsIn K mainGlobals "_law_bent" = some (some (.ref f_law_bent)))
    (l_law_bent : K.lookup f_law_bent = some ⟨oc_law_bent, od_law_bent, .func (PySem.W.fnOf "_law_bent" "_law_bent" (defArgs s_law_bent) (defBody s_law_bent) (defScope s_law_bent) .none kV_law_bent dc_law_bent pm_law_bent an_law_bent cd_law_bent ct_law_bent), sl_law_bent⟩)
    (c_law_bent : PySem.W.codeIn K cd_law_bent "_law_bent" = true)
    (k_law_bent : PySem.W.keepIn K (.ref f_law_bent) = true)
    (a_law_right : PySem.W.nsIn K mainGlobals "_law_right" = some (some (.ref f_law_right)))
    (l_law_right : K.lookup f_law_right = some ⟨oc_law_right, od_law_right, .func (PySem.W.fnOf "_law_right" "_law_right" (defArgs s_law_right) (defBody s_law_right) (defScope s_law_right) .none kV_law_right dc_law_right pm_law_right an_law_right cd_law_right ct_law_right), sl_law_right⟩)
    (c_law_right : PySem.W.codeIn K cd_law_right "_law_right" = true)
    (k_law_right : PySem.W.keepIn K (.ref f_law_right) = true)
    (a_law_hand_right : PySem.W.nsIn K mainGlobals "_law_hand_right" = some (some (.ref f_law_hand_right)))
    (l_law_hand_right : K.lookup f_law_hand_right = some ⟨oc_law_hand_right, od_law_hand_right, .func (PySem.W.fnOf "_law_hand_right" "_law_hand_right" (defArgs s_law_hand_right) (defBody s_law_hand_right) (defScope s_law_hand_right) .none kV_law_hand_right dc_law_hand_right pm_law_hand_right an_law_hand_right cd_law_hand_right ct_law_hand_right), sl_law_hand_right⟩)
    (c_law_hand_right : PySem.W.codeIn K cd_law_hand_right "_law_hand_right" = true)
    (k_law_hand_right : PySem.W.keepIn K (.ref f_law_hand_right) = true)
    (a_law : PySem.W.nsIn K mainGlobals "law" = some (some (.ref f_law)))
    (l_law : K.lookup f_law = some ⟨oc_law, od_law, .func (PySem.W.fnOf "law" "law" (defArgs s_law) (defBody s_law) (defScope s_law) .none kV_law dc_law pm_law an_law cd_law ct_law), sl_law⟩)
    (c_law : PySem.W.codeIn K cd_law "law" = true)
    (k_law : PySem.W.keepIn K (.ref f_law) = true)
    (zb_isinstance : PySem.W.nsIn K mainGlobals "isinstance" = some none)
    (zb_int : PySem.W.nsIn K mainGlobals "int" = some none)
    (zb_bool : PySem.W.nsIn K mainGlobals "bool" = some none)
    (zb_str : PySem.W.nsIn K mainGlobals "str" = some none)
    (zb_len : PySem.W.nsIn K mainGlobals "len" = some none)
    (zb_range : PySem.W.nsIn K mainGlobals "range" = some none)
    (zb_tuple : PySem.W.nsIn K mainGlobals "tuple" = some none)
    (zb_list : PySem.W.nsIn K mainGlobals "list" = some none)
    (zb_min : PySem.W.nsIn K mainGlobals "min" = some none)
    (zb_repr : PySem.W.nsIn K mainGlobals "repr" = some none)
    (zb_enumerate : PySem.W.nsIn K mainGlobals "enumerate" = some none)
    (zb_all : PySem.W.nsIn K mainGlobals "all" = some none)
    (zb_OverflowError : PySem.W.nsIn K mainGlobals "OverflowError" = some none)
    (zb_LookupError : PySem.W.nsIn K mainGlobals "LookupError" = some none)
    (zb_gcd : PySem.W.nsIn K mainGlobals "gcd" = some (some (.builtin "math.gcd")))
    (gc_WheelError : PySem.W.nsIn K mainGlobals "WheelError" = some (some (.ref C_WheelError)))
    (rd_WheelError : PySem.W.readsIn K C_WheelError (.type "type") = true)
    (rg_WheelError : PySem.W.specialIn K (.ref C_WheelError) "__getattribute__" = some (some (.builtin "type.__getattribute__")))
    (ri_WheelError : PySem.W.findCls K (.ref C_WheelError) (.type "type") "__init__" = some (.val (.builtin "ValueError.__init__")))
    (gc_BadBase : PySem.W.nsIn K mainGlobals "BadBase" = some (some (.ref C_BadBase)))
    (iC_BadBase : PySem.W.findIn K (.ref C_BadBase) "__init__" = some (some (.ref I_BadBase)))
    (ini_BadBase : PySem.W.excInitIn K C_BadBase [.type "ValueError", .type "Exception", .type "BaseException", .type "object"] "ValueError.__new__" = true)
    (ov_BadBase : PySem.W.excOver K C_BadBase [.type "ValueError", .type "Exception", .type "BaseException", .type "object"] = true)
    (hd_BadBase : PySem.W.hasDictIn K C_BadBase = true)
    (sa_BadBase : PySem.W.findIn K (.ref C_BadBase) "__setattr__" = some (some (.builtin "object.__setattr__")))
    (ex_BadBase : PySem.W.subIn K (.ref C_BadBase) (.type "BaseException") = some true)
    (ty_BadBase : PySem.W.typeIn K (.ref C_BadBase) = some (.type "type"))
    (kp_BadBase : PySem.W.keepIn K (.ref C_BadBase) = true)
    (tk_BadBase : PySem.W.takerIn K C_BadBase "value" = some none)
    (no_BadBase : PySem.W.findIn K (.ref C_BadBase) "value" = some none)
    (tI_BadBase : PySem.W.typeIn K (.ref I_BadBase) = some (.type "function"))
    (ga_BadBase : PySem.W.findIn K (.ref C_BadBase) "__getattribute__" = some (some (.builtin "BaseException.__getattribute__")))
    (gg_BadBase : PySem.W.findIn K (.ref C_BadBase) "__getattr__" = some none)
    (ha_BadBase : PySem.W.findIn K (.ref C_BadBase) "__class__" = some (some (.builtin "object.__class__")))
    (mr_BadBase : PySem.W.mroIn K C_BadBase (.type "object") = some true)
    (il_BadBase : K.lookup I_BadBase = some ⟨ioc_BadBase, iod_BadBase, .func (PySem.W.fnOf "__init__" "BadBase.__init__" (defArgs s_BadBase_init) (defBody s_BadBase_init) (defScope s_BadBase_init) .none ikV_BadBase idc_BadBase ipm_BadBase ian_BadBase icd_BadBase ict_BadBase), isl_BadBase⟩)
    (ic_BadBase : PySem.W.codeIn K icd_BadBase "BadBase.__init__" = true)
    (ik_BadBase : PySem.W.keepIn K (.ref I_BadBase) = true)
    (cl_BadBase : PySem.W.isClsIn K C_BadBase = true)
    (hn_BadBase : PySem.W.specialIn K (.builtin "object.__class__") "__get__" = some (some (.builtin "getset_descriptor.__get__")))
    (ht_BadBase : PySem.W.takesIn K (.builtin "object.__class__") = some true)
    (gc_BadDenominator : PySem.W.nsIn K mainGlobals "BadDenominator" = some (some (.ref C_BadDenominator)))
    (gc_BadFraction : PySem.W.nsIn K mainGlobals "BadFraction" = some (some (.ref C_BadFraction)))
    (iC_BadFraction : PySem.W.findIn K (.ref C_BadFraction) "__init__" = some (some (.ref I_BadFraction)))
    (ini_BadFraction : PySem.W.excInitIn K C_BadFraction [.type "ValueError", .type "Exception", .type "BaseException", .type "object"] "ValueError.__new__" = true)
    (ov_BadFraction : PySem.W.excOver K C_BadFraction [.type "ValueError", .type "Exception", .type "BaseException", .type "object"] = true)
    (hd_BadFraction : PySem.W.hasDictIn K C_BadFraction = true)
    (sa_BadFraction : PySem.W.findIn K (.ref C_BadFraction) "__setattr__" = some (some (.builtin "object.__setattr__")))
    (ex_BadFraction : PySem.W.subIn K (.ref C_BadFraction) (.type "BaseException") = some true)
    (ty_BadFraction : PySem.W.typeIn K (.ref C_BadFraction) = some (.type "type"))
    (kp_BadFraction : PySem.W.keepIn K (.ref C_BadFraction) = true)
    (tk_BadFraction : PySem.W.takerIn K C_BadFraction "value" = some none)
    (no_BadFraction : PySem.W.findIn K (.ref C_BadFraction) "value" = some none)
    (tI_BadFraction : PySem.W.typeIn K (.ref I_BadFraction) = some (.type "function"))
    (ga_BadFraction : PySem.W.findIn K (.ref C_BadFraction) "__getattribute__" = some (some (.builtin "BaseException.__getattribute__")))
    (gg_BadFraction : PySem.W.findIn K (.ref C_BadFraction) "__getattr__" = some none)
    (ha_BadFraction : PySem.W.findIn K (.ref C_BadFraction) "__class__" = some (some (.builtin "object.__class__")))
    (mr_BadFraction : PySem.W.mroIn K C_BadFraction (.type "object") = some true)
    (il_BadFraction : K.lookup I_BadFraction = some ⟨ioc_BadFraction, iod_BadFraction, .func (PySem.W.fnOf "__init__" "BadFraction.__init__" (defArgs s_BadFraction_init) (defBody s_BadFraction_init) (defScope s_BadFraction_init) .none ikV_BadFraction idc_BadFraction ipm_BadFraction ian_BadFraction icd_BadFraction ict_BadFraction), isl_BadFraction⟩)
    (ic_BadFraction : PySem.W.codeIn K icd_BadFraction "BadFraction.__init__" = true)
    (ik_BadFraction : PySem.W.keepIn K (.ref I_BadFraction) = true)
    (cl_BadFraction : PySem.W.isClsIn K C_BadFraction = true)
    (hn_BadFraction : PySem.W.specialIn K (.builtin "object.__class__") "__get__" = some (some (.builtin "getset_descriptor.__get__")))
    (ht_BadFraction : PySem.W.takesIn K (.builtin "object.__class__") = some true)
    (gc_BadDigits : PySem.W.nsIn K mainGlobals "BadDigits" = some (some (.ref C_BadDigits)))
    (gc_BadNumber : PySem.W.nsIn K mainGlobals "BadNumber" = some (some (.ref C_BadNumber)))
    (gc_BadPaper : PySem.W.nsIn K mainGlobals "BadPaper" = some (some (.ref C_BadPaper)))
    (gc_BadText : PySem.W.nsIn K mainGlobals "BadText" = some (some (.ref C_BadText)))
    (iC_BadText : PySem.W.findIn K (.ref C_BadText) "__init__" = some (some (.ref I_BadText)))
    (ini_BadText : PySem.W.excInitIn K C_BadText [.type "ValueError", .type "Exception", .type "BaseException", .type "object"] "ValueError.__new__" = true)
    (ov_BadText : PySem.W.excOver K C_BadText [.type "ValueError", .type "Exception", .type "BaseException", .type "object"] = true)
    (hd_BadText : PySem.W.hasDictIn K C_BadText = true)
    (sa_BadText : PySem.W.findIn K (.ref C_BadText) "__setattr__" = some (some (.builtin "object.__setattr__")))
    (ex_BadText : PySem.W.subIn K (.ref C_BadText) (.type "BaseException") = some true)
    (ty_BadText : PySem.W.typeIn K (.ref C_BadText) = some (.type "type"))
    (kp_BadText : PySem.W.keepIn K (.ref C_BadText) = true)
    (tk_BadText : PySem.W.takerIn K C_BadText "place" = some none)
    (no_BadText : PySem.W.findIn K (.ref C_BadText) "place" = some none)
    (tI_BadText : PySem.W.typeIn K (.ref I_BadText) = some (.type "function"))
    (ga_BadText : PySem.W.findIn K (.ref C_BadText) "__getattribute__" = some (some (.builtin "BaseException.__getattribute__")))
    (gg_BadText : PySem.W.findIn K (.ref C_BadText) "__getattr__" = some none)
    (ha_BadText : PySem.W.findIn K (.ref C_BadText) "__class__" = some (some (.builtin "object.__class__")))
    (mr_BadText : PySem.W.mroIn K C_BadText (.type "object") = some true)
    (il_BadText : K.lookup I_BadText = some ⟨ioc_BadText, iod_BadText, .func (PySem.W.fnOf "__init__" "BadText.__init__" (defArgs s_BadText_init) (defBody s_BadText_init) (defScope s_BadText_init) .none ikV_BadText idc_BadText ipm_BadText ian_BadText icd_BadText ict_BadText), isl_BadText⟩)
    (ic_BadText : PySem.W.codeIn K icd_BadText "BadText.__init__" = true)
    (ik_BadText : PySem.W.keepIn K (.ref I_BadText) = true)
    (cl_BadText : PySem.W.isClsIn K C_BadText = true)
    (hn_BadText : PySem.W.specialIn K (.builtin "object.__class__") "__get__" = some (some (.builtin "getset_descriptor.__get__")))
    (ht_BadText : PySem.W.takesIn K (.builtin "object.__class__") = some true)
    (gc_TooGreat : PySem.W.nsIn K mainGlobals "TooGreat" = some (some (.ref C_TooGreat)))
    (iC_TooGreat : PySem.W.findIn K (.ref C_TooGreat) "__init__" = some (some (.ref I_TooGreat)))
    (ini_TooGreat : PySem.W.excInitIn K C_TooGreat [.type "OverflowError", .type "ArithmeticError", .type "Exception", .type "BaseException", .type "object"] "OverflowError.__new__" = true)
    (ov_TooGreat : PySem.W.excOver K C_TooGreat [.type "OverflowError", .type "ArithmeticError", .type "Exception", .type "BaseException", .type "object"] = true)
    (hd_TooGreat : PySem.W.hasDictIn K C_TooGreat = true)
    (sa_TooGreat : PySem.W.findIn K (.ref C_TooGreat) "__setattr__" = some (some (.builtin "object.__setattr__")))
    (ex_TooGreat : PySem.W.subIn K (.ref C_TooGreat) (.type "BaseException") = some true)
    (ty_TooGreat : PySem.W.typeIn K (.ref C_TooGreat) = some (.type "type"))
    (kp_TooGreat : PySem.W.keepIn K (.ref C_TooGreat) = true)
    (tk_TooGreat : PySem.W.takerIn K C_TooGreat "most" = some none)
    (no_TooGreat : PySem.W.findIn K (.ref C_TooGreat) "most" = some none)
    (tI_TooGreat : PySem.W.typeIn K (.ref I_TooGreat) = some (.type "function"))
    (ga_TooGreat : PySem.W.findIn K (.ref C_TooGreat) "__getattribute__" = some (some (.builtin "BaseException.__getattribute__")))
    (gg_TooGreat : PySem.W.findIn K (.ref C_TooGreat) "__getattr__" = some none)
    (ha_TooGreat : PySem.W.findIn K (.ref C_TooGreat) "__class__" = some (some (.builtin "object.__class__")))
    (mr_TooGreat : PySem.W.mroIn K C_TooGreat (.type "object") = some true)
    (il_TooGreat : K.lookup I_TooGreat = some ⟨ioc_TooGreat, iod_TooGreat, .func (PySem.W.fnOf "__init__" "TooGreat.__init__" (defArgs s_TooGreat_init) (defBody s_TooGreat_init) (defScope s_TooGreat_init) .none ikV_TooGreat idc_TooGreat ipm_TooGreat ian_TooGreat icd_TooGreat ict_TooGreat), isl_TooGreat⟩)
    (ic_TooGreat : PySem.W.codeIn K icd_TooGreat "TooGreat.__init__" = true)
    (ik_TooGreat : PySem.W.keepIn K (.ref I_TooGreat) = true)
    (cl_TooGreat : PySem.W.isClsIn K C_TooGreat = true)
    (hn_TooGreat : PySem.W.specialIn K (.builtin "object.__class__") "__get__" = some (some (.builtin "getset_descriptor.__get__")))
    (ht_TooGreat : PySem.W.takesIn K (.builtin "object.__class__") = some true)
    (gc_Nothing : PySem.W.nsIn K mainGlobals "Nothing" = some (some (.ref C_Nothing)))
    (iC_Nothing : PySem.W.findIn K (.ref C_Nothing) "__init__" = some (some (.ref I_Nothing)))
    (ini_Nothing : PySem.W.excInitIn K C_Nothing [.type "LookupError", .type "Exception", .type "BaseException", .type "object"] "LookupError.__new__" = true)
    (ov_Nothing : PySem.W.excOver K C_Nothing [.type "LookupError", .type "Exception", .type "BaseException", .type "object"] = true)
    (hd_Nothing : PySem.W.hasDictIn K C_Nothing = true)
    (sa_Nothing : PySem.W.findIn K (.ref C_Nothing) "__setattr__" = some (some (.builtin "object.__setattr__")))
    (ex_Nothing : PySem.W.subIn K (.ref C_Nothing) (.type "BaseException") = some true)
    (ty_Nothing : PySem.W.typeIn K (.ref C_Nothing) = some (.type "type"))
    (kp_Nothing : PySem.W.keepIn K (.ref C_Nothing) = true)
    (tk_Nothing : PySem.W.takerIn K C_Nothing "value" = some none)
    (no_Nothing : PySem.W.findIn K (.ref C_Nothing) "value" = some none)
    (tI_Nothing : PySem.W.typeIn K (.ref I_Nothing) = some (.type "function"))
    (ga_Nothing : PySem.W.findIn K (.ref C_Nothing) "__getattribute__" = some (some (.builtin "BaseException.__getattribute__")))
    (gg_Nothing : PySem.W.findIn K (.ref C_Nothing) "__getattr__" = some none)
    (ha_Nothing : PySem.W.findIn K (.ref C_Nothing) "__class__" = some (some (.builtin "object.__class__")))
    (mr_Nothing : PySem.W.mroIn K C_Nothing (.type "object") = some true)
    (il_Nothing : K.lookup I_Nothing = some ⟨ioc_Nothing, iod_Nothing, .func (PySem.W.fnOf "__init__" "Nothing.__init__" (defArgs s_Nothing_init) (defBody s_Nothing_init) (defScope s_Nothing_init) .none ikV_Nothing idc_Nothing ipm_Nothing ian_Nothing icd_Nothing ict_Nothing), isl_Nothing⟩)
    (ic_Nothing : PySem.W.codeIn K icd_Nothing "Nothing.__init__" = true)
    (ik_Nothing : PySem.W.keepIn K (.ref I_Nothing) = true)
    (cl_Nothing : PySem.W.isClsIn K C_Nothing = true)
    (hn_Nothing : PySem.W.specialIn K (.builtin "object.__class__") "__get__" = some (some (.builtin "getset_descriptor.__get__")))
    (ht_Nothing : PySem.W.takesIn K (.builtin "object.__class__") = some true)
    (kit_BadBase_BadBase : PySem.W.kitOne K (.ref C_BadBase) (.ref C_BadBase) = some true)
    (kit_BadBase_BadDenominator : PySem.W.kitOne K (.ref C_BadBase) (.ref C_BadDenominator) = some false)
    (kit_BadBase_BadFraction : PySem.W.kitOne K (.ref C_BadBase) (.ref C_BadFraction) = some false)
    (kit_BadBase_BadDigits : PySem.W.kitOne K (.ref C_BadBase) (.ref C_BadDigits) = some false)
    (kit_BadBase_BadNumber : PySem.W.kitOne K (.ref C_BadBase) (.ref C_BadNumber) = some false)
    (kit_BadBase_BadPaper : PySem.W.kitOne K (.ref C_BadBase) (.ref C_BadPaper) = some false)
    (kit_BadBase_BadText : PySem.W.kitOne K (.ref C_BadBase) (.ref C_BadText) = some false)
    (kit_BadBase_TooGreat : PySem.W.kitOne K (.ref C_BadBase) (.ref C_TooGreat) = some false)
    (kit_BadBase_Nothing : PySem.W.kitOne K (.ref C_BadBase) (.ref C_Nothing) = some false)
    (exm_BadBase : PySem.W.exmAny K (.ref C_BadBase) [.ref C_WheelError, .ref C_Nothing, .ref C_TooGreat] = some true)
    (kit_BadFraction_BadBase : PySem.W.kitOne K (.ref C_BadFraction) (.ref C_BadBase) = some false)
    (kit_BadFraction_BadDenominator : PySem.W.kitOne K (.ref C_BadFraction) (.ref C_BadDenominator) = some false)
    (kit_BadFraction_BadFraction : PySem.W.kitOne K (.ref C_BadFraction) (.ref C_BadFraction) = some true)
    (kit_BadFraction_BadDigits : PySem.W.kitOne K (.ref C_BadFraction) (.ref C_BadDigits) = some false)
    (kit_BadFraction_BadNumber : PySem.W.kitOne K (.ref C_BadFraction) (.ref C_BadNumber) = some false)
    (kit_BadFraction_BadPaper : PySem.W.kitOne K (.ref C_BadFraction) (.ref C_BadPaper) = some false)
    (kit_BadFraction_BadText : PySem.W.kitOne K (.ref C_BadFraction) (.ref C_BadText) = some false)
    (kit_BadFraction_TooGreat : PySem.W.kitOne K (.ref C_BadFraction) (.ref C_TooGreat) = some false)
    (kit_BadFraction_Nothing : PySem.W.kitOne K (.ref C_BadFraction) (.ref C_Nothing) = some false)
    (exm_BadFraction : PySem.W.exmAny K (.ref C_BadFraction) [.ref C_WheelError, .ref C_Nothing, .ref C_TooGreat] = some true)
    (kit_BadText_BadBase : PySem.W.kitOne K (.ref C_BadText) (.ref C_BadBase) = some false)
    (kit_BadText_BadDenominator : PySem.W.kitOne K (.ref C_BadText) (.ref C_BadDenominator) = some false)
    (kit_BadText_BadFraction : PySem.W.kitOne K (.ref C_BadText) (.ref C_BadFraction) = some false)
    (kit_BadText_BadDigits : PySem.W.kitOne K (.ref C_BadText) (.ref C_BadDigits) = some false)
    (kit_BadText_BadNumber : PySem.W.kitOne K (.ref C_BadText) (.ref C_BadNumber) = some false)
    (kit_BadText_BadPaper : PySem.W.kitOne K (.ref C_BadText) (.ref C_BadPaper) = some false)
    (kit_BadText_BadText : PySem.W.kitOne K (.ref C_BadText) (.ref C_BadText) = some true)
    (kit_BadText_TooGreat : PySem.W.kitOne K (.ref C_BadText) (.ref C_TooGreat) = some false)
    (kit_BadText_Nothing : PySem.W.kitOne K (.ref C_BadText) (.ref C_Nothing) = some false)
    (exm_BadText : PySem.W.exmAny K (.ref C_BadText) [.ref C_WheelError, .ref C_Nothing, .ref C_TooGreat] = some true)
    (kit_TooGreat_BadBase : PySem.W.kitOne K (.ref C_TooGreat) (.ref C_BadBase) = some false)
    (kit_TooGreat_BadDenominator : PySem.W.kitOne K (.ref C_TooGreat) (.ref C_BadDenominator) = some false)
    (kit_TooGreat_BadFraction : PySem.W.kitOne K (.ref C_TooGreat) (.ref C_BadFraction) = some false)
    (kit_TooGreat_BadDigits : PySem.W.kitOne K (.ref C_TooGreat) (.ref C_BadDigits) = some false)
    (kit_TooGreat_BadNumber : PySem.W.kitOne K (.ref C_TooGreat) (.ref C_BadNumber) = some false)
    (kit_TooGreat_BadPaper : PySem.W.kitOne K (.ref C_TooGreat) (.ref C_BadPaper) = some false)
    (kit_TooGreat_BadText : PySem.W.kitOne K (.ref C_TooGreat) (.ref C_BadText) = some false)
    (kit_TooGreat_TooGreat : PySem.W.kitOne K (.ref C_TooGreat) (.ref C_TooGreat) = some true)
    (kit_TooGreat_Nothing : PySem.W.kitOne K (.ref C_TooGreat) (.ref C_Nothing) = some false)
    (exm_TooGreat : PySem.W.exmAny K (.ref C_TooGreat) [.ref C_WheelError, .ref C_Nothing, .ref C_TooGreat] = some true)
    (kit_Nothing_BadBase : PySem.W.kitOne K (.ref C_Nothing) (.ref C_BadBase) = some false)
    (kit_Nothing_BadDenominator : PySem.W.kitOne K (.ref C_Nothing) (.ref C_BadDenominator) = some false)
    (kit_Nothing_BadFraction : PySem.W.kitOne K (.ref C_Nothing) (.ref C_BadFraction) = some false)
    (kit_Nothing_BadDigits : PySem.W.kitOne K (.ref C_Nothing) (.ref C_BadDigits) = some false)
    (kit_Nothing_BadNumber : PySem.W.kitOne K (.ref C_Nothing) (.ref C_BadNumber) = some false)
    (kit_Nothing_BadPaper : PySem.W.kitOne K (.ref C_Nothing) (.ref C_BadPaper) = some false)
    (kit_Nothing_BadText : PySem.W.kitOne K (.ref C_Nothing) (.ref C_BadText) = some false)
    (kit_Nothing_TooGreat : PySem.W.kitOne K (.ref C_Nothing) (.ref C_TooGreat) = some false)
    (kit_Nothing_Nothing : PySem.W.kitOne K (.ref C_Nothing) (.ref C_Nothing) = some true)
    (exm_Nothing : PySem.W.exmAny K (.ref C_Nothing) [.ref C_WheelError, .ref C_Nothing, .ref C_TooGreat] = some true)
    (ir_LookupError : PySem.W.findCls K (.type "LookupError") (.type "type") "__init__" = some (.val (.builtin "LookupError.__init__")))
    (ir_OverflowError : PySem.W.findCls K (.type "OverflowError") (.type "type") "__init__" = some (.val (.builtin "OverflowError.__init__")))
    (e_law_right : cd_law_right = .ref kk_law_right)
    (lk_law_right : K.lookup kk_law_right = some ⟨c1_law_right, d1_law_right, .fields vs_law_right, s1_law_right⟩)
    (tv_law_right : vs_law_right[11]? = some (.ref pp_law_right))
    (np_law_right : K.lookup pp_law_right = none)
    (e_law_hand_right : cd_law_hand_right = .ref kk_law_hand_right)
    (lk_law_hand_right : K.lookup kk_law_hand_right = some ⟨c1_law_hand_right, d1_law_hand_right, .fields vs_law_hand_right, s1_law_hand_right⟩)
    (tv_law_hand_right : vs_law_hand_right[11]? = some (.ref pp_law_hand_right))
    (np_law_hand_right : K.lookup pp_law_hand_right = none)
    (ne_law_right_law_hand_right : pp_law_right ≠ pp_law_hand_right)
    (zc_MOST_BASE : PySem.W.nsIn K mainGlobals "MOST_BASE" = some (some (.int 1000 t_MOST_BASE)))
    (zc_MOST_DENOMINATOR : PySem.W.nsIn K mainGlobals "MOST_DENOMINATOR" = some (some (.int 5000 t_MOST_DENOMINATOR)))
    (zc_MOST_DIGITS : PySem.W.nsIn K mainGlobals "MOST_DIGITS" = some (some (.int 400 t_MOST_DIGITS)))
    (zc_MOST_LENGTH : PySem.W.nsIn K mainGlobals "MOST_LENGTH" = some (some (.int 40 t_MOST_LENGTH)))
    : ∃ (fd : FuncData) (cs : List (Addr × Addr)) (sp : Sp), (∀ p ∈ cs, (∃ y ∈ (["_law_right", "_law_hand_right"] : List Str), PySem.W.tabIn K y = some p) ∧ K.lookup p.2 = none) ∧ (∀ (s : Shared) (v : Value), BindsTo s fd ⟨[v], []⟩ [("script", v)]) ∧
      (∀ (H : Hp) (a : Addr) (ns : List Int), ns.length ≤ 63 → (∀ p ∈ cs, H p.2 = some (.tbl #[])) → SqL K H a (ns.map V.int) → sp [.ref a] H (fun v _ => v = .bl true) fun _ _ _ => False) ∧
      ∀ base : Heap, K.In base → base.Ns mainGlobals mg → (∀ p ∈ cs, LamX.TabB base mg p.1 p.2) → FnG l.prog w K mg base CX0 12 fa fd ["script"] sp := by
  obtain ⟨T, hTT⟩ : ∃ T : Txt K mg, T = {
    d_is_integer := Dn.of X G (fun us hl => match us, hl with | [_], _ => rfl) a_is_integer l_is_integer c_is_integer k_is_integer
    d_is_within := Dn.of X G (fun us hl => match us, hl with | [_, _, _], _ => rfl) a_is_within l_is_within c_is_within k_is_within
    d_need_base := Dn.of X G (fun us hl => match us, hl with | [_], _ => rfl) a_need_base l_need_base c_need_base k_need_base
    d_need_denominator := Dn.of X G (fun us hl => match us, hl with | [_], _ => rfl) a_need_denominator l_need_denominator c_need_denominator k_need_denominator
    d_need_fraction := Dn.of X G (fun us hl => match us, hl with | [_], _ => rfl) a_need_fraction l_need_fraction c_need_fraction k_need_fraction
    d_pure_part := Dn.of X G (fun us hl => match us, hl with | [_, _], _ => rfl) a_pure_part l_pure_part c_pure_part k_pure_part
    d_period := Dn.of X G (fun us hl => match us, hl with | [_, _], _ => rfl) a_period l_period c_period k_period
    d_head_size := Dn.of X G (fun us hl => match us, hl with | [_, _], _ => rfl) a_head_size l_head_size c_head_size k_head_size
    d_power := Dn.of X G (fun us hl => match us, hl with | [_, _], _ => rfl) a_power l_power c_power k_power
    d_are_digits := Dn.of X G (fun us hl => match us, hl with | [_, _, _], _ => rfl) a_are_digits l_are_digits c_are_digits k_are_digits
    d_need_digits := Dn.of X G (fun us hl => match us, hl with | [_, _], _ => rfl) a_need_digits l_need_digits c_need_digits k_need_digits
    d_number_of := Dn.of X G (fun us hl => match us, hl with | [_, _], _ => rfl) a_number_of l_number_of c_number_of k_number_of
    d_divided := Dn.of X G (fun us hl => match us, hl with | [_, _, _, _], _ => rfl) a_divided l_divided c_divided k_divided
    d_expansion := Dn.of X G (fun us hl => match us, hl with | [_, _], _ => rfl) a_expansion l_expansion c_expansion k_expansion
    d_fraction_of := Dn.of X G (fun us hl => match us, hl with | [_, _, _], _ => rfl) a_fraction_of l_fraction_of c_fraction_of k_fraction_of
    d_need_string := Dn.of X G (fun us hl => match us, hl with | [_], _ => rfl) a_need_string l_need_string c_need_string k_need_string
    d_run_size := Dn.of X G (fun us hl => match us, hl with | [_], _ => rfl) a_run_size l_run_size c_run_size k_run_size
    d_integer_in := Dn.of X G (fun us hl => match us, hl with | [_], _ => rfl) a_integer_in l_integer_in c_integer_in k_integer_in
    d_fraction_text := Dn.of X G (fun us hl => match us, hl with | [_], _ => rfl) a_fraction_text l_fraction_text c_fraction_text k_fraction_text
    d_read_fraction := Dn.of X G (fun us hl => match us, hl with | [_], _ => rfl) a_read_fraction l_read_fraction c_read_fraction k_read_fraction
    d_expansion_text := Dn.of X G (fun us hl => match us, hl with | [_, _], _ => rfl) a_expansion_text l_expansion_text c_expansion_text k_expansion_text
    d_digits_in := Dn.of X G (fun us hl => match us, hl with | [_, _], _ => rfl) a_digits_in l_digits_in c_digits_in k_digits_in
    d_need_word := Dn.of X G (fun us hl => match us, hl with | [_, _, _], _ => rfl) a_need_word l_need_word c_need_word k_need_word
    d_read_expansion := Dn.of X G (fun us hl => match us, hl with | [_, _], _ => rfl) a_read_expansion l_read_expansion c_read_expansion k_read_expansion
    d_law_begun := Dn.of X G (fun us hl => match us, hl with | [_], _ => rfl) a_law_begun l_law_begun c_law_begun k_law_begun
    d_law_draw := Dn.of X G (fun us hl => match us, hl with | [_, _], _ => rfl) a_law_draw l_law_draw c_law_draw k_law_draw
    d_law_of := Dn.of X G (fun us hl => match us, hl with | [_, _], _ => rfl) a_law_of l_law_of c_law_of k_law_of
    d_law_divisor := Dn.of X G (fun us hl => match us, hl with | [_, _], _ => rfl) a_law_divisor l_law_divisor c_law_divisor k_law_divisor
    d_law_part := Dn.of X G (fun us hl => match us, hl with | [_, _], _ => rfl) a_law_part l_law_part c_law_part k_law_part
    d_law_ring := Dn.of X G (fun us hl => match us, hl with | [_, _], _ => rfl) a_law_ring l_law_ring c_law_ring k_law_ring
    d_law_spread := Dn.of X G (fun us hl => match us, hl with | [_, _], _ => rfl) a_law_spread l_law_spread c_law_spread k_law_spread
    d_law_worth := Dn.of X G (fun us hl => match us, hl with | [_, _], _ => rfl) a_law_worth l_law_worth c_law_worth k_law_worth
    d_law_power := Dn.of X G (fun us hl => match us, hl with | [_, _], _ => rfl) a_law_power l_law_power c_law_power k_law_power
    d_law_word := Dn.of X G (fun us hl => match us, hl with | [_], _ => rfl) a_law_word l_law_word c_law_word k_law_word
    d_law_outcome := Dn.of X G (fun us hl => match us, hl with | [_], _ => rfl) a_law_outcome l_law_outcome c_law_outcome k_law_outcome
    d_law_is_figure := Dn.of X G (fun us hl => match us, hl with | [_], _ => rfl) a_law_is_figure l_law_is_figure c_law_is_figure k_law_is_figure
    d_law_is_number := Dn.of X G (fun us hl => match us, hl with | [_], _ => rfl) a_law_is_number l_law_is_number c_law_is_number k_law_is_number
    d_law_fraction_due := Dn.of X G (fun us hl => match us, hl with | [_], _ => rfl) a_law_fraction_due l_law_fraction_due c_law_fraction_due k_law_fraction_due
    d_law_words_read := Dn.of X G (fun us hl => match us, hl with | [_, _], _ => rfl) a_law_words_read l_law_words_read c_law_words_read k_law_words_read
    d_law_expansion_due := Dn.of X G (fun us hl => match us, hl with | [_, _], _ => rfl) a_law_expansion_due l_law_expansion_due c_law_expansion_due k_law_expansion_due
    d_law_bent := Dn.of X G (fun us hl => match us, hl with | [_, _], _ => rfl) a_law_bent l_law_bent c_law_bent k_law_bent
    d_law_right := Dn.of X G (fun us hl => match us, hl with | [_, _], _ => rfl) a_law_right l_law_right c_law_right k_law_right
    d_law_hand_right := Dn.of X G (fun us hl => match us, hl with | [], _ => rfl) a_law_hand_right l_law_hand_right c_law_hand_right k_law_hand_right
    d_law := Dn.of X G (fun us hl => match us, hl with | [_], _ => rfl) a_law l_law c_law k_law
    b_isinstance := PySem.W.mg_none_of X G zb_isinstance
    b_int := PySem.W.mg_none_of X G zb_int
    b_bool := PySem.W.mg_none_of X G zb_bool
    b_str := PySem.W.mg_none_of X G zb_str
    b_len := PySem.W.mg_none_of X G zb_len
    b_range := PySem.W.mg_none_of X G zb_range
    b_tuple := PySem.W.mg_none_of X G zb_tuple
    b_list := PySem.W.mg_none_of X G zb_list
    b_min := PySem.W.mg_none_of X G zb_min
    b_repr := PySem.W.mg_none_of X G zb_repr
    b_enumerate := PySem.W.mg_none_of X G zb_enumerate
    b_all := PySem.W.mg_none_of X G zb_all
    b_OverflowError := PySem.W.mg_none_of X G zb_OverflowError
    b_LookupError := PySem.W.mg_none_of X G zb_LookupError
    b_gcd := PySem.W.mg_of X G zb_gcd
    C_WheelError := C_WheelError
    g_WheelError := PySem.W.mg_of X G gc_WheelError
    r_WheelError := ⟨rd_WheelError, rg_WheelError⟩
    i_WheelError := ri_WheelError
    C_BadBase := C_BadBase
    g_BadBase := PySem.W.mg_of X G gc_BadBase
    I_BadBase := I_BadBase
    T_BadBase := ⟨PySem.F.excBase_ValueError, PySem.F.store_ValueError, ini_BadBase, ov_BadBase, hd_BadBase, sa_BadBase, ex_BadBase, ty_BadBase, kp_BadBase, tk_BadBase, no_BadBase, iC_BadBase, tI_BadBase, ga_BadBase, gg_BadBase, ha_BadBase, mr_BadBase⟩
    fd_BadBase := _
    F_BadBase := fun_mk il_BadBase ic_BadBase ik_BadBase
    b_BadBase := .all (fun us hl => match us, hl with | [_, _], _ => rfl)
    is_BadBase := ⟨cl_BadBase, ga_BadBase, gg_BadBase, ex_BadBase, ha_BadBase, hn_BadBase, ht_BadBase, mr_BadBase⟩
    C_BadDenominator := C_BadDenominator
    g_BadDenominator := PySem.W.mg_of X G gc_BadDenominator
    C_BadFraction := C_BadFraction
    g_BadFraction := PySem.W.mg_of X G gc_BadFraction
    I_BadFraction := I_BadFraction
    T_BadFraction := ⟨PySem.F.excBase_ValueError, PySem.F.store_ValueError, ini_BadFraction, ov_BadFraction, hd_BadFraction, sa_BadFraction, ex_BadFraction, ty_BadFraction, kp_BadFraction, tk_BadFraction, no_BadFraction, iC_BadFraction, tI_BadFraction, ga_BadFraction, gg_BadFraction, ha_BadFraction, mr_BadFraction⟩
    fd_BadFraction := _
    F_BadFraction := fun_mk il_BadFraction ic_BadFraction ik_BadFraction
    b_BadFraction := .all (fun us hl => match us, hl with | [_, _], _ => rfl)
    is_BadFraction := ⟨cl_BadFraction, ga_BadFraction, gg_BadFraction, ex_BadFraction, ha_BadFraction, hn_BadFraction, ht_BadFraction, mr_BadFraction⟩
    C_BadDigits := C_BadDigits
    g_BadDigits := PySem.W.mg_of X G gc_BadDigits
    C_BadNumber := C_BadNumber
    g_BadNumber := PySem.W.mg_of X G gc_BadNumber
    C_BadPaper := C_BadPaper
    g_BadPaper := PySem.W.mg_of X G gc_BadPaper
    C_BadText := C_BadText
    g_BadText := PySem.W.mg_of X G gc_BadText
    I_BadText := I_BadText
    T_BadText := ⟨PySem.F.excBase_ValueError, PySem.F.store_ValueError, ini_BadText, ov_BadText, hd_BadText, sa_BadText, ex_BadText, ty_BadText, kp_BadText, tk_BadText, no_BadText, iC_BadText, tI_BadText, ga_BadText, gg_BadText, ha_BadText, mr_BadText⟩
    fd_BadText := _
    F_BadText := fun_mk il_BadText ic_BadText ik_BadText
    b_BadText := .all (fun us hl => match us, hl with | [_, _], _ => rfl)
    is_BadText := ⟨cl_BadText, ga_BadText, gg_BadText, ex_BadText, ha_BadText, hn_BadText, ht_BadText, mr_BadText⟩
    C_TooGreat := C_TooGreat
    g_TooGreat := PySem.W.mg_of X G gc_TooGreat
    I_TooGreat := I_TooGreat
    T_TooGreat := ⟨PySem.F.excBase_OverflowError, PySem.F.store_OverflowError, ini_TooGreat, ov_TooGreat, hd_TooGreat, sa_TooGreat, ex_TooGreat, ty_TooGreat, kp_TooGreat, tk_TooGreat, no_TooGreat, iC_TooGreat, tI_TooGreat, ga_TooGreat, gg_TooGreat, ha_TooGreat, mr_TooGreat⟩
    fd_TooGreat := _
    F_TooGreat := fun_mk il_TooGreat ic_TooGreat ik_TooGreat
    b_TooGreat := .all (fun us hl => match us, hl with | [_, _], _ => rfl)
    is_TooGreat := ⟨cl_TooGreat, ga_TooGreat, gg_TooGreat, ex_TooGreat, ha_TooGreat, hn_TooGreat, ht_TooGreat, mr_TooGreat⟩
    C_Nothing := C_Nothing
    g_Nothing := PySem.W.mg_of X G gc_Nothing
    I_Nothing := I_Nothing
    T_Nothing := ⟨PySem.F.excBase_LookupError, PySem.F.store_LookupError, ini_Nothing, ov_Nothing, hd_Nothing, sa_Nothing, ex_Nothing, ty_Nothing, kp_Nothing, tk_Nothing, no_Nothing, iC_Nothing, tI_Nothing, ga_Nothing, gg_Nothing, ha_Nothing, mr_Nothing⟩
    fd_Nothing := _
    F_Nothing := fun_mk il_Nothing ic_Nothing ik_Nothing
    b_Nothing := .all (fun us hl => match us, hl with | [_, _], _ => rfl)
    is_Nothing := ⟨cl_Nothing, ga_Nothing, gg_Nothing, ex_Nothing, ha_Nothing, hn_Nothing, ht_Nothing, mr_Nothing⟩
    kit_BadBase_BadBase := kit_BadBase_BadBase
    kit_BadBase_BadDenominator := kit_BadBase_BadDenominator
    kit_BadBase_BadFraction := kit_BadBase_BadFraction
    kit_BadBase_BadDigits := kit_BadBase_BadDigits
    kit_BadBase_BadNumber := kit_BadBase_BadNumber
    kit_BadBase_BadPaper := kit_BadBase_BadPaper
    kit_BadBase_BadText := kit_BadBase_BadText
    kit_BadBase_TooGreat := kit_BadBase_TooGreat
    kit_BadBase_Nothing := kit_BadBase_Nothing
    exm_BadBase := exm_BadBase
    kit_BadFraction_BadBase := kit_BadFraction_BadBase
    kit_BadFraction_BadDenominator := kit_BadFraction_BadDenominator
    kit_BadFraction_BadFraction := kit_BadFraction_BadFraction
    kit_BadFraction_BadDigits := kit_BadFraction_BadDigits
    kit_BadFraction_BadNumber := kit_BadFraction_BadNumber
    kit_BadFraction_BadPaper := kit_BadFraction_BadPaper
    kit_BadFraction_BadText := kit_BadFraction_BadText
    kit_BadFraction_TooGreat := kit_BadFraction_TooGreat
    kit_BadFraction_Nothing := kit_BadFraction_Nothing
    exm_BadFraction := exm_BadFraction
    kit_BadText_BadBase := kit_BadText_BadBase
    kit_BadText_BadDenominator := kit_BadText_BadDenominator
    kit_BadText_BadFraction := kit_BadText_BadFraction
    kit_BadText_BadDigits := kit_BadText_BadDigits
    kit_BadText_BadNumber := kit_BadText_BadNumber
    kit_BadText_BadPaper := kit_BadText_BadPaper
    kit_BadText_BadText := kit_BadText_BadText
    kit_BadText_TooGreat := kit_BadText_TooGreat
    kit_BadText_Nothing := kit_BadText_Nothing
    exm_BadText := exm_BadText
    kit_TooGreat_BadBase := kit_TooGreat_BadBase
    kit_TooGreat_BadDenominator := kit_TooGreat_BadDenominator
    kit_TooGreat_BadFraction := kit_TooGreat_BadFraction
    kit_TooGreat_BadDigits := kit_TooGreat_BadDigits
    kit_TooGreat_BadNumber := kit_TooGreat_BadNumber
    kit_TooGreat_BadPaper := kit_TooGreat_BadPaper
    kit_TooGreat_BadText := kit_TooGreat_BadText
    kit_TooGreat_TooGreat := kit_TooGreat_TooGreat
    kit_TooGreat_Nothing := kit_TooGreat_Nothing
    exm_TooGreat := exm_TooGreat
    kit_Nothing_BadBase := kit_Nothing_BadBase
    kit_Nothing_BadDenominator := kit_Nothing_BadDenominator
    kit_Nothing_BadFraction := kit_Nothing_BadFraction
    kit_Nothing_BadDigits := kit_Nothing_BadDigits
    kit_Nothing_BadNumber := kit_Nothing_BadNumber
    kit_Nothing_BadPaper := kit_Nothing_BadPaper
    kit_Nothing_BadText := kit_Nothing_BadText
    kit_Nothing_TooGreat := kit_Nothing_TooGreat
    kit_Nothing_Nothing := kit_Nothing_Nothing
    exm_Nothing := exm_Nothing
    i_LookupError := ir_LookupError
    i_OverflowError := ir_OverflowError
    k_law_right := kk_law_right
    p_law_right := pp_law_right
    e_law_right := e_law_right
    k_law_hand_right := kk_law_hand_right
    p_law_hand_right := pp_law_hand_right
    e_law_hand_right := e_law_hand_right
    ne_law_right_law_hand_right := ne_law_right_law_hand_right
    t_MOST_BASE := t_MOST_BASE
    c_MOST_BASE := PySem.W.mg_of X G zc_MOST_BASE
    t_MOST_DENOMINATOR := t_MOST_DENOMINATOR
    c_MOST_DENOMINATOR := PySem.W.mg_of X G zc_MOST_DENOMINATOR
    t_MOST_DIGITS := t_MOST_DIGITS
    c_MOST_DIGITS := PySem.W.mg_of X G zc_MOST_DIGITS
    t_MOST_LENGTH := t_MOST_LENGTH
    c_MOST_LENGTH := PySem.W.mg_of X G zc_MOST_LENGTH
  } := ⟨_, rfl⟩
  have e := hfa.symm.trans T.d_law.m
  cases e
  refine ⟨T.d_law.fd, [(T.k_law_right, T.p_law_right), (T.k_law_hand_right, T.p_law_hand_right)], (sp_law T), ?_, fun s v => .of_eq (T.d_law.e [v] rfl), ?_, fun base _ _ hB => okG_law T ⟨hB (T.k_law_right, T.p_law_right) (by simp), hB (T.k_law_hand_right, T.p_law_hand_right) (by simp)⟩⟩
  · intro p hp
    simp only [List.mem_cons, List.not_mem_nil, or_false] at hp
    subst hTT
    rcases hp with rfl | rfl
    · exact ⟨⟨"_law_right", by simp, tab_mk a_law_right l_law_right e_law_right lk_law_right tv_law_right⟩, np_law_right⟩
    · exact ⟨⟨"_law_hand_right", by simp, tab_mk a_law_hand_right l_law_hand_right e_law_hand_right lk_law_hand_right tv_law_hand_right⟩, np_law_hand_right⟩
  · intro H a ns hl hT hS
    refine ⟨a, ns, rfl, tabs0 fun p hp => ?_, hS, hl, fun _ => rfl⟩
    unfold tl at hp
    simp only [List.mem_cons, List.not_mem_nil, or_false] at hp
    rcases hp with rfl | rfl
    · exact hT (T.k_law_right, T.p_law_right) (by simp)
    · exact hT (T.k_law_hand_right, T.p_law_hand_right) (by simp)
end Wn
open PySem PySem.W PyProof.Rows
set_option maxRecDepth 100000 in
set_option maxHeartbeats 0 in
theorem PySem.Challenge.cw_wheelnines_k19_texts_refused_holds : PySem.Challenge.rw_wheelnines_k19_texts_refused.Holds := by
  w_on; o_law; k_head; (case hw => w_witness2)
  k_fill
  refine Wn.walkGT (l := PySem.Challenge.rw_wheelnines_k19_texts_refused) (n := 63) (k := 12) (x := "script") (xs := ["_law_right", "_law_hand_right"]) rfl (by decide) rfl ⟨rfl, by decide, by decide⟩ (by decide +kernel) (fun w h Y => by first | exact PySem.W.km_in_of Y | exact PySem.W.kIn_of Y) ?F
  case F =>
    intro w mg fa h KX G hmg
    refine' Wn.all_mk KX G hmg ?a_is_integer ?l_is_integer ?c_is_integer ?k_is_integer ?a_is_within ?l_is_within ?c_is_within ?k_is_within ?a_need_base ?l_need_base ?c_need_base ?k_need_base ?a_need_denominator ?l_need_denominator ?c_need_denominator ?k_need_denominator ?a_need_fraction ?l_need_fraction ?c_need_fraction ?k_need_fraction ?a_pure_part ?l_pure_part ?c_pure_part ?k_pure_part ?a_period ?l_period ?c_period ?k_period ?a_head_size ?l_head_size ?c_head_size ?k_head_size ?a_power ?l_power ?c_power ?k_power ?a_are_digits ?l_are_digits ?c_are_digits ?k_are_digits ?a_need_digits ?l_need_digits ?c_need_digits ?k_need_digits ?a_number_of ?l_number_of ?c_number_of ?k_number_of ?a_divided ?l_divided ?c_divided ?k_divided ?a_expansion ?l_expansion ?c_expansion ?k_expansion ?a_fraction_of ?l_fraction_of ?c_fraction_of ?k_fraction_of ?a_need_string ?l_need_string ?c_need_string ?k_need_string ?a_run_size ?l_run_size ?c_run_size ?k_run_size ?a_integer_in ?l_integer_in ?c_integer_in ?k_integer_in ?a_fraction_text ?l_fraction_text ?c_fraction_text ?k_fraction_text ?a_read_fraction ?l_read_fraction ?c_read_fraction ?k_read_fraction ?a_expansion_text ?l_expansion_text ?c_expansion_text ?k_expansion_text ?a_digits_in ?l_digits_in ?c_digits_in ?k_digits_in ?a_need_word ?l_need_word ?c_need_word ?k_need_word ?a_read_expansion ?l_read_expansion ?c_read_expansion ?k_read_expansion ?a_law_begun ?l_law_begun ?c_law_begun ?k_law_begun ?a_law_draw ?l_law_draw ?c_law_draw ?k_law_draw ?a_law_of ?l_law_of ?c_law_of ?k_law_of ?a_law_divisor ?l_law_divisor ?c_law_divisor ?k_law_divisor ?a_law_part ?l_law_part ?c_law_part ?k_law_part ?a_law_ring ?l_law_ring ?c_law_ring ?k_law_ring ?a_law_spread ?l_law_spread ?c_law_spread ?k_law_spread ?a_law_worth ?l_law_worth ?c_law_worth ?k_law_worth ?a_law_power ?l_law_power ?c_law_power ?k_law_power ?a_law_word ?l_law_word ?c_law_word ?k_law_word ?a_law_outcome ?l_law_outcome ?c_law_outcome ?k_law_outcome ?a_law_is_figure ?l_law_is_figure ?c_law_is_figure ?k_law_is_figure ?a_law_is_number ?l_law_is_number ?c_law_is_number ?k_law_is_number ?a_law_fraction_due ?l_law_fraction_due ?c_law_fraction_due ?k_law_fraction_due ?a_law_words_read ?l_law_words_read ?c_law_words_read ?k_law_words_read ?a_law_expansion_due ?l_law_expansion_due ?c_law_expansion_due ?k_law_expansion_due ?a_law_bent ?l_law_bent ?c_law_bent ?k_law_bent ?a_law_right ?l_law_right ?c_law_right ?k_law_right ?a_law_hand_right ?l_law_hand_right ?c_law_hand_right ?k_law_hand_right ?a_law ?l_law ?c_law ?k_law ?zb_isinstance ?zb_int ?zb_bool ?zb_str ?zb_len ?zb_range ?zb_tuple ?zb_list ?zb_min ?zb_repr ?zb_enumerate ?zb_all ?zb_OverflowError ?zb_LookupError ?zb_gcd ?gc_WheelError ?rd_WheelError ?rg_WheelError ?ri_WheelError ?gc_BadBase ?iC_BadBase ?ini_BadBase ?ov_BadBase ?hd_BadBase ?sa_BadBase ?ex_BadBase ?ty_BadBase ?kp_BadBase ?tk_BadBase ?no_BadBase ?tI_BadBase ?ga_BadBase ?gg_BadBase ?ha_BadBase ?mr_BadBase ?il_BadBase ?ic_BadBase ?ik_BadBase ?cl_BadBase ?hn_BadBase ?ht_BadBase ?gc_BadDenominator ?gc_BadFraction ?iC_BadFraction ?ini_BadFraction ?ov_BadFraction ?hd_BadFraction ?sa_BadFraction ?ex_BadFraction ?ty_BadFraction ?kp_BadFraction ?tk_BadFraction ?no_BadFraction ?tI_BadFraction ?ga_BadFraction ?gg_BadFraction ?ha_BadFraction ?mr_BadFraction ?il_BadFraction ?ic_BadFraction ?ik_BadFraction ?cl_BadFraction ?hn_BadFraction ?ht_BadFraction ?gc_BadDigits ?gc_BadNumber ?gc_BadPaper ?gc_BadText ?iC_BadText ?ini_BadText ?ov_BadText ?hd_BadText ?sa_BadText ?ex_BadText ?ty_BadText ?kp_BadText ?tk_BadText ?no_BadText ?tI_BadText ?ga_BadText ?gg_BadText ?ha_BadText ?mr_BadText ?il_BadText ?ic_BadText ?ik_BadText ?cl_BadText ?hn_BadText ?ht_BadText ?gc_TooGreat ?iC_TooGreat ?ini_TooGreat ?ov_TooGreat ?hd_TooGreat ?sa_TooGreat ?ex_TooGreat ?ty_TooGreat ?kp_TooGreat ?tk_TooGreat ?no_TooGreat ?tI_TooGreat ?ga_TooGreat ?gg_TooGreat ?ha_TooGreat ?mr_TooGreat ?il_TooGreat ?ic_TooGreat ?ik_TooGreat ?cl_TooGreat ?hn_TooGreat ?ht_TooGreat ?gc_Nothing ?iC_Nothing ?ini_Nothing ?ov_Nothing ?hd_Nothing ?sa_Nothing ?ex_Nothing ?ty_Nothing ?kp_Nothing ?tk_Nothing ?no_Nothing ?tI_Nothing ?ga_Nothing ?gg_Nothing ?ha_Nothing ?mr_Nothing ?il_Nothing ?ic_Nothing ?ik_Nothing ?cl_Nothing ?hn_Nothing ?ht_Nothing ?kit_BadBase_BadBase ?kit_BadBase_BadDenominator ?kit_BadBase_BadFraction ?kit_BadBase_BadDigits ?kit_BadBase_BadNumber ?kit_BadBase_BadPaper ?kit_BadBase_BadText ?kit_BadBase_TooGreat ?kit_BadBase_Nothing ?exm_BadBase ?kit_BadFraction_BadBase ?kit_BadFraction_BadDenominator ?kit_BadFraction_BadFraction ?kit_BadFraction_BadDigits ?kit_BadFraction_BadNumber ?kit_BadFraction_BadPaper ?kit_BadFraction_BadText ?kit_BadFraction_TooGreat ?kit_BadFraction_Nothing ?exm_BadFraction ?kit_BadText_BadBase ?kit_BadText_BadDenominator ?kit_BadText_BadFraction ?kit_BadText_BadDigits ?kit_BadText_BadNumber ?kit_BadText_BadPaper ?kit_BadText_BadText ?kit_BadText_TooGreat ?kit_BadText_Nothing ?exm_BadText ?kit_TooGreat_BadBase ?kit_TooGreat_BadDenominator ?kit_TooGreat_BadFraction ?kit_TooGreat_BadDigits ?kit_TooGreat_BadNumber ?kit_TooGreat_BadPaper ?kit_TooGreat_BadText ?kit_TooGreat_TooGreat ?kit_TooGreat_Nothing ?exm_TooGreat ?kit_Nothing_BadBase ?kit_Nothing_BadDenominator ?kit_Nothing_BadFraction ?kit_Nothing_BadDigits ?kit_Nothing_BadNumber ?kit_Nothing_BadPaper ?kit_Nothing_BadText ?kit_Nothing_TooGreat ?kit_Nothing_Nothing ?exm_Nothing ?ir_LookupError ?ir_OverflowError ?e_law_right ?lk_law_right ?tv_law_right ?np_law_right ?e_law_hand_right ?lk_law_hand_right ?tv_law_hand_right ?np_law_hand_right ?ne_law_right_law_hand_right ?zc_MOST_BASE ?zc_MOST_DENOMINATOR ?zc_MOST_DIGITS ?zc_MOST_LENGTH
    (case a_is_integer => k_is)
    (case l_is_integer => k_is)
    (case c_is_integer => k_is)
    (case k_is_integer => k_is)
    (case a_is_within => k_is)
    (case l_is_within => k_is)
    (case c_is_within => k_is)
    (case k_is_within => k_is)
    (case a_need_base => k_is)
    (case l_need_base => k_is)
    (case c_need_base => k_is)
    (case k_need_base => k_is)
    (case a_need_denominator => k_is)
    (case l_need_denominator => k_is)
    (case c_need_denominator => k_is)
    (case k_need_denominator => k_is)
    (case a_need_fraction => k_is)
    (case l_need_fraction => k_is)
    (case c_need_fraction => k_is)
    (case k_need_fraction => k_is)
    (case a_pure_part => k_is)
    (case l_pure_part => k_is)
    (case c_pure_part => k_is)
    (case k_pure_part => k_is)
    (case a_period => k_is)
    (case l_period => k_is)
    (case c_period => k_is)
    (case k_period => k_is)
    (case a_head_size => k_is)
    (case l_head_size => k_is)
    (case c_head_size => k_is)
    (case k_head_size => k_is)
    (case a_power => k_is)
    (case l_power => k_is)
    (case c_power => k_is)
    (case k_power => k_is)
    (case a_are_digits => k_is)
    (case l_are_digits => k_is)
    (case c_are_digits => k_is)
    (case k_are_digits => k_is)
    (case a_need_digits => k_is)
    (case l_need_digits => k_is)
    (case c_need_digits => k_is)
    (case k_need_digits => k_is)
    (case a_number_of => k_is)
    (case l_number_of => k_is)
    (case c_number_of => k_is)
    (case k_number_of => k_is)
    (case a_divided => k_is)
    (case l_divided => k_is)
    (case c_divided => k_is)
    (case k_divided => k_is)
    (case a_expansion => k_is)
    (case l_expansion => k_is)
    (case c_expansion => k_is)
    (case k_expansion => k_is)
    (case a_fraction_of => k_is)
    (case l_fraction_of => k_is)
    (case c_fraction_of => k_is)
    (case k_fraction_of => k_is)
    (case a_need_string => k_is)
    (case l_need_string => k_is)
    (case c_need_string => k_is)
    (case k_need_string => k_is)
    (case a_run_size => k_is)
    (case l_run_size => k_is)
    (case c_run_size => k_is)
    (case k_run_size => k_is)
    (case a_integer_in => k_is)
    (case l_integer_in => k_is)
    (case c_integer_in => k_is)
    (case k_integer_in => k_is)
    (case a_fraction_text => k_is)
    (case l_fraction_text => k_is)
    (case c_fraction_text => k_is)
    (case k_fraction_text => k_is)
    (case a_read_fraction => k_is)
    (case l_read_fraction => k_is)
    (case c_read_fraction => k_is)
    (case k_read_fraction => k_is)
    (case a_expansion_text => k_is)
    (case l_expansion_text => k_is)
    (case c_expansion_text => k_is)
    (case k_expansion_text => k_is)
    (case a_digits_in => k_is)
    (case l_digits_in => k_is)
    (case c_digits_in => k_is)
    (case k_digits_in => k_is)
    (case a_need_word => k_is)
    (case l_need_word => k_is)
    (case c_need_word => k_is)
    (case k_need_word => k_is)
    (case a_read_expansion => k_is)
    (case l_read_expansion => k_is)
    (case c_read_expansion => k_is)
    (case k_read_expansion => k_is)
    (case a_law_begun => k_is)
    (case l_law_begun => k_is)
    (case c_law_begun => k_is)
    (case k_law_begun => k_is)
    (case a_law_draw => k_is)
    (case l_law_draw => k_is)
    (case c_law_draw => k_is)
    (case k_law_draw => k_is)
    (case a_law_of => k_is)
    (case l_law_of => k_is)
    (case c_law_of => k_is)
    (case k_law_of => k_is)
    (case a_law_divisor => k_is)
    (case l_law_divisor => k_is)
    (case c_law_divisor => k_is)
    (case k_law_divisor => k_is)
    (case a_law_part => k_is)
    (case l_law_part => k_is)
    (case c_law_part => k_is)
    (case k_law_part => k_is)
    (case a_law_ring => k_is)
    (case l_law_ring => k_is)
    (case c_law_ring => k_is)
    (case k_law_ring => k_is)
    (case a_law_spread => k_is)
    (case l_law_spread => k_is)
    (case c_law_spread => k_is)
    (case k_law_spread => k_is)
    (case a_law_worth => k_is)
    (case l_law_worth => k_is)
    (case c_law_worth => k_is)
    (case k_law_worth => k_is)
    (case a_law_power => k_is)
    (case l_law_power => k_is)
    (case c_law_power => k_is)
    (case k_law_power => k_is)
    (case a_law_word => k_is)
    (case l_law_word => k_is)
    (case c_law_word => k_is)
    (case k_law_word => k_is)
    (case a_law_outcome => k_is)
    (case l_law_outcome => k_is)
    (case c_law_outcome => k_is)
    (case k_law_outcome => k_is)
    (case a_law_is_figure => k_is)
    (case l_law_is_figure => k_is)
    (case c_law_is_figure => k_is)
    (case k_law_is_figure => k_is)
    (case a_law_is_number => k_is)
    (case l_law_is_number => k_is)
    (case c_law_is_number => k_is)
    (case k_law_is_number => k_is)
    (case a_law_fraction_due => k_is)
    (case l_law_fraction_due => k_is)
    (case c_law_fraction_due => k_is)
    (case k_law_fraction_due => k_is)
    (case a_law_words_read => k_is)
    (case l_law_words_read => k_is)
    (case c_law_words_read => k_is)
    (case k_law_words_read => k_is)
    (case a_law_expansion_due => k_is)
    (case l_law_expansion_due => k_is)
    (case c_law_expansion_due => k_is)
    (case k_law_expansion_due => k_is)
    (case a_law_bent => k_is)
    (case l_law_bent => k_is)
    (case c_law_bent => k_is)
    (case k_law_bent => k_is)
    (case a_law_right => k_is)
    (case l_law_right => k_is)
    (case c_law_right => k_is)
    (case k_law_right => k_is)
    (case a_law_hand_right => k_is)
    (case l_law_hand_right => k_is)
    (case c_law_hand_right => k_is)
    (case k_law_hand_right => k_is)
    (case a_law => k_is)
    (case l_law => k_is)
    (case c_law => k_is)
    (case k_law => k_is)
    (case zb_isinstance => k_is)
    (case zb_int => k_is)
    (case zb_bool => k_is)
    (case zb_str => k_is)
    (case zb_len => k_is)
    (case zb_range => k_is)
    (case zb_tuple => k_is)
    (case zb_list => k_is)
    (case zb_min => k_is)
    (case zb_repr => k_is)
    (case zb_enumerate => k_is)
    (case zb_all => k_is)
    (case zb_OverflowError => k_is)
    (case zb_LookupError => k_is)
    (case zb_gcd => k_is)
    (case gc_WheelError => k_is)
    (case rd_WheelError => k_is)
    (case rg_WheelError => k_is)
    (case ri_WheelError => k_is)
    (case gc_BadBase => k_is)
    (case iC_BadBase => k_is)
    (case ini_BadBase => kx_is)
    (case ov_BadBase => kx_is)
    (case hd_BadBase => k_is)
    (case sa_BadBase => k_is)
    (case ex_BadBase => k_is)
    (case ty_BadBase => k_is)
    (case kp_BadBase => k_is)
    (case tk_BadBase => k_is)
    (case no_BadBase => k_is)
    (case tI_BadBase => k_is)
    (case ga_BadBase => k_is)
    (case gg_BadBase => k_is)
    (case ha_BadBase => k_is)
    (case mr_BadBase => k_is)
    (case il_BadBase => k_is)
    (case ic_BadBase => k_is)
    (case ik_BadBase => k_is)
    (case cl_BadBase => k_is)
    (case hn_BadBase => k_is)
    (case ht_BadBase => k_is)
    (case gc_BadDenominator => k_is)
    (case gc_BadFraction => k_is)
    (case iC_BadFraction => k_is)
    (case ini_BadFraction => kx_is)
    (case ov_BadFraction => kx_is)
    (case hd_BadFraction => k_is)
    (case sa_BadFraction => k_is)
    (case ex_BadFraction => k_is)
    (case ty_BadFraction => k_is)
    (case kp_BadFraction => k_is)
    (case tk_BadFraction => k_is)
    (case no_BadFraction => k_is)
    (case tI_BadFraction => k_is)
    (case ga_BadFraction => k_is)
    (case gg_BadFraction => k_is)
    (case ha_BadFraction => k_is)
    (case mr_BadFraction => k_is)
    (case il_BadFraction => k_is)
    (case ic_BadFraction => k_is)
    (case ik_BadFraction => k_is)
    (case cl_BadFraction => k_is)
    (case hn_BadFraction => k_is)
    (case ht_BadFraction => k_is)
    (case gc_BadDigits => k_is)
    (case gc_BadNumber => k_is)
    (case gc_BadPaper => k_is)
    (case gc_BadText => k_is)
    (case iC_BadText => k_is)
    (case ini_BadText => kx_is)
    (case ov_BadText => kx_is)
    (case hd_BadText => k_is)
    (case sa_BadText => k_is)
    (case ex_BadText => k_is)
    (case ty_BadText => k_is)
    (case kp_BadText => k_is)
    (case tk_BadText => k_is)
    (case no_BadText => k_is)
    (case tI_BadText => k_is)
    (case ga_BadText => k_is)
    (case gg_BadText => k_is)
    (case ha_BadText => k_is)
    (case mr_BadText => k_is)
    (case il_BadText => k_is)
    (case ic_BadText => k_is)
    (case ik_BadText => k_is)
    (case cl_BadText => k_is)
    (case hn_BadText => k_is)
    (case ht_BadText => k_is)
    (case gc_TooGreat => k_is)
    (case iC_TooGreat => k_is)
    (case ini_TooGreat => kx_is)
    (case ov_TooGreat => kx_is)
    (case hd_TooGreat => k_is)
    (case sa_TooGreat => k_is)
    (case ex_TooGreat => k_is)
    (case ty_TooGreat => k_is)
    (case kp_TooGreat => k_is)
    (case tk_TooGreat => k_is)
    (case no_TooGreat => k_is)
    (case tI_TooGreat => k_is)
    (case ga_TooGreat => k_is)
    (case gg_TooGreat => k_is)
    (case ha_TooGreat => k_is)
    (case mr_TooGreat => k_is)
    (case il_TooGreat => k_is)
    (case ic_TooGreat => k_is)
    (case ik_TooGreat => k_is)
    (case cl_TooGreat => k_is)
    (case hn_TooGreat => k_is)
    (case ht_TooGreat => k_is)
    (case gc_Nothing => k_is)
    (case iC_Nothing => k_is)
    (case ini_Nothing => kx_is)
    (case ov_Nothing => kx_is)
    (case hd_Nothing => k_is)
    (case sa_Nothing => k_is)
    (case ex_Nothing => k_is)
    (case ty_Nothing => k_is)
    (case kp_Nothing => k_is)
    (case tk_Nothing => k_is)
    (case no_Nothing => k_is)
    (case tI_Nothing => k_is)
    (case ga_Nothing => k_is)
    (case gg_Nothing => k_is)
    (case ha_Nothing => k_is)
    (case mr_Nothing => k_is)
    (case il_Nothing => k_is)
    (case ic_Nothing => k_is)
    (case ik_Nothing => k_is)
    (case cl_Nothing => k_is)
    (case hn_Nothing => k_is)
    (case ht_Nothing => k_is)
    (case kit_BadBase_BadBase => kit_is)
    (case kit_BadBase_BadDenominator => kit_is)
    (case kit_BadBase_BadFraction => kit_is)
    (case kit_BadBase_BadDigits => kit_is)
    (case kit_BadBase_BadNumber => kit_is)
    (case kit_BadBase_BadPaper => kit_is)
    (case kit_BadBase_BadText => kit_is)
    (case kit_BadBase_TooGreat => kit_is)
    (case kit_BadBase_Nothing => kit_is)
    (case exm_BadBase => kernel_rfl)
    (case kit_BadFraction_BadBase => kit_is)
    (case kit_BadFraction_BadDenominator => kit_is)
    (case kit_BadFraction_BadFraction => kit_is)
    (case kit_BadFraction_BadDigits => kit_is)
    (case kit_BadFraction_BadNumber => kit_is)
    (case kit_BadFraction_BadPaper => kit_is)
    (case kit_BadFraction_BadText => kit_is)
    (case kit_BadFraction_TooGreat => kit_is)
    (case kit_BadFraction_Nothing => kit_is)
    (case exm_BadFraction => kernel_rfl)
    (case kit_BadText_BadBase => kit_is)
    (case kit_BadText_BadDenominator => kit_is)
    (case kit_BadText_BadFraction => kit_is)
    (case kit_BadText_BadDigits => kit_is)
    (case kit_BadText_BadNumber => kit_is)
    (case kit_BadText_BadPaper => kit_is)
    (case kit_BadText_BadText => kit_is)
    (case kit_BadText_TooGreat => kit_is)
    (case kit_BadText_Nothing => kit_is)
    (case exm_BadText => kernel_rfl)
    (case kit_TooGreat_BadBase => kit_is)
    (case kit_TooGreat_BadDenominator => kit_is)
    (case kit_TooGreat_BadFraction => kit_is)
    (case kit_TooGreat_BadDigits => kit_is)
    (case kit_TooGreat_BadNumber => kit_is)
    (case kit_TooGreat_BadPaper => kit_is)
    (case kit_TooGreat_BadText => kit_is)
    (case kit_TooGreat_TooGreat => kit_is)
    (case kit_TooGreat_Nothing => kit_is)
    (case exm_TooGreat => kernel_rfl)
    (case kit_Nothing_BadBase => kit_is)
    (case kit_Nothing_BadDenominator => kit_is)
    (case kit_Nothing_BadFraction => kit_is)
    (case kit_Nothing_BadDigits => kit_is)
    (case kit_Nothing_BadNumber => kit_is)
    (case kit_Nothing_BadPaper => kit_is)
    (case kit_Nothing_BadText => kit_is)
    (case kit_Nothing_TooGreat => kit_is)
    (case kit_Nothing_Nothing => kit_is)
    (case exm_Nothing => kernel_rfl)
    (case ir_LookupError => k_is)
    (case ir_OverflowError => k_is)
    (case e_law_right => rfl)
    (case lk_law_right => k_is)
    (case tv_law_right => rfl)
    (case np_law_right => kernel_rfl)
    (case e_law_hand_right => rfl)
    (case lk_law_hand_right => k_is)
    (case tv_law_hand_right => rfl)
    (case np_law_hand_right => kernel_rfl)
    (case ne_law_right_law_hand_right => first | k_is | decide | (intro z; cases z))
    (case zc_MOST_BASE => k_is)
    (case zc_MOST_DENOMINATOR => k_is)
    (case zc_MOST_DIGITS => k_is)
    (case zc_MOST_LENGTH => k_is)
