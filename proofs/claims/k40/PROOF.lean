import PyProof.Rows.All
import Wide.All
import OpenK.AllK
import Wide.FinOn
import HandS.ForMost
import HandS.Wide
import HandS.Gcd
import HandS.IsInst
import HandS.TupAny
import HandS.Style
import PyProof.ReprBulk
import PyProof.ReprRoads
import PyProof.ReprLen
import PyProof.Rows.SumAny
import PyProof.WalksMore
import HandS.SetFor
import HandS.Strs
import HandS.TupMul
import HandS.ListItems
import HandS.SortRule
import KE.GoesEnum
import PyProof.EnumMake
import PyProof.EnumStmt
import HandS.SortInts
import HandS.WordsExc
import HandS.Keys
import HandS.Conv
import PySem.Challenge.RW_wheelnines_k40_whole_lengths_of_residues
set_option Elab.async false
set_option linter.all false
set_option maxRecDepth 100000
set_option maxHeartbeats 4000000
namespace Wn
open PySem PySem.Spec PyProof.Rows L2
/-! a def of the text as it stands: where, its facts, its name -/
structure Dn (K : PySem.W.Frag) (mg : Str → Option Value) (x : Str) (st : Stmt) (ps : List Str) where
  f : Addr
  fd : FuncData
  F : Fun K x x st f fd
  e : ∀ us : List Value, us.length = ps.length → bindArgs fd ⟨us, []⟩ = pure (ps.zip us)
  m : mg x = some (.ref f)
theorem Dn.b {K : PySem.W.Frag} {mg : Str → Option Value} {x : Str} {st : Stmt} {ps : List Str} (D : Dn K mg x st ps) : Binds K D.fd ps [] := .all D.e
def Dn.of {K : PySem.W.Frag} {h : Heap} {mg : Str → Option Value} {x : Str} {st : Stmt} {ps : List Str} {f : Addr} {oc kV doc pm cdv ct : Value} {od an : Option Addr} {osl : Array (Option Value)} (X : K.In h) (G : h.Ns mainGlobals mg)
    (hb : ∀ us : List Value, us.length = ps.length → bindArgs (PySem.W.fnOf x x (defArgs st) (defBody st) (defScope st) .none kV doc pm an cdv ct) ⟨us, []⟩ = pure (ps.zip us))
    (a : PySem.W.nsIn K mainGlobals x = some (some (.ref f))) (l : K.lookup f = some ⟨oc, od, .func (PySem.W.fnOf x x (defArgs st) (defBody st) (defScope st) .none kV doc pm an cdv ct), osl⟩)
    (c : PySem.W.codeIn K cdv x = true) (k : PySem.W.keepIn K (.ref f) = true) : Dn K mg x st ps := ⟨f, _, fun_mk l c k, hb, PySem.W.mg_of X G a⟩
/-! all that stood stands, but what is at W -/
def Gr (W : List Addr) (H H' : Hp) : Prop := ∀ a o, a ∉ W → H a = some o → H' a = some o
theorem Gr.refl (W : List Addr) (H : Hp) : Gr W H H := fun _ _ _ h => h
theorem Gr.trans {W : List Addr} {H H1 H2 : Hp} (a : Gr W H H1) (b : Gr W H1 H2) : Gr W H H2 := fun x o n h => b x o n (a x o n h)
theorem Gr.new {W : List Addr} {H : Hp} {p : Addr} {o : HO} (h : H p = none) : Gr W H (upd H p o) := fun a u _ e => by
  rw [upd_ne (ne_of_none e h)]
  exact e
theorem Gr.wr {W : List Addr} {H : Hp} {p : Addr} {o : HO} (h : p ∈ W) : Gr W H (upd H p o) := fun a u n e => by
  have z : a ≠ p := fun z => by
    subst z
    exact n h
  rw [upd_ne z]
  exact e
theorem Gr.mono {W W' : List Addr} {H H' : Hp} (h : ∀ a, a ∈ W → a ∈ W') (g : Gr W H H') : Gr W' H H' := fun a o n e => g a o (fun z => n (h a z)) e
end Wn
/-! the mathematics: powers, remainders, pure parts, periods, heads -/
namespace Wn
theorem cop_pow {a b : Nat} (h : Nat.gcd a b = 1) (k : Nat) : Nat.gcd (a ^ k) b = 1 := Nat.Coprime.pow_left k h
theorem mod_iff {p a c : Nat} (h : a ≤ c) : a % p = c % p ↔ p ∣ c - a := by
  constructor
  · intro e
    exact Nat.dvd_of_mod_eq_zero (Nat.sub_mod_eq_zero_of_mod_eq e.symm)
  · rintro ⟨t, e⟩
    have : c = a + p * t := by omega
    rw [this, Nat.add_mul_mod_self_left]
/-! a pigeonhole -/
theorem nodup_le : ∀ (n : Nat) (l : List Nat), l.Nodup → (∀ x ∈ l, x < n) → l.length ≤ n := by
  intro n
  induction n with
  | zero =>
    intro l _ h
    cases l with
    | nil => exact Nat.le_refl _
    | cons x r => exact absurd (h x (List.mem_cons_self ..)) (Nat.not_lt_zero _)
  | succ n ih =>
    intro l nd h
    have h1 := ih (l.erase n) (nd.erase n) (fun x hx => by
      have hm := List.mem_of_mem_erase hx
      have hlt := h x hm
      have hne : x ≠ n := fun e => by
        subst e
        exact (List.Nodup.not_mem_erase nd) hx
      omega)
    by_cases hn : n ∈ l
    · rw [List.length_erase_of_mem hn] at h1
      omega
    · rw [List.erase_of_not_mem hn] at h1
      omega
/-- among n + 1 numbers below n two are the same -/
theorem pigeon (n : Nat) (f : Nat → Nat) (h : ∀ i, i ≤ n → f i < n) : ∃ i j, i < j ∧ j ≤ n ∧ f i = f j := by
  by_cases nd : ((List.range (n + 1)).map f).Nodup
  · have := nodup_le n _ nd (fun x hx => by
      obtain ⟨i, hi, e⟩ := List.mem_map.mp hx
      rw [← e]
      exact h i (by have := List.mem_range.mp hi; omega))
    rw [List.length_map, List.length_range] at this
    omega
  · rw [List.nodup_iff_pairwise_ne, List.pairwise_map] at nd
    apply Classical.byContradiction
    intro hc
    apply nd
    rw [List.pairwise_iff_getElem]
    intro i j hi hj hij e
    rw [List.getElem_range, List.getElem_range] at e
    rw [List.length_range] at hj
    exact hc ⟨i, j, hij, by omega, e⟩
/-! pure parts -/
def IsPure (b n p : Nat) : Prop := Nat.gcd b p = 1 ∧ ∃ q k, n = p * q ∧ q ∣ b ^ k
theorem cop_of_dvd_pow {b p q k : Nat} (h : Nat.gcd b p = 1) (hq : q ∣ b ^ k) : Nat.gcd p q = 1 := by
  have h1 : Nat.gcd (b ^ k) p = 1 := cop_pow h k
  have h2 : Nat.gcd p q ∣ Nat.gcd (b ^ k) p := Nat.dvd_gcd (Nat.dvd_trans (Nat.gcd_dvd_right p q) hq) (Nat.gcd_dvd_left p q)
  rw [h1] at h2
  exact Nat.dvd_one.mp h2
theorem IsPure.dvd {b n p p' : Nat} (h : IsPure b n p) (h' : IsPure b n p') : p ∣ p' := by
  obtain ⟨g, q, k, e, hq⟩ := h
  obtain ⟨g', q', k', e', hq'⟩ := h'
  have c : Nat.Coprime p q' := cop_of_dvd_pow g hq'
  refine c.dvd_of_dvd_mul_right ?_
  rw [← e', e]
  exact Nat.dvd_mul_right p q
theorem IsPure.uniq {b n p p' : Nat} (h : IsPure b n p) (h' : IsPure b n p') : p = p' := Nat.dvd_antisymm (h.dvd h') (h'.dvd h)
theorem IsPure.self {b n : Nat} (h : Nat.gcd b n = 1) : IsPure b n n := ⟨h, 1, 0, by simp, by simp⟩
/-! periods -/
def IsPer (b p d : Nat) : Prop := 1 ≤ d ∧ b ^ d % p = 1 % p ∧ ∀ j, 1 ≤ j → j < d → b ^ j % p ≠ 1 % p
theorem IsPer.uniq {b p d d' : Nat} (h : IsPer b p d) (h' : IsPer b p d') : d = d' := by
  obtain ⟨h1, h2, h3⟩ := h
  obtain ⟨g1, g2, g3⟩ := h'
  apply Nat.le_antisymm
  · apply Nat.le_of_not_lt
    intro l
    exact h3 d' g1 l g2
  · apply Nat.le_of_not_lt
    intro l
    exact g3 d h1 l h2
theorem least (P : Nat → Prop) [DecidablePred P] : ∀ n, P n → ∃ m, m ≤ n ∧ P m ∧ ∀ j, j < m → ¬ P j := by
  intro n
  induction n using Nat.strongRecOn with
  | _ n ih =>
    intro hn
    by_cases h : ∃ j, j < n ∧ P j
    · obtain ⟨j, hj, pj⟩ := h
      obtain ⟨m, hm, pm, q⟩ := ih j hj pj
      exact ⟨m, by omega, pm, q⟩
    · exact ⟨n, Nat.le_refl _, hn, fun j hj pj => h ⟨j, hj, pj⟩⟩
/-- a common factor that is pure may go: b ^ i * c ≡ b ^ i * d -/
theorem mod_cancel {p a c d : Nat} (g : Nat.gcd a p = 1) (h : a * c % p = a * d % p) : c % p = d % p := by
  have key : ∀ {c d : Nat}, c ≤ d → a * c % p = a * d % p → c % p = d % p := by
    intro c d hcd h
    have h1 : p ∣ a * (d - c) := by
      rw [Nat.mul_sub]
      exact (mod_iff (Nat.mul_le_mul_left a hcd)).mp h
    have h2 : p ∣ d - c := Nat.Coprime.dvd_of_dvd_mul_left (Nat.Coprime.symm g) h1
    exact (mod_iff hcd).mpr h2
  rcases Nat.le_total c d with l | l
  · exact key l h
  · exact (key l h.symm).symm
theorem per_exists {b p : Nat} (hp : 1 ≤ p) (g : Nat.gcd b p = 1) : ∃ d, d ≤ p ∧ IsPer b p d := by
  obtain ⟨i, j, hij, hj, e⟩ := pigeon p (fun k => b ^ k % p) (fun i _ => Nat.mod_lt _ hp)
  have e1 : b ^ (j - i) % p = 1 % p := by
    have e' : b ^ i * b ^ (j - i) % p = b ^ i * 1 % p := by
      rw [← Nat.pow_add, show i + (j - i) = j by omega, Nat.mul_one]
      exact e.symm
    exact mod_cancel (cop_pow g i) e'
  obtain ⟨m, hm, ⟨pm1, pm⟩, q⟩ := least (fun k => 1 ≤ k ∧ b ^ k % p = 1 % p) (j - i) ⟨by omega, e1⟩
  exact ⟨m, by omega, pm1, pm, fun k k1 kl z => q k kl ⟨k1, z⟩⟩
theorem pow_mod_step (b p k : Nat) : b ^ k % p * b % p = b ^ (k + 1) % p := by
  rw [Nat.mod_mul_mod, Nat.pow_succ]
theorem IsPer.mul {b p d : Nat} (h : IsPer b p d) (k : Nat) : b ^ (d * k) % p = 1 % p := by
  induction k with
  | zero => simp
  | succ k ih =>
    rw [Nat.mul_succ, Nat.pow_add, Nat.mul_mod, ih, h.2.1, ← Nat.mul_mod, Nat.mul_one]
theorem IsPer.iff {b p d : Nat} (h : IsPer b p d) (k : Nat) : b ^ k % p = 1 % p ↔ d ∣ k := by
  have e : b ^ k % p = b ^ (k % d) % p := by
    have := Nat.div_add_mod k d
    rw [show b ^ k = b ^ (d * (k / d) + k % d) by rw [this], Nat.pow_add, Nat.mul_mod, h.mul, ← Nat.mul_mod, Nat.one_mul]
  constructor
  · intro hk
    rw [e] at hk
    apply Nat.dvd_of_mod_eq_zero
    apply Classical.byContradiction
    intro hz
    exact h.2.2 (k % d) (by omega) (Nat.mod_lt _ h.1) hk
  · rintro ⟨m, rfl⟩
    exact h.mul m
/-! heads -/
def IsHead (b q h : Nat) : Prop := b ^ h % q = 0 ∧ ∀ j, j < h → b ^ j % q ≠ 0
theorem IsHead.uniq {b q h h' : Nat} (a : IsHead b q h) (c : IsHead b q h') : h = h' := by
  apply Nat.le_antisymm
  · apply Nat.le_of_not_lt
    intro l
    exact a.2 h' l c.1
  · apply Nat.le_of_not_lt
    intro l
    exact c.2 h l a.1
theorem head_exists {b q k : Nat} (h : q ∣ b ^ k) : ∃ m, m ≤ k ∧ IsHead b q m := by
  obtain ⟨m, hm, pm, r⟩ := least (fun j => b ^ j % q = 0) k (Nat.mod_eq_zero_of_dvd h)
  exact ⟨m, hm, pm, r⟩
theorem IsHead.iff {b q h : Nat} (a : IsHead b q h) (k : Nat) : q ∣ b ^ k ↔ h ≤ k := by
  constructor
  · intro d
    apply Nat.le_of_not_lt
    intro l
    exact a.2 k l (Nat.mod_eq_zero_of_dvd d)
  · intro l
    have d : q ∣ b ^ h := Nat.dvd_of_mod_eq_zero a.1
    rw [show k = h + (k - h) by omega, Nat.pow_add]
    exact Nat.dvd_trans d (Nat.dvd_mul_right _ _)
theorem head_le {b q h : Nat} (hq : 1 ≤ q) (a : IsHead b q h) : h ≤ q := by
  apply Nat.le_of_not_lt
  intro l
  -- among the first q + 1 remainders two are the same: then none is nought behind
  obtain ⟨i, j, hij, hj, e⟩ := pigeon q (fun k => b ^ k % q) (fun i _ => Nat.mod_lt _ hq)
  have key : ∀ k, b ^ (i + k) % q = b ^ (j + k) % q := by
    intro k
    rw [Nat.pow_add, Nat.pow_add, Nat.mul_mod, e, ← Nat.mul_mod]
  have hz : b ^ (j + (h - j)) % q = 0 := by
    rw [show j + (h - j) = h by omega]
    exact a.1
  rw [← key] at hz
  exact a.2 (i + (h - j)) (by omega) hz
/-! remainders -/
def rem (b n x i : Nat) : Nat := x * b ^ i % n
theorem rem_lt {b n x i : Nat} (h : 1 ≤ n) : rem b n x i < n := Nat.mod_lt _ h
theorem rem_succ (b n x i : Nat) : rem b n x i * b % n = rem b n x (i + 1) := by
  unfold rem
  rw [Nat.mod_mul_mod, Nat.pow_succ, Nat.mul_assoc]
theorem rem_zero {b n x : Nat} (h : x < n) : rem b n x 0 = x := by
  unfold rem
  rw [Nat.pow_zero, Nat.mul_one, Nat.mod_eq_of_lt h]
/-- THE RING: when remainders come again -/
theorem rem_eq {b n x p q h L i j : Nat} (gx : Nat.gcd x n = 1) (e : n = p * q) (gp : Nat.gcd b p = 1) (gq : Nat.gcd p q = 1) (hh : IsHead b q h) (hL : IsPer b p L) (hij : i < j) :
    rem b n x i = rem b n x j ↔ h ≤ i ∧ L ∣ j - i := by
  have hle : b ^ i ≤ b ^ j ∨ b = 0 := by
    rcases Nat.eq_zero_or_pos b with z | z
    · exact .inr z
    · exact .inl (Nat.pow_le_pow_right z (Nat.le_of_lt hij))
  have hs : b ^ j = b ^ i * b ^ (j - i) := by rw [← Nat.pow_add, show i + (j - i) = j by omega]
  unfold rem
  constructor
  · intro hr
    have h1 : b ^ i % n = b ^ j % n := mod_cancel gx hr
    have hp : b ^ i % p = b ^ j % p := by
      have := congrArg (· % p) h1
      rw [e, Nat.mod_mul_right_mod, Nat.mod_mul_right_mod] at this
      exact this
    have hq : b ^ i % q = b ^ j % q := by
      have := congrArg (· % q) h1
      rw [e, Nat.mod_mul_left_mod, Nat.mod_mul_left_mod] at this
      exact this
    have dL : L ∣ j - i := by
      rw [← hL.iff]
      refine mod_cancel (cop_pow gp i) ?_
      rw [← hs, Nat.mul_one]
      exact hp.symm
    refine ⟨?_, dL⟩
    rw [← hh.iff]
    -- q divides b ^ i * (b ^ (j - i) - 1), and b ^ (j - i) is a multiple that goes on: take many turns
    have key : ∀ k, b ^ i % q = b ^ (i + (j - i) * k) % q := by
      intro k
      induction k with
      | zero => simp
      | succ k ih =>
        rw [show i + (j - i) * (k + 1) = (j - i) + (i + (j - i) * k) by rw [Nat.mul_succ]; omega, Nat.pow_add, Nat.mul_mod, ← ih, ← Nat.mul_mod, ← Nat.pow_add, show (j - i) + i = j by omega]
        exact hq
    have hz : b ^ (i + (j - i) * h) % q = 0 := by
      apply Nat.mod_eq_zero_of_dvd
      rw [hh.iff]
      have : h ≤ (j - i) * h := Nat.le_mul_of_pos_left h (by omega)
      omega
    exact Nat.dvd_of_mod_eq_zero ((key h).trans hz)
  · rintro ⟨h1, h2⟩
    have hp : b ^ (j - i) % p = 1 % p := (hL.iff _).mpr h2
    have hqd : q ∣ b ^ i := (hh.iff i).mpr h1
    have hpd : b ^ i % p = b ^ j % p := by
      rw [hs, Nat.mul_mod, hp, ← Nat.mul_mod, Nat.mul_one]
    have both : b ^ i % n = b ^ j % n := by
      rcases hle with hle | hb
      · apply (mod_iff hle).mpr
        rw [e]
        refine Nat.Coprime.mul_dvd_of_dvd_of_dvd gq ?_ ?_
        · exact (mod_iff hle).mp hpd
        · rw [hs, ← Nat.mul_sub_one]
          exact Nat.dvd_trans hqd (Nat.dvd_mul_right _ _)
      · subst hb
        have hp1 : p = 1 := by rw [Nat.gcd_zero_left] at gp; exact gp
        subst hp1
        rw [Nat.one_mul] at e
        subst e
        rw [Nat.mod_eq_zero_of_dvd hqd, Nat.mod_eq_zero_of_dvd (by rw [hs]; exact Nat.dvd_trans hqd (Nat.dvd_mul_right _ _))]
    rw [Nat.mul_mod, both, ← Nat.mul_mod]
/-! all of a denominator in a base -/
structure Par (b n p q h L : Nat) : Prop where
  hp : IsPure b n p
  e : n = p * q
  hh : IsHead b q h
  hL : IsPer b p L
theorem pure_exists (b : Nat) : ∀ n, 1 ≤ n → ∃ p, IsPure b n p := by
  intro n
  induction n using Nat.strongRecOn with
  | _ n ih =>
    intro hn
    by_cases g : Nat.gcd b n = 1
    · exact ⟨n, IsPure.self g⟩
    · obtain ⟨c, hc⟩ := Nat.gcd_dvd_right b n
      have hg : 1 ≤ Nat.gcd b n := Nat.gcd_pos_of_pos_right b hn
      have hc1 : 1 ≤ c := by
        rcases Nat.eq_zero_or_pos c with z | z
        · rw [z] at hc
          omega
        · exact z
      have hcn : c < n := by
        have hg2 : 2 ≤ Nat.gcd b n := by omega
        have : 2 * c ≤ Nat.gcd b n * c := Nat.mul_le_mul_right c hg2
        omega
      obtain ⟨p, hp, q, k, e, d⟩ := ih c hcn hc1
      refine ⟨p, hp, Nat.gcd b n * q, k + 1, ?_, ?_⟩
      · conv => lhs; rw [hc, e]
        rw [Nat.mul_left_comm]
      · rw [Nat.pow_succ, Nat.mul_comm (b ^ k) b]
        exact Nat.mul_dvd_mul (Nat.gcd_dvd_left b n) d
theorem par_exists {b n : Nat} (hn : 1 ≤ n) : ∃ p q h L, Par b n p q h L := by
  obtain ⟨p, hp⟩ := pure_exists b n hn
  obtain ⟨g, q, k, e, d⟩ := id hp
  obtain ⟨h, _, hh⟩ := head_exists d
  have hp1 : 1 ≤ p := by
    rcases Nat.eq_zero_or_pos p with z | z
    · rw [z] at e
      omega
    · exact z
  obtain ⟨L, _, hL⟩ := per_exists hp1 g
  exact ⟨p, q, h, L, hp, e, hh, hL⟩
section
variable {b n p q h L : Nat}
theorem Par.p1 (P : Par b n p q h L) (hn : 1 ≤ n) : 1 ≤ p := by
  rcases Nat.eq_zero_or_pos p with z | z
  · have := P.e
    rw [z] at this
    omega
  · exact z
theorem Par.q1 (P : Par b n p q h L) (hn : 1 ≤ n) : 1 ≤ q := by
  rcases Nat.eq_zero_or_pos q with z | z
  · have := P.e
    rw [z] at this
    omega
  · exact z
theorem Par.pn (P : Par b n p q h L) (hn : 1 ≤ n) : p ≤ n := Nat.le_of_dvd hn ⟨q, P.e⟩
theorem Par.qn (P : Par b n p q h L) (hn : 1 ≤ n) : q ≤ n := Nat.le_of_dvd hn ⟨p, by rw [P.e, Nat.mul_comm]⟩
theorem Par.Ln (P : Par b n p q h L) (hn : 1 ≤ n) : L ≤ n := by
  obtain ⟨d, hd, hd'⟩ := per_exists (P.p1 hn) P.hp.1
  have := hd'.uniq P.hL
  have := P.pn hn
  omega
theorem Par.hn (P : Par b n p q h L) (hn : 1 ≤ n) : h ≤ n := Nat.le_trans (head_le (P.q1 hn) P.hh) (P.qn hn)
theorem Par.gq (P : Par b n p q h L) (hn : 1 ≤ n) : Nat.gcd p q = 1 := by
  obtain ⟨g, q', k, e, d⟩ := P.hp
  have : q' = q := by
    have := P.e
    rw [e] at this
    exact Nat.eq_of_mul_eq_mul_left (P.p1 hn) this
  subst this
  exact cop_of_dvd_pow g d
/-- the end of a row of remainders -/
theorem ring_end {x i j : Nat} (P : Par b n p q h L) (hn : 1 ≤ n) (gx : Nat.gcd x n = 1) (hd : ∀ u v, u < v → v < i → rem b n x u ≠ rem b n x v) (hj : j < i) (e : rem b n x j = rem b n x i) : i = h + L ∧ j = h := by
  have F := fun {u v : Nat} (l : u < v) => rem_eq (x := x) gx P.e P.hp.1 (P.gq hn) P.hh P.hL l
  obtain ⟨h1, h2⟩ := (F hj).mp e
  have hL1 := P.hL.1
  have hle := Nat.le_of_dvd (by omega) h2
  have hi : i ≤ h + L := by
    apply Nat.le_of_not_lt
    intro l
    exact hd h (h + L) (by omega) l ((F (by omega)).mpr ⟨Nat.le_refl _, by rw [show h + L - h = L by omega]; exact Nat.dvd_refl _⟩)
  omega
end
end Wn
namespace Wn
open PySem PySem.Spec PyProof.Rows L2
theorem CallR.imp {X : Cx} {f : Value} {r r' : List V → Hp → VK → Prop} (h : CallR X f r) (i : ∀ vs H Q, r' vs H Q → r vs H Q) : CallR X f r' :=
  fun pins s σ H vs us Q I rv x => h pins s σ H vs us Q I rv (i _ _ _ x)
/-! the built-in type of a value -/
def isB (T n : String) : Bool := T == n || (T == "bool" && n == "int")
def tyNames : List String := ["NoneType", "bool", "int", "str", "list", "tuple", "dict"]
def qyNames : List String := ["bool", "int", "str", "list", "tuple", "dict"]
theorem isB_ok : ∀ T ∈ tyNames, ∀ n ∈ qyNames, kitB T n = some (isB T n) := by decide +kernel
def rIs (K : PySem.W.Frag) : List V → Hp → VK → Prop := fun xs H Q => ∃ (x : V) (n : String), xs = [x, .ty n] ∧ ∃ T : String, (TyX K H x (.type T) ∧ T ∈ tyNames ∧ n ∈ qyNames) ∧ Q (.bl (isB T n)) H
theorem call_is {X : Cx} : CallR X (.builtin "isinstance") (rIs X.K) := CallR.imp call_isi fun vs H Q h => by
  obtain ⟨x, n, e, T, ⟨h1, h2, h3⟩, q⟩ := h
  exact ⟨x, .ty n, .type T, .type n, isB T n, e, .ty n, h1, kit_ty (isB_ok T h2 n h3), q⟩
theorem ty_int {K : PySem.W.Frag} {H : Hp} {i : Int} : TyX K H (.int i) (.type "int") := .base (.int i)
theorem ty_tup {K : PySem.W.Frag} {H : Hp} {a : Addr} {xs : List V} (h : H a = some (.tup xs)) : TyX K H (.ref a) (.type "tuple") := .base (.tup h)
theorem cxK {CX : CXT} {P : Program} {w : World} {K : PySem.W.Frag} {mg : Str → Option Value} {base : Heap} {N : List Str} {q : Str} {sc : Scope} {f : Addr} {cdv : Value} {A : Around} {outer : List Env} {s : Shared} {H : Hp} {E : XK} :
    (cxOf CX P w K mg base N q sc f cdv A outer s H E).nox.K = K := rfl
theorem cxK2 {CX : CXT} {P : Program} {w : World} {K : PySem.W.Frag} {mg : Str → Option Value} {base : Heap} {N : List Str} {q : Str} {sc : Scope} {f : Addr} {cdv : Value} {A : Around} {outer : List Env} {s : Shared} {H : Hp} {E : XK} :
    (cxOf CX P w K mg base N q sc f cdv A outer s H E).K = K := rfl
theorem start1 (x : Str) (N : List Str) (v : V) (vs : List V) : L2.start (x :: N) (v :: vs) = some v :: L2.start N vs := by
  unfold L2.start
  simp
theorem start2 (x : Str) (N : List Str) : L2.start (x :: N) [] = none :: L2.start N [] := by
  unfold L2.start
  simp [List.replicate_succ]
theorem start3 : L2.start [] [] = [] := rfl
theorem sq_tup {K : PySem.W.Frag} {H : Hp} {a : Addr} {xs : List V} (h : H a = some (.tup xs)) : SqT K H a xs := .inl (.inl h)
theorem sq_lst {K : PySem.W.Frag} {H : Hp} {a : Addr} {xs : List V} (h : H a = some (.lst xs)) : SqL K H a xs := .inl (.inl h)
theorem slA_of {K : PySem.W.Frag} {H : Hp} {a : Addr} {xs : List V} {lo hi : Option Int} {Q : VK} (h : H a = some (.tup xs)) (q : ∀ p H', Gr [] H H' → H' p = some (.tup (cutV xs lo hi)) → Q (.ref p) H') : rSlA K (.ref a) lo hi H Q := by
  refine ⟨a, xs, rfl, sq_tup h, ?_, ?_⟩
  · intro e
    refine q a H (Gr.refl _ _) ?_
    have z : cutV xs lo hi = xs := by
      unfold cutV
      rw [e.1, e.2, List.drop_zero, Nat.sub_zero, List.take_length]
    rw [z]
    exact h
  · intro _ p np
    exact q p _ (Gr.new np) upd_same
def rLn (K : PySem.W.Frag) : List V → Hp → VK → Prop := fun xs H Q => ∃ p ys, xs = [.ref p] ∧ (SqL K H p ys ∨ SqT K H p ys) ∧ Q (.int ys.length) H
theorem call_ln {X : Cx} : CallR X (.builtin "len") (rLn X.K) := call_len_seq
def rLsO (K : PySem.W.Frag) : List V → Hp → VK → Prop := fun xs H Q => ∃ p ys, xs = [.ref p] ∧ (SqL K H p ys ∨ SqT K H p ys) ∧ ∀ l, H l = none → Q (.ref l) (upd H l (.lst ys))
theorem call_lsO {X : Cx} : CallR X (.type "list") (rLsO X.K) := call_list_of
def rTpO (K : PySem.W.Frag) : List V → Hp → VK → Prop := fun xs H Q => ∃ p ys, xs = [.ref p] ∧ ((SqL K H p ys ∧ ∀ l, H l = none → Q (.ref l) (upd H l (.tup ys))) ∨ (SqT K H p ys ∧ Q (.ref p) H))
theorem call_tpO {X : Cx} : CallR X (.type "tuple") (rTpO X.K) := call_tuple_of
theorem cut_lo {xs : List V} {k : Nat} (h : k ≤ xs.length) : cutV xs none (some (k : Int)) = xs.take k := by
  unfold cutV
  rw [HT.sIx_nat, HT.sIx_none, List.drop_zero, Nat.sub_zero, Nat.min_eq_left h]
theorem cut_hi {xs : List V} {k : Nat} (h : k ≤ xs.length) : cutV xs (some (k : Int)) none = xs.drop k := by
  unfold cutV
  rw [HT.sIx_nat, HT.sIx_none, Nat.min_eq_left h]
  exact List.take_of_length_le (by rw [List.length_drop]; omega)
theorem icm (a b n : Nat) : (a : Int) * (b : Int) % (n : Int) = ((a * b % n : Nat) : Int) := by
  rw [← Int.natCast_mul, ← Int.natCast_emod]
theorem icd (a b n : Nat) : (a : Int) * (b : Int) / (n : Int) = ((a * b / n : Nat) : Int) := by
  rw [← Int.natCast_mul, ← Int.natCast_ediv]
local macro_rules | `(tactic| walk_at "vc") => `(tactic| simp only [cxK, cxK2, start1, start2, start3, tRet, tRetN, tSeq, tNext, tIfS, tAsg, gName, tDrop, tVar, tC, tOp, tUn, tTest, tB, tNot, tAnd, tOr, tAndV, tOrV, tNotV, tIf, tCons, tNil, tCB, tCall, tChain, tAug, ipI, rI, rI0, rU, rIs, rGcd, rEq, rNe, scal,
  List.getElem?_cons_zero, List.getElem?_cons_succ, List.set_cons_zero, List.set_cons_succ, Option.some.injEq, List.cons.injEq, V.int.injEq, V.bl.injEq, V.ref.injEq, V.str.injEq, and_true, true_and, exists_eq_left, exists_eq_left', exists_and_left, exists_and_right, List.append_nil, List.nil_append, List.cons_append, exists_eq_right, exists_eq_right', and_assoc, exists_const, V.ty.injEq, ↓reduceIte, Bool.false_eq_true, Bool.not_true, Bool.not_false, decide_eq_true_eq])
end Wn
/-! contracts where nothing is being shown (no repr runs around): for defs that ask repr of lists, tuples, dicts -/
namespace Wn
open PySem PySem.Spec PyProof.Rows L2
structure FnG (P : Program) (w : World) (K : PySem.W.Frag) (mg : Str → Option Value) (base : Heap) (CX : CXT) (k : Nat) (f : Addr) (fd : FuncData) (ps : List Str) (sp : Sp) : Prop where
  sz : ∀ vs H Q E, sp vs H Q E → vs.length = ps.length
  go : ∀ (A : Around), A.guards = some [] → Room k A → ∀ (outer : List Env) (s : Shared) (H : Hp) (args : Args) (us : List Value) (vs : List V) (Q : VK) (E : XK),
    Env0 P w K mg base A outer s H → BindsTo s fd args (ps.zip us) → Vals vs us → sp vs H Q E → codeAny (model P w) A (.call (.ref f) args) (CR CX outer P w H s Q E) s
section
variable {P : Program} {w : World} {K : PySem.W.Frag} {mg : Str → Option Value} {base : Heap} {CX : CXT} {k : Nat} {f : Addr} {fd : FuncData} {ps : List Str} {sp : Sp}
theorem FnG.of (F : FnOk P w K mg base CX k f fd ps sp) : FnG P w K mg base CX k f fd ps sp :=
  ⟨F.len, fun A _ hr outer s H args us vs Q E e b v h => F.run A outer s H args us vs Q E hr e b v h⟩
theorem FnG.up {j : Nat} (F : FnG P w K mg base CX j f fd ps sp) (h : j ≤ k) : FnG P w K mg base CX k f fd ps sp :=
  ⟨F.sz, fun A hg hr => F.go A hg (hr.mono h)⟩
/-- a def by its body -/
theorem fnG {x qual : Str} {st : Stmt} {N : List Str} (F : Fun K x qual st f fd) (S : FnScope N ps (defScope st)) (sz : ∀ vs H Q E, sp vs H Q E → vs.length = ps.length)
    (body : ∀ (cdv : Value) (A : Around) (outer : List Env) (s : Shared) (H : Hp) (vs : List V) (Q : VK) (E : XK), (A.deeper (envOfC qual (defScope st) s.heap.objs.size f cdv)).guards = some [] →
      Room k (A.deeper (envOfC qual (defScope st) s.heap.objs.size f cdv)) → sp vs H Q E →
      ∃ t, PSs (cxOf CX P w K mg base N qual (defScope st) f cdv A outer s H E) (defBody st) t ∧ t { nx := fun _ H' => Q .non H', rt := Q } (L2.start N vs) H) : FnG P w K mg base CX (k + 1) f fd ps sp := by
  obtain ⟨oc, od, kV, doc, pm, an, cdv, ct, osl, rfl, lk, hcd⟩ := F.ex
  refine ⟨sz, fun A hgd hr outer s H args us vs Q E e0 hb r h => ?_⟩
  have KI : K.In s.heap := e0.mod.kin.keeps fun b o e => (e0.bs b o e).1
  have NL : s.heap.NoLimit := e0.mod.nolimit.keeps fun b o e => (e0.bs b o e).1
  refine codeAny_call_function hr.depth (KI _ _ lk) rfl S.co S.gen rfl (PySem.W.codeRec_of KI hcd) (hb _ _ _ _ ?_)
  refine wpAny_newFunctionEnv_cells S.kind (fun y hy => ?_) fun env he s1 x => ?_
  · obtain ⟨n, v⟩ := y
    rcases S.par n (List.of_mem_zip hy).1 with q | q
    · exact .inl q
    · exact .inr ⟨q, PySem.W.cellsFrom_some _ _ _ (.inl q)⟩
  · subst he
    refine ⟨NL.keeps x.toInCall.keep, codeAny_func ?_⟩
    obtain ⟨t, ht, hq⟩ := body cdv A outer s H vs Q E hgd (hr.deeper _) h
    refine wpAny_mono (ht.run [] s1 _ H _ (inv_start S hr.hd e0 (sz _ _ _ _ h) r x) hq) (fun fl s' z => ?_) fun e s' z => z
    cases fl with
    | ret u =>
      obtain ⟨v, σ', H', J, rv, q⟩ := z
      exact ⟨v, H', J.os, J.bare, J.base, J.hok, rv, q⟩
    | next =>
      obtain ⟨σ', H', J, q⟩ := z
      exact ⟨.non, H', J.os, J.bare, J.base, J.hok, rfl, q⟩
    | brk =>
      obtain ⟨_, _, _, q⟩ := z
      exact q.elim
    | cont =>
      obtain ⟨_, _, _, q⟩ := z
      exact q.elim
/-- no exception leaves it -/
theorem fnG0 {x qual : Str} {st : Stmt} {N : List Str} (F : Fun K x qual st f fd) (S : FnScope N ps (defScope st)) (sz : ∀ vs H Q E, sp vs H Q E → vs.length = ps.length)
    (body : ∀ (cdv : Value) (A : Around) (outer : List Env) (s : Shared) (H : Hp) (vs : List V) (Q : VK) (E : XK), (A.deeper (envOfC qual (defScope st) s.heap.objs.size f cdv)).guards = some [] →
      Room k (A.deeper (envOfC qual (defScope st) s.heap.objs.size f cdv)) → sp vs H Q E →
      ∃ t, PSs (cxOf CX0 P w K mg base N qual (defScope st) f cdv A outer s H E).nox (defBody st) t ∧ t { nx := fun _ H' => Q .non H', rt := Q } (L2.start N vs) H) : FnG P w K mg base CX0 (k + 1) f fd ps sp :=
  fnG F S sz fun cdv A outer s H vs Q E g r h => let ⟨t, ht, q⟩ := body cdv A outer s H vs Q E g r h; ⟨t, ht.nox, q⟩
end
section
variable {X : Cx} {CX : CXT} {k : Nat} {f : Addr} {fd : FuncData} {ps : List Str} {sp : Sp} {dvs : List V} {ds : List Value} {E : XK} {x : Str} {p pos : Pos} {e : Expr} {es : List Expr} {t : TA}
theorem runG {pins : List (Addr × Obj)} {σ : L2.St} {H : Hp} {s : Shared} {Q : VK} {us : List Value} {vs : List V} (F : FnG X.prog X.w X.K X.mg X.base CX k f fd ps sp) (hgd : X.A.guards = some []) (hr : Room k X.A) (hb : Binds X.K fd ps ds) (hd : Vals dvs ds)
    (hx : Passes CX X E) (I : Inv X pins σ H s) (r : Vals vs us) (h : sp (vs ++ dvs) H Q E) : wpAny (model X.prog X.w) X.A (call (.ref f) us) (EP X pins σ Q) X.xe s := by
  have rr := r.append hd
  refine wpAny_call (codeAny_mono (F.go X.A hgd hr X.stack s H ⟨us, []⟩ (us ++ ds) (vs ++ dvs) Q E I.env0 (hb s us I.kIn (rr.length ▸ F.sz _ _ _ _ h)) rr h) fun z s' q => ?_)
  match z, q with
  | .error e, q => exact hx pins σ H s e s' I q
  | .ok (.ret u), q => exact I.after q
  | .ok .next, q => exact q.elim
  | .ok .brk, q => exact q.elim
  | .ok .cont, q => exact q.elim
theorem pe_callG (hgd : X.A.guards = some []) (F : FnG X.prog X.w X.K X.mg X.base CX k f fd ps sp) (hr : Room k X.A) (hg : Gl X x) (hm : X.mg x = some (.ref f)) (hk : PySem.W.keepIn X.K (.ref f) = true) (hb : Binds X.K fd ps ds) (hd : Vals dvs ds) (hx : Passes CX X E)
    (ha : PA X (e :: es) t) (hdb : (x == ("__debug__" : Str)) = false := by decide) (he : starEach (e :: es) X.env = (false, eval e X.env) :: starEach es X.env := by rfl) (hpl : (backTo pos (starEach es X.env)).any (·.1) = false := by rfl) :
    PE X (.Call (.Name x p) (e :: es) [] pos) (tCall sp dvs E t) :=
  ⟨fun pins s σ H Q I h => wpAny_Call_Name_kw (ld_glob I hg hm (PySem.W.callWith_K (h₀ := X.base) I.ok.mod.kin hk (thn (ha.run pos pins s σ H _ I h) fun us s1 ⟨vs, H1, I1, r, q⟩ => ⟨I1.kIn, runG F hgd hr hb hd hx I1 r q⟩) he hpl) hdb)⟩
theorem pe_callG0 (hgd : X.A.guards = some []) (F : FnG X.prog X.w X.K X.mg X.base CX k f fd ps sp) (hr : Room k X.A) (hg : Gl X x) (hm : X.mg x = some (.ref f)) (hk : PySem.W.keepIn X.K (.ref f) = true) (hb : Binds X.K fd ps ds) (hd : Vals dvs ds) (hx : Passes CX X E)
    (hdb : (x == ("__debug__" : Str)) = false := by decide) : PE X (.Call (.Name x p) [] [] pos) (tCall sp dvs E tNil) :=
  ⟨fun pins s σ H Q I h => wpAny_Call_Name_kw (ld_glob I hg hm (PySem.W.callWith_K0 I.kIn hk (runG (us := []) F hgd hr hb hd hx I .nil h)) hdb)⟩
end
/-! the law's own head -/
theorem law_callG {P : Program} {w : World} {K : PySem.W.Frag} {mg mb : Str → Option Value} {CX : CXT} {k : Nat} {fa a : Addr} {fd : FuncData} {x : Str} {sp : Sp} {s1 : Shared} {vs : List Value} {ns : List Int}
    (KX : K.In s1.heap) (hns : s1.heap.Ns mainGlobals mg) (hb : s1.heap.Ns builtinsNs mb) (hbb : ∀ x : Str, x ≠ "__name__" → mb x = bootBuiltins x) (hlim : s1.heap.NoLimit) (hg : s1.gens = #[])
    (ha : s1.heap.get? a = some { cls := .type "list", data := .seq vs.toArray }) (hi : IntsAre vs ns) (hl : ns.length ≤ sizeLine) (hr : Room k callerA)
    (F : ∀ base : Heap, K.In base → base.Ns mainGlobals mg → FnG P w K mg base CX k fa fd [x] sp) (hbind : ∀ (s : Shared) (u : Value), BindsTo s fd ⟨[u], []⟩ [(x, u)])
    (hsp : ∀ H : Hp, Only H → SqL K H a (ns.map V.int) → sp [.ref a] H (fun v _ => v = .bl true) fun _ _ _ => False)
    (hCX : ∀ H e s', CX [] H s1 (fun _ _ _ => False) e s' → False) :
    codeAny (model P w) callerA (.call (.ref fa) ⟨[.ref a], []⟩) (fun r s' => r = .ok (.ret (.bool true)) ∧ OldK s1.heap s'.heap ∧ s'.os = s1.os ∧ AllBare s'.gens) s1 := by
  -- the script is tracked, unless it is one of the text's own objects
  obtain ⟨H, hH⟩ : ∃ H : Hp, H = fun b => if b = a ∧ K.lookup a = none then some (.frz { cls := .type "list", data := .seq vs.toArray } (.lst (ns.map V.int))) else none := ⟨_, rfl⟩
  have at_ : ∀ b u, H b = some u → b = a ∧ K.lookup a = none ∧ u = .frz { cls := .type "list", data := .seq vs.toArray } (.lst (ns.map V.int)) := fun b u z => by
    rw [hH] at z
    dsimp only at z
    split at z
    · rename_i c
      exact ⟨c.1, c.2, (Option.some.inj z).symm⟩
    · cases z
  have off : ∀ b o, s1.heap.get? b = some o → (∀ q, K.lookup b = some q → True) → (∀ n, o.data ≠ .seq vs.toArray n) → H b = none := fun b o e _ d => by
    cases z : H b with
    | none => rfl
    | some u =>
      obtain ⟨rfl, _, _⟩ := at_ b u z
      rw [ha] at e
      cases e
      exact absurd rfl (d _)
  have kb : ∀ b o, K.lookup b = some o → H b = none := fun b o e => by
    cases z : H b with
    | none => rfl
    | some u =>
      obtain ⟨rfl, z2, _⟩ := at_ b u z
      rw [z2] at e
      cases e
  have ok : HOk P w H s1.heap := fun b u z => by
    obtain ⟨rfl, _, rfl⟩ := at_ b u z
    exact ⟨ha, by rw [List.length_map]; exact hl, vs, _, vals_ints hi, ha⟩
  have sq : SqL K H a (ns.map V.int) := by
    cases z : K.lookup a with
    | none =>
      refine .inl (.inr ⟨{ cls := .type "list", data := .seq vs.toArray }, ?_⟩)
      rw [hH]
      exact if_pos ⟨rfl, z⟩
    | some o =>
      have e := KX a o z
      rw [ha] at e
      cases e
      exact .inr ⟨_, vs.toArray, _, z, rfl, rfl, rfl, by rw [List.size_toArray, hi.length]; exact hl, by simpa using vals_ints hi⟩
  have only : Only H := fun b => by
    cases z : H b with
    | none => exact .inl rfl
    | some u =>
      obtain ⟨_, _, rfl⟩ := at_ b u z
      exact .inr ⟨_, _, rfl⟩
  have nsB : ∀ {b : Addr} {m : Str → Option Value}, s1.heap.Ns b m → (hidT s1.heap H).Ns b m := fun {b m} ⟨o, es, ep, e, d, r⟩ => ⟨o, es, ep, hidT_get e (off b o e (fun _ _ => trivial) fun n z => by rw [d] at z; cases z), d, r⟩
  have KB : K.In (hidT s1.heap H) := fun b o e => hidT_get (KX b o e) (kb b o e)
  have M : Mod K mg (hidT s1.heap H) := ⟨KB, nsB hns, ⟨mb, nsB hb, hbb⟩, let ⟨mc, h1, h2⟩ := hlim; ⟨mc, nsB h1, h2⟩⟩
  have E0' : Env0 P w K mg (hidT s1.heap H) callerA [] s1 H := ⟨rfl, M, fun b o e => of_hidT e, Nat.le_of_eq (hidT_size _ _), trivial, fun b z => absurd (show b ∈ ([] : List Addr) from z) (by simp), ok, .of_eq hg⟩
  refine codeAny_mono ((F _ KB (nsB hns)).go callerA rfl hr [] s1 H ⟨[.ref a], []⟩ [.ref a] [.ref a] _ _ E0' (hbind s1 (.ref a)) (.cons rfl .nil) (hsp H only sq)) fun r s' z => ?_
  match r, z with
  | .error e, z => exact (hCX H e s' z).elim
  | .ok .next, z => exact z.elim
  | .ok .brk, z => exact z.elim
  | .ok .cont, z => exact z.elim
  | .ok (.ret u), z =>
    obtain ⟨v, H', os, bare, un, ok', rv, q⟩ := z
    obtain rfl : v = .bl true := q
    obtain rfl : u = Value.bool true := rv
    refine ⟨rfl, OldK.of_keep fun b o e => ?_, os, bare⟩
    cases y : H b with
    | none => exact un.keep b o e y (fun c => absurd (show b ∈ ([] : List Addr) from c) (by simp)) (by simp)
    | some u =>
      obtain ⟨rfl, _, rfl⟩ := at_ b u y
      rw [ha] at e
      cases e
      exact (ok' _ _ (un.frzs _ _ _ y)).1
theorem walkG {l : PySem.W.OpenLaw} {n k : Nat} {q : Program} {loose : List Str} {XP : (Str → Option Value) → Heap → Prop} {YP : World → Heap → Prop} {d : DefRec} {K : Params → PySem.W.Frag} {sp : World → Sp} {x : Str}
    (hn : l.most = some n) (hn2 : n ≤ sizeLine) (hdf : d.params.defaults = []) (hr : Room k callerA) (hY : ∀ (w : World) (h : Heap), YP w h → (K w.params).In h)
    (F : ∀ (w : World) (mg : Str → Option Value) (fa : Addr) (h : Heap), (K w.params).In h → h.Ns mainGlobals mg → mg d.name = some (.ref fa) →
      ∃ fd : FuncData, (∀ (s : Shared) (u : Value), BindsTo s fd ⟨[u], []⟩ [(x, u)]) ∧ ∀ base : Heap, (K w.params).In base → base.Ns mainGlobals mg → FnG l.prog w (K w.params) mg base CX0 k fa fd [x] (sp w))
    (hsp : ∀ (w : World) (H : Hp) (a : Addr) (ns : List Int), ns.length ≤ n → Only H → SqL (K w.params) H a (ns.map V.int) → sp w [.ref a] H (fun v _ => v = .bl true) fun _ _ _ => False) :
    PySem.W.WalkO q loose XP YP l.row.toRowW d [] (fun f vs => PySem.call f vs) :=
  Att.attach_call hn hdf fun w s0 s1 mg mb fa o pm cd doc a vs ns G Y ho hd hcd hmg hobj hints hlen hg => by
    obtain ⟨fd, hb, hF⟩ := F w mg fa _ (hY w _ Y) G.T.g hmg
    exact law_callG (hY w _ Y) G.T.g G.T.b G.T.builtins G.T.nolimit hg hobj hints (Nat.le_trans hlen hn2) hr hF hb (fun H hO hS => hsp w H a ns hlen hO hS) fun H e s' z => z
end Wn
/-! repr of data -/
namespace Wn
open PySem PySem.Spec PyProof.Rows L2
/-- data that repr takes: leaves of at most B signs, weight at most W, depth at most D -/
structure Sm (d : PyData) (B D W : Nat) : Prop where
  show_ : d.showable = true
  leaf : d.leavesShort B = true
  nod : d.hasDict = false
  lay : d.canLay0 = true
  dep : d.depth ≤ D
  wei : d.bulk ≤ W
theorem Sm.all : ∀ {xs : List PyData} {B D W : Nat}, (∀ x ∈ xs, Sm x B D W) → PyData.showableAll xs = true ∧ PyData.leavesShortAll B xs = true ∧ PyData.hasDictAll xs = false ∧ PyData.canLayAll0 xs = true ∧ PyData.depthAll xs ≤ D ∧ PyData.bulkAll xs ≤ xs.length * (W + 1)
  | [], _, _, _, _ => ⟨rfl, rfl, rfl, rfl, Nat.zero_le _, Nat.zero_le _⟩
  | x :: xs, B, D, W, h => by
    obtain ⟨h1, h2, h3, h6, h4, h5⟩ := Sm.all (xs := xs) fun y hy => h y (List.mem_cons_of_mem _ hy)
    have hx := h x (List.mem_cons_self ..)
    refine ⟨?_, ?_, ?_, ?_, ?_, ?_⟩
    · show (x.showable && PyData.showableAll xs) = true
      rw [hx.show_, h1]
      rfl
    · show (x.leavesShort B && PyData.leavesShortAll B xs) = true
      rw [hx.leaf, h2]
      rfl
    · show (x.hasDict || PyData.hasDictAll xs) = false
      rw [hx.nod, h3]
      rfl
    · show (x.canLay0 && PyData.canLayAll0 xs) = true
      rw [hx.lay, h6]
      rfl
    · show max x.depth (PyData.depthAll xs) ≤ D
      exact Nat.max_le.mpr ⟨hx.dep, h4⟩
    · show x.bulk + 1 + PyData.bulkAll xs ≤ (xs.length + 1) * (W + 1)
      rw [Nat.succ_mul]
      have := hx.wei
      omega
theorem Sm.lst {xs : List PyData} {B D W : Nat} (n : Nat) (h : ∀ x ∈ xs, Sm x B D W) (hn : xs.length ≤ n) : Sm (.list xs) B (D + 1) (n * (W + 1)) := by
  obtain ⟨h1, h2, h3, h6, h4, h5⟩ := Sm.all h
  exact ⟨h1, h2, h3, h6, Nat.succ_le_succ h4, Nat.le_trans h5 (Nat.mul_le_mul_right _ hn)⟩
theorem Sm.tup {xs : List PyData} {B D W : Nat} (n : Nat) (h : ∀ x ∈ xs, Sm x B D W) (hn : xs.length ≤ n) : Sm (.tuple xs) B (D + 1) (n * (W + 1)) := by
  obtain ⟨h1, h2, h3, h6, h4, h5⟩ := Sm.all h
  exact ⟨h1, h2, h3, h6, Nat.succ_le_succ h4, Nat.le_trans h5 (Nat.mul_le_mul_right _ hn)⟩
theorem Sm.mono {d : PyData} {B D W D' W' : Nat} (h : Sm d B D W) (h1 : D ≤ D') (h2 : W ≤ W') : Sm d B D' W' := ⟨h.show_, h.leaf, h.nod, h.lay, Nat.le_trans h.dep h1, Nat.le_trans h.wei h2⟩
theorem log2_lt {a k : Nat} (hk : 1 ≤ k) (h : a < 2 ^ k) : a.log2 < k := by
  rcases Nat.eq_zero_or_pos a with z | z
  · rw [z, Nat.log2_zero]
    exact hk
  · exact (Nat.log2_lt (by omega)).mpr h
/-- a whole number below 10 ^ 12 and below 2 ^ k -/
theorem Sm.int {i : Int} {k : Nat} (hk : 1 ≤ k) (h : i.natAbs < 2 ^ k) (hk2 : k ≤ 39) : Sm (.int i) 13 0 k := by
  have hl := log2_lt hk h
  have h12 : i.natAbs < 10 ^ 12 := Nat.lt_of_lt_of_le h (Nat.le_trans (Nat.pow_le_pow_right (by decide) hk2) (by decide))
  refine ⟨?_, ?_, rfl, rfl, Nat.le_refl _, ?_⟩
  · show decide (i.natAbs.log2 < 1920) = true
    exact decide_eq_true (by omega)
  · show decide ((PyData.shown (.int i)).length ≤ 13) = true
    exact decide_eq_true (PyData.shown_int_le h12)
  · show 0 ≤ k
    omega
def Fits (d : PyData) : Prop := ∃ B D W, Sm d B D W ∧ 8 ≤ B ∧ D ≤ 100 ∧ (B + 2) * W + B ≤ 16777216
theorem Fits.len {d : PyData} (h : Fits d) : d.shown.length ≤ sizeLine := by
  obtain ⟨B, D, W, s, h1, h2, h3⟩ := h
  have := PyData.shown_le_bulk B h1 d s.leaf
  rw [sizeLine_eq]
  have : (B + 2) * d.bulk ≤ (B + 2) * W := Nat.mul_le_mul_left _ s.wei
  omega
theorem Fits.shaped {d : PyData} (h : d.canLay0 = true) (h2 : d.depth ≤ 64) : SeqAt.shaped d = true := by
  unfold SeqAt.shaped
  rw [h, decide_eq_true h2]
  rfl
theorem Sm.fits {d : PyData} {D W : Nat} (h : Sm d 13 D W) (h1 : D ≤ 64 := by decide) (h2 : W ≤ 1100000 := by decide) : Fits d := ⟨13, D, W, h, by decide, by omega, by omega⟩
theorem Sm.fitsB {d : PyData} {B D W : Nat} (h : Sm d B D W) (h0 : 8 ≤ B := by decide) (h1 : D ≤ 64 := by decide) (h2 : (B + 2) * W + B ≤ 16777216 := by decide) : Fits d := ⟨B, D, W, h, h0, by omega, h2⟩
theorem Sm.shaped {d : PyData} {B D W : Nat} (h : Sm d B D W) (h1 : D ≤ 64 := by decide) : SeqAt.shaped d = true := Fits.shaped h.lay (Nat.le_trans h.dep h1)
/-! data stands while lists and tuples stand -/
def Kp (H H' : Hp) : Prop := (∀ a xs, H a = some (.lst xs) → H' a = some (.lst xs)) ∧ (∀ a xs, H a = some (.tup xs) → H' a = some (.tup xs)) ∧ ∀ a o u, H a = some (.frz o u) → H' a = some (.frz o u)
theorem Kp.of {H H' : Hp} (g : Gr [] H H') : Kp H H' := ⟨fun a _ e => g a _ (by simp) e, fun a _ e => g a _ (by simp) e, fun a _ _ e => g a _ (by simp) e⟩
theorem Kp.ofM {H H' : Hp} {d : Addr} (g : Gr [d] H H') (h : ∃ kvs, H d = some (.dK kvs)) : Kp H H' := by
  obtain ⟨kvs, h⟩ := h
  have ne : ∀ {a o}, H a = some o → (∀ k, o ≠ .dK k) → a ∉ [d] := fun {a o} e k z => by
    rw [List.mem_singleton] at z
    subst z
    rw [h] at e
    exact k _ (Option.some.inj e).symm
  exact ⟨fun a _ e => g a _ (ne e fun _ z => by cases z) e, fun a _ e => g a _ (ne e fun _ z => by cases z) e, fun a _ _ e => g a _ (ne e fun _ z => by cases z) e⟩
theorem Kp.trans {H H1 H2 : Hp} (a : Kp H H1) (b : Kp H1 H2) : Kp H H2 := ⟨fun x _ e => b.1 x _ (a.1 x _ e), fun x _ e => b.2.1 x _ (a.2.1 x _ e), fun x _ _ e => b.2.2 x _ _ (a.2.2 x _ _ e)⟩
theorem Kp.sqL {K : PySem.W.Frag} {H H' : Hp} {a : Addr} {xs : List V} (k : Kp H H') (h : SqL K H a xs) : SqL K H' a xs := by
  rcases h with (h | ⟨o, h⟩) | h
  · exact .inl (.inl (k.1 _ _ h))
  · exact .inl (.inr ⟨o, k.2.2 _ _ _ h⟩)
  · exact .inr h
theorem Kp.sqT {K : PySem.W.Frag} {H H' : Hp} {a : Addr} {xs : List V} (k : Kp H H') (h : SqT K H a xs) : SqT K H' a xs := by
  rcases h with (h | ⟨o, h⟩) | h
  · exact .inl (.inl (k.2.1 _ _ h))
  · exact .inl (.inr ⟨o, k.2.2 _ _ _ h⟩)
  · exact .inr h
mutual
theorem Dp.kp {K : PySem.W.Frag} {H H' : Hp} (k : Kp H H') : ∀ {v : V} {d : PyData}, Dp K H v d → Dp K H' v d
  | _, _, .non => .non
  | _, _, .bl b => .bl b
  | _, _, .int i => .int i
  | _, _, .str x => .str x
  | _, _, .lst h1 h2 => .lst (k.sqL h1) (DpAll.kp k h2)
  | _, _, .tup h1 h2 => .tup (k.sqT h1) (DpAll.kp k h2)
theorem DpAll.kp {K : PySem.W.Frag} {H H' : Hp} (k : Kp H H') : ∀ {vs : List V} {ds : List PyData}, DpAll K H vs ds → DpAll K H' vs ds
  | _, _, .nil => .nil
  | _, _, .cons h1 h2 => .cons (Dp.kp k h1) (DpAll.kp k h2)
end
theorem dpAll_ints {K : PySem.W.Frag} {H : Hp} : ∀ ns : List Int, DpAll K H (ns.map V.int) (ns.map PyData.int)
  | [] => .nil
  | n :: r => .cons (.int n) (dpAll_ints r)
theorem dp_lst {K : PySem.W.Frag} {H : Hp} {a : Addr} {xs : List V} {ds : List PyData} (h : H a = some (.lst xs)) (h2 : DpAll K H xs ds) : Dp K H (.ref a) (.list ds) := .lst (sq_lst h) h2
theorem dp_tup {K : PySem.W.Frag} {H : Hp} {a : Addr} {xs : List V} {ds : List PyData} (h : H a = some (.tup xs)) (h2 : DpAll K H xs ds) : Dp K H (.ref a) (.tuple ds) := .tup (sq_tup h) h2
def rRepr (K : PySem.W.Frag) : List V → Hp → VK → Prop := fun xs H Q => ∃ (x : V) (d : PyData), xs = [x] ∧ Dp K H x d ∧ Fits d ∧ Q (.str d.shown) H
theorem call_repr {X : Cx} (hg : X.A.guards = some []) (hu : X.A.units + 200 < cLine) : CallR X (.builtin "repr") (rRepr X.K) := by
  intro pins s σ H xs us Q I r h
  obtain ⟨x, d, rfl, hd, hf, q⟩ := h
  obtain ⟨u, rfl, rx⟩ := vals1 r
  have fin : ∀ tk' tk, EP X pins σ Q (.str d.shown tk) { s with toks := tk' } := fun tk' tk => ⟨.str _, H, I.tok _, ⟨_, rfl⟩, q⟩
  have hl := hf.len
  cases hd with
  | non =>
    obtain rfl : u = Value.none := rx
    exact PySem.P.repr_of_none (fin _ _)
  | bl b =>
    obtain rfl : u = Value.bool b := rx
    exact PySem.P.repr_of_bool (fin _ _)
  | int i =>
    obtain ⟨t, rfl⟩ := rx
    obtain ⟨B, D, W, sm, _⟩ := hf
    exact PySem.P.repr_of_int (of_decide_eq_true sm.show_) (fin _ _)
  | str y =>
    obtain ⟨t, rfl⟩ := rx
    exact PySem.P.repr_of_str (fin _ _) hl
  | lst h1 h2 =>
    rename_i a xs ds
    obtain rfl : u = Value.ref a := rx
    obtain ⟨as, rd⟩ := Dp.reads I (.list ds) (.ref a) (.ref a) (.lst h1 h2) rfl
    obtain ⟨B, D, W, sm, _, hD, _⟩ := hf
    have := sm.dep
    refine repr_of_reads' rd sm.show_ (fun z => absurd (sm.nod.symm.trans z) (by decide)) hg (by omega) (fun _ _ e => e) (fun h' u tk k => ⟨.str _, H, I.un (Un.kept k) (I.hok.kept k), ⟨_, rfl⟩, q⟩) hl
  | tup h1 h2 =>
    rename_i a xs ds
    obtain rfl : u = Value.ref a := rx
    obtain ⟨as, rd⟩ := Dp.reads I (.tuple ds) (.ref a) (.ref a) (.tup h1 h2) rfl
    obtain ⟨B, D, W, sm, _, hD, _⟩ := hf
    have := sm.dep
    refine repr_of_reads' rd sm.show_ (fun z => absurd (sm.nod.symm.trans z) (by decide)) hg (by omega) (fun _ _ e => e) (fun h' u tk k => ⟨.str _, H, I.un (Un.kept k) (I.hok.kept k), ⟨_, rfl⟩, q⟩) hl
theorem gu_of {A : Around} {k : Nat} (hr : Room k A) : A.units + 200 < cLine := by
  have := hr.un
  omega
end Wn
/-! expressions that give data and leave all as it was -/
namespace Wn
open PySem PySem.Spec PyProof.Rows L2
section
variable {K : PySem.W.Frag} {σ : L2.St} {H : Hp}
def EvD (K : PySem.W.Frag) (te : TE) (σ : L2.St) (H : Hp) (d : PyData) : Prop := ∀ H1, Gr [] H H1 → ∀ Q : VK, (∀ v H2, Gr [] H1 H2 → Dp K H2 v d → Q v H2) → te σ H1 Q
def EvS (K : PySem.W.Frag) (ta : TA) (σ : L2.St) (H : Hp) (ds : List PyData) : Prop := ∀ H1, Gr [] H H1 → ∀ Q : List V → Hp → Prop, (∀ vs H2, Gr [] H1 H2 → DpAll K H2 vs ds → Q vs H2) → ta σ H1 Q
/-- a list that stands as such -/
def EvL (K : PySem.W.Frag) (te : TE) (σ : L2.St) (H : Hp) (ds : List PyData) : Prop := ∀ H1, Gr [] H H1 → ∀ Q : VK, (∀ p xs H2, Gr [] H1 H2 → H2 p = some (.lst xs) → DpAll K H2 xs ds → Q (.ref p) H2) → te σ H1 Q
theorem EvD.on {te : TE} {d : PyData} {H' : Hp} (h : EvD K te σ H d) (g : Gr [] H H') : EvD K te σ H' d := fun H1 g1 Q q => h H1 (g.trans g1) Q q
theorem EvL.d {te : TE} {ds : List PyData} (h : EvL K te σ H ds) : EvD K te σ H (.list ds) := fun H1 g Q q => h H1 g Q fun p xs H2 g2 e a => q _ H2 g2 (dp_lst e a)
theorem ev_var {i : Nat} {v : V} {d : PyData} (e : σ[i]? = some (some v)) (h : Dp K H v d) : EvD K (tVar i) σ H d := fun H1 g Q q => ⟨v, e, q v H1 (Gr.refl _ _) (Dp.kp (Kp.of g) h)⟩
theorem ev_varL {i : Nat} {p : Addr} {xs : List V} {ds : List PyData} (e : σ[i]? = some (some (.ref p))) (h : H p = some (.lst xs)) (a : DpAll K H xs ds) : EvL K (tVar i) σ H ds :=
  fun H1 g Q q => ⟨_, e, q p xs H1 (Gr.refl _ _) (g _ _ (by simp) h) (DpAll.kp (Kp.of g) a)⟩
theorem ev_int {i : Int} : EvD K (tC (.int i)) σ H (.int i) := fun H1 _ Q q => q _ H1 (Gr.refl _ _) (.int i)
theorem ev_bl {i : Bool} : EvD K (tC (.bl i)) σ H (.bool i) := fun H1 _ Q q => q _ H1 (Gr.refl _ _) (.bl i)
theorem ev_str {i : Str} : EvD K (tC (.str i)) σ H (.str i) := fun H1 _ Q q => q _ H1 (Gr.refl _ _) (.str i)
theorem ev_non : EvD K (tC .non) σ H .none := fun H1 _ Q q => q _ H1 (Gr.refl _ _) .non
theorem es_nil : EvS K tNil σ H [] := fun H1 _ Q q => q _ H1 (Gr.refl _ _) .nil
theorem es_cons {te : TE} {ta : TA} {d : PyData} {ds : List PyData} (h : EvD K te σ H d) (r : EvS K ta σ H ds) : EvS K (tCons te ta) σ H (d :: ds) := fun H1 g Q q =>
  h H1 g _ fun v H2 g2 dv => r H2 (g.trans g2) _ fun vs H3 g3 dvs => q _ H3 (g2.trans g3) (.cons (Dp.kp (Kp.of g3) dv) dvs)
theorem dpAll_len {H : Hp} : ∀ {vs : List V} {ds : List PyData}, DpAll K H vs ds → vs.length = ds.length
  | _, _, .nil => rfl
  | _, _, .cons _ t => congrArg (· + 1) (dpAll_len t)
theorem ev_tup {ta : TA} {ds : List PyData} (h : EvS K ta σ H ds) (hz : ds.length ≤ 1000 := by exact Nat.le_of_ble_eq_true rfl) : EvD K (tTup ta) σ H (.tuple ds) := fun H1 g Q q =>
  h H1 g _ fun vs H2 g2 a => ⟨by rw [dpAll_len a]; exact Nat.le_of_lt (small1000 hz), fun p np => q _ _ (g2.trans (Gr.new np)) (dp_tup upd_same (DpAll.kp (Kp.of (Gr.new np)) a))⟩
theorem el_lst {ta : TA} {ds : List PyData} (h : EvS K ta σ H ds) (hz : ds.length ≤ 1000 := by exact Nat.le_of_ble_eq_true rfl) : EvL K (tLst ta) σ H ds := fun H1 g Q q =>
  h H1 g _ fun vs H2 g2 a => ⟨by rw [dpAll_len a]; exact Nat.le_of_lt (small1000 hz), fun p np => q _ _ _ (g2.trans (Gr.new np)) upd_same (DpAll.kp (Kp.of (Gr.new np)) a)⟩
theorem ev_lst {ta : TA} {ds : List PyData} (h : EvS K ta σ H ds) (hz : ds.length ≤ 1000 := by exact Nat.le_of_ble_eq_true rfl) : EvD K (tLst ta) σ H (.list ds) := (el_lst h hz).d
theorem dpAll_append {H : Hp} : ∀ {vs ws : List V} {ds es : List PyData}, DpAll K H vs ds → DpAll K H ws es → DpAll K H (vs ++ ws) (ds ++ es)
  | _, _, _, _, .nil, b => b
  | _, _, _, _, .cons h t, b => .cons h (dpAll_append t b)
theorem el_cat {ta tb : TE} {ds es : List PyData} (h1 : EvL K ta σ H ds) (h2 : EvL K tb σ H es) (hz : ds.length + es.length ≤ 1000 := by exact Nat.le_of_ble_eq_true rfl) : EvL K (tOp rCat ta tb) σ H (ds ++ es) := fun H1 g Q q =>
  h1 H1 g _ fun p xs H2 g2 e2 a2 => h2 H2 (g.trans g2) _ fun p3 ys H3 g3 e3 a3 => by
    have e2' := g3 _ _ (by simp) e2
    refine ⟨p, p3, xs, ys, rfl, rfl, e2', e3, by rw [dpAll_len a2, dpAll_len a3]; exact Nat.le_of_lt (small1000 hz), fun p4 np => ?_⟩
    exact q p4 _ _ ((g2.trans g3).trans (Gr.new np)) upd_same (dpAll_append (DpAll.kp (Kp.of (g3.trans (Gr.new np))) a2) (DpAll.kp (Kp.of (Gr.new np)) a3))
/-! two data compared -/
theorem ev_eq {ta tb : TE} {d e : PyData} (h1 : EvD K ta σ H d) (h2 : EvD K tb σ H e) (s1 : SeqAt.shaped d = true) (s2 : SeqAt.shaped e = true) : EvD K (tOp (rEqD K) ta tb) σ H (.bool (PyData.eqv d e)) := fun H1 g Q q =>
  h1 H1 g _ fun v H2 g2 a => h2 H2 (g.trans g2) _ fun w H3 g3 b => ⟨d, e, Dp.kp (Kp.of g3) a, b, s1, s2, q _ H3 (g2.trans g3) (.bl _)⟩
theorem ev_ne {ta tb : TE} {d e : PyData} (h1 : EvD K ta σ H d) (h2 : EvD K tb σ H e) (s1 : SeqAt.shaped d = true) (s2 : SeqAt.shaped e = true) : EvD K (tOp (rNeD K) ta tb) σ H (.bool (!PyData.eqv d e)) := fun H1 g Q q =>
  h1 H1 g _ fun v H2 g2 a => h2 H2 (g.trans g2) _ fun w H3 g3 b => ⟨d, e, Dp.kp (Kp.of g3) a, b, s1, s2, q _ H3 (g2.trans g3) (.bl _)⟩
theorem iteFb {b : Bool} {A B : Prop} (h : b = false) (x : B) : if b = true then A else B := by
  rw [h]
  exact iteF x
theorem iteTb {b : Bool} {A B : Prop} (h : b = true) (x : A) : if b = true then A else B := by
  rw [h]
  exact iteT x
/-! statements over them -/
theorem st_asgD {te : TE} {i : Nat} {d : PyData} {D : Ends} (h : EvD K te σ H d) (k : ∀ v H2, Gr [] H H2 → Dp K H2 v d → D.nx (σ.set i (some v)) H2) : tAsg te (gName i) D σ H := h H (Gr.refl _ _) _ k
theorem st_asgL {te : TE} {i : Nat} {ds : List PyData} {D : Ends} (h : EvL K te σ H ds) (k : ∀ p xs H2, Gr [] H H2 → H2 p = some (.lst xs) → DpAll K H2 xs ds → D.nx (σ.set i (some (.ref p))) H2) : tAsg te (gName i) D σ H := h H (Gr.refl _ _) _ k
theorem dp_bool {H : Hp} {v : V} {b : Bool} (h : Dp K H v (.bool b)) : v = .bl b := by cases h; rfl
theorem dp_int {H : Hp} {v : V} {b : Int} (h : Dp K H v (.int b)) : v = .int b := by cases h; rfl
theorem st_retB {te : TE} {b : Bool} {D : Ends} (h : EvD K te σ H (.bool b)) (k : ∀ H2, Gr [] H H2 → D.rt (.bl b) H2) : tRet te D σ H := h H (Gr.refl _ _) _ fun v H2 g e => by rw [dp_bool e]; exact k H2 g
/-- a test that is data -/
theorem tt_of {te : TE} {b : Bool} {H1 : Hp} {Q : Bool → Hp → Prop} (h : EvD K te σ H (.bool b)) (g : Gr [] H H1) (q : ∀ H2, Gr [] H1 H2 → Q b H2) : tTest te σ H1 Q := h H1 g _ fun v H2 g2 e => ⟨b, dp_bool e, q H2 g2⟩
theorem tb_of {te : TE} {b : Bool} {H1 : Hp} {Q : Bool → Hp → Prop} (h : EvD K te σ H (.bool b)) (g : Gr [] H H1) (q : ∀ H2, Gr [] H1 H2 → Q b H2) : tB te σ H1 Q := h H1 g _ fun v H2 g2 e => ⟨b, dp_bool e, q H2 g2⟩
theorem ev_andV {ta tb : TE} {a b : Bool} (h1 : EvD K ta σ H (.bool a)) (h2 : EvD K tb σ H (.bool b)) : EvD K (tAndV ta tb) σ H (.bool (a && b)) := fun H1 g Q q =>
  h1 H1 g _ fun v H2 g2 e => ⟨a, dp_bool e, by
    cases a with
    | true => exact iteT (h2 H2 (g.trans g2) _ fun w H3 g3 e3 => q w H3 (g2.trans g3) e3)
    | false => exact iteF (q _ H2 g2 (.bl false))⟩
end
end Wn
/-! sum of a tuple of whole numbers -/
namespace Wn
open PySem PySem.Spec PyProof.Rows L2
section
variable {prog : Program} {w : World} {A : Around} {E : Value → Shared → Prop} {s : Shared} {l : Addr} {its : List Value} {ns : List Int} {Q : Value → Shared → Prop}
theorem sum_tup0 {xs : Array (Int × Tok)} (hh : A.handled = none) (hl : s.heap.IsTuple l (intItems xs))
    (h : ∀ h' tk t', (∀ b o, s.heap.get? b = some o → h'.get? b = some o) → Q (.int (preSum (numAt xs) xs.size) t') { s with heap := h', toks := tk }) : wpAny (model prog w) A (call (.builtin "sum") [.ref l]) Q E s := by
  refine call_sum_walkG (wpAny_pyIter_tuple hl ?_)
  obtain ⟨o, ho, hc, n, hd⟩ := hl
  have lt : l < s.heap.objs.size := Heap.lt_size ho
  have kp : ∀ b u, s.heap.get? b = some u → (s.heap.push { cls := .type "tuple_iterator", data := .fields #[.ref l, .int 0 0] }).get? b = some u := fun b u e => Heap.get?_push_of_some _ e
  refine ⟨s.heap.objs.size, _, _, _, _, _, numAt xs, rfl, Walks.tuple (A := A.in1) hh s.heap.objs.size l (Nat.ne_of_lt lt) (intItems xs), ⟨⟨_, Heap.get?_push_size _ rfl, rfl, rfl⟩, ⟨o, kp _ _ ho, hc, n, hd⟩⟩, fun b hb => ?_, fun _ _ => intItems_at, fun h' tk t' hk => ?_⟩
  · have hz : (s.heap.push { cls := .type "tuple_iterator", data := .fields #[.ref l, .int 0 0] }).objs.size = s.heap.objs.size + 1 := by simp [Heap.push]
    simp only [List.mem_cons, List.not_mem_nil, or_false] at hb
    show b < (s.heap.push _).objs.size
    rw [hz]
    rcases hb with rfl | rfl
    · exact Nat.lt_succ_self _
    · exact Nat.lt_succ_of_lt lt
  · have := h h' tk t' (fun b u e => hk b u (by
      rw [List.mem_singleton]
      exact Nat.ne_of_lt (Heap.lt_size e)) (kp b u e))
    simpa [intItems] using this
theorem sum_tup (hh : A.handled = none) (hl : s.heap.IsTuple l its.toArray) (hi : IntsAre its ns)
    (h : ∀ h' tk t', (∀ b o, s.heap.get? b = some o → h'.get? b = some o) → Q (.int ns.sum t') { s with heap := h', toks := tk }) : wpAny (model prog w) A (call (.builtin "sum") [.ref l]) Q E s := by
  obtain ⟨xs, e⟩ := hi.allInts.items
  have hn : numsOf (intItems xs).toList = ns := by
    rw [← e]
    exact hi.numsOf
  rw [nums_intItems] at hn
  rw [e] at hl
  refine sum_tup0 hh hl fun h' tk t' hk => ?_
  have := h h' tk t' hk
  rw [preSum_eq, List.take_of_length_le (by simp), hn]
  exact this
end
def rSumT (K : PySem.W.Frag) : List V → Hp → VK → Prop := fun vs H Q => ∃ (a : Addr) (ns : List Int), vs = [V.ref a] ∧ SqT K H a (ns.map V.int) ∧ Q (.int ns.sum) H
theorem cr_sumT {X : Cx} (hc : X.calm = true) : CallR X (.builtin "sum") (rSumT X.K) := by
  intro pins s σ H vs us Q I r h
  obtain ⟨a, ns, rfl, hs, q⟩ := h
  obtain ⟨its, rv, hl, _⟩ := I.tuple hs
  rw [Vals.ref1 r]
  exact sum_tup (I.ok.hd hc) hl rv.ints fun h' tk t' hk => ⟨.int _, H, I.kept hk, ⟨_, rfl⟩, q⟩
end Wn
/-! a list with a step: xs[::k] -/
namespace Wn
open PySem PySem.Spec PyProof.Rows L2
def stepV (xs : List V) (k : Nat) : List V := (List.range ((xs.length + k - 1) / k)).filterMap fun i => xs[k * i]?
theorem vals_picks {xs : List V} {us : List Value} (r : Vals xs us) (f : Nat → Nat) : ∀ js : List Nat, Vals (js.filterMap fun i => xs[f i]?) (js.filterMap fun i => us[f i]?)
  | [] => .nil
  | j :: js => by
    have ih := vals_picks r f js
    cases e : xs[f j]? with
    | none =>
      have e2 := r.none_of e
      rw [List.filterMap_cons, List.filterMap_cons, e, e2]
      exact ih
    | some x =>
      obtain ⟨u, e2, h⟩ := r.get e
      rw [List.filterMap_cons, List.filterMap_cons, e, e2]
      exact .cons h ih
theorem pick_step (us : List Value) {k : Nat} (hk : 1 ≤ k) : slicePick us.toArray none none (some (k : Int)) = ((List.range ((us.length + k - 1) / k)).filterMap fun i => us[k * i]?).toArray := by
  have e : sliceBounds none none (some (k : Int)) us.toArray.size = ((0 : Int), (us.length : Int), (k : Int)) := by
    have h : (k : Int) > 0 := by omega
    simp only [sliceBounds, Option.getD_some, h, if_true, List.size_toArray]
  unfold slicePick
  rw [e]
  show (List.filterMap (fun i => us.toArray[i]?) (sliceRange 0 (us.length : Int) (k : Int))).toArray = _
  congr 1
  have e2 : sliceRange 0 (us.length : Int) (k : Int) = (List.range ((us.length + k - 1) / k)).map fun i => k * i := by
    unfold sliceRange
    have h : (k : Int) > 0 := by omega
    rw [if_pos h]
    have c : (if (0 : Int) < (us.length : Int) then ((us.length : Int) - 0 + k - 1) / k else 0).toNat = (us.length + k - 1) / k := by
      by_cases z : (0 : Int) < (us.length : Int)
      · rw [if_pos z, show ((us.length : Int) - 0 + k - 1) = ((us.length + k - 1 : Nat) : Int) by omega, ← Int.natCast_ediv]
        rfl
      · rw [if_neg z]
        have : us.length = 0 := by omega
        rw [this, Nat.zero_add, Nat.div_eq_of_lt (by omega)]
        rfl
    dsimp only
    rw [c]
    apply List.map_congr_left
    intro i _
    rw [Int.zero_add, ← Int.natCast_mul]
    rfl
  rw [e2, List.filterMap_map]
  congr 1
  funext i
  simp
theorem stepV_len (xs : List V) (k : Nat) (hk : 1 ≤ k) : (stepV xs k).length ≤ xs.length := by
  unfold stepV
  refine Nat.le_trans (List.length_filterMap_le _ _) ?_
  rw [List.length_range]
  rcases Nat.eq_zero_or_pos xs.length with z | z
  · rw [z, Nat.zero_add, Nat.div_eq_of_lt (by omega)]
    exact Nat.le_refl _
  · refine Nat.lt_succ_iff.mp ((Nat.div_lt_iff_lt_mul (by omega)).mpr ?_)
    have : xs.length * 1 ≤ xs.length * k := Nat.mul_le_mul_left _ hk
    rw [Nat.succ_mul]
    omega
def rStL (K : PySem.W.Frag) : V → V → Hp → VK → Prop := fun x y H Q => ∃ (a : Addr) (xs : List V) (k : Nat), x = .ref a ∧ y = .int k ∧ 1 ≤ k ∧ SqL K H a xs ∧ ∀ p, H p = none → Q (.ref p) (upd H p (.lst (stepV xs k)))
def tStL (r : R2) (te ts : TE) : TE := fun σ H Q => te σ H fun x H1 => ts σ H1 fun y H2 => r x y H2 Q
variable {X : Cx} {e st : Expr} {te ts : TE} {pos p2 : Pos}
theorem pe_stepL {r : R2} (he : PE X e te) (hs : PE X st ts) (hr : r = rStL X.K := by rfl) : PE X (.Subscript e (.Slice none none (some st) p2) pos) (tStL r te ts) := by
  subst hr
  refine ⟨fun pins s σ H Q I h => ?_⟩
  refine Subscript_ (thn (he.run pins s σ H _ I h) fun v s1 ⟨x, H1, I1, r1, q1⟩ => ?_)
  refine wpAny_Slice ?_
  rw [evalPart_none]
  refine wpAny_pure (wpAny_pure ?_)
  rw [evalPart_some]
  refine thn (hs.run pins s1 σ H1 _ I1 q1) fun vs s3 ⟨y, H3, I3, ry, q3⟩ => ?_
  obtain ⟨a, xs, k, rfl, rfl, hk, hx, q⟩ := q3
  cases r1
  obtain ⟨t, rfl⟩ := ry
  have I4 : Inv X pins σ H3 { s3 with heap := s3.heap.push { cls := .type "slice", data := .fields #[.none, .none, .int k t] } } := I3.kept (t' := s3.toks) fun b ob q => Heap.get?_push_of_some _ q
  obtain ⟨its, r, ht, hz⟩ := I4.list hx
  have hlen := r.length
  have hg : wpAny (model X.prog X.w) X.A (getItem (.ref a) (.ref s3.heap.objs.size)) (EP X pins σ Q) X.xe { s3 with heap := s3.heap.push { cls := .type "slice", data := .fields #[.none, .none, .int k t] } } := by
    refine wpAny_getItem_list_slice (st := some (k : Int)) ht.isList (Heap.IsSliceOf.new ..) .none .none (.int _ _) (by intro z; have := Option.some.inj z; omega) ?_ (by rw [List.size_toArray] <;> omega)
    rw [pick_step its hk, ← hlen]
    refine ⟨.ref _, _, I4.laid (t' := s3.toks) (o := .lst (stepV xs k)) (fun b ob q => Heap.get?_push_of_some _ q) (Nat.le_refl _) ?_, rfl, q _ (I4.hok.fresh (Nat.le_refl _))⟩
    exact ⟨Nat.le_trans (stepV_len xs k hk) hz, _, 0, vals_picks r _ _, Heap.get?_push_size _ rfl⟩
  show wpAny (model X.prog X.w) X.A (subscriptTail e (.Slice none none (some st) p2) (.ref a) (.ref s3.heap.objs.size)) (EP X pins σ Q) X.xe { s3 with heap := s3.heap.push { cls := .type "slice", data := .fields #[.none, .none, .int k t] } }
  exact tail_any (ops := [.ref a, .ref s3.heap.objs.size]) ht.isList.typeIs slot_list_getitem.lookup hg (by with_unfolding_all rfl)
end Wn
/-! sums of powers, and which cuts balance -/
namespace Wn
open PySem PySem.Spec PyProof.Rows L2
def geo (g : Nat) : Nat → Nat
  | 0 => 0
  | c + 1 => geo g c + g ^ c
theorem geo_add (g a : Nat) : ∀ d, geo g (a + d) = geo g a + g ^ a * geo g d
  | 0 => by simp [geo]
  | d + 1 => by
    rw [← Nat.add_assoc]
    show geo g (a + d) + g ^ (a + d) = geo g a + g ^ a * (geo g d + g ^ d)
    rw [geo_add g a d, Nat.mul_add, Nat.pow_add, Nat.add_assoc]
theorem geo_mul (g m : Nat) : ∀ c, geo g (m * c) = geo g m * geo (g ^ m) c
  | 0 => by simp [geo]
  | c + 1 => by
    show geo g (m * c + m) = geo g m * (geo (g ^ m) c + (g ^ m) ^ c)
    rw [geo_add, geo_mul g m c, Nat.mul_add, ← Nat.pow_mul, Nat.mul_comm (g ^ (m * c))]
theorem geo_tel (g : Nat) : ∀ c, geo g c * g + 1 = geo g c + g ^ c
  | 0 => by simp [geo]
  | c + 1 => by
    show (geo g c + g ^ c) * g + 1 = geo g c + g ^ c + g ^ (c + 1)
    rw [Nat.add_mul, Nat.pow_succ]
    have := geo_tel g c
    omega
def restSum (b n x s c : Nat) : Nat := ((List.range c).map fun i => rem b n x (s * i)).sum
theorem restSum_succ (b n x s c : Nat) : restSum b n x s (c + 1) = restSum b n x s c + rem b n x (s * c) := by
  unfold restSum
  rw [List.range_succ, List.map_append, List.sum_append]
  simp
theorem restSum_mod (b n x s : Nat) : ∀ c, restSum b n x s c % n = x * geo (b ^ s) c % n
  | 0 => by simp [restSum, geo]
  | c + 1 => by
    rw [restSum_succ, Nat.add_mod, restSum_mod b n x s c]
    show (_ + rem b n x (s * c) % n) % n = x * (geo (b ^ s) c + (b ^ s) ^ c) % n
    rw [Nat.mul_add, Nat.add_mod (x * _)]
    unfold rem
    rw [Nat.mod_mod, Nat.pow_mul]
def bal (b n s c : Nat) : Bool := decide (restSum b n 1 s c % n = 0)
theorem bal_iff {b n s c : Nat} : bal b n s c = true ↔ n ∣ geo (b ^ s) c := by
  unfold bal
  rw [decide_eq_true_eq, restSum_mod, Nat.one_mul]
  exact (Nat.dvd_iff_mod_eq_zero ..).symm
theorem bal_mul {b n s c m : Nat} (h : bal b n (m * s) c = true) : bal b n s (m * c) = true := by
  rw [bal_iff] at h ⊢
  rw [geo_mul, ← Nat.pow_mul, Nat.mul_comm s m]
  exact Nat.dvd_trans h (Nat.dvd_mul_left _ _)
theorem bal_prime {b n s c L : Nat} (hb : 1 ≤ b) (hn : 2 ≤ n) (hp : ∀ k, 2 ≤ k → k < n → ¬ n % k = 0) (hL : IsPer b n L) (hc : 2 ≤ c) (hs : 1 ≤ s) (e : L = s * c) : bal b n s c = true := by
  rw [bal_iff]
  have hsL : s < L := by
    rw [e]
    have : s * 2 ≤ s * c := Nat.mul_le_mul_left _ hc
    omega
  have g1 : 1 ≤ b ^ s := Nat.one_le_pow _ _ hb
  have h1 : (b ^ s) ^ c % n = 1 % n := by
    rw [← Nat.pow_mul, ← e]
    exact hL.2.1
  have h2 : ¬ n ∣ b ^ s - 1 := fun z => hL.2.2 s hs hsL ((mod_iff g1).mpr z).symm
  have t := geo_tel (b ^ s) c
  have t2 : geo (b ^ s) c * (b ^ s - 1) = (b ^ s) ^ c - 1 := by
    rw [Nat.mul_sub, Nat.mul_one]
    omega
  have h3 : n ∣ geo (b ^ s) c * (b ^ s - 1) := by
    rw [t2]
    exact (mod_iff (Nat.one_le_pow _ _ g1)).mp h1.symm
  have hd : Nat.gcd n (b ^ s - 1) ∣ n := Nat.gcd_dvd_left _ _
  have hdn := Nat.le_of_dvd (by omega) hd
  have hd0 : 1 ≤ Nat.gcd n (b ^ s - 1) := Nat.gcd_pos_of_pos_left _ (by omega)
  have hd1 : Nat.gcd n (b ^ s - 1) = 1 := by
    rcases Nat.lt_or_eq_of_le hdn with z | z
    · rcases Nat.lt_or_eq_of_le hd0 with y | y
      · exact absurd (Nat.mod_eq_zero_of_dvd hd) (hp _ y z)
      · exact y.symm
    · exact absurd (z ▸ Nat.gcd_dvd_right n (b ^ s - 1)) h2
  exact Nat.Coprime.dvd_of_dvd_mul_right hd1 h3
/-! which cuts -/
def from2 (k : Nat) : List Nat := (List.range k).map (2 + ·)
theorem from2_succ (k : Nat) : from2 (k + 1) = from2 k ++ [2 + k] := by
  unfold from2
  rw [List.range_succ, List.map_append]
  rfl
theorem mem_from2 {k c : Nat} : c ∈ from2 k ↔ 2 ≤ c ∧ c < 2 + k := by
  unfold from2
  rw [List.mem_map]
  constructor
  · rintro ⟨i, hi, rfl⟩
    rw [List.mem_range] at hi
    omega
  · rintro ⟨h1, h2⟩
    exact ⟨c - 2, List.mem_range.mpr (by omega), by omega⟩
def splitsL (L : Nat) : List Nat := (from2 (L - 1)).filter fun c => decide (L % c = 0)
theorem mem_splits {L c : Nat} (hL : 1 ≤ L) : c ∈ splitsL L ↔ 2 ≤ c ∧ c ∣ L := by
  unfold splitsL
  rw [List.mem_filter, mem_from2, decide_eq_true_eq]
  constructor
  · rintro ⟨⟨h1, h2⟩, h3⟩
    exact ⟨h1, Nat.dvd_of_mod_eq_zero h3⟩
  · rintro ⟨h1, h2⟩
    have := Nat.le_of_dvd hL h2
    exact ⟨⟨h1, by omega⟩, Nat.mod_eq_zero_of_dvd h2⟩
def dueL (b n L : Nat) : List Nat := (splitsL L).filter fun c => bal b n (L / c) c
def below (xs : List Nat) (c : Nat) : List Nat := xs.filter fun k => decide (k < c) && decide (c % k = 0)
def isLeast (xs : List Nat) (c : Nat) : Bool := (below xs c).isEmpty
def leastL (xs : List Nat) : List Nat := xs.filter (isLeast xs)
theorem asc_splits (L : Nat) : (splitsL L).Pairwise (· < ·) := by
  unfold splitsL from2
  refine List.Pairwise.filter _ ?_
  rw [List.pairwise_map]
  exact List.Pairwise.imp (fun h => by omega) List.pairwise_lt_range
theorem asc_due (b n L : Nat) : (dueL b n L).Pairwise (· < ·) := (asc_splits L).filter _
theorem isLeast_iff {xs : List Nat} {c : Nat} : isLeast xs c = true ↔ ∀ k ∈ xs, k < c → ¬ c % k = 0 := by
  unfold isLeast below
  rw [List.isEmpty_iff, List.filter_eq_nil_iff]
  constructor
  · intro h k hk hc hm
    exact h k hk (by rw [decide_eq_true hc, decide_eq_true hm]; rfl)
  · intro h k hk hm
    rw [Bool.and_eq_true, decide_eq_true_eq, decide_eq_true_eq] at hm
    exact h k hk hm.1 hm.2
theorem least_under {xs : List Nat} (h2 : ∀ k ∈ xs, 1 ≤ k) : ∀ (m k : Nat), k ≤ m → k ∈ xs → ∃ k0 ∈ xs, k0 ∣ k ∧ isLeast xs k0 = true
  | 0, k, hm, hk => absurd (h2 k hk) (by omega)
  | m + 1, k, hm, hk => by
    by_cases h : isLeast xs k = true
    · exact ⟨k, hk, Nat.dvd_refl k, h⟩
    · rw [isLeast_iff] at h
      have : ∃ j, j ∈ xs ∧ j < k ∧ k % j = 0 := by
        apply Classical.byContradiction
        intro z
        exact h fun j hj hl hm' => z ⟨j, hj, hl, hm'⟩
      obtain ⟨j, hj, hl, hm'⟩ := this
      obtain ⟨k0, h0, hd, hs⟩ := least_under h2 m j (by omega) hj
      exact ⟨k0, h0, Nat.dvd_trans hd (Nat.dvd_of_mod_eq_zero hm'), hs⟩
/-- the look at the least ones found so far -/
theorem least_step {xs : List Nat} (h2 : ∀ k ∈ xs, 1 ≤ k) (asc : xs.Pairwise (· < ·)) {i : Nat} (hi : i < xs.length) :
    (((xs.take i).filter (isLeast xs)).map fun k => !decide (xs[i] % k = 0)).all id = isLeast xs xs[i] := by
  rw [Bool.eq_iff_iff, List.all_map, List.all_eq_true, isLeast_iff]
  have lt : ∀ k ∈ xs.take i, k < xs[i] := fun k hk => by
    obtain ⟨j, hj, rfl⟩ := List.mem_iff_getElem.mp hk
    rw [List.length_take] at hj
    rw [List.getElem_take]
    exact List.pairwise_iff_getElem.mp asc j i (by omega) hi (by omega)
  have back : ∀ k ∈ xs, k < xs[i] → k ∈ xs.take i := fun k hk hl => by
    obtain ⟨j, hj, rfl⟩ := List.mem_iff_getElem.mp hk
    rw [List.mem_iff_getElem]
    have hji : j < i := by
      rcases Nat.lt_trichotomy j i with z | z | z
      · exact z
      · subst z
        omega
      · have := List.pairwise_iff_getElem.mp asc i j hi hj z
        omega
    exact ⟨j, by rw [List.length_take]; omega, by rw [List.getElem_take]⟩
  constructor
  · intro h k hk hl hm
    obtain ⟨k0, h0, hd, hs⟩ := least_under h2 k k (Nat.le_refl _) hk
    have hk0 : k0 < xs[i] := Nat.lt_of_le_of_lt (Nat.le_of_dvd (h2 k hk) hd) hl
    have := h k0 (List.mem_filter.mpr ⟨back k0 h0 hk0, hs⟩)
    rw [Function.comp_apply, id_eq, Bool.not_eq_true', decide_eq_false_iff_not] at this
    exact this (Nat.mod_eq_zero_of_dvd (Nat.dvd_trans hd (Nat.dvd_of_mod_eq_zero hm)))
  · intro h k hk
    obtain ⟨hk1, hk2⟩ := List.mem_filter.mp hk
    rw [Function.comp_apply, id_eq, Bool.not_eq_true', decide_eq_false_iff_not]
    exact h k (List.mem_of_mem_take hk1) (lt k hk1)
theorem due_mul {b n L c k : Nat} (hL : 1 ≤ L) (hc : c ∈ dueL b n L) (hk : k ∈ splitsL L) (hd : k % c = 0) : k ∈ dueL b n L := by
  obtain ⟨hc1, hc2⟩ := List.mem_filter.mp hc
  refine List.mem_filter.mpr ⟨hk, ?_⟩
  obtain ⟨k1, k2⟩ := (mem_splits hL).mp hk
  obtain ⟨c1, c2⟩ := (mem_splits hL).mp hc1
  obtain ⟨m, rfl⟩ := Nat.dvd_of_mod_eq_zero hd
  obtain ⟨s, rfl⟩ := k2
  have hm : 1 ≤ m := by
    rcases Nat.eq_zero_or_pos m with z | z
    · subst z
      omega
    · exact z
  have e1 : c * m * s / c = m * s := by
    rw [Nat.mul_assoc]
    exact Nat.mul_div_cancel_left _ (by omega)
  have e2 : c * m * s / (c * m) = s := Nat.mul_div_cancel_left _ (by omega)
  rw [e1] at hc2
  rw [e2, Nat.mul_comm c m]
  exact bal_mul hc2
theorem due_prime {b n L : Nat} (hb : 1 ≤ b) (hn : 2 ≤ n) (hp : ∀ k, 2 ≤ k → k < n → ¬ n % k = 0) (hL : IsPer b n L) : dueL b n L = splitsL L := by
  unfold dueL
  rw [List.filter_eq_self]
  intro c hc
  obtain ⟨h1, s, e⟩ := (mem_splits hL.1).mp hc
  have hs : 1 ≤ s := by
    rcases Nat.eq_zero_or_pos s with z | z
    · rw [z, Nat.mul_zero] at e
      have := hL.1
      omega
    · exact z
  have : L / c = s := by
    rw [e]
    exact Nat.mul_div_cancel_left _ (by omega)
  rw [this]
  exact bal_prime hb hn hp hL h1 hs (by rw [e, Nat.mul_comm])
/-! lists of whole numbers from 0 on -/
def vn (xs : List Nat) : List V := xs.map fun k => V.int (k : Nat)
def ni (xs : List Nat) : List Int := xs.map fun k => ((k : Nat) : Int)
theorem vn_ni (xs : List Nat) : vn xs = (ni xs).map V.int := by
  unfold vn ni
  rw [List.map_map]
  rfl
theorem vn_len (xs : List Nat) : (vn xs).length = xs.length := by simp [vn]
theorem vn_snoc (xs : List Nat) (k : Nat) : vn xs ++ [V.int (k : Nat)] = vn (xs ++ [k]) := by simp [vn]
theorem vn_get {xs : List Nat} {i : Nat} {y : V} (h : (vn xs)[i]? = some y) : ∃ hi : i < xs.length, y = V.int (xs[i] : Nat) := by
  unfold vn at h
  rw [List.getElem?_map] at h
  cases e : xs[i]? with
  | none =>
    rw [e] at h
    cases h
  | some n =>
    rw [e] at h
    obtain ⟨hi, e2⟩ := List.getElem?_eq_some_iff.mp e
    subst e2
    exact ⟨hi, (Option.some.inj h).symm⟩
theorem ni_sum : ∀ xs : List Nat, (ni xs).sum = ((xs.sum : Nat) : Int)
  | [] => rfl
  | x :: r => by
    show (x : Int) + (ni r).sum = ((x + r.sum : Nat) : Int)
    rw [ni_sum r]
    omega
theorem filt_yes {xs : List Nat} {g : Nat → Bool} {i : Nat} (hi : i < xs.length) (h : g xs[i] = true) : (xs.take (i + 1)).filter g = (xs.take i).filter g ++ [xs[i]] := by
  rw [List.take_succ_eq_append_getElem hi, List.filter_append, List.filter_cons, if_pos h]
  rfl
theorem filt_no {xs : List Nat} {g : Nat → Bool} {i : Nat} (hi : i < xs.length) (h : g xs[i] = false) : (xs.take (i + 1)).filter g = (xs.take i).filter g := by
  rw [List.take_succ_eq_append_getElem hi, List.filter_append, List.filter_cons, if_neg (by rw [h]; decide)]
  simp
theorem from2_len (k : Nat) : (from2 k).length = k := by simp [from2]
theorem from2_get {k i : Nat} (h : i < k) : (from2 k)[i]'(by rw [from2_len]; exact h) = 2 + i := by simp [from2]
theorem eqv_niL (ys : List Nat) : PyData.eqv (.list ((ni ys).map PyData.int)) (.list []) = ys.isEmpty := by
  cases ys with
  | nil => rfl
  | cons y r => rfl
theorem inV_ni (k : Nat) : ∀ xs : List Nat, inV (.int (k : Nat)) (vn xs) = decide (k ∈ xs) := by
  intro xs
  induction xs with
  | nil => rfl
  | cons y r ih =>
    show ((((y : Nat) : Int) == ((k : Nat) : Int)) || inV (.int (k : Nat)) (vn r)) = _
    rw [ih, Bool.eq_iff_iff, Bool.or_eq_true, beq_iff_eq, decide_eq_true_eq, decide_eq_true_eq, List.mem_cons]
    constructor
    · rintro (h | h)
      · exact .inl (by omega)
      · exact .inr h
    · rintro (h | h)
      · exact .inl (by omega)
      · exact .inr h
theorem flat_ni : ∀ xs : List Nat, (vn xs).all flatV = true
  | [] => rfl
  | _ :: r => flat_ni r
theorem blkOk_of {N N0 : List Str} {sc sc0 scope : Scope} {own : List (Str × Nat)} (hN : N = N0) (hs : sc = sc0) (h : blkC N0 sc0 scope own = true) : BlkOk N sc scope own := by
  subst hN hs
  exact blkOk_by h
end Wn
/-! values of digits, and the sum of the pieces -/
namespace Wn
open PySem PySem.Spec PyProof.Rows L2
def wrt (b : Nat) (ds : List Nat) : Nat := ds.foldl (fun f d => f * b + d) 0
theorem wrt_snoc (b : Nat) (ds : List Nat) (d : Nat) : wrt b (ds ++ [d]) = wrt b ds * b + d := by simp [wrt]
def dg (b n x lo c : Nat) : List Nat := (List.range c).map fun i => rem b n x (lo + i) * b / n
theorem dg_len (b n x lo c : Nat) : (dg b n x lo c).length = c := by simp [dg]
theorem dg_succ (b n x lo c : Nat) : dg b n x lo (c + 1) = dg b n x lo c ++ [rem b n x (lo + c) * b / n] := by
  unfold dg
  rw [List.range_succ, List.map_append]
  rfl
theorem wrt_dg (b n x lo : Nat) : ∀ c, n * wrt b (dg b n x lo c) + rem b n x (lo + c) = rem b n x lo * b ^ c
  | 0 => by simp [dg, wrt]
  | c + 1 => by
    have ih := wrt_dg b n x lo c
    have dm := Nat.div_add_mod (rem b n x (lo + c) * b) n
    rw [rem_succ] at dm
    rw [dg_succ, wrt_snoc, Nat.pow_succ, ← Nat.mul_assoc, ← ih, Nat.mul_add, Nat.add_mul, ← Nat.mul_assoc]
    have e : lo + (c + 1) = lo + c + 1 := rfl
    rw [e]
    omega
/-- the value of piece number j of k digits -/
def pce (b n x k j : Nat) : Nat := wrt b (dg b n x (k * j) k)
def pcs (b n x k c : Nat) : List Nat := (List.range c).map (pce b n x k)
theorem pcs_len (b n x k c : Nat) : (pcs b n x k c).length = c := by simp [pcs]
theorem pcs_succ (b n x k c : Nat) : pcs b n x k (c + 1) = pcs b n x k c ++ [pce b n x k c] := by
  unfold pcs
  rw [List.range_succ, List.map_append]
  rfl
theorem pcs_sum (b n x k : Nat) : ∀ c, n * (pcs b n x k c).sum + restSum b n x k c + rem b n x (k * c) = b ^ k * restSum b n x k c + rem b n x 0
  | 0 => by simp [pcs, restSum]
  | c + 1 => by
    have ih := pcs_sum b n x k c
    have w := wrt_dg b n x (k * c) k
    have e : k * (c + 1) = k * c + k := rfl
    rw [e, pcs_succ, List.sum_append, restSum_succ, Nat.mul_add, Nat.mul_add]
    have e2 : ([pce b n x k c] : List Nat).sum = pce b n x k c := by simp
    rw [e2]
    unfold pce
    rw [Nat.mul_comm (b ^ k) (rem b n x (k * c)), ← w]
    omega
theorem pcs_all {b n x k c : Nat} (hb : 1 ≤ b) (h : rem b n x (k * c) = rem b n x 0) : n * (pcs b n x k c).sum = (b ^ k - 1) * restSum b n x k c := by
  have e := pcs_sum b n x k c
  rw [h] at e
  have h1 : 1 ≤ b ^ k := Nat.one_le_pow _ _ hb
  rw [Nat.sub_mul, Nat.one_mul]
  omega
theorem pcs_quot {b n x k c : Nat} (hb : 2 ≤ b) (hk : 1 ≤ k) (hn : 1 ≤ n) (h : rem b n x (k * c) = rem b n x 0) :
    ((pcs b n x k c).sum % (b ^ k - 1) = 0 ↔ restSum b n x k c % n = 0) ∧ (restSum b n x k c % n = 0 → (pcs b n x k c).sum / (b ^ k - 1) = restSum b n x k c / n) := by
  have e := pcs_all (b := b) (n := n) (x := x) (k := k) (c := c) (by omega) h
  have h1 : 2 ≤ b ^ k := Nat.le_trans hb (Nat.le_self_pow (by omega) b)
  generalize (pcs b n x k c).sum = S at e ⊢
  generalize restSum b n x k c = R at e ⊢
  generalize hm : b ^ k - 1 = m at e ⊢
  have m1 : 1 ≤ m := by omega
  refine ⟨⟨fun z => ?_, fun z => ?_⟩, fun z => ?_⟩
  · obtain ⟨q, rfl⟩ := Nat.dvd_of_mod_eq_zero z
    have : m * R = m * (n * q) := by rw [← e, Nat.mul_left_comm]
    rw [Nat.eq_of_mul_eq_mul_left m1 this]
    exact Nat.mul_mod_right _ _
  · obtain ⟨q, rfl⟩ := Nat.dvd_of_mod_eq_zero z
    have : n * S = n * (m * q) := by rw [e, Nat.mul_left_comm]
    rw [Nat.eq_of_mul_eq_mul_left hn this]
    exact Nat.mul_mod_right _ _
  · obtain ⟨q, rfl⟩ := Nat.dvd_of_mod_eq_zero z
    have : n * S = n * (m * q) := by rw [e, Nat.mul_left_comm]
    rw [Nat.eq_of_mul_eq_mul_left hn this, Nat.mul_div_cancel_left _ m1, Nat.mul_div_cancel_left _ hn]
theorem pce_lt {b n x k j : Nat} (hb : 1 ≤ b) (hn : 1 ≤ n) : pce b n x k j < b ^ k := by
  have w := wrt_dg b n x (k * j) k
  have r := rem_lt (b := b) (n := n) (x := x) (i := k * j) hn
  unfold pce
  have h1 : n * wrt b (dg b n x (k * j) k) ≤ rem b n x (k * j) * b ^ k := by omega
  have h2 : rem b n x (k * j) * b ^ k < n * b ^ k := Nat.mul_lt_mul_of_pos_right r (Nat.pow_pos hb)
  exact Nat.lt_of_mul_lt_mul_left (Nat.lt_of_le_of_lt h1 h2)
theorem rem_period {b n x L : Nat} (h : b ^ L % n = 1 % n) : rem b n x L = rem b n x 0 := by
  unfold rem
  rw [Nat.mul_mod, h, ← Nat.mul_mod, Nat.pow_zero]
/-! whole numbers of more signs -/
theorem Sm.intB {i : Int} {k : Nat} (hk : 1 ≤ k) (h : i.natAbs < 2 ^ k) (hk2 : k ≤ 1000) : Sm (.int i) 303 0 k := by
  have hl := log2_lt hk h
  have h12 : i.natAbs < 10 ^ 302 := Nat.lt_of_lt_of_le h (Nat.le_trans (Nat.pow_le_pow_right (by decide) hk2) (by decide +kernel))
  refine ⟨?_, ?_, rfl, rfl, Nat.le_refl _, ?_⟩
  · show decide (i.natAbs.log2 < 1920) = true
    exact decide_eq_true (by omega)
  · show decide ((PyData.shown (.int i)).length ≤ 303) = true
    refine decide_eq_true ?_
    have e := int_text_length_le10 (k := 302) (by decide) h12
    show (Str.ofString (toString i)).length ≤ 303
    rw [PySem.ofString_length]
    exact e
  · show 0 ≤ k
    omega
/-- .. of up to 1900 bits -/
theorem Sm.intW {i : Int} (h : i.natAbs < 2 ^ 1900) : Sm (.int i) 600 0 0 := by
  have hl := log2_lt (k := 1900) (by decide) h
  have h12 : i.natAbs < 10 ^ 599 := Nat.lt_of_lt_of_le h (by decide +kernel)
  refine ⟨?_, ?_, rfl, rfl, Nat.le_refl _, Nat.le_refl _⟩
  · show decide (i.natAbs.log2 < 1920) = true
    exact decide_eq_true (by omega)
  · show decide ((PyData.shown (.int i)).length ≤ 600) = true
    refine decide_eq_true ?_
    have e := int_text_length_le10 (k := 599) (by decide) h12
    show (Str.ofString (toString i)).length ≤ 600
    rw [PySem.ofString_length]
    exact e
theorem Sm.int0 {i : Int} {k : Nat} (hk : 1 ≤ k) (h : i.natAbs < 2 ^ k) (hk2 : k ≤ 39) : Sm (.int i) 13 0 0 := by
  obtain ⟨a, b, c, d, e, _⟩ := Sm.int hk h hk2
  exact ⟨a, b, c, d, e, Nat.le_refl _⟩
end Wn
/-! d.update(e) for dicts of whole numbers and texts; dict(xs) with a name -/
namespace Wn
open PySem PySem.Spec PyProof.Rows L2
def rUpd : V → List V → Hp → VK → Prop := fun x vs H Q => ∃ (a o : Addr) (kvs more : List (Key × V)), x = .ref a ∧ vs = [.ref o] ∧ a ≠ o ∧ H a = some (.dK kvs) ∧ H o = some (.dK more) ∧ kvs.length + more.length ≤ sizeLine ∧ Q .non (upd H a (.dK (mergeK kvs more)))
theorem mt_update {X : Cx} : MtR X "dict.update" rUpd := by
  intro pins s σ H x vs v us Q I rx rv h
  obtain ⟨a, o, kvs, more, rfl, rfl, hne, ha, ho, hz, q⟩ := h
  cases rx
  obtain ⟨u, rfl, ru⟩ := rv.one
  cases ru
  obtain ⟨z1, n1, vs1, rel1, d1⟩ := dk_of I.hok ha
  obtain ⟨z2, n2, vs2, rel2, d2⟩ := dk_of I.hok ho
  have l1 := rel1.length
  have l2 := rel2.length
  refine call_meetsIn PySem.F.slot_dict_update d1.typeIs PySem.F.entry_dict_update (PySem.F.args_dict_update_2 _ _) (meets_dict_update (mixKind X.prog X.w) a o hne n2) ⟨vs1, vs2, d1, d2, by omega, fun h' d1' d2' hs => ?_⟩
  have hlm := length_mergeK more kvs
  have he : ∃ q, h'.get? a = some q := let ⟨q, _, _, hq, _⟩ := d1'; ⟨q, hq⟩
  exact ⟨.non, _, d_write I (by rw [ha]; exact True.intro) hs he (dk_new (by omega) n1 (rel2.merge rel1) d1'), rfl, q⟩
def rDP (K : PySem.W.Frag) : List V → Hp → VK → Prop := fun xs H Q => ∃ (a : Addr) (ps : List Addr) (kvs : List (Key × V)), xs = [.ref a] ∧ SqL K H a (ps.map V.ref) ∧ Paired (fun p kv => SqT K H p [kV kv.1, kv.2]) ps kvs ∧
    ∀ p, H p = none → Q (.ref p) (upd H p (.dK (mergeK [] kvs)))
theorem call_dP {X : Cx} (h : X.calm = true) : CallR X (.type "dict") (rDP X.K) := call_dictP h
theorem valV_merge : ∀ (more kvs : List (Key × V)) (k : Key), (valV (mergeK kvs more) k).isSome = ((valV kvs k).isSome || decide (∃ kv ∈ more, kv.1 = k))
  | [], kvs, k => by simp [mergeK]
  | p :: r, kvs, k => by
    show (valV (mergeK (putK kvs p.1 p.2) r) k).isSome = _
    rw [valV_merge r, valV_put, Bool.eq_iff_iff]
    by_cases e : k = p.1
    · subst e
      simp
    · rw [if_neg e]
      have e' : ¬ p.1 = k := fun z => e z.symm
      simp [e']
end Wn
/-! wheels: rows of remainders -/
namespace Wn
open PySem PySem.Spec PyProof.Rows L2
def topB (b n L x : Nat) : Bool := decide (Nat.gcd x n = 1) && (List.range L).all fun i => decide (x ≤ rem b n x i)
def wl (b n L : Nat) : List Nat := (List.range n).filter (topB b n L)
def InOrb (b n L y r : Nat) : Prop := ∃ i, i < L ∧ rem b n y i = r
theorem top_iff {b n L x : Nat} : topB b n L x = true ↔ Nat.gcd x n = 1 ∧ ∀ i, i < L → x ≤ rem b n x i := by
  unfold topB
  rw [Bool.and_eq_true, decide_eq_true_eq, List.all_eq_true]
  constructor
  · rintro ⟨h1, h2⟩
    refine ⟨h1, fun i hi => ?_⟩
    have := h2 i (List.mem_range.mpr hi)
    rwa [decide_eq_true_eq] at this
  · rintro ⟨h1, h2⟩
    exact ⟨h1, fun i hi => decide_eq_true (h2 i (List.mem_range.mp hi))⟩
theorem rem_rem (b n y i j : Nat) : rem b n (rem b n y i) j = rem b n y (i + j) := by
  unfold rem
  rw [Nat.mod_mul_mod, Nat.mul_assoc, ← Nat.pow_add]
theorem rem_per {b n L y : Nat} (h : IsPer b n L) (hy : y < n) : rem b n y L = y := by
  unfold rem
  rw [Nat.mul_mod, h.2.1, ← Nat.mul_mod, Nat.mul_one, Nat.mod_eq_of_lt hy]
theorem orb_symm {b n L x y : Nat} (h : IsPer b n L) (hy : y < n) (o : InOrb b n L y x) : InOrb b n L x y := by
  obtain ⟨i, hi, e⟩ := o
  subst e
  rcases Nat.eq_zero_or_pos i with z | z
  · subst z
    exact ⟨0, h.1, by rw [rem_rem, rem_zero hy]⟩
  · exact ⟨L - i, by omega, by rw [rem_rem, show i + (L - i) = L by omega, rem_per h hy]⟩
theorem rem_cop {b n x : Nat} (g : Nat.gcd b n = 1) (gx : Nat.gcd x n = 1) (i : Nat) : Nat.gcd (rem b n x i) n = 1 := by
  unfold rem
  rw [← Nat.gcd_rec n (x * b ^ i), Nat.gcd_comm]
  exact Nat.Coprime.mul_left gx (cop_pow g i)
theorem not_top {b n L x : Nat} (g : Nat.gcd b n = 1) (h : IsPer b n L) (hx : x < n) (gx : Nat.gcd x n = 1) : topB b n L x = false ↔ ∃ y, y < x ∧ Nat.gcd y n = 1 ∧ InOrb b n L y x := by
  have hn : 1 ≤ n := by omega
  constructor
  · intro z
    have z' : ¬ topB b n L x = true := by rw [z]; decide
    rw [top_iff] at z'
    have : ∃ i, i < L ∧ rem b n x i < x := by
      apply Classical.byContradiction
      intro c
      exact z' ⟨gx, fun i hi => Nat.le_of_not_lt fun l => c ⟨i, hi, l⟩⟩
    obtain ⟨i, hi, l⟩ := this
    exact ⟨_, l, rem_cop g gx i, orb_symm h hx ⟨i, hi, rfl⟩⟩
  · rintro ⟨y, hy, gy, o⟩
    obtain ⟨j, hj, e⟩ := orb_symm h (by omega) o
    cases c : topB b n L x with
    | false => rfl
    | true =>
      have := (top_iff.mp c).2 j hj
      omega
/-- who has been met before x comes -/
def Met (b n L k r : Nat) : Prop := ∃ y, y < k ∧ Nat.gcd y n = 1 ∧ InOrb b n L y r
theorem met_top {b n L k r : Nat} (g : Nat.gcd b n = 1) (h : IsPer b n L) (hk : k ≤ n) : Met b n L k r ↔ ∃ y, y < k ∧ topB b n L y = true ∧ InOrb b n L y r := by
  constructor
  · rintro ⟨y, hy, gy, i, hi, e⟩
    -- the least of its row
    obtain ⟨m, hm, ⟨j, hj, ej⟩, q⟩ := least (fun z => ∃ j, j < L ∧ rem b n y j = z) y ⟨0, h.1, rem_zero (by omega)⟩
    have hjm : rem b n y j = m := ej
    refine ⟨m, by omega, top_iff.mpr ⟨?_, fun t ht => ?_⟩, ?_⟩
    · rw [← hjm]
      exact rem_cop g gy j
    · apply Nat.le_of_not_lt
      intro l
      refine q _ l ⟨(j + t) % L, Nat.mod_lt _ h.1, ?_⟩
      rw [← hjm, rem_rem]
      have := Nat.div_add_mod (j + t) L
      show rem b n y ((j + t) % L) = rem b n y (j + t)
      conv => rhs; rw [← this]
      rw [← rem_rem]
      congr 1
      unfold rem
      rw [Nat.mul_mod, h.mul, ← Nat.mul_mod, Nat.mul_one, Nat.mod_eq_of_lt (by omega)]
    · refine ⟨(L - j + i) % L, Nat.mod_lt _ h.1, ?_⟩
      have := Nat.div_add_mod (L - j + i) L
      rw [← e, ← hjm, rem_rem]
      have e2 : rem b n y (j + (L - j + i) % L) = rem b n y (j + (L - j + i)) := by
        conv => rhs; rw [← this]
        rw [show j + (L * ((L - j + i) / L) + (L - j + i) % L) = L * ((L - j + i) / L) + (j + (L - j + i) % L) by omega, ← rem_rem (i := L * ((L - j + i) / L))]
        congr 1
        unfold rem
        rw [Nat.mul_mod, h.mul, ← Nat.mul_mod, Nat.mul_one, Nat.mod_eq_of_lt (by omega)]
      rw [e2, show j + (L - j + i) = L + i by omega, ← rem_rem, rem_per h (by omega)]
  · rintro ⟨y, hy, t, o⟩
    exact ⟨y, hy, (top_iff.mp t).1, o⟩
theorem met_succ {b n L k r : Nat} : Met b n L (k + 1) r ↔ Met b n L k r ∨ (Nat.gcd k n = 1 ∧ InOrb b n L k r) := by
  constructor
  · rintro ⟨y, hy, gy, o⟩
    rcases Nat.lt_or_eq_of_le (show y ≤ k by omega) with z | z
    · exact .inl ⟨y, z, gy, o⟩
    · subst z
      exact .inr ⟨gy, o⟩
  · rintro (⟨y, hy, gy, o⟩ | ⟨gk, o⟩)
    · exact ⟨y, by omega, gy, o⟩
    · exact ⟨k, by omega, gk, o⟩
/-- a number whose least one stands before it brings nothing new -/
theorem met_skip {b n L k r : Nat} (g : Nat.gcd b n = 1) (h : IsPer b n L) (hk : k < n) (c : topB b n L k = false) : Met b n L (k + 1) r ↔ Met b n L k r := by
  rw [met_top g h (by omega), met_top g h (by omega)]
  constructor
  · rintro ⟨y, hy, t, o⟩
    rcases Nat.lt_or_eq_of_le (show y ≤ k by omega) with z | z
    · exact ⟨y, z, t, o⟩
    · subst z
      rw [c] at t
      cases t
  · rintro ⟨y, hy, t, o⟩
    exact ⟨y, by omega, t, o⟩
def rl (b n x L : Nat) : List Nat := (List.range L).map fun i => rem b n x i
theorem rl_len (b n x L : Nat) : (rl b n x L).length = L := by simp [rl]
theorem mem_rl {b n x L r : Nat} : r ∈ rl b n x L ↔ InOrb b n L x r := by
  unfold rl
  rw [List.mem_map]
  constructor
  · rintro ⟨i, hi, e⟩
    exact ⟨i, List.mem_range.mp hi, e⟩
  · rintro ⟨i, hi, e⟩
    exact ⟨i, List.mem_range.mpr hi, e⟩
theorem rl_lt {b n x L r : Nat} (hn : 1 ≤ n) (h : r ∈ rl b n x L) : r < n := by
  obtain ⟨i, _, rfl⟩ := mem_rl.mp h
  exact rem_lt hn
def copL (n : Nat) : List Nat := (List.range n).filter fun x => decide (Nat.gcd x n = 1)
theorem wl_take_succ {b n L k : Nat} (hk : k < n) : ((List.range n).take (k + 1)).filter (topB b n L) = ((List.range n).take k).filter (topB b n L) ++ (if topB b n L k = true then [k] else []) := by
  rw [List.take_succ_eq_append_getElem (by simpa using hk), List.filter_append, List.getElem_range, List.filter_cons]
  split <;> simp
end Wn
namespace Wn
open PySem PySem.Spec PyProof.Rows L2
theorem orb_trans {b n L x y r : Nat} (h : IsPer b n L) (hy : y < n) (o : InOrb b n L y x) (o2 : InOrb b n L x r) : InOrb b n L y r := by
  obtain ⟨i, hi, rfl⟩ := o
  obtain ⟨j, hj, rfl⟩ := o2
  refine ⟨(i + j) % L, Nat.mod_lt _ h.1, ?_⟩
  rw [rem_rem]
  have := Nat.div_add_mod (i + j) L
  show rem b n y ((i + j) % L) = rem b n y (i + j)
  conv => rhs; rw [← this]
  rw [← rem_rem]
  congr 1
  unfold rem
  rw [Nat.mul_mod, h.mul, ← Nat.mul_mod, Nat.mul_one, Nat.mod_eq_of_lt hy]
theorem asc_cop (n : Nat) : (copL n).Pairwise (· < ·) := List.Pairwise.filter _ List.pairwise_lt_range
theorem mem_cop {n x : Nat} : x ∈ copL n ↔ x < n ∧ Nat.gcd x n = 1 := by
  unfold copL
  rw [List.mem_filter, List.mem_range, decide_eq_true_eq]
theorem cop_len (n : Nat) : (copL n).length ≤ n := by
  unfold copL
  exact Nat.le_trans (List.length_filter_le _ _) (by simp)
theorem cop_take {n i y : Nat} (hi : i < (copL n).length) : y ∈ (copL n).take i ↔ y < (copL n)[i] ∧ Nat.gcd y n = 1 := by
  have hx := mem_cop.mp (List.getElem_mem hi)
  constructor
  · intro h
    obtain ⟨j, hj, rfl⟩ := List.mem_iff_getElem.mp h
    rw [List.length_take] at hj
    rw [List.getElem_take]
    exact ⟨List.pairwise_iff_getElem.mp (asc_cop n) j i (by omega) hi (by omega), (mem_cop.mp (List.getElem_mem _)).2⟩
  · rintro ⟨hl, hg⟩
    have hm : y ∈ copL n := mem_cop.mpr ⟨by omega, hg⟩
    obtain ⟨j, hj, rfl⟩ := List.mem_iff_getElem.mp hm
    rw [List.mem_iff_getElem]
    have hji : j < i := by
      rcases Nat.lt_trichotomy j i with z | z | z
      · exact z
      · subst z
        omega
      · have := List.pairwise_iff_getElem.mp (asc_cop n) i j hi hj z
        omega
    exact ⟨j, by rw [List.length_take]; omega, by rw [List.getElem_take]⟩
theorem cop_top (b n L : Nat) : (copL n).filter (topB b n L) = wl b n L := by
  unfold copL wl
  rw [List.filter_filter]
  congr 1
  funext x
  cases t : topB b n L x with
  | false => rfl
  | true => rw [decide_eq_true (top_iff.mp t).1]; rfl
theorem valV_mem : ∀ (l : List (Key × V)) (k : Key), (valV l k).isSome = true ↔ ∃ kv ∈ l, kv.1 = k
  | [], k => by simp [valV]
  | p :: r, k => by
    by_cases e : p.1 = k
    · rw [valV_pos e]
      simp [e]
    · rw [valV_neg e, valV_mem r]
      simp [e]
end Wn
/-! set(xs) of a list of whole numbers -/
namespace Wn
open PySem PySem.Spec PyProof.Rows L2
abbrev eSet (w : World) : Obj := { cls := .type "set", dict := none, data := .set #[] 0 (.fresh 0 0 (!w.params.followText "set-order")) }
section
variable {P : Program} {w : World} {A : Around} {E : Value → Shared → Prop} {z : Shared}
theorem set_lst {l : Addr} {us : Array Value} (ks : List Int) {Q : Value → Shared → Prop} (hh : A.handled = none) (hl : z.heap.IsList l us) (hu : IntsAre us.toList ks) (hb : ks.length + 1 < scanBound)
    (go : ∀ (hp : Heap) (tk c : Nat), SetR w hp z.heap.objs.size (fun j => decide (j ∈ ks)) c → (∀ b o, z.heap.get? b = some o → hp.get? b = some o) → Q (.ref z.heap.objs.size) { z with heap := hp, toks := tk }) :
    wpAny (model P w) A (call (.type "set") [.ref l]) Q E z := by
  have hsz : us.size = ks.length := Array.length_toList (xs := us) ▸ IntsAre.length hu
  obtain ⟨c0, t0, mr⟩ := F.called_set.mro
  have p1 := F.called_set.made; have p2 := F.called_set.sub
  refine wpAny_call (codeAny_of_tree (show wpAny _ _ (callAny (.type "set") _) _ _ _ from wpAny_pure ⟨Code.quiet_builtin _ (by decide +kernel), codeAny_builtin F.entry_type_call ?_⟩))
  rw [Around.under_plain (weight_type_call_type "set" [Value.ref l] []) rfl]
  have p3 := F.called_set.notType; have p4 := F.called_set.canCreate; have p5 := F.typeCall_set_1 (.ref l)
  repeat (any_goals (first | assumption | wp_step))
  refine codeAny_mono (code_set_led1 (.ref l) (E := E) (Q₁ := fun v s1 => v = .ref z.heap.objs.size ∧ s1 = { z with heap := z.heap.push (eSet w) }) ⟨rfl, rfl⟩) fun r s1 hr => ?_
  cases r with
  | error e => exact hr
  | ok fl =>
    cases fl with
    | ret v =>
      obtain ⟨rfl, rfl⟩ := hr
      have aS : (z.heap.push (eSet w)).get? z.heap.objs.size = some (eSet w) := Heap.get?_push_size _ rfl
      have tS : Shared.TypeIs { z with heap := z.heap.push (eSet w) } (.ref z.heap.objs.size) "set" := ⟨_, aS, rfl⟩
      have p6 := F.called_set.init.lookup; have p7 := F.called_set.init.bind (.ref z.heap.objs.size)
      repeat (any_goals (first | assumption | wp_step))
      refine codeAny_mono (codeAny_call_builtin (R := wants (fun r s2 => r = .none ∧ ∃ hp tk c, s2 = { z with heap := hp, toks := tk } ∧ SetR w hp z.heap.objs.size (fun j => decide (j ∈ ks)) c ∧ (∀ b o, z.heap.get? b = some o → hp.get? b = some o)) E)
        F.called_set.init.plain F.entry_set_init (check_set_init_1 tS ?_)) fun r2 s2 hr2 => ?_
      · obtain ⟨⟨oc, od, odata, osl⟩, ho, hc, nl, hd⟩ := hl
        simp only at hc hd; subst hc; subst hd
        have ho' : (z.heap.push (eSet w)).get? l = some { cls := .type "list", dict := od, data := .seq us nl, slots := osl } := Heap.get?_push_of_some _ ho
        have q1 := F.sub_list_set; have q2 := F.sub_list_frozenset
        have q3 : (Value.type "list" == Value.type "dict") = false := by decide
        have il : (z.heap.push (eSet w)).IsList l us := ⟨_, ho', rfl, nl, rfl⟩
        unfold Builtin.«set.__init__» noKeywords Builtin.Frozenset.updateFrom
        generalize eI : pyIter = PI; wp_walk; subst eI
        refine wpAny_pyIter_list il (wpAny_bind (wpAny_runValue ?_))
        have lt : l < z.heap.objs.size := Heap.lt_size ho
        have h3 : A.in1.in1.in1.handled = none := by simp [hh]
        have eI : (z.heap.push (eSet w)).objs.size = z.heap.objs.size + 1 := Heap.size_push ..
        have nI : l ≠ (z.heap.push (eSet w)).objs.size := by rw [eI]; exact Nat.ne_of_lt (Nat.lt_succ_of_lt lt)
        have nS : z.heap.objs.size ∉ [(z.heap.push (eSet w)).objs.size, l] := by
          rw [eI]; simp only [List.mem_cons, List.not_mem_nil, or_false]; exact fun h => h.elim (Nat.ne_of_lt (Nat.lt_succ_self _)) (Nat.ne_of_gt lt)
        have items : ∀ (i : Nat) (v : Value), us[i]? = some v → ∃ k t, ks[i]? = some k ∧ v = .int k t := fun i v hv => by
          have hi : i < ks.length := hsz ▸ (Array.getElem?_eq_some_iff.mp hv).1
          obtain ⟨t, e⟩ := PyProof.Rows.IntsAre.int_at hu i v (by simpa using hv)
          exact ⟨ks[i], t, by simp [hi], by rw [e]; simp [hi]⟩
        refine set_update_ints ((Walks.list h3 _ l nI us).toS) z.heap.objs.size nS ks hsz hb items (us.size - 0) 0 _ (by omega) (Nat.zero_le _) ⟨⟨_, Heap.get?_push_size _ rfl, rfl, rfl⟩, il.push _⟩ ⟨0, Nat.le_refl 0, setR_new_at (Heap.get?_push_of_some _ aS)⟩ fun s3 c3 mv hc3 R3 => ?_
        obtain ⟨h3', g3, d3, tk3, os3⟩ := s3
        have e1 : g3 = z.gens := mv.gens; have e2 : d3 = z.drawn := mv.drawn; have e3 : os3 = z.os := mv.os
        subst e1; subst e2; subst e3
        refine wpAny_pure (show wpAny _ _ (ret Value.none) _ _ _ from wpAny_pure ⟨rfl, h3', tk3, c3, rfl, R3, fun b o e => ?_⟩)
        have lb : b < z.heap.objs.size := Heap.lt_size e
        refine mv.heap b o ?_ (Heap.get?_push_of_some _ (Heap.get?_push_of_some _ e))
        simp only [List.mem_cons, List.not_mem_nil, or_false]; rw [eI]; exact fun h => h.elim (Nat.ne_of_lt lb) (Nat.ne_of_lt (Nat.lt_succ_of_lt lb))
      · cases r2 with
        | error e => exact hr2
        | ok fl2 =>
          cases fl2 with
          | ret r =>
            obtain ⟨rfl, hp, tk, c, rfl, R, kp⟩ := hr2
            repeat (any_goals (first | assumption | wp_step))
            exact go _ _ _ R kp
          | _ => exact hr2.elim
    | _ => exact hr.elim
end
theorem ints_vals : ∀ {ns : List Int} {us : List Value}, Vals (ns.map V.int) us → IntsAre us ns
  | [], _, .nil => .nil
  | _ :: _, _, .cons ⟨k, e⟩ t => e ▸ IntsAre.cons _ k (ints_vals t)
def rSetL (K : PySem.W.Frag) (w : World) : List V → Hp → VK → Prop := fun xs H Q => ∃ (l : Addr) (ns : List Int), xs = [V.ref l] ∧ SqL K H l (ns.map V.int) ∧ ns.length ≤ 4000 ∧
  ∀ (a : Addr) (ks : List Int), H a = none → ks.Nodup → (∀ k, k ∈ ks ↔ k ∈ ns) → Q (.ref a) (upd H a (SetO w a (fun j => decide (j ∈ ns)) ks.length))
theorem call_setL {X : Cx} (hc : X.calm = true) : CallR X (.type "set") (rSetL X.K X.w) := by
  intro pins s σ H xs us Q I r h
  obtain ⟨l, ns, rfl, hs, hz, q⟩ := h
  obtain ⟨its, rv, hl, _⟩ := I.list hs
  rw [Vals.ref1 r]
  refine set_lst ns (I.ok.hd hc) hl.isList (by simpa using ints_vals rv) (by unfold scanBound; omega) fun hp tk c R kp => ?_
  have R' := R
  obtain ⟨o, es, ep, t, _, _, _, _, nd, hm, _, _, hn, _⟩ := R
  have e : (es.toList.map keyOf).length = c := by rw [List.length_map, Array.length_toList, hn]
  have free := I.hok.fresh (Nat.le_refl s.heap.objs.size)
  have q' := q s.heap.objs.size (es.toList.map keyOf) free nd (fun k => by rw [← hm]; simp)
  rw [e] at q'
  exact ⟨.ref _, _, I.laid (t' := tk) kp (Nat.le_refl _) (setO_new R'), rfl, q'⟩
/-! ascending lists with the same members are one -/
theorem asc_eq : ∀ {xs ys : List Int}, xs.Pairwise (· < ·) → ys.Pairwise (· < ·) → (∀ k, k ∈ xs ↔ k ∈ ys) → xs = ys
  | [], [], _, _, _ => rfl
  | [], y :: ys, _, _, h => absurd ((h y).mpr List.mem_cons_self) (by simp)
  | x :: xs, [], _, _, h => absurd ((h x).mp List.mem_cons_self) (by simp)
  | x :: xs, y :: ys, hx, hy, h => by
    have hx' := List.pairwise_cons.mp hx
    have hy' := List.pairwise_cons.mp hy
    have e : x = y := by
      rcases List.mem_cons.mp ((h x).mp List.mem_cons_self) with z | z
      · exact z
      · rcases List.mem_cons.mp ((h y).mpr List.mem_cons_self) with z2 | z2
        · exact z2.symm
        · have h1 := hy'.1 x z
          have h2 := hx'.1 y z2
          omega
    subst e
    rw [asc_eq hx'.2 hy'.2 fun k => ?_]
    have hk := h k
    simp only [List.mem_cons] at hk
    constructor
    · intro z
      rcases hk.mp (.inr z) with z2 | z2
      · have := hx'.1 k z
        omega
      · exact z2
    · intro z
      rcases hk.mpr (.inr z) with z2 | z2
      · have := hy'.1 k z
        omega
      · exact z2
end Wn
/-! a tuple times any small number -/
namespace Wn
open PySem PySem.Spec PyProof.Rows L2
theorem tmul_same (l : Addr) (us : Array Value) (n : Nat) (dd : Option Addr) (sl : Array (Option Value)) (k : Int) (u : Tok) (c0 : (decide (k < -(2 ^ 63)) || decide (k ≥ 2 ^ 63)) = false) (c1 : (us.isEmpty || k == 1) = true) :
    Meets (Builtin.«tuple.__mul__» ⟨[.ref l, .int k u], []⟩) (fun _ R s => s.heap.get? l = some { cls := .type "tuple", dict := dd, data := .seq us n, slots := sl } ∧ R (.ok (.ret (Value.ref l))) s) :=
  .of_wp fun prog w A R s ⟨hl, go⟩ => by
    obtain ⟨hp, g, d, tk, os⟩ := s
    have f1 := AutoSeq1.idx_int
    wp_walk using wpAny_loadPart' hl
    repeat (first
      | (refine wpAny_ite_false (decide_eq_false (by rw [c0]; exact Bool.false_ne_true)) ?_; wp_walk using wpAny_loadPart' hl)
      | (refine wpAny_ite_true (decide_eq_true (by rw [c1])) ?_; wp_walk using wpAny_loadPart' hl))
    exact ⟨_, rfl, go⟩
theorem tmul_none (l : Addr) (us : Array Value) (n : Nat) (dd : Option Addr) (sl : Array (Option Value)) (k : Int) (u : Tok) (c0 : (decide (k < -(2 ^ 63)) || decide (k ≥ 2 ^ 63)) = false) (c1 : (us.isEmpty || k == 1) = false) (c2 : (decide (k ≤ 0) || us.isEmpty) = true) :
    Meets (Builtin.«tuple.__mul__» ⟨[.ref l, .int k u], []⟩) (fun _ R s => s.heap.get? l = some { cls := .type "tuple", dict := dd, data := .seq us n, slots := sl } ∧
      R (.ok (.ret (Value.ref s.heap.objs.size))) { s with heap := s.heap.push { cls := Value.type "tuple", data := Data.seq #[] }, toks := s.toks }) :=
  .of_wp fun prog w A R s ⟨hl, go⟩ => by
    obtain ⟨hp, g, d, tk, os⟩ := s
    have f1 := AutoSeq1.idx_int
    wp_walk using wpAny_loadPart' hl
    repeat (first
      | (refine wpAny_ite_false (decide_eq_false (by rw [c0]; exact Bool.false_ne_true)) ?_; wp_walk using wpAny_loadPart' hl)
      | (refine wpAny_ite_false (decide_eq_false (by rw [c1]; exact Bool.false_ne_true)) ?_; wp_walk using wpAny_loadPart' hl)
      | (refine wpAny_ite_true (decide_eq_true (by rw [c2])) ?_; wp_walk using wpAny_loadPart' hl))
    exact ⟨_, rfl, go⟩
def rRepG (K : PySem.W.Frag) : R2 := fun x y H Q => ∃ (l : Addr) (k : Int) (xs : List V), x = .ref l ∧ y = .int k ∧ SqT K H l xs ∧ (-1000 ≤ k ∧ k ≤ 1000 ∧ xs.length ≤ 1000) ∧
  ((k = 1 ∨ xs = []) → Q (.ref l) H) ∧ (k ≠ 1 → xs ≠ [] → ∀ p, H p = none → Q (.ref p) (upd H p (.tup (List.replicate k.toNat xs).flatten)))
theorem op_repG {X : Cx} : OpR X (binaryOp .Mult) (rRepG X.K) := by
  intro pins s σ H x y v u Q I rx ry h
  obtain ⟨l, k, xs, rfl, rfl, hT, ⟨h0, h1, hz⟩, q1, q2⟩ := h
  by_cases hb : 2 ≤ k ∧ xs ≠ []
  · exact op_repT pins s σ H _ _ _ _ _ I rx ry ⟨l, k, xs, rfl, rfl, hT, hb.2, hb.1, h1, hz, q2 (by omega) hb.2⟩
  cases rx
  obtain ⟨t, rfl⟩ := ry
  obtain ⟨its, r, ⟨⟨cls, dd, data, sl⟩, ho, hc, n, hd⟩, hs⟩ := I.tuple hT
  simp only at hc hd
  subst hc hd
  have c0 : (decide (k < -(2 ^ 63)) || decide (k ≥ 2 ^ 63)) = false := by
    rw [decide_eq_false (by omega), decide_eq_false (by omega)] <;> rfl
  have hne : its.toArray.isEmpty = true ↔ xs = [] := by
    cases r with
    | nil => exact ⟨fun _ => rfl, fun _ => rfl⟩
    | cons a b => exact ⟨fun z => by simp at z, fun z => by cases z⟩
  by_cases c1 : (its.toArray.isEmpty || k == 1) = true
  · have hk : k = 1 ∨ xs = [] := by
      rcases Bool.or_eq_true _ _ ▸ c1 with z | z
      · exact .inr (hne.mp z)
      · exact .inl (beq_iff_eq.mp z)
    refine wpAny_binaryOp_repeat_ref (T := "tuple") (U := "int") (by decide) ⟨_, ho, rfl⟩ (fun s' => typeIs_int s' k t) noFill_tuple_mul F.fills_int_mul F.slot_int_rmul repeat_tuple F.slot_int_index.lookup
      (call_meets F.slot_int_rmul (typeIs_int s k t) F.entry_int_rmul (F.args_int_rmul_2 _ _) (int_rmul_tuple k t l its.toArray n dd sl)
        ⟨ho, rfl, ⟨_, ho, rfl⟩, call_meets F.slot_tuple_mul ⟨_, ho, rfl⟩ F.entry_tuple_mul (F.args_tuple_mul_2 _ _) (tmul_same l its.toArray n dd sl k t c0 c1) ⟨ho, .ref l, H, I, rfl, q1 hk⟩⟩)
  · have c1' : (its.toArray.isEmpty || k == 1) = false := by simpa using c1
    rw [Bool.or_eq_false_iff] at c1'
    have hx : xs ≠ [] := fun z => by
      rw [hne.mpr z] at c1'
      cases c1'.1
    have hk1 : k ≠ 1 := fun z => by
      have := c1'.2
      rw [z] at this
      cases this
    have hk0 : k ≤ 0 := by
      rcases Int.lt_or_le 0 k with z | z
      · exact absurd ⟨by omega, hx⟩ hb
      · exact z
    have q3 := q2 hk1 hx s.heap.objs.size (I.hok.fresh (Nat.le_refl _))
    rw [show k.toNat = 0 by omega] at q3
    refine wpAny_binaryOp_repeat_ref (T := "tuple") (U := "int") (by decide) ⟨_, ho, rfl⟩ (fun s' => typeIs_int s' k t) noFill_tuple_mul F.fills_int_mul F.slot_int_rmul repeat_tuple F.slot_int_index.lookup
      (call_meets F.slot_int_rmul (typeIs_int s k t) F.entry_int_rmul (F.args_int_rmul_2 _ _) (int_rmul_tuple k t l its.toArray n dd sl)
        ⟨ho, rfl, ⟨_, ho, rfl⟩, call_meets F.slot_tuple_mul ⟨_, ho, rfl⟩ F.entry_tuple_mul (F.args_tuple_mul_2 _ _) (tmul_none l its.toArray n dd sl k t c0 (by rw [c1'.1, c1'.2]; rfl) (by rw [decide_eq_true hk0]; rfl)) ⟨ho, ?_⟩⟩)
    refine ⟨.ref s.heap.objs.size, _, I.laid (t' := s.toks) (o := .tup (List.replicate 0 xs).flatten) (fun b ob q => Heap.get?_push_of_some _ q) (Nat.le_refl _) ?_, rfl, q3⟩
    exact ⟨Nat.zero_le _, [], .nil, IsTup.new _ _⟩
end Wn
/-! rotations -/
namespace Wn
open PySem PySem.Spec PyProof.Rows L2
def rotL (ds : List Nat) (k : Nat) : List Nat := ds.drop k ++ ds.take k
theorem rotL_len (ds : List Nat) (k : Nat) : (rotL ds k).length = ds.length := by
  unfold rotL
  rw [List.length_append, List.length_drop, List.length_take]
  omega
theorem rotL_zero (ds : List Nat) : rotL ds 0 = ds := by simp [rotL]
theorem rotL_succ {ds : List Nat} {k : Nat} (h : k < ds.length) : (rotL ds k).drop 1 ++ (rotL ds k).take 1 = rotL ds (k + 1) := by
  unfold rotL
  rw [List.drop_eq_getElem_cons h]
  simp only [List.cons_append, List.drop_succ_cons, List.drop_zero, List.take_succ_cons, List.take_zero]
  rw [List.append_assoc, List.take_succ_eq_append_getElem h]
theorem mem_rotL {ds : List Nat} {k x : Nat} (h : x ∈ rotL ds k) : x ∈ ds := by
  unfold rotL at h
  rcases List.mem_append.mp h with z | z
  · exact List.mem_of_mem_drop z
  · exact List.mem_of_mem_take z
/-- the repeating digits -/
def dgl (b n x L : Nat) : List Nat := (List.range L).map fun i => rem b n x i * b / n
theorem dgl_len (b n x L : Nat) : (dgl b n x L).length = L := by simp [dgl]
theorem rem_cyc {b n x L : Nat} (h : IsPer b n L) (i : Nat) : rem b n x (i + L) = rem b n x i := by
  unfold rem
  rw [Nat.pow_add, ← Nat.mul_assoc, Nat.mul_mod, h.2.1, ← Nat.mul_mod, Nat.mul_one]
theorem dgl_rot {b n x L k : Nat} (h : IsPer b n L) (hk : k ≤ L) : rotL (dgl b n x L) k = dgl b n (rem b n x k) L := by
  unfold rotL
  apply List.ext_getElem
  · rw [List.length_append, List.length_drop, List.length_take, dgl_len, dgl_len]
    omega
  · intro i h1 h2
    rw [dgl_len] at h2
    rw [List.getElem_append]
    split
    · rename_i hi
      rw [List.length_drop, dgl_len] at hi
      rw [List.getElem_drop]
      simp only [dgl, List.getElem_map, List.getElem_range]
      rw [rem_rem]
    · rename_i hi
      rw [List.length_drop, dgl_len] at hi
      rw [List.getElem_take]
      simp only [dgl, List.getElem_map, List.getElem_range, List.length_drop, List.length_map, List.length_range]
      rw [rem_rem, show k + i = i - (L - k) + L by omega, rem_cyc h]
theorem dgl_inj {b n x y L : Nat} (hb : 2 ≤ b) (h : IsPer b n L) (hx : x < n) (hy : y < n) (e : dgl b n x L = dgl b n y L) : x = y := by
  have hn : 1 ≤ n := by omega
  have hd : ∀ i, i < L → rem b n x i * b / n = rem b n y i * b / n := fun i hi => by
    have h1 : (dgl b n x L)[i]'(by rw [dgl_len]; exact hi) = (dgl b n y L)[i]'(by rw [dgl_len]; exact hi) := by simp only [e]
    simp only [dgl, List.getElem_map, List.getElem_range] at h1
    exact h1
  have st : ∀ z i, rem b n z i * b = n * (rem b n z i * b / n) + rem b n z (i + 1) := fun z i => by
    rw [← rem_succ]
    exact (Nat.div_add_mod _ _).symm
  -- the difference grows by the base at each step
  have key : ∀ i, i ≤ L → (rem b n x i : Int) - rem b n y i = ((x : Int) - y) * (b : Int) ^ i := by
    intro i
    induction i with
    | zero =>
      intro _
      rw [rem_zero hx, rem_zero hy]
      simp
    | succ i ih =>
      intro hi
      have h1 := ih (by omega)
      have h2 := st x i
      have h3 := st y i
      rw [hd i (by omega)] at h2
      generalize rem b n y i * b / n = q at h2 h3
      have h4 : (rem b n x i : Int) * b = n * q + rem b n x (i + 1) := by exact_mod_cast h2
      have h5 : (rem b n y i : Int) * b = n * q + rem b n y (i + 1) := by exact_mod_cast h3
      rw [Int.pow_succ, ← Int.mul_assoc, ← h1, Int.sub_mul]
      omega
  have k := key L (Nat.le_refl _)
  rw [rem_per h hx, rem_per h hy] at k
  have hL := h.1
  have hp : (2 : Int) ≤ (b : Int) ^ L := by
    have : 2 ≤ b ^ L := Nat.le_trans hb (Nat.le_self_pow (by omega) b)
    exact_mod_cast this
  have : ((x : Int) - y) * ((b : Int) ^ L - 1) = 0 := by
    rw [Int.mul_sub, Int.mul_one]
    omega
  rcases Int.mul_eq_zero.mp this with z | z <;> omega
/-- among the first ones each comes once -/
theorem rem_once {b n x L i j : Nat} (g : Nat.gcd b n = 1) (gx : Nat.gcd x n = 1) (h : IsPer b n L) (hi : i < L) (hj : j < L) (e : rem b n x i = rem b n x j) : i = j := by
  have key : ∀ {i j : Nat}, i < j → j < L → rem b n x i = rem b n x j → False := fun {i j} hij hj e => by
    have e1 : b ^ i % n = b ^ j % n := mod_cancel gx e
    have e2 : b ^ (j - i) % n = 1 % n := by
      refine mod_cancel (cop_pow g i) ?_
      rw [← Nat.pow_add, show i + (j - i) = j by omega, Nat.mul_one]
      exact e1.symm
    exact h.2.2 (j - i) (by omega) (by omega) e2
  rcases Nat.lt_trichotomy i j with z | z | z
  · exact (key z hj e).elim
  · exact z
  · exact (key z hi e.symm).elim
/-- the first place from which y comes; the period where there is none -/
def topI (b n x y L : Nat) : Nat := ((List.range L).find? fun i => decide (rem b n x i = y)).getD L
theorem topI_hit {b n x y L i : Nat} (hi : i < L) (e : rem b n x i = y) (no : ∀ j, j < i → rem b n x j ≠ y) : topI b n x y L = i := by
  unfold topI
  have : (List.range L).find? (fun i => decide (rem b n x i = y)) = some i := by
    rw [List.find?_range_eq_some]
    refine ⟨decide_eq_true e, List.mem_range.mpr hi, fun j hj => ?_⟩
    simp only [Bool.not_eq_true', decide_eq_false_iff_not]
    exact no j hj
  rw [this]
  rfl
theorem topI_miss {b n x y L : Nat} (no : ∀ j, j < L → rem b n x j ≠ y) : topI b n x y L = L := by
  unfold topI
  have : (List.range L).find? (fun i => decide (rem b n x i = y)) = none := by
    rw [List.find?_eq_none]
    intro i hi
    rw [decide_eq_true_eq]
    exact no i (List.mem_range.mp hi)
  rw [this]
  rfl
theorem topI_cases (b n x y L : Nat) : (topI b n x y L < L ∧ rem b n x (topI b n x y L) = y ∧ ∀ j, j < topI b n x y L → rem b n x j ≠ y) ∨ (topI b n x y L = L ∧ ∀ j, j < L → rem b n x j ≠ y) := by
  by_cases h : ∃ i, i < L ∧ rem b n x i = y
  · obtain ⟨i, hi, e⟩ := h
    obtain ⟨m, hm, pm, q⟩ := least (fun i => rem b n x i = y) i e
    have e1 := topI_hit (L := L) (show m < L by omega) pm (fun j hj z => q j hj z)
    rw [e1]
    exact .inl ⟨by omega, pm, fun j hj z => q j hj z⟩
  · have no : ∀ j, j < L → rem b n x j ≠ y := fun j hj z => h ⟨j, hj, z⟩
    exact .inr ⟨topI_miss no, no⟩
end Wn
/-! values of digits and of their rotations; multipliers -/
namespace Wn
open PySem PySem.Spec PyProof.Rows L2
theorem wrt_from (b : Nat) : ∀ (ds : List Nat) (f : Nat), ds.foldl (fun f d => f * b + d) f = f * b ^ ds.length + wrt b ds
  | [], f => by simp [wrt]
  | d :: r, f => by
    have h1 := wrt_from b r (f * b + d)
    have h2 := wrt_from b r (0 * b + d)
    unfold wrt at h1 h2 ⊢
    simp only [List.foldl_cons, List.length_cons]
    rw [h1, h2, Nat.pow_succ, Nat.add_mul, Nat.zero_mul, Nat.zero_add, Nat.mul_assoc, Nat.mul_comm b]
    omega
theorem wrt_cons (b x : Nat) (r : List Nat) : wrt b (x :: r) = x * b ^ r.length + wrt b r := by
  have := wrt_from b r (0 * b + x)
  rw [Nat.zero_mul, Nat.zero_add] at this
  rw [← this]
  simp [wrt]
theorem wrt_append (b : Nat) (xs ys : List Nat) : wrt b (xs ++ ys) = wrt b xs * b ^ ys.length + wrt b ys := by
  rw [← wrt_from b ys (wrt b xs)]
  simp [wrt, List.foldl_append]
theorem wrt_lt {b : Nat} : ∀ {ds : List Nat}, (∀ d ∈ ds, d < b) → wrt b ds < b ^ ds.length
  | [], _ => by simp [wrt]
  | x :: r, h => by
    have ih := wrt_lt (ds := r) fun d hd => h d (List.mem_cons_of_mem _ hd)
    have hx := h x List.mem_cons_self
    rw [wrt_cons, List.length_cons, Nat.pow_succ, Nat.mul_comm (b ^ r.length)]
    have : (x + 1) * b ^ r.length ≤ b * b ^ r.length := Nat.mul_le_mul_right _ hx
    rw [Nat.succ_mul] at this
    omega
theorem rot_at {ds : List Nat} {i : Nat} (h : i < ds.length) : rotL ds i = ds[i] :: (ds.drop (i + 1) ++ ds.take i) := by
  unfold rotL
  rw [List.drop_eq_getElem_cons h]
  rfl
theorem wrt_rot {b : Nat} {ds : List Nat} {i : Nat} (h : i < ds.length) (hb : 1 ≤ b) : ((wrt b (rotL ds i) : Nat) : Int) * (b : Int) - ((ds[i] : Nat) : Int) * (((b ^ ds.length : Nat) : Int) - 1) = ((wrt b (rotL ds (i + 1)) : Nat) : Int) := by
  have e : rotL ds (i + 1) = (ds.drop (i + 1) ++ ds.take i) ++ [ds[i]] := by
    rw [← rotL_succ h, rot_at h]
    rfl
  have hl : (ds.drop (i + 1) ++ ds.take i).length + 1 = ds.length := by
    rw [List.length_append, List.length_drop, List.length_take]
    omega
  rw [rot_at h, e, wrt_cons, wrt_snoc, ← hl]
  generalize ds.drop (i + 1) ++ ds.take i = r
  generalize wrt b r = w
  generalize ds[i] = x
  rw [Nat.pow_succ]
  generalize b ^ r.length = p
  push_cast
  rw [Int.add_mul, Int.mul_sub, Int.mul_one, Int.mul_assoc (x : Int) (p : Int) (b : Int)]
  omega
/-- k times their value is that of a rotation -/
def IsMul (b : Nat) (ds : List Nat) (k : Nat) : Prop := ∃ j, j < ds.length ∧ wrt b (rotL ds j) = k * wrt b ds
/-- those met among the first i rotations -/
def mulL (b : Nat) (ds : List Nat) (i : Nat) : List Nat := ((List.range i).filter fun j => decide (wrt b (rotL ds j) % wrt b ds = 0)).map fun j => wrt b (rotL ds j) / wrt b ds
theorem mulL_succ (b : Nat) (ds : List Nat) (i : Nat) : mulL b ds (i + 1) = mulL b ds i ++ (if wrt b (rotL ds i) % wrt b ds = 0 then [wrt b (rotL ds i) / wrt b ds] else []) := by
  unfold mulL
  rw [List.range_succ, List.filter_append, List.map_append]
  congr 1
  by_cases h : wrt b (rotL ds i) % wrt b ds = 0
  · rw [if_pos h, List.filter_cons_of_pos (by simpa using h)]
    rfl
  · rw [if_neg h, List.filter_cons_of_neg (by simpa using h)]
    rfl
theorem mulL_len (b : Nat) (ds : List Nat) (i : Nat) : (mulL b ds i).length ≤ i := by
  unfold mulL
  rw [List.length_map]
  exact Nat.le_trans (List.length_filter_le _ _) (by simp)
theorem mem_mulL {b : Nat} {ds : List Nat} {k i : Nat} (hv : 1 ≤ wrt b ds) : k ∈ mulL b ds i ↔ ∃ j, j < i ∧ wrt b (rotL ds j) = k * wrt b ds := by
  unfold mulL
  rw [List.mem_map]
  constructor
  · rintro ⟨j, hj, rfl⟩
    rw [List.mem_filter, List.mem_range, decide_eq_true_eq] at hj
    exact ⟨j, hj.1, (Nat.div_mul_cancel (Nat.dvd_of_mod_eq_zero hj.2)).symm⟩
  · rintro ⟨j, hj, e⟩
    refine ⟨j, ?_, ?_⟩
    · rw [List.mem_filter, List.mem_range, decide_eq_true_eq, e]
      exact ⟨hj, Nat.mul_mod_left _ _⟩
    · rw [e, Nat.mul_div_cancel _ hv]
/-- there are few of them -/
def Few (b : Nat) (ds : List Nat) : Prop := ∀ ks : List Nat, ks.Nodup → (∀ k ∈ ks, IsMul b ds k) → ks.length < 64
theorem nodup_sub {xs : List Nat} : ∀ {ys : List Nat}, xs.Nodup → (∀ x ∈ xs, x ∈ ys) → xs.length ≤ ys.length := by
  intro ys
  induction ys generalizing xs with
  | nil =>
    intro _ h
    cases xs with
    | nil => exact Nat.le_refl _
    | cons x r => exact absurd (h x List.mem_cons_self) (by simp)
  | cons y ys ih =>
    intro nd h
    have h1 := ih (nd.erase y) fun x hx => by
      have hm := List.mem_of_mem_erase hx
      rcases List.mem_cons.mp (h x hm) with e | e
      · subst e
        exact absurd hx (List.Nodup.not_mem_erase nd)
      · exact e
    rw [List.length_cons]
    by_cases hy : y ∈ xs
    · rw [List.length_erase_of_mem hy] at h1
      omega
    · rw [List.erase_of_not_mem hy] at h1
      omega
theorem few_of {b p : Nat} {ds : List Nat} (hv : 1 ≤ wrt b ds) (hp : p < 64) (h : ∀ j, j < ds.length → ∃ i, i < p ∧ rotL ds j = rotL ds i) : Few b ds := fun ks nd hk => by
  have := nodup_sub (ys := (List.range p).map fun i => wrt b (rotL ds i) / wrt b ds) nd fun k hm => by
    obtain ⟨j, hj, e⟩ := hk k hm
    obtain ⟨i, hi, e2⟩ := h j hj
    exact List.mem_map.mpr ⟨i, List.mem_range.mpr hi, by rw [← e2, e, Nat.mul_div_cancel _ hv]⟩
  rw [List.length_map, List.length_range] at this
  omega
theorem few_len {b : Nat} {ds : List Nat} (hv : 1 ≤ wrt b ds) (h : ds.length < 64) : Few b ds := few_of hv h fun j hj => ⟨j, hj, rfl⟩
/-- digits twice over -/
theorem rot_twice {ds : List Nat} {j : Nat} (h1 : ds.length ≤ j) (h2 : j < (ds ++ ds).length) : rotL (ds ++ ds) j = rotL (ds ++ ds) (j - ds.length) := by
  unfold rotL
  rw [List.length_append] at h2
  rw [List.drop_append, List.take_append, List.drop_append, List.take_append, List.drop_eq_nil_of_le h1, List.take_of_length_le h1, show j - ds.length - ds.length = 0 by omega]
  simp only [List.nil_append, List.drop_zero, List.take_zero, List.append_nil, List.append_assoc]
theorem few_twice {b : Nat} {ds : List Nat} (hv : 1 ≤ wrt b (ds ++ ds)) (h : ds.length < 64) : Few b (ds ++ ds) := few_of hv h fun j hj => by
  rcases Nat.lt_or_ge j ds.length with z | z
  · exact ⟨j, z, rfl⟩
  · refine ⟨j - ds.length, ?_, rot_twice z hj⟩
    rw [List.length_append] at hj
    omega
/-- a number up to 1000 has no common divisor with one of two primes -/
theorem gcd_prime {b p : Nat} (hp : ∀ g, g ≤ p → g ∣ p → g = 1 ∨ g = p) (h0 : 1 ≤ p) (h : Nat.gcd b p ≠ 1) : p ∣ b := by
  rcases hp _ (Nat.le_of_dvd h0 (Nat.gcd_dvd_right b p)) (Nat.gcd_dvd_right b p) with e | e
  · exact absurd e h
  · rw [← e]
    exact Nat.gcd_dvd_left b p
theorem cop_two {b p q : Nat} (hb : 1 ≤ b) (hp : ∀ g, g ≤ p → g ∣ p → g = 1 ∨ g = p) (hq : ∀ g, g ≤ q → g ∣ q → g = 1 ∨ g = q) (p0 : 1 ≤ p) (q0 : 1 ≤ q) (c : Nat.gcd p q = 1) (hl : b < p * q) : Nat.gcd b p = 1 ∨ Nat.gcd b q = 1 := by
  by_cases h1 : Nat.gcd b p = 1
  · exact .inl h1
  · by_cases h2 : Nat.gcd b q = 1
    · exact .inr h2
    · have := Nat.le_of_dvd hb (Nat.Coprime.mul_dvd_of_dvd_of_dvd c (gcd_prime hp p0 h1) (gcd_prime hq q0 h2))
      omega
theorem cop_43_47 {b : Nat} (h1 : 1 ≤ b) (h2 : b ≤ 1000) : Nat.gcd b 43 = 1 ∨ Nat.gcd b 47 = 1 := cop_two h1 (by decide) (by decide) (by decide) (by decide) (by decide) (by omega)
/-- two ascending rows of numbers with the same members -/
theorem ascN_eq {xs ys : List Nat} (hx : xs.Pairwise (· < ·)) (hy : ys.Pairwise (· < ·)) (h : ∀ k, k ∈ xs ↔ k ∈ ys) : xs = ys := by
  have key : ∀ {zs : List Nat}, zs.Pairwise (· < ·) → (ni zs).Pairwise (· < ·) := fun hz => List.Pairwise.map _ (fun a b h => by omega) hz
  have := asc_eq (key hx) (key hy) fun k => by
    unfold ni
    rw [List.mem_map, List.mem_map]
    exact ⟨fun ⟨a, ha, e⟩ => ⟨a, (h a).mp ha, e⟩, fun ⟨a, ha, e⟩ => ⟨a, (h a).mpr ha, e⟩⟩
  unfold ni at this
  exact (List.map_inj_right (fun a b e => by omega)).mp this
/-- rows of whole numbers whose members are natural ones -/
theorem ni_of : ∀ {zs : List Int}, (∀ k ∈ zs, 0 ≤ k) → ∃ xs : List Nat, zs = ni xs
  | [], _ => ⟨[], rfl⟩
  | z :: zs, h => by
    obtain ⟨xs, e⟩ := ni_of (zs := zs) fun k hk => h k (List.mem_cons_of_mem _ hk)
    have := h z List.mem_cons_self
    exact ⟨z.toNat :: xs, by rw [e]; show z :: ni xs = ((z.toNat : Nat) : Int) :: ni xs; rw [Int.toNat_of_nonneg this]⟩
theorem mem_ni {xs : List Nat} {k : Nat} : ((k : Nat) : Int) ∈ ni xs ↔ k ∈ xs := by
  unfold ni
  rw [List.mem_map]
  constructor
  · rintro ⟨a, ha, e⟩
    rw [show k = a by omega]
    exact ha
  · exact fun h => ⟨k, h, rfl⟩
end Wn
open PySem PySem.W PySem.Calls PyProof.Rows Builtin
open L2
namespace Wn
/-! counts by keys -/
def kvP (ps : List (Nat × Nat)) : List (Key × V) := ps.map fun p => ((Sum.inl ((p.1 : Nat) : Int) : Key), V.int (p.2 : Nat))
structure Cnt (g : Nat → Nat) (ps : List (Nat × Nat)) : Prop where
  nd : (ps.map Prod.fst).Nodup
  mem : ∀ q c, (q, c) ∈ ps ↔ g q = c ∧ 1 ≤ c
theorem Cnt.nil : Cnt (fun _ => 0) [] := ⟨List.nodup_nil, fun q c => ⟨fun h => (by cases h), fun ⟨h1, h2⟩ => by omega⟩⟩
theorem Cnt.congr {g g' : Nat → Nat} {ps : List (Nat × Nat)} (h : Cnt g ps) (e : ∀ q, g q = g' q) : Cnt g' ps := ⟨h.nd, fun q c => by rw [h.mem, e]⟩
theorem kvP_key {ps : List (Nat × Nat)} {q : Nat} {kv : Key × V} (h : kv ∈ kvP ps) (e : kv.1 = (Sum.inl ((q : Nat) : Int) : Key)) : ∃ c, (q, c) ∈ ps ∧ kv.2 = .int (c : Nat) := by
  obtain ⟨⟨q', c⟩, hp, rfl⟩ := List.mem_map.mp h
  have e2 : ((q' : Nat) : Int) = (q : Int) := Sum.inl.inj e
  have : q' = q := by omega
  subst this
  exact ⟨c, hp, rfl⟩
theorem Cnt.get {g : Nat → Nat} {ps : List (Nat × Nat)} (h : Cnt g ps) (q : Nat) : valV (kvP ps) (Sum.inl ((q : Nat) : Int) : Key) = if g q = 0 then none else some (.int (g q : Nat)) := by
  unfold valV
  cases e : (kvP ps).find? fun kv => decide (kv.1 = (Sum.inl ((q : Nat) : Int) : Key)) with
  | none =>
    by_cases g0 : g q = 0
    · rw [if_pos g0]
      rfl
    · exfalso
      have hm := (h.mem q (g q)).mpr ⟨rfl, by omega⟩
      have := List.find?_eq_none.mp e _ (List.mem_map.mpr ⟨_, hm, rfl⟩)
      simp at this
  | some kv =>
    have h1 := List.mem_of_find?_eq_some e
    have h2 := List.find?_some e
    obtain ⟨c, hc, hv⟩ := kvP_key h1 (of_decide_eq_true h2)
    obtain ⟨h3, h4⟩ := (h.mem q c).mp hc
    rw [if_neg (by omega), h3]
    exact congrArg some hv
theorem Cnt.put {g : Nat → Nat} {ps : List (Nat × Nat)} (h : Cnt g ps) (q d : Nat) (hd : 1 ≤ d) :
    ∃ ps', putK (kvP ps) (Sum.inl ((q : Nat) : Int) : Key) (.int ((g q + d : Nat) : Int)) = kvP ps' ∧ Cnt (fun z => g z + if z = q then d else 0) ps' := by
  by_cases g0 : g q = 0
  · refine ⟨ps ++ [(q, g q + d)], ?_, ?_, fun q' c => ?_⟩
    · rw [putK_new _ (by rw [h.get, if_pos g0])]
      unfold kvP
      rw [List.map_append]
      rfl
    · rw [List.map_append, List.nodup_append]
      refine ⟨h.nd, by simp, ?_⟩
      intro x hx y hy e
      rw [List.map_cons, List.map_nil, List.mem_singleton] at hy
      obtain ⟨⟨q', c⟩, hp, e3⟩ := List.mem_map.mp hx
      obtain ⟨h3, h4⟩ := (h.mem q' c).mp hp
      have e4 : q' = q := (show q' = x from e3).trans (e.trans hy)
      rw [e4] at h3
      omega
    · rw [List.mem_append, List.mem_singleton, h.mem]
      by_cases e : q' = q
      · subst e
        rw [if_pos rfl]
        constructor
        · rintro (⟨h1, h2⟩ | h1)
          · omega
          · have := (Prod.mk.inj h1).2
            omega
        · rintro ⟨h1, h2⟩
          exact .inr (by rw [h1])
      · rw [if_neg e, Nat.add_zero]
        constructor
        · rintro (h1 | h1)
          · exact h1
          · exact absurd (Prod.mk.inj h1).1 e
        · exact fun h1 => .inl h1
  · have hm := (h.mem q (g q)).mpr ⟨rfl, by omega⟩
    refine ⟨ps.map fun p => if p.1 = q then (p.1, g q + d) else p, ?_, ?_, fun q' c => ?_⟩
    · unfold putK
      rw [if_pos]
      · unfold kvP
        rw [List.map_map, List.map_map]
        refine List.map_congr_left fun p _ => ?_
        show (if (Sum.inl ((p.1 : Nat) : Int) : Key) = Sum.inl ((q : Nat) : Int) then _ else _) = _
        by_cases e : p.1 = q
        · rw [if_pos (by rw [e])]
          show _ = (fun p : Nat × Nat => ((Sum.inl ((p.1 : Nat) : Int) : Key), V.int (p.2 : Nat))) (if p.1 = q then (p.1, g q + d) else p)
          rw [if_pos e]
        · rw [if_neg (fun z => e (by have := Sum.inl.inj z; omega))]
          show _ = (fun p : Nat × Nat => ((Sum.inl ((p.1 : Nat) : Int) : Key), V.int (p.2 : Nat))) (if p.1 = q then (p.1, g q + d) else p)
          rw [if_neg e]
      · rw [List.any_eq_true]
        exact ⟨_, List.mem_map.mpr ⟨_, hm, rfl⟩, decide_eq_true rfl⟩
    · rw [List.map_map, show ps.map (Prod.fst ∘ fun p => if p.1 = q then (p.1, g q + d) else p) = ps.map Prod.fst from List.map_congr_left fun p _ => by
        show (if p.1 = q then (p.1, g q + d) else p).1 = p.1
        split <;> rfl]
      exact h.nd
    · rw [List.mem_map]
      by_cases e : q' = q
      · subst e
        rw [if_pos rfl]
        constructor
        · rintro ⟨⟨q2, c2⟩, hp, e2⟩
          by_cases e3 : q2 = q'
          · rw [if_pos e3] at e2
            have := (Prod.mk.inj e2).2
            omega
          · rw [if_neg e3] at e2
            exact absurd (Prod.mk.inj e2).1 e3
        · rintro ⟨h1, h2⟩
          refine ⟨_, hm, ?_⟩
          rw [if_pos rfl, h1]
      · rw [if_neg e, Nat.add_zero, ← h.mem]
        constructor
        · rintro ⟨⟨q2, c2⟩, hp, e2⟩
          by_cases e3 : q2 = q
          · rw [if_pos e3] at e2
            exact absurd ((Prod.mk.inj e2).1.symm.trans e3) e
          · rw [if_neg e3] at e2
            rw [← e2]
            exact hp
        · intro hp
          exact ⟨_, hp, if_neg e⟩
/-- all keys are values of a list -/
theorem Cnt.len {g : Nat → Nat} {ps : List (Nat × Nat)} {ks : List Nat} (h : Cnt g ps) (hk : ∀ q, 1 ≤ g q → q ∈ ks) : ps.length ≤ ks.length := by
  have := nodup_sub (ys := ks) h.nd fun x hx => by
    obtain ⟨⟨q, c⟩, hp, rfl⟩ := List.mem_map.mp hx
    obtain ⟨h1, h2⟩ := (h.mem q c).mp hp
    exact hk q (by omega)
  rwa [List.length_map] at this
/-- the keys in their order -/
def IsKeys (g : Nat → Nat) (ks : List Nat) : Prop := ks.Pairwise (· < ·) ∧ ∀ q, q ∈ ks ↔ 1 ≤ g q
theorem IsKeys.uniq {g : Nat → Nat} {ks ks' : List Nat} (h : IsKeys g ks) (h' : IsKeys g ks') : ks = ks' := ascN_eq h.1 h'.1 fun k => (h.2 k).trans (h'.2 k).symm
def prs (g : Nat → Nat) (ks : List Nat) : List (Nat × Nat) := ks.map fun q => (q, g q)
/-- a list of the pairs, ascending -/
theorem Cnt.sorted {g : Nat → Nat} {ps ys : List (Nat × Nat)} (h : Cnt g ps) (hp : ys.Perm ps) (hs : ys.Pairwise fun x y => ¬ (y.1 < x.1)) : IsKeys g (ys.map Prod.fst) ∧ ys = prs g (ys.map Prod.fst) := by
  have nd : (ys.map Prod.fst).Nodup := (hp.map Prod.fst).nodup_iff.mpr h.nd
  refine ⟨⟨?_, fun q => ?_⟩, ?_⟩
  · rw [List.pairwise_map]
    rw [List.nodup_iff_pairwise_ne, List.pairwise_map] at nd
    exact (hs.and nd).imp fun ⟨h1, h2⟩ => by omega
  · rw [List.mem_map]
    constructor
    · rintro ⟨⟨q', c⟩, hm, rfl⟩
      obtain ⟨h1, h2⟩ := (h.mem q' c).mp (hp.mem_iff.mp hm)
      show 1 ≤ g q'
      omega
    · intro hq
      exact ⟨(q, g q), hp.mem_iff.mpr ((h.mem q (g q)).mpr ⟨rfl, hq⟩), rfl⟩
  · unfold prs
    rw [List.map_map]
    conv => lhs; rw [← List.map_id ys]
    refine List.map_congr_left fun p hm => ?_
    obtain ⟨q, c⟩ := p
    obtain ⟨h1, h2⟩ := (h.mem q c).mp (hp.mem_iff.mp hm)
    show (q, c) = (q, g q)
    rw [h1]
def cntQ (f : Nat → Nat) (ms : List Nat) (q : Nat) : Nat := (ms.filter fun x => decide (f x = q)).length
theorem cntQ_perm {f : Nat → Nat} {ms ms' : List Nat} (h : ms.Perm ms') (q : Nat) : cntQ f ms q = cntQ f ms' q := (h.filter _).length_eq
theorem cntQ_app (f : Nat → Nat) (ms ms' : List Nat) (q : Nat) : cntQ f (ms ++ ms') q = cntQ f ms q + cntQ f ms' q := by
  unfold cntQ
  rw [List.filter_append, List.length_append]
theorem cntQ_const {f : Nat → Nat} {ms : List Nat} {q0 : Nat} (h : ∀ x ∈ ms, f x = q0) (q : Nat) : cntQ f ms q = if q = q0 then ms.length else 0 := by
  unfold cntQ
  by_cases e : q = q0
  · rw [if_pos e, List.filter_eq_self.mpr fun x hx => decide_eq_true (by rw [h x hx, e])]
  · rw [if_neg e, List.filter_eq_nil_iff.mpr fun x hx => by
      rw [decide_eq_true_eq, h x hx]
      exact fun z => e z.symm]
    rfl
theorem cntQ_pos {f : Nat → Nat} {ms : List Nat} {q : Nat} (h : 1 ≤ cntQ f ms q) : q ∈ ms.map f := by
  unfold cntQ at h
  obtain ⟨x, hx⟩ := List.exists_mem_of_length_pos h
  obtain ⟨h1, h2⟩ := List.mem_filter.mp hx
  rw [decide_eq_true_eq] at h2
  exact List.mem_map.mpr ⟨x, h1, h2⟩
end Wn
namespace Wn
open PySem PySem.Spec PyProof.Rows L2
theorem rem_pow (b n x k j : Nat) : rem (b ^ k) n x j = rem b n x (k * j) := by
  unfold rem
  rw [Nat.pow_mul]
theorem IsPer.pow {b n k c : Nat} (h : IsPer b n (k * c)) (hk : 1 ≤ k) (hc : 1 ≤ c) : IsPer (b ^ k) n c := by
  obtain ⟨h1, h2, h3⟩ := h
  refine ⟨hc, by rw [← Nat.pow_mul]; exact h2, fun j hj1 hj2 => ?_⟩
  rw [← Nat.pow_mul]
  exact h3 (k * j) (Nat.mul_pos hk hj1) ((Nat.mul_lt_mul_left hk).mpr hj2)
theorem restSum_rl (b n x k c : Nat) : restSum b n x k c = (rl (b ^ k) n x c).sum := by
  unfold restSum rl
  refine congrArg List.sum (List.map_congr_left fun i _ => ?_)
  rw [rem_pow]
theorem rest_shift (b n x k : Nat) : ∀ m, restSum b n (rem b n x k) k m + rem b n x 0 = restSum b n x k (m + 1)
  | 0 => by
    rw [restSum_succ]
    simp [restSum]
  | m + 1 => by
    rw [restSum_succ, restSum_succ b n x k (m + 1), ← rest_shift b n x k m, rem_rem, show k + k * m = k * (m + 1) by rw [Nat.mul_succ, Nat.add_comm]]
    omega
theorem rest_next {b n x k c : Nat} (h : IsPer b n (k * c)) : restSum b n (rem b n x k) k c = restSum b n x k c := by
  have h1 := rest_shift b n x k c
  rw [restSum_succ, show rem b n x (k * c) = rem b n x 0 from by have := rem_cyc (x := x) h 0; rwa [Nat.zero_add] at this] at h1
  omega
theorem rest_orb {b n x k c : Nat} (h : IsPer b n (k * c)) (hx : x < n) : ∀ i, restSum b n (rem b n x (k * i)) k c = restSum b n x k c
  | 0 => by rw [Nat.mul_zero, rem_zero hx]
  | i + 1 => by
    rw [Nat.mul_succ, ← rem_rem, rest_next h]
    exact rest_orb h hx i
theorem rest_mem {b n x k c r : Nat} (h : IsPer b n (k * c)) (hx : x < n) (hr : r ∈ rl (b ^ k) n x c) : restSum b n r k c = restSum b n x k c := by
  obtain ⟨i, _, e⟩ := mem_rl.mp hr
  rw [← e, rem_pow]
  exact rest_orb h hx i
theorem rest_bal {b n k c x : Nat} (h : bal b n k c = true) : restSum b n x k c % n = 0 := by
  unfold bal at h
  rw [decide_eq_true_eq, restSum_mod, Nat.one_mul] at h
  rw [restSum_mod, Nat.mul_mod, h, Nat.mul_zero, Nat.zero_mod]
/-- the sum of the pieces is nines times the sum of the remainders over n -/
theorem pcs_div {b n x k c : Nat} (hb : 2 ≤ b) (hk : 1 ≤ k) (hn : 1 ≤ n) (h : IsPer b n (k * c)) : ((pcs b n x k c).sum % (b ^ k - 1) = 0 ↔ restSum b n x k c % n = 0) ∧ (restSum b n x k c % n = 0 → (pcs b n x k c).sum / (b ^ k - 1) = restSum b n x k c / n) := by
  have e := pcs_all (b := b) (n := n) (x := x) (k := k) (c := c) (by omega) (by have := rem_cyc (x := x) h 0; rwa [Nat.zero_add] at this)
  have b2 : 2 ≤ b ^ k := Nat.le_trans (by simpa using hb) (Nat.pow_le_pow_right (by omega) hk)
  have b1 : 1 ≤ b ^ k - 1 := by omega
  generalize b ^ k - 1 = m at e b1
  generalize (pcs b n x k c).sum = S at e
  generalize restSum b n x k c = R at e
  have h1 : ∀ t, R = n * t → S = m * t := fun t z => by
    rw [z] at e
    have : n * S = n * (m * t) := by
      rw [e]
      exact Nat.mul_left_comm m n t
    exact Nat.eq_of_mul_eq_mul_left hn this
  have h2 : ∀ t, S = m * t → R = n * t := fun t z => by
    rw [z] at e
    have : m * R = m * (n * t) := by
      rw [← e]
      exact Nat.mul_left_comm n m t
    exact Nat.eq_of_mul_eq_mul_left b1 this
  refine ⟨⟨fun z => ?_, fun z => ?_⟩, fun z => ?_⟩
  · obtain ⟨t, ht⟩ := Nat.dvd_of_mod_eq_zero z
    rw [h2 t ht, Nat.mul_mod_right]
  · obtain ⟨t, ht⟩ := Nat.dvd_of_mod_eq_zero z
    rw [h1 t ht, Nat.mul_mod_right]
  · obtain ⟨t, ht⟩ := Nat.dvd_of_mod_eq_zero z
    rw [h1 t ht, ht, Nat.mul_div_cancel_left _ b1, Nat.mul_div_cancel_left _ hn]
/-! the members of the orbits of the least ones -/
def msQ (B n c i : Nat) : List Nat := ((List.range i).filter (topB B n c)).flatMap fun y => rl B n y c
theorem msQ_succ (B n c i : Nat) : msQ B n c (i + 1) = msQ B n c i ++ (if topB B n c i = true then rl B n i c else []) := by
  unfold msQ
  rw [List.range_succ, List.filter_append, List.flatMap_append]
  by_cases h : topB B n c i = true
  · rw [if_pos h, List.filter_cons, if_pos h]
    simp
  · rw [if_neg h, List.filter_cons, if_neg h]
    simp
theorem mem_msQ {B n c i r : Nat} (g : Nat.gcd B n = 1) (h : IsPer B n c) (hi : i ≤ n) : r ∈ msQ B n c i ↔ Met B n c i r := by
  rw [met_top g h hi]
  unfold msQ
  rw [List.mem_flatMap]
  constructor
  · rintro ⟨y, hy, hr⟩
    obtain ⟨h1, h2⟩ := List.mem_filter.mp hy
    exact ⟨y, List.mem_range.mp h1, h2, mem_rl.mp hr⟩
  · rintro ⟨y, h1, h2, h3⟩
    exact ⟨y, List.mem_filter.mpr ⟨List.mem_range.mpr h1, h2⟩, mem_rl.mpr h3⟩
theorem rl_nodup {B n c x : Nat} (g : Nat.gcd B n = 1) (h : IsPer B n c) (gx : Nat.gcd x n = 1) : (rl B n x c).Nodup := by
  unfold rl
  rw [List.nodup_iff_pairwise_ne, List.pairwise_map, List.pairwise_iff_getElem]
  intro u v hu hv huv e
  rw [List.getElem_range, List.getElem_range] at e
  rw [List.length_range] at hu hv
  have := rem_once g gx h hu hv e
  omega
theorem msQ_nodup {B n c : Nat} (g : Nat.gcd B n = 1) (h : IsPer B n c) : ∀ i, i ≤ n → (msQ B n c i).Nodup
  | 0, _ => by simp [msQ]
  | i + 1, hi => by
    rw [msQ_succ]
    by_cases ht : topB B n c i = true
    · rw [if_pos ht]
      have gi := (top_iff.mp ht).1
      refine List.nodup_append.mpr ⟨msQ_nodup g h i (by omega), rl_nodup g h gi, fun x hx y hy e => ?_⟩
      subst e
      obtain ⟨y, h1, h2, h3⟩ := (mem_msQ g h (by omega)).mp hx
      have back := orb_symm h (by omega) (mem_rl.mp hy)
      have := orb_trans h (by omega) h3 back
      have nt := (not_top g h (by omega) gi).mpr ⟨y, h1, h2, this⟩
      rw [nt] at ht
      cases ht
    · rw [if_neg ht, List.append_nil]
      exact msQ_nodup g h i (by omega)
theorem filt_len {xs ys : List Nat} {p : Nat → Bool} (hx : xs.Nodup) (hy : ys.Nodup) (h : ∀ r, r ∈ xs ↔ r ∈ ys) : (xs.filter p).length = (ys.filter p).length := by
  refine Nat.le_antisymm (nodup_sub (hx.filter _) fun r hr => ?_) (nodup_sub (hy.filter _) fun r hr => ?_)
  · obtain ⟨h1, h2⟩ := List.mem_filter.mp hr
    exact List.mem_filter.mpr ⟨(h r).mp h1, h2⟩
  · obtain ⟨h1, h2⟩ := List.mem_filter.mp hr
    exact List.mem_filter.mpr ⟨(h r).mpr h1, h2⟩
/-- in the end all that have no common divisor with n -/
theorem met_all {B n c r : Nat} (hn : 1 ≤ n) (g : Nat.gcd B n = 1) (h : IsPer B n c) : Met B n c n r ↔ r < n ∧ Nat.gcd r n = 1 := by
  constructor
  · rintro ⟨y, h1, h2, i, h3, rfl⟩
    exact ⟨rem_lt hn, rem_cop g h2 i⟩
  · rintro ⟨h1, h2⟩
    exact ⟨r, h1, h2, 0, h.1, rem_zero h1⟩
theorem cnt_all {B n c : Nat} {f : Nat → Nat} {ts : List Nat} (hn : 1 ≤ n) (g : Nat.gcd B n = 1) (h : IsPer B n c) (ht : ts.Nodup) (hm : ∀ r, r ∈ ts ↔ r < n ∧ Nat.gcd r n = 1) (q : Nat) : cntQ f (msQ B n c n) q = cntQ f ts q :=
  filt_len (msQ_nodup g h n (Nat.le_refl _)) ht fun r => ((mem_msQ g h (Nat.le_refl _)).trans (met_all hn g h)).trans (hm r).symm
end Wn
/-! counts from both ends; how many there are -/
namespace Wn
open PySem PySem.Spec PyProof.Rows L2
theorem cnt_sum {f : Nat → Nat} {ks : List Nat} (nd : ks.Nodup) : ∀ ms : List Nat, (∀ x ∈ ms, f x ∈ ks) → (ks.map fun q => cntQ f ms q).sum = ms.length
  | [], hh => by
    clear hh
    induction ks with
    | nil => rfl
    | cons k r ih =>
      rw [List.map_cons, List.sum_cons, ih (List.nodup_cons.mp nd).2]
      rfl
  | x :: ms, h => by
    have ih := cnt_sum nd ms fun y hy => h y (List.mem_cons_of_mem _ hy)
    have one : ∀ q, cntQ f (x :: ms) q = (if f x = q then 1 else 0) + cntQ f ms q := fun q => by
      unfold cntQ
      rw [List.filter_cons]
      by_cases e : f x = q
      · rw [if_pos (decide_eq_true e), if_pos e, List.length_cons, Nat.add_comm]
      · rw [if_neg (by simpa using e), if_neg e, Nat.zero_add]
    have split : ∀ l : List Nat, (l.map fun q => cntQ f (x :: ms) q).sum = (l.map fun q => if f x = q then 1 else 0).sum + (l.map fun q => cntQ f ms q).sum := fun l => by
      induction l with
      | nil => rfl
      | cons a r ih =>
        rw [List.map_cons, List.map_cons, List.map_cons, List.sum_cons, List.sum_cons, List.sum_cons, ih, one]
        omega
    have hit : ∀ l : List Nat, l.Nodup → (l.map fun q => if f x = q then 1 else 0).sum = if f x ∈ l then 1 else 0 := fun l nl => by
      induction l with
      | nil => rfl
      | cons a r ih =>
        obtain ⟨n1, n2⟩ := List.nodup_cons.mp nl
        rw [List.map_cons, List.sum_cons, ih n2]
        by_cases e : f x = a
        · rw [if_pos e, if_neg (by rw [e]; exact n1), if_pos (by rw [e]; simp)]
        · rw [if_neg e]
          by_cases m : f x ∈ r
          · rw [if_pos m, if_pos (by simp [m])]
          · rw [if_neg m, if_neg (by simp [m, e])]
    rw [split, hit ks nd, if_pos (h x (by simp)), ih, List.length_cons, Nat.add_comm]
/-- the remainder of the other end -/
theorem rem_neg {b n x i : Nat} (hx : 1 ≤ x) (hxn : x < n) (g : Nat.gcd b n = 1) (gx : Nat.gcd x n = 1) (hn : 2 ≤ n) : rem b n (n - x) i + rem b n x i = n := by
  have h1 : (rem b n (n - x) i + rem b n x i) % n = 0 := by
    unfold rem
    rw [← Nat.add_mod, ← Nat.add_mul, Nat.sub_add_cancel (by omega), Nat.mul_mod_right]
  have h2 := rem_lt (b := b) (n := n) (x := x) (i := i) (by omega)
  have h3 := rem_lt (b := b) (n := n) (x := n - x) (i := i) (by omega)
  have h4 : 1 ≤ rem b n x i := by
    rcases Nat.eq_zero_or_pos (rem b n x i) with z | z
    · have := rem_cop g gx i
      rw [z, Nat.gcd_zero_left] at this
      omega
    · exact z
  obtain ⟨t, ht⟩ := Nat.dvd_of_mod_eq_zero h1
  have : t = 1 := by
    rcases Nat.lt_or_ge t 2 with z | z
    · have : t ≠ 0 := fun z => by
        rw [z, Nat.mul_zero] at ht
        omega
      omega
    · have : n * 2 ≤ n * t := Nat.mul_le_mul_left _ z
      omega
  rw [this, Nat.mul_one] at ht
  exact ht
theorem rest_neg {b n x k : Nat} (hx : 1 ≤ x) (hxn : x < n) (g : Nat.gcd b n = 1) (gx : Nat.gcd x n = 1) (hn : 2 ≤ n) : ∀ c, restSum b n (n - x) k c + restSum b n x k c = n * c
  | 0 => by simp [restSum]
  | c + 1 => by
    have e1 := rest_neg (b := b) (k := k) hx hxn g gx hn c
    have e2 := rem_neg (b := b) (i := k * c) hx hxn g gx hn
    rw [restSum_succ, restSum_succ, Nat.mul_succ]
    omega
theorem rest_pos {b n x k c : Nat} (hx : 1 ≤ x) (hxn : x < n) (g : Nat.gcd b n = 1) (gx : Nat.gcd x n = 1) (hn : 2 ≤ n) (hc : 1 ≤ c) : 1 ≤ restSum b n x k c := by
  obtain ⟨c, rfl⟩ : ∃ d, c = d + 1 := ⟨c - 1, by omega⟩
  rw [restSum_succ]
  have h4 : 1 ≤ rem b n x (k * c) := by
    rcases Nat.eq_zero_or_pos (rem b n x (k * c)) with z | z
    · have := rem_cop g gx (k * c)
      rw [z, Nat.gcd_zero_left] at this
      omega
    · exact z
  omega
/-- the quotient of the other end -/
theorem quo_neg {b n x k c : Nat} (hx : 1 ≤ x) (hxn : x < n) (g : Nat.gcd b n = 1) (gx : Nat.gcd x n = 1) (hn : 2 ≤ n) (h : restSum b n x k c % n = 0) : restSum b n (n - x) k c / n + restSum b n x k c / n = c := by
  have e := rest_neg (b := b) (k := k) hx hxn g gx hn c
  obtain ⟨t, ht⟩ := Nat.dvd_of_mod_eq_zero h
  rw [ht] at e ⊢
  have hle : n * t ≤ n * c := by omega
  have htc : t ≤ c := Nat.le_of_mul_le_mul_left hle (by omega)
  have e2 : restSum b n (n - x) k c = n * (c - t) := by
    rw [Nat.mul_sub]
    omega
  rw [e2, Nat.mul_div_cancel_left _ (by omega), Nat.mul_div_cancel_left _ (by omega)]
  omega
theorem neg_cop {n x : Nat} (hx : x ≤ n) (g : Nat.gcd x n = 1) : Nat.gcd (n - x) n = 1 := by
  have h := Nat.gcd_dvd_left (n - x) n
  have h2 := Nat.gcd_dvd_right (n - x) n
  have h3 : Nat.gcd (n - x) n ∣ x := by
    have := Nat.dvd_sub h2 h
    rwa [show n - (n - x) = x by omega] at this
  have := Nat.dvd_gcd h3 h2
  rw [g] at this
  exact Nat.dvd_one.mp this
end Wn
namespace Wn
open PySem PySem.Spec PyProof.Rows L2
/-! list.count of flat items -/
theorem count_vals {y : V} : ∀ {ys : List V} {its : List Value}, Vals ys its → ys.all flatV = true → its.countP (eqU y) = ys.countP fun z => eqV z y
  | [], _, h, _ => by cases h; rfl
  | z :: ys, _, h, f => by
    cases h with
    | cons rz rt =>
      rw [List.all_cons, Bool.and_eq_true] at f
      rw [List.countP_cons, List.countP_cons, count_vals rt f.2, eqU_of rz f.1]
section
variable {X : Cx}
def rCount (K : PySem.W.Frag) : V → List V → Hp → VK → Prop := fun x xs H Q => ∃ (a : Addr) (ys : List V) (y : V), x = V.ref a ∧ xs = [y] ∧ SqL K H a ys ∧ flatV y = true ∧ ys.all flatV = true ∧ Q (.int ((ys.countP fun z => eqV z y : Nat) : Int)) H
theorem mt_count : MtR X "list.count" (rCount X.K) := by
  intro pins s σ H x xs v us Q I rx rxs h
  obtain ⟨a, ys, y, rfl, rfl, hs, fy, fys, q⟩ := h
  cases rx
  cases rxs with
  | cons ry rt =>
    rename_i uy ut
    cases rt
    obtain ⟨its, rv, ⟨⟨cls, dd, data, sl⟩, n, ho, hc, hdn, hd⟩, hlen⟩ := I.list hs
    simp only at hc hd
    subst hc hd
    refine call_meets PySem.F.slot_list_count ⟨_, ho, rfl⟩ PySem.F.entry_list_count (PySem.F.args_list_count_2 _ _)
      (SeqAt.list_countAt a its.toArray n dd sl uy (eqU y)) ⟨ho, fun u' hu' => mem_eqAt ry fy rv fys u' (by simpa using hu'), ?_⟩
    rw [← count_vals rv fys] at q
    exact ⟨.int (its.countP (eqU y) : Nat), H, I.tok _, ⟨_, rfl⟩, q⟩
variable {T : String} {name id : Str} {r : V → List V → Hp → VK → Prop} {o e : Expr} {es : List Expr} {to : TE} {t : TA} {apos cpos : Pos}
theorem pe_bmC {K' : PySem.W.Frag} {idn : String} {nm : Str} (pa : PlainAttrs T) (slot : Slot T nm idn) (hty : typeOf (.builtin idn) = pure (.type "method_descriptor")) (hm : MtR X idn r) (ho : PE X o to) (ha : PA X (e :: es) t) (hK : X.K = K')
    (hbase : attributeBase o nm X.env (eval o X.env) = eval o X.env := by rfl)
    (hfew : ((backTo cpos (starEach (e :: es) X.env)).all (fun x => !x.1) && (backToKw cpos (keywordEach [] X.env)).all (fun x => x.1.isSome)
      && decide ((e :: es).length + ([] : List Keyword).length + (if ([] : List Keyword).isEmpty then 0 else 1) < 30)) = true := by rfl)
    (hline : (apos.endLine == cpos.line) = true := by rfl) (hs : starEach (e :: es) X.env = (false, eval e X.env) :: starEach es X.env := by rfl) (hplain : (backTo cpos (starEach es X.env)).any (·.1) = false := by rfl) :
    PE X (.Call (.Attribute o nm apos) (e :: es) [] cpos) (tBM K' T r to t) := hK ▸ pe_bm pa slot hty hm ho ha hbase hfew hline hs hplain
end
end Wn
/-! enumerate over a tuple -/
namespace Wn
open PySem PySem.Spec PyProof.Rows L2
theorem meets_enum1 {v : Value} {o : Obj} {G : Heap → Prop} (B : Begins v o G) :
    Meets (Builtin.«enumerate.__new__» ⟨[.type "enumerate", v], []⟩) (fun _ R s => G s.heap ∧
      R (.ok (.ret (.ref (s.heap.push o).objs.size))) { s with heap := (s.heap.push o).push { cls := .type "enumerate", data := .fields #[.none, .bool false, .ref s.heap.objs.size, rawInt 0, .none, .none] } }) :=
  .of_wp fun prog w A R s h => by
    obtain ⟨h0, g, d, tk, os⟩ := s
    obtain ⟨h1, h⟩ := h
    have hsub := sub_enumerate
    have q1 : ∀ {A' : Around} {E : Value → Shared → Prop} {Q : Value → Shared → Prop}, Q (.ref h0.objs.size) ⟨h0.push o, g, d, tk, os⟩ → wpAny (model prog w) A' (pyIter v) Q E ⟨h0, g, d, tk, os⟩ :=
      fun q => B.iter prog w _ _ ⟨h0, g, d, tk, os⟩ _ h1 q
    wp_walk using q1
    refine wpAny_stack_any fun st => wpAny_pure ?_
    split
    · rename_i c _ _ _ _ _
      cases (c == Value.type "enumerate")
      · wp_walk using q1
        exact ⟨_, rfl, h⟩
      · wp_walk using q1
        exact ⟨_, rfl, h⟩
    · wp_walk using q1
      exact ⟨_, rfl, h⟩
theorem enum1 {prog : Program} {w : World} {A : Around} {E : Value → Shared → Prop} {s : Shared} {v : Value} {o : Obj} {G : Heap → Prop} {Q : Value → Shared → Prop} (B : Begins v o G) (h1 : G s.heap)
    (h : ∀ h', IsEnum h' (s.heap.objs.size + 1) s.heap.objs.size 0 .none → h'.get? s.heap.objs.size = some o → (∀ b o, s.heap.get? b = some o → h'.get? b = some o) → Q (.ref (s.heap.objs.size + 1)) { s with heap := h' }) :
    wpAny (model prog w) A (call (.type "enumerate") [v]) Q E s := by
  refine callType_new F.called_enumerate (by decide) (F.typeCall_enumerate_1 _) (F.newCall_enumerate_1 _) (fun obj => F.args_object_init_2 obj _) F.entry_enumerate_new (meets_enum1 B) ⟨h1, ?_⟩
  have hz : (s.heap.push o).objs.size = s.heap.objs.size + 1 := Heap.size_push ..
  show _ ∧ _
  rw [hz]
  have he : IsEnum ((s.heap.push o).push { cls := .type "enumerate", data := .fields #[.none, .bool false, .ref s.heap.objs.size, rawInt 0, .none, .none] }) (s.heap.objs.size + 1) s.heap.objs.size 0 .none := by
    have z := Heap.get?_push_size (s.heap.push o) (o := { cls := .type "enumerate", data := .fields #[.none, .bool false, .ref s.heap.objs.size, rawInt 0, .none, .none] }) rfl
    rw [hz] at z
    exact z
  exact ⟨⟨_, he, rfl⟩, h _ he (Heap.get?_push_of_some _ (Heap.get?_push_size _ B.free)) fun b u x => Heap.get?_push_of_some _ (Heap.get?_push_of_some _ x)⟩
/-- the tuple at a as it stands, each item in a new pair -/
def ItE (K : PySem.W.Frag) (a : Addr) : It :=
  ⟨fun i H => ∃ (xs : List V) (x : V), SqT K H a xs ∧ xs[i]? = some x, fun i H v H' => ∃ T x, v = .ref T ∧ H T = none ∧ H' = upd H T (.tup [.int (i : Nat), x]) ∧ ∀ xs, SqT K H a xs → xs[i]? = some x, fun i H => ∃ xs : List V, SqT K H a xs ∧ xs.length = i⟩
theorem turn_enumT {P : Program} {w : World} {K : PySem.W.Frag} {elts : List Expr} {kk : Nat} {tpos : Pos} (a e it : Addr) (its : Array Value) (hat : a ≠ it) (hae : a ≠ e) (hne : e ≠ it) :
    Turn P w K (.Tuple elts kk tpos) (ItE K a) [e, it] e (fun i h => (∃ old, IsEnum h e it ((i : Nat) : Int) old) ∧ h.IsTupleIter it a i) where
  mem := by simp
  obj := fun i h st b hb => by
    obtain ⟨⟨old, he⟩, ⟨o, ho, hc, hd⟩⟩ := st
    have e' : b = e ∨ b = it := by simpa using hb
    rcases e' with z | z
    · rw [z]
      exact ⟨_, he, fun v q => nomatch q⟩
    · rw [z]
      exact ⟨o, ho, fun v q => by rw [hd] at q; cases q⟩
  keep := fun i h h' st k => let ⟨⟨old, he⟩, hi⟩ := st; ⟨⟨old, k e (by simp) _ he⟩, hi.at fun o q => k it (by simp) o q⟩
  item := by
    intro X hP hw hK hc i pins s σ H E I hf st hg
    subst hP hw hK
    obtain ⟨⟨old, he⟩, hit⟩ := st
    obtain ⟨xs, x, hq, hx⟩ := hg
    obtain ⟨vs, rv, p, hz⟩ := I.tuple hq
    obtain ⟨u, hu, ru⟩ := rv.get hx
    have hel : e < s.heap.objs.size := Heap.lt_size he
    have hil : it < s.heap.objs.size := by
      obtain ⟨_, q, _⟩ := hit
      exact Heap.lt_size q
    have D := Draws.tuple (prog := X.prog) (w := X.w) (A := X.A.in1) (I.ok.hd hc) it a hat vs.toArray
    have lt : i < vs.toArray.size := by
      rw [List.size_toArray]
      exact (List.getElem?_eq_some_iff.mp hu).1
    refine wpAny_pyNext_enum_itemD D he ⟨hit, p⟩ lt hne (by simpa using ⟨hne, Ne.symm hae⟩) fun x' h' tk hp ho hs' hT hsz hk => ?_
    have ex : x' = u := by
      have z : vs.toArray[i]? = some x' := hp
      rw [show vs.toArray[i]? = vs[i]? by simp, hu] at z
      exact (Option.some.inj z).symm
    subst ex
    refine ⟨_, rfl, wpAny_letOwnedTupleGo_enum (s := { s with heap := h', toks := tk + 1 }) ho fun h'' he' sb => ?_⟩
    have hT2 : h''.get? s.heap.objs.size = some { cls := .type "tuple", data := .seq #[.int i tk, x'] } := (sb.2 _ (Nat.ne_of_gt hel)).trans hT
    have new : ObjOk X.prog X.w (upd H s.heap.objs.size (.tup [.int (i : Nat), x])) h'' s.heap.objs.size (.tup [.int (i : Nat), x]) :=
      ⟨by show 2 ≤ sizeLine; decide, [.int i tk, x'], .cons ⟨_, rfl⟩ (.cons ru .nil), ⟨_, hT2, rfl, _, rfl⟩⟩
    have I1 : Inv X pins σ (upd H s.heap.objs.size (.tup [.int (i : Nat), x])) { s with heap := h'', toks := tk + 1 } :=
      I.turnedNew (ch := [e, it]) (fun b ob hb q => (sb.2 b (fun z => hb (by simp [z]))).trans (hk b ob (fun z => hb (by simp [z])) (fun z => hb (by simp [z])) q)) hf (Nat.le_refl _) new
    refine ⟨.ref s.heap.objs.size, _, I1, rfl, ⟨_, x, rfl, I.hok.fresh (Nat.le_refl _), rfl, fun ys hy => by rw [I.tuple_inj hy hq]; exact hx⟩, ⟨⟨x', ?_⟩, hs'.1.at fun o q => (sb.2 it (Ne.symm hne)).trans q⟩, fun b hb => ?_⟩
    · have e1 : ((i + 1 : Nat) : Int) = (i : Int) + 1 := by omega
      rw [e1]
      exact he'
    · have hb' : b < s.heap.objs.size := by
        have e' : b = e ∨ b = it := by simpa using hb
        rcases e' with z | z
        · rw [z]
          exact hel
        · rw [z]
          exact hil
      rw [upd_ne (Nat.ne_of_lt hb')]
      exact (hf b hb).1
  done := by
    intro X hP hw hK hc i pins s σ H E I hf st hg
    subst hP hw hK
    obtain ⟨⟨old, he⟩, hit⟩ := st
    obtain ⟨xs, hq, hx⟩ := hg
    obtain ⟨vs, rv, p, hz⟩ := I.tuple hq
    obtain ⟨f0, f1, f2, f3, f4, f5⟩ := hf it (by simp)
    have hl := rv.length
    have D := Draws.tuple (prog := X.prog) (w := X.w) (A := X.A.in1) (I.ok.hd hc) it a hat vs.toArray
    have en : vs.toArray.size = i := by
      rw [List.size_toArray, ← hl, hx]
    refine wpAny_pyNext_enum_endD D he ⟨by rw [en]; exact hit, p⟩ fun h' eb => ⟨rfl, I.turned (t' := s.toks) (fun b o hb q => eb b o hb q) f0 f1 f3 f4 f5⟩
  self := fun A i s Q E st h => let ⟨⟨_, he⟩, _⟩ := st; wpAny_pyIter_enum he h
def iEnumT (K : PySem.W.Frag) (ta : TA) : TI := fun σ H R => ta σ H fun vs H1 => ∃ a xs, vs = [.ref a] ∧ SqT K H1 a xs ∧ R (ItE K a) H1
theorem pi_enumT {X : Cx} {e : Expr} {ta : TA} {p pos tpos : Pos} {elts : List Expr} {kk : Nat} (hg : Gl X "enumerate") (hm : X.mg "enumerate" = none) (ha : PA X [e] ta) (hs : starEach [e] X.env = [(false, eval e X.env)] := by rfl) :
    PI X (.Tuple elts kk tpos) (.Call (.Name "enumerate" p) [e] [] pos) (iEnumT X.K ta) := by
  refine ⟨fun pins s σ H R I h => ?_⟩
  refine Call_ (ld_blt I hg hm boot_enumerate (PyProof.Rows.callWith_type1 (thn (ha.run pos pins s σ H _ I h) fun us s1 hh => ?_) hs rfl))
  obtain ⟨vs, H1, I1, r1, a, xs, ex, hq, q⟩ := hh
  subst ex
  cases r1 with
  | cons r rr =>
    cases rr
    cases r
    obtain ⟨its, rv, p', hz⟩ := I1.tuple hq
    have pT : s1.heap.IsTuple a its.toArray := p'
    refine enum1 (begins_tuple a its.toArray) pT fun h' he hit hk => wpAny_pyIter_enum he ?_
    have I2 : Inv X pins σ H1 { s1 with heap := h' } := I1.kept (t' := s1.toks) hk
    have hlt : a < s1.heap.objs.size := by
      obtain ⟨o, e, _⟩ := pT
      exact Heap.lt_size e
    refine ⟨s1.heap.objs.size + 1, [s1.heap.objs.size + 1, s1.heap.objs.size], _, _, H1, rfl, I2, turn_enumT a (s1.heap.objs.size + 1) s1.heap.objs.size its.toArray (Nat.ne_of_lt hlt) (Nat.ne_of_lt (Nat.lt_succ_of_lt hlt)) (Nat.succ_ne_self _), ⟨⟨.none, he⟩, ⟨_, hit, rfl, rfl⟩⟩, fun b hb => ?_, q⟩
    have e' : b = s1.heap.objs.size + 1 ∨ b = s1.heap.objs.size := by simpa using hb
    have hle : s1.heap.objs.size ≤ b := by
      rcases e' with z | z
      · rw [z]
        exact Nat.le_add_right _ _
      · rw [z]
        exact Nat.le_refl _
    exact I1.fpOk hle (I1.hok.fresh hle)
theorem for_enumT {K : PySem.W.Frag} {a : Addr} {xs : List V} {g : TG} {tb : TS} {D : Ends} {σ : L2.St} {H : Hp} (Pv : Nat → L2.St → Hp → Prop) (h0 : Pv 0 σ H) (hl : ∀ i σ H, i ≤ xs.length → Pv i σ H → SqT K H a xs)
    (hs : ∀ i x T σ H, xs[i]? = some x → H T = none → Pv i σ H → g (.ref T) σ (upd H T (.tup [.int (i : Nat), x])) fun σ2 H2 => tb { D with nx := Pv (i + 1), ct := Pv (i + 1), bk := D.nx } σ2 H2) (hd : ∀ σ H, Pv xs.length σ H → D.nx σ H) :
    ∃ W : Nat → Nat → L2.St → Hp → Prop, (∃ m, W 0 m σ H) ∧ ∀ i m σ H, W i m σ H →
      ((ItE K a).stop i H ∧ D.nx σ H) ∨ ((ItE K a).go i H ∧ ∃ N : L2.St → Hp → Prop, (∀ σ' H', N σ' H' → ∃ m', m' < m ∧ W (i + 1) m' σ' H') ∧ ∀ x H', (ItE K a).yld i H x H' → g x σ H' fun σ2 H2 => tb { D with nx := N, ct := N, bk := D.nx } σ2 H2) := by
  refine ⟨fun i m σ H => m = xs.length - i ∧ i ≤ xs.length ∧ Pv i σ H, ⟨xs.length, by simp, Nat.zero_le _, h0⟩, ?_⟩
  rintro i m σ H ⟨em, hi, p⟩
  subst em
  have sq := hl i σ H hi p
  rcases Nat.lt_or_eq_of_le hi with lt | e
  · refine .inr ⟨⟨xs, xs[i], sq, by simp [lt]⟩, Pv (i + 1), fun σ' H' p' => ⟨xs.length - (i + 1), by omega, rfl, lt, p'⟩, fun x H' y => ?_⟩
    obtain ⟨T, z, e1, e2, e3, e4⟩ := y
    subst e1 e3
    exact hs i z T σ H (e4 xs sq) e2 p
  · subst e
    exact .inl ⟨⟨xs, sq, rfl⟩, hd σ H p⟩
end Wn
namespace Wn
open PySem PySem.Spec PyProof.Rows L2
/-! enumerate of a list, in a loop and in a comprehension -/
theorem for_enumL {K : PySem.W.Frag} {a : Addr} {xs : List V} {g : TG} {tb : TS} {D : Ends} {σ : L2.St} {H : Hp} (Pv : Nat → L2.St → Hp → Prop) (h0 : Pv 0 σ H) (hl : ∀ i σ H, i ≤ xs.length → Pv i σ H → SqL K H a xs)
    (hs : ∀ i x T σ H, xs[i]? = some x → H T = none → Pv i σ H → g (.ref T) σ (upd H T (.tup [.int (i : Nat), x])) fun σ2 H2 => tb { D with nx := Pv (i + 1), ct := Pv (i + 1), bk := D.nx } σ2 H2) (hd : ∀ σ H, Pv xs.length σ H → D.nx σ H) :
    ∃ W : Nat → Nat → L2.St → Hp → Prop, (∃ m, W 0 m σ H) ∧ ∀ i m σ H, W i m σ H →
      ((Ite K a).stop i H ∧ D.nx σ H) ∨ ((Ite K a).go i H ∧ ∃ N : L2.St → Hp → Prop, (∀ σ' H', N σ' H' → ∃ m', m' < m ∧ W (i + 1) m' σ' H') ∧ ∀ x H', (Ite K a).yld i H x H' → g x σ H' fun σ2 H2 => tb { D with nx := N, ct := N, bk := D.nx } σ2 H2) := by
  refine ⟨fun i m σ H => m = xs.length - i ∧ i ≤ xs.length ∧ Pv i σ H, ⟨xs.length, by simp, Nat.zero_le _, h0⟩, ?_⟩
  rintro i m σ H ⟨em, hi, p⟩
  subst em
  have sq := hl i σ H hi p
  rcases Nat.lt_or_eq_of_le hi with lt | e
  · refine .inr ⟨⟨xs, xs[i], sq, by simp [lt]⟩, Pv (i + 1), fun σ' H' p' => ⟨xs.length - (i + 1), by omega, rfl, lt, p'⟩, fun x H' y => ?_⟩
    obtain ⟨T, z, e1, e2, e3, e4⟩ := y
    subst e1 e3
    exact hs i z T σ H (e4 xs sq) e2 p
  · subst e
    exact .inl ⟨⟨xs, sq, Nat.le_refl _⟩, hd σ H p⟩
theorem lc_enumL {K : PySem.W.Frag} {a : Addr} {xs : List V} {g : TG} {tt : TT} {te : TE} {vs : List Nat} {σ : L2.St} {H1 : Hp} {D : Addr} {Qd : Hp → Prop} (Pv : Nat → Hp → Prop) (h0 : Pv 0 (upd H1 D (.lst []))) (hl : ∀ i H, i ≤ xs.length → Pv i H → SqL K H a xs)
    (hs : ∀ i x T H, xs[i]? = some x → H T = none → Pv i H → g (.ref T) (wipe σ vs) (upd H T (.tup [.int (i : Nat), x])) fun σ2 H2 => wipe σ2 vs = wipe σ vs ∧ tt σ2 H2 fun b H3 =>
      if b = true then te σ2 H3 fun y H4 => ∃ acc, H4 D = some (.lst acc) ∧ acc.length < sizeLine ∧ Pv (i + 1) (upd H4 D (.lst (acc ++ [y]))) else Pv (i + 1) H3) (hd : ∀ H, Pv xs.length H → Qd H) :
    ∃ W : Nat → Nat → Hp → Prop, (∃ m, W 0 m (upd H1 D (.lst []))) ∧ ∀ i m H, W i m H →
      ((Ite K a).stop i H ∧ Qd H) ∨ ((Ite K a).go i H ∧ ∃ Nx : Hp → Prop, (∀ H', Nx H' → ∃ m', m' < m ∧ W (i + 1) m' H') ∧ ∀ x H', (Ite K a).yld i H x H' → g x (wipe σ vs) H' fun σ2 H2 => wipe σ2 vs = wipe σ vs ∧ tt σ2 H2 fun b H3 =>
        if b = true then te σ2 H3 fun y H4 => ∃ acc, H4 D = some (.lst acc) ∧ acc.length < sizeLine ∧ Nx (upd H4 D (.lst (acc ++ [y]))) else Nx H3) := by
  refine ⟨fun i m H => m = xs.length - i ∧ i ≤ xs.length ∧ Pv i H, ⟨xs.length, by simp, Nat.zero_le _, h0⟩, ?_⟩
  rintro i m H ⟨em, hi, p⟩
  subst em
  have q := hl i H hi p
  rcases Nat.lt_or_eq_of_le hi with lt | e
  · refine .inr ⟨⟨xs, xs[i], q, by simp [lt]⟩, Pv (i + 1), fun H' p' => ⟨xs.length - (i + 1), by omega, rfl, lt, p'⟩, fun x H' y => ?_⟩
    obtain ⟨T, z, e1, e2, e3, e4⟩ := y
    subst e1 e3
    exact hs i z T H (e4 xs q) e2 p
  · subst e
    exact .inl ⟨⟨xs, q, Nat.le_refl _⟩, hd H p⟩
end Wn
namespace Wn
/-! the length (order) of a residue -/
def ordN (n r : Nat) : Nat := if Nat.gcd r n = 1 then (match (List.range n).find? fun j => r ^ (j + 1) % n == 1 % n with
  | some j => j + 1
  | none => 0) else 0
theorem ordN_no {n r : Nat} (h : Nat.gcd r n ≠ 1) : ordN n r = 0 := if_neg h
theorem find_least {n : Nat} {p : Nat → Bool} {j : Nat} (hj : j < n) (h : p j = true) (hl : ∀ i, i < j → p i = false) : (List.range n).find? p = some j := by
  rw [List.find?_range_eq_some]
  refine ⟨h, List.mem_range.mpr hj, fun i hi => ?_⟩
  rw [hl i hi]
  rfl
theorem ordN_per {n r : Nat} (hn : 1 ≤ n) (h : Nat.gcd r n = 1) : IsPer r n (ordN n r) ∧ ordN n r ≤ n := by
  obtain ⟨L, hL, hP⟩ := per_exists hn h
  have e : ordN n r = L := by
    unfold ordN
    rw [if_pos h, find_least (j := L - 1) (by have := hP.1; omega) (by
      rw [Nat.sub_add_cancel hP.1, beq_iff_eq]
      exact hP.2.1) fun i hi => by
        rw [beq_eq_false_iff_ne]
        exact hP.2.2 (i + 1) (by omega) (by omega)]
    exact Nat.sub_add_cancel hP.1
  rw [e]
  exact ⟨hP, hL⟩
theorem ordN_eq {n r L : Nat} (hn : 1 ≤ n) (h : Nat.gcd r n = 1) (hP : IsPer r n L) : ordN n r = L := (ordN_per hn h).1.uniq hP
theorem ordN_pos {n r : Nat} (hn : 1 ≤ n) : ordN n r ≠ 0 ↔ Nat.gcd r n = 1 := by
  constructor
  · intro h
    by_cases g : Nat.gcd r n = 1
    · exact g
    · exact absurd (ordN_no g) h
  · intro g
    have := (ordN_per hn g).1.1
    omega
theorem ordN_le {n r : Nat} (hn : 1 ≤ n) : ordN n r ≤ n := by
  by_cases g : Nat.gcd r n = 1
  · exact (ordN_per hn g).2
  · rw [ordN_no g]
    exact Nat.zero_le _
theorem per_pow {n r L k : Nat} (h : IsPer r n L) (hk : 1 ≤ k) : IsPer (r ^ k % n) n (L / Nat.gcd k L) := by
  have hL := h.1
  have g0 : 0 < Nat.gcd k L := Nat.gcd_pos_of_pos_left L hk
  have key : ∀ j, (r ^ k % n) ^ j % n = 1 % n ↔ L / Nat.gcd k L ∣ j := fun j => by
    rw [← Nat.pow_mod, ← Nat.pow_mul, h.iff]
    obtain ⟨a, ha⟩ := Nat.gcd_dvd_left k L
    obtain ⟨c, hc⟩ := Nat.gcd_dvd_right k L
    have cop := Nat.coprime_div_gcd_div_gcd (m := k) (n := L) g0
    have e1 : L / Nat.gcd k L = c := Nat.div_eq_of_eq_mul_right g0 hc
    have e2 : k / Nat.gcd k L = a := Nat.div_eq_of_eq_mul_right g0 ha
    rw [e1, e2] at cop
    rw [e1]
    generalize Nat.gcd k L = g at g0 ha hc
    rw [ha, hc, Nat.mul_assoc]
    constructor
    · intro d
      exact (Nat.Coprime.symm cop).dvd_of_dvd_mul_left (Nat.dvd_of_mul_dvd_mul_left g0 d)
    · intro d
      exact Nat.mul_dvd_mul_left g (Nat.dvd_trans d (Nat.dvd_mul_left j a))
  refine ⟨Nat.div_pos (Nat.le_of_dvd hL (Nat.gcd_dvd_right k L)) g0, (key _).mpr (Nat.dvd_refl _), fun j j1 jd z => ?_⟩
  have := Nat.le_of_dvd (by omega) ((key j).mp z)
  omega
end Wn
namespace Wn
open PySem PySem.Spec PyProof.Rows L2
local macro_rules | `(tactic| walk_at "vc") => `(tactic| simp only [cxK, cxK2, start1, start2, start3, tRet, tRetN, tSeq, tNext, tIfS, tAsg, gName, tDrop, tVar, tC, tOp, tUn, tTest, tB, tNot, tAnd, tOr, tAndV, tOrV, tNotV, tIf, tCons, tNil, tCB, tCall, tChain, tAug, ipI, rI, rI0, rU, rIs, rGcd, rEq, rNe, scal,
  List.getElem?_cons_zero, List.getElem?_cons_succ, List.set_cons_zero, List.set_cons_succ, Option.some.injEq, List.cons.injEq, V.int.injEq, V.bl.injEq, V.ref.injEq, V.str.injEq, and_true, true_and, exists_eq_left, exists_eq_left', exists_and_left, exists_and_right, List.append_nil, List.nil_append, List.cons_append, exists_eq_right, exists_eq_right', and_assoc, exists_const, V.ty.injEq, ↓reduceIte, Bool.false_eq_true, Bool.not_true, Bool.not_false, decide_eq_true_eq])
def topS (i : Nat) : Stmt := PySem.Challenge.pw_wheelnines_k40_whole_lengths_of_residues.main.body.getD i (.Pass ⟨0, 0, 0, 0⟩)
abbrev s_is_integer : Stmt := topS 8
theorem sc_is_integer : FnScope ["value"] ["value"] (defScope s_is_integer) := ⟨rfl, rfl, rfl, by decide +kernel, rfl, by decide +kernel, by decide +kernel⟩
abbrev s_is_within : Stmt := topS 9
theorem sc_is_within : FnScope ["value", "low", "high"] ["value", "low", "high"] (defScope s_is_within) := ⟨rfl, rfl, rfl, by decide +kernel, rfl, by decide +kernel, by decide +kernel⟩
abbrev s_need_denominator : Stmt := topS 10
theorem sc_need_denominator : FnScope ["value"] ["value"] (defScope s_need_denominator) := ⟨rfl, rfl, rfl, by decide +kernel, rfl, by decide +kernel, by decide +kernel⟩
abbrev s_counted : Stmt := topS 12
theorem sc_counted : FnScope ["row", "counts", "number"] ["row"] (defScope s_counted) := ⟨rfl, rfl, rfl, by decide +kernel, rfl, by decide +kernel, by decide +kernel⟩
abbrev s_need_length : Stmt := topS 14
theorem sc_need_length : FnScope ["value"] ["value"] (defScope s_need_length) := ⟨rfl, rfl, rfl, by decide +kernel, rfl, by decide +kernel, by decide +kernel⟩
abbrev s_powers_to_one : Stmt := topS 15
theorem sc_powers_to_one : FnScope ["residue", "denominator", "one", "rests"] ["residue", "denominator"] (defScope s_powers_to_one) := ⟨rfl, rfl, rfl, by decide +kernel, rfl, by decide +kernel, by decide +kernel⟩
abbrev s_residue_lengths : Stmt := topS 16
theorem sc_residue_lengths : FnScope ["denominator", "lengths", "residue", "rests", "at", "rest"] ["denominator"] (defScope s_residue_lengths) := ⟨rfl, rfl, rfl, by decide +kernel, rfl, by decide +kernel, by decide +kernel⟩
abbrev s_residues_with : Stmt := topS 17
theorem sc_residues_with : FnScope ["denominator", "length", "residue", "found"] ["denominator", "length"] (defScope s_residues_with) := ⟨rfl, rfl, rfl, by decide +kernel, rfl, by decide +kernel, by decide +kernel⟩
abbrev s_spread : Stmt := topS 18
theorem sc_spread : FnScope ["denominator", "length"] ["denominator"] (defScope s_spread) := ⟨rfl, rfl, rfl, by decide +kernel, rfl, by decide +kernel, by decide +kernel⟩
abbrev s_greatest_period : Stmt := topS 19
theorem sc_greatest_period : FnScope ["denominator"] ["denominator"] (defScope s_greatest_period) := ⟨rfl, rfl, rfl, by decide +kernel, rfl, by decide +kernel, by decide +kernel⟩
abbrev s_bases_with : Stmt := topS 20
theorem sc_bases_with : FnScope ["denominator", "length", "lengths", "base"] ["denominator", "length"] (defScope s_bases_with) := ⟨rfl, rfl, rfl, by decide +kernel, rfl, by decide +kernel, by decide +kernel⟩
abbrev s_law_begun : Stmt := topS 22
theorem sc_law_begun : FnScope ["script", "k", "cells", "great", "cell", "seed"] ["script", "k"] (defScope s_law_begun) := ⟨rfl, rfl, rfl, by decide +kernel, rfl, by decide +kernel, by decide +kernel⟩
abbrev s_law_draw : Stmt := topS 23
theorem sc_law_draw : FnScope ["m", "limit", "found", "spot", "cells", "added", "cell", "blend"] ["m", "limit"] (defScope s_law_draw) := ⟨rfl, rfl, rfl, by decide +kernel, rfl, by decide +kernel, by decide +kernel⟩
abbrev s_law_divisor : Stmt := topS 25
theorem sc_law_divisor : FnScope ["one", "two"] ["one", "two"] (defScope s_law_divisor) := ⟨rfl, rfl, rfl, by decide +kernel, rfl, by decide +kernel, by decide +kernel⟩
abbrev s_law_powers : Stmt := topS 26
theorem sc_law_powers : FnScope ["b", "n", "some", "rest"] ["b", "n"] (defScope s_law_powers) := ⟨rfl, rfl, rfl, by decide +kernel, rfl, by decide +kernel, by decide +kernel⟩
abbrev s_law_period : Stmt := topS 27
theorem sc_law_period : FnScope ["b", "n", "some", "begin"] ["b", "n"] (defScope s_law_period) := ⟨rfl, rfl, rfl, by decide +kernel, rfl, by decide +kernel, by decide +kernel⟩
abbrev s_law_units : Stmt := topS 28
theorem sc_law_units : FnScope ["n", "k"] ["n"] (defScope s_law_units) := ⟨rfl, rfl, rfl, by decide +kernel, rfl, by decide +kernel, by decide +kernel⟩
abbrev s_law_lengths : Stmt := topS 29
theorem sc_law_lengths : FnScope ["n", "k"] ["n"] (defScope s_law_lengths) := ⟨rfl, rfl, rfl, by decide +kernel, rfl, by decide +kernel, by decide +kernel⟩
abbrev s_law_right : Stmt := topS 30
theorem sc_law_right : FnScope ["n", "own", "every", "pair", "due", "length_so", "known", "b"] ["n"] (defScope s_law_right) := ⟨rfl, rfl, rfl, by decide +kernel, rfl, by decide +kernel, by decide +kernel⟩
abbrev s_law_hand_right : Stmt := topS 31
theorem sc_law_hand_right : FnScope ["told", "six", "n", "length_so"] [] (defScope s_law_hand_right) := ⟨rfl, rfl, rfl, by decide +kernel, rfl, by decide +kernel, by decide +kernel⟩
abbrev s_law : Stmt := topS 32
theorem sc_law : FnScope ["script", "k", "m"] ["script"] (defScope s_law) := ⟨rfl, rfl, rfl, by decide +kernel, rfl, by decide +kernel, by decide +kernel⟩
def clsB (st : Stmt) (j : Nat) : Stmt := match st with
  | .ClassDef (body := b) .. => b.getD j (.Pass ⟨0, 0, 0, 0⟩)
  | _ => .Pass ⟨0, 0, 0, 0⟩
structure Txt (K : PySem.W.Frag) (mg : Str → Option Value) where
  d_is_integer : Dn K mg "is_integer" s_is_integer ["value"]
  d_is_within : Dn K mg "is_within" s_is_within ["value", "low", "high"]
  d_need_denominator : Dn K mg "need_denominator" s_need_denominator ["value"]
  d_counted : Dn K mg "counted" s_counted ["row"]
  d_need_length : Dn K mg "need_length" s_need_length ["value"]
  d_powers_to_one : Dn K mg "powers_to_one" s_powers_to_one ["residue", "denominator"]
  d_residue_lengths : Dn K mg "residue_lengths" s_residue_lengths ["denominator"]
  d_residues_with : Dn K mg "residues_with" s_residues_with ["denominator", "length"]
  d_spread : Dn K mg "spread" s_spread ["denominator"]
  d_greatest_period : Dn K mg "greatest_period" s_greatest_period ["denominator"]
  d_bases_with : Dn K mg "bases_with" s_bases_with ["denominator", "length"]
  d_law_begun : Dn K mg "_law_begun" s_law_begun ["script", "k"]
  d_law_draw : Dn K mg "_law_draw" s_law_draw ["m", "limit"]
  d_law_divisor : Dn K mg "_law_divisor" s_law_divisor ["one", "two"]
  d_law_powers : Dn K mg "_law_powers" s_law_powers ["b", "n"]
  d_law_period : Dn K mg "_law_period" s_law_period ["b", "n"]
  d_law_units : Dn K mg "_law_units" s_law_units ["n"]
  d_law_lengths : Dn K mg "_law_lengths" s_law_lengths ["n"]
  d_law_right : Dn K mg "_law_right" s_law_right ["n"]
  d_law_hand_right : Dn K mg "_law_hand_right" s_law_hand_right []
  d_law : Dn K mg "law" s_law ["script"]
  b_isinstance : mg "isinstance" = none
  b_int : mg "int" = none
  b_bool : mg "bool" = none
  b_len : mg "len" = none
  b_range : mg "range" = none
  b_tuple : mg "tuple" = none
  b_list : mg "list" = none
  b_max : mg "max" = none
  b_min : mg "min" = none
  b_repr : mg "repr" = none
  b_enumerate : mg "enumerate" = none
  b_sorted : mg "sorted" = none
  b_set : mg "set" = none
  b_gcd : mg "gcd" = some (.builtin "math.gcd")
  t_MOST_BASE : Tok
  c_MOST_BASE : mg "MOST_BASE" = some (.int 1000 t_MOST_BASE)
  t_MOST_DENOMINATOR : Tok
  c_MOST_DENOMINATOR : mg "MOST_DENOMINATOR" = some (.int 5000 t_MOST_DENOMINATOR)
section
variable {P : Program} {w : World} {K : PySem.W.Frag} {mg : Str → Option Value} {base : Heap}

def BN (b n : Nat) : Prop := 2 ≤ b ∧ b ≤ 1000 ∧ 1 ≤ n ∧ n ≤ 5000
def sp_is_integer : Sp := fun vs H Q _ => ∃ i : Int, vs = [.int i] ∧ Q (.bl true) H
def sp_is_within : Sp := fun vs H Q _ => ∃ i lo hi : Int, vs = [.int i, .int lo, .int hi] ∧ (lo ≤ i ∧ i ≤ hi) ∧ Q (.bl true) H
def sp_need_base : Sp := fun vs H Q _ => ∃ i : Int, vs = [.int i] ∧ (2 ≤ i ∧ i ≤ 1000) ∧ Q (.int i) H
def sp_need_denominator : Sp := fun vs H Q _ => ∃ i : Int, vs = [.int i] ∧ (1 ≤ i ∧ i ≤ 5000) ∧ Q (.int i) H
def sp_need_fraction : Sp := fun vs H Q _ => ∃ (a : Addr) (x n : Nat), vs = [.ref a] ∧ H a = some (.tup [.int x, .int n]) ∧ (x < n ∧ n ≤ 5000 ∧ Nat.gcd x n = 1) ∧ Q (.ref a) H
def sp_pure_part : Sp := fun vs H Q _ => ∃ b n : Nat, vs = [.int b, .int n] ∧ BN b n ∧ ∀ p : Nat, IsPure b n p → Q (.int p) H
def sp_period : Sp := fun vs H Q _ => ∃ b n : Nat, vs = [.int b, .int n] ∧ BN b n ∧ ∀ p d : Nat, IsPure b n p → IsPer b p d → Q (.int d) H
def sp_head_size : Sp := fun vs H Q _ => ∃ b n : Nat, vs = [.int b, .int n] ∧ BN b n ∧ ∀ p q h : Nat, IsPure b n p → n = p * q → IsHead b q h → Q (.int h) H
theorem ok_is_integer (T : Txt K mg) : FnOk P w K mg base CX0 1 T.d_is_integer.f T.d_is_integer.fd ["value"] sp_is_integer := by
  refine T.d_is_integer.F.ok sc_is_integer (fun vs H Q E h => ?_) (fun cdv A outer s H vs Q E hr h => ?_)
  · obtain ⟨i, rfl, _⟩ := h; rfl
  · have hu := hu_of hr
    refine ⟨_, (pss_one (ps_ret (pe_and (pe_callB (r := rIs K) call_is (by rfl) T.b_isinstance (by decide +kernel) (pa_cons (pv 0) (pa_cons (pe_bltn (v := .ty "int") (by rfl) T.b_int (by decide +kernel) rfl) pa_nil))) (pe_one (pe_not (pe_callB (r := rIs K) call_is (by rfl) T.b_isinstance (by decide +kernel) (pa_cons (pv 0) (pa_cons (pe_bltn (v := .ty "bool") (by rfl) T.b_bool (by decide +kernel) rfl) pa_nil)))))))), ?_⟩
    obtain ⟨i, rfl, q⟩ := h
    walk_at "vc"
    refine ⟨"int", ty_int, by decide, by decide, iteT ⟨"int", ty_int, by decide, by decide, q⟩⟩
theorem ok_is_within (T : Txt K mg) : FnOk P w K mg base CX0 2 T.d_is_within.f T.d_is_within.fd ["value", "low", "high"] sp_is_within := by
  refine T.d_is_within.F.ok sc_is_within (fun vs H Q E h => ?_) (fun cdv A outer s H vs Q E hr h => ?_)
  · obtain ⟨i, lo, hi, rfl, _⟩ := h; rfl
  · have hu := hu_of hr
    refine ⟨_, (pss_one (ps_ret (pe_and (pe_call (ok_is_integer T) (hr.mono (by decide)) (by rfl) T.d_is_integer.m T.d_is_integer.F.kp T.d_is_integer.b .nil pass0 (pa_cons (pv 0) pa_nil)) (pe_one (pe_chain op_le op_le (pv 1) (pv 0) (pv 2)))))), ?_⟩
    obtain ⟨i, lo, hi, rfl, ⟨h1, h2⟩, q⟩ := h
    refine ⟨_, rfl, i, rfl, true, rfl, iteT ?_⟩
    walk_at "vc"
    rw [if_pos h1, decide_eq_true h2]
    exact q
theorem ok_need_denominator (T : Txt K mg) : FnOk P w K mg base CX0 3 T.d_need_denominator.f T.d_need_denominator.fd ["value"] sp_need_denominator := by
  refine T.d_need_denominator.F.ok sc_need_denominator (fun vs H Q E h => ?_) (fun cdv A outer s H vs Q E hr h => ?_)
  · obtain ⟨i, rfl, _⟩ := h; rfl
  · have hu := hu_of hr
    refine ⟨_, (pss_cons (ps_if (pt_not (pt_val (pe_call (ok_is_within T) (hr.mono (by decide)) (by rfl) T.d_is_within.m T.d_is_within.F.kp T.d_is_within.b .nil pass0 (pa_cons (pv 0) (pa_cons pe_int (pa_cons (pe_glob (v := .int 5000) (by rfl) T.c_MOST_DENOMINATOR ⟨_, rfl⟩) pa_nil)))))) (pss_one ps_never) pss_nil)
      (pss_one (ps_ret (pv 0)))), ?_⟩
    obtain ⟨i, rfl, ⟨h1, h2⟩, q⟩ := h
    refine ⟨_, rfl, i, _, _, rfl, ⟨h1, h2⟩, true, rfl, iteF ?_⟩
    exact ⟨_, rfl, q⟩

/-- the digits of a division that has come to x: so many of them -/
def dgs (b n x c : Nat) : List V := (List.range c).map fun i => V.int ((rem b n x i * b / n : Nat) : Int)
def sp_divided : Sp := fun vs H Q _ => ∃ b x n c : Nat, vs = [.int b, .int x, .int n, .int c] ∧ (BN b n ∧ x < n ∧ c ≤ 10000) ∧ ∀ t H', Gr [] H H' → H' t = some (.tup (dgs b n x c)) → Q (.ref t) H'

def dgf (b n x lo c : Nat) : List V := (List.range c).map fun i => V.int ((rem b n x (lo + i) * b / n : Nat) : Int)
structure Exp (H : Hp) (r : Addr) (b x n h L : Nat) : Prop where
  at_ : ∃ a c, H r = some (.tup [.ref a, .ref c]) ∧ H a = some (.tup (dgf b n x 0 h)) ∧ H c = some (.tup (dgf b n x h L))
def sp_expansion : Sp := fun vs H Q _ => ∃ (b x n : Nat) (a : Addr), vs = [.int b, .ref a] ∧ H a = some (.tup [.int x, .int n]) ∧ (BN b n ∧ x < n ∧ Nat.gcd x n = 1) ∧
  ∀ p q h L t H', IsPure b n p → n = p * q → IsHead b q h → IsPer b p L → Gr [] H H' → Exp H' t b x n h L → Q (.ref t) H'

/-! the state of the draws of the second half -/
def mkv (c : Addr) (l sd s : Int) : List (Key × V) := [(Sum.inr "left", .int l), (Sum.inr "seed", .int sd), (Sum.inr "cells", .ref c), (Sum.inr "spot", .int s)]
theorem k_ld : ¬ (("left" : Str) = "seed") := by decide +kernel
theorem k_dl : ¬ (("seed" : Str) = "left") := by decide +kernel
theorem k_lc : ¬ (("left" : Str) = "cells") := by decide +kernel
theorem k_cl : ¬ (("cells" : Str) = "left") := by decide +kernel
theorem k_ls : ¬ (("left" : Str) = "spot") := by decide +kernel
theorem k_sl : ¬ (("spot" : Str) = "left") := by decide +kernel
theorem k_dc : ¬ (("seed" : Str) = "cells") := by decide +kernel
theorem k_cd : ¬ (("cells" : Str) = "seed") := by decide +kernel
theorem k_ds : ¬ (("seed" : Str) = "spot") := by decide +kernel
theorem k_sd : ¬ (("spot" : Str) = "seed") := by decide +kernel
theorem k_cs : ¬ (("cells" : Str) = "spot") := by decide +kernel
theorem k_sc : ¬ (("spot" : Str) = "cells") := by decide +kernel
theorem mv_l (c : Addr) (l sd s : Int) : valV (mkv c l sd s) (Sum.inr "left" : Key) = some (.int l) := by
  unfold mkv
  rw [valV_pos rfl]
theorem mv_d (c : Addr) (l sd s : Int) : valV (mkv c l sd s) (Sum.inr "seed" : Key) = some (.int sd) := by
  unfold mkv
  rw [valV_neg (by intro z; exact k_ld (Sum.inr.inj z)), valV_pos rfl]
theorem mv_c (c : Addr) (l sd s : Int) : valV (mkv c l sd s) (Sum.inr "cells" : Key) = some (.ref c) := by
  unfold mkv
  rw [valV_neg (by intro z; exact k_lc (Sum.inr.inj z)), valV_neg (by intro z; exact k_dc (Sum.inr.inj z)), valV_pos rfl]
theorem mv_s (c : Addr) (l sd s : Int) : valV (mkv c l sd s) (Sum.inr "spot" : Key) = some (.int s) := by
  unfold mkv
  rw [valV_neg (by intro z; exact k_ls (Sum.inr.inj z)), valV_neg (by intro z; exact k_ds (Sum.inr.inj z)), valV_neg (by intro z; exact k_cs (Sum.inr.inj z)), valV_pos rfl]
theorem mp_l (c : Addr) (l sd s l' : Int) : putK (mkv c l sd s) (Sum.inr "left" : Key) (.int l') = mkv c l' sd s := by
  unfold mkv putK
  simp [k_dl, k_cl, k_sl]
theorem mp_s (c : Addr) (l sd s s' : Int) : putK (mkv c l sd s) (Sum.inr "spot" : Key) (.int s') = mkv c l sd s' := by
  unfold mkv putK
  simp [k_ls, k_ds, k_cs, putK]
theorem mm (c : Addr) (l sd s : Int) : mergeK [] (mkv c l sd s) = mkv c l sd s := by
  unfold mkv mergeK putK
  simp [k_ld, k_lc, k_ls, k_dc, k_ds, k_cs, mergeK, putK]
theorem dg_c {H : Hp} {d c : Addr} {l sd s : Int} (h : H d = some (.dK (mkv c l sd s))) : DGet H d (.str "cells") (some (.ref c)) := by
  rw [← mv_c c l sd s]
  exact DGet.k (k := Sum.inr "cells") h
theorem dg_l {H : Hp} {d c : Addr} {l sd s : Int} (h : H d = some (.dK (mkv c l sd s))) : DGet H d (.str "left") (some (.int l)) := by
  rw [← mv_l c l sd s]
  exact DGet.k (k := Sum.inr "left") h
theorem dg_d {H : Hp} {d c : Addr} {l sd s : Int} (h : H d = some (.dK (mkv c l sd s))) : DGet H d (.str "seed") (some (.int sd)) := by
  rw [← mv_d c l sd s]
  exact DGet.k (k := Sum.inr "seed") h
theorem dg_s {H : Hp} {d c : Addr} {l sd s : Int} (h : H d = some (.dK (mkv c l sd s))) : DGet H d (.str "spot") (some (.int s)) := by
  rw [← mv_s c l sd s]
  exact DGet.k (k := Sum.inr "spot") h
theorem dp_l {H : Hp} {d c : Addr} {l sd s l' : Int} (h : H d = some (.dK (mkv c l sd s))) : DPut H d (.str "left") (.int l') (upd H d (.dK (mkv c l' sd s))) := by
  rw [← mp_l c l sd s l']
  exact DPut.k (k := Sum.inr "left") h (by show 4 < sizeLine; decide)
theorem dp_s {H : Hp} {d c : Addr} {l sd s s' : Int} (h : H d = some (.dK (mkv c l sd s))) : DPut H d (.str "spot") (.int s') (upd H d (.dK (mkv c l sd s'))) := by
  rw [← mp_s c l sd s s']
  exact DPut.k (k := Sum.inr "spot") h (by show 4 < sizeLine; decide)
def MOk (H : Hp) (d : Addr) (n : Nat) : Prop := ∃ (c : Addr) (xs : List Int) (l sd s : Int), H d = some (.dK (mkv c l sd s)) ∧ H c = some (.lst (xs.map V.int)) ∧ xs ≠ [] ∧ (0 ≤ sd ∧ sd < 2147483647) ∧ 0 ≤ s ∧ s ≤ (n : Int)
theorem MOk.gr {H H' : Hp} {d : Addr} {n : Nat} (h : MOk H d n) (g : Gr [] H H') : MOk H' d n := by
  obtain ⟨c, xs, l, sd, s, h1, h2, h3⟩ := h
  exact ⟨c, xs, l, sd, s, g d _ (by simp) h1, g c _ (by simp) h2, h3⟩
theorem MOk.mono {H : Hp} {d : Addr} {n n' : Nat} (h : MOk H d n) (g : n ≤ n') : MOk H d n' := by
  obtain ⟨c, xs, l, sd, s, h1, h2, h3, h4, h5, h6⟩ := h
  exact ⟨c, xs, l, sd, s, h1, h2, h3, h4, h5, by omega⟩
theorem MOk.ne {H : Hp} {d a : Addr} {n : Nat} {o : HO} (h : MOk H d n) (e : H a = some o) (k : ∀ kvs, o ≠ .dK kvs) : a ∉ [d] := by
  obtain ⟨c, xs, l, sd, s, h1, _⟩ := h
  intro z
  rw [List.mem_singleton] at z
  subst z
  rw [h1] at e
  exact k _ (Option.some.inj e).symm
theorem MOk.lst {H H' : Hp} {d a : Addr} {n : Nat} {xs : List V} (h : MOk H d n) (g : Gr [d] H H') (e : H a = some (.lst xs)) : H' a = some (.lst xs) := g a _ (h.ne e (fun _ z => by cases z)) e
theorem MOk.tup {H H' : Hp} {d a : Addr} {n : Nat} {xs : List V} (h : MOk H d n) (g : Gr [d] H H') (e : H a = some (.tup xs)) : H' a = some (.tup xs) := g a _ (h.ne e (fun _ z => by cases z)) e
def Lim (n : Nat) : Prop := (n : Int).natAbs.log2 < 9000
set_option exponentiation.threshold 10000 in
theorem lim_le {n : Nat} (h : n ≤ 1000000000) : Lim n := by
  unfold Lim
  rw [Int.natAbs_natCast]
  exact PySem.Flt.log2_lt_of (by decide) (Nat.lt_of_le_of_lt h (Nat.lt_of_lt_of_le (show (1000000000 : Nat) < 2 ^ 30 by decide) (Nat.pow_le_pow_right (by decide) (by decide))))
def sp_law_draw : Sp := fun vs H Q _ => ∃ (d : Addr) (lim n : Nat), vs = [.ref d, .int lim] ∧ MOk H d n ∧ (1 ≤ lim ∧ Lim lim ∧ n ≤ 1000000000) ∧
  ∀ (r : Nat) H', r < lim → Gr [d] H H' → MOk H' d (n + 1) → Q (.int r) H'
theorem imod_nat (x : Int) (lim : Nat) (h : 1 ≤ lim) : ∃ r : Nat, x % (lim : Int) = (r : Int) ∧ r < lim := by
  have h1 := Int.emod_nonneg x (show (lim : Int) ≠ 0 by omega)
  have h2 := Int.emod_lt_of_pos x (show (0 : Int) < (lim : Int) by omega)
  exact ⟨(x % (lim : Int)).toNat, by omega, by omega⟩
theorem sqBound {z : Int} (h0 : 0 ≤ z) (h1 : z ≤ 1000000000) : -(2 ^ 64) < 40503 * z ∧ 40503 * z < 2 ^ 64 := by omega
theorem ok_law_draw (T : Txt K mg) : FnOk P w K mg base CX0 1 T.d_law_draw.f T.d_law_draw.fd ["m", "limit"] sp_law_draw := by
  refine T.d_law_draw.F.ok sc_law_draw (fun vs H Q E h => ?_) (fun cdv A outer s H vs Q E hr h => ?_)
  · obtain ⟨d, lim, n, rfl, _⟩ := h; rfl
  · have hu := hu_of hr
    refine ⟨_, (pss_cons (ps_if (pt_cmpR op_gt (pe_dget hu (pv 0) pe_str (fun _ _ => rfl)) pe_int (nomark _)) (pss_cons (ps_set (i := 2) sc_law_draw.nd rfl (by first | exact .inl rfl | exact .inr rfl) (pe_op op_mod (pe_callTy call_int1 (by rfl) T.b_int (by decide +kernel) (pa_cons (pe_dget hu (pv 0) pe_str (fun _ _ => rfl)) pa_nil)) (pv 1)))
      (pss_cons (ps_dput hu (pv 0) pe_str (pe_op op_fdivW (pe_dget hu (pv 0) pe_str (fun _ _ => rfl)) (pv 1)) rfl)
      (pss_one (ps_ret (pv 2))))) pss_nil)
      (pss_cons (ps_set (i := 3) sc_law_draw.nd rfl (by first | exact .inl rfl | exact .inr rfl) (pe_dget hu (pv 0) pe_str (fun _ _ => rfl)))
      (pss_cons (ps_dput hu (pv 0) pe_str (pe_op op_add (pv 3) pe_int) rfl)
      (pss_cons (ps_par (i := 4) (j := 5) (by rfl) sc_law_draw.nd rfl rfl (by decide) rfl rfl (pa_cons (pe_dget hu (pv 0) pe_str (fun _ _ => rfl)) (pa_cons (pe_op op_add (pe_dget hu (pv 0) pe_str (fun _ _ => rfl)) (pe_op op_mul (pe_op op_mul pe_int (pv 3)) (pv 3))) pa_nil)) (by rfl))
      (pss_cons (ps_set (i := 6) sc_law_draw.nd rfl (by first | exact .inl rfl | exact .inr rfl) (pe_ix (r := rIxL K) ix_list (pv 4) (pe_op op_mod (pe_callTy call_int1 (by rfl) T.b_int (by decide +kernel) (pa_cons (pv 3) pa_nil)) (pe_callB (r := rLn K) call_ln (by rfl) T.b_len PySem.boot_len (pa_cons (pv 4) pa_nil))) (fun _ _ => rfl)))
      (pss_cons (ps_set (i := 7) sc_law_draw.nd rfl (by first | exact .inl rfl | exact .inr rfl) (pe_op op_mod (pe_callTy call_int1 (by rfl) T.b_int (by decide +kernel) (pa_cons (pe_op op_add (pe_op op_mul (pv 6) (pe_op op_add (pe_op op_mul pe_int (pv 3)) pe_int)) (pv 5)) pa_nil)) pe_int))
      (pss_cons (ps_set (i := 7) sc_law_draw.nd rfl (by first | exact .inl rfl | exact .inr rfl) (pe_op op_mod (pe_callTy call_int1 (by rfl) T.b_int (by decide +kernel) (pa_cons (pe_op op_add (pe_op op_add (pe_op op_mul (pv 7) (pv 7)) (pe_op op_mul pe_int (pv 3))) (pe_dget hu (pv 0) pe_str (fun _ _ => rfl))) pa_nil)) pe_int))
      (pss_one (ps_ret (pe_op op_mod (pe_op op_fdiv (pe_op op_mod (pe_callTy call_int1 (by rfl) T.b_int (by decide +kernel) (pa_cons (pe_op op_add (pe_op op_mul (pv 7) pe_int) (pv 3)) pa_nil)) pe_int) pe_int) (pv 1))))))))))), ?_⟩
    obtain ⟨d, lim, n, rfl, ⟨c, xs, l, sd, z, hd, hc, hx, ⟨hs0, hs1⟩, hz0, hzn⟩, ⟨h1, h2, h3⟩, q⟩ := h
    have hdc : d ≠ c := ne_of hd hc (by intro q; cases q)
    refine ⟨_, rfl, d, _, rfl, dg_l hd, l, 0, rfl, rfl, _, rfl, ?_⟩
    have hl0 : (0 : Int) < (lim : Int) := by omega
    by_cases hl : (0 : Int) < l
    · rw [decide_eq_true hl]
      refine iteT ⟨_, rfl, d, _, rfl, dg_l hd, .inl ⟨l, rfl, _, rfl, l, lim, rfl, rfl, hl0, ?_⟩⟩
      obtain ⟨r, er, hr1⟩ := imod_nat l lim h1
      dsimp only
      rw [er]
      refine ⟨_, rfl, d, _, rfl, dg_l hd, _, rfl, l, lim, rfl, rfl, ⟨hl0, h2⟩, _, rfl, d, _, rfl, dp_l hd, _, rfl, ?_⟩
      refine q r _ hr1 (Gr.wr (by simp)) ⟨c, xs, l / lim, sd, z, upd_same, ?_, hx, ⟨hs0, hs1⟩, hz0, by omega⟩
      rw [upd_ne hdc.symm]
      exact hc
    · rw [decide_eq_false hl]
      refine iteF ?_
      refine ⟨_, rfl, d, _, rfl, dg_s hd, ?_⟩
      refine ⟨_, rfl, _, _, rfl, rfl, _, rfl, d, _, rfl, dp_s hd, ?_⟩
      have hd' : (upd H d (.dK (mkv c l sd (z + 1)))) d = some (.dK (mkv c l sd (z + 1))) := upd_same
      have hc' : (upd H d (.dK (mkv c l sd (z + 1)))) c = some (.lst (xs.map V.int)) := by
        rw [upd_ne hdc.symm]
        exact hc
      have hxl : 1 ≤ xs.length := by
        cases xs with
        | nil => exact absurd rfl hx
        | cons x r => simp
      refine ⟨_, rfl, d, _, rfl, dg_c hd', _, rfl, d, _, rfl, dg_d hd', _, rfl, _, _, rfl, rfl, .inl ⟨by decide, by decide⟩, _, rfl, _, _, rfl, rfl, .inr ⟨by omega, by omega⟩, _, _, rfl, rfl, _, _, rfl, ?_⟩
      have hxi : ∃ i : Int, i = z := ⟨z, rfl⟩
      refine ⟨_, rfl, _, rfl, .inl ⟨z, rfl, _, rfl, c, _, rfl, .inl (sq_lst hc'), _, _, rfl, rfl, ?_, ?_⟩⟩
      · rw [List.length_map]
        omega
      rw [List.length_map]
      obtain ⟨j, ej, hj⟩ := imod_nat z xs.length hxl
      dsimp only
      refine ⟨c, _, _, .int xs[j], rfl, rfl, sq_lst hc', ?_, ?_⟩
      · rw [ej]
        refine atI_nat ?_
        rw [List.getElem?_map, List.getElem?_eq_getElem hj]
        rfl
      refine ⟨_, rfl, _, rfl, _, _, rfl, rfl, .inl ⟨by decide, by decide⟩, _, _, rfl, rfl, _, _, rfl, rfl, .inr ⟨by omega, by omega⟩, _, rfl, _, _, rfl, rfl, .inl ⟨_, rfl, _, _, rfl, rfl, (by show (0 : Int) < 2147483647; decide), ?_⟩⟩
      obtain ⟨u, eu, hu1⟩ := imod_nat (xs[j] * (2 * z + 3) + (sd + 40503 * z * z)) 2147483647 (by decide)
      have eu' : (xs[j] * (2 * z + 3) + (sd + 40503 * z * z)) % 2147483647 = (u : Int) := eu
      dsimp only
      rw [eu']
      refine ⟨_, rfl, _, rfl, _, _, rfl, rfl, .inl ⟨by omega, by omega⟩, _, rfl, _, _, rfl, rfl, .inl ⟨by decide, by decide⟩, _, _, rfl, rfl, _, rfl, d, _, rfl, dg_d hd', _, _, rfl, rfl, .inl ⟨_, rfl, _, _, rfl, rfl, (by show (0 : Int) < 2147483629; decide), ?_⟩⟩
      refine ⟨_, rfl, _, _, rfl, rfl, .inr ⟨by decide, by decide⟩, _, rfl, _, _, rfl, rfl, .inl ⟨_, rfl, _, _, rfl, rfl, (by show (0 : Int) < 2147483647; decide), _, _, rfl, rfl, ⟨by decide, by decide⟩, _, rfl, _, _, rfl, rfl, hl0, ?_⟩⟩
      dsimp only
      obtain ⟨r, er, hr1⟩ := imod_nat _ lim h1
      rw [er]
      exact q r _ hr1 (Gr.wr (by simp)) ⟨c, xs, l, sd, z + 1, hd', hc', hx, ⟨hs0, hs1⟩, by omega, by omega⟩

def sp_law_of (K : PySem.W.Frag) : Sp := fun vs H Q _ => ∃ (d a : Addr) (n : Nat) (xs : List V), vs = [.ref d, .ref a] ∧ MOk H d n ∧ H a = some (.lst xs) ∧ (xs ≠ [] ∧ xs.length ≤ 100000 ∧ n ≤ 1000000000) ∧
  ∀ v H', v ∈ xs → Gr [d] H H' → MOk H' d (n + 1) → Q v H'

def sp_law_divisor : Sp := fun vs H Q _ => ∃ a c : Nat, vs = [.int a, .int c] ∧ Q (.int (Nat.gcd a c : Nat)) H
theorem ok_law_divisor (T : Txt K mg) : FnOk P w K mg base CX0 1 T.d_law_divisor.f T.d_law_divisor.fd ["one", "two"] sp_law_divisor := by
  refine T.d_law_divisor.F.ok sc_law_divisor (fun vs H Q E h => ?_) (fun cdv A outer s H vs Q E hr h => ?_)
  · obtain ⟨a, c, rfl, _⟩ := h; rfl
  · have hu := hu_of hr
    refine ⟨_, (pss_cons (ps_while PassesOwn.never (pt_cmpR op_ne (pv 1) pe_int (nomark _)) (pss_one (ps_par (i := 0) (j := 1) (by rfl) sc_law_divisor.nd rfl rfl (by decide) rfl rfl (pa_cons (pv 1) (pa_cons (pe_op op_mod (pe_callTy call_int1 (by rfl) T.b_int (by decide +kernel) (pa_cons (pv 0) pa_nil)) (pe_callTy call_int1 (by rfl) T.b_int (by decide +kernel) (pa_cons (pv 1) pa_nil))) pa_nil)) (by rfl))))
      (pss_one (ps_ret (pv 0)))), ?_⟩
    obtain ⟨a, c, rfl, q⟩ := h
    refine ⟨fun m σ H' => H' = H ∧ ∃ u : Nat, σ = [some (.int u), some (.int m)] ∧ Nat.gcd u m = Nat.gcd a c, ⟨c, rfl, a, rfl, rfl⟩, ?_⟩
    rintro m σ H' ⟨rfl, u, rfl, e⟩
    refine ⟨_, rfl, rfl, _, rfl, ?_⟩
    by_cases hc : m = 0
    · refine iteFb (by rw [hc]; rfl) ⟨_, rfl, ?_⟩
      subst hc
      rw [← e, Nat.gcd_zero_right] at q
      exact q
    · refine iteTb (by rw [Bool.not_eq_true']; exact decide_eq_false fun z => hc (by have := V.int.inj z; omega)) ⟨fun σ' H2 => H2 = H' ∧ σ' = [some (.int m), some (.int (u % m : Nat))], ?_, ?_⟩
      · rintro σ' H2 ⟨rfl, rfl⟩
        refine ⟨u % m, Nat.mod_lt _ (by omega), rfl, m, rfl, ?_⟩
        rw [← e, Nat.gcd_comm m, ← Nat.gcd_rec, Nat.gcd_comm]
      · refine ⟨_, rfl, _, rfl, .inl ⟨_, rfl, _, rfl, .inl ⟨_, rfl, _, _, rfl, rfl, (show (0 : Int) < (m : Int) by omega), ?_⟩⟩⟩
        exact ⟨_, _, rfl, rfl, by dsimp only; rw [← Int.natCast_emod]; rfl⟩

theorem rl_succ (b n x i : Nat) : rl b n x (i + 1) = rl b n x i ++ [rem b n x i] := by
  unfold rl
  rw [List.range_succ, List.map_append]
  rfl
theorem rl_get {b n x i L : Nat} (h : i < L) : (vn (rl b n x L))[i]? = some (.int (rem b n x i : Nat)) := by
  unfold vn rl
  rw [List.map_map, List.getElem?_map, List.getElem?_range h]
  rfl
theorem flat_vn : ∀ xs : List Nat, (vn xs).all flatV = true
  | [] => rfl
  | x :: r => by
    show (true && (vn r).all flatV) = true
    rw [flat_vn r]
    rfl
def sp_law_powers (K : PySem.W.Frag) : Sp := fun vs H Q _ => ∃ (b n : Nat), vs = [.int b, .int n] ∧ (b ≤ 5000 ∧ 1 ≤ n ∧ n ≤ 5000) ∧
  ∀ (t l : Addr) H' (p q h L : Nat), Par b n p q h L → Gr [] H H' → H' t = some (.tup [.ref l, .int (h : Nat)]) → H' l = some (.lst (vn (rl b n 1 (h + L)))) → Q (.ref t) H'
theorem ok_law_powers (T : Txt K mg) : FnOk P w K mg base CX0 1 T.d_law_powers.f T.d_law_powers.fd ["b", "n"] (sp_law_powers K) := by
  refine T.d_law_powers.F.ok sc_law_powers (fun vs H Q E h => ?_) (fun cdv A outer s H vs Q E hr h => ?_)
  · obtain ⟨b, n, rfl, _⟩ := h; rfl
  · have hu := hu_of hr
    refine ⟨_, (pss_cons (ps_par (i := 2) (j := 3) (by rfl) sc_law_powers.nd rfl rfl (by decide) rfl rfl (pa_cons (pe_lst pa_nil) (pa_cons (pe_op op_mod pe_int (pv 1)) pa_nil)) (by rfl))
      (pss_cons (ps_while PassesOwn.never (pt_cmpR (r := rIn K true) op_notIn_seq (pv 3) (pv 2) rfl) (pss_cons (ps_expr (pe_bm PySem.F.plainAttrs_list PySem.F.slot_list_append PySem.F.type_list_append mt_append (pv 2) (pa_cons (pv 3) pa_nil)))
      (pss_one (ps_set (i := 3) sc_law_powers.nd rfl (by first | exact .inl rfl | exact .inr rfl) (pe_op op_mod (pe_callTy call_int1 (by rfl) T.b_int (by decide +kernel) (pa_cons (pe_op op_mul (pv 3) (pv 0)) pa_nil)) (pv 1))))))
      (pss_one (ps_ret (pe_tup (pa_cons (pv 2) (pa_cons (pe_bm (r := rIndex K) PySem.F.plainAttrs_list PySem.F.slot_list_index PySem.F.type_list_index mt_index (pv 2) (pa_cons (pv 3) pa_nil)) pa_nil))))))), ?_⟩
    obtain ⟨b, n, rfl, ⟨hb, hn1, hn⟩, q⟩ := h
    have g1 : Nat.gcd 1 n = 1 := Nat.gcd_one_left n
    refine ⟨Nat.zero_le _, fun l nl => ?_⟩
    refine ⟨_, rfl, _, n, rfl, rfl, (show (0 : Int) < (n : Int) by omega), ?_⟩
    refine ⟨_, _, rfl, ?_⟩
    have e0 : (1 : Int) % (n : Int) = ((rem b n 1 0 : Nat) : Int) := by
      unfold rem
      rw [Nat.pow_zero, Nat.mul_one]
      exact (Int.natCast_emod 1 n).symm
    dsimp only
    rw [e0]
    have nlH := nl
    refine ⟨fun m σ H' => ∃ i : Nat, m = n - i ∧ i ≤ n ∧ Gr [] H H' ∧ H' l = some (.lst (vn (rl b n 1 i))) ∧ σ = [some (.int b), some (.int n), some (.ref l), some (.int (rem b n 1 i : Nat))] ∧ (∀ u v, u < v → v < i → rem b n 1 u ≠ rem b n 1 v),
      ⟨n, 0, rfl, Nat.zero_le _, Gr.new nl, upd_same, rfl, fun u v _ z => absurd z (Nat.not_lt_zero _)⟩, ?_⟩
    rintro m σ H' ⟨i, rfl, hi, G, hL, rfl, hd⟩
    refine ⟨_, rfl, _, rfl, l, _, rfl, .inl (sq_lst hL), rfl, flat_vn _, _, rfl, ?_⟩
    by_cases hc : ∃ j, j < i ∧ rem b n 1 j = rem b n 1 i
    · obtain ⟨j, hj, ej⟩ := hc
      refine iteFb (by show (!inV (V.int ((rem b n 1 i : Nat) : Int)) (vn (rl b n 1 i))) = false; rw [inV_ni, decide_eq_true (mem_rl.mpr ⟨j, hj, ej⟩)]; rfl) ?_
      obtain ⟨p, q0, h, L, P⟩ := par_exists (b := b) hn1
      obtain ⟨ei, eh⟩ := ring_end P hn1 g1 hd hj ej
      refine ⟨_, rfl, _, rfl, .inl ⟨rfl, _, sq_lst hL⟩, _, rfl, l, _, _, j, .int (rem b n 1 j : Nat), rfl, rfl, sq_lst hL, rfl, flat_vn _, rl_get hj, ?_, ?_, by show 2 ≤ sizeLine; decide, fun t nt => ?_⟩
      · show (((rem b n 1 j : Nat) : Int) == ((rem b n 1 i : Nat) : Int)) = true
        rw [ej, beq_self_eq_true]
      · intro u z' hu hz
        rw [rl_get (by omega)] at hz
        cases hz
        show (((rem b n 1 u : Nat) : Int) == ((rem b n 1 i : Nat) : Int)) = false
        rw [beq_eq_false_iff_ne]
        intro z
        exact hd u j hu hj (by rw [ej]; omega)
      · refine q t l _ p q0 h L P (G.trans (Gr.new nt)) ?_ ?_
        · rw [upd_same, eh]
        · rw [upd_ne (ne_of_none hL nt), hL, ei]
    · have hno : ∀ j, j < i → rem b n 1 j ≠ rem b n 1 i := fun j hj ej => hc ⟨j, hj, ej⟩
      refine iteTb (by show (!inV (V.int ((rem b n 1 i : Nat) : Int)) (vn (rl b n 1 i))) = true; rw [inV_ni, decide_eq_false (fun z => by obtain ⟨j, hj, ej⟩ := mem_rl.mp z; exact hno j hj ej)]; rfl) ?_
      have hlt : rem b n 1 i < n := rem_lt hn1
      have hin : i + 1 ≤ n := by
        have := nodup_le n ((List.range (i + 1)).map fun u => rem b n 1 u) (by
          rw [List.nodup_iff_pairwise_ne, List.pairwise_map, List.pairwise_iff_getElem]
          intro u v hu hv huv
          rw [List.getElem_range, List.getElem_range]
          rw [List.length_range] at hv
          rcases Nat.lt_or_eq_of_le (show v ≤ i by omega) with z | z
          · exact hd u v huv z
          · rw [z]
            exact hno u (by omega)) (fun y hy => by
          obtain ⟨u, _, rfl⟩ := List.mem_map.mp hy
          exact rem_lt hn1)
        rw [List.length_map, List.length_range] at this
        exact this
      refine ⟨fun σ' H2 => Gr [] H H2 ∧ H2 l = some (.lst (vn (rl b n 1 (i + 1)))) ∧ σ' = [some (.int b), some (.int n), some (.ref l), some (.int (rem b n 1 (i + 1) : Nat))], ?_, ?_⟩
      · rintro σ' H2 ⟨G2, L2, rfl⟩
        refine ⟨n - (i + 1), by omega, i + 1, rfl, hin, G2, L2, rfl, fun u v huv hv => ?_⟩
        rcases Nat.lt_or_eq_of_le (show v ≤ i by omega) with z | z
        · exact hd u v huv z
        · rw [z]
          exact hno u (by omega)
      · have small : ∀ {k : Nat}, k ≤ 5000 → k < sizeLine := fun h => Nat.lt_of_lt_of_le (show _ < 6000 by omega) (by decide)
        refine ⟨_, rfl, .inl ⟨rfl, _, sq_lst hL⟩, _, rfl, l, _, _, rfl, rfl, hL, by rw [vn_len, rl_len]; exact small (by omega), ?_⟩
        rw [vn_snoc, ← rl_succ]
        refine ⟨_, rfl, _, rfl, _, b, rfl, rfl, .inl ⟨by omega, by omega⟩, .inl ⟨_, rfl, _, rfl, _, n, rfl, rfl, (show (0 : Int) < (n : Int) by omega), ?_⟩⟩
        dsimp only
        rw [icm, rem_succ]
        refine ⟨fun c o _ ec => ?_, upd_same, rfl⟩
        rw [upd_ne (ne_of_none ec nlH)]
        exact G c o (by simp) ec

def sp_law_period : Sp := fun vs H Q _ => ∃ (b n : Nat), vs = [.int b, .int n] ∧ (b ≤ 5000 ∧ 1 ≤ n ∧ n ≤ 5000) ∧
  ∀ (t : Addr) H' (p q h L : Nat), Par b n p q h L → Gr [] H H' → H' t = some (.tup [.int (L : Nat), .int (h : Nat)]) → Q (.ref t) H'
theorem ok_law_period (T : Txt K mg) : FnOk P w K mg base CX0 2 T.d_law_period.f T.d_law_period.fd ["b", "n"] sp_law_period := by
  refine T.d_law_period.F.ok sc_law_period (fun vs H Q E h => ?_) (fun cdv A outer s H vs Q E hr h => ?_)
  · obtain ⟨b, n, rfl, _⟩ := h; rfl
  · have hu := hu_of hr
    refine ⟨_, (pss_cons (ps_asg (pe_call (ok_law_powers T) (hr.mono (by decide)) (by rfl) T.d_law_powers.m T.d_law_powers.F.kp T.d_law_powers.b .nil pass0 (pa_cons (pv 0) (pa_cons (pv 1) pa_nil))) (pg_tup (by rfl) (pgs_cons (pg_name (i := 2) sc_law_period.nd rfl (by first | exact .inl rfl | exact .inr rfl)) (pgs_cons (pg_name (i := 3) sc_law_period.nd rfl (by first | exact .inl rfl | exact .inr rfl)) pgs_nil))))
      (pss_one (ps_ret (pe_tup (pa_cons (pe_op op_sub (pe_callB (r := rLn K) call_ln (by rfl) T.b_len PySem.boot_len (pa_cons (pv 2) pa_nil)) (pv 3)) (pa_cons (pv 3) pa_nil)))))), ?_⟩
    obtain ⟨b, n, rfl, hh, q⟩ := h
    refine ⟨_, rfl, _, rfl, b, n, rfl, hh, fun t l H1 p q0 h L P g1 ht hl => ?_⟩
    refine ⟨t, _, rfl, sq_tup ht, rfl, _, _, rfl, _, _, rfl, rfl, ?_⟩
    refine ⟨_, rfl, l, _, rfl, .inl (sq_lst hl), _, rfl, _, _, rfl, rfl, _, rfl, by show 2 ≤ sizeLine; decide, fun t2 n2 => ?_⟩
    refine q t2 _ p q0 h L P (g1.trans (Gr.new n2)) ?_
    rw [upd_same, vn_len, rl_len]
    dsimp only
    rw [show ((h + L : Nat) : Int) - (h : Int) = (L : Int) by omega]

def sp_law_units : Sp := fun vs H Q _ => ∃ (n : Nat), vs = [.int n] ∧ n ≤ 5000 ∧ ∀ (a : Addr) H', Gr [] H H' → H' a = some (.lst (vn (copL n))) → Q (.ref a) H'
theorem cop_step {n k : Nat} : ((List.range (k + 1)).filter fun x => decide (Nat.gcd x n = 1)) = ((List.range k).filter fun x => decide (Nat.gcd x n = 1)) ++ (if Nat.gcd k n = 1 then [k] else []) := by
  rw [List.range_succ, List.filter_append]
  by_cases h : Nat.gcd k n = 1
  · rw [if_pos h, List.filter_cons_of_pos (p := fun x => decide (Nat.gcd x n = 1)) (decide_eq_true h)]
    rfl
  · rw [if_neg h, List.filter_cons_of_neg (p := fun x => decide (Nat.gcd x n = 1)) (by rw [decide_eq_true_eq]; exact h)]
    rfl
theorem ok_law_units (T : Txt K mg) : FnOk P w K mg base CX0 2 T.d_law_units.f T.d_law_units.fd ["n"] sp_law_units := by
  refine T.d_law_units.F.ok sc_law_units (fun vs H Q E h => ?_) (fun cdv A outer s H vs Q E hr h => ?_)
  · obtain ⟨n, rfl, _⟩ := h; rfl
  · have hu := hu_of hr
    refine ⟨_, (pss_one (ps_ret (pe_lc (own := [("k", 1)]) (g := gName 1) (tt := _) rfl sc_law_units.nd (pi_range1 (by rfl) T.b_range (pa_cons (pv 0) pa_nil)) (blkOk_by (own := [("k", 1)]) (N := ["n", "k"]) (sc := defScope s_law_units) (by decide +kernel)) (fun _ _ _ _ _ => (pg_name (i := 1) sc_law_units.nd rfl (by first | exact .inl rfl | exact .inr rfl))) (fun _ _ _ _ _ => (pts_one (pt_cmpR op_eq (pe_call (ok_law_divisor T) (hr.mono (by decide)) (by rfl) T.d_law_divisor.m T.d_law_divisor.F.kp T.d_law_divisor.b .nil pass0 (pa_cons (pv 1) (pa_cons (pv 0) pa_nil))) pe_int (nomark _)))) (fun _ _ _ _ _ => (pv 1))))), ?_⟩
    obtain ⟨n, rfl, hn, q⟩ := h
    have small : ∀ {k : Nat}, k ≤ 5000 → k < sizeLine := fun h => Nat.lt_of_lt_of_le (show _ < 6000 by omega) (by decide)
    refine ⟨_, rfl, (n : Int), rfl, by omega, by omega, fun D nD => ?_⟩
    refine lc_range (lo := 0) (n := ((n : Int) - 0).toNat) (fun i H' => Gr [] H H' ∧ H' D = some (.lst (vn ((List.range i).filter fun x => decide (Nat.gcd x n = 1))))) ⟨Gr.new nD, upd_same⟩ ?_ ?_
    · rintro i H' hi ⟨G, hD⟩
      have ei : (0 : Int) + (i : Int) = ((i : Nat) : Int) := by omega
      have hin : i < n := by omega
      rw [ei]
      refine ⟨rfl, ?_⟩
      refine ⟨_, rfl, _, rfl, i, n, rfl, rfl, _, rfl, ?_⟩
      by_cases hg : Nat.gcd i n = 1
      · refine iteTb (by rw [hg]; rfl) ⟨_, rfl, _, hD, small (by rw [vn_len]; exact Nat.le_trans (List.length_filter_le _ _) (by rw [List.length_range]; omega)), fun c u _ e => ?_, ?_⟩
        · rw [upd_ne (ne_of_none e nD)]
          exact G c u (by simp) e
        · rw [upd_same, vn_snoc, cop_step, if_pos hg]
      · refine iteFb (decide_eq_false fun z => hg (by have := V.int.inj z; omega)) ⟨G, ?_⟩
        rw [hD, cop_step, if_neg hg, List.append_nil]
    rintro H' ⟨G, hD⟩
    exact q D H' G (by rw [hD, show ((n : Int) - 0).toNat = n by omega]; rfl)

def sp_law_begun (K : PySem.W.Frag) : Sp := fun vs H Q _ => ∃ (a : Addr) (ns : List Int) (k : Nat), vs = [.ref a, .int k] ∧ SqL K H a (ns.map V.int) ∧ ns.length ≤ 63 ∧ k ≤ 1000 ∧ ∀ d H', H d = none → Gr [] H H' → MOk H' d 0 → Q (.ref d) H'
theorem eqv_nil (ys : List Int) : PyData.eqv (.list (ys.map PyData.int)) (.list []) = ys.isEmpty := by
  cases ys with
  | nil => rfl
  | cons y r => rfl
theorem lay_ints : ∀ ys : List Int, PyData.canLayAll0 (ys.map PyData.int) = true ∧ PyData.depthAll (ys.map PyData.int) = 0
  | [] => ⟨rfl, rfl⟩
  | y :: r => by
    obtain ⟨h1, h2⟩ := lay_ints r
    refine ⟨?_, ?_⟩
    · show (true && PyData.canLayAll0 (r.map PyData.int)) = true
      rw [h1]
      rfl
    · show max 0 (PyData.depthAll (r.map PyData.int)) = 0
      rw [h2]
      rfl
theorem shaped_ints (ys : List Int) : SeqAt.shaped (.list (ys.map PyData.int)) = true := by
  obtain ⟨h1, h2⟩ := lay_ints ys
  exact Fits.shaped h1 (by show PyData.depthAll _ + 1 ≤ 64; rw [h2]; decide)
theorem get_ints {ns : List Int} {i : Nat} {x : V} (h : (ns.map V.int)[i]? = some x) : ∃ n, x = .int n ∧ ns[i]? = some n ∧ i < ns.length := by
  rw [List.getElem?_map] at h
  cases e : ns[i]? with
  | none =>
    rw [e] at h
    cases h
  | some n =>
    rw [e] at h
    exact ⟨n, (Option.some.inj h).symm, rfl, (List.getElem?_eq_some_iff.mp e).1⟩
theorem cut_ints (ns : List Int) (lo hi : Option Int) : ∃ ys : List Int, cutV (ns.map V.int) lo hi = ys.map V.int ∧ ys.length ≤ ns.length := by
  unfold cutV
  rw [← List.map_drop, ← List.map_take]
  exact ⟨_, rfl, by rw [List.length_take, List.length_drop]; omega⟩
theorem ok_law_begun (T : Txt K mg) : FnOk P w K mg base CX0 1 T.d_law_begun.f T.d_law_begun.fd ["script", "k"] (sp_law_begun K) := by
  refine T.d_law_begun.F.ok sc_law_begun (fun vs H Q E h => ?_) (fun cdv A outer s H vs Q E hr h => ?_)
  · obtain ⟨a, ns, k, rfl, _⟩ := h; rfl
  · have hu := hu_of hr
    refine ⟨_, (pss_cons (ps_set (i := 2) sc_law_begun.nd rfl (by first | exact .inl rfl | exact .inr rfl) (pe_op op_cat (pe_slice (r := rSlL K) sl_list (pv 0) (po_some (pv 1)) po_none) (pe_slice (r := rSlL K) sl_list (pv 0) po_none (po_some (pv 1)))))
      (pss_cons (ps_setLc (i := 3) (own := [("cell", 4)]) (g := gName 4) (tt := _) rfl sc_law_begun.nd rfl rfl (sw_true rfl rfl rfl (by decide +kernel)) (pi_list (pv 2)) (blkOk_by (own := [("cell", 4)]) (N := ["script", "k", "cells", "great", "cell", "seed"]) (sc := defScope s_law_begun) (by decide +kernel)) (fun _ _ _ _ _ => (pg_name (i := 4) sc_law_begun.nd rfl (by first | exact .inl rfl | exact .inr rfl))) (fun _ _ _ _ _ => (pts_one (pt_cmpR op_ge (pv 4) (pe_op op_pow pe_int pe_int) (nomark _)))) (fun _ _ _ _ _ => (pv 4)))
      (pss_cons (ps_set (i := 5) sc_law_begun.nd rfl (by first | exact .inl rfl | exact .inr rfl) (pe_op op_add pe_int (pv 1)))
      (pss_cons (ps_for PassesOwn.never rfl (pi_list (pv 2)) (pg_name (i := 4) sc_law_begun.nd rfl (by first | exact .inl rfl | exact .inr rfl)) (pss_one (ps_set (i := 5) sc_law_begun.nd rfl (by first | exact .inl rfl | exact .inr rfl) (pe_op op_mod (pe_callTy call_int1 (by rfl) T.b_int (by decide +kernel) (pa_cons (pe_op op_add (pe_op op_mul (pv 5) pe_int) (pv 4)) pa_nil)) pe_int))))
      (pss_one (ps_ret (pe_disp (pps_cons pe_str (pe_ifExp (pt_cmpR (r := rNeD K) (op_neD hr.units) (pv 3) (pe_lst pa_nil) (nomark _)) (pe_ix (r := rIxL K) ix_list (pv 3) pe_int (fun _ _ => rfl)) pe_int) (pps_cons pe_str (pv 5) (pps_cons pe_str (pe_op op_cat (pv 2) (pe_lst (pa_cons (pe_op op_add (pe_op op_mul pe_int (pv 1)) pe_int) pa_nil))) (pps_cons pe_str pe_int pps_nil)))) (by rfl) (by rfl) (fun z => by cases z) (by decide)))))))), ?_⟩
    obtain ⟨a, ns, k, rfl, hS, hn, hk, q⟩ := h
    have sz : ∀ {k : Nat}, k ≤ 1000 → k < sizeLine := fun h => small1000 h
    refine ⟨_, rfl, _, rfl, (k : Int), rfl, ?_⟩
    dsimp only [tNoPart]
    refine ⟨a, _, rfl, hS, fun p1 n1 => ?_⟩
    obtain ⟨y1, e1, l1⟩ := cut_ints ns (some (k : Int)) none
    rw [e1]
    have g1 : Gr [] H (upd H p1 (.lst (y1.map V.int))) := Gr.new n1
    have h1 : (upd H p1 (.lst (y1.map V.int))) p1 = some (.lst (y1.map V.int)) := upd_same
    generalize upd H p1 (.lst (y1.map V.int)) = H1 at g1 h1 ⊢
    refine ⟨_, rfl, _, rfl, (k : Int), rfl, a, _, rfl, (Kp.of g1).sqL hS, fun p2 n2 => ?_⟩
    obtain ⟨y2, e2, l2⟩ := cut_ints ns none (some (k : Int))
    rw [e2]
    have g2 : Gr [] H1 (upd H1 p2 (.lst (y2.map V.int))) := Gr.new n2
    have h2 : (upd H1 p2 (.lst (y2.map V.int))) p2 = some (.lst (y2.map V.int)) := upd_same
    generalize upd H1 p2 (.lst (y2.map V.int)) = H2 at g2 h2 ⊢
    refine ⟨p1, p2, _, _, rfl, rfl, g2 p1 _ (by simp) h1, h2, by rw [List.length_map, List.length_map]; exact Nat.le_of_lt (sz (by omega)), fun p3 n3 => ?_⟩
    dsimp only
    rw [← List.map_append]
    have g3 : Gr [] H2 (upd H2 p3 (.lst ((y1 ++ y2).map V.int))) := Gr.new n3
    have h3 : (upd H2 p3 (.lst ((y1 ++ y2).map V.int))) p3 = some (.lst ((y1 ++ y2).map V.int)) := upd_same
    generalize upd H2 p3 (.lst ((y1 ++ y2).map V.int)) = H3 at g3 h3 ⊢
    have G3 := (g1.trans g2).trans g3
    clear g1 g2 g3 h1 h2 e1 e2
    obtain ⟨xs, ex⟩ : ∃ xs, xs = y1 ++ y2 := ⟨_, rfl⟩
    have hxl : xs.length ≤ 126 := by
      rw [ex, List.length_append]
      omega
    rw [← ex] at h3
    clear ex
    refine ⟨_, rfl, p3, rfl, ⟨_, sq_lst h3⟩, fun D nD => ?_⟩
    have hDp : D ≠ p3 := fun e => by
      rw [e, h3] at nD
      cases nD
    refine lc_list (K := K) (a := p3) (xs := xs.map V.int) (fun i H' => Gr [] H3 H' ∧ ∃ ys : List Int, ys.length ≤ i ∧ H' D = some (.lst (ys.map V.int))) ⟨Gr.new nD, [], Nat.le_refl _, upd_same⟩ (fun i H' _ z => (Kp.of z.1).sqL (sq_lst h3)) ?_ ?_
    · rintro i y H' hy ⟨G, ys, hl, hD⟩
      obtain ⟨n, rfl, hn', hi⟩ := get_ints hy
      refine ⟨rfl, ?_⟩
      refine ⟨_, rfl, _, _, rfl, rfl, ⟨by decide, by decide, by decide⟩, _, _, rfl, rfl, _, rfl, ?_⟩
      have ex : ∀ {o : HO}, Gr [] H3 (upd H' D o) := fun {o} c u _ e => by
        rw [upd_ne (ne_of_none e nD)]
        exact G c u (by simp) e
      refine ite2 (fun _ => ?_) (fun _ => ?_)
      · refine ⟨_, rfl, _, hD, by rw [List.length_map]; exact sz (by omega), ex, ys ++ [n], by rw [List.length_append]; simp; omega, ?_⟩
        rw [upd_same, List.map_append]
        rfl
      · exact ⟨G, ys, by omega, hD⟩
    rintro H4 ⟨g4, ys, hl, hD⟩
    have h4 := g4 p3 _ (by simp) h3
    rw [List.length_map] at hl
    refine ⟨_, rfl, _, _, rfl, rfl, ?_⟩
    refine ⟨_, rfl, p3, rfl, ⟨_, sq_lst h4⟩, ?_⟩
    refine for_list (K := K) (a := p3) (xs := xs.map V.int) (fun i σ H' => H' = H4 ∧ ∃ (sd : Int) (v : Option V), (0 ≤ sd ∧ sd < 2147483647) ∧ σ = [some (.ref a), some (.int k), some (.ref p3), some (.ref D), v, some (.int sd)]) ⟨rfl, 131 + (k : Int), none, ⟨by omega, by omega⟩, rfl⟩ (fun i σ H' _ z => by rw [z.1]; exact sq_lst h4) ?_ ?_
    · rintro i y σ H' hy ⟨rfl, sd, v, ⟨s0, s1⟩, rfl⟩
      obtain ⟨n, rfl, _, _⟩ := get_ints hy
      refine ⟨_, rfl, _, _, rfl, rfl, .inr ⟨by decide, by decide⟩, _, rfl, _, _, rfl, rfl, .inl ⟨_, rfl, _, _, rfl, rfl, (by show (0 : Int) < 2147483647; decide), ?_⟩⟩
      exact ⟨rfl, _, _, ⟨Int.emod_nonneg _ (by decide), Int.emod_lt_of_pos _ (by decide)⟩, rfl⟩
    rintro σ H' ⟨rfl, sd, v, hs, rfl⟩
    intro p np
    have gp : Gr [] H' (upd H' p (.dK [])) := Gr.new np
    have hp : (upd H' p (.dK [])) p = some (.dK []) := upd_same
    have hD5 := gp D _ (by simp) hD
    have h5 := gp p3 _ (by simp) h4
    have np0 := np
    generalize hH5 : upd H' p (.dK []) = H5 at gp hp hD5 h5 ⊢
    have G4 : ∀ (H7 : Hp) (p6 : Addr) (l0 : Int), Gr [] H5 H7 → H7 p6 = some (.lst ((xs ++ [43 * (k : Int) + 7]).map V.int)) → Q (.ref p) (upd H7 p (.dK (mergeK [] (mkv p6 l0 sd 0)))) := fun H7 p6 l0 g7 h6 => by
      rw [mm]
      have hp7 := g7 p _ (by simp) hp
      have hne : p6 ≠ p := by
        intro e
        rw [e, hp7] at h6
        cases h6
      refine q p _ (by
        cases z : H p with
        | none => rfl
        | some o =>
          have := g4 p o (by simp) (G3 p o (by simp) z)
          rw [np] at this
          cases this) (fun c u _ e => ?_) ⟨p6, xs ++ [43 * (k : Int) + 7], l0, sd, 0, upd_same, ?_, by simp, hs, Int.le_refl _, Int.le_refl _⟩
      · have e1 := g4 c u (by simp) (G3 c u (by simp) e)
        rw [upd_ne (ne_of_none e1 np)]
        exact g7 c u (by simp) (gp c u (by simp) e1)
      · rw [upd_ne hne]
        exact h6
    refine ⟨_, rfl, Nat.zero_le _, fun q0 nq => ?_⟩
    have hq := (Gr.new (W := []) (o := .lst []) nq)
    refine ⟨.list (ys.map PyData.int), .list [], dp_lst (hq D _ (by simp) hD5) (dpAll_ints ys), dp_lst upd_same .nil, shaped_ints ys, rfl, _, rfl, ?_⟩
    rw [eqv_nil]
    have gq : Gr [] H5 (upd H5 q0 (.lst [])) := hq
    have h6 := hq p3 _ (by simp) h5
    have hD6 := hq D _ (by simp) hD5
    generalize upd H5 q0 (.lst []) = H6 at gq h6 hD6 ⊢
    cases ys with
    | nil =>
      refine iteF ?_
      refine ⟨_, rfl, _, rfl, _, rfl, _, _, rfl, rfl, .inl ⟨by decide, by decide⟩, _, _, rfl, rfl, by show 1 ≤ sizeLine; decide, fun p7 n7 => ?_⟩
      have k1 := (Gr.new (W := []) (o := .lst [V.int (43 * (k : Int) + 7)]) n7) p3 _ (by simp) h6
      refine ⟨p3, p7, _, _, rfl, rfl, k1, upd_same, by rw [List.length_map]; exact Nat.le_of_lt (sz (by show xs.length + 1 ≤ 1000; omega)), fun p8 n8 => ?_⟩
      have g8 := (gq.trans (Gr.new (W := []) (o := .lst [V.int (43 * (k : Int) + 7)]) n7)).trans (Gr.new (W := []) (o := .lst (xs.map V.int ++ [V.int (43 * (k : Int) + 7)])) n8)
      refine ⟨g8 p _ (by simp) hp, mkv p8 0 sd 0, rfl, by show 4 ≤ 15; decide, G4 _ p8 0 g8 ?_⟩
      rw [upd_same, List.map_append]
      rfl
    | cons y r =>
      refine iteT ⟨_, rfl, D, _, 0, .int y, rfl, rfl, sq_lst hD6, atI_nat (j := 0) rfl, ?_⟩
      refine ⟨_, rfl, _, rfl, _, rfl, _, _, rfl, rfl, .inl ⟨by decide, by decide⟩, _, _, rfl, rfl, by show 1 ≤ sizeLine; decide, fun p7 n7 => ?_⟩
      have k1 := (Gr.new (W := []) (o := .lst [V.int (43 * (k : Int) + 7)]) n7) p3 _ (by simp) h6
      refine ⟨p3, p7, _, _, rfl, rfl, k1, upd_same, by rw [List.length_map]; exact Nat.le_of_lt (sz (by show xs.length + 1 ≤ 1000; omega)), fun p8 n8 => ?_⟩
      have g8 := (gq.trans (Gr.new (W := []) (o := .lst [V.int (43 * (k : Int) + 7)]) n7)).trans (Gr.new (W := []) (o := .lst (xs.map V.int ++ [V.int (43 * (k : Int) + 7)])) n8)
      refine ⟨g8 p _ (by simp) hp, mkv p8 y sd 0, rfl, by show 4 ≤ 15; decide, G4 _ p8 y g8 ?_⟩
      rw [upd_same, List.map_append]
      rfl

end
end Wn
/-! sorted of a set of ints, any number of members -/
namespace L2
open PySem PySem.Spec PyProof.Rows
section
variable {P : Program} {w : World} {A : Around} {E : Value → Shared → Prop} {s : Shared} {a : Addr}
theorem sorted_setB {S : Int → Bool} {n : Nat} {Q : Value → Shared → Prop} (R : SetR w s.heap a S n) (hh : A.handled = none) (hn0 : n ≤ 4000)
    (hQ : ∀ s' p (out : Array Value) (c : Nat) (ns : List Int), (∀ b o, s.heap.get? b = some o → s'.heap.get? b = some o) → s'.gens = s.gens → s'.os = s.os → s.heap.objs.size ≤ p →
      s'.heap.get? p = some (seqObj "list" out c) → IntsAre out.toList ns → ns.Pairwise (· < ·) → (∀ k, k ∈ ns ↔ S k = true) → ns.length = n → Q (.ref p) s') :
    wpAny (model P w) A (call (.builtin "sorted") [.ref a]) Q E s := by
  obtain ⟨o, es, ep, t, ho, hex, hd, g, nd, hm, hb, hf, hn, hr, hl⟩ := R
  refine Calls.call_function_entry kind_sorted plain_sorted entry_sorted (args_sorted1 _) ?_
  unfold Builtin.«sorted»
  refine wpAny_bind (m := checkCount "sorted" 1 1 _) (wpAny_pure ?_)
  refine wpAny_bind (collect_set (A := A.in1) hh ⟨o, ho, hex.1, hd⟩ hf hb hr hl fun s1 vs k1 hz g1 o1 pm => ?_)
  have hvl : vs.length = n := by rw [pm.length_eq, List.length_map, Array.length_toList]; exact hn
  have hI : IntsAre vs (vs.map Builtin.Re.reRawOf) := ints_of vs fun v hv => by
    obtain ⟨e, he, q⟩ := List.mem_map.mp (pm.mem_iff.mp hv)
    obtain ⟨k, tk, h1, _⟩ := g e he
    exact ⟨k, tk, by rw [← q]; exact h1⟩
  have pk : (vs.map Builtin.Re.reRawOf).Perm (es.toList.map keyOf) := by
    have q := pm.map Builtin.Re.reRawOf
    rw [List.map_map] at q
    exact q
  have hvz : vs.length ≤ sizeLine := by rw [hvl, sizeLine_eq]; omega
  refine wpAny_bind (wpAny_newList ?_ hvz)
  have hoL : (s1.heap.push (seqObj "list" vs.toArray 0)).get? s1.heap.objs.size = some (seqObj "list" vs.toArray 0) := Heap.get?_push_size _ rfl
  refine wpAny_bind (wpAny_holding (wpAny_call_entry slot_list_sort ⟨_, hoL, rfl⟩ entry_list_sort (SrtO.list_sort_ord SrtO.swo_int hoL hvz (fun h2 => SrtO.ints_sortable hI h2) fun out h1 h2 => ⟨.none, rfl, ?_⟩) (args_list_sort _)))
  obtain ⟨a1, a2, a3⟩ := SrtO.ints_out hI h1 h2
  obtain ⟨c, hc⟩ := sortedHeap_at (vs := vs) (out := out.toArray) hoL
  have pn : (out.map SrtO.iv).Perm (es.toList.map keyOf) := a2.trans pk
  refine wpAny_pure ⟨_, rfl, hQ _ s1.heap.objs.size out.toArray c (out.map SrtO.iv) (fun b u e => ?_) g1 o1 hz hc a1 (lt_of_le_nodup _ a3 (pn.nodup_iff.mpr nd)) (fun k => by rw [pn.mem_iff, ← hm k]) ?_⟩
  · have q := k1 b u e
    have hlt := Heap.lt_size q
    show (sortedHeap (s1.heap.push (seqObj "list" vs.toArray 0)) s1.heap.objs.size vs out.toArray).get? b = some u
    rw [sortedHeap_old (Nat.ne_of_lt hlt) (by rw [size_push']; exact Nat.lt_succ_of_lt hlt)]
    exact Heap.get?_push_of_some _ q
  · rw [pn.length_eq, List.length_map, Array.length_toList]; exact hn
end
def rSortedSetB (w : World) : List V → Hp → VK → Prop := fun vs H Q => ∃ (a : Addr) (S : Int → Bool) (n : Nat), vs = [V.ref a] ∧ H a = some (SetO w a S n) ∧ n ≤ 4000 ∧
  ∀ (ns : List Int) (p : Addr), ns.Pairwise (· < ·) → (∀ k : Int, k ∈ ns ↔ S k = true) → ns.length = n → H p = none → Q (.ref p) (upd H p (.lst (ns.map V.int)))
theorem cr_sortedSetB {X : Cx} (hc : X.calm = true) : CallR X (.builtin "sorted") (rSortedSetB X.w) := by
  intro pins s σ H vs us Q I r h
  obtain ⟨a, S, n, rfl, ha, h64, q⟩ := h
  have R := setO_get I ha
  rw [Vals.ref1 r]
  refine sorted_setB R (I.ok.hd hc) h64 fun s' p out c ns k g o hp hg hi hs hm hl => ?_
  have hlen : (ns.map V.int).length ≤ sizeLine := by rw [List.length_map, hl, sizeLine_eq]; omega
  have hn : H p = none := I.hok.fresh hp
  have J : Inv X pins σ (upd H p (.lst (ns.map V.int))) { s with heap := s'.heap, gens := s'.gens, drawn := s'.drawn, toks := s'.toks } :=
    I.call (ch := []) (Un.laid k hp hn) (I.hok.laid k hp ⟨hlen, out.toList, c, vals_of_ints hi, hg⟩) (by rw [g]; exact I.bare) (fun _ z => nomatch z)
  have e : s' = { s with heap := s'.heap, gens := s'.gens, drawn := s'.drawn, toks := s'.toks } := by
    cases s'
    cases s
    cases o
    rfl
  rw [e]
  exact ⟨.ref p, _, J, rfl, q ns p hs hm hl hn⟩
end L2
namespace Wn
open PySem PySem.Spec PyProof.Rows L2
local macro_rules | `(tactic| walk_at "vc") => `(tactic| simp only [cxK, cxK2, start1, start2, start3, tRet, tRetN, tSeq, tNext, tIfS, tAsg, gName, tDrop, tVar, tC, tOp, tUn, tTest, tB, tNot, tAnd, tOr, tAndV, tOrV, tNotV, tIf, tCons, tNil, tCB, tCall, tChain, tAug, ipI, rI, rI0, rU, rIs, rGcd, rEq, rNe, scal,
  List.getElem?_cons_zero, List.getElem?_cons_succ, List.set_cons_zero, List.set_cons_succ, Option.some.injEq, List.cons.injEq, V.int.injEq, V.bl.injEq, V.ref.injEq, V.str.injEq, and_true, true_and, exists_eq_left, exists_eq_left', exists_and_left, exists_and_right, List.append_nil, List.nil_append, List.cons_append, exists_eq_right, exists_eq_right', and_assoc, exists_const, V.ty.injEq, ↓reduceIte, Bool.false_eq_true, Bool.not_true, Bool.not_false, decide_eq_true_eq])

section
variable {P : Program} {w : World} {K : PySem.W.Frag} {mg : Str → Option Value} {base : Heap}

def prD (g : Nat → Nat) (ks : List Nat) : PyData := .tuple (ks.map fun q => .tuple [.int (q : Nat), .int (g q : Nat)])
def pairOf (H : Hp) (v : V) : Int × Int := match v with
  | .ref t => match H t with
    | some (.tup [.int i, .int j]) => (i, j)
    | _ => (0, 0)
  | _ => (0, 0)
theorem pairOf_at {H : Hp} {t : Addr} {i j : Int} (h : H t = some (.tup [.int i, .int j])) : pairOf H (.ref t) = (i, j) := by
  show (match H t with
    | some (.tup [.int i, .int j]) => (i, j)
    | _ => (0, 0)) = _
  rw [h]
def cst (p : Nat × Nat) : Int × Int := (((p.1 : Nat) : Int), ((p.2 : Nat) : Int))
theorem pr_get {H3 : Hp} : ∀ {ts : List Addr} {ps : List (Nat × Nat)}, Paired (fun (t : Addr) (q : Key × V) => H3 t = some (.tup [kV q.1, q.2])) ts (kvP ps) → (∀ t ∈ ts, ∃ q : Nat × Nat, H3 t = some (.tup [.int (q.1 : Nat), .int (q.2 : Nat)])) ∧ ts.map (fun t => pairOf H3 (.ref t)) = ps.map cst
  | [], [], _ => ⟨fun t h => (by cases h), rfl⟩
  | [], _ :: _, h => by cases h
  | _ :: _, [], h => by cases h
  | t :: ts, p :: ps, h => by
    cases h with
    | cons h1 h2 =>
      obtain ⟨i1, i2⟩ := pr_get h2
      refine ⟨fun x hx => ?_, ?_⟩
      · rcases List.mem_cons.mp hx with rfl | h
        · exact ⟨p, h1⟩
        · exact i1 x h
      · rw [List.map_cons, List.map_cons, i2]
        exact congrArg (· :: _) (pairOf_at h1)
theorem prs_dp {K : PySem.W.Frag} {H : Hp} : ∀ {ys : List V} {zs : List (Nat × Nat)}, (∀ y ∈ ys, ∃ t, y = V.ref t ∧ H t = some (.tup [.int (pairOf H y).1, .int (pairOf H y).2])) → ys.map (pairOf H) = zs.map cst → DpAll K H ys (zs.map fun p => .tuple [.int (p.1 : Nat), .int (p.2 : Nat)])
  | [], [], _, _ => .nil
  | [], _ :: _, _, e => by simp at e
  | _ :: _, [], _, e => by simp at e
  | y :: ys, z :: zs, h, e => by
    rw [List.map_cons, List.map_cons] at e
    injection e with e1 e2
    obtain ⟨t, rfl, ht⟩ := h y (by simp)
    rw [e1] at ht
    exact .cons (dp_tup ht (.cons (.int _) (.cons (.int _) .nil))) (prs_dp (fun y hy => h y (List.mem_cons_of_mem _ hy)) e2)
/-- tuple(sorted(list(counts.items()))) -/
theorem sort_items {K : PySem.W.Frag} {σ : L2.St} {H : Hp} {i : Nat} {D : Addr} {ps : List (Nat × Nat)} {g : Nat → Nat} {Q : VK} (hi : σ[i]? = some (some (.ref D))) (hD : H D = some (.dK (kvP ps))) (C : Cnt g ps)
    (q : ∀ ks t H', Gr [] H H' → IsKeys g ks → Dp K H' (.ref t) (prD g ks) → Q (.ref t) H') :
    tCB (rTpO K) (tCons (tCB (rSortedPO K) (tCons (LiI.tListItems (tVar i)) tNil)) tNil) σ H Q := by
  refine ⟨_, hi, D, kvP ps, rfl, hD, fun H3 p ts G np nts pts hp pr => ⟨p, ts.map V.ref, pairOf H3, rfl, sq_lst hp, ?_, fun ys u hs hst nu => ⟨u, _, rfl, .inl ⟨sq_lst upd_same, fun t nt => ?_⟩⟩⟩⟩
  · intro x hx
    obtain ⟨t, ht, rfl⟩ := List.mem_map.mp hx
    obtain ⟨q, hq⟩ := (pr_get pr).1 t ht
    refine ⟨t, rfl, ?_⟩
    rw [pairOf_at hq]
    exact hq
  obtain ⟨zs, hz, ez⟩ := perm_lift cst (hst.perm.map (pairOf H3)) ps (by rw [List.map_map]; exact (pr_get pr).2.symm)
  have g3 : Gr [] H3 (upd (upd H3 u (.lst ys)) t (.tup ys)) := (Gr.new nu).trans (Gr.new nt)
  have hs2 : (ys.map (pairOf H3)).Pairwise fun x y => ¬ (y.1 < x.1) := by
    rw [List.pairwise_map]
    exact hs.imp fun {x y} h z => (SrtO.lexB_no.mp h) (.inl z)
  rw [← ez, List.pairwise_map] at hs2
  obtain ⟨hk, hzz⟩ := C.sorted hz (hs2.imp fun {x y} h z => h (by show ((y.1 : Nat) : Int) < ((x.1 : Nat) : Int); omega))
  refine q (zs.map Prod.fst) t _ (fun b o _ e => g3 b o (by simp) (G b o e)) hk ?_
  refine dp_tup upd_same ?_
  refine DpAll.kp (Kp.of g3) ?_
  have dp := prs_dp (K := K) (H := H3) (ys := ys) (zs := zs) (fun y hy => by
    obtain ⟨t, ht, rfl⟩ := List.mem_map.mp (hst.perm.mem_iff.mp hy)
    obtain ⟨q, hq⟩ := (pr_get pr).1 t ht
    refine ⟨t, rfl, ?_⟩
    rw [pairOf_at hq]
    exact hq) ez.symm
  have e2 : (zs.map fun p => PyData.tuple [.int (p.1 : Nat), .int (p.2 : Nat)]) = (zs.map Prod.fst).map fun q => .tuple [.int (q : Nat), .int (g q : Nat)] := by
    conv => lhs; rw [hzz]
    unfold prs
    rw [List.map_map]
    rfl
  rw [← e2]
  exact dp

theorem small5 {k : Nat} (h : k ≤ 5000) : k < sizeLine := Nat.lt_of_lt_of_le (show _ < 6000 by omega) (by decide)
theorem per_le {b n L : Nat} (hn : 1 ≤ n) (g : Nat.gcd b n = 1) (h : IsPer b n L) : L ≤ n := by
  obtain ⟨d, hd, hd'⟩ := per_exists hn g
  rw [h.uniq hd']
  exact hd

def di (xs : List Nat) : PyData := .tuple ((ni xs).map PyData.int)
theorem sm_ni {xs : List Nat} {m : Nat} (h : ∀ k ∈ xs, k < 8192) (hm : xs.length ≤ m) : Sm (di xs) 13 1 (m * 14) := by
  refine Sm.tup (W := 13) m (fun d hd => ?_) (by unfold ni; rw [List.length_map, List.length_map]; exact hm)
  obtain ⟨z, hz, rfl⟩ := List.mem_map.mp hd
  obtain ⟨k, hk, rfl⟩ := List.mem_map.mp hz
  exact Sm.int (by decide) (by rw [Int.natAbs_natCast]; exact h k hk) (by decide)
theorem sml_ni {xs : List Nat} {m : Nat} (h : ∀ k ∈ xs, k < 8192) (hm : xs.length ≤ m) : Sm (.list ((ni xs).map PyData.int)) 13 1 (m * 14) := by
  refine Sm.lst (W := 13) m (fun d hd => ?_) (by unfold ni; rw [List.length_map, List.length_map]; exact hm)
  obtain ⟨z, hz, rfl⟩ := List.mem_map.mp hd
  obtain ⟨k, hk, rfl⟩ := List.mem_map.mp hz
  exact Sm.int (by decide) (by rw [Int.natAbs_natCast]; exact h k hk) (by decide)
theorem dp_vnT {K : PySem.W.Frag} {H : Hp} {t : Addr} {xs : List Nat} (h : H t = some (.tup (vn xs))) : Dp K H (.ref t) (di xs) := by
  rw [vn_ni] at h
  exact dp_tup h (dpAll_ints _)
theorem dp_vnL {K : PySem.W.Frag} {H : Hp} {t : Addr} {xs : List Nat} (h : H t = some (.lst (vn xs))) : Dp K H (.ref t) (.list ((ni xs).map PyData.int)) := by
  rw [vn_ni] at h
  exact dp_lst h (dpAll_ints _)
inductive TA (H : Hp) : List V → List (List Nat) → Prop
  | nil : TA H [] []
  | cons {a : Addr} {r : List Nat} {vs : List V} {rs : List (List Nat)} : H a = some (.tup (vn r)) → TA H vs rs → TA H (.ref a :: vs) (r :: rs)
theorem TA.gr {H H' : Hp} {vs : List V} {rs : List (List Nat)} (g : Gr [] H H') (h : TA H vs rs) : TA H' vs rs := by
  induction h with
  | nil => exact .nil
  | cons a _ ih => exact .cons (g _ _ (by simp) a) ih
theorem TA.app {H : Hp} {vs vs2 : List V} {rs rs2 : List (List Nat)} (h : TA H vs rs) (h2 : TA H vs2 rs2) : TA H (vs ++ vs2) (rs ++ rs2) := by
  induction h with
  | nil => exact h2
  | cons a _ ih => exact .cons a ih
theorem TA.len {H : Hp} {vs : List V} {rs : List (List Nat)} (h : TA H vs rs) : vs.length = rs.length := by
  induction h with
  | nil => rfl
  | cons _ _ ih => exact congrArg (· + 1) ih
theorem TA.get {H : Hp} {vs : List V} {rs : List (List Nat)} (h : TA H vs rs) : ∀ {i : Nat} {v : V}, vs[i]? = some v → ∃ (hi : i < rs.length) (a : Addr), v = .ref a ∧ H a = some (.tup (vn rs[i])) := by
  induction h with
  | nil => intro i v h; simp at h
  | @cons a r vs rs ha t ih =>
    intro i v hv
    cases i with
    | zero =>
      have : V.ref a = v := by simpa using hv
      exact ⟨by simp, a, this.symm, ha⟩
    | succ i =>
      obtain ⟨hi, b, e, hb⟩ := ih (i := i) (v := v) (by simpa using hv)
      exact ⟨by simpa using hi, b, e, by simpa using hb⟩
theorem TA.dp {H : Hp} {vs : List V} {rs : List (List Nat)} (h : TA H vs rs) : DpAll K H vs (rs.map di) := by
  induction h with
  | nil => exact .nil
  | cons a _ ih => exact .cons (dp_vnT a) ih

theorem TA.put {H : Hp} {l : Addr} {xs ys : List V} (hl : H l = some (.lst xs)) {vs : List V} {rs : List (List Nat)} (h : TA H vs rs) : TA (upd H l (.lst ys)) vs rs := by
  induction h with
  | nil => exact .nil
  | cons a _ ih => exact .cons (by rw [upd_ne (fun z => by rw [z, hl] at a; cases a)]; exact a) ih

/-! counts of digits -/
def cO (xs : List Nat) (q : Nat) : Nat := cntQ (fun x => x) xs q
def keysB (B : Nat) (g : Nat → Nat) : List Nat := (List.range B).filter fun q => decide (1 ≤ g q)
theorem keysB_is {B : Nat} {g : Nat → Nat} (h : ∀ q, 1 ≤ g q → q < B) : IsKeys g (keysB B g) := by
  refine ⟨List.Pairwise.filter _ List.pairwise_lt_range, fun q => ?_⟩
  unfold keysB
  rw [List.mem_filter, List.mem_range, decide_eq_true_eq]
  exact ⟨fun z => z.2, fun z => ⟨h q z, z⟩⟩
theorem cO_mem {xs : List Nat} {q : Nat} : 1 ≤ cO xs q ↔ q ∈ xs := by
  constructor
  · intro h
    have := cntQ_pos h
    simpa using this
  · intro h
    unfold cO cntQ
    exact List.length_pos_of_mem (List.mem_filter.mpr ⟨h, decide_eq_true rfl⟩)
theorem cO_lt {xs : List Nat} {B q : Nat} (h : ∀ d ∈ xs, d < B) (hq : 1 ≤ cO xs q) : q < B := h q (cO_mem.mp hq)
theorem cO_le (xs : List Nat) (q : Nat) : cO xs q ≤ xs.length := List.length_filter_le _ _
theorem cO_countP (q : Nat) : ∀ xs : List Nat, (vn xs).countP (fun z => eqV z (.int (q : Nat))) = cO xs q
  | [] => rfl
  | x :: r => by
    show (V.int (x : Nat) :: vn r).countP _ = _
    rw [List.countP_cons, cO_countP q r]
    unfold cO cntQ
    by_cases h : x = q
    · rw [List.filter_cons_of_pos (p := fun x => decide (x = q)) (decide_eq_true h), List.length_cons, if_pos]
      show (((x : Nat) : Int) == ((q : Nat) : Int)) = true
      rw [h, beq_self_eq_true]
    · rw [List.filter_cons_of_neg (p := fun x => decide (x = q)) (by rw [decide_eq_true_eq]; exact h), if_neg, Nat.add_zero]
      show ¬ (((x : Nat) : Int) == ((q : Nat) : Int)) = true
      rw [beq_iff_eq]
      omega
def cD (B : Nat) (xs : List Nat) : PyData := prD (cO xs) (keysB B (cO xs))
theorem cO_snoc (xs : List Nat) (x q : Nat) : cO (xs ++ [x]) q = cO xs q + if q = x then 1 else 0 := by
  unfold cO
  rw [cntQ_app, cntQ_const (ms := [x]) (q0 := x) (by simp)]
  rfl
theorem keysB_len {B : Nat} {xs : List Nat} : (keysB B (cO xs)).length ≤ xs.length := by
  have nd : (keysB B (cO xs)).Nodup := by
    unfold keysB
    exact List.Pairwise.filter _ List.nodup_range
  exact nodup_sub (ys := xs) nd fun q hq => cO_mem.mp (of_decide_eq_true (List.mem_filter.mp hq).2)
theorem cD_sm {B m : Nat} {xs : List Nat} (hB : B ≤ 8000) (hm : xs.length ≤ m) (hm2 : m ≤ 8000) : Sm (cD B xs) 13 2 (m * 29) := by
  unfold cD prD
  refine Sm.tup (W := 28) m (fun d hd => ?_) (by rw [List.length_map]; exact Nat.le_trans keysB_len hm)
  obtain ⟨q, hq, rfl⟩ := List.mem_map.mp hd
  have h1 := List.mem_range.mp (List.mem_filter.mp hq).1
  have h2 := cO_le xs q
  refine Sm.tup (W := 13) 2 (fun d hd => ?_) (Nat.le_refl _)
  simp only [List.mem_cons, List.not_mem_nil, or_false] at hd
  rcases hd with rfl | rfl
  · exact Sm.int (by decide) (by rw [Int.natAbs_natCast]; exact Nat.lt_of_lt_of_le (show q < 8000 by omega) (by decide)) (by decide)
  · exact Sm.int (by decide) (by rw [Int.natAbs_natCast]; exact Nat.lt_of_le_of_lt (show cO xs q ≤ 8000 by omega) (by decide)) (by decide)
def sp_counted (K : PySem.W.Frag) (l : Bool) : Sp := fun vs H Q _ => ∃ (a : Addr) (B : Nat) (xs : List Nat), vs = [.ref a] ∧ H a = some (if l = true then .lst (vn xs) else .tup (vn xs)) ∧ xs.length ≤ 5000 ∧ (∀ d ∈ xs, d < B) ∧
  ∀ t H', Gr [] H H' → Dp K H' (.ref t) (cD B xs) → Q (.ref t) H'
theorem ok_counted (T : Txt K mg) : FnOk P w K mg base CX0 2 T.d_counted.f T.d_counted.fd ["row"] (sp_counted K true) := by
  refine T.d_counted.F.ok sc_counted (fun vs H Q E h => ?_) (fun cdv A outer s H vs Q E hr h => ?_)
  · obtain ⟨a, B, xs, rfl, _⟩ := h; rfl
  · have hu := hu_of hr
    refine ⟨_, (pss_cons (ps_set (i := 1) sc_counted.nd rfl (by first | exact .inl rfl | exact .inr rfl) pe_dnewK)
      (pss_cons (ps_for PassesOwn.never rfl (pi_list (pv 0)) (pg_name (i := 2) sc_counted.nd rfl (by first | exact .inl rfl | exact .inr rfl)) (pss_one (ps_dput hu (pv 1) (pv 2) (pe_op op_add (pe_dget2 hu (pv 1) (pv 2) pe_int ⟨by rfl, by rfl, by rfl, by rfl⟩) pe_int) rfl)))
      (pss_one (ps_ret (pe_callTy (r := rTpO K) call_tpO (by rfl) T.b_tuple (by decide +kernel) (pa_cons (pe_callB (r := rSortedPO K) cr_sortedPO (by rfl) T.b_sorted (by decide +kernel) (pa_cons (LiI.pe_listItems rfl (pv 1) (by rfl) T.b_list (by decide +kernel)) pa_nil)) pa_nil)))))), ?_⟩
    obtain ⟨a, B, xs, rfl, ha, hl, hB, q⟩ := h
    rw [if_pos rfl] at ha
    intro D nD
    have g1 : Gr [] H (upd H D (.dK [])) := Gr.new nD
    have hD0 : (upd H D (.dK [])) D = some (.dK []) := upd_same
    have nDH := nD
    generalize upd H D (.dK []) = H1 at g1 hD0 ⊢
    have ha1 := g1 a _ (by simp) ha
    refine ⟨_, rfl, a, rfl, ⟨_, sq_lst ha1⟩, ?_⟩
    refine for_list (K := K) (a := a) (xs := vn xs) (fun i σ H' => (∀ u o, u ≠ D → H1 u = some o → H' u = some o) ∧ (∃ ps, H' D = some (.dK (kvP ps)) ∧ Cnt (cO (xs.take i)) ps) ∧ ∃ v, σ = [some (.ref a), some (.ref D), v]) ⟨fun u o _ e => e, ⟨[], hD0, Cnt.nil⟩, none, rfl⟩ (fun i σ H' _ z => sq_lst (z.1 a _ (ne_of_none ha nDH) ha1)) ?_ ?_
    · rintro i y σ H6 hy ⟨G6, ⟨ps, hD6, hC⟩, v, rfl⟩
      obtain ⟨hi, rfl⟩ := vn_get hy
      have tk := List.take_succ_eq_append_getElem hi
      generalize hq0 : xs[i] = q0 at tk ⊢
      have gt := hC.get q0
      have gt2 : (valV (kvP ps) (Sum.inl ((q0 : Nat) : Int) : Key)).getD (V.int 0) = V.int ((cO (xs.take i) q0 : Nat) : Int) := by
        rw [gt]
        by_cases z : cO (xs.take i) q0 = 0
        · rw [if_pos z, z]
          rfl
        · rw [if_neg z]
          rfl
      have kl : ps.length ≤ 5000 := by
        have := hC.len (ks := xs.take i) fun q hq => cO_mem.mp hq
        rw [List.length_take] at this
        omega
      refine ⟨_, rfl, D, rfl, .inl ⟨_, .inl hD6⟩, _, rfl, _, DGet.k (k := Sum.inl ((q0 : Nat) : Int)) hD6, _, _, gt2, rfl, _, rfl, _, rfl, D, _, rfl, DPut.k (k := Sum.inl ((q0 : Nat) : Int)) hD6 (by unfold kvP; rw [List.length_map]; exact small5 kl), ?_⟩
      dsimp only
      obtain ⟨ps', ep, C'⟩ := hC.put q0 1 (by omega)
      have e1 : ((cO (xs.take i) q0 : Nat) : Int) + 1 = ((cO (xs.take i) q0 + 1 : Nat) : Int) := by omega
      rw [e1, ep]
      refine ⟨fun u o h1 e => ?_, ⟨ps', upd_same, C'.congr fun z => ?_⟩, _, rfl⟩
      · rw [upd_ne h1]
        exact G6 u o h1 e
      · rw [tk, cO_snoc]
    rintro σ H4 ⟨G, ⟨ps, hD, hC⟩, v, rfl⟩
    rw [vn_len, List.take_of_length_le (Nat.le_refl _)] at hC
    refine sort_items rfl hD hC fun ks t H' g' hk dp => q t H' (fun u o _ e => ?_) ?_
    · exact g' u o (by simp) (G u o (ne_of_none e nDH) (g1 u o (by simp) e))
    · rw [hk.uniq (keysB_is fun q hq => cO_lt hB hq)] at dp
      exact dp

theorem head0 {b n p q h : Nat} (hp : IsPure b n p) (e : n = p * q) (hh : IsHead b q h) (g : Nat.gcd b n = 1) (hn : 1 ≤ n) : p = n ∧ h = 0 := by
  have ep : p = n := hp.uniq (IsPure.self g)
  subst ep
  have eq : q = 1 := by
    have := Nat.eq_of_mul_eq_mul_left (show 0 < p by omega) (show p * q = p * 1 by omega)
    exact this
  subst eq
  refine ⟨rfl, ?_⟩
  rcases Nat.eq_zero_or_pos h with z | z
  · exact z
  · exact absurd (Nat.mod_one _) (hh.2 0 z)

/-! lengths of residues -/
def LN (n : Nat) : List Nat := (List.range n).map (ordN n)
def ptl (r n L : Nat) : List Nat := (List.range L).map fun i => r ^ (i + 1) % n
theorem ptl_succ (r n L : Nat) : ptl r n (L + 1) = ptl r n L ++ [r ^ (L + 1) % n] := by
  unfold ptl
  rw [List.range_succ, List.map_append]
  rfl
theorem ptl_len (r n L : Nat) : (ptl r n L).length = L := by simp [ptl]
theorem vn_last {xs : List Nat} {y : Nat} : atI (vn (xs ++ [y])) (-1) = some (.int (y : Nat)) := by
  have h : (vn (xs ++ [y])).length = xs.length + 1 := by rw [vn_len, List.length_append]; rfl
  unfold atI
  have e : ixN (vn (xs ++ [y])).length (-1) = some xs.length := by
    rw [h]
    unfold ixN
    rw [if_neg (by omega), if_pos (by omega)]
    congr 1
    omega
  rw [e]
  show (vn (xs ++ [y]))[xs.length]? = _
  unfold vn
  rw [List.getElem?_map, List.getElem?_append_right (Nat.le_refl _), Nat.sub_self]
  rfl
def sp_powers_to_one : Sp := fun vs H Q _ => ∃ (r n L : Nat), vs = [.int r, .int n] ∧ (r < n ∧ n ≤ 5000) ∧ Nat.gcd r n = 1 ∧ IsPer r n L ∧ ∀ l H', H l = none → Gr [] H H' → H' l = some (.lst (vn (ptl r n L))) → Q (.ref l) H'
theorem ok_powers_to_one (T : Txt K mg) : FnOk P w K mg base CX0 1 T.d_powers_to_one.f T.d_powers_to_one.fd ["residue", "denominator"] sp_powers_to_one := by
  refine T.d_powers_to_one.F.ok sc_powers_to_one (fun vs H Q E h => ?_) (fun cdv A outer s H vs Q E hr h => ?_)
  · obtain ⟨r, n, L, rfl, _⟩ := h; rfl
  · have hu := hu_of hr
    refine ⟨_, (pss_cons (ps_set (i := 2) sc_powers_to_one.nd rfl (by first | exact .inl rfl | exact .inr rfl) (pe_op op_mod pe_int (pv 1)))
      (pss_cons (ps_set (i := 3) sc_powers_to_one.nd rfl (by first | exact .inl rfl | exact .inr rfl) (pe_lst (pa_cons (pv 0) pa_nil)))
      (pss_cons (ps_while PassesOwn.never (pt_cmpR op_ne (pe_ix (r := rIxL K) ix_list (pv 3) (pe_un un_neg pe_int) (fun _ _ => rfl)) (pv 2) (nomark _)) (pss_one (ps_expr (pe_bm PySem.F.plainAttrs_list PySem.F.slot_list_append PySem.F.type_list_append mt_append (pv 3) (pa_cons (pe_op op_mod (pe_op op_mul (pe_ix (r := rIxL K) ix_list (pv 3) (pe_un un_neg pe_int) (fun _ _ => rfl)) (pv 0)) (pv 1)) pa_nil)))))
      (pss_one (ps_ret (pv 3)))))), ?_⟩
    obtain ⟨r, n, L, rfl, ⟨hr, hn⟩, hg, hP, q⟩ := h
    have hn1 : 1 ≤ n := by omega
    have hLn : L ≤ n := by
      obtain ⟨d, hd, hd'⟩ := per_exists hn1 hg
      rw [hP.uniq hd']
      exact hd
    refine ⟨_, rfl, _, n, rfl, rfl, (show (0 : Int) < (n : Int) by omega), ?_⟩
    have e1 : (1 : Int) % (n : Int) = ((1 % n : Nat) : Int) := by rw [Int.natCast_emod]; rfl
    dsimp only
    rw [e1]
    refine ⟨_, rfl, by show 1 ≤ sizeLine; decide, fun l nl => ?_⟩
    refine ⟨fun m σ H' => ∃ i : Nat, m = L - i ∧ i + 1 ≤ L ∧ Gr [] H H' ∧ H' l = some (.lst (vn (ptl r n i ++ [r ^ (i + 1) % n]))) ∧ σ = [some (.int r), some (.int n), some (.int (1 % n : Nat)), some (.ref l)], ⟨L, 0, rfl, hP.1, Gr.new nl, ?_, rfl⟩, ?_⟩
    · rw [upd_same, Nat.zero_add, Nat.pow_one, Nat.mod_eq_of_lt hr]
      rfl
    rintro m σ H' ⟨i, rfl, hi, G, hL, rfl⟩
    refine ⟨_, rfl, _, rfl, l, _, _, _, rfl, rfl, sq_lst hL, vn_last, _, rfl, rfl, _, rfl, ?_⟩
    by_cases hc : r ^ (i + 1) % n = 1 % n
    · refine iteFb (by rw [hc, decide_eq_true rfl]; rfl) ⟨_, rfl, q l H' nl G ?_⟩
      have : i + 1 = L := by
        rcases Nat.lt_or_eq_of_le hi with z | z
        · exact absurd hc (hP.2.2 (i + 1) (by omega) z)
        · exact z
      rw [hL, ← ptl_succ, this]
    · have hlt : i + 1 < L := by
        rcases Nat.lt_or_eq_of_le hi with z | z
        · exact z
        · rw [z] at hc
          exact absurd hP.2.1 hc
      refine iteTb (by rw [Bool.not_eq_true']; exact decide_eq_false fun z => hc (by have := V.int.inj z; omega)) ⟨fun σ' H2 => Gr [] H H2 ∧ H2 l = some (.lst (vn (ptl r n (i + 1) ++ [r ^ (i + 1 + 1) % n]))) ∧ σ' = [some (.int r), some (.int n), some (.int (1 % n : Nat)), some (.ref l)], ?_, ?_⟩
      · rintro σ' H2 ⟨G2, h2, rfl⟩
        exact ⟨L - (i + 1), by omega, i + 1, rfl, by omega, G2, h2, rfl⟩
      · have hm : r ^ (i + 1) % n < n := Nat.mod_lt _ hn1
        refine ⟨_, rfl, .inl ⟨rfl, _, sq_lst hL⟩, _, rfl, _, rfl, l, _, _, _, rfl, rfl, sq_lst hL, vn_last, _, rfl, _, _, rfl, rfl, .inl ⟨by omega, by omega⟩, _, rfl, _, (n : Int), rfl, rfl, (show (0 : Int) < (n : Int) by omega), l, _, _, rfl, rfl, hL, small5 (by rw [vn_len, List.length_append, ptl_len]; simp; omega), ?_⟩
        dsimp only
        rw [icm, pow_mod_step, vn_snoc, ← ptl_succ]
        refine ⟨fun u o _ e => ?_, upd_same, rfl⟩
        rw [upd_ne (ne_of_none e nl)]
        exact G u o (by simp) e

def sp_residue_lengths : Sp := fun vs H Q _ => ∃ (n : Nat), vs = [.int n] ∧ (1 ≤ n ∧ n ≤ 5000) ∧ ∀ l H', Gr [] H H' → H' l = some (.lst (vn (LN n))) → Q (.ref l) H'
theorem gcdR (a n : Nat) : Nat.gcd a n = Nat.gcd (a % n) n := by
  rw [Nat.gcd_comm a n, Nat.gcd_rec n a]
theorem fset {n r v : Nat} (f : Nat → Nat) : (vn ((List.range n).map f)).set r (.int (v : Nat)) = vn ((List.range n).map fun x => if x = r then v else f x) := by
  unfold vn
  rw [List.map_map, List.map_map]
  apply List.ext_getElem
  · simp
  · intro i h1 h2
    rw [List.getElem_set, List.getElem_map, List.getElem_range]
    by_cases e : r = i
    · rw [if_pos e, List.getElem_map, List.getElem_range]
      show _ = V.int ((if i = r then v else f i : Nat) : Int)
      rw [if_pos e.symm]
    · rw [if_neg e, List.getElem_map, List.getElem_range]
      show V.int ((f i : Nat) : Int) = V.int ((if i = r then v else f i : Nat) : Int)
      rw [if_neg fun z => e z.symm]
theorem fget {n r : Nat} (f : Nat → Nat) (h : r < n) : (vn ((List.range n).map f))[r]? = some (.int (f r : Nat)) := by
  unfold vn
  rw [List.map_map, List.getElem?_map, List.getElem?_range h]
  rfl
/-- what stands in the list behind some residues -/
def RL (n i : Nat) (f : Nat → Nat) : Prop := (∀ x, x < n → f x = 0 ∨ f x = ordN n x) ∧ ∀ x, x < i → f x = ordN n x
theorem ok_residue_lengths (T : Txt K mg) : FnOk P w K mg base CX0 2 T.d_residue_lengths.f T.d_residue_lengths.fd ["denominator"] sp_residue_lengths := by
  refine T.d_residue_lengths.F.ok sc_residue_lengths (fun vs H Q E h => ?_) (fun cdv A outer s H vs Q E hr h => ?_)
  · obtain ⟨n, rfl, _⟩ := h; rfl
  · have hu := hu_of hr
    refine ⟨_, (pss_cons (ps_set (i := 1) sc_residue_lengths.nd rfl (by first | exact .inl rfl | exact .inr rfl) (pe_op op_rep (pe_lst (pa_cons pe_int pa_nil)) (pv 0)))
      (pss_cons (ps_for PassesOwn.never rfl (pi_range1 (by rfl) T.b_range (pa_cons (pv 0) pa_nil)) (pg_name (i := 2) sc_residue_lengths.nd rfl (by first | exact .inl rfl | exact .inr rfl)) (pss_cons (ps_if (PW.pt (pw_or (pt_cmpR op_ne (pe_ix (r := rIxL K) ix_list (pv 1) (pv 2) (fun _ _ => rfl)) pe_int (nomark _)) (pw_or1 (pt_cmpR op_ne (pe_callBfun cr_gcd (by rfl) T.b_gcd (pa_cons (pv 2) (pa_cons (pv 0) pa_nil))) pe_int (nomark _))))) (pss_one ps_continue) pss_nil)
      (pss_cons (ps_set (i := 3) sc_residue_lengths.nd rfl (by first | exact .inl rfl | exact .inr rfl) (pe_call (ok_powers_to_one T) (hr.mono (by decide)) (by rfl) T.d_powers_to_one.m T.d_powers_to_one.F.kp T.d_powers_to_one.b .nil pass0 (pa_cons (pv 2) (pa_cons (pv 0) pa_nil))))
      (pss_one (ps_for PassesOwn.never rfl (pi_enum (by rfl) T.b_enumerate (pa_cons (pv 3) pa_nil)) (pg_tup (by rfl) (pgs_cons (pg_name (i := 4) sc_residue_lengths.nd rfl (by first | exact .inl rfl | exact .inr rfl)) (pgs_cons (pg_name (i := 5) sc_residue_lengths.nd rfl (by first | exact .inl rfl | exact .inr rfl)) pgs_nil))) (pss_one (ps_asg (pe_op op_fdiv (pe_callB (r := rLn K) call_ln (by rfl) T.b_len PySem.boot_len (pa_cons (pv 3) pa_nil)) (pe_callBfun cr_gcd (by rfl) T.b_gcd (pa_cons (pe_op op_add (pv 4) pe_int) (pa_cons (pe_callB (r := rLn K) call_ln (by rfl) T.b_len PySem.boot_len (pa_cons (pv 3) pa_nil)) pa_nil)))) (pg_sub (pv 1) (pv 5) set_list))))))))
      (pss_one (ps_ret (pv 1))))), ?_⟩
    obtain ⟨n, rfl, ⟨hn1, hn2⟩, q⟩ := h
    refine ⟨by show 1 ≤ sizeLine; decide, fun l0 n0 => ⟨_, rfl, l0, (n : Int), _, rfl, rfl, upd_same, by omega, by omega, ?_, fun l nl => ?_⟩⟩
    · rw [Int.toNat_natCast]
      exact Nat.le_trans (show _ ≤ 6000 by simp; omega) (by decide)
    rw [Int.toNat_natCast]
    have ez : (List.replicate n [V.int 0]).flatten = vn ((List.range n).map fun _ => 0) := by
      unfold vn
      rw [List.flatten_replicate_singleton, List.map_map]
      apply List.ext_getElem
      · simp
      · intro i h1 h2
        simp
    rw [ez]
    have g1 : Gr [] H (upd (upd H l0 (.lst [.int 0])) l (.lst (vn ((List.range n).map fun _ => 0)))) := (Gr.new n0).trans (Gr.new nl)
    have hl1 : (upd (upd H l0 (.lst [.int 0])) l (.lst (vn ((List.range n).map fun _ => 0)))) l = some (.lst (vn ((List.range n).map fun _ => 0))) := upd_same
    have nlH : H l = none := by
      cases z : H l with
      | none => rfl
      | some o =>
        have := (Gr.new (W := []) (o := .lst [V.int 0]) n0) l o (by simp) z
        rw [nl] at this
        cases this
    generalize upd (upd H l0 (.lst [.int 0])) l (.lst (vn ((List.range n).map fun _ => 0))) = H1 at g1 hl1 ⊢
    refine ⟨_, rfl, (n : Int), rfl, by omega, by omega, ?_⟩
    refine for_range (lo := 0) (n := ((n : Int) - 0).toNat) (fun i σ H' => Gr [] H H' ∧ (∃ f, H' l = some (.lst (vn ((List.range n).map f))) ∧ RL n i f) ∧ ∃ v2 v3 v4 v5, σ = [some (.int n), some (.ref l), v2, v3, v4, v5]) ⟨g1, ⟨_, hl1, fun x _ => .inl rfl, fun x hx => absurd hx (Nat.not_lt_zero _)⟩, none, none, none, none, rfl⟩ ?_ ?_
    · rintro i σ H' hi ⟨G, ⟨f, hL, hf⟩, v2, v3, v4, v5, rfl⟩
      have ei : (0 : Int) + (i : Int) = ((i : Nat) : Int) := by omega
      have hin : i < n := by omega
      rw [ei]
      refine ⟨_, rfl, _, rfl, l, _, (i : Int), .int (f i : Nat), rfl, rfl, sq_lst hL, atI_nat (fget f hin), rfl, _, rfl, ?_⟩
      have next : f i = ordN n i → ∀ v3 v4 v5, Gr [] H H' ∧ (∃ f, H' l = some (.lst (vn ((List.range n).map f))) ∧ RL n (i + 1) f) ∧ ∃ w2 w3 w4 w5, [some (V.int n), some (.ref l), some (.int (i : Nat)), v3, v4, v5] = [some (V.int n), some (.ref l), w2, w3, w4, w5] := fun e v3 v4 v5 => by
        refine ⟨G, ⟨f, hL, hf.1, fun x hx => ?_⟩, _, _, _, _, rfl⟩
        rcases Nat.lt_or_eq_of_le (show x ≤ i by omega) with z | z
        · exact hf.2 x z
        · rw [z]
          exact e
      by_cases h0 : f i = 0
      case neg =>
        refine iteTb (by rw [Bool.not_eq_true']; exact decide_eq_false fun z => h0 (by have := V.int.inj z; omega)) ?_
        refine iteT (next ?_ _ _ _)
        rcases hf.1 i hin with z | z
        · exact absurd z h0
        · exact z
      refine iteFb (by rw [h0]; rfl) ?_
      refine ⟨_, rfl, _, rfl, (i : Int), (n : Int), rfl, rfl, _, rfl, ?_⟩
      by_cases hg : Nat.gcd i n = 1
      case neg =>
        refine iteTb (by rw [Int.natAbs_natCast, Int.natAbs_natCast, Bool.not_eq_true']; exact decide_eq_false fun z => hg (by have := V.int.inj z; omega)) ?_
        exact (next (by rw [h0, ordN_no hg]) _ _ _)
      refine iteFb (by rw [Int.natAbs_natCast, Int.natAbs_natCast, hg]; rfl) ?_
      obtain ⟨hP, hLn⟩ := ordN_per hn1 hg
      generalize hLL : ordN n i = L at hP hLn
      refine ⟨_, rfl, _, rfl, i, n, L, rfl, ⟨hin, hn2⟩, hg, hP, fun rs H2 nrs g2 hrs => ?_⟩
      have hl2 := g2 l _ (by simp) hL
      have G2 := G.trans g2
      have hrl : rs ≠ l := fun e => by
        rw [e, hL] at nrs
        cases nrs
      refine ⟨_, rfl, rs, _, rfl, sq_lst hrs, ?_⟩
      refine for_enumL (K := K) (a := rs) (xs := vn (ptl i n L)) (fun j σ H' => (∀ u o, u ≠ l → H2 u = some o → H' u = some o) ∧ (∃ f', H' l = some (.lst (vn ((List.range n).map f'))) ∧ RL n i f' ∧ (1 ≤ j → f' i = ordN n i)) ∧ ∃ w4 w5, σ = [some (.int n), some (.ref l), some (.int (i : Nat)), some (.ref rs), w4, w5]) ⟨fun u o _ e => e, ⟨f, hl2, hf, fun z => absurd z (by decide)⟩, v4, v5, rfl⟩ (fun j σ H' _ z => sq_lst (z.1 rs _ hrl hrs)) ?_ ?_
      · rintro j y T σ H3 hy hT ⟨G3, ⟨f', hL3, ⟨hf1, hf2⟩, hf3⟩, w4, w5, rfl⟩
        obtain ⟨hj, rfl⟩ := vn_get hy
        have hjL : j < L := by rw [ptl_len] at hj; exact hj
        have ej : (ptl i n L)[j] = i ^ (j + 1) % n := by simp [ptl]
        rw [ej]
        have gT : Gr [] H3 (upd H3 T (.tup [.int (j : Nat), .int (i ^ (j + 1) % n : Nat)])) := Gr.new hT
        refine ⟨T, _, rfl, sq_tup upd_same, rfl, _, _, rfl, _, _, rfl, rfl, ?_⟩
        have hrs4 := gT rs _ (by simp) (G3 rs _ hrl hrs)
        have hL4 := gT l _ (by simp) hL3
        have G4 : ∀ u o, u ≠ l → H2 u = some o → (upd H3 T (.tup [.int (j : Nat), .int (i ^ (j + 1) % n : Nat)])) u = some o := fun u o h1 e => gT u o (by simp) (G3 u o h1 e)
        generalize upd H3 T (.tup [.int (j : Nat), .int (i ^ (j + 1) % n : Nat)]) = H4 at hrs4 hL4 G4 ⊢
        have hg0 : 0 < Nat.gcd (j + 1) L := Nat.gcd_pos_of_pos_left L (by omega)
        have hgL : Nat.gcd (j + 1) L ≤ L := Nat.le_of_dvd hP.1 (Nat.gcd_dvd_right _ _)
        have en : ((j : Int) + 1).natAbs = j + 1 := by omega
        have eL : (vn (ptl i n L)).length = L := by rw [vn_len, ptl_len]
        refine ⟨_, rfl, rs, _, rfl, .inl (sq_lst hrs4), _, rfl, _, _, rfl, rfl, _, rfl, rs, _, rfl, .inl (sq_lst hrs4), (j : Int) + 1, (L : Int), by rw [eL], ?_⟩
        rw [en, Int.natAbs_natCast, eL]
        refine ⟨_, _, rfl, rfl, ⟨by omega, by omega⟩, ?_⟩
        dsimp only
        rw [← Int.natCast_ediv]
        have hm : i ^ (j + 1) % n < n := Nat.mod_lt _ hn1
        refine ⟨_, rfl, _, rfl, l, _, _, i ^ (j + 1) % n, rfl, rfl, hL4, by rw [vn_len, List.length_map, List.length_range]; unfold ixN; rw [if_pos (by omega), if_pos (by omega), Int.toNat_natCast], ?_⟩
        rw [fset]
        have hgm : Nat.gcd (i ^ (j + 1) % n) n = 1 := by
          rw [← gcdR, cop_pow hg]
        have hv : L / Nat.gcd (j + 1) L = ordN n (i ^ (j + 1) % n) := (ordN_eq hn1 hgm (per_pow hP (by omega))).symm
        rw [hv]
        refine ⟨fun u o h1 e => ?_, ⟨_, upd_same, ⟨fun x hx => ?_, fun x hx => ?_⟩, fun _ => ?_⟩, _, _, rfl⟩
        · rw [upd_ne h1]
          exact G4 u o h1 e
        · dsimp only
          by_cases z : x = i ^ (j + 1) % n
          · rw [if_pos z, ← z]
            exact .inr rfl
          · rw [if_neg z]
            exact hf1 x hx
        · dsimp only
          by_cases z : x = i ^ (j + 1) % n
          · rw [if_pos z, ← z]
          · rw [if_neg z]
            exact hf2 x hx
        · by_cases z : i = i ^ (j + 1) % n
          · rw [if_pos z, ← z]
          · rw [if_neg z]
            refine hf3 ?_
            rcases Nat.eq_zero_or_pos j with y | y
            · rw [y, Nat.zero_add, Nat.pow_one, Nat.mod_eq_of_lt hin] at z
              exact absurd rfl z
            · exact y
      rintro σ H3 ⟨G3, ⟨f', hL3, ⟨hf1, hf2⟩, hf3⟩, w4, w5, rfl⟩
      have e1 := hf3 (by rw [vn_len, ptl_len]; exact hP.1)
      refine ⟨fun u o _ e => G3 u o (ne_of_none e nlH) (G2 u o (by simp) e), ⟨f', hL3, hf1, fun x hx => ?_⟩, _, _, _, _, rfl⟩
      rcases Nat.lt_or_eq_of_le (show x ≤ i by omega) with z | z
      · exact hf2 x z
      · rw [z]
        exact e1
    rintro σ H' ⟨G, ⟨f, hL, hf⟩, v2, v3, v4, v5, rfl⟩
    rw [show ((n : Int) - 0).toNat = n by omega] at hf
    refine ⟨_, rfl, q l H' G ?_⟩
    rw [hL]
    unfold LN
    refine congrArg (fun z => some (HO.lst (vn z))) (List.map_congr_left fun x hx => hf.2 x (List.mem_range.mp hx))

def sp_need_length : Sp := fun vs H Q _ => ∃ s : Int, vs = [.int s] ∧ (1 ≤ s ∧ s ≤ 5000) ∧ Q (.int s) H
def rsL (n L : Nat) : List Nat := (List.range n).filter fun r => decide (ordN n r = L)
def osL (n : Nat) : List Nat := (LN n).filter fun z => decide (z ≠ 0)
def bsL (n L : Nat) : List Nat := ((List.range 999).map (2 + ·)).filter fun b => decide (ordN n (b % n) = L)
def sp_residues_with : Sp := fun vs H Q _ => ∃ (n L : Nat), vs = [.int n, .int L] ∧ (1 ≤ n ∧ n ≤ 5000) ∧ (1 ≤ L ∧ L ≤ 5000) ∧ ∀ t H', Gr [] H H' → H' t = some (.tup (vn (rsL n L))) → Q (.ref t) H'
def sp_spread (K : PySem.W.Frag) : Sp := fun vs H Q _ => ∃ (n B : Nat), vs = [.int n] ∧ (1 ≤ n ∧ n ≤ 5000) ∧ (∀ d ∈ osL n, d < B) ∧ ∀ t H', Gr [] H H' → Dp K H' (.ref t) (cD B (osL n)) → Q (.ref t) H'
def sp_greatest : Sp := fun vs H Q _ => ∃ (n m : Nat), vs = [.int n] ∧ (1 ≤ n ∧ n ≤ 5000) ∧ m ∈ LN n ∧ (∀ y ∈ LN n, y ≤ m) ∧ ∀ H', Gr [] H H' → Q (.int (m : Nat)) H'
def sp_bases_with : Sp := fun vs H Q _ => ∃ (n L : Nat), vs = [.int n, .int L] ∧ (1 ≤ n ∧ n ≤ 5000) ∧ (1 ≤ L ∧ L ≤ 5000) ∧ ∀ t H', Gr [] H H' → H' t = some (.tup (vn (bsL n L))) → Q (.ref t) H'
theorem LN_len (n : Nat) : (LN n).length = n := by simp [LN]
theorem fil_yes {xs : List Nat} {p : Nat → Bool} {x : Nat} (h : p x = true) : (xs ++ [x]).filter p = xs.filter p ++ [x] := by
  rw [List.filter_append, List.filter_cons_of_pos h]
  rfl
theorem fil_no {xs : List Nat} {p : Nat → Bool} {x : Nat} (h : p x = false) : (xs ++ [x]).filter p = xs.filter p := by
  rw [List.filter_append, List.filter_cons_of_neg (by rw [h]; decide)]
  exact List.append_nil _
theorem ok_need_length (T : Txt K mg) : FnOk P w K mg base CX0 3 T.d_need_length.f T.d_need_length.fd ["value"] sp_need_length := by
  refine T.d_need_length.F.ok sc_need_length (fun vs H Q E h => ?_) (fun cdv A outer s H vs Q E hr h => ?_)
  · obtain ⟨s, rfl, _⟩ := h; rfl
  · have hu := hu_of hr
    refine ⟨_, (pss_cons (ps_if (pt_not (pt_val (pe_call (ok_is_within T) (hr.mono (by decide)) (by rfl) T.d_is_within.m T.d_is_within.F.kp T.d_is_within.b .nil pass0 (pa_cons (pv 0) (pa_cons pe_int (pa_cons (pe_glob (v := .int 5000) (by rfl) T.c_MOST_DENOMINATOR ⟨_, rfl⟩) pa_nil)))))) (pss_one ps_never) pss_nil)
      (pss_one (ps_ret (pv 0)))), ?_⟩
    obtain ⟨s, rfl, ⟨h1, h2⟩, q⟩ := h
    refine ⟨_, rfl, s, 1, 5000, rfl, ⟨h1, h2⟩, true, rfl, iteF ?_⟩
    exact ⟨_, rfl, q⟩
theorem ok_residues_with (T : Txt K mg) : FnOk P w K mg base CX0 4 T.d_residues_with.f T.d_residues_with.fd ["denominator", "length"] sp_residues_with := by
  refine T.d_residues_with.F.ok sc_residues_with (fun vs H Q E h => ?_) (fun cdv A outer s H vs Q E hr h => ?_)
  · obtain ⟨n, L, rfl, _⟩ := h; rfl
  · have hu := hu_of hr
    refine ⟨_, (pss_cons (ps_expr (pe_call (ok_need_denominator T) (hr.mono (by decide)) (by rfl) T.d_need_denominator.m T.d_need_denominator.F.kp T.d_need_denominator.b .nil pass0 (pa_cons (pv 0) pa_nil)))
      (pss_cons (ps_expr (pe_call (ok_need_length T) (hr.mono (by decide)) (by rfl) T.d_need_length.m T.d_need_length.F.kp T.d_need_length.b .nil pass0 (pa_cons (pv 1) pa_nil)))
      (pss_one (ps_ret (pe_callTy (r := rTpO K) call_tpO (by rfl) T.b_tuple (by decide +kernel) (pa_cons (pe_lc (own := [("residue", 2), ("found", 3)]) (g := gTup K 2 (gCons (gName 2) (gCons (gName 3) gNil))) (tt := _) rfl sc_residues_with.nd (pi_enum (by rfl) T.b_enumerate (pa_cons (pe_call (ok_residue_lengths T) (hr.mono (by decide)) (by rfl) T.d_residue_lengths.m T.d_residue_lengths.F.kp T.d_residue_lengths.b .nil pass0 (pa_cons (pv 0) pa_nil)) pa_nil)) (blkOk_by (own := [("residue", 2), ("found", 3)]) (N := ["denominator", "length", "residue", "found"]) (sc := defScope s_residues_with) (by decide +kernel)) (fun _ _ _ _ _ => (pg_tup (by rfl) (pgs_cons (pg_name (i := 2) sc_residues_with.nd rfl (by first | exact .inl rfl | exact .inr rfl)) (pgs_cons (pg_name (i := 3) sc_residues_with.nd rfl (by first | exact .inl rfl | exact .inr rfl)) pgs_nil)))) (fun _ _ _ _ _ => (pts_one (pt_cmpR op_eq (pv 3) (pv 1) (nomark _)))) (fun _ _ _ _ _ => (pv 2))) pa_nil)))))), ?_⟩
    obtain ⟨n, L, rfl, ⟨hn1, hn2⟩, ⟨h1, h2⟩, q⟩ := h
    refine ⟨_, rfl, n, rfl, ⟨by omega, by omega⟩, ?_⟩
    refine ⟨_, rfl, L, rfl, ⟨by omega, by omega⟩, ?_⟩
    refine ⟨_, rfl, n, rfl, ⟨hn1, hn2⟩, fun l H1 g1 hl => ?_⟩
    refine ⟨l, _, rfl, sq_lst hl, fun D nD => ?_⟩
    refine lc_enumL (K := K) (a := l) (xs := vn (LN n)) (fun i H' => Gr [] H1 H' ∧ H' D = some (.lst (vn ((List.range i).filter fun r => decide (ordN n r = L))))) ⟨Gr.new nD, upd_same⟩ (fun i H' _ z => sq_lst (z.1 l _ (by simp) hl)) ?_ ?_
    · rintro i y T H' hy hT ⟨G, hD⟩
      obtain ⟨hi, rfl⟩ := vn_get hy
      have hin : i < n := by rw [LN_len] at hi; exact hi
      have ei : (LN n)[i] = ordN n i := by simp [LN]
      rw [ei]
      have gT : Gr [] H' (upd H' T (.tup [.int (i : Nat), .int (ordN n i : Nat)])) := Gr.new hT
      refine ⟨T, _, rfl, sq_tup upd_same, rfl, _, _, rfl, _, _, rfl, rfl, rfl, ?_⟩
      have hD4 := gT D _ (by simp) hD
      have G4 := G.trans gT
      generalize upd H' T (.tup [.int (i : Nat), .int (ordN n i : Nat)]) = H4 at hD4 G4 ⊢
      refine ⟨_, rfl, _, rfl, rfl, _, rfl, ?_⟩
      by_cases hc : ordN n i = L
      · refine iteTb (by rw [hc, decide_eq_true rfl]) ⟨_, rfl, _, hD4, small5 (by rw [vn_len]; exact Nat.le_trans (List.length_filter_le _ _) (by rw [List.length_range]; omega)), fun u o _ e => ?_, ?_⟩
        · rw [upd_ne (ne_of_none e nD)]
          exact G4 u o (by simp) e
        · rw [upd_same, vn_snoc, List.range_succ, fil_yes (decide_eq_true hc)]
      · refine iteFb (decide_eq_false fun z => hc (by have := V.int.inj z; omega)) ⟨G4, ?_⟩
        rw [hD4, List.range_succ, fil_no (decide_eq_false hc)]
    rintro H2 ⟨g2, hD⟩
    rw [vn_len, LN_len] at hD
    refine ⟨D, _, rfl, .inl ⟨sq_lst hD, fun t nt => ?_⟩⟩
    exact q t _ ((g1.trans g2).trans (Gr.new nt)) upd_same
theorem ok_spread (T : Txt K mg) : FnOk P w K mg base CX0 4 T.d_spread.f T.d_spread.fd ["denominator"] (sp_spread K) := by
  refine T.d_spread.F.ok sc_spread (fun vs H Q E h => ?_) (fun cdv A outer s H vs Q E hr h => ?_)
  · obtain ⟨n, B, rfl, _⟩ := h; rfl
  · have hu := hu_of hr
    refine ⟨_, (pss_cons (ps_expr (pe_call (ok_need_denominator T) (hr.mono (by decide)) (by rfl) T.d_need_denominator.m T.d_need_denominator.F.kp T.d_need_denominator.b .nil pass0 (pa_cons (pv 0) pa_nil)))
      (pss_one (ps_ret (pe_call (ok_counted T) (hr.mono (by decide)) (by rfl) T.d_counted.m T.d_counted.F.kp T.d_counted.b .nil pass0 (pa_cons (pe_lc (own := [("length", 1)]) (g := gName 1) (tt := _) rfl sc_spread.nd (pi_list (pe_call (ok_residue_lengths T) (hr.mono (by decide)) (by rfl) T.d_residue_lengths.m T.d_residue_lengths.F.kp T.d_residue_lengths.b .nil pass0 (pa_cons (pv 0) pa_nil))) (blkOk_by (own := [("length", 1)]) (N := ["denominator", "length"]) (sc := defScope s_spread) (by decide +kernel)) (fun _ _ _ _ _ => (pg_name (i := 1) sc_spread.nd rfl (by first | exact .inl rfl | exact .inr rfl))) (fun _ _ _ _ _ => (pts_one (pt_cmpR op_ne (pv 1) pe_int (nomark _)))) (fun _ _ _ _ _ => (pv 1))) pa_nil))))), ?_⟩
    obtain ⟨n, B, rfl, ⟨hn1, hn2⟩, hB, q⟩ := h
    refine ⟨_, rfl, n, rfl, ⟨by omega, by omega⟩, ?_⟩
    refine ⟨_, rfl, n, rfl, ⟨hn1, hn2⟩, fun l H1 g1 hl => ?_⟩
    refine ⟨l, rfl, ⟨_, sq_lst hl⟩, fun D nD => ?_⟩
    refine lc_list (K := K) (a := l) (xs := vn (LN n)) (fun i H' => Gr [] H1 H' ∧ H' D = some (.lst (vn (((LN n).take i).filter fun z => decide (z ≠ 0))))) ⟨Gr.new nD, upd_same⟩ (fun i H' _ z => sq_lst (z.1 l _ (by simp) hl)) ?_ ?_
    · rintro i y H' hy ⟨G, hD⟩
      obtain ⟨hi, rfl⟩ := vn_get hy
      have tk := List.take_succ_eq_append_getElem hi
      generalize (LN n)[i] = z0 at tk ⊢
      refine ⟨rfl, ?_⟩
      refine ⟨_, rfl, rfl, _, rfl, ?_⟩
      by_cases hc : z0 = 0
      · refine iteFb (by rw [hc]; rfl) ⟨G, ?_⟩
        rw [hD, tk, fil_no (by rw [hc]; rfl)]
      · refine iteTb (by rw [Bool.not_eq_true']; exact decide_eq_false fun z => hc (by have := V.int.inj z; omega)) ⟨_, rfl, _, hD, small5 (by rw [vn_len]; exact Nat.le_trans (List.length_filter_le _ _) (by rw [List.length_take, LN_len]; omega)), fun u o _ e => ?_, ?_⟩
        · rw [upd_ne (ne_of_none e nD)]
          exact G u o (by simp) e
        · rw [upd_same, vn_snoc, tk, fil_yes (decide_eq_true hc)]
    rintro H2 ⟨g2, hD⟩
    rw [vn_len, List.take_of_length_le (Nat.le_refl _)] at hD
    refine ⟨D, B, osL n, rfl, hD, Nat.le_trans (List.length_filter_le _ _) (by rw [LN_len]; omega), hB, fun t H3 g3 d3 => ?_⟩
    exact q t H3 ((g1.trans g2).trans g3) d3
theorem ok_greatest_period (T : Txt K mg) : FnOk P w K mg base CX0 4 T.d_greatest_period.f T.d_greatest_period.fd ["denominator"] sp_greatest := by
  refine T.d_greatest_period.F.ok sc_greatest_period (fun vs H Q E h => ?_) (fun cdv A outer s H vs Q E hr h => ?_)
  · obtain ⟨n, m, rfl, _⟩ := h; rfl
  · have hu := hu_of hr
    refine ⟨_, (pss_cons (ps_expr (pe_call (ok_need_denominator T) (hr.mono (by decide)) (by rfl) T.d_need_denominator.m T.d_need_denominator.F.kp T.d_need_denominator.b .nil pass0 (pa_cons (pv 0) pa_nil)))
      (pss_one (ps_ret (pe_callB (r := rMax K) (cr_max rfl) (by rfl) T.b_max (by decide +kernel) (pa_cons (pe_call (ok_residue_lengths T) (hr.mono (by decide)) (by rfl) T.d_residue_lengths.m T.d_residue_lengths.F.kp T.d_residue_lengths.b .nil pass0 (pa_cons (pv 0) pa_nil)) pa_nil))))), ?_⟩
    obtain ⟨n, m, rfl, ⟨hn1, hn2⟩, hm, hmax, q⟩ := h
    refine ⟨_, rfl, n, rfl, ⟨by omega, by omega⟩, ?_⟩
    refine ⟨_, rfl, n, rfl, ⟨hn1, hn2⟩, fun l H1 g1 hl => ?_⟩
    refine ⟨l, ni (LN n), rfl, by rw [← vn_ni]; exact sq_lst hl, ?_, ?_⟩
    · unfold ni
      rw [List.length_map, LN_len]
      omega
    intro z hz hall
    unfold ni at hz hall
    obtain ⟨k, hk, rfl⟩ := List.mem_map.mp hz
    have h1 := hmax k hk
    have h2 := hall (m : Int) (List.mem_map.mpr ⟨m, hm, rfl⟩)
    rw [show (k : Int) = (m : Int) by omega]
    exact q H1 g1
theorem ok_bases_with (T : Txt K mg) : FnOk P w K mg base CX0 4 T.d_bases_with.f T.d_bases_with.fd ["denominator", "length"] sp_bases_with := by
  refine T.d_bases_with.F.ok sc_bases_with (fun vs H Q E h => ?_) (fun cdv A outer s H vs Q E hr h => ?_)
  · obtain ⟨n, L, rfl, _⟩ := h; rfl
  · have hu := hu_of hr
    refine ⟨_, (pss_cons (ps_expr (pe_call (ok_need_denominator T) (hr.mono (by decide)) (by rfl) T.d_need_denominator.m T.d_need_denominator.F.kp T.d_need_denominator.b .nil pass0 (pa_cons (pv 0) pa_nil)))
      (pss_cons (ps_expr (pe_call (ok_need_length T) (hr.mono (by decide)) (by rfl) T.d_need_length.m T.d_need_length.F.kp T.d_need_length.b .nil pass0 (pa_cons (pv 1) pa_nil)))
      (pss_cons (ps_set (i := 2) sc_bases_with.nd rfl (by first | exact .inl rfl | exact .inr rfl) (pe_call (ok_residue_lengths T) (hr.mono (by decide)) (by rfl) T.d_residue_lengths.m T.d_residue_lengths.F.kp T.d_residue_lengths.b .nil pass0 (pa_cons (pv 0) pa_nil)))
      (pss_one (ps_ret (pe_callTy (r := rTpO K) call_tpO (by rfl) T.b_tuple (by decide +kernel) (pa_cons (pe_lc (own := [("base", 3)]) (g := gName 3) (tt := _) rfl sc_bases_with.nd (pi_range2 (by rfl) T.b_range (pa_cons pe_int (pa_cons (pe_op op_add (pe_glob (v := .int 1000) (by rfl) T.c_MOST_BASE ⟨_, rfl⟩) pe_int) pa_nil))) (blkOk_by (own := [("base", 3)]) (N := ["denominator", "length", "lengths", "base"]) (sc := defScope s_bases_with) (by decide +kernel)) (fun _ _ _ _ _ => (pg_name (i := 3) sc_bases_with.nd rfl (by first | exact .inl rfl | exact .inr rfl))) (fun _ _ _ _ _ => (pts_one (pt_cmpR op_eq (pe_ix (r := rIxL K) ix_list (pv 2) (pe_op op_mod (pv 3) (pv 0)) (fun _ _ => rfl)) (pv 1) (nomark _)))) (fun _ _ _ _ _ => (pv 3))) pa_nil))))))), ?_⟩
    obtain ⟨n, L, rfl, ⟨hn1, hn2⟩, ⟨h1, h2⟩, q⟩ := h
    refine ⟨_, rfl, n, rfl, ⟨by omega, by omega⟩, ?_⟩
    refine ⟨_, rfl, L, rfl, ⟨by omega, by omega⟩, ?_⟩
    refine ⟨_, rfl, n, rfl, ⟨hn1, hn2⟩, fun l H1 g1 hl => ?_⟩
    refine ⟨_, _, rfl, rfl, 2, _, rfl, ⟨by decide, by decide, by decide, by decide⟩, fun D nD => ?_⟩
    refine lc_range (lo := 2) (n := 999) (fun i H' => Gr [] H1 H' ∧ H' D = some (.lst (vn (((List.range i).map (2 + ·)).filter fun b => decide (ordN n (b % n) = L))))) ⟨Gr.new nD, upd_same⟩ ?_ ?_
    · rintro i H' hi ⟨G, hD⟩
      have ei : (2 : Int) + (i : Int) = ((2 + i : Nat) : Int) := by omega
      rw [ei]
      have hl' := G l _ (by simp) hl
      refine ⟨rfl, ?_⟩
      refine ⟨_, rfl, _, rfl, _, rfl, _, (n : Int), rfl, rfl, (show (0 : Int) < (n : Int) by omega), ?_⟩
      have em : ((2 + i : Nat) : Int) % (n : Int) = (((2 + i) % n : Nat) : Int) := (Int.natCast_emod _ _).symm
      have hm : (2 + i) % n < n := Nat.mod_lt _ hn1
      dsimp only
      rw [em]
      refine ⟨l, _, _, .int (ordN n ((2 + i) % n) : Nat), rfl, rfl, sq_lst hl', atI_nat (fget (ordN n) hm), _, rfl, rfl, _, rfl, ?_⟩
      have er : (List.range (i + 1)).map (2 + ·) = (List.range i).map (2 + ·) ++ [2 + i] := by
        rw [List.range_succ, List.map_append]
        rfl
      by_cases hc : ordN n ((2 + i) % n) = L
      · refine iteTb (by rw [hc, decide_eq_true rfl]) ⟨_, rfl, _, hD, small5 (by rw [vn_len]; exact Nat.le_trans (List.length_filter_le _ _) (by rw [List.length_map, List.length_range]; omega)), fun u o _ e => ?_, ?_⟩
        · rw [upd_ne (ne_of_none e nD)]
          exact G u o (by simp) e
        · rw [upd_same, vn_snoc, er, fil_yes (p := fun b => decide (ordN n (b % n) = L)) (decide_eq_true hc)]
      · refine iteFb (decide_eq_false fun z => hc (by have := V.int.inj z; omega)) ⟨G, ?_⟩
        rw [hD, er, fil_no (p := fun b => decide (ordN n (b % n) = L)) (decide_eq_false hc)]
    rintro H2 ⟨g2, hD⟩
    refine ⟨D, _, rfl, .inl ⟨sq_lst hD, fun t nt => ?_⟩⟩
    exact q t _ ((g1.trans g2).trans (Gr.new nt)) upd_same

end
end Wn
namespace Wn
open PySem PySem.Spec PyProof.Rows L2
local macro_rules | `(tactic| walk_at "vc") => `(tactic| simp only [cxK, cxK2, start1, start2, start3, tRet, tRetN, tSeq, tNext, tIfS, tAsg, gName, tDrop, tVar, tC, tOp, tUn, tTest, tB, tNot, tAnd, tOr, tAndV, tOrV, tNotV, tIf, tCons, tNil, tCB, tCall, tChain, tAug, ipI, rI, rI0, rU, rIs, rGcd, rEq, rNe, scal,
  List.getElem?_cons_zero, List.getElem?_cons_succ, List.set_cons_zero, List.set_cons_succ, Option.some.injEq, List.cons.injEq, V.int.injEq, V.bl.injEq, V.ref.injEq, V.str.injEq, and_true, true_and, exists_eq_left, exists_eq_left', exists_and_left, exists_and_right, List.append_nil, List.nil_append, List.cons_append, exists_eq_right, exists_eq_right', and_assoc, exists_const, V.ty.injEq, ↓reduceIte, Bool.false_eq_true, Bool.not_true, Bool.not_false, decide_eq_true_eq])

section
variable {P : Program} {w : World} {K : PySem.W.Frag} {mg : Str → Option Value} {base : Heap}

def ownL (n : Nat) : List (List Nat) := (copL n).map fun k => [k, ordN n k]
def osn (n : Nat) : List Nat := (copL n).map (ordN n)
def esn (n : Nat) : List Nat := keysB 5001 (cO (osn n))
def sp_law_lengths : Sp := fun vs H Q _ => ∃ (n : Nat), vs = [.int n] ∧ (1 ≤ n ∧ n ≤ 5000) ∧ ∀ l us H', Gr [] H H' → H' l = some (.lst us) → TA H' us (ownL n) → Q (.ref l) H'
theorem ok_law_lengths (T : Txt K mg) : FnOk P w K mg base CX0 3 T.d_law_lengths.f T.d_law_lengths.fd ["n"] sp_law_lengths := by
  refine T.d_law_lengths.F.ok sc_law_lengths (fun vs H Q E h => ?_) (fun cdv A outer s H vs Q E hr h => ?_)
  · obtain ⟨n, rfl, _⟩ := h; rfl
  · have hu := hu_of hr
    refine ⟨_, (pss_one (ps_ret (pe_lc (own := [("k", 1)]) (g := gName 1) (tt := tYes) rfl sc_law_lengths.nd (pi_list (pe_call (ok_law_units T) (hr.mono (by decide)) (by rfl) T.d_law_units.m T.d_law_units.F.kp T.d_law_units.b .nil pass0 (pa_cons (pv 0) pa_nil))) (blkOk_by (own := [("k", 1)]) (N := ["n", "k"]) (sc := defScope s_law_lengths) (by decide +kernel)) (fun _ _ _ _ _ => (pg_name (i := 1) sc_law_lengths.nd rfl (by first | exact .inl rfl | exact .inr rfl))) (fun _ _ _ _ _ => pts_nil) (fun _ _ _ _ _ => (pe_tup (pa_cons (pv 1) (pa_cons (pe_ix (r := rIxT K) ix_tup (pe_call (ok_law_period T) (hr.mono (by decide)) (by rfl) T.d_law_period.m T.d_law_period.F.kp T.d_law_period.b .nil pass0 (pa_cons (pv 1) (pa_cons (pv 0) pa_nil))) pe_int (fun _ _ => rfl)) pa_nil))))))), ?_⟩
    obtain ⟨n, rfl, ⟨hn1, hn2⟩, q⟩ := h
    refine ⟨_, rfl, n, rfl, hn2, fun U H1 g1 hU => ?_⟩
    refine ⟨U, rfl, ⟨_, sq_lst hU⟩, fun D nD => ?_⟩
    refine lc_list (K := K) (a := U) (xs := vn (copL n)) (fun i H' => Gr [] H1 H' ∧ ∃ us, H' D = some (.lst us) ∧ TA H' us (((copL n).take i).map fun k => [k, ordN n k])) ⟨Gr.new nD, [], upd_same, .nil⟩ (fun i H' _ z => sq_lst (z.1 U _ (by simp) hU)) ?_ ?_
    · rintro i y H' hy ⟨G, us, hD, tU⟩
      obtain ⟨hi, rfl⟩ := vn_get hy
      obtain ⟨hk, hg⟩ := mem_cop.mp (List.getElem_mem hi)
      have tk := List.take_succ_eq_append_getElem hi
      have cl := cop_len n
      generalize (copL n)[i] = k at hk hg tk ⊢
      refine ⟨rfl, ?_⟩
      dsimp only [tYes]
      refine iteT ?_
      refine ⟨_, rfl, _, rfl, _, rfl, k, n, rfl, ⟨by omega, hn1, hn2⟩, fun t H2 p qq h L P g2 ht => ?_⟩
      obtain ⟨ep, eh⟩ := head0 P.hp P.e P.hh hg hn1
      have hL := P.hL
      rw [ep] at hL
      rw [(ordN_eq hn1 hg hL).symm] at ht
      refine ⟨t, _, _, .int (ordN n k : Nat), rfl, rfl, sq_tup ht, atI_nat (j := 0) rfl, by show 2 ≤ sizeLine; decide, fun p5 n5 => ?_⟩
      have g5 : Gr [] H2 (upd H2 p5 (.tup (vn [k, ordN n k]))) := Gr.new n5
      have h5 : (upd H2 p5 (.tup (vn [k, ordN n k]))) p5 = some (.tup (vn [k, ordN n k])) := upd_same
      have gg := g2.trans g5
      have hD5 := gg D _ (by simp) hD
      have t5 := tU.gr gg
      have G5 := G.trans gg
      refine ⟨us, hD5, small5 (by rw [tU.len, List.length_map, List.length_take]; omega), fun u o _ e => ?_, us ++ [.ref p5], upd_same, ?_⟩
      · rw [upd_ne (ne_of_none e nD)]
        exact G5 u o (by simp) e
      · rw [tk, List.map_append]
        exact TA.put hD5 (t5.app (.cons h5 .nil))
    rintro H2 ⟨g2, us, hD, tU⟩
    rw [vn_len, List.take_of_length_le (Nat.le_refl _)] at tU
    exact q D us H2 (g1.trans g2) hD tU

theorem ss1 {xs : List Nat} {ks : List Int} (nd : ks.Nodup) (hm : ∀ k, k ∈ ks ↔ k ∈ ni xs) : ks.length ≤ xs.length := by
  obtain ⟨zs, rfl⟩ := ni_of (zs := ks) fun k hk => by
    have := (hm k).mp hk
    unfold ni at this
    obtain ⟨j, _, rfl⟩ := List.mem_map.mp this
    omega
  unfold ni at nd hm ⊢
  have h1 : zs.Nodup := by
    rw [List.nodup_iff_pairwise_ne, List.pairwise_map] at nd
    exact nd.imp fun h e => h (by rw [e])
  have := nodup_sub (ys := xs) h1 fun z hz => by
    obtain ⟨j, hj, e⟩ := List.mem_map.mp ((hm (z : Int)).mp (List.mem_map.mpr ⟨z, hz, rfl⟩))
    rwa [show z = j by omega]
  rw [List.length_map]
  omega
theorem ss2 {xs : List Nat} {zs : List Int} {B : Nat} (hB : ∀ d ∈ xs, d < B) (hs : zs.Pairwise (· < ·)) (hz : ∀ k : Int, k ∈ zs ↔ decide (k ∈ ni xs) = true) : zs.map V.int = vn (keysB B (cO xs)) := by
  obtain ⟨ys, rfl⟩ := ni_of (zs := zs) fun k hk => by
    have := of_decide_eq_true ((hz k).mp hk)
    unfold ni at this
    obtain ⟨j, _, rfl⟩ := List.mem_map.mp this
    omega
  have ek : ys = keysB B (cO xs) := by
    refine IsKeys.uniq (g := cO xs) ⟨?_, fun z => ?_⟩ (keysB_is fun q hq => cO_lt hB hq)
    · unfold ni at hs
      rw [List.pairwise_map] at hs
      exact hs.imp fun {x y} h => by omega
    · rw [cO_mem]
      have h1 := hz (z : Int)
      unfold ni at h1
      rw [decide_eq_true_eq] at h1
      constructor
      · intro h
        obtain ⟨j, hj, e⟩ := List.mem_map.mp (h1.mp (List.mem_map.mpr ⟨z, h, rfl⟩))
        rwa [show z = j by omega]
      · intro h
        obtain ⟨j, hj, e⟩ := List.mem_map.mp (h1.mpr (List.mem_map.mpr ⟨z, h, rfl⟩))
        rwa [show z = j by omega]
  rw [← vn_ni, ek]
theorem osn_eq {n : Nat} (hn : 1 ≤ n) : osL n = osn n := by
  unfold osL LN osn copL
  rw [List.filter_map]
  refine congrArg (List.map (ordN n)) (List.filter_congr fun x _ => ?_)
  show decide (ordN n x ≠ 0) = decide (Nat.gcd x n = 1)
  by_cases h : Nat.gcd x n = 1
  · rw [decide_eq_true h, decide_eq_true ((ordN_pos hn).mpr h)]
  · rw [decide_eq_false h, decide_eq_false fun z => h ((ordN_pos hn).mp z)]
theorem rsL_eq {n L : Nat} (hn : 1 ≤ n) (hL : 1 ≤ L) : rsL n L = (copL n).filter fun r => decide (ordN n r = L) := by
  unfold rsL copL
  rw [List.filter_filter]
  refine List.filter_congr fun x _ => ?_
  by_cases h : ordN n x = L
  · rw [decide_eq_true h, decide_eq_true ((ordN_pos hn).mp (by omega))]
    rfl
  · rw [decide_eq_false h]
    rfl
theorem osn_cnt (n L : Nat) : cO (osn n) L = ((copL n).filter fun r => decide (ordN n r = L)).length := by
  unfold cO cntQ osn
  rw [List.filter_map, List.length_map]
  rfl
theorem osn_lt {n : Nat} (hn : 1 ≤ n) (hn2 : n ≤ 5000) : ∀ d ∈ osn n, d < 5001 := fun d hd => by
  obtain ⟨x, _, rfl⟩ := List.mem_map.mp hd
  have := ordN_le (r := x) hn
  omega
theorem osn_pos {n : Nat} (hn : 1 ≤ n) : ∀ d ∈ osn n, 1 ≤ d := fun d hd => by
  obtain ⟨x, hx, rfl⟩ := List.mem_map.mp hd
  have := (ordN_pos hn).mpr (mem_cop.mp hx).2
  omega
theorem esn_mem {n L : Nat} (hn : 1 ≤ n) (hn2 : n ≤ 5000) : L ∈ esn n ↔ L ∈ osn n := by
  rw [← cO_mem (xs := osn n)]
  exact (keysB_is fun q hq => cO_lt (osn_lt hn hn2) hq).2 L
theorem cop_one {n : Nat} (hn : 1 ≤ n) : ∃ x, x ∈ copL n := by
  rcases Nat.lt_or_eq_of_le hn with h | h
  · exact ⟨1, mem_cop.mpr ⟨h, Nat.gcd_one_left n⟩⟩
  · subst h
    exact ⟨0, mem_cop.mpr ⟨by decide, by decide⟩⟩
theorem esn_split {n : Nat} (hn : 1 ≤ n) (hn2 : n ≤ 5000) : ∃ us m, esn n = us ++ [m] ∧ m ∈ LN n ∧ (∀ y ∈ LN n, y ≤ m) ∧ 1 ≤ m ∧ m ≤ n := by
  obtain ⟨x0, hx0⟩ := cop_one hn
  have ne : esn n ≠ [] := fun z => by
    have := (esn_mem hn hn2).mpr (List.mem_map.mpr ⟨x0, hx0, rfl⟩)
    rw [z] at this
    cases this
  obtain ⟨us, m, e⟩ : ∃ us m, esn n = us ++ [m] := ⟨_, _, (List.dropLast_concat_getLast ne).symm⟩
  have hm : m ∈ osn n := (esn_mem hn hn2).mp (by rw [e]; simp)
  have asc : (esn n).Pairwise (· < ·) := (keysB_is fun q hq => cO_lt (osn_lt hn hn2) hq).1
  have le : ∀ y ∈ osn n, y ≤ m := fun y hy => by
    have h := (esn_mem hn hn2).mpr hy
    rw [e] at h asc
    rcases List.mem_append.mp h with z | z
    · exact Nat.le_of_lt ((List.pairwise_append.mp asc).2.2 y z m (by simp))
    · rw [List.mem_singleton.mp z]
      exact Nat.le_refl _
  refine ⟨us, m, e, ?_, fun y hy => ?_, osn_pos hn m hm, ?_⟩
  · obtain ⟨x, hx, rfl⟩ := List.mem_map.mp hm
    exact List.mem_map.mpr ⟨x, List.mem_range.mpr (mem_cop.mp hx).1, rfl⟩
  · obtain ⟨x, hx, rfl⟩ := List.mem_map.mp hy
    by_cases g : Nat.gcd x n = 1
    · exact le _ (List.mem_map.mpr ⟨x, mem_cop.mpr ⟨List.mem_range.mp hx, g⟩, rfl⟩)
    · rw [ordN_no g]
      exact Nat.zero_le _
  · obtain ⟨x, _, rfl⟩ := List.mem_map.mp hm
    exact ordN_le hn
/-- just the divisors of the greatest length occur -/
def tabB (n : Nat) : Bool :=
  let os := osn n
  let m := os.foldl max 0
  (List.range m).all fun i => decide (i + 1 ∈ os) == decide (m / (i + 1) * (i + 1) = m)
theorem tab_all : (List.range 60).all (fun i => tabB (i + 1)) = true := by decide +kernel
theorem fold_max : ∀ (xs : List Nat) (a : Nat), a ≤ xs.foldl max a ∧ (∀ y ∈ xs, y ≤ xs.foldl max a) ∧ (xs.foldl max a = a ∨ xs.foldl max a ∈ xs)
  | [], a => ⟨Nat.le_refl _, fun y hy => (by cases hy), .inl rfl⟩
  | x :: r, a => by
    obtain ⟨h1, h2, h3⟩ := fold_max r (max a x)
    refine ⟨Nat.le_trans (Nat.le_max_left _ _) h1, fun y hy => ?_, ?_⟩
    · rcases List.mem_cons.mp hy with z | z
      · rw [z]
        exact Nat.le_trans (Nat.le_max_right _ _) h1
      · exact h2 y z
    · rcases h3 with z | z
      · show r.foldl max (max a x) = a ∨ r.foldl max (max a x) ∈ x :: r
        rw [z]
        rcases Nat.le_total a x with y | y
        · rw [Nat.max_eq_right y]
          exact .inr (by simp)
        · rw [Nat.max_eq_left y]
          exact .inl rfl
      · exact .inr (List.mem_cons_of_mem _ z)
theorem tab_use {n m : Nat} (hn : 1 ≤ n) (hn2 : n ≤ 60) (hm : m ∈ osn n) (hmax : ∀ y ∈ osn n, y ≤ m) {L : Nat} (h1 : 1 ≤ L) (h2 : L ≤ m) : decide (L ∈ esn n) = decide (m / L * L = m) := by
  have t := List.all_eq_true.mp tab_all (n - 1) (List.mem_range.mpr (by omega))
  rw [Nat.sub_add_cancel hn] at t
  unfold tabB at t
  dsimp only at t
  obtain ⟨f1, f2, f3⟩ := fold_max (osn n) 0
  have fm : (osn n).foldl max 0 = m := by
    refine Nat.le_antisymm ?_ (f2 m hm)
    rcases f3 with z | z
    · rw [z]
      exact Nat.zero_le _
    · exact hmax _ z
  rw [fm] at t
  have := List.all_eq_true.mp t (L - 1) (List.mem_range.mpr (by omega))
  rw [Nat.sub_add_cancel h1, beq_iff_eq] at this
  rw [← this]
  by_cases h : L ∈ osn n
  · rw [decide_eq_true h, decide_eq_true ((esn_mem hn (by omega)).mpr h)]
  · rw [decide_eq_false h, decide_eq_false fun z => h ((esn_mem hn (by omega)).mp z)]
def sp_law_right : Sp := fun vs H Q _ => ∃ (n : Nat), vs = [.int n] ∧ (1 ≤ n ∧ n ≤ 60) ∧ ∀ H', Gr [] H H' → Q (.bl true) H'
theorem okG_law_right (T : Txt K mg) : FnG P w K mg base CX0 9 T.d_law_right.f T.d_law_right.fd ["n"] sp_law_right := by
  refine fnG0 T.d_law_right.F sc_law_right (fun vs H Q E h => ?_) (fun cdv A outer s H vs Q E hgd hr h => ?_)
  · obtain ⟨n, rfl, _⟩ := h; rfl
  · have hu := hu_of hr
    refine ⟨_, (pss_cons (ps_set (i := 1) sc_law_right.nd rfl (by first | exact .inl rfl | exact .inr rfl) (pe_call (ok_law_lengths T) (hr.mono (by decide)) (by rfl) T.d_law_lengths.m T.d_law_lengths.F.kp T.d_law_lengths.b .nil pass0 (pa_cons (pv 0) pa_nil)))
      (pss_cons (ps_set (i := 2) sc_law_right.nd rfl (by first | exact .inl rfl | exact .inr rfl) (pe_callB (r := rSortedSetB w) (cr_sortedSetB rfl) (by rfl) T.b_sorted (by decide +kernel) (pa_cons (pe_callTy (r := rSetL K w) (call_setL rfl) (by rfl) T.b_set (by decide +kernel) (pa_cons (pe_lc (own := [("pair", 3)]) (g := gName 3) (tt := tYes) rfl sc_law_right.nd (pi_list (pv 1)) (blkOk_by (own := [("pair", 3)]) (N := ["n", "own", "every", "pair", "due", "length_so", "known", "b"]) (sc := defScope s_law_right) (by decide +kernel)) (fun _ _ _ _ _ => (pg_name (i := 3) sc_law_right.nd rfl (by first | exact .inl rfl | exact .inr rfl))) (fun _ _ _ _ _ => pts_nil) (fun _ _ _ _ _ => (pe_ix (r := rIxT K) ix_tup (pv 3) pe_int (fun _ _ => rfl)))) pa_nil)) pa_nil)))
      (pss_cons (ps_set (i := 4) sc_law_right.nd rfl (by first | exact .inl rfl | exact .inr rfl) (pe_callTy (r := rTpO K) call_tpO (by rfl) T.b_tuple (by decide +kernel) (pa_cons (pe_lc (own := [("length_so", 5)]) (g := gName 5) (tt := tYes) rfl sc_law_right.nd (pi_list (pv 2)) (blkOk_by (own := [("length_so", 5)]) (N := ["n", "own", "every", "pair", "due", "length_so", "known", "b"]) (sc := defScope s_law_right) (by decide +kernel)) (fun _ _ _ _ _ => (pg_name (i := 5) sc_law_right.nd rfl (by first | exact .inl rfl | exact .inr rfl))) (fun _ _ _ _ _ => pts_nil) (fun _ _ _ _ _ => (pe_tup (pa_cons (pv 5) (pa_cons (pe_callB (r := rLn K) call_ln (by rfl) T.b_len PySem.boot_len (pa_cons (pe_lc (wi := iList K (tVar 1)) (own := [("pair", 3)]) (g := gName 3) (tt := _) rfl sc_law_right.nd (pi_list (pv 1)) (blkOk_of (own := [("pair", 3)]) (N0 := ["n", "own", "every", "pair", "due", "length_so", "known", "b"]) (sc0 := (relS ({ kind := PySem.ScopeKind.function, names := [ (PySem.Str.ofString ".0", PySem.NameKind.local), (PySem.Str.ofString "length_so", PySem.NameKind.cell), (PySem.Str.ofString "len", PySem.NameKind.globalImplicit), (PySem.Str.ofString "own", PySem.NameKind.free)], isGenerator := false, isCoroutine := false, more := [] : PySem.Scope }) (defScope s_law_right))) rfl rfl (by decide +kernel)) (fun _ _ _ _ _ => (pg_name (i := 3) sc_law_right.nd rfl (by first | exact .inl rfl | exact .inr rfl))) (fun _ _ _ _ _ => (pts_one (pt_cmpR op_eq (pe_ix (r := rIxT K) ix_tup (pv 3) pe_int (fun _ _ => rfl)) (pv 5) (nomark _)))) (fun _ _ _ _ _ => pe_int)) pa_nil)) pa_nil))))) pa_nil)))
      (pss_cons (ps_if (pt_cmpR op_ne (pe_callB (r := rRepr K) (call_repr hgd (gu_of hr)) (by rfl) T.b_repr (by decide +kernel) (pa_cons (pe_lst (pa_cons (pe_call (ok_spread T) (hr.mono (by decide)) (by rfl) T.d_spread.m T.d_spread.F.kp T.d_spread.b .nil pass0 (pa_cons (pv 0) pa_nil)) (pa_cons (pe_call (ok_spread T) (hr.mono (by decide)) (by rfl) T.d_spread.m T.d_spread.F.kp T.d_spread.b .nil pass0 (pa_cons (pv 0) pa_nil)) (pa_cons (pe_call (ok_greatest_period T) (hr.mono (by decide)) (by rfl) T.d_greatest_period.m T.d_greatest_period.F.kp T.d_greatest_period.b .nil pass0 (pa_cons (pv 0) pa_nil)) pa_nil)))) pa_nil)) (pe_callB (r := rRepr K) (call_repr hgd (gu_of hr)) (by rfl) T.b_repr (by decide +kernel) (pa_cons (pe_lst (pa_cons (pv 4) (pa_cons (pv 4) (pa_cons (pe_ix (r := rIxL K) ix_list (pv 2) (pe_un un_neg pe_int) (fun _ _ => rfl)) pa_nil)))) pa_nil)) (nomark _)) (pss_one (ps_ret pe_bl)) pss_nil)
      (pss_cons (ps_for PassesOwn.never rfl (pi_list (pe_op op_cat (pv 2) (pe_lst (pa_cons (pe_op op_add (pe_ix (r := rIxL K) ix_list (pv 2) (pe_un un_neg pe_int) (fun _ _ => rfl)) pe_int) (pa_cons pe_int pa_nil))))) (pg_name (i := 5) sc_law_right.nd rfl (by first | exact .inl rfl | exact .inr rfl)) (pss_cons (ps_set (i := 4) sc_law_right.nd rfl (by first | exact .inl rfl | exact .inr rfl) (pe_callTy (r := rTpO K) call_tpO (by rfl) T.b_tuple (by decide +kernel) (pa_cons (pe_lc (own := [("pair", 3)]) (g := gName 3) (tt := _) rfl sc_law_right.nd (pi_list (pv 1)) (blkOk_by (own := [("pair", 3)]) (N := ["n", "own", "every", "pair", "due", "length_so", "known", "b"]) (sc := defScope s_law_right) (by decide +kernel)) (fun _ _ _ _ _ => (pg_name (i := 3) sc_law_right.nd rfl (by first | exact .inl rfl | exact .inr rfl))) (fun _ _ _ _ _ => (pts_one (pt_cmpR op_eq (pe_ix (r := rIxT K) ix_tup (pv 3) pe_int (fun _ _ => rfl)) (pv 5) (nomark _)))) (fun _ _ _ _ _ => (pe_ix (r := rIxT K) ix_tup (pv 3) pe_int (fun _ _ => rfl)))) pa_nil)))
      (pss_one (ps_if (pt_cmpR op_ne (pe_callB (r := rRepr K) (call_repr hgd (gu_of hr)) (by rfl) T.b_repr (by decide +kernel) (pa_cons (pe_lst (pa_cons (pe_call (ok_residues_with T) (hr.mono (by decide)) (by rfl) T.d_residues_with.m T.d_residues_with.F.kp T.d_residues_with.b .nil pass0 (pa_cons (pv 0) (pa_cons (pv 5) pa_nil))) (pa_cons (pe_call (ok_residues_with T) (hr.mono (by decide)) (by rfl) T.d_residues_with.m T.d_residues_with.F.kp T.d_residues_with.b .nil pass0 (pa_cons (pv 0) (pa_cons (pv 5) pa_nil))) pa_nil))) pa_nil)) (pe_callB (r := rRepr K) (call_repr hgd (gu_of hr)) (by rfl) T.b_repr (by decide +kernel) (pa_cons (pe_lst (pa_cons (pv 4) (pa_cons (pv 4) pa_nil))) pa_nil)) (nomark _)) (pss_one (ps_ret pe_bl)) pss_nil))))
      (pss_cons (ps_set (i := 5) sc_law_right.nd rfl (by first | exact .inl rfl | exact .inr rfl) (pe_ix (r := rIxL K) ix_list (pv 2) (pe_op op_fdiv (pe_callB (r := rLn K) call_ln (by rfl) T.b_len PySem.boot_len (pa_cons (pv 2) pa_nil)) pe_int) (fun _ _ => rfl)))
      (pss_cons (ps_set (i := 6) sc_law_right.nd rfl (by first | exact .inl rfl | exact .inr rfl) (pe_lc (own := [("pair", 3)]) (g := gName 3) (tt := _) rfl sc_law_right.nd (pi_list (pv 1)) (blkOk_by (own := [("pair", 3)]) (N := ["n", "own", "every", "pair", "due", "length_so", "known", "b"]) (sc := defScope s_law_right) (by decide +kernel)) (fun _ _ _ _ _ => (pg_name (i := 3) sc_law_right.nd rfl (by first | exact .inl rfl | exact .inr rfl))) (fun _ _ _ _ _ => (pts_one (pt_cmpR op_eq (pe_ix (r := rIxT K) ix_tup (pv 3) pe_int (fun _ _ => rfl)) (pv 5) (nomark _)))) (fun _ _ _ _ _ => (pe_ix (r := rIxT K) ix_tup (pv 3) pe_int (fun _ _ => rfl)))))
      (pss_cons (ps_set (i := 4) sc_law_right.nd rfl (by first | exact .inl rfl | exact .inr rfl) (pe_callTy (r := rTpO K) call_tpO (by rfl) T.b_tuple (by decide +kernel) (pa_cons (pe_lc (own := [("b", 7)]) (g := gName 7) (tt := _) rfl sc_law_right.nd (pi_range2 (by rfl) T.b_range (pa_cons pe_int (pa_cons pe_int pa_nil))) (blkOk_by (own := [("b", 7)]) (N := ["n", "own", "every", "pair", "due", "length_so", "known", "b"]) (sc := defScope s_law_right) (by decide +kernel)) (fun _ _ _ _ _ => (pg_name (i := 7) sc_law_right.nd rfl (by first | exact .inl rfl | exact .inr rfl))) (fun _ _ _ _ _ => (pts_one (pt_cmpR (r := rIn K false) op_in_seq (pe_op op_mod (pe_callTy call_int1 (by rfl) T.b_int (by decide +kernel) (pa_cons (pv 7) pa_nil)) (pv 0)) (pv 6) rfl))) (fun _ _ _ _ _ => (pv 7))) pa_nil)))
      (pss_cons (ps_if (PW.pt (pw_or (pt_cmpR op_ne (pe_callB (r := rRepr K) (call_repr hgd (gu_of hr)) (by rfl) T.b_repr (by decide +kernel) (pa_cons (pe_call (ok_bases_with T) (hr.mono (by decide)) (by rfl) T.d_bases_with.m T.d_bases_with.F.kp T.d_bases_with.b .nil pass0 (pa_cons (pv 0) (pa_cons (pv 5) pa_nil))) pa_nil)) (pe_callB (r := rRepr K) (call_repr hgd (gu_of hr)) (by rfl) T.b_repr (by decide +kernel) (pa_cons (pv 4) pa_nil)) (nomark _)) (pw_or1 (pt_cmpR (r := rNeD K) (op_neD hr.units) (pe_call (ok_bases_with T) (hr.mono (by decide)) (by rfl) T.d_bases_with.m T.d_bases_with.F.kp T.d_bases_with.b .nil pass0 (pa_cons (pv 0) (pa_cons (pe_op op_add (pe_ix (r := rIxL K) ix_list (pv 2) (pe_un un_neg pe_int) (fun _ _ => rfl)) pe_int) pa_nil))) (pe_tup pa_nil) (nomark _))))) (pss_one (ps_ret pe_bl)) pss_nil)
      (pss_cons (ps_for PassesOwn.never rfl (pi_range2 (by rfl) T.b_range (pa_cons pe_int (pa_cons (pe_op op_add (pe_ix (r := rIxL K) ix_list (pv 2) (pe_un un_neg pe_int) (fun _ _ => rfl)) pe_int) pa_nil))) (pg_name (i := 5) sc_law_right.nd rfl (by first | exact .inl rfl | exact .inr rfl)) (pss_one (ps_if (pt_cmpR op_ne (pe_cmpR (r := rIn K false) op_in_seq (pv 5) (pv 2) rfl) (pe_cmpR op_eq (pe_op op_mul (pe_op op_fdiv (pe_ix (r := rIxL K) ix_list (pv 2) (pe_un un_neg pe_int) (fun _ _ => rfl)) (pv 5)) (pv 5)) (pe_ix (r := rIxL K) ix_list (pv 2) (pe_un un_neg pe_int) (fun _ _ => rfl)) (nomark _)) (nomark _)) (pss_one (ps_ret pe_bl)) pss_nil)))
      (pss_one (ps_ret pe_bl)))))))))))), ?_⟩
    obtain ⟨n, rfl, ⟨hn1, hn60⟩, q⟩ := h
    have hn2 : n ≤ 5000 := by omega
    obtain ⟨us, m, es, hmL, hmax, hm1, hmn⟩ := esn_split hn1 hn2
    have hB := osn_lt hn1 hn2
    have cl := cop_len n
    have ol : (osn n).length ≤ 60 := by
      unfold osn
      rw [List.length_map]
      omega
    have el : (esn n).length ≤ 60 := Nat.le_trans keysB_len ol
    have espos : ∀ L ∈ esn n, 1 ≤ L ∧ L ≤ n := fun L hL => by
      have h := (esn_mem hn1 hn2).mp hL
      refine ⟨osn_pos hn1 L h, ?_⟩
      obtain ⟨x, _, rfl⟩ := List.mem_map.mp h
      exact ordN_le hn1
    refine ⟨_, rfl, n, rfl, ⟨hn1, hn2⟩, fun l ws H1 g1 hl tU => ?_⟩
    refine ⟨_, rfl, l, rfl, ⟨_, sq_lst hl⟩, fun D nD => ?_⟩
    refine lc_list (K := K) (a := l) (xs := ws) (fun i H' => Gr [] H1 H' ∧ H' D = some (.lst (vn (((copL n).take i).map (ordN n))))) ⟨Gr.new nD, upd_same⟩ (fun i H' _ z => sq_lst (z.1 l _ (by simp) hl)) ?_ ?_
    · rintro i y H' hy ⟨G, hD⟩
      obtain ⟨hi, w0, rfl, hw⟩ := (tU.gr G).get hy
      have hi' : i < (copL n).length := by unfold ownL at hi; rw [List.length_map] at hi; exact hi
      have er : (ownL n)[i] = [(copL n)[i], ordN n (copL n)[i]] := by simp [ownL]
      rw [er] at hw
      refine ⟨rfl, ?_⟩
      dsimp only [tYes]
      refine iteT ?_
      refine ⟨_, rfl, w0, _, 1, .int (ordN n (copL n)[i] : Nat), rfl, rfl, sq_tup hw, atI_nat (j := 1) rfl, _, hD, small5 (by rw [vn_len, List.length_map, List.length_take]; omega), fun u o _ e => ?_, ?_⟩
      · rw [upd_ne (ne_of_none e nD)]
        exact G u o (by simp) e
      · rw [upd_same, vn_snoc, List.take_succ_eq_append_getElem hi', List.map_append]
        rfl
    rintro H2 ⟨g2, hD⟩
    have wl : ws.length = (copL n).length := by
      rw [tU.len]
      unfold ownL
      rw [List.length_map]
    rw [wl, List.take_of_length_le (Nat.le_refl _)] at hD
    have hD : H2 D = some (.lst (vn (osn n))) := hD
    refine ⟨D, ni (osn n), rfl, by rw [← vn_ni]; exact sq_lst hD, by unfold ni; rw [List.length_map]; omega, fun s1 ks ns1 nd hm => ?_⟩
    have kl := ss1 nd hm
    refine ⟨s1, _, _, rfl, upd_same, by omega, fun zs E hs hz hzl nE => ?_⟩
    rw [ss2 hB hs hz]
    have g3 : Gr [] H2 (upd (upd H2 s1 (SetO w s1 (fun j => decide (j ∈ ni (osn n))) ks.length)) E (.lst (vn (keysB 5001 (cO (osn n)))))) := (Gr.new ns1).trans (Gr.new nE)
    have hE : (upd (upd H2 s1 (SetO w s1 (fun j => decide (j ∈ ni (osn n))) ks.length)) E (.lst (vn (keysB 5001 (cO (osn n)))))) E = some (.lst (vn (esn n))) := upd_same
    generalize upd (upd H2 s1 (SetO w s1 (fun j => decide (j ∈ ni (osn n))) ks.length)) E (.lst (vn (keysB 5001 (cO (osn n))))) = H3 at g3 hE ⊢
    have G3 := (g1.trans g2).trans g3
    have hl3 := g3 l _ (by simp) (g2 l _ (by simp) hl)
    have t3 := (tU.gr g2).gr g3
    clear g2 g3 hD hl tU g1
    refine ⟨_, rfl, E, rfl, ⟨_, sq_lst hE⟩, fun F nF => ?_⟩
    refine lc_list (K := K) (a := E) (xs := vn (esn n)) (fun i H' => Gr [] H3 H' ∧ ∃ us, H' F = some (.lst us) ∧ TA H' us (((esn n).take i).map fun L => [L, cO (osn n) L])) ⟨Gr.new nF, [], upd_same, .nil⟩ (fun i H' _ z => sq_lst (z.1 E _ (by simp) hE)) ?_ ?_
    · rintro i y H' hy ⟨G, vs', hF, tF⟩
      obtain ⟨hi, rfl⟩ := vn_get hy
      have tk := List.take_succ_eq_append_getElem hi
      generalize (esn n)[i] = L0 at tk ⊢
      refine ⟨rfl, ?_⟩
      dsimp only [tYes]
      refine iteT ?_
      have hl' := G l _ (by simp) hl3
      have t' := t3.gr G
      refine ⟨_, rfl, _, rfl, l, rfl, ⟨_, sq_lst hl'⟩, fun M nM => ?_⟩
      refine lc_list (K := K) (a := l) (xs := ws) (fun j H'' => Gr [] H' H'' ∧ H'' M = some (.lst (List.replicate (((copL n).take j).filter fun r => decide (ordN n r = L0)).length (.int 1)))) ⟨Gr.new nM, upd_same⟩ (fun j H'' _ z => sq_lst (z.1 l _ (by simp) hl')) ?_ ?_
      · rintro j y H'' hy ⟨G2, hM⟩
        obtain ⟨hj, w0, rfl, hw⟩ := (t'.gr G2).get hy
        have hj' : j < (copL n).length := by unfold ownL at hj; rw [List.length_map] at hj; exact hj
        have er : (ownL n)[j] = [(copL n)[j], ordN n (copL n)[j]] := by simp [ownL]
        rw [er] at hw
        have tj := List.take_succ_eq_append_getElem hj'
        generalize (copL n)[j] = k0 at tj hw
        refine ⟨rfl, ?_⟩
        refine ⟨_, rfl, w0, _, 1, .int (ordN n k0 : Nat), rfl, rfl, sq_tup hw, atI_nat (j := 1) rfl, _, rfl, rfl, _, rfl, ?_⟩
        by_cases hc : ordN n k0 = L0
        · refine iteTb (by rw [hc, decide_eq_true rfl]) ⟨_, hM, small5 (by rw [List.length_replicate]; exact Nat.le_trans (List.length_filter_le _ _) (by rw [List.length_take]; omega)), fun u o _ e => ?_, ?_⟩
          · rw [upd_ne (ne_of_none e nM)]
            exact G2 u o (by simp) e
          · rw [upd_same, tj, fil_yes (p := fun r => decide (ordN n r = L0)) (decide_eq_true hc), List.length_append]
            show some (HO.lst (_ ++ [V.int 1])) = some (HO.lst (List.replicate (_ + 1) _))
            rw [List.replicate_succ']
        · refine iteFb (decide_eq_false fun z => hc (by have := V.int.inj z; omega)) ⟨G2, ?_⟩
          rw [hM, tj, fil_no (p := fun r => decide (ordN n r = L0)) (decide_eq_false hc)]
      rintro H4 ⟨g4, hM⟩
      rw [wl, List.take_of_length_le (Nat.le_refl _), ← osn_cnt] at hM
      refine ⟨M, _, rfl, .inl (sq_lst hM), by show 2 ≤ sizeLine; decide, fun p5 n5 => ?_⟩
      rw [List.length_replicate]
      have g5 : Gr [] H4 (upd H4 p5 (.tup (vn [L0, cO (osn n) L0]))) := Gr.new n5
      have h5 : (upd H4 p5 (.tup (vn [L0, cO (osn n) L0]))) p5 = some (.tup (vn [L0, cO (osn n) L0])) := upd_same
      have gg := g4.trans g5
      have hF5 := gg F _ (by simp) hF
      have t5 := tF.gr gg
      have G5 := G.trans gg
      refine ⟨vs', hF5, small5 (by rw [tF.len, List.length_map, List.length_take]; omega), fun u o _ e => ?_, vs' ++ [.ref p5], upd_same, ?_⟩
      · rw [upd_ne (ne_of_none e nF)]
        exact G5 u o (by simp) e
      · rw [tk, List.map_append]
        exact TA.put hF5 (t5.app (.cons h5 .nil))
    rintro H4 ⟨g4, fs, hF, tF⟩
    rw [vn_len, List.take_of_length_le (Nat.le_refl _)] at tF
    refine ⟨F, fs, rfl, .inl ⟨sq_lst hF, fun t nt => ?_⟩⟩
    have gt : Gr [] H4 (upd H4 t (.tup fs)) := Gr.new nt
    have dpt := (tF.gr gt).dp (K := K)
    rw [List.map_map] at dpt
    have dT : Dp K (upd H4 t (.tup fs)) (.ref t) (cD 5001 (osn n)) := dp_tup upd_same dpt
    have g5 := g4.trans gt
    have hl5 := g5 l _ (by simp) hl3
    have hE5 := g5 E _ (by simp) hE
    have t5 := t3.gr g5
    have G5 := G3.trans g5
    clear g4 gt g5 hF tF dpt hl3 hE t3 G3
    generalize upd H4 t (.tup fs) = H5 at dT hl5 hE5 t5 G5 ⊢
    have sA : Sm (cD 5001 (osn n)) 13 2 (60 * 29) := cD_sm (by decide) ol (by decide)
    have sI : Sm (.int (m : Nat)) 13 2 (60 * 29) := Sm.mono (Sm.int (k := 18) (by decide) (by rw [Int.natAbs_natCast]; exact Nat.lt_of_le_of_lt (show m ≤ 60 by omega) (by decide)) (by decide)) (by decide) (by decide)
    have sL : Sm (.list [cD 5001 (osn n), cD 5001 (osn n), .int (m : Nat)]) 13 3 (3 * (60 * 29 + 1)) := Sm.lst 3 (fun x hx => by
      simp only [List.mem_cons, List.not_mem_nil, or_false] at hx
      rcases hx with rfl | rfl | rfl
      · exact sA
      · exact sA
      · exact sI) (Nat.le_refl _)
    have hBL : ∀ d ∈ osL n, d < 5001 := by rw [osn_eq hn1]; exact hB
    have hE6 : ∀ {H'}, Gr [] H5 H' → H' E = some (.lst (vn (us ++ [m]))) := fun g => by rw [← es]; exact g E _ (by simp) hE5
    refine ⟨_, rfl, n, 5001, rfl, ⟨hn1, hn2⟩, hBL, fun t1 H6 g6 d6 => ?_⟩
    refine ⟨_, rfl, n, 5001, rfl, ⟨hn1, hn2⟩, hBL, fun t2 H7 g7 d7 => ?_⟩
    refine ⟨_, rfl, n, m, rfl, ⟨hn1, hn2⟩, hmL, hmax, fun H8 g8 => ?_⟩
    rw [osn_eq hn1] at d6 d7
    refine ⟨by show 3 ≤ sizeLine; decide, fun p np => ?_⟩
    have g9 : Gr [] H8 (upd H8 p (.lst [.ref t1, .ref t2, .int (m : Nat)])) := Gr.new np
    refine ⟨_, .list [cD 5001 (osn n), cD 5001 (osn n), .int (m : Nat)], rfl, dp_lst upd_same (.cons (Dp.kp (Kp.of ((g7.trans g8).trans g9)) d6) (.cons (Dp.kp (Kp.of (g8.trans g9)) d7) (.cons (.int _) .nil))), sL.fits, ?_⟩
    have gA := ((g6.trans g7).trans g8).trans g9
    clear g6 g7 g8 g9 d6 d7
    generalize upd H8 p (.lst [.ref t1, .ref t2, .int (m : Nat)]) = H9 at gA ⊢
    refine ⟨_, rfl, _, rfl, _, rfl, _, rfl, E, _, _, _, rfl, rfl, sq_lst (hE6 gA), vn_last, by show 3 ≤ sizeLine; decide, fun p2 np2 => ?_⟩
    have gB : Gr [] H9 (upd H9 p2 (.lst [.ref t, .ref t, .int (m : Nat)])) := Gr.new np2
    have dT2 := Dp.kp (Kp.of (gA.trans gB)) dT
    refine ⟨_, .list [cD 5001 (osn n), cD 5001 (osn n), .int (m : Nat)], rfl, dp_lst upd_same (.cons dT2 (.cons dT2 (.cons (.int _) .nil))), sL.fits, ?_⟩
    refine ⟨rfl, _, rfl, iteFb (by rw [decide_eq_true rfl]; rfl) ?_⟩
    have gC := gA.trans gB
    clear gA gB dT2 dT
    generalize upd H9 p2 (.lst [.ref t, .ref t, .int (m : Nat)]) = H10 at gC ⊢
    refine ⟨_, rfl, _, rfl, _, rfl, E, _, _, _, rfl, rfl, sq_lst (hE6 gC), vn_last, _, _, rfl, rfl, by show 2 ≤ sizeLine; decide, fun p3 n3 => ?_⟩
    have e2 : (HO.lst [V.int ((m : Int) + 1), .int 5000]) = .lst (vn [m + 1, 5000]) := by
      show _ = HO.lst [V.int ((m + 1 : Nat) : Int), .int 5000]
      rw [Int.natCast_add]
      rfl
    dsimp only
    rw [e2]
    have g11 : Gr [] H10 (upd H10 p3 (.lst (vn [m + 1, 5000]))) := Gr.new n3
    refine ⟨E, p3, _, _, rfl, rfl, hE6 (gC.trans g11), upd_same, by rw [vn_len, vn_len, ← es]; exact Nat.le_of_lt (small5 (by show (esn n).length + 2 ≤ 5000; omega)), fun p4 n4 => ?_⟩
    have ev : vn (us ++ [m]) ++ vn [m + 1, 5000] = vn (esn n ++ [m + 1, 5000]) := by rw [es]; unfold vn; simp only [List.map_append]
    rw [ev]
    have g12 : Gr [] (upd H10 p3 (.lst (vn [m + 1, 5000]))) (upd (upd H10 p3 (.lst (vn [m + 1, 5000]))) p4 (.lst (vn (esn n ++ [m + 1, 5000])))) := Gr.new n4
    have h4 : (upd (upd H10 p3 (.lst (vn [m + 1, 5000]))) p4 (.lst (vn (esn n ++ [m + 1, 5000])))) p4 = some (.lst (vn (esn n ++ [m + 1, 5000]))) := upd_same
    have gD := gC.trans (g11.trans g12)
    clear gC g11 g12
    generalize upd (upd H10 p3 (.lst (vn [m + 1, 5000]))) p4 (.lst (vn (esn n ++ [m + 1, 5000]))) = H12 at h4 gD ⊢
    refine ⟨p4, rfl, ⟨_, sq_lst h4⟩, ?_⟩
    have hl12 := gD l _ (by simp) hl5
    have t12 := t5.gr gD
    have fitsT : ∀ (xs : List Nat), (∀ k ∈ xs, k < 8192) → xs.length ≤ 60 → Fits (.list [di xs, di xs]) := fun xs h1 h2 => (Sm.lst (W := 60 * 14) (D := 1) 2 (fun x hx => by
      simp only [List.mem_cons, List.not_mem_nil, or_false] at hx
      rcases hx with rfl | rfl <;> exact sm_ni h1 h2) (Nat.le_refl _)).fits
    refine for_list (D := ⟨_, Q, fun _ _ => False, fun _ _ => False⟩) (K := K) (a := p4) (xs := vn (esn n ++ [m + 1, 5000])) (fun i σ H' => Gr [] H12 H' ∧ ∃ v3 v4 v5, σ = [some (.int n), some (.ref l), some (.ref E), v3, v4, v5, none, none]) ⟨Gr.refl _ _, none, some (.ref t), none, rfl⟩ (fun i σ H' _ z => sq_lst (z.1 p4 _ (by simp) h4)) ?_ ?_
    · rintro i y σ H' hy ⟨G, v3, v4, v5, rfl⟩
      obtain ⟨hi, rfl⟩ := vn_get hy
      have hL0 : 1 ≤ (esn n ++ [m + 1, 5000])[i] ∧ (esn n ++ [m + 1, 5000])[i] ≤ 5000 := by
        have hmem := List.getElem_mem hi
        generalize (esn n ++ [m + 1, 5000])[i] = z at hmem
        rcases List.mem_append.mp hmem with y | y
        · have := espos z y
          omega
        · simp only [List.mem_cons, List.not_mem_nil, or_false] at y
          omega
      generalize (esn n ++ [m + 1, 5000])[i] = L0 at hL0 ⊢
      have hlG := G l _ (by simp) hl12
      have tG := t12.gr G
      refine ⟨_, rfl, l, rfl, ⟨_, sq_lst hlG⟩, fun D nD => ?_⟩
      refine lc_list (K := K) (a := l) (xs := ws) (fun j H'' => Gr [] H' H'' ∧ H'' D = some (.lst (vn (((copL n).take j).filter fun r => decide (ordN n r = L0))))) ⟨Gr.new nD, upd_same⟩ (fun j H'' _ z => sq_lst (z.1 l _ (by simp) hlG)) ?_ ?_
      · rintro j y H'' hy ⟨G2, hM⟩
        obtain ⟨hj, w0, rfl, hw⟩ := (tG.gr G2).get hy
        have hj' : j < (copL n).length := by unfold ownL at hj; rw [List.length_map] at hj; exact hj
        have er : (ownL n)[j] = [(copL n)[j], ordN n (copL n)[j]] := by simp [ownL]
        rw [er] at hw
        have tj := List.take_succ_eq_append_getElem hj'
        generalize (copL n)[j] = k0 at tj hw
        refine ⟨rfl, ?_⟩
        refine ⟨_, rfl, w0, _, 1, .int (ordN n k0 : Nat), rfl, rfl, sq_tup hw, atI_nat (j := 1) rfl, _, rfl, rfl, _, rfl, ?_⟩
        by_cases hc : ordN n k0 = L0
        · refine iteTb (by rw [hc, decide_eq_true rfl]) ⟨_, rfl, w0, _, 0, .int (k0 : Nat), rfl, rfl, sq_tup hw, atI_nat (j := 0) rfl, _, hM, small5 (by rw [vn_len]; exact Nat.le_trans (List.length_filter_le _ _) (by rw [List.length_take]; omega)), fun u o _ e => ?_, ?_⟩
          · rw [upd_ne (ne_of_none e nD)]
            exact G2 u o (by simp) e
          · rw [upd_same, vn_snoc, tj, fil_yes (p := fun r => decide (ordN n r = L0)) (decide_eq_true hc)]
        · refine iteFb (decide_eq_false fun z => hc (by have := V.int.inj z; omega)) ⟨G2, ?_⟩
          rw [hM, tj, fil_no (p := fun r => decide (ordN n r = L0)) (decide_eq_false hc)]
      rintro HN ⟨gN, hD⟩
      rw [wl, List.take_of_length_le (Nat.le_refl _)] at hD
      refine ⟨D, _, rfl, .inl ⟨sq_lst hD, fun t2 nt2 => ?_⟩⟩
      have gt2 : Gr [] HN (upd HN t2 (.tup (vn ((copL n).filter fun r => decide (ordN n r = L0))))) := Gr.new nt2
      have ht2 : (upd HN t2 (.tup (vn ((copL n).filter fun r => decide (ordN n r = L0))))) t2 = some (.tup (vn (rsL n L0))) := by rw [upd_same, rsL_eq hn1 hL0.1]
      have G13 := (G.trans gN).trans gt2
      clear gt2 gN hD hlG tG G
      generalize upd HN t2 (.tup (vn ((copL n).filter fun r => decide (ordN n r = L0)))) = H13 at ht2 G13 ⊢
      have rlt : ∀ k ∈ rsL n L0, k < 8192 := fun k hk => by
        have := List.mem_range.mp (List.mem_filter.mp hk).1
        omega
      have rll : (rsL n L0).length ≤ 60 := Nat.le_trans (List.length_filter_le _ _) (by rw [List.length_range]; exact hn60)
      refine ⟨_, rfl, _, rfl, n, L0, rfl, ⟨hn1, hn2⟩, hL0, fun u1 H14 g14 h14 => ?_⟩
      refine ⟨_, rfl, _, rfl, n, L0, rfl, ⟨hn1, hn2⟩, hL0, fun u2 H15 g15 h15 => ?_⟩
      refine ⟨by show 2 ≤ sizeLine; decide, fun p5 n5 => ?_⟩
      have g16 : Gr [] H15 (upd H15 p5 (.lst [.ref u1, .ref u2])) := Gr.new n5
      refine ⟨_, .list [di (rsL n L0), di (rsL n L0)], rfl, dp_lst upd_same (.cons (dp_vnT ((g15.trans g16) u1 _ (by simp) h14)) (.cons (dp_vnT (g16 u2 _ (by simp) h15)) .nil)), fitsT _ rlt rll, ?_⟩
      have gE := (g14.trans g15).trans g16
      clear g14 g15 g16 h14 h15
      generalize upd H15 p5 (.lst [.ref u1, .ref u2]) = H16 at gE ⊢
      refine ⟨_, rfl, _, rfl, by show 2 ≤ sizeLine; decide, fun p6 n6 => ?_⟩
      have g17 : Gr [] H16 (upd H16 p6 (.lst [.ref t2, .ref t2])) := Gr.new n6
      have h17 := (gE.trans g17) t2 _ (by simp) ht2
      refine ⟨_, .list [di (rsL n L0), di (rsL n L0)], rfl, dp_lst upd_same (.cons (dp_vnT h17) (.cons (dp_vnT h17) .nil)), fitsT _ rlt rll, ?_⟩
      refine ⟨rfl, _, rfl, iteFb (by rw [decide_eq_true rfl]; rfl) ?_⟩
      exact ⟨G13.trans (gE.trans g17), _, _, _, rfl⟩
    rintro σ H13 ⟨G, v3, v4, v5, rfl⟩
    have gD := gD.trans G
    have hE13 := hE6 gD
    have hlen : (us ++ [m]).length = (esn n).length := by rw [es]
    have half : (esn n).length / 2 < (us ++ [m]).length := by
      rw [List.length_append]
      have : (esn n).length = us.length + 1 := by rw [es, List.length_append]; rfl
      show _ < us.length + 1
      omega
    have ehalf : ((vn (us ++ [m])).length : Int) / 2 = (((esn n).length / 2 : Nat) : Int) := by
      rw [vn_len, hlen]
      omega
    obtain ⟨e0, he0, hee⟩ : ∃ e0, e0 ∈ esn n ∧ (vn (us ++ [m]))[(esn n).length / 2]? = some (.int (e0 : Nat)) := by
      have hmem : ∀ z, z ∈ us ++ [m] → z ∈ esn n := fun z hz => by rw [es]; exact hz
      refine ⟨(us ++ [m])[(esn n).length / 2], hmem _ (List.getElem_mem half), ?_⟩
      unfold vn
      rw [List.getElem?_map, List.getElem?_eq_getElem half]
      rfl
    have he1 := espos e0 he0
    refine ⟨_, rfl, _, rfl, E, _, rfl, .inl (sq_lst hE13), _, _, rfl, rfl, ⟨by decide, by decide⟩, ?_⟩
    dsimp only
    rw [ehalf]
    refine ⟨E, _, _, .int (e0 : Nat), rfl, rfl, sq_lst hE13, atI_nat hee, ?_⟩
    have hlG := G l _ (by simp) hl12
    have tG := t12.gr G
    refine ⟨_, rfl, l, rfl, ⟨_, sq_lst hlG⟩, fun D nD => ?_⟩
    refine lc_list (K := K) (a := l) (xs := ws) (fun j H'' => Gr [] H13 H'' ∧ H'' D = some (.lst (vn (((copL n).take j).filter fun r => decide (ordN n r = e0))))) ⟨Gr.new nD, upd_same⟩ (fun j H'' _ z => sq_lst (z.1 l _ (by simp) hlG)) ?_ ?_
    · rintro j y H'' hy ⟨G2, hM⟩
      obtain ⟨hj, w0, rfl, hw⟩ := (tG.gr G2).get hy
      have hj' : j < (copL n).length := by unfold ownL at hj; rw [List.length_map] at hj; exact hj
      have er : (ownL n)[j] = [(copL n)[j], ordN n (copL n)[j]] := by simp [ownL]
      rw [er] at hw
      have tj := List.take_succ_eq_append_getElem hj'
      generalize (copL n)[j] = k0 at tj hw
      refine ⟨rfl, ?_⟩
      refine ⟨_, rfl, w0, _, 1, .int (ordN n k0 : Nat), rfl, rfl, sq_tup hw, atI_nat (j := 1) rfl, _, rfl, rfl, _, rfl, ?_⟩
      by_cases hc : ordN n k0 = e0
      · refine iteTb (by rw [hc, decide_eq_true rfl]) ⟨_, rfl, w0, _, 0, .int (k0 : Nat), rfl, rfl, sq_tup hw, atI_nat (j := 0) rfl, _, hM, small5 (by rw [vn_len]; exact Nat.le_trans (List.length_filter_le _ _) (by rw [List.length_take]; omega)), fun u o _ e => ?_, ?_⟩
        · rw [upd_ne (ne_of_none e nD)]
          exact G2 u o (by simp) e
        · rw [upd_same, vn_snoc, tj, fil_yes (p := fun r => decide (ordN n r = e0)) (decide_eq_true hc)]
      · refine iteFb (decide_eq_false fun z => hc (by have := V.int.inj z; omega)) ⟨G2, ?_⟩
        rw [hM, tj, fil_no (p := fun r => decide (ordN n r = e0)) (decide_eq_false hc)]
    rintro HN ⟨gN, hD⟩
    rw [wl, List.take_of_length_le (Nat.le_refl _)] at hD
    rw [← rsL_eq hn1 he1.1] at hD
    have gD := gD.trans gN
    clear gN G hlG tG hl12 t12 h4
    refine ⟨2, 1001, rfl, ⟨by decide, by decide, by decide, by decide⟩, fun F nF => ?_⟩
    refine lc_range (lo := 2) (n := 999) (fun i H' => Gr [] HN H' ∧ H' F = some (.lst (vn (((List.range i).map (2 + ·)).filter fun b => decide (ordN n (b % n) = e0))))) ⟨Gr.new nF, upd_same⟩ ?_ ?_
    · rintro i H' hi ⟨G, hF⟩
      have ei : (2 : Int) + (i : Int) = ((2 + i : Nat) : Int) := by omega
      rw [ei]
      have hD' := G D _ (by simp) hD
      refine ⟨rfl, ?_⟩
      refine ⟨_, rfl, .inl ⟨_, rfl, _, rfl, _, (n : Int), rfl, rfl, (show (0 : Int) < (n : Int) by omega), ?_⟩⟩
      have em : ((2 + i : Nat) : Int) % (n : Int) = (((2 + i) % n : Nat) : Int) := (Int.natCast_emod _ _).symm
      have hm' : (2 + i) % n < n := Nat.mod_lt _ hn1
      dsimp only
      rw [em]
      refine ⟨_, rfl, D, _, rfl, .inl (sq_lst hD'), rfl, flat_vn _, _, rfl, ?_⟩
      have er : (List.range (i + 1)).map (2 + ·) = (List.range i).map (2 + ·) ++ [2 + i] := by
        rw [List.range_succ, List.map_append]
        rfl
      by_cases hc : ordN n ((2 + i) % n) = e0
      · have hin : (2 + i) % n ∈ rsL n e0 := List.mem_filter.mpr ⟨List.mem_range.mpr hm', decide_eq_true hc⟩
        refine iteTb (by show inV _ _ = true; rw [inV_ni, decide_eq_true hin]) ⟨_, rfl, _, hF, small5 (by rw [vn_len]; exact Nat.le_trans (List.length_filter_le _ _) (by rw [List.length_map, List.length_range]; omega)), fun u o _ e => ?_, ?_⟩
        · rw [upd_ne (ne_of_none e nF)]
          exact G u o (by simp) e
        · rw [upd_same, vn_snoc, er, fil_yes (p := fun b => decide (ordN n (b % n) = e0)) (decide_eq_true hc)]
      · have hin : ¬ (2 + i) % n ∈ rsL n e0 := fun z => hc (of_decide_eq_true (List.mem_filter.mp z).2)
        refine iteFb (by show inV _ _ = false; rw [inV_ni, decide_eq_false hin]) ⟨G, ?_⟩
        rw [hF, er, fil_no (p := fun b => decide (ordN n (b % n) = e0)) (decide_eq_false hc)]
    rintro H14 ⟨g14, hF⟩
    refine ⟨F, _, rfl, .inl ⟨sq_lst hF, fun t2 nt2 => ?_⟩⟩
    have gt2 : Gr [] H14 (upd H14 t2 (.tup (vn (bsL n e0)))) := Gr.new nt2
    have ht2 : (upd H14 t2 (.tup (vn (bsL n e0)))) t2 = some (.tup (vn (bsL n e0))) := upd_same
    have gD := (gD.trans g14).trans gt2
    clear g14 gt2 hF hD hE13
    change tSeq _ _ _ _ (upd H14 t2 (.tup (vn (bsL n e0))))
    generalize upd H14 t2 (.tup (vn (bsL n e0))) = H15 at ht2 gD ⊢
    have blt : ∀ L, ∀ k ∈ bsL n L, k < 8192 := fun L k hk => by
      obtain ⟨j, hj, rfl⟩ := List.mem_map.mp (List.mem_filter.mp hk).1
      have := List.mem_range.mp hj
      omega
    have bll : ∀ L, (bsL n L).length ≤ 999 := fun L => Nat.le_trans (List.length_filter_le _ _) (by rw [List.length_map, List.length_range]; exact Nat.le_refl _)
    refine ⟨_, rfl, _, rfl, n, e0, rfl, ⟨hn1, hn2⟩, ⟨he1.1, by omega⟩, fun u1 H16 g16 h16 => ?_⟩
    refine ⟨_, di (bsL n e0), rfl, dp_vnT h16, (sm_ni (m := 999) (blt e0) (bll e0)).fits, ?_⟩
    have h17 := g16 t2 _ (by simp) ht2
    refine ⟨_, rfl, _, di (bsL n e0), rfl, dp_vnT h17, (sm_ni (m := 999) (blt e0) (bll e0)).fits, ?_⟩
    refine ⟨rfl, _, rfl, iteFb (by rw [decide_eq_true rfl]; rfl) ?_⟩
    have gD := gD.trans g16
    refine ⟨_, rfl, _, rfl, _, rfl, E, _, _, _, rfl, rfl, sq_lst (hE6 gD), vn_last, _, _, rfl, rfl, n, m + 1, by rw [Int.natCast_add]; rfl, ⟨hn1, hn2⟩, ⟨by omega, by omega⟩, fun u2 H17 g17 h17' => ?_⟩
    have eb : bsL n (m + 1) = [] := by
      unfold bsL
      refine List.filter_eq_nil_iff.mpr fun b _ z => ?_
      have h := of_decide_eq_true z
      have := hmax (ordN n (b % n)) (List.mem_map.mpr ⟨b % n, List.mem_range.mpr (Nat.mod_lt _ hn1), rfl⟩)
      omega
    rw [eb] at h17'
    refine ⟨Nat.zero_le _, fun u3 nu3 => ?_⟩
    have gu3 : Gr [] H17 (upd H17 u3 (.tup [])) := Gr.new nu3
    refine ⟨.tuple [], .tuple [], dp_vnT (xs := []) (gu3 u2 _ (by simp) h17'), dp_tup upd_same .nil, rfl, rfl, _, rfl, iteF ?_⟩
    have gD := (gD.trans g17).trans gu3
    clear g16 g17 gu3 h16 h17 h17' ht2
    generalize upd H17 u3 (.tup []) = H18 at gD ⊢
    have hm5 : m ∈ osn n := (esn_mem hn1 hn2).mp (by rw [es]; simp)
    have hmax5 : ∀ y ∈ osn n, y ≤ m := fun y hy => by
      obtain ⟨x, hx, rfl⟩ := List.mem_map.mp hy
      exact hmax _ (List.mem_map.mpr ⟨x, List.mem_range.mpr (mem_cop.mp hx).1, rfl⟩)
    refine ⟨_, rfl, _, rfl, E, _, _, _, rfl, rfl, sq_lst (hE6 gD), vn_last, _, _, rfl, rfl, 1, (m : Int) + 1, rfl, ⟨by omega, by omega, by omega, by omega⟩, ?_⟩
    refine for_range (lo := 1) (n := ((m : Int) + 1 - 1).toNat) (fun i σ H' => H' = H18 ∧ ∃ v5, σ = [some (.int n), some (.ref l), some (.ref E), v3, some (.ref t2), v5, some (.ref D), none]) ⟨rfl, _, rfl⟩ ?_ ?_
    · rintro i σ H' hi ⟨rfl, v5, rfl⟩
      have ei : (1 : Int) + (i : Int) = ((1 + i : Nat) : Int) := by omega
      rw [ei]
      have hiL : 1 ≤ 1 + i ∧ 1 + i ≤ m := by omega
      generalize 1 + i = L0 at hiL ⊢
      have sE := sq_lst (K := K) (hE6 gD)
      have tb := tab_use hn1 hn60 hm5 hmax5 hiL.1 hiL.2
      refine ⟨_, rfl, _, rfl, E, _, rfl, .inl sE, rfl, flat_vn _, _, rfl, _, rfl, E, _, _, _, rfl, rfl, sE, vn_last, _, rfl, _, _, rfl, rfl, ⟨by omega, by omega⟩, _, rfl, _, _, rfl, rfl, .inr ⟨by omega, by omega⟩, _, rfl, _, rfl, E, _, _, _, rfl, rfl, sE, vn_last, rfl, rfl, _, rfl, ?_⟩
      refine iteFb (by
        rw [if_neg (by decide), inV_ni, ← es, tb]
        have ed : decide (V.int ((m : Int) / (L0 : Int) * (L0 : Int)) = V.int (m : Int)) = decide (m / L0 * L0 = m) := by
          rw [← Int.natCast_ediv, ← Int.natCast_mul]
          by_cases h : m / L0 * L0 = m
          · rw [decide_eq_true h, h, decide_eq_true rfl]
          · rw [decide_eq_false h, decide_eq_false fun z => h (by have := V.int.inj z; omega)]
        show (!decide (V.bl _ = V.bl (decide (V.int ((m : Int) / (L0 : Int) * (L0 : Int)) = V.int (m : Int))))) = false
        rw [ed, decide_eq_true rfl]
        rfl) ?_
      exact ⟨rfl, _, rfl⟩
    rintro σ H' ⟨rfl, v5, rfl⟩
    exact q _ (G5.trans gD)

end
end Wn
namespace Wn
open PySem PySem.Spec PyProof.Rows L2
local macro_rules | `(tactic| walk_at "vc") => `(tactic| simp only [cxK, cxK2, start1, start2, start3, tRet, tRetN, tSeq, tNext, tIfS, tAsg, gName, tDrop, tVar, tC, tOp, tUn, tTest, tB, tNot, tAnd, tOr, tAndV, tOrV, tNotV, tIf, tCons, tNil, tCB, tCall, tChain, tAug, ipI, rI, rI0, rU, rIs, rGcd, rEq, rNe, scal,
  List.getElem?_cons_zero, List.getElem?_cons_succ, List.set_cons_zero, List.set_cons_succ, Option.some.injEq, List.cons.injEq, V.int.injEq, V.bl.injEq, V.ref.injEq, V.str.injEq, and_true, true_and, exists_eq_left, exists_eq_left', exists_and_left, exists_and_right, List.append_nil, List.nil_append, List.cons_append, exists_eq_right, exists_eq_right', and_assoc, exists_const, V.ty.injEq, ↓reduceIte, Bool.false_eq_true, Bool.not_true, Bool.not_false, decide_eq_true_eq])

section
variable {P : Program} {w : World} {K : PySem.W.Frag} {mg : Str → Option Value} {base : Heap}

/-! what is so of written bases and denominators -/
def perB (b p d : Nat) : Bool := decide (1 ≤ d) && b ^ d % p == 1 % p && (List.range d).all fun j => j == 0 || b ^ j % p != 1 % p
theorem per_of {b p d : Nat} (h : perB b p d = true) : IsPer b p d := by
  unfold perB at h
  rw [Bool.and_eq_true, Bool.and_eq_true, decide_eq_true_eq, beq_iff_eq, List.all_eq_true] at h
  obtain ⟨⟨h1, h2⟩, h3⟩ := h
  refine ⟨h1, h2, fun j j1 jd => ?_⟩
  have := h3 j (List.mem_range.mpr jd)
  rw [Bool.or_eq_true, beq_iff_eq, bne_iff_ne] at this
  rcases this with z | z
  · omega
  · exact z

/-- all units to one power are 1 -/
def allE (n E : Nat) : Bool := (List.range n).all fun x => Nat.gcd x n != 1 || x ^ E % n == 1 % n
theorem allE_use {n E x : Nat} (h : allE n E = true) (hn : 1 ≤ n) (hx : x < n) (g : Nat.gcd x n = 1) : ordN n x ∣ E := by
  have := List.all_eq_true.mp h x (List.mem_range.mpr hx)
  rw [g] at this
  have e : x ^ E % n = 1 % n := by simpa using this
  exact ((ordN_per hn g).1.iff E).mp e
def gpB (n m r : Nat) : Bool := decide (1 ≤ n) && decide (n ≤ 5000) && decide (r < n) && decide (1 ≤ m) && Nat.gcd r n == 1 && perB r n m && allE n m
theorem gp_of {n m r : Nat} (h : gpB n m r = true) : (1 ≤ n ∧ n ≤ 5000) ∧ m ∈ LN n ∧ ∀ y ∈ LN n, y ≤ m := by
  unfold gpB at h
  simp only [Bool.and_eq_true, decide_eq_true_eq, beq_iff_eq] at h
  obtain ⟨⟨⟨⟨⟨⟨h1, h2⟩, h3⟩, h4⟩, h5⟩, h6⟩, h7⟩ := h
  refine ⟨⟨h1, h2⟩, List.mem_map.mpr ⟨r, List.mem_range.mpr h3, ordN_eq h1 h5 (per_of h6)⟩, fun y hy => ?_⟩
  obtain ⟨x, hx, rfl⟩ := List.mem_map.mp hy
  by_cases g : Nat.gcd x n = 1
  · exact Nat.le_of_dvd h4 (allE_use h7 h1 (List.mem_range.mp hx) g)
  · rw [ordN_no g]
    exact Nat.zero_le _
theorem ordN_one {n r : Nat} (hn : 1 ≤ n) : ordN n r = 1 ↔ Nat.gcd r n = 1 ∧ r % n = 1 % n := by
  constructor
  · intro h
    have g := (ordN_pos (r := r) hn).mp (by omega)
    have := (ordN_per hn g).1.2.1
    rw [h, Nat.pow_one] at this
    exact ⟨g, this⟩
  · rintro ⟨g, e⟩
    exact ordN_eq hn g ⟨Nat.le_refl _, by rw [Nat.pow_one]; exact e, fun j h1 h2 => by omega⟩
theorem bs997 : bsL 997 1 = [998] := by
  have e : bsL 997 1 = ((List.range 999).map (2 + ·)).filter fun b => Nat.gcd (b % 997) 997 == 1 && (b % 997) % 997 == 1 % 997 := by
    unfold bsL
    refine List.filter_congr fun b _ => ?_
    by_cases h : ordN 997 (b % 997) = 1
    · have := (ordN_one (by decide)).mp h
      rw [decide_eq_true h, this.1, this.2]
      rfl
    · rw [decide_eq_false h]
      refine (Bool.eq_false_iff.mpr fun z => h ?_).symm
      rw [Bool.and_eq_true, beq_iff_eq, beq_iff_eq] at z
      exact (ordN_one (by decide)).mpr z
  rw [e]
  decide +kernel
theorem rs3960 : rsL 3960 7 = [] := by
  unfold rsL
  refine List.filter_eq_nil_iff.mpr fun x hx z => ?_
  have h := of_decide_eq_true z
  have hx := List.mem_range.mp hx
  have g := (ordN_pos (r := x) (n := 3960) (by decide)).mp (by omega)
  have := allE_use (n := 3960) (E := 60) (by decide +kernel) (by decide) hx g
  rw [h] at this
  exact absurd this (by decide)
theorem a997 : allE 997 996 = true := by decide +kernel
theorem b997 : ∀ d ∈ osL 997, d < 997 := fun d hd => by
  rw [osn_eq (by decide)] at hd
  obtain ⟨x, hx, rfl⟩ := List.mem_map.mp hd
  obtain ⟨h1, h2⟩ := mem_cop.mp hx
  have := Nat.le_of_dvd (by decide) (allE_use a997 (by decide) h1 h2)
  omega
theorem divs996 : (List.range 997).all (fun L => (decide (996 % L ≠ 0) || decide (498 % L = 0) || decide (332 % L = 0) || decide (12 % L = 0)) || decide (L = 996)) = true := by decide +kernel
theorem c997 : cO (osL 997) 996 = 328 := by
  rw [osn_eq (by decide), osn_cnt]
  have e : ((copL 997).filter fun r => decide (ordN 997 r = 996)) = (copL 997).filter fun r => r ^ 498 % 997 != 1 && r ^ 332 % 997 != 1 && r ^ 12 % 997 != 1 := by
    refine List.filter_congr fun x hx => ?_
    obtain ⟨h1, h2⟩ := mem_cop.mp hx
    have hP := (ordN_per (n := 997) (r := x) (by decide) h2).1
    have hd := allE_use a997 (by decide) h1 h2
    have hle := Nat.le_of_dvd (by decide) hd
    have k : ∀ j, x ^ j % 997 = 1 ↔ ordN 997 x ∣ j := fun j => hP.iff j
    generalize ordN 997 x = L at hd hle k
    have t := List.all_eq_true.mp divs996 L (List.mem_range.mpr (by omega))
    by_cases hL : L = 996
    · subst hL
      rw [decide_eq_true rfl]
      have n1 : x ^ 498 % 997 ≠ 1 := fun z => absurd ((k _).mp z) (by decide)
      have n2 : x ^ 332 % 997 ≠ 1 := fun z => absurd ((k _).mp z) (by decide)
      have n3 : x ^ 12 % 997 ≠ 1 := fun z => absurd ((k _).mp z) (by decide)
      rw [bne_iff_ne.mpr n1, bne_iff_ne.mpr n2, bne_iff_ne.mpr n3]
      rfl
    · rw [decide_eq_false hL]
      rw [Nat.mod_eq_zero_of_dvd hd, decide_eq_false hL] at t
      simp only [ne_eq, not_true_eq_false, decide_false, Bool.false_or, Bool.or_false, Bool.or_eq_true, decide_eq_true_eq] at t
      rcases t with (z | z) | z
      · rw [(k 498).mpr (Nat.dvd_of_mod_eq_zero z)]
        rfl
      · rw [(k 332).mpr (Nat.dvd_of_mod_eq_zero z)]
        simp
      · rw [(k 12).mpr (Nat.dvd_of_mod_eq_zero z)]
        simp
  rw [e]
  decide +kernel
theorem cD997 : ∃ ds, cD 997 (osL 997) = .tuple (ds ++ [.tuple [.int 996, .int 328]]) := by
  unfold cD prD keysB
  rw [List.range_succ, fil_yes (decide_eq_true (by rw [c997]; decide)), List.map_append]
  rw [show (List.map (fun q : Nat => PyData.tuple [.int (q : Nat), .int (cO (osL 997) q : Nat)]) [996]) = [.tuple [.int 996, .int 328]] from by
    show [PyData.tuple [.int ((996 : Nat) : Int), .int ((cO (osL 997) 996 : Nat) : Int)]] = _
    rw [c997]
    rfl]
  exact ⟨_, rfl⟩
theorem gp4999 : gpB 4999 4998 3 = true := by decide +kernel
theorem gp3960 : gpB 3960 60 7 = true := by decide +kernel
theorem gp4096 : gpB 4096 1024 3 = true := by decide +kernel
theorem gp6 : gpB 6 2 5 = true := by decide +kernel
theorem gp5000 : gpB 5000 500 3 = true := by decide +kernel

end
end Wn
namespace Wn
open PySem PySem.Spec PyProof.Rows L2
local macro_rules | `(tactic| walk_at "vc") => `(tactic| simp only [cxK, cxK2, start1, start2, start3, tRet, tRetN, tSeq, tNext, tIfS, tAsg, gName, tDrop, tVar, tC, tOp, tUn, tTest, tB, tNot, tAnd, tOr, tAndV, tOrV, tNotV, tIf, tCons, tNil, tCB, tCall, tChain, tAug, ipI, rI, rI0, rU, rIs, rGcd, rEq, rNe, scal,
  List.getElem?_cons_zero, List.getElem?_cons_succ, List.set_cons_zero, List.set_cons_succ, Option.some.injEq, List.cons.injEq, V.int.injEq, V.bl.injEq, V.ref.injEq, V.str.injEq, and_true, true_and, exists_eq_left, exists_eq_left', exists_and_left, exists_and_right, List.append_nil, List.nil_append, List.cons_append, exists_eq_right, exists_eq_right', and_assoc, exists_const, V.ty.injEq, ↓reduceIte, Bool.false_eq_true, Bool.not_true, Bool.not_false, decide_eq_true_eq])

section
variable {P : Program} {w : World} {K : PySem.W.Frag} {mg : Str → Option Value} {base : Heap}

end
section
variable {K : PySem.W.Frag} {σ : L2.St} {H : Hp} {n L B : Nat}
theorem ev_sp (h : 1 ≤ n ∧ n ≤ 5000) (hB : ((osL n).all fun d => decide (d < B)) = true) : EvD K (tCall (sp_spread K) [] E0 (tCons (tC (.int (n : Nat))) tNil)) σ H (cD B (osL n)) := fun H1 g Q q =>
  ⟨n, B, rfl, h, fun d hd => of_decide_eq_true (List.all_eq_true.mp hB d hd), fun t H2 g2 h2 => q _ H2 g2 h2⟩
theorem ev_rs (h : 1 ≤ n ∧ n ≤ 5000) (h2 : 1 ≤ L ∧ L ≤ 5000) : EvD K (tCall sp_residues_with [] E0 (tCons (tC (.int (n : Nat))) (tCons (tC (.int (L : Nat))) tNil))) σ H (di (rsL n L)) := fun H1 g Q q =>
  ⟨n, L, rfl, h, h2, fun t H2 g2 h2 => q _ H2 g2 (dp_vnT h2)⟩
theorem ev_bs (h : 1 ≤ n ∧ n ≤ 5000) (h2 : 1 ≤ L ∧ L ≤ 5000) : EvD K (tCall sp_bases_with [] E0 (tCons (tC (.int (n : Nat))) (tCons (tC (.int (L : Nat))) tNil))) σ H (di (bsL n L)) := fun H1 g Q q =>
  ⟨n, L, rfl, h, h2, fun t H2 g2 h2 => q _ H2 g2 (dp_vnT h2)⟩
theorem ev_to {te : TE} {d e : PyData} (h : EvD K te σ H d) (z : d = e) : EvD K te σ H e := z ▸ h
theorem dpAll_last {H : Hp} : ∀ {vs : List V} {ds : List PyData} {d : PyData}, DpAll K H vs (ds ++ [d]) → ∃ us v, vs = us ++ [v] ∧ Dp K H v d
  | _, [], d, .cons a b => by
    cases b
    exact ⟨[], _, rfl, a⟩
  | _, x :: ds, d, .cons a b => by
    obtain ⟨us, v, e, h⟩ := dpAll_last b
    exact ⟨_ :: us, v, by rw [e]; rfl, h⟩
theorem at_last {us : List V} {v : V} : atI (us ++ [v]) (-1) = some v := by
  unfold atI
  have e : ixN (us ++ [v]).length (-1) = some us.length := by
    rw [List.length_append]
    unfold ixN
    rw [if_neg (by omega), if_pos (by show -(((us.length + 1 : Nat)) : Int) ≤ -1; omega)]
    congr 1
    show ((-1 : Int) + ((us.length + 1 : Nat) : Int)).toNat = us.length
    omega
  rw [e]
  show (us ++ [v])[us.length]? = _
  rw [List.getElem?_append_right (Nat.le_refl _), Nat.sub_self]
  rfl
theorem ev_lastT {te : TE} {ds : List PyData} {d : PyData} (h : EvD K te σ H (.tuple (ds ++ [d]))) : EvD K (tOp (rIxT K) te (tUn (rU fun i => V.int (-i)) (tC (.int 1)))) σ H d := fun H1 g Q q =>
  h H1 g _ fun v H2 g2 e => by
    cases e with
    | tup s t =>
      obtain ⟨us, v0, e1, h1⟩ := dpAll_last t
      subst e1
      exact ⟨1, rfl, _, _, _, v0, rfl, rfl, s, at_last, q _ _ g2 h1⟩
theorem tt_orL {te : TE} {u : TT} {bb : Bool} {Q : Bool → Hp → Prop} (h : EvD K te σ H (.bool bb)) (hb : bb = false) (q : ∀ H2, Gr [] H H2 → u σ H2 Q) : tOr (tTest te) u σ H Q := h H (Gr.refl _ _) _ fun v H2 g2 e => ⟨bb, dp_bool e, iteFb hb (q H2 g2)⟩
theorem dpAll_vn {H : Hp} : ∀ {ys : List V} {xs : List Nat}, DpAll K H ys ((ni xs).map PyData.int) → ys = vn xs
  | _, [], .nil => rfl
  | _, x :: xs, .cons a b => by
    rw [dp_int a, dpAll_vn b]
    rfl
theorem ev_slT {te : TE} {xs : List Nat} {j : Nat} (h : EvD K te σ H (di xs)) (hj : j ≤ xs.length) : EvD K (tSl (rSlA K) te tNoPart (tPart (tC (.int (j : Nat))))) σ H (di (xs.take j)) := fun H1 g Q q =>
  h H1 g _ fun v H2 g2 e => by
    unfold di at e
    cases e with
    | @tup a ys _ s t =>
      have ey := dpAll_vn t
      subst ey
      refine ⟨(j : Int), rfl, a, vn xs, rfl, s, fun z => ?_, fun _ p np => ?_⟩
      · have e1 := z.2
        rw [HT.sIx_nat, vn_len] at e1
        have e2 : xs.take j = xs := List.take_of_length_le (by omega)
        refine q _ H2 g2 ?_
        rw [e2]
        refine .tup s ?_
        rw [vn_ni]
        exact dpAll_ints _
      · refine q _ _ (g2.trans (Gr.new np)) (dp_vnT ?_)
        rw [upd_same, cut_lo (by rw [vn_len]; exact hj)]
        unfold vn
        rw [List.map_take]
theorem rg999 : rgV 2 1001 = vn ((List.range 999).map (2 + ·)) := by decide +kernel
theorem ev_rg : EvD K (tTupRg (tRg2 (tC (.int 2)) (tC (.int 1001)))) σ H (di ((List.range 999).map (2 + ·))) := fun H1 g Q q =>
  ⟨_, _, rfl, rfl, RgOk.of_le (by decide) (by decide) (by decide) (by decide), fun u nu => q _ _ (Gr.new nu) (dp_vnT (by rw [upd_same, rg999]))⟩
end
section
variable {P : Program} {w : World} {K : PySem.W.Frag} {mg : Str → Option Value} {base : Heap}
def sp_law_hand : Sp := fun vs H Q _ => vs = [] ∧ ∀ H', Gr [] H H' → Q (.bl true) H'
theorem okG_law_hand_right (T : Txt K mg) : FnG P w K mg base CX0 9 T.d_law_hand_right.f T.d_law_hand_right.fd [] sp_law_hand := by
  refine fnG0 T.d_law_hand_right.F sc_law_hand_right (fun vs H Q E h => ?_) (fun cdv A outer s H vs Q E hgd hr h => ?_)
  · obtain ⟨rfl, _⟩ := h; rfl
  · have hu := hu_of hr
    refine ⟨_, (pss_cons (ps_set (i := 0) sc_law_hand_right.nd rfl (by first | exact .inl rfl | exact .inr rfl) (pe_lst (pa_cons (pe_call (ok_spread T) (hr.mono (by decide)) (by rfl) T.d_spread.m T.d_spread.F.kp T.d_spread.b .nil pass0 (pa_cons pe_int pa_nil)) (pa_cons (pe_call (ok_spread T) (hr.mono (by decide)) (by rfl) T.d_spread.m T.d_spread.F.kp T.d_spread.b .nil pass0 (pa_cons pe_int pa_nil)) (pa_cons (pe_call (ok_spread T) (hr.mono (by decide)) (by rfl) T.d_spread.m T.d_spread.F.kp T.d_spread.b .nil pass0 (pa_cons pe_int pa_nil)) (pa_cons (pe_call (ok_spread T) (hr.mono (by decide)) (by rfl) T.d_spread.m T.d_spread.F.kp T.d_spread.b .nil pass0 (pa_cons pe_int pa_nil)) (pa_cons (pe_call (ok_spread T) (hr.mono (by decide)) (by rfl) T.d_spread.m T.d_spread.F.kp T.d_spread.b .nil pass0 (pa_cons pe_int pa_nil)) (pa_cons (pe_call (ok_spread T) (hr.mono (by decide)) (by rfl) T.d_spread.m T.d_spread.F.kp T.d_spread.b .nil pass0 (pa_cons pe_int pa_nil)) pa_nil))))))))
      (pss_cons (ps_set (i := 1) sc_law_hand_right.nd rfl (by first | exact .inl rfl | exact .inr rfl) (pe_tup (pa_cons (pe_tup (pa_cons pe_int (pa_cons pe_int pa_nil))) (pa_cons (pe_tup (pa_cons pe_int (pa_cons pe_int pa_nil))) (pa_cons (pe_tup (pa_cons pe_int (pa_cons pe_int pa_nil))) (pa_cons (pe_tup (pa_cons pe_int (pa_cons pe_int pa_nil))) pa_nil))))))
      (pss_cons (ps_if (pt_cmpR (r := rNeD K) (op_neD hr.units) (pv 0) (pe_lst (pa_cons (pe_tup (pa_cons (pe_tup (pa_cons pe_int (pa_cons pe_int pa_nil))) pa_nil)) (pa_cons (pe_tup (pa_cons (pe_tup (pa_cons pe_int (pa_cons pe_int pa_nil))) pa_nil)) (pa_cons (pv 1) (pa_cons (pe_tup (pa_cons (pe_tup (pa_cons pe_int (pa_cons pe_int pa_nil))) (pa_cons (pe_tup (pa_cons pe_int (pa_cons pe_int pa_nil))) pa_nil))) (pa_cons (pv 1) (pa_cons (pe_tup (pa_cons (pe_tup (pa_cons pe_int (pa_cons pe_int pa_nil))) (pa_cons (pe_tup (pa_cons pe_int (pa_cons pe_int pa_nil))) pa_nil))) pa_nil))))))) (nomark _)) (pss_one (ps_ret pe_bl)) pss_nil)
      (pss_cons (ps_if (PW.pt (pw_or (pt_cmpR (r := rNeD K) (op_neD hr.units) (pe_call (ok_residues_with T) (hr.mono (by decide)) (by rfl) T.d_residues_with.m T.d_residues_with.F.kp T.d_residues_with.b .nil pass0 (pa_cons pe_int (pa_cons pe_int pa_nil))) (pe_tup (pa_cons pe_int pa_nil)) (nomark _)) (pw_or (pt_cmpR (r := rNeD K) (op_neD hr.units) (pe_call (ok_residues_with T) (hr.mono (by decide)) (by rfl) T.d_residues_with.m T.d_residues_with.F.kp T.d_residues_with.b .nil pass0 (pa_cons pe_int (pa_cons pe_int pa_nil))) (pe_tup (pa_cons pe_int (pa_cons pe_int pa_nil))) (nomark _)) (pw_or1 (pt_cmpR (r := rNeD K) (op_neD hr.units) (pe_call (ok_bases_with T) (hr.mono (by decide)) (by rfl) T.d_bases_with.m T.d_bases_with.F.kp T.d_bases_with.b .nil pass0 (pa_cons pe_int (pa_cons pe_int pa_nil))) (pe_tupRg rfl (by rfl) T.b_tuple (prg_2 (by rfl) T.b_range pe_int pe_int)) (nomark _)))))) (pss_one (ps_ret pe_bl)) pss_nil)
      (pss_cons (ps_if (PW.pt (pw_or (pt_cmpR (r := rNeD K) (op_neD hr.units) (pe_slice (r := rSlA K) sl_tupA (pe_call (ok_bases_with T) (hr.mono (by decide)) (by rfl) T.d_bases_with.m T.d_bases_with.F.kp T.d_bases_with.b .nil pass0 (pa_cons pe_int (pa_cons pe_int pa_nil))) po_none (po_some pe_int)) (pe_tup (pa_cons pe_int (pa_cons pe_int (pa_cons pe_int (pa_cons pe_int pa_nil))))) (nomark _)) (pw_or (pt_cmpR (r := rNeD K) (op_neD hr.units) (pe_call (ok_bases_with T) (hr.mono (by decide)) (by rfl) T.d_bases_with.m T.d_bases_with.F.kp T.d_bases_with.b .nil pass0 (pa_cons pe_int (pa_cons pe_int pa_nil))) (pe_tup (pa_cons pe_int pa_nil)) (nomark _)) (pw_or1 (pt_cmpR (r := rNeD K) (op_neD hr.units) (pe_ix (r := rIxT K) ix_tup (pe_call (ok_spread T) (hr.mono (by decide)) (by rfl) T.d_spread.m T.d_spread.F.kp T.d_spread.b .nil pass0 (pa_cons pe_int pa_nil)) (pe_un un_neg pe_int) (fun _ _ => rfl)) (pe_tup (pa_cons pe_int (pa_cons pe_int pa_nil))) (nomark _)))))) (pss_one (ps_ret pe_bl)) pss_nil)
      (pss_cons (ps_setLc (i := 0) (own := [("n", 2)]) (g := gName 2) (tt := tYes) rfl sc_law_hand_right.nd rfl rfl (sw_true rfl rfl rfl (by decide +kernel)) (pi_tup (pe_tup (pa_cons pe_int (pa_cons pe_int (pa_cons pe_int (pa_cons pe_int (pa_cons pe_int pa_nil))))))) (blkOk_by (own := [("n", 2)]) (N := ["told", "six", "n", "length_so"]) (sc := defScope s_law_hand_right) (by decide +kernel)) (fun _ _ _ _ _ => (pg_name (i := 2) sc_law_hand_right.nd rfl (by first | exact .inl rfl | exact .inr rfl))) (fun _ _ _ _ _ => pts_nil) (fun _ _ _ _ _ => (pe_call (ok_greatest_period T) (hr.mono (by decide)) (by rfl) T.d_greatest_period.m T.d_greatest_period.F.kp T.d_greatest_period.b .nil pass0 (pa_cons (pv 2) pa_nil))))
      (pss_cons (ps_if (pt_cmpR (r := rNeD K) (op_neD hr.units) (pe_lc (own := [("length_so", 3)]) (g := gName 3) (tt := tYes) rfl sc_law_hand_right.nd (pi_tup (pe_tup (pa_cons pe_int (pa_cons pe_int (pa_cons pe_int (pa_cons pe_int pa_nil)))))) (blkOk_by (own := [("length_so", 3)]) (N := ["told", "six", "n", "length_so"]) (sc := defScope s_law_hand_right) (by decide +kernel)) (fun _ _ _ _ _ => (pg_name (i := 3) sc_law_hand_right.nd rfl (by first | exact .inl rfl | exact .inr rfl))) (fun _ _ _ _ _ => pts_nil) (fun _ _ _ _ _ => (pe_call (ok_residues_with T) (hr.mono (by decide)) (by rfl) T.d_residues_with.m T.d_residues_with.F.kp T.d_residues_with.b .nil pass0 (pa_cons pe_int (pa_cons (pv 3) pa_nil))))) (pe_lst (pa_cons (pe_tup (pa_cons pe_int pa_nil)) (pa_cons (pe_tup (pa_cons pe_int pa_nil)) (pa_cons (pe_tup pa_nil) (pa_cons (pe_tup (pa_cons pe_int (pa_cons pe_int pa_nil))) pa_nil))))) (nomark _)) (pss_one (ps_ret pe_bl)) pss_nil)
      (pss_cons (ps_if (PW.pt (pw_or (pt_cmpR (r := rNeD K) (op_neD hr.units) (pe_call (ok_spread T) (hr.mono (by decide)) (by rfl) T.d_spread.m T.d_spread.F.kp T.d_spread.b .nil pass0 (pa_cons pe_int pa_nil)) (pe_tup (pa_cons (pe_tup (pa_cons pe_int (pa_cons pe_int pa_nil))) (pa_cons (pe_tup (pa_cons pe_int (pa_cons pe_int pa_nil))) pa_nil))) (nomark _)) (pw_or (pt_cmpR (r := rNeD K) (op_neD hr.units) (pe_call (ok_residues_with T) (hr.mono (by decide)) (by rfl) T.d_residues_with.m T.d_residues_with.F.kp T.d_residues_with.b .nil pass0 (pa_cons pe_int (pa_cons pe_int pa_nil))) (pe_tup (pa_cons pe_int pa_nil)) (nomark _)) (pw_or1 (pt_cmpR op_ne (pe_call (ok_greatest_period T) (hr.mono (by decide)) (by rfl) T.d_greatest_period.m T.d_greatest_period.F.kp T.d_greatest_period.b .nil pass0 (pa_cons pe_int pa_nil)) pe_int (nomark _)))))) (pss_one (ps_ret pe_bl)) pss_nil)
      (pss_one (ps_ret (pe_and (pe_cmpR (r := rEqD K) (op_eqD hr.units) (pv 0) (pe_lst (pa_cons pe_int (pa_cons pe_int (pa_cons pe_int (pa_cons pe_int (pa_cons pe_int pa_nil)))))) (nomark _)) (pe_one (pe_cmpR (r := rEqD K) (op_eqD hr.units) (pe_call (ok_residues_with T) (hr.mono (by decide)) (by rfl) T.d_residues_with.m T.d_residues_with.F.kp T.d_residues_with.b .nil pass0 (pa_cons pe_int (pa_cons pe_int pa_nil))) (pe_tup pa_nil) (nomark _)))))))))))))), ?_⟩
    obtain ⟨rfl, q⟩ := h
    refine st_asgL (K := K) (el_lst (es_cons (ev_sp (n := 1) (B := 30) ⟨by decide, by decide⟩ (by decide +kernel)) (es_cons (ev_sp (n := 2) (B := 30) ⟨by decide, by decide⟩ (by decide +kernel)) (es_cons (ev_sp (n := 7) (B := 30) ⟨by decide, by decide⟩ (by decide +kernel)) (es_cons (ev_sp (n := 8) (B := 30) ⟨by decide, by decide⟩ (by decide +kernel)) (es_cons (ev_sp (n := 9) (B := 30) ⟨by decide, by decide⟩ (by decide +kernel)) (es_cons (ev_sp (n := 24) (B := 30) ⟨by decide, by decide⟩ (by decide +kernel)) es_nil))))))) fun l1 xs1 H1 g1 e1 a1 => ?_
    refine st_asgD (K := K) (ev_tup (es_cons (ev_tup (es_cons ev_int (es_cons ev_int es_nil))) (es_cons (ev_tup (es_cons ev_int (es_cons ev_int es_nil))) (es_cons (ev_tup (es_cons ev_int (es_cons ev_int es_nil))) (es_cons (ev_tup (es_cons ev_int (es_cons ev_int es_nil))) es_nil))))) fun v2 H2 g2 d2 => ?_
    refine tt_of (K := K) (ev_ne (ev_var rfl (Dp.kp (Kp.of g2) (dp_lst e1 a1))) (ev_lst (es_cons (ev_tup (es_cons (ev_tup (es_cons ev_int (es_cons ev_int es_nil))) es_nil)) (es_cons (ev_tup (es_cons (ev_tup (es_cons ev_int (es_cons ev_int es_nil))) es_nil)) (es_cons (ev_var rfl d2) (es_cons (ev_tup (es_cons (ev_tup (es_cons ev_int (es_cons ev_int es_nil))) (es_cons (ev_tup (es_cons ev_int (es_cons ev_int es_nil))) es_nil))) (es_cons (ev_var rfl d2) (es_cons (ev_tup (es_cons (ev_tup (es_cons ev_int (es_cons ev_int es_nil))) (es_cons (ev_tup (es_cons ev_int (es_cons ev_int es_nil))) es_nil))) es_nil))))))) (by decide +kernel) (by decide +kernel)) (Gr.refl _ _) fun H3 g3 => ?_
    refine iteFb (by decide +kernel) ?_
    refine tt_orL (K := K) (ev_ne (ev_rs (n := 1) (L := 1) ⟨by decide, by decide⟩ ⟨by decide, by decide⟩) (ev_tup (es_cons ev_int es_nil)) (by decide +kernel) (by decide +kernel)) (by decide +kernel) fun H4 g4 => ?_
    refine tt_orL (K := K) (ev_ne (ev_rs (n := 7) (L := 6) ⟨by decide, by decide⟩ ⟨by decide, by decide⟩) (ev_tup (es_cons ev_int (es_cons ev_int es_nil))) (by decide +kernel) (by decide +kernel)) (by decide +kernel) fun H5 g5 => ?_
    refine tt_of (K := K) (ev_ne (ev_bs (n := 1) (L := 1) ⟨by decide, by decide⟩ ⟨by decide, by decide⟩) ev_rg (by decide +kernel) (by decide +kernel)) (Gr.refl _ _) fun H6 g6 => ?_
    refine iteFb (by decide +kernel) ?_
    refine tt_orL (K := K) (ev_ne (ev_slT (ev_bs (n := 7) (L := 6) ⟨by decide, by decide⟩ ⟨by decide, by decide⟩) (by decide +kernel)) (ev_tup (es_cons ev_int (es_cons ev_int (es_cons ev_int (es_cons ev_int es_nil))))) (by decide +kernel) (by decide +kernel)) (by decide +kernel) fun H7 g7 => ?_
    refine tt_orL (K := K) (ev_ne (ev_to (e := di [998]) (ev_bs (n := 997) (L := 1) ⟨by decide, by decide⟩ ⟨by decide, by decide⟩) (by rw [bs997])) (ev_tup (es_cons ev_int es_nil)) (by decide +kernel) (by decide +kernel)) (by decide +kernel) fun H8 g8 => ?_
    obtain ⟨ds, hds⟩ := cD997
    refine tt_of (K := K) (ev_ne (ev_lastT (ds := ds) (d := .tuple [.int 996, .int 328]) (fun H1 g Q q => ⟨997, 997, rfl, ⟨by decide, by decide⟩, b997, fun t H2 g2 h2 => q _ H2 g2 (by rw [← hds]; exact h2)⟩)) (ev_tup (es_cons ev_int (es_cons ev_int es_nil))) (by decide +kernel) (by decide +kernel)) (Gr.refl _ _) fun H9 g9 => ?_
    refine iteFb (by decide +kernel) ?_
    have G9 := ((((((g1.trans g2).trans g3).trans g4).trans g5).trans g6).trans g7).trans (g8.trans g9)
    clear g1 g2 g3 g4 g5 g6 g7 g8 g9 d2 e1 a1
    refine ⟨by show 5 ≤ sizeLine; decide, fun p np => ⟨p, rfl, ⟨_, sq_tup upd_same⟩, fun E nE => ?_⟩⟩
    have hp : (upd H9 p (.tup (vn [4999, 3960, 4096, 5000, 6]))) p = some (.tup (vn [4999, 3960, 4096, 5000, 6])) := upd_same
    have gp : Gr [] H9 (upd H9 p (.tup (vn [4999, 3960, 4096, 5000, 6]))) := Gr.new np
    change (upd H9 p (.tup (vn [4999, 3960, 4096, 5000, 6]))) E = none at nE
    refine lc_tup (K := K) (a := p) (xs := vn [4999, 3960, 4096, 5000, 6]) (fun i H' => Gr [] (upd H9 p (.tup (vn [4999, 3960, 4096, 5000, 6]))) H' ∧ H' E = some (.lst (vn ([4998, 60, 1024, 500, 2].take i)))) ⟨Gr.new nE, upd_same⟩ (fun i H' _ z => sq_tup (z.1 p _ (by simp) hp)) ?_ ?_
    · rintro i y H' hy ⟨G, hE⟩
      obtain ⟨hi, rfl⟩ := vn_get hy
      have hi5 : i < 5 := hi
      have hi2 : i < [4998, 60, 1024, 500, 2].length := hi
      have key : (1 ≤ [4999, 3960, 4096, 5000, 6][i] ∧ [4999, 3960, 4096, 5000, 6][i] ≤ 5000) ∧ [4998, 60, 1024, 500, 2][i] ∈ LN [4999, 3960, 4096, 5000, 6][i] ∧ ∀ y ∈ LN [4999, 3960, 4096, 5000, 6][i], y ≤ [4998, 60, 1024, 500, 2][i] := by
        match i, hi5 with
        | 0, _ => exact gp_of (r := 3) gp4999
        | 1, _ => exact gp_of (r := 7) gp3960
        | 2, _ => exact gp_of (r := 3) gp4096
        | 3, _ => exact gp_of (r := 3) gp5000
        | 4, _ => exact gp_of (r := 5) gp6
      have tk := List.take_succ_eq_append_getElem hi2
      generalize [4998, 60, 1024, 500, 2][i] = m at key tk
      generalize [4999, 3960, 4096, 5000, 6][i] = n0 at key ⊢
      obtain ⟨k1, k2, k3⟩ := key
      refine ⟨rfl, ?_⟩
      dsimp only [tYes]
      refine iteT ?_
      refine ⟨_, rfl, n0, m, rfl, k1, k2, k3, fun H'' g'' => ?_⟩
      refine ⟨_, g'' E _ (by simp) hE, small5 (by rw [vn_len, List.length_take]; omega), fun u o _ e => ?_, ?_⟩
      · rw [upd_ne (ne_of_none e nE)]
        exact g'' u o (by simp) (G u o (by simp) e)
      · rw [upd_same, vn_snoc, tk]
    rintro H10 ⟨g10, hE⟩
    have hE : H10 E = some (.lst (vn [4998, 60, 1024, 500, 2])) := hE
    have G10 := G9.trans (gp.trans g10)
    clear gp g10 G9
    dsimp only [gName]
    refine tt_of (K := K) (ev_ne (d := .list ([1, 2, 3, 4].map fun L => di (rsL 5 L))) ?A (ev_lst (es_cons (ev_tup (es_cons (ev_int (i := 1)) es_nil)) (es_cons (ev_tup (es_cons (ev_int (i := 4)) es_nil)) (es_cons (ev_tup es_nil) (es_cons (ev_tup (es_cons (ev_int (i := 2)) (es_cons (ev_int (i := 3)) es_nil))) es_nil))))) (by decide +kernel) (by decide +kernel)) (Gr.refl _ _) fun H11 g11 => ?_
    case A =>
      intro H2 g2 Q2 q2
      refine ⟨by show 4 ≤ sizeLine; decide, fun p np => ⟨p, rfl, ⟨_, sq_tup upd_same⟩, fun D nD => ?_⟩⟩
      have hp : (upd H2 p (.tup (vn [1, 2, 3, 4]))) p = some (.tup (vn [1, 2, 3, 4])) := upd_same
      have gp : Gr [] H2 (upd H2 p (.tup (vn [1, 2, 3, 4]))) := Gr.new np
      change (upd H2 p (.tup (vn [1, 2, 3, 4]))) D = none at nD
      refine lc_tup (K := K) (a := p) (xs := vn [1, 2, 3, 4]) (fun i H' => Gr [] (upd H2 p (.tup (vn [1, 2, 3, 4]))) H' ∧ ∃ us, H' D = some (.lst us) ∧ TA H' us (([1, 2, 3, 4].take i).map fun L => rsL 5 L)) ⟨Gr.new nD, [], upd_same, .nil⟩ (fun i H' _ z => sq_tup (z.1 p _ (by simp) hp)) ?_ ?_
      · rintro i y H' hy ⟨G, us, hD, tU⟩
        obtain ⟨hi, rfl⟩ := vn_get hy
        have hi4 : i < 4 := hi
        have tk := List.take_succ_eq_append_getElem hi
        have hb : 1 ≤ [1, 2, 3, 4][i] ∧ [1, 2, 3, 4][i] ≤ 5000 := by
          have hm := List.getElem_mem hi
          generalize [1, 2, 3, 4][i] = z at hm ⊢
          simp only [List.mem_cons, List.not_mem_nil, or_false] at hm
          omega
        generalize [1, 2, 3, 4][i] = L0 at hb tk ⊢
        refine ⟨rfl, ?_⟩
        dsimp only [tYes]
        refine iteT ?_
        refine ⟨_, rfl, 5, L0, rfl, ⟨by decide, by decide⟩, hb, fun t H'' g'' ht => ?_⟩
        have hD5 := g'' D _ (by simp) hD
        refine ⟨us, hD5, small5 (by rw [tU.len, List.length_map, List.length_take]; omega), fun u o _ e => ?_, us ++ [.ref t], upd_same, ?_⟩
        · rw [upd_ne (ne_of_none e nD)]
          exact g'' u o (by simp) (G u o (by simp) e)
        · rw [tk, List.map_append]
          exact TA.put hD5 ((tU.gr g'').app (.cons ht .nil))
      rintro H4 ⟨g4, us, hD, tU⟩
      have dp := tU.dp (K := K)
      rw [List.map_map] at dp
      exact q2 _ _ (gp.trans g4) (dp_lst hD dp)
    refine iteFb (by decide +kernel) ?_
    refine tt_orL (K := K) (ev_ne (ev_sp (n := 4) (B := 30) ⟨by decide, by decide⟩ (by decide +kernel)) (ev_tup (es_cons (ev_tup (es_cons ev_int (es_cons ev_int es_nil))) (es_cons (ev_tup (es_cons ev_int (es_cons ev_int es_nil))) es_nil))) (by decide +kernel) (by decide +kernel)) (by decide +kernel) fun H12 g12 => ?_
    refine tt_orL (K := K) (ev_ne (ev_rs (n := 4) (L := 2) ⟨by decide, by decide⟩ ⟨by decide, by decide⟩) (ev_tup (es_cons ev_int es_nil)) (by decide +kernel) (by decide +kernel)) (by decide +kernel) fun H13 g13 => ?_
    obtain ⟨m1, m2, m3⟩ := gp_of (n := 4) (m := 2) (r := 3) (by decide +kernel)
    refine ⟨4, 2, rfl, m1, m2, m3, fun H14 g14 => ⟨rfl, _, rfl, iteFb (by decide) ?_⟩⟩
    have gZ := ((g11.trans g12).trans g13).trans g14
    refine st_retB (K := K) (ev_andV (ev_eq (ev_var rfl (dp_vnL (gZ E _ (by simp) hE))) (ev_lst (es_cons ev_int (es_cons ev_int (es_cons ev_int (es_cons ev_int (es_cons ev_int es_nil)))))) (by decide +kernel) (by decide +kernel)) (ev_eq (ev_to (e := di []) (ev_rs (n := 3960) (L := 7) ⟨by decide, by decide⟩ ⟨by decide, by decide⟩) (by rw [rs3960])) (ev_tup es_nil) (by decide +kernel) (by decide +kernel))) fun H15 g15 => ?_
    exact q H15 ((G10.trans gZ).trans g15)

end
end Wn
namespace Wn
open PySem PySem.Spec PyProof.Rows L2
local macro_rules | `(tactic| walk_at "vc") => `(tactic| simp only [cxK, cxK2, start1, start2, start3, tRet, tRetN, tSeq, tNext, tIfS, tAsg, gName, tDrop, tVar, tC, tOp, tUn, tTest, tB, tNot, tAnd, tOr, tAndV, tOrV, tNotV, tIf, tCons, tNil, tCB, tCall, tChain, tAug, ipI, rI, rI0, rU, rIs, rGcd, rEq, rNe, scal,
  List.getElem?_cons_zero, List.getElem?_cons_succ, List.set_cons_zero, List.set_cons_succ, Option.some.injEq, List.cons.injEq, V.int.injEq, V.bl.injEq, V.ref.injEq, V.str.injEq, and_true, true_and, exists_eq_left, exists_eq_left', exists_and_left, exists_and_right, List.append_nil, List.nil_append, List.cons_append, exists_eq_right, exists_eq_right', and_assoc, exists_const, V.ty.injEq, ↓reduceIte, Bool.false_eq_true, Bool.not_true, Bool.not_false, decide_eq_true_eq])

section
variable {P : Program} {w : World} {K : PySem.W.Frag} {mg : Str → Option Value} {base : Heap}

theorem fresh_keep {H H1 H2 : Hp} {d : Addr} (nd : H d = none) (g1 : Gr [] H H1) (g2 : Gr [d] H1 H2) : Gr [] H H2 := fun u o _ e => g2 u o (by rw [List.mem_singleton]; exact ne_of_none e nd) (g1 u o (by simp) e)
def sp_law (K : PySem.W.Frag) : Sp := fun vs H Q _ => ∃ (a : Addr) (ns : List Int), vs = [.ref a] ∧ SqL K H a (ns.map V.int) ∧ ns.length ≤ 63 ∧ ∀ H', Q (.bl true) H'
theorem okG_law (T : Txt K mg) : FnG P w K mg base CX0 10 T.d_law.f T.d_law.fd ["script"] (sp_law K) := by
  refine fnG0 T.d_law.F sc_law (fun vs H Q E h => ?_) (fun cdv A outer s H vs Q E hgd hr h => ?_)
  · obtain ⟨a, ns, rfl, _⟩ := h; rfl
  · have hu := hu_of hr
    refine ⟨_, (pss_cons (ps_for PassesOwn.never rfl (pi_range1 (by rfl) T.b_range (pa_cons (pe_op op_add pe_int (pe_callB (call_min2 rfl) (by rfl) T.b_min (by decide +kernel) (pa_cons (pe_callB (r := rLn K) call_ln (by rfl) T.b_len PySem.boot_len (pa_cons (pv 0) pa_nil)) (pa_cons pe_int pa_nil)))) pa_nil)) (pg_name (i := 1) sc_law.nd rfl (by first | exact .inl rfl | exact .inr rfl)) (pss_cons (ps_set (i := 2) sc_law.nd rfl (by first | exact .inl rfl | exact .inr rfl) (pe_call (ok_law_begun T) (hr.mono (by decide)) (by rfl) T.d_law_begun.m T.d_law_begun.F.kp T.d_law_begun.b .nil pass0 (pa_cons (pv 0) (pa_cons (pv 1) pa_nil))))
      (pss_one (ps_if (PW.pt (pw_or (pt_not (pt_val (pe_callG hgd (okG_law_right T) (hr.mono (by decide)) (by rfl) T.d_law_right.m T.d_law_right.F.kp T.d_law_right.b .nil pass0 (pa_cons (pe_op op_add pe_int (pe_call (ok_law_draw T) (hr.mono (by decide)) (by rfl) T.d_law_draw.m T.d_law_draw.F.kp T.d_law_draw.b .nil pass0 (pa_cons (pv 2) (pa_cons pe_int pa_nil)))) pa_nil)))) (pw_or1 (pt_not (pt_val (pe_callG hgd (okG_law_right T) (hr.mono (by decide)) (by rfl) T.d_law_right.m T.d_law_right.F.kp T.d_law_right.b .nil pass0 (pa_cons (pe_op op_add pe_int (pe_call (ok_law_draw T) (hr.mono (by decide)) (by rfl) T.d_law_draw.m T.d_law_draw.F.kp T.d_law_draw.b .nil pass0 (pa_cons (pv 2) (pa_cons pe_int pa_nil)))) pa_nil))))))) (pss_one (ps_ret pe_bl)) pss_nil))))
      (pss_one (ps_ret (pe_callG0 hgd (okG_law_hand_right T) (hr.mono (by decide)) (by rfl) T.d_law_hand_right.m T.d_law_hand_right.F.kp T.d_law_hand_right.b .nil pass0)))), ?_⟩
    obtain ⟨a, ns, rfl, hS, hn, q⟩ := h
    refine ⟨_, rfl, a, _, rfl, .inl hS, _, _, rfl, ?_⟩
    rw [List.length_map]
    obtain ⟨N, eN, hN⟩ : ∃ N : Nat, (2 : Int) + (if (4 : Int) < (ns.length : Int) then (4 : Int) else (ns.length : Int)) = (N : Int) ∧ N ≤ 7 := by
      split
      · exact ⟨6, rfl, by decide⟩
      · exact ⟨2 + ns.length, by omega, by omega⟩
    refine ⟨_, _, rfl, rfl, ?_⟩
    refine ⟨(N : Int), congrArg (fun z => [V.int z]) eN, by omega, by omega, ?_⟩
    refine for_range (lo := 0) (n := ((N : Int) - 0).toNat) (fun i σ H' => Gr [] H H' ∧ ∃ v1 v2, σ = [some (.ref a), v1, v2]) ⟨Gr.refl _ _, none, none, rfl⟩ ?_ ?_
    · rintro i σ H' hi ⟨G, v1, v2, rfl⟩
      have ei : (0 : Int) + (i : Int) = ((i : Nat) : Int) := by omega
      rw [ei]
      refine ⟨_, rfl, _, rfl, a, ns, i, rfl, (Kp.of G).sqL hS, hn, by omega, fun d H1 nd g1 M1 => ?_⟩
      refine ⟨_, rfl, d, 60, 0, rfl, M1, ⟨by decide, lim_le (by decide), by decide⟩, fun r0 H2 hr0 g2 M2 => ?_⟩
      refine ⟨_, _, rfl, rfl, 1 + r0, by rw [Int.natCast_add]; rfl, ⟨by omega, by omega⟩, fun H3 g3 => ⟨true, rfl, iteF ?_⟩⟩
      have M3 := M2.gr g3
      refine ⟨_, rfl, d, 30, 1, rfl, M3, ⟨by decide, lim_le (by decide), by decide⟩, fun r1 H4 hr1 g4 M4 => ?_⟩
      refine ⟨_, _, rfl, rfl, 1 + r1, by rw [Int.natCast_add]; rfl, ⟨by omega, by omega⟩, fun H5 g5 => ⟨true, rfl, iteF ?_⟩⟩
      exact ⟨G.trans (fresh_keep nd g1 ((g2.trans (g3.mono (by simp))).trans (g4.trans (g5.mono (by simp))))), _, _, rfl⟩
    rintro σ H' ⟨G, v1, v2, rfl⟩
    exact ⟨rfl, fun H2 _ => q H2⟩

end
end Wn
namespace Wn
open PySem PySem.Spec PyProof.Rows L2
theorem all_mk {l : PySem.W.OpenLaw} {w : World} {K : PySem.W.Frag} {h : Heap} {mg : Str → Option Value} {fa : Addr} (X : K.In h) (G : h.Ns mainGlobals mg) (hfa : mg "law" = some (.ref fa))
    {f_is_integer : Addr} {oc_is_integer kV_is_integer dc_is_integer pm_is_integer cd_is_integer ct_is_integer : Value} {od_is_integer an_is_integer : Option Addr} {sl_is_integer : Array (Option Value)}
    {f_is_within : Addr} {oc_is_within kV_is_within dc_is_within pm_is_within cd_is_within ct_is_within : Value} {od_is_within an_is_within : Option Addr} {sl_is_within : Array (Option Value)}
    {f_need_denominator : Addr} {oc_need_denominator kV_need_denominator dc_need_denominator pm_need_denominator cd_need_denominator ct_need_denominator : Value} {od_need_denominator an_need_denominator : Option Addr} {sl_need_denominator : Array (Option Value)}
    {f_counted : Addr} {oc_counted kV_counted dc_counted pm_counted cd_counted ct_counted : Value} {od_counted an_counted : Option Addr} {sl_counted : Array (Option Value)}
    {f_need_length : Addr} {oc_need_length kV_need_length dc_need_length pm_need_length cd_need_length ct_need_length : Value} {od_need_length an_need_length : Option Addr} {sl_need_length : Array (Option Value)}
    {f_powers_to_one : Addr} {oc_powers_to_one kV_powers_to_one dc_powers_to_one pm_powers_to_one cd_powers_to_one ct_powers_to_one : Value} {od_powers_to_one an_powers_to_one : Option Addr} {sl_powers_to_one : Array (Option Value)}
    {f_residue_lengths : Addr} {oc_residue_lengths kV_residue_lengths dc_residue_lengths pm_residue_lengths cd_residue_lengths ct_residue_lengths : Value} {od_residue_lengths an_residue_lengths : Option Addr} {sl_residue_lengths : Array (Option Value)}
    {f_residues_with : Addr} {oc_residues_with kV_residues_with dc_residues_with pm_residues_with cd_residues_with ct_residues_with : Value} {od_residues_with an_residues_with : Option Addr} {sl_residues_with : Array (Option Value)}
    {f_spread : Addr} {oc_spread kV_spread dc_spread pm_spread cd_spread ct_spread : Value} {od_spread an_spread : Option Addr} {sl_spread : Array (Option Value)}
    {f_greatest_period : Addr} {oc_greatest_period kV_greatest_period dc_greatest_period pm_greatest_period cd_greatest_period ct_greatest_period : Value} {od_greatest_period an_greatest_period : Option Addr} {sl_greatest_period : Array (Option Value)}
    {f_bases_with : Addr} {oc_bases_with kV_bases_with dc_bases_with pm_bases_with cd_bases_with ct_bases_with : Value} {od_bases_with an_bases_with : Option Addr} {sl_bases_with : Array (Option Value)}
    {f_law_begun : Addr} {oc_law_begun kV_law_begun dc_law_begun pm_law_begun cd_law_begun ct_law_begun : Value} {od_law_begun an_law_begun : Option Addr} {sl_law_begun : Array (Option Value)}
    {f_law_draw : Addr} {oc_law_draw kV_law_draw dc_law_draw pm_law_draw cd_law_draw ct_law_draw : Value} {od_law_draw an_law_draw : Option Addr} {sl_law_draw : Array (Option Value)}
    {f_law_divisor : Addr} {oc_law_divisor kV_law_divisor dc_law_divisor pm_law_divisor cd_law_divisor ct_law_divisor : Value} {od_law_divisor an_law_divisor : Option Addr} {sl_law_divisor : Array (Option Value)}
    {f_law_powers : Addr} {oc_law_powers kV_law_powers dc_law_powers pm_law_powers cd_law_powers ct_law_powers : Value} {od_law_powers an_law_powers : Option Addr} {sl_law_powers : Array (Option Value)}
    {f_law_period : Addr} {oc_law_period kV_law_period dc_law_period pm_law_period cd_law_period ct_law_period : Value} {od_law_period an_law_period : Option Addr} {sl_law_period : Array (Option Value)}
    {f_law_units : Addr} {oc_law_units kV_law_units dc_law_units pm_law_units cd_law_units ct_law_units : Value} {od_law_units an_law_units : Option Addr} {sl_law_units : Array (Option Value)}
    {f_law_lengths : Addr} {oc_law_lengths kV_law_lengths dc_law_lengths pm_law_lengths cd_law_lengths ct_law_lengths : Value} {od_law_lengths an_law_lengths : Option Addr} {sl_law_lengths : Array (Option Value)}
    {f_law_right : Addr} {oc_law_right kV_law_right dc_law_right pm_law_right cd_law_right ct_law_right : Value} {od_law_right an_law_right : Option Addr} {sl_law_right : Array (Option Value)}
    {f_law_hand_right : Addr} {oc_law_hand_right kV_law_hand_right dc_law_hand_right pm_law_hand_right cd_law_hand_right ct_law_hand_right : Value} {od_law_hand_right an_law_hand_right : Option Addr} {sl_law_hand_right : Array (Option Value)}
    {f_law : Addr} {oc_law kV_law dc_law pm_law cd_law ct_law : Value} {od_law an_law : Option Addr} {sl_law : Array (Option Value)}
    {t_MOST_BASE : Tok}
    {t_MOST_DENOMINATOR : Tok}
    (a_is_integer : PySem.W.nsIn K mainGlobals "is_integer" = some (some (.ref f_is_integer))) (l_is_integer : K.lookup f_is_integer = some ⟨oc_is_integer, od_is_integer, .func (PySem.W.fnOf "is_integer" "is_integer" (defArgs s_is_integer) (defBody s_is_integer) (defScope s_is_integer) .none kV_is_integer dc_is_integer pm_is_integer an_is_integer cd_is_integer ct_is_integer), sl_is_integer⟩) (c_is_integer : PySem.W.codeIn K cd_is_integer "is_integer" = true) (k_is_integer : PySem.W.keepIn K (.ref f_is_integer) = true)
    (a_is_within : PySem.W.nsIn K mainGlobals "is_within" = some (some (.ref f_is_within))) (l_is_within : K.lookup f_is_within = some ⟨oc_is_within, od_is_within, .func (PySem.W.fnOf "is_within" "is_within" (defArgs s_is_within) (defBody s_is_within) (defScope s_is_within) .none kV_is_within dc_is_within pm_is_within an_is_within cd_is_within ct_is_within), sl_is_within⟩) (c_is_within : PySem.W.codeIn K cd_is_within "is_within" = true) (k_is_within : PySem.W.keepIn K (.ref f_is_within) = true)
    (a_need_denominator : PySem.W.nsIn K mainGlobals "need_denominator" = some (some (.ref f_need_denominator))) (l_need_denominator : K.lookup f_need_denominator = some ⟨oc_need_denominator, od_need_denominator, .func (PySem.W.fnOf "need_denominator" "need_denominator" (defArgs s_need_denominator) (defBody s_need_denominator) (defScope s_need_denominator) .none kV_need_denominator dc_need_denominator pm_need_denominator an_need_denominator cd_need_denominator ct_need_denominator), sl_need_denominator⟩) (c_need_denominator : PySem.W.codeIn K cd_need_denominator "need_denominator" = true) (k_need_denominator : PySem.W.keepIn K (.ref f_need_denominator) = true)
    (a_counted : PySem.W.nsIn K mainGlobals "counted" = some (some (.ref f_counted))) (l_counted : K.lookup f_counted = some ⟨oc_counted, od_counted, .func (PySem.W.fnOf "counted" "counted" (defArgs s_counted) (defBody s_counted) (defScope s_counted) .none kV_counted dc_counted pm_counted an_counted cd_counted ct_counted), sl_counted⟩) (c_counted : PySem.W.codeIn K cd_counted "counted" = true) (k_counted : PySem.W.keepIn K (.ref f_counted) = true)
    (a_need_length : PySem.W.nsIn K mainGlobals "need_length" = some (some (.ref f_need_length))) (l_need_length : K.lookup f_need_length = some ⟨oc_need_length, od_need_length, .func (PySem.W.fnOf "need_length" "need_length" (defArgs s_need_length) (defBody s_need_length) (defScope s_need_length) .none kV_need_length dc_need_length pm_need_length an_need_length cd_need_length ct_need_length), sl_need_length⟩) (c_need_length : PySem.W.codeIn K cd_need_length "need_length" = true) (k_need_length : PySem.W.keepIn K (.ref f_need_length) = true)
    (a_powers_to_one : PySem.W.nsIn K mainGlobals "powers_to_one" = some (some (.ref f_powers_to_one))) (l_powers_to_one : K.lookup f_powers_to_one = some ⟨oc_powers_to_one, od_powers_to_one, .func (PySem.W.fnOf "powers_to_one" "powers_to_one" (defArgs s_powers_to_one) (defBody s_powers_to_one) (defScope s_powers_to_one) .none kV_powers_to_one dc_powers_to_one pm_powers_to_one an_powers_to_one cd_powers_to_one ct_powers_to_one), sl_powers_to_one⟩) (c_powers_to_one : PySem.W.codeIn K cd_powers_to_one "powers_to_one" = true) (k_powers_to_one : PySem.W.keepIn K (.ref f_powers_to_one) = true)
    (a_residue_lengths : PySem.W.nsIn K mainGlobals "residue_lengths" = some (some (.ref f_residue_lengths))) (l_residue_lengths : K.lookup f_residue_lengths = some ⟨oc_residue_lengths, od_residue_lengths, .func (PySem.W.fnOf "residue_lengths" "residue_lengths" (defArgs s_residue_lengths) (defBody s_residue_lengths) (defScope s_residue_lengths) .none kV_residue_lengths dc_residue_lengths pm_residue_lengths an_residue_lengths cd_residue_lengths ct_residue_lengths), sl_residue_lengths⟩) (c_residue_lengths : PySem.W.codeIn K cd_residue_lengths "residue_lengths" = true) (k_residue_lengths : PySem.W.keepIn K (.ref f_residue_lengths) = true)
    (a_residues_with : PySem.W.nsIn K mainGlobals "residues_with" = some (some (.ref f_residues_with))) (l_residues_with : K.lookup f_residues_with = some ⟨oc_residues_with, od_residues_with, .func (PySem.W.fnOf "residues_with" "residues_with" (defArgs s_residues_with) (defBody s_residues_with) (defScope s_residues_with) .none kV_residues_with dc_residues_with pm_residues_with an_residues_with cd_residues_with ct_residues_with), sl_residues_with⟩) (c_residues_with : PySem.W.codeIn K cd_residues_with "residues_with" = true) (k_residues_with : PySem.W.keepIn K (.ref f_residues_with) = true)
    (a_spread : PySem.W.nsIn K mainGlobals "spread" = some (some (.ref f_spread))) (l_spread : K.lookup f_spread = some ⟨oc_spread, od_spread, .func (PySem.W.fnOf "spread" "spread" (defArgs s_spread) (defBody s_spread) (defScope s_spread) .none kV_spread dc_spread pm_spread an_spread cd_spread ct_spread), sl_spread⟩) (c_spread : PySem.W.codeIn K cd_spread "spread" = true) (k_spread : PySem.W.keepIn K (.ref f_spread) = true)
    (a_greatest_period : PySem.W.nsIn K mainGlobals "greatest_period" = some (some (.ref f_greatest_period))) (l_greatest_period : K.lookup f_greatest_period = some ⟨oc_greatest_period, od_greatest_period, .func (PySem.W.fnOf "greatest_period" "greatest_period" (defArgs s_greatest_period) (defBody s_greatest_period) (defScope s_greatest_period) .none kV_greatest_period dc_greatest_period pm_greatest_period an_greatest_period cd_greatest_period ct_greatest_period), sl_greatest_period⟩) (c_greatest_period : PySem.W.codeIn K cd_greatest_period "greatest_period" = true) (k_greatest_period : PySem.W.keepIn K (.ref f_greatest_period) = true)
    (a_bases_with : PySem.W.nsIn K mainGlobals "bases_with" = some (some (.ref f_bases_with))) (l_bases_with : K.lookup f_bases_with = some ⟨oc_bases_with, od_bases_with, .func (PySem.W.fnOf "bases_with" "bases_with" (defArgs s_bases_with) (defBody s_bases_with) (defScope s_bases_with) .none kV_bases_with dc_bases_with pm_bases_with an_bases_with cd_bases_with ct_bases_with), sl_bases_with⟩) (c_bases_with : PySem.W.codeIn K cd_bases_with "bases_with" = true) (k_bases_with : PySem.W.keepIn K (.ref f_bases_with) = true)
    (a_law_begun : PySem.W.nsIn K mainGlobals "_law_begun" = some (some (.ref f_law_begun))) (l_law_begun : K.lookup f_law_begun = some ⟨oc_law_begun, od_law_begun, .func (PySem.W.fnOf "_law_begun" "_law_begun" (defArgs s_law_begun) (defBody s_law_begun) (defScope s_law_begun) .none kV_law_begun dc_law_begun pm_law_begun an_law_begun cd_law_begun ct_law_begun), sl_law_begun⟩) (c_law_begun : PySem.W.codeIn K cd_law_begun "_law_begun" = true) (k_law_begun : PySem.W.keepIn K (.ref f_law_begun) = true)
    (a_law_draw : PySem.W.nsIn K mainGlobals "_law_draw" = some (some (.ref f_law_draw))) (l_law_draw : K.lookup f_law_draw = some ⟨oc_law_draw, od_law_draw, .func (PySem.W.fnOf "_law_draw" "_law_draw" (defArgs s_law_draw) (defBody s_law_draw) (defScope s_law_draw) .none kV_law_draw dc_law_draw pm_law_draw an_law_draw cd_law_draw ct_law_draw), sl_law_draw⟩) (c_law_draw : PySem.W.codeIn K cd_law_draw "_law_draw" = true) (k_law_draw : PySem.W.keepIn K (.ref f_law_draw) = true)
    (a_law_divisor : PySem.W.nsIn K mainGlobals "_law_divisor" = some (some (.ref f_law_divisor))) (l_law_divisor : K.lookup f_law_divisor = some ⟨oc_law_divisor, od_law_divisor, .func (PySem.W.fnOf "_law_divisor" "_law_divisor" (defArgs s_law_divisor) (defBody s_law_divisor) (defScope s_law_divisor) .none kV_law_divisor dc_law_divisor pm_law_divisor an_law_divisor cd_law_divisor ct_law_divisor), sl_law_divisor⟩) (c_law_divisor : PySem.W.codeIn K cd_law_divisor "_law_divisor" = true) (k_law_divisor : PySem.W.keepIn K (.ref f_law_divisor) = true)
    (a_law_powers : PySem.W.nsIn K mainGlobals "_law_powers" = some (some (.ref f_law_powers))) (l_law_powers : K.lookup f_law_powers = some ⟨oc_law_powers, od_law_powers, .func (PySem.W.fnOf "_law_powers" "_law_powers" (defArgs s_law_powers) (defBody s_law_powers) (defScope s_law_powers) .none kV_law_powers dc_law_powers pm_law_powers an_law_powers cd_law_powers ct_law_powers), sl_law_powers⟩) (c_law_powers : PySem.W.codeIn K cd_law_powers "_law_powers" = true) (k_law_powers : PySem.W.keepIn K (.ref f_law_powers) = true)
    (a_law_period : PySem.W.nsIn K mainGlobals "_law_period" = some (some (.ref f_law_period))) (l_law_period : K.lookup f_law_period = some ⟨oc_law_period, od_law_period, .func (PySem.W.fnOf "_law_period" "_law_period" (defArgs s_law_period) (defBody s_law_period) (defScope s_law_period) .none kV_law_period dc_law_period pm_law_period an_law_period cd_law_period ct_law_period), sl_law_period⟩) (c_law_period : PySem.W.codeIn K cd_law_period "_law_period" = true) (k_law_period : PySem.W.keepIn K (.ref f_law_period) = true)
    (a_law_units : PySem.W.nsIn K mainGlobals "_law_units" = some (some (.ref f_law_units))) (l_law_units : K.lookup f_law_units = some ⟨oc_law_units, od_law_units, .func (PySem.W.fnOf "_law_units" "_law_units" (defArgs s_law_units) (defBody s_law_units) (defScope s_law_units) .none kV_law_units dc_law_units pm_law_units an_law_units cd_law_units ct_law_units), sl_law_units⟩) (c_law_units : PySem.W.codeIn K cd_law_units "_law_units" = true) (k_law_units : PySem.W.keepIn K (.ref f_law_units) = true)
    (a_law_lengths : PySem.W.nsIn K mainGlobals "_law_lengths" = some (some (.ref f_law_lengths))) (l_law_lengths : K.lookup f_law_lengths = some ⟨oc_law_lengths, od_law_lengths, .func (PySem.W.fnOf "_law_lengths" "_law_lengths" (defArgs s_law_lengths) (defBody s_law_lengths) (defScope s_law_lengths) .none kV_law_lengths dc_law_lengths pm_law_lengths an_law_lengths cd_law_lengths ct_law_lengths), sl_law_lengths⟩) (c_law_lengths : PySem.W.codeIn K cd_law_lengths "_law_lengths" = true) (k_law_lengths : PySem.W.keepIn K (.ref f_law_lengths) = true)
    (a_law_right : PySem.W.nsIn K mainGlobals "_law_right" = some (some (.ref f_law_right))) (l_law_right : K.lookup f_law_right = some ⟨oc_law_right, od_law_right, .func (PySem.W.fnOf "_law_right" "_law_right" (defArgs s_law_right) (defBody s_law_right) (defScope s_law_right) .none kV_law_right dc_law_right pm_law_right an_law_right cd_law_right ct_law_right), sl_law_right⟩) (c_law_right : PySem.W.codeIn K cd_law_right "_law_right" = true) (k_law_right : PySem.W.keepIn K (.ref f_law_right) = true)
    (a_law_hand_right : PySem.W.nsIn K mainGlobals "_law_hand_right" = some (some (.ref f_law_hand_right))) (l_law_hand_right : K.lookup f_law_hand_right = some ⟨oc_law_hand_right, od_law_hand_right, .func (PySem.W.fnOf "_law_hand_right" "_law_hand_right" (defArgs s_law_hand_right) (defBody s_law_hand_right) (defScope s_law_hand_right) .none kV_law_hand_right dc_law_hand_right pm_law_hand_right an_law_hand_right cd_law_hand_right ct_law_hand_right), sl_law_hand_right⟩) (c_law_hand_right : PySem.W.codeIn K cd_law_hand_right "_law_hand_right" = true) (k_law_hand_right : PySem.W.keepIn K (.ref f_law_hand_right) = true)
    (a_law : PySem.W.nsIn K mainGlobals "law" = some (some (.ref f_law))) (l_law : K.lookup f_law = some ⟨oc_law, od_law, .func (PySem.W.fnOf "law" "law" (defArgs s_law) (defBody s_law) (defScope s_law) .none kV_law dc_law pm_law an_law cd_law ct_law), sl_law⟩) (c_law : PySem.W.codeIn K cd_law "law" = true) (k_law : PySem.W.keepIn K (.ref f_law) = true)
    (zb_isinstance : PySem.W.nsIn K mainGlobals "isinstance" = some none)
    (zb_int : PySem.W.nsIn K mainGlobals "int" = some none)
    (zb_bool : PySem.W.nsIn K mainGlobals "bool" = some none)
    (zb_len : PySem.W.nsIn K mainGlobals "len" = some none)
    (zb_range : PySem.W.nsIn K mainGlobals "range" = some none)
    (zb_tuple : PySem.W.nsIn K mainGlobals "tuple" = some none)
    (zb_list : PySem.W.nsIn K mainGlobals "list" = some none)
    (zb_max : PySem.W.nsIn K mainGlobals "max" = some none)
    (zb_min : PySem.W.nsIn K mainGlobals "min" = some none)
    (zb_repr : PySem.W.nsIn K mainGlobals "repr" = some none)
    (zb_enumerate : PySem.W.nsIn K mainGlobals "enumerate" = some none)
    (zb_sorted : PySem.W.nsIn K mainGlobals "sorted" = some none)
    (zb_set : PySem.W.nsIn K mainGlobals "set" = some none)
    (zb_gcd : PySem.W.nsIn K mainGlobals "gcd" = some (some (.builtin "math.gcd")))
    (zc_MOST_BASE : PySem.W.nsIn K mainGlobals "MOST_BASE" = some (some (.int 1000 t_MOST_BASE)))
    (zc_MOST_DENOMINATOR : PySem.W.nsIn K mainGlobals "MOST_DENOMINATOR" = some (some (.int 5000 t_MOST_DENOMINATOR)))
    : ∃ fd : FuncData, (∀ (s : Shared) (v : Value), BindsTo s fd ⟨[v], []⟩ [("script", v)]) ∧ ∀ base : Heap, K.In base → base.Ns mainGlobals mg → FnG l.prog w K mg base CX0 10 fa fd ["script"] (sp_law K) := by
  have T : Txt K mg := {
    d_is_integer := Dn.of X G (fun us hl => match us, hl with | [_], _ => rfl) a_is_integer l_is_integer c_is_integer k_is_integer
    d_is_within := Dn.of X G (fun us hl => match us, hl with | [_, _, _], _ => rfl) a_is_within l_is_within c_is_within k_is_within
    d_need_denominator := Dn.of X G (fun us hl => match us, hl with | [_], _ => rfl) a_need_denominator l_need_denominator c_need_denominator k_need_denominator
    d_counted := Dn.of X G (fun us hl => match us, hl with | [_], _ => rfl) a_counted l_counted c_counted k_counted
    d_need_length := Dn.of X G (fun us hl => match us, hl with | [_], _ => rfl) a_need_length l_need_length c_need_length k_need_length
    d_powers_to_one := Dn.of X G (fun us hl => match us, hl with | [_, _], _ => rfl) a_powers_to_one l_powers_to_one c_powers_to_one k_powers_to_one
    d_residue_lengths := Dn.of X G (fun us hl => match us, hl with | [_], _ => rfl) a_residue_lengths l_residue_lengths c_residue_lengths k_residue_lengths
    d_residues_with := Dn.of X G (fun us hl => match us, hl with | [_, _], _ => rfl) a_residues_with l_residues_with c_residues_with k_residues_with
    d_spread := Dn.of X G (fun us hl => match us, hl with | [_], _ => rfl) a_spread l_spread c_spread k_spread
    d_greatest_period := Dn.of X G (fun us hl => match us, hl with | [_], _ => rfl) a_greatest_period l_greatest_period c_greatest_period k_greatest_period
    d_bases_with := Dn.of X G (fun us hl => match us, hl with | [_, _], _ => rfl) a_bases_with l_bases_with c_bases_with k_bases_with
    d_law_begun := Dn.of X G (fun us hl => match us, hl with | [_, _], _ => rfl) a_law_begun l_law_begun c_law_begun k_law_begun
    d_law_draw := Dn.of X G (fun us hl => match us, hl with | [_, _], _ => rfl) a_law_draw l_law_draw c_law_draw k_law_draw
    d_law_divisor := Dn.of X G (fun us hl => match us, hl with | [_, _], _ => rfl) a_law_divisor l_law_divisor c_law_divisor k_law_divisor
    d_law_powers := Dn.of X G (fun us hl => match us, hl with | [_, _], _ => rfl) a_law_powers l_law_powers c_law_powers k_law_powers
    d_law_period := Dn.of X G (fun us hl => match us, hl with | [_, _], _ => rfl) a_law_period l_law_period c_law_period k_law_period
    d_law_units := Dn.of X G (fun us hl => match us, hl with | [_], _ => rfl) a_law_units l_law_units c_law_units k_law_units
    d_law_lengths := Dn.of X G (fun us hl => match us, hl with | [_], _ => rfl) a_law_lengths l_law_lengths c_law_lengths k_law_lengths
    d_law_right := Dn.of X G (fun us hl => match us, hl with | [_], _ => rfl) a_law_right l_law_right c_law_right k_law_right
    d_law_hand_right := Dn.of X G (fun us hl => match us, hl with | [], _ => rfl) a_law_hand_right l_law_hand_right c_law_hand_right k_law_hand_right
    d_law := Dn.of X G (fun us hl => match us, hl with | [_], _ => rfl) a_law l_law c_law k_law
    b_isinstance := PySem.W.mg_none_of X G zb_isinstance
    b_int := PySem.W.mg_none_of X G zb_int
    b_bool := PySem.W.mg_none_of X G zb_bool
    b_len := PySem.W.mg_none_of X G zb_len
    b_range := PySem.W.mg_none_of X G zb_range
    b_tuple := PySem.W.mg_none_of X G zb_tuple
    b_list := PySem.W.mg_none_of X G zb_list
    b_max := PySem.W.mg_none_of X G zb_max
    b_min := PySem.W.mg_none_of X G zb_min
    b_repr := PySem.W.mg_none_of X G zb_repr
    b_enumerate := PySem.W.mg_none_of X G zb_enumerate
    b_sorted := PySem.W.mg_none_of X G zb_sorted
    b_set := PySem.W.mg_none_of X G zb_set
    b_gcd := PySem.W.mg_of X G zb_gcd
    t_MOST_BASE := t_MOST_BASE
    c_MOST_BASE := PySem.W.mg_of X G zc_MOST_BASE
    t_MOST_DENOMINATOR := t_MOST_DENOMINATOR
    c_MOST_DENOMINATOR := PySem.W.mg_of X G zc_MOST_DENOMINATOR
  }
  have e := hfa.symm.trans T.d_law.m
  cases e
  exact ⟨T.d_law.fd, fun s v => .of_eq (T.d_law.e [v] rfl), fun base _ _ => okG_law T⟩
end Wn
open PySem PySem.W PyProof.Rows
set_option maxRecDepth 100000 in
set_option maxHeartbeats 0 in
theorem PySem.Challenge.cw_wheelnines_k40_whole_lengths_of_residues_holds : PySem.Challenge.rw_wheelnines_k40_whole_lengths_of_residues.Holds := by
  w_on; o_law; k_head; (case hw => w_witness2)
  k_fill
  refine Wn.walkG (l := PySem.Challenge.rw_wheelnines_k40_whole_lengths_of_residues) (n := 63) (k := 10) (x := "script") (sp := fun w => Wn.sp_law _) rfl (by decide) rfl ⟨rfl, by decide, by decide⟩ (fun w h Y => PySem.W.kIn_of Y) ?F (fun _ _ a ns hl _ hS => ⟨a, ns, rfl, hS, hl, fun _ => rfl⟩)
  case F =>
    intro w mg fa h KX G hmg
    refine' Wn.all_mk KX G hmg ?a_is_integer ?l_is_integer ?c_is_integer ?k_is_integer ?a_is_within ?l_is_within ?c_is_within ?k_is_within ?a_need_denominator ?l_need_denominator ?c_need_denominator ?k_need_denominator ?a_counted ?l_counted ?c_counted ?k_counted ?a_need_length ?l_need_length ?c_need_length ?k_need_length ?a_powers_to_one ?l_powers_to_one ?c_powers_to_one ?k_powers_to_one ?a_residue_lengths ?l_residue_lengths ?c_residue_lengths ?k_residue_lengths ?a_residues_with ?l_residues_with ?c_residues_with ?k_residues_with ?a_spread ?l_spread ?c_spread ?k_spread ?a_greatest_period ?l_greatest_period ?c_greatest_period ?k_greatest_period ?a_bases_with ?l_bases_with ?c_bases_with ?k_bases_with ?a_law_begun ?l_law_begun ?c_law_begun ?k_law_begun ?a_law_draw ?l_law_draw ?c_law_draw ?k_law_draw ?a_law_divisor ?l_law_divisor ?c_law_divisor ?k_law_divisor ?a_law_powers ?l_law_powers ?c_law_powers ?k_law_powers ?a_law_period ?l_law_period ?c_law_period ?k_law_period ?a_law_units ?l_law_units ?c_law_units ?k_law_units ?a_law_lengths ?l_law_lengths ?c_law_lengths ?k_law_lengths ?a_law_right ?l_law_right ?c_law_right ?k_law_right ?a_law_hand_right ?l_law_hand_right ?c_law_hand_right ?k_law_hand_right ?a_law ?l_law ?c_law ?k_law ?zb_isinstance ?zb_int ?zb_bool ?zb_len ?zb_range ?zb_tuple ?zb_list ?zb_max ?zb_min ?zb_repr ?zb_enumerate ?zb_sorted ?zb_set ?zb_gcd ?zc_MOST_BASE ?zc_MOST_DENOMINATOR
    (case a_is_integer => k_is)
    (case l_is_integer => k_is)
    (case c_is_integer => k_is)
    (case k_is_integer => k_is)
    (case a_is_within => k_is)
    (case l_is_within => k_is)
    (case c_is_within => k_is)
    (case k_is_within => k_is)
    (case a_need_denominator => k_is)
    (case l_need_denominator => k_is)
    (case c_need_denominator => k_is)
    (case k_need_denominator => k_is)
    (case a_counted => k_is)
    (case l_counted => k_is)
    (case c_counted => k_is)
    (case k_counted => k_is)
    (case a_need_length => k_is)
    (case l_need_length => k_is)
    (case c_need_length => k_is)
    (case k_need_length => k_is)
    (case a_powers_to_one => k_is)
    (case l_powers_to_one => k_is)
    (case c_powers_to_one => k_is)
    (case k_powers_to_one => k_is)
    (case a_residue_lengths => k_is)
    (case l_residue_lengths => k_is)
    (case c_residue_lengths => k_is)
    (case k_residue_lengths => k_is)
    (case a_residues_with => k_is)
    (case l_residues_with => k_is)
    (case c_residues_with => k_is)
    (case k_residues_with => k_is)
    (case a_spread => k_is)
    (case l_spread => k_is)
    (case c_spread => k_is)
    (case k_spread => k_is)
    (case a_greatest_period => k_is)
    (case l_greatest_period => k_is)
    (case c_greatest_period => k_is)
    (case k_greatest_period => k_is)
    (case a_bases_with => k_is)
    (case l_bases_with => k_is)
    (case c_bases_with => k_is)
    (case k_bases_with => k_is)
    (case a_law_begun => k_is)
    (case l_law_begun => k_is)
    (case c_law_begun => k_is)
    (case k_law_begun => k_is)
    (case a_law_draw => k_is)
    (case l_law_draw => k_is)
    (case c_law_draw => k_is)
    (case k_law_draw => k_is)
    (case a_law_divisor => k_is)
    (case l_law_divisor => k_is)
    (case c_law_divisor => k_is)
    (case k_law_divisor => k_is)
    (case a_law_powers => k_is)
    (case l_law_powers => k_is)
    (case c_law_powers => k_is)
    (case k_law_powers => k_is)
    (case a_law_period => k_is)
    (case l_law_period => k_is)
    (case c_law_period => k_is)
    (case k_law_period => k_is)
    (case a_law_units => k_is)
    (case l_law_units => k_is)
    (case c_law_units => k_is)
    (case k_law_units => k_is)
    (case a_law_lengths => k_is)
    (case l_law_lengths => k_is)
    (case c_law_lengths => k_is)
    (case k_law_lengths => k_is)
    (case a_law_right => k_is)
    (case l_law_right => k_is)
    (case c_law_right => k_is)
    (case k_law_right => k_is)
    (case a_law_hand_right => k_is)
    (case l_law_hand_right => k_is)
    (case c_law_hand_right => k_is)
    (case k_law_hand_right => k_is)
    (case a_law => k_is)
    (case l_law => k_is)
    (case c_law => k_is)
    (case k_law => k_is)
    (case zb_isinstance => k_is)
    (case zb_int => k_is)
    (case zb_bool => k_is)
    (case zb_len => k_is)
    (case zb_range => k_is)
    (case zb_tuple => k_is)
    (case zb_list => k_is)
    (case zb_max => k_is)
    (case zb_min => k_is)
    (case zb_repr => k_is)
    (case zb_enumerate => k_is)
    (case zb_sorted => k_is)
    (case zb_set => k_is)
    (case zb_gcd => k_is)
    (case zc_MOST_BASE => k_is)
    (case zc_MOST_DENOMINATOR => k_is)
