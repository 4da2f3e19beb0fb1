import PyProof.Rows.All
import Wide.All
import OpenK.AllK
import Wide.FinOn
import HandS.ForMost
import HandS.Wide
import HandS.Gcd
import HandS.IsInst
import HandS.TupAny
import HandS.Style
import PyProof.ReprBulk
import PyProof.ReprRoads
import PyProof.ReprLen
import PyProof.Rows.SumAny
import PyProof.WalksMore
import KE.KExcInit
import HandS.ExcInit
import HandS.ExcValue
import HandS.ExcField
import HandS.ExcIs
import HandS.ClsMeth
import KE.KExcIs
import KE.KTryMore
import HandS.TryMany
import HandS.Lambda
import KE.KDflt
import HandS.EndTab
import HandS.WordsExc
import HandS.Property
import HandS.MakeKwOnly
import HandS.Head0
import HandS.Head1
import HandS.Head2
import HandS.HeadEnd
import HandS.HeadHook1
import HandS.HeadHook2
import HandS.HeadHook3
import HandS.HeadHook4
import HandS.HeadNt
import KE.KExcLine
import HandS.Star
import HandS.More
import HandS.WrittenGet
import HandS.CallSlots
import KE.RegKIsAll
import KE.KStateDown
import HandS.SetFor
import HandS.Strs
import HandS.TupMul
import HandS.ListItems
import HandS.SortRule
import KE.GoesEnum
import PyProof.EnumMake
import PyProof.EnumStmt
import HandS.ExcOwn
import KE.KMathG
import KE.KIntText
import HandS.SortInts
import HandS.Zip
import HandS.Exc
import PyProof.Rows.Digits
import KE.KWithOwn
import HandS.HotCalls
import HandS.Finally
import HandS.SlotsOwn
import PyProof.InstNe
import HandS.Defaults
import HandS.Deep
import PyProof.Rows.InDataRows
import HandS.Keys
import HandS.Conv
import HandS.Iter
import PyProof.SeqIndex
import PySem.Challenge.RW_wheelnines_k47_whole_facts
set_option Elab.async false
set_option linter.all false
set_option maxRecDepth 100000
set_option maxHeartbeats 4000000
namespace Wn
open PySem PySem.Spec PyProof.Rows L2
/-! a def of the text as it stands: where, its facts, its name -/
structure Dn (K : PySem.W.Frag) (mg : Str → Option Value) (x : Str) (st : Stmt) (ps : List Str) where
  f : Addr
  fd : FuncData
  F : Fun K x x st f fd
  e : ∀ us : List Value, us.length = ps.length → bindArgs fd ⟨us, []⟩ = pure (ps.zip us)
  m : mg x = some (.ref f)
theorem Dn.b {K : PySem.W.Frag} {mg : Str → Option Value} {x : Str} {st : Stmt} {ps : List Str} (D : Dn K mg x st ps) : Binds K D.fd ps [] := .all D.e
def Dn.of {K : PySem.W.Frag} {h : Heap} {mg : Str → Option Value} {x : Str} {st : Stmt} {ps : List Str} {f : Addr} {oc kV doc pm cdv ct : Value} {od an : Option Addr} {osl : Array (Option Value)} (X : K.In h) (G : h.Ns mainGlobals mg)
    (hb : ∀ us : List Value, us.length = ps.length → bindArgs (PySem.W.fnOf x x (defArgs st) (defBody st) (defScope st) .none kV doc pm an cdv ct) ⟨us, []⟩ = pure (ps.zip us))
    (a : PySem.W.nsIn K mainGlobals x = some (some (.ref f))) (l : K.lookup f = some ⟨oc, od, .func (PySem.W.fnOf x x (defArgs st) (defBody st) (defScope st) .none kV doc pm an cdv ct), osl⟩)
    (c : PySem.W.codeIn K cdv x = true) (k : PySem.W.keepIn K (.ref f) = true) : Dn K mg x st ps := ⟨f, _, fun_mk l c k, hb, PySem.W.mg_of X G a⟩
/-! all that stood stands, but what is at W -/
def Gr (W : List Addr) (H H' : Hp) : Prop := ∀ a o, a ∉ W → H a = some o → H' a = some o
theorem Gr.refl (W : List Addr) (H : Hp) : Gr W H H := fun _ _ _ h => h
theorem Gr.trans {W : List Addr} {H H1 H2 : Hp} (a : Gr W H H1) (b : Gr W H1 H2) : Gr W H H2 := fun x o n h => b x o n (a x o n h)
theorem Gr.new {W : List Addr} {H : Hp} {p : Addr} {o : HO} (h : H p = none) : Gr W H (upd H p o) := fun a u _ e => by
  rw [upd_ne (ne_of_none e h)]
  exact e
theorem Gr.wr {W : List Addr} {H : Hp} {p : Addr} {o : HO} (h : p ∈ W) : Gr W H (upd H p o) := fun a u n e => by
  have z : a ≠ p := fun z => by
    subst z
    exact n h
  rw [upd_ne z]
  exact e
theorem Gr.mono {W W' : List Addr} {H H' : Hp} (h : ∀ a, a ∈ W → a ∈ W') (g : Gr W H H') : Gr W' H H' := fun a o n e => g a o (fun z => n (h a z)) e
end Wn
/-! the mathematics: powers, remainders, pure parts, periods, heads -/
namespace Wn
theorem cop_pow {a b : Nat} (h : Nat.gcd a b = 1) (k : Nat) : Nat.gcd (a ^ k) b = 1 := Nat.Coprime.pow_left k h
theorem mod_iff {p a c : Nat} (h : a ≤ c) : a % p = c % p ↔ p ∣ c - a := by
  constructor
  · intro e
    exact Nat.dvd_of_mod_eq_zero (Nat.sub_mod_eq_zero_of_mod_eq e.symm)
  · rintro ⟨t, e⟩
    have : c = a + p * t := by omega
    rw [this, Nat.add_mul_mod_self_left]
/-! a pigeonhole -/
theorem nodup_le : ∀ (n : Nat) (l : List Nat), l.Nodup → (∀ x ∈ l, x < n) → l.length ≤ n := by
  intro n
  induction n with
  | zero =>
    intro l _ h
    cases l with
    | nil => exact Nat.le_refl _
    | cons x r => exact absurd (h x (List.mem_cons_self ..)) (Nat.not_lt_zero _)
  | succ n ih =>
    intro l nd h
    have h1 := ih (l.erase n) (nd.erase n) (fun x hx => by
      have hm := List.mem_of_mem_erase hx
      have hlt := h x hm
      have hne : x ≠ n := fun e => by
        subst e
        exact (List.Nodup.not_mem_erase nd) hx
      omega)
    by_cases hn : n ∈ l
    · rw [List.length_erase_of_mem hn] at h1
      omega
    · rw [List.erase_of_not_mem hn] at h1
      omega
/-- among n + 1 numbers below n two are the same -/
theorem pigeon (n : Nat) (f : Nat → Nat) (h : ∀ i, i ≤ n → f i < n) : ∃ i j, i < j ∧ j ≤ n ∧ f i = f j := by
  by_cases nd : ((List.range (n + 1)).map f).Nodup
  · have := nodup_le n _ nd (fun x hx => by
      obtain ⟨i, hi, e⟩ := List.mem_map.mp hx
      rw [← e]
      exact h i (by have := List.mem_range.mp hi; omega))
    rw [List.length_map, List.length_range] at this
    omega
  · rw [List.nodup_iff_pairwise_ne, List.pairwise_map] at nd
    apply Classical.byContradiction
    intro hc
    apply nd
    rw [List.pairwise_iff_getElem]
    intro i j hi hj hij e
    rw [List.getElem_range, List.getElem_range] at e
    rw [List.length_range] at hj
    exact hc ⟨i, j, hij, by omega, e⟩
/-! pure parts -/
def IsPure (b n p : Nat) : Prop := Nat.gcd b p = 1 ∧ ∃ q k, n = p * q ∧ q ∣ b ^ k
theorem cop_of_dvd_pow {b p q k : Nat} (h : Nat.gcd b p = 1) (hq : q ∣ b ^ k) : Nat.gcd p q = 1 := by
  have h1 : Nat.gcd (b ^ k) p = 1 := cop_pow h k
  have h2 : Nat.gcd p q ∣ Nat.gcd (b ^ k) p := Nat.dvd_gcd (Nat.dvd_trans (Nat.gcd_dvd_right p q) hq) (Nat.gcd_dvd_left p q)
  rw [h1] at h2
  exact Nat.dvd_one.mp h2
theorem IsPure.dvd {b n p p' : Nat} (h : IsPure b n p) (h' : IsPure b n p') : p ∣ p' := by
  obtain ⟨g, q, k, e, hq⟩ := h
  obtain ⟨g', q', k', e', hq'⟩ := h'
  have c : Nat.Coprime p q' := cop_of_dvd_pow g hq'
  refine c.dvd_of_dvd_mul_right ?_
  rw [← e', e]
  exact Nat.dvd_mul_right p q
theorem IsPure.uniq {b n p p' : Nat} (h : IsPure b n p) (h' : IsPure b n p') : p = p' := Nat.dvd_antisymm (h.dvd h') (h'.dvd h)
theorem IsPure.self {b n : Nat} (h : Nat.gcd b n = 1) : IsPure b n n := ⟨h, 1, 0, by simp, by simp⟩
/-! periods -/
def IsPer (b p d : Nat) : Prop := 1 ≤ d ∧ b ^ d % p = 1 % p ∧ ∀ j, 1 ≤ j → j < d → b ^ j % p ≠ 1 % p
theorem IsPer.uniq {b p d d' : Nat} (h : IsPer b p d) (h' : IsPer b p d') : d = d' := by
  obtain ⟨h1, h2, h3⟩ := h
  obtain ⟨g1, g2, g3⟩ := h'
  apply Nat.le_antisymm
  · apply Nat.le_of_not_lt
    intro l
    exact h3 d' g1 l g2
  · apply Nat.le_of_not_lt
    intro l
    exact g3 d h1 l h2
theorem least (P : Nat → Prop) [DecidablePred P] : ∀ n, P n → ∃ m, m ≤ n ∧ P m ∧ ∀ j, j < m → ¬ P j := by
  intro n
  induction n using Nat.strongRecOn with
  | _ n ih =>
    intro hn
    by_cases h : ∃ j, j < n ∧ P j
    · obtain ⟨j, hj, pj⟩ := h
      obtain ⟨m, hm, pm, q⟩ := ih j hj pj
      exact ⟨m, by omega, pm, q⟩
    · exact ⟨n, Nat.le_refl _, hn, fun j hj pj => h ⟨j, hj, pj⟩⟩
/-- a common factor that is pure may go: b ^ i * c ≡ b ^ i * d -/
theorem mod_cancel {p a c d : Nat} (g : Nat.gcd a p = 1) (h : a * c % p = a * d % p) : c % p = d % p := by
  have key : ∀ {c d : Nat}, c ≤ d → a * c % p = a * d % p → c % p = d % p := by
    intro c d hcd h
    have h1 : p ∣ a * (d - c) := by
      rw [Nat.mul_sub]
      exact (mod_iff (Nat.mul_le_mul_left a hcd)).mp h
    have h2 : p ∣ d - c := Nat.Coprime.dvd_of_dvd_mul_left (Nat.Coprime.symm g) h1
    exact (mod_iff hcd).mpr h2
  rcases Nat.le_total c d with l | l
  · exact key l h
  · exact (key l h.symm).symm
theorem per_exists {b p : Nat} (hp : 1 ≤ p) (g : Nat.gcd b p = 1) : ∃ d, d ≤ p ∧ IsPer b p d := by
  obtain ⟨i, j, hij, hj, e⟩ := pigeon p (fun k => b ^ k % p) (fun i _ => Nat.mod_lt _ hp)
  have e1 : b ^ (j - i) % p = 1 % p := by
    have e' : b ^ i * b ^ (j - i) % p = b ^ i * 1 % p := by
      rw [← Nat.pow_add, show i + (j - i) = j by omega, Nat.mul_one]
      exact e.symm
    exact mod_cancel (cop_pow g i) e'
  obtain ⟨m, hm, ⟨pm1, pm⟩, q⟩ := least (fun k => 1 ≤ k ∧ b ^ k % p = 1 % p) (j - i) ⟨by omega, e1⟩
  exact ⟨m, by omega, pm1, pm, fun k k1 kl z => q k kl ⟨k1, z⟩⟩
theorem pow_mod_step (b p k : Nat) : b ^ k % p * b % p = b ^ (k + 1) % p := by
  rw [Nat.mod_mul_mod, Nat.pow_succ]
theorem IsPer.mul {b p d : Nat} (h : IsPer b p d) (k : Nat) : b ^ (d * k) % p = 1 % p := by
  induction k with
  | zero => simp
  | succ k ih =>
    rw [Nat.mul_succ, Nat.pow_add, Nat.mul_mod, ih, h.2.1, ← Nat.mul_mod, Nat.mul_one]
theorem IsPer.iff {b p d : Nat} (h : IsPer b p d) (k : Nat) : b ^ k % p = 1 % p ↔ d ∣ k := by
  have e : b ^ k % p = b ^ (k % d) % p := by
    have := Nat.div_add_mod k d
    rw [show b ^ k = b ^ (d * (k / d) + k % d) by rw [this], Nat.pow_add, Nat.mul_mod, h.mul, ← Nat.mul_mod, Nat.one_mul]
  constructor
  · intro hk
    rw [e] at hk
    apply Nat.dvd_of_mod_eq_zero
    apply Classical.byContradiction
    intro hz
    exact h.2.2 (k % d) (by omega) (Nat.mod_lt _ h.1) hk
  · rintro ⟨m, rfl⟩
    exact h.mul m
/-! heads -/
def IsHead (b q h : Nat) : Prop := b ^ h % q = 0 ∧ ∀ j, j < h → b ^ j % q ≠ 0
theorem IsHead.uniq {b q h h' : Nat} (a : IsHead b q h) (c : IsHead b q h') : h = h' := by
  apply Nat.le_antisymm
  · apply Nat.le_of_not_lt
    intro l
    exact a.2 h' l c.1
  · apply Nat.le_of_not_lt
    intro l
    exact c.2 h l a.1
theorem head_exists {b q k : Nat} (h : q ∣ b ^ k) : ∃ m, m ≤ k ∧ IsHead b q m := by
  obtain ⟨m, hm, pm, r⟩ := least (fun j => b ^ j % q = 0) k (Nat.mod_eq_zero_of_dvd h)
  exact ⟨m, hm, pm, r⟩
theorem IsHead.iff {b q h : Nat} (a : IsHead b q h) (k : Nat) : q ∣ b ^ k ↔ h ≤ k := by
  constructor
  · intro d
    apply Nat.le_of_not_lt
    intro l
    exact a.2 k l (Nat.mod_eq_zero_of_dvd d)
  · intro l
    have d : q ∣ b ^ h := Nat.dvd_of_mod_eq_zero a.1
    rw [show k = h + (k - h) by omega, Nat.pow_add]
    exact Nat.dvd_trans d (Nat.dvd_mul_right _ _)
theorem head_le {b q h : Nat} (hq : 1 ≤ q) (a : IsHead b q h) : h ≤ q := by
  apply Nat.le_of_not_lt
  intro l
  -- among the first q + 1 remainders two are the same: then none is nought behind
  obtain ⟨i, j, hij, hj, e⟩ := pigeon q (fun k => b ^ k % q) (fun i _ => Nat.mod_lt _ hq)
  have key : ∀ k, b ^ (i + k) % q = b ^ (j + k) % q := by
    intro k
    rw [Nat.pow_add, Nat.pow_add, Nat.mul_mod, e, ← Nat.mul_mod]
  have hz : b ^ (j + (h - j)) % q = 0 := by
    rw [show j + (h - j) = h by omega]
    exact a.1
  rw [← key] at hz
  exact a.2 (i + (h - j)) (by omega) hz
/-! remainders -/
def rem (b n x i : Nat) : Nat := x * b ^ i % n
theorem rem_lt {b n x i : Nat} (h : 1 ≤ n) : rem b n x i < n := Nat.mod_lt _ h
theorem rem_succ (b n x i : Nat) : rem b n x i * b % n = rem b n x (i + 1) := by
  unfold rem
  rw [Nat.mod_mul_mod, Nat.pow_succ, Nat.mul_assoc]
theorem rem_zero {b n x : Nat} (h : x < n) : rem b n x 0 = x := by
  unfold rem
  rw [Nat.pow_zero, Nat.mul_one, Nat.mod_eq_of_lt h]
/-- THE RING: when remainders come again -/
theorem rem_eq {b n x p q h L i j : Nat} (gx : Nat.gcd x n = 1) (e : n = p * q) (gp : Nat.gcd b p = 1) (gq : Nat.gcd p q = 1) (hh : IsHead b q h) (hL : IsPer b p L) (hij : i < j) :
    rem b n x i = rem b n x j ↔ h ≤ i ∧ L ∣ j - i := by
  have hle : b ^ i ≤ b ^ j ∨ b = 0 := by
    rcases Nat.eq_zero_or_pos b with z | z
    · exact .inr z
    · exact .inl (Nat.pow_le_pow_right z (Nat.le_of_lt hij))
  have hs : b ^ j = b ^ i * b ^ (j - i) := by rw [← Nat.pow_add, show i + (j - i) = j by omega]
  unfold rem
  constructor
  · intro hr
    have h1 : b ^ i % n = b ^ j % n := mod_cancel gx hr
    have hp : b ^ i % p = b ^ j % p := by
      have := congrArg (· % p) h1
      rw [e, Nat.mod_mul_right_mod, Nat.mod_mul_right_mod] at this
      exact this
    have hq : b ^ i % q = b ^ j % q := by
      have := congrArg (· % q) h1
      rw [e, Nat.mod_mul_left_mod, Nat.mod_mul_left_mod] at this
      exact this
    have dL : L ∣ j - i := by
      rw [← hL.iff]
      refine mod_cancel (cop_pow gp i) ?_
      rw [← hs, Nat.mul_one]
      exact hp.symm
    refine ⟨?_, dL⟩
    rw [← hh.iff]
    -- q divides b ^ i * (b ^ (j - i) - 1), and b ^ (j - i) is a multiple that goes on: take many turns
    have key : ∀ k, b ^ i % q = b ^ (i + (j - i) * k) % q := by
      intro k
      induction k with
      | zero => simp
      | succ k ih =>
        rw [show i + (j - i) * (k + 1) = (j - i) + (i + (j - i) * k) by rw [Nat.mul_succ]; omega, Nat.pow_add, Nat.mul_mod, ← ih, ← Nat.mul_mod, ← Nat.pow_add, show (j - i) + i = j by omega]
        exact hq
    have hz : b ^ (i + (j - i) * h) % q = 0 := by
      apply Nat.mod_eq_zero_of_dvd
      rw [hh.iff]
      have : h ≤ (j - i) * h := Nat.le_mul_of_pos_left h (by omega)
      omega
    exact Nat.dvd_of_mod_eq_zero ((key h).trans hz)
  · rintro ⟨h1, h2⟩
    have hp : b ^ (j - i) % p = 1 % p := (hL.iff _).mpr h2
    have hqd : q ∣ b ^ i := (hh.iff i).mpr h1
    have hpd : b ^ i % p = b ^ j % p := by
      rw [hs, Nat.mul_mod, hp, ← Nat.mul_mod, Nat.mul_one]
    have both : b ^ i % n = b ^ j % n := by
      rcases hle with hle | hb
      · apply (mod_iff hle).mpr
        rw [e]
        refine Nat.Coprime.mul_dvd_of_dvd_of_dvd gq ?_ ?_
        · exact (mod_iff hle).mp hpd
        · rw [hs, ← Nat.mul_sub_one]
          exact Nat.dvd_trans hqd (Nat.dvd_mul_right _ _)
      · subst hb
        have hp1 : p = 1 := by rw [Nat.gcd_zero_left] at gp; exact gp
        subst hp1
        rw [Nat.one_mul] at e
        subst e
        rw [Nat.mod_eq_zero_of_dvd hqd, Nat.mod_eq_zero_of_dvd (by rw [hs]; exact Nat.dvd_trans hqd (Nat.dvd_mul_right _ _))]
    rw [Nat.mul_mod, both, ← Nat.mul_mod]
/-! all of a denominator in a base -/
structure Par (b n p q h L : Nat) : Prop where
  hp : IsPure b n p
  e : n = p * q
  hh : IsHead b q h
  hL : IsPer b p L
theorem pure_exists (b : Nat) : ∀ n, 1 ≤ n → ∃ p, IsPure b n p := by
  intro n
  induction n using Nat.strongRecOn with
  | _ n ih =>
    intro hn
    by_cases g : Nat.gcd b n = 1
    · exact ⟨n, IsPure.self g⟩
    · obtain ⟨c, hc⟩ := Nat.gcd_dvd_right b n
      have hg : 1 ≤ Nat.gcd b n := Nat.gcd_pos_of_pos_right b hn
      have hc1 : 1 ≤ c := by
        rcases Nat.eq_zero_or_pos c with z | z
        · rw [z] at hc
          omega
        · exact z
      have hcn : c < n := by
        have hg2 : 2 ≤ Nat.gcd b n := by omega
        have : 2 * c ≤ Nat.gcd b n * c := Nat.mul_le_mul_right c hg2
        omega
      obtain ⟨p, hp, q, k, e, d⟩ := ih c hcn hc1
      refine ⟨p, hp, Nat.gcd b n * q, k + 1, ?_, ?_⟩
      · conv => lhs; rw [hc, e]
        rw [Nat.mul_left_comm]
      · rw [Nat.pow_succ, Nat.mul_comm (b ^ k) b]
        exact Nat.mul_dvd_mul (Nat.gcd_dvd_left b n) d
theorem par_exists {b n : Nat} (hn : 1 ≤ n) : ∃ p q h L, Par b n p q h L := by
  obtain ⟨p, hp⟩ := pure_exists b n hn
  obtain ⟨g, q, k, e, d⟩ := id hp
  obtain ⟨h, _, hh⟩ := head_exists d
  have hp1 : 1 ≤ p := by
    rcases Nat.eq_zero_or_pos p with z | z
    · rw [z] at e
      omega
    · exact z
  obtain ⟨L, _, hL⟩ := per_exists hp1 g
  exact ⟨p, q, h, L, hp, e, hh, hL⟩
section
variable {b n p q h L : Nat}
theorem Par.p1 (P : Par b n p q h L) (hn : 1 ≤ n) : 1 ≤ p := by
  rcases Nat.eq_zero_or_pos p with z | z
  · have := P.e
    rw [z] at this
    omega
  · exact z
theorem Par.q1 (P : Par b n p q h L) (hn : 1 ≤ n) : 1 ≤ q := by
  rcases Nat.eq_zero_or_pos q with z | z
  · have := P.e
    rw [z] at this
    omega
  · exact z
theorem Par.pn (P : Par b n p q h L) (hn : 1 ≤ n) : p ≤ n := Nat.le_of_dvd hn ⟨q, P.e⟩
theorem Par.qn (P : Par b n p q h L) (hn : 1 ≤ n) : q ≤ n := Nat.le_of_dvd hn ⟨p, by rw [P.e, Nat.mul_comm]⟩
theorem Par.Ln (P : Par b n p q h L) (hn : 1 ≤ n) : L ≤ n := by
  obtain ⟨d, hd, hd'⟩ := per_exists (P.p1 hn) P.hp.1
  have := hd'.uniq P.hL
  have := P.pn hn
  omega
theorem Par.hn (P : Par b n p q h L) (hn : 1 ≤ n) : h ≤ n := Nat.le_trans (head_le (P.q1 hn) P.hh) (P.qn hn)
theorem Par.gq (P : Par b n p q h L) (hn : 1 ≤ n) : Nat.gcd p q = 1 := by
  obtain ⟨g, q', k, e, d⟩ := P.hp
  have : q' = q := by
    have := P.e
    rw [e] at this
    exact Nat.eq_of_mul_eq_mul_left (P.p1 hn) this
  subst this
  exact cop_of_dvd_pow g d
/-- the end of a row of remainders -/
theorem ring_end {x i j : Nat} (P : Par b n p q h L) (hn : 1 ≤ n) (gx : Nat.gcd x n = 1) (hd : ∀ u v, u < v → v < i → rem b n x u ≠ rem b n x v) (hj : j < i) (e : rem b n x j = rem b n x i) : i = h + L ∧ j = h := by
  have F := fun {u v : Nat} (l : u < v) => rem_eq (x := x) gx P.e P.hp.1 (P.gq hn) P.hh P.hL l
  obtain ⟨h1, h2⟩ := (F hj).mp e
  have hL1 := P.hL.1
  have hle := Nat.le_of_dvd (by omega) h2
  have hi : i ≤ h + L := by
    apply Nat.le_of_not_lt
    intro l
    exact hd h (h + L) (by omega) l ((F (by omega)).mpr ⟨Nat.le_refl _, by rw [show h + L - h = L by omega]; exact Nat.dvd_refl _⟩)
  omega
end
end Wn
namespace Wn
open PySem PySem.Spec PyProof.Rows L2
theorem CallR.imp {X : Cx} {f : Value} {r r' : List V → Hp → VK → Prop} (h : CallR X f r) (i : ∀ vs H Q, r' vs H Q → r vs H Q) : CallR X f r' :=
  fun pins s σ H vs us Q I rv x => h pins s σ H vs us Q I rv (i _ _ _ x)
/-! the built-in type of a value -/
def isB (T n : String) : Bool := T == n || (T == "bool" && n == "int")
def tyNames : List String := ["NoneType", "bool", "int", "str", "list", "tuple", "dict"]
def qyNames : List String := ["bool", "int", "str", "list", "tuple", "dict"]
theorem isB_ok : ∀ T ∈ tyNames, ∀ n ∈ qyNames, kitB T n = some (isB T n) := by decide +kernel
def rIs (K : PySem.W.Frag) : List V → Hp → VK → Prop := fun xs H Q => ∃ (x : V) (n : String), xs = [x, .ty n] ∧ ∃ T : String, (TyX K H x (.type T) ∧ T ∈ tyNames ∧ n ∈ qyNames) ∧ Q (.bl (isB T n)) H
theorem call_is {X : Cx} : CallR X (.builtin "isinstance") (rIs X.K) := CallR.imp call_isi fun vs H Q h => by
  obtain ⟨x, n, e, T, ⟨h1, h2, h3⟩, q⟩ := h
  exact ⟨x, .ty n, .type T, .type n, isB T n, e, .ty n, h1, kit_ty (isB_ok T h2 n h3), q⟩
theorem ty_int {K : PySem.W.Frag} {H : Hp} {i : Int} : TyX K H (.int i) (.type "int") := .base (.int i)
theorem ty_tup {K : PySem.W.Frag} {H : Hp} {a : Addr} {xs : List V} (h : H a = some (.tup xs)) : TyX K H (.ref a) (.type "tuple") := .base (.tup h)
theorem cxK {CX : CXT} {P : Program} {w : World} {K : PySem.W.Frag} {mg : Str → Option Value} {base : Heap} {N : List Str} {q : Str} {sc : Scope} {f : Addr} {cdv : Value} {A : Around} {outer : List Env} {s : Shared} {H : Hp} {E : XK} :
    (cxOf CX P w K mg base N q sc f cdv A outer s H E).nox.K = K := rfl
theorem cxK2 {CX : CXT} {P : Program} {w : World} {K : PySem.W.Frag} {mg : Str → Option Value} {base : Heap} {N : List Str} {q : Str} {sc : Scope} {f : Addr} {cdv : Value} {A : Around} {outer : List Env} {s : Shared} {H : Hp} {E : XK} :
    (cxOf CX P w K mg base N q sc f cdv A outer s H E).K = K := rfl
theorem start1 (x : Str) (N : List Str) (v : V) (vs : List V) : L2.start (x :: N) (v :: vs) = some v :: L2.start N vs := by
  unfold L2.start
  simp
theorem start2 (x : Str) (N : List Str) : L2.start (x :: N) [] = none :: L2.start N [] := by
  unfold L2.start
  simp [List.replicate_succ]
theorem start3 : L2.start [] [] = [] := rfl
theorem sq_tup {K : PySem.W.Frag} {H : Hp} {a : Addr} {xs : List V} (h : H a = some (.tup xs)) : SqT K H a xs := .inl (.inl h)
theorem sq_lst {K : PySem.W.Frag} {H : Hp} {a : Addr} {xs : List V} (h : H a = some (.lst xs)) : SqL K H a xs := .inl (.inl h)
theorem slA_of {K : PySem.W.Frag} {H : Hp} {a : Addr} {xs : List V} {lo hi : Option Int} {Q : VK} (h : H a = some (.tup xs)) (q : ∀ p H', Gr [] H H' → H' p = some (.tup (cutV xs lo hi)) → Q (.ref p) H') : rSlA K (.ref a) lo hi H Q := by
  refine ⟨a, xs, rfl, sq_tup h, ?_, ?_⟩
  · intro e
    refine q a H (Gr.refl _ _) ?_
    have z : cutV xs lo hi = xs := by
      unfold cutV
      rw [e.1, e.2, List.drop_zero, Nat.sub_zero, List.take_length]
    rw [z]
    exact h
  · intro _ p np
    exact q p _ (Gr.new np) upd_same
def rLn (K : PySem.W.Frag) : List V → Hp → VK → Prop := fun xs H Q => ∃ p ys, xs = [.ref p] ∧ (SqL K H p ys ∨ SqT K H p ys) ∧ Q (.int ys.length) H
theorem call_ln {X : Cx} : CallR X (.builtin "len") (rLn X.K) := call_len_seq
def rLsO (K : PySem.W.Frag) : List V → Hp → VK → Prop := fun xs H Q => ∃ p ys, xs = [.ref p] ∧ (SqL K H p ys ∨ SqT K H p ys) ∧ ∀ l, H l = none → Q (.ref l) (upd H l (.lst ys))
theorem call_lsO {X : Cx} : CallR X (.type "list") (rLsO X.K) := call_list_of
def rTpO (K : PySem.W.Frag) : List V → Hp → VK → Prop := fun xs H Q => ∃ p ys, xs = [.ref p] ∧ ((SqL K H p ys ∧ ∀ l, H l = none → Q (.ref l) (upd H l (.tup ys))) ∨ (SqT K H p ys ∧ Q (.ref p) H))
theorem call_tpO {X : Cx} : CallR X (.type "tuple") (rTpO X.K) := call_tuple_of
theorem cut_lo {xs : List V} {k : Nat} (h : k ≤ xs.length) : cutV xs none (some (k : Int)) = xs.take k := by
  unfold cutV
  rw [HT.sIx_nat, HT.sIx_none, List.drop_zero, Nat.sub_zero, Nat.min_eq_left h]
theorem cut_hi {xs : List V} {k : Nat} (h : k ≤ xs.length) : cutV xs (some (k : Int)) none = xs.drop k := by
  unfold cutV
  rw [HT.sIx_nat, HT.sIx_none, Nat.min_eq_left h]
  exact List.take_of_length_le (by rw [List.length_drop]; omega)
theorem icm (a b n : Nat) : (a : Int) * (b : Int) % (n : Int) = ((a * b % n : Nat) : Int) := by
  rw [← Int.natCast_mul, ← Int.natCast_emod]
theorem icd (a b n : Nat) : (a : Int) * (b : Int) / (n : Int) = ((a * b / n : Nat) : Int) := by
  rw [← Int.natCast_mul, ← Int.natCast_ediv]
local macro_rules | `(tactic| walk_at "vc") => `(tactic| simp only [cxK, cxK2, start1, start2, start3, tRet, tRetN, tSeq, tNext, tIfS, tAsg, gName, tDrop, tVar, tC, tOp, tUn, tTest, tB, tNot, tAnd, tOr, tAndV, tOrV, tNotV, tIf, tCons, tNil, tCB, tCall, tChain, tAug, ipI, rI, rI0, rU, rIs, rGcd, rEq, rNe, scal,
  List.getElem?_cons_zero, List.getElem?_cons_succ, List.set_cons_zero, List.set_cons_succ, Option.some.injEq, List.cons.injEq, V.int.injEq, V.bl.injEq, V.ref.injEq, V.str.injEq, and_true, true_and, exists_eq_left, exists_eq_left', exists_and_left, exists_and_right, List.append_nil, List.nil_append, List.cons_append, exists_eq_right, exists_eq_right', and_assoc, exists_const, V.ty.injEq, ↓reduceIte, Bool.false_eq_true, Bool.not_true, Bool.not_false, decide_eq_true_eq])
end Wn
/-! contracts where nothing is being shown (no repr runs around): for defs that ask repr of lists, tuples, dicts -/
namespace Wn
open PySem PySem.Spec PyProof.Rows L2
structure FnG (P : Program) (w : World) (K : PySem.W.Frag) (mg : Str → Option Value) (base : Heap) (CX : CXT) (k : Nat) (f : Addr) (fd : FuncData) (ps : List Str) (sp : Sp) : Prop where
  sz : ∀ vs H Q E, sp vs H Q E → vs.length = ps.length
  go : ∀ (A : Around), A.guards = some [] → Room k A → ∀ (outer : List Env) (s : Shared) (H : Hp) (args : Args) (us : List Value) (vs : List V) (Q : VK) (E : XK),
    Env0 P w K mg base A outer s H → BindsTo s fd args (ps.zip us) → Vals vs us → sp vs H Q E → codeAny (model P w) A (.call (.ref f) args) (CR CX outer P w H s Q E) s
section
variable {P : Program} {w : World} {K : PySem.W.Frag} {mg : Str → Option Value} {base : Heap} {CX : CXT} {k : Nat} {f : Addr} {fd : FuncData} {ps : List Str} {sp : Sp}
theorem FnG.of (F : FnOk P w K mg base CX k f fd ps sp) : FnG P w K mg base CX k f fd ps sp :=
  ⟨F.len, fun A _ hr outer s H args us vs Q E e b v h => F.run A outer s H args us vs Q E hr e b v h⟩
theorem FnG.up {j : Nat} (F : FnG P w K mg base CX j f fd ps sp) (h : j ≤ k) : FnG P w K mg base CX k f fd ps sp :=
  ⟨F.sz, fun A hg hr => F.go A hg (hr.mono h)⟩
/-- a def by its body -/
theorem fnG {x qual : Str} {st : Stmt} {N : List Str} (F : Fun K x qual st f fd) (S : FnScope N ps (defScope st)) (sz : ∀ vs H Q E, sp vs H Q E → vs.length = ps.length)
    (body : ∀ (cdv : Value) (A : Around) (outer : List Env) (s : Shared) (H : Hp) (vs : List V) (Q : VK) (E : XK), (A.deeper (envOfC qual (defScope st) s.heap.objs.size f cdv)).guards = some [] →
      Room k (A.deeper (envOfC qual (defScope st) s.heap.objs.size f cdv)) → sp vs H Q E →
      ∃ t, PSs (cxOf CX P w K mg base N qual (defScope st) f cdv A outer s H E) (defBody st) t ∧ t { nx := fun _ H' => Q .non H', rt := Q } (L2.start N vs) H) : FnG P w K mg base CX (k + 1) f fd ps sp := by
  obtain ⟨oc, od, kV, doc, pm, an, cdv, ct, osl, rfl, lk, hcd⟩ := F.ex
  refine ⟨sz, fun A hgd hr outer s H args us vs Q E e0 hb r h => ?_⟩
  have KI : K.In s.heap := e0.mod.kin.keeps fun b o e => (e0.bs b o e).1
  have NL : s.heap.NoLimit := e0.mod.nolimit.keeps fun b o e => (e0.bs b o e).1
  refine codeAny_call_function hr.depth (KI _ _ lk) rfl S.co S.gen rfl (PySem.W.codeRec_of KI hcd) (hb _ _ _ _ ?_)
  refine wpAny_newFunctionEnv_cells S.kind (fun y hy => ?_) fun env he s1 x => ?_
  · obtain ⟨n, v⟩ := y
    rcases S.par n (List.of_mem_zip hy).1 with q | q
    · exact .inl q
    · exact .inr ⟨q, PySem.W.cellsFrom_some _ _ _ (.inl q)⟩
  · subst he
    refine ⟨NL.keeps x.toInCall.keep, codeAny_func ?_⟩
    obtain ⟨t, ht, hq⟩ := body cdv A outer s H vs Q E hgd (hr.deeper _) h
    refine wpAny_mono (ht.run [] s1 _ H _ (inv_start S hr.hd e0 (sz _ _ _ _ h) r x) hq) (fun fl s' z => ?_) fun e s' z => z
    cases fl with
    | ret u =>
      obtain ⟨v, σ', H', J, rv, q⟩ := z
      exact ⟨v, H', J.os, J.bare, J.base, J.hok, rv, q⟩
    | next =>
      obtain ⟨σ', H', J, q⟩ := z
      exact ⟨.non, H', J.os, J.bare, J.base, J.hok, rfl, q⟩
    | brk =>
      obtain ⟨_, _, _, q⟩ := z
      exact q.elim
    | cont =>
      obtain ⟨_, _, _, q⟩ := z
      exact q.elim
/-- no exception leaves it -/
theorem fnG0 {x qual : Str} {st : Stmt} {N : List Str} (F : Fun K x qual st f fd) (S : FnScope N ps (defScope st)) (sz : ∀ vs H Q E, sp vs H Q E → vs.length = ps.length)
    (body : ∀ (cdv : Value) (A : Around) (outer : List Env) (s : Shared) (H : Hp) (vs : List V) (Q : VK) (E : XK), (A.deeper (envOfC qual (defScope st) s.heap.objs.size f cdv)).guards = some [] →
      Room k (A.deeper (envOfC qual (defScope st) s.heap.objs.size f cdv)) → sp vs H Q E →
      ∃ t, PSs (cxOf CX0 P w K mg base N qual (defScope st) f cdv A outer s H E).nox (defBody st) t ∧ t { nx := fun _ H' => Q .non H', rt := Q } (L2.start N vs) H) : FnG P w K mg base CX0 (k + 1) f fd ps sp :=
  fnG F S sz fun cdv A outer s H vs Q E g r h => let ⟨t, ht, q⟩ := body cdv A outer s H vs Q E g r h; ⟨t, ht.nox, q⟩
end
section
variable {X : Cx} {CX : CXT} {k : Nat} {f : Addr} {fd : FuncData} {ps : List Str} {sp : Sp} {dvs : List V} {ds : List Value} {E : XK} {x : Str} {p pos : Pos} {e : Expr} {es : List Expr} {t : TA}
theorem runG {pins : List (Addr × Obj)} {σ : L2.St} {H : Hp} {s : Shared} {Q : VK} {us : List Value} {vs : List V} (F : FnG X.prog X.w X.K X.mg X.base CX k f fd ps sp) (hgd : X.A.guards = some []) (hr : Room k X.A) (hb : Binds X.K fd ps ds) (hd : Vals dvs ds)
    (hx : Passes CX X E) (I : Inv X pins σ H s) (r : Vals vs us) (h : sp (vs ++ dvs) H Q E) : wpAny (model X.prog X.w) X.A (call (.ref f) us) (EP X pins σ Q) X.xe s := by
  have rr := r.append hd
  refine wpAny_call (codeAny_mono (F.go X.A hgd hr X.stack s H ⟨us, []⟩ (us ++ ds) (vs ++ dvs) Q E I.env0 (hb s us I.kIn (rr.length ▸ F.sz _ _ _ _ h)) rr h) fun z s' q => ?_)
  match z, q with
  | .error e, q => exact hx pins σ H s e s' I q
  | .ok (.ret u), q => exact I.after q
  | .ok .next, q => exact q.elim
  | .ok .brk, q => exact q.elim
  | .ok .cont, q => exact q.elim
theorem pe_callG (hgd : X.A.guards = some []) (F : FnG X.prog X.w X.K X.mg X.base CX k f fd ps sp) (hr : Room k X.A) (hg : Gl X x) (hm : X.mg x = some (.ref f)) (hk : PySem.W.keepIn X.K (.ref f) = true) (hb : Binds X.K fd ps ds) (hd : Vals dvs ds) (hx : Passes CX X E)
    (ha : PA X (e :: es) t) (hdb : (x == ("__debug__" : Str)) = false := by decide) (he : starEach (e :: es) X.env = (false, eval e X.env) :: starEach es X.env := by rfl) (hpl : (backTo pos (starEach es X.env)).any (·.1) = false := by rfl) :
    PE X (.Call (.Name x p) (e :: es) [] pos) (tCall sp dvs E t) :=
  ⟨fun pins s σ H Q I h => wpAny_Call_Name_kw (ld_glob I hg hm (PySem.W.callWith_K (h₀ := X.base) I.ok.mod.kin hk (thn (ha.run pos pins s σ H _ I h) fun us s1 ⟨vs, H1, I1, r, q⟩ => ⟨I1.kIn, runG F hgd hr hb hd hx I1 r q⟩) he hpl) hdb)⟩
theorem pe_callG0 (hgd : X.A.guards = some []) (F : FnG X.prog X.w X.K X.mg X.base CX k f fd ps sp) (hr : Room k X.A) (hg : Gl X x) (hm : X.mg x = some (.ref f)) (hk : PySem.W.keepIn X.K (.ref f) = true) (hb : Binds X.K fd ps ds) (hd : Vals dvs ds) (hx : Passes CX X E)
    (hdb : (x == ("__debug__" : Str)) = false := by decide) : PE X (.Call (.Name x p) [] [] pos) (tCall sp dvs E tNil) :=
  ⟨fun pins s σ H Q I h => wpAny_Call_Name_kw (ld_glob I hg hm (PySem.W.callWith_K0 I.kIn hk (runG (us := []) F hgd hr hb hd hx I .nil h)) hdb)⟩
end
/-! the law's own head -/
theorem law_callG {P : Program} {w : World} {K : PySem.W.Frag} {mg mb : Str → Option Value} {CX : CXT} {k : Nat} {fa a : Addr} {fd : FuncData} {x : Str} {sp : Sp} {s1 : Shared} {vs : List Value} {ns : List Int}
    (KX : K.In s1.heap) (hns : s1.heap.Ns mainGlobals mg) (hb : s1.heap.Ns builtinsNs mb) (hbb : ∀ x : Str, x ≠ "__name__" → mb x = bootBuiltins x) (hlim : s1.heap.NoLimit) (hg : s1.gens = #[])
    (ha : s1.heap.get? a = some { cls := .type "list", data := .seq vs.toArray }) (hi : IntsAre vs ns) (hl : ns.length ≤ sizeLine) (hr : Room k callerA)
    (F : ∀ base : Heap, K.In base → base.Ns mainGlobals mg → FnG P w K mg base CX k fa fd [x] sp) (hbind : ∀ (s : Shared) (u : Value), BindsTo s fd ⟨[u], []⟩ [(x, u)])
    (hsp : ∀ H : Hp, Only H → SqL K H a (ns.map V.int) → sp [.ref a] H (fun v _ => v = .bl true) fun _ _ _ => False)
    (hCX : ∀ H e s', CX [] H s1 (fun _ _ _ => False) e s' → False) :
    codeAny (model P w) callerA (.call (.ref fa) ⟨[.ref a], []⟩) (fun r s' => r = .ok (.ret (.bool true)) ∧ OldK s1.heap s'.heap ∧ s'.os = s1.os ∧ AllBare s'.gens) s1 := by
  -- the script is tracked, unless it is one of the text's own objects
  obtain ⟨H, hH⟩ : ∃ H : Hp, H = fun b => if b = a ∧ K.lookup a = none then some (.frz { cls := .type "list", data := .seq vs.toArray } (.lst (ns.map V.int))) else none := ⟨_, rfl⟩
  have at_ : ∀ b u, H b = some u → b = a ∧ K.lookup a = none ∧ u = .frz { cls := .type "list", data := .seq vs.toArray } (.lst (ns.map V.int)) := fun b u z => by
    rw [hH] at z
    dsimp only at z
    split at z
    · rename_i c
      exact ⟨c.1, c.2, (Option.some.inj z).symm⟩
    · cases z
  have off : ∀ b o, s1.heap.get? b = some o → (∀ q, K.lookup b = some q → True) → (∀ n, o.data ≠ .seq vs.toArray n) → H b = none := fun b o e _ d => by
    cases z : H b with
    | none => rfl
    | some u =>
      obtain ⟨rfl, _, _⟩ := at_ b u z
      rw [ha] at e
      cases e
      exact absurd rfl (d _)
  have kb : ∀ b o, K.lookup b = some o → H b = none := fun b o e => by
    cases z : H b with
    | none => rfl
    | some u =>
      obtain ⟨rfl, z2, _⟩ := at_ b u z
      rw [z2] at e
      cases e
  have ok : HOk P w H s1.heap := fun b u z => by
    obtain ⟨rfl, _, rfl⟩ := at_ b u z
    exact ⟨ha, by rw [List.length_map]; exact hl, vs, _, vals_ints hi, ha⟩
  have sq : SqL K H a (ns.map V.int) := by
    cases z : K.lookup a with
    | none =>
      refine .inl (.inr ⟨{ cls := .type "list", data := .seq vs.toArray }, ?_⟩)
      rw [hH]
      exact if_pos ⟨rfl, z⟩
    | some o =>
      have e := KX a o z
      rw [ha] at e
      cases e
      exact .inr ⟨_, vs.toArray, _, z, rfl, rfl, rfl, by rw [List.size_toArray, hi.length]; exact hl, by simpa using vals_ints hi⟩
  have only : Only H := fun b => by
    cases z : H b with
    | none => exact .inl rfl
    | some u =>
      obtain ⟨_, _, rfl⟩ := at_ b u z
      exact .inr ⟨_, _, rfl⟩
  have nsB : ∀ {b : Addr} {m : Str → Option Value}, s1.heap.Ns b m → (hidT s1.heap H).Ns b m := fun {b m} ⟨o, es, ep, e, d, r⟩ => ⟨o, es, ep, hidT_get e (off b o e (fun _ _ => trivial) fun n z => by rw [d] at z; cases z), d, r⟩
  have KB : K.In (hidT s1.heap H) := fun b o e => hidT_get (KX b o e) (kb b o e)
  have M : Mod K mg (hidT s1.heap H) := ⟨KB, nsB hns, ⟨mb, nsB hb, hbb⟩, let ⟨mc, h1, h2⟩ := hlim; ⟨mc, nsB h1, h2⟩⟩
  have E0' : Env0 P w K mg (hidT s1.heap H) callerA [] s1 H := ⟨rfl, M, fun b o e => of_hidT e, Nat.le_of_eq (hidT_size _ _), trivial, fun b z => absurd (show b ∈ ([] : List Addr) from z) (by simp), ok, .of_eq hg⟩
  refine codeAny_mono ((F _ KB (nsB hns)).go callerA rfl hr [] s1 H ⟨[.ref a], []⟩ [.ref a] [.ref a] _ _ E0' (hbind s1 (.ref a)) (.cons rfl .nil) (hsp H only sq)) fun r s' z => ?_
  match r, z with
  | .error e, z => exact (hCX H e s' z).elim
  | .ok .next, z => exact z.elim
  | .ok .brk, z => exact z.elim
  | .ok .cont, z => exact z.elim
  | .ok (.ret u), z =>
    obtain ⟨v, H', os, bare, un, ok', rv, q⟩ := z
    obtain rfl : v = .bl true := q
    obtain rfl : u = Value.bool true := rv
    refine ⟨rfl, OldK.of_keep fun b o e => ?_, os, bare⟩
    cases y : H b with
    | none => exact un.keep b o e y (fun c => absurd (show b ∈ ([] : List Addr) from c) (by simp)) (by simp)
    | some u =>
      obtain ⟨rfl, _, rfl⟩ := at_ b u y
      rw [ha] at e
      cases e
      exact (ok' _ _ (un.frzs _ _ _ y)).1
theorem walkG {l : PySem.W.OpenLaw} {n k : Nat} {q : Program} {loose : List Str} {XP : (Str → Option Value) → Heap → Prop} {YP : World → Heap → Prop} {d : DefRec} {K : Params → PySem.W.Frag} {sp : World → Sp} {x : Str}
    (hn : l.most = some n) (hn2 : n ≤ sizeLine) (hdf : d.params.defaults = []) (hr : Room k callerA) (hY : ∀ (w : World) (h : Heap), YP w h → (K w.params).In h)
    (F : ∀ (w : World) (mg : Str → Option Value) (fa : Addr) (h : Heap), (K w.params).In h → h.Ns mainGlobals mg → mg d.name = some (.ref fa) →
      ∃ fd : FuncData, (∀ (s : Shared) (u : Value), BindsTo s fd ⟨[u], []⟩ [(x, u)]) ∧ ∀ base : Heap, (K w.params).In base → base.Ns mainGlobals mg → FnG l.prog w (K w.params) mg base CX0 k fa fd [x] (sp w))
    (hsp : ∀ (w : World) (H : Hp) (a : Addr) (ns : List Int), ns.length ≤ n → Only H → SqL (K w.params) H a (ns.map V.int) → sp w [.ref a] H (fun v _ => v = .bl true) fun _ _ _ => False) :
    PySem.W.WalkO q loose XP YP l.row.toRowW d [] (fun f vs => PySem.call f vs) :=
  Att.attach_call hn hdf fun w s0 s1 mg mb fa o pm cd doc a vs ns G Y ho hd hcd hmg hobj hints hlen hg => by
    obtain ⟨fd, hb, hF⟩ := F w mg fa _ (hY w _ Y) G.T.g hmg
    exact law_callG (hY w _ Y) G.T.g G.T.b G.T.builtins G.T.nolimit hg hobj hints (Nat.le_trans hlen hn2) hr hF hb (fun H hO hS => hsp w H a ns hlen hO hS) fun H e s' z => z
end Wn
/-! repr of data -/
namespace Wn
open PySem PySem.Spec PyProof.Rows L2
/-- data that repr takes: leaves of at most B signs, weight at most W, depth at most D -/
structure Sm (d : PyData) (B D W : Nat) : Prop where
  show_ : d.showable = true
  leaf : d.leavesShort B = true
  nod : d.hasDict = false
  lay : d.canLay0 = true
  dep : d.depth ≤ D
  wei : d.bulk ≤ W
theorem Sm.all : ∀ {xs : List PyData} {B D W : Nat}, (∀ x ∈ xs, Sm x B D W) → PyData.showableAll xs = true ∧ PyData.leavesShortAll B xs = true ∧ PyData.hasDictAll xs = false ∧ PyData.canLayAll0 xs = true ∧ PyData.depthAll xs ≤ D ∧ PyData.bulkAll xs ≤ xs.length * (W + 1)
  | [], _, _, _, _ => ⟨rfl, rfl, rfl, rfl, Nat.zero_le _, Nat.zero_le _⟩
  | x :: xs, B, D, W, h => by
    obtain ⟨h1, h2, h3, h6, h4, h5⟩ := Sm.all (xs := xs) fun y hy => h y (List.mem_cons_of_mem _ hy)
    have hx := h x (List.mem_cons_self ..)
    refine ⟨?_, ?_, ?_, ?_, ?_, ?_⟩
    · show (x.showable && PyData.showableAll xs) = true
      rw [hx.show_, h1]
      rfl
    · show (x.leavesShort B && PyData.leavesShortAll B xs) = true
      rw [hx.leaf, h2]
      rfl
    · show (x.hasDict || PyData.hasDictAll xs) = false
      rw [hx.nod, h3]
      rfl
    · show (x.canLay0 && PyData.canLayAll0 xs) = true
      rw [hx.lay, h6]
      rfl
    · show max x.depth (PyData.depthAll xs) ≤ D
      exact Nat.max_le.mpr ⟨hx.dep, h4⟩
    · show x.bulk + 1 + PyData.bulkAll xs ≤ (xs.length + 1) * (W + 1)
      rw [Nat.succ_mul]
      have := hx.wei
      omega
theorem Sm.lst {xs : List PyData} {B D W : Nat} (n : Nat) (h : ∀ x ∈ xs, Sm x B D W) (hn : xs.length ≤ n) : Sm (.list xs) B (D + 1) (n * (W + 1)) := by
  obtain ⟨h1, h2, h3, h6, h4, h5⟩ := Sm.all h
  exact ⟨h1, h2, h3, h6, Nat.succ_le_succ h4, Nat.le_trans h5 (Nat.mul_le_mul_right _ hn)⟩
theorem Sm.tup {xs : List PyData} {B D W : Nat} (n : Nat) (h : ∀ x ∈ xs, Sm x B D W) (hn : xs.length ≤ n) : Sm (.tuple xs) B (D + 1) (n * (W + 1)) := by
  obtain ⟨h1, h2, h3, h6, h4, h5⟩ := Sm.all h
  exact ⟨h1, h2, h3, h6, Nat.succ_le_succ h4, Nat.le_trans h5 (Nat.mul_le_mul_right _ hn)⟩
theorem Sm.mono {d : PyData} {B D W D' W' : Nat} (h : Sm d B D W) (h1 : D ≤ D') (h2 : W ≤ W') : Sm d B D' W' := ⟨h.show_, h.leaf, h.nod, h.lay, Nat.le_trans h.dep h1, Nat.le_trans h.wei h2⟩
theorem log2_lt {a k : Nat} (hk : 1 ≤ k) (h : a < 2 ^ k) : a.log2 < k := by
  rcases Nat.eq_zero_or_pos a with z | z
  · rw [z, Nat.log2_zero]
    exact hk
  · exact (Nat.log2_lt (by omega)).mpr h
/-- a whole number below 10 ^ 12 and below 2 ^ k -/
theorem Sm.int {i : Int} {k : Nat} (hk : 1 ≤ k) (h : i.natAbs < 2 ^ k) (hk2 : k ≤ 39) : Sm (.int i) 13 0 k := by
  have hl := log2_lt hk h
  have h12 : i.natAbs < 10 ^ 12 := Nat.lt_of_lt_of_le h (Nat.le_trans (Nat.pow_le_pow_right (by decide) hk2) (by decide))
  refine ⟨?_, ?_, rfl, rfl, Nat.le_refl _, ?_⟩
  · show decide (i.natAbs.log2 < 1920) = true
    exact decide_eq_true (by omega)
  · show decide ((PyData.shown (.int i)).length ≤ 13) = true
    exact decide_eq_true (PyData.shown_int_le h12)
  · show 0 ≤ k
    omega
def Fits (d : PyData) : Prop := ∃ B D W, Sm d B D W ∧ 8 ≤ B ∧ D ≤ 100 ∧ (B + 2) * W + B ≤ 16777216
theorem Fits.len {d : PyData} (h : Fits d) : d.shown.length ≤ sizeLine := by
  obtain ⟨B, D, W, s, h1, h2, h3⟩ := h
  have := PyData.shown_le_bulk B h1 d s.leaf
  rw [sizeLine_eq]
  have : (B + 2) * d.bulk ≤ (B + 2) * W := Nat.mul_le_mul_left _ s.wei
  omega
theorem Fits.shaped {d : PyData} (h : d.canLay0 = true) (h2 : d.depth ≤ 64) : SeqAt.shaped d = true := by
  unfold SeqAt.shaped
  rw [h, decide_eq_true h2]
  rfl
theorem Sm.fits {d : PyData} {D W : Nat} (h : Sm d 13 D W) (h1 : D ≤ 64 := by decide) (h2 : W ≤ 1100000 := by decide) : Fits d := ⟨13, D, W, h, by decide, by omega, by omega⟩
theorem Sm.fitsB {d : PyData} {B D W : Nat} (h : Sm d B D W) (h0 : 8 ≤ B := by decide) (h1 : D ≤ 64 := by decide) (h2 : (B + 2) * W + B ≤ 16777216 := by decide) : Fits d := ⟨B, D, W, h, h0, by omega, h2⟩
theorem Sm.shaped {d : PyData} {B D W : Nat} (h : Sm d B D W) (h1 : D ≤ 64 := by decide) : SeqAt.shaped d = true := Fits.shaped h.lay (Nat.le_trans h.dep h1)
/-! data stands while lists and tuples stand -/
def Kp (H H' : Hp) : Prop := (∀ a xs, H a = some (.lst xs) → H' a = some (.lst xs)) ∧ (∀ a xs, H a = some (.tup xs) → H' a = some (.tup xs)) ∧ ∀ a o u, H a = some (.frz o u) → H' a = some (.frz o u)
theorem Kp.of {H H' : Hp} (g : Gr [] H H') : Kp H H' := ⟨fun a _ e => g a _ (by simp) e, fun a _ e => g a _ (by simp) e, fun a _ _ e => g a _ (by simp) e⟩
theorem Kp.ofM {H H' : Hp} {d : Addr} (g : Gr [d] H H') (h : ∃ kvs, H d = some (.dK kvs)) : Kp H H' := by
  obtain ⟨kvs, h⟩ := h
  have ne : ∀ {a o}, H a = some o → (∀ k, o ≠ .dK k) → a ∉ [d] := fun {a o} e k z => by
    rw [List.mem_singleton] at z
    subst z
    rw [h] at e
    exact k _ (Option.some.inj e).symm
  exact ⟨fun a _ e => g a _ (ne e fun _ z => by cases z) e, fun a _ e => g a _ (ne e fun _ z => by cases z) e, fun a _ _ e => g a _ (ne e fun _ z => by cases z) e⟩
theorem Kp.trans {H H1 H2 : Hp} (a : Kp H H1) (b : Kp H1 H2) : Kp H H2 := ⟨fun x _ e => b.1 x _ (a.1 x _ e), fun x _ e => b.2.1 x _ (a.2.1 x _ e), fun x _ _ e => b.2.2 x _ _ (a.2.2 x _ _ e)⟩
theorem Kp.sqL {K : PySem.W.Frag} {H H' : Hp} {a : Addr} {xs : List V} (k : Kp H H') (h : SqL K H a xs) : SqL K H' a xs := by
  rcases h with (h | ⟨o, h⟩) | h
  · exact .inl (.inl (k.1 _ _ h))
  · exact .inl (.inr ⟨o, k.2.2 _ _ _ h⟩)
  · exact .inr h
theorem Kp.sqT {K : PySem.W.Frag} {H H' : Hp} {a : Addr} {xs : List V} (k : Kp H H') (h : SqT K H a xs) : SqT K H' a xs := by
  rcases h with (h | ⟨o, h⟩) | h
  · exact .inl (.inl (k.2.1 _ _ h))
  · exact .inl (.inr ⟨o, k.2.2 _ _ _ h⟩)
  · exact .inr h
mutual
theorem Dp.kp {K : PySem.W.Frag} {H H' : Hp} (k : Kp H H') : ∀ {v : V} {d : PyData}, Dp K H v d → Dp K H' v d
  | _, _, .non => .non
  | _, _, .bl b => .bl b
  | _, _, .int i => .int i
  | _, _, .str x => .str x
  | _, _, .lst h1 h2 => .lst (k.sqL h1) (DpAll.kp k h2)
  | _, _, .tup h1 h2 => .tup (k.sqT h1) (DpAll.kp k h2)
theorem DpAll.kp {K : PySem.W.Frag} {H H' : Hp} (k : Kp H H') : ∀ {vs : List V} {ds : List PyData}, DpAll K H vs ds → DpAll K H' vs ds
  | _, _, .nil => .nil
  | _, _, .cons h1 h2 => .cons (Dp.kp k h1) (DpAll.kp k h2)
end
theorem dpAll_ints {K : PySem.W.Frag} {H : Hp} : ∀ ns : List Int, DpAll K H (ns.map V.int) (ns.map PyData.int)
  | [] => .nil
  | n :: r => .cons (.int n) (dpAll_ints r)
theorem dp_lst {K : PySem.W.Frag} {H : Hp} {a : Addr} {xs : List V} {ds : List PyData} (h : H a = some (.lst xs)) (h2 : DpAll K H xs ds) : Dp K H (.ref a) (.list ds) := .lst (sq_lst h) h2
theorem dp_tup {K : PySem.W.Frag} {H : Hp} {a : Addr} {xs : List V} {ds : List PyData} (h : H a = some (.tup xs)) (h2 : DpAll K H xs ds) : Dp K H (.ref a) (.tuple ds) := .tup (sq_tup h) h2
def rRepr (K : PySem.W.Frag) : List V → Hp → VK → Prop := fun xs H Q => ∃ (x : V) (d : PyData), xs = [x] ∧ Dp K H x d ∧ Fits d ∧ Q (.str d.shown) H
theorem call_repr {X : Cx} (hg : X.A.guards = some []) (hu : X.A.units + 200 < cLine) : CallR X (.builtin "repr") (rRepr X.K) := by
  intro pins s σ H xs us Q I r h
  obtain ⟨x, d, rfl, hd, hf, q⟩ := h
  obtain ⟨u, rfl, rx⟩ := vals1 r
  have fin : ∀ tk' tk, EP X pins σ Q (.str d.shown tk) { s with toks := tk' } := fun tk' tk => ⟨.str _, H, I.tok _, ⟨_, rfl⟩, q⟩
  have hl := hf.len
  cases hd with
  | non =>
    obtain rfl : u = Value.none := rx
    exact PySem.P.repr_of_none (fin _ _)
  | bl b =>
    obtain rfl : u = Value.bool b := rx
    exact PySem.P.repr_of_bool (fin _ _)
  | int i =>
    obtain ⟨t, rfl⟩ := rx
    obtain ⟨B, D, W, sm, _⟩ := hf
    exact PySem.P.repr_of_int (of_decide_eq_true sm.show_) (fin _ _)
  | str y =>
    obtain ⟨t, rfl⟩ := rx
    exact PySem.P.repr_of_str (fin _ _) hl
  | lst h1 h2 =>
    rename_i a xs ds
    obtain rfl : u = Value.ref a := rx
    obtain ⟨as, rd⟩ := Dp.reads I (.list ds) (.ref a) (.ref a) (.lst h1 h2) rfl
    obtain ⟨B, D, W, sm, _, hD, _⟩ := hf
    have := sm.dep
    refine repr_of_reads' rd sm.show_ (fun z => absurd (sm.nod.symm.trans z) (by decide)) hg (by omega) (fun _ _ e => e) (fun h' u tk k => ⟨.str _, H, I.un (Un.kept k) (I.hok.kept k), ⟨_, rfl⟩, q⟩) hl
  | tup h1 h2 =>
    rename_i a xs ds
    obtain rfl : u = Value.ref a := rx
    obtain ⟨as, rd⟩ := Dp.reads I (.tuple ds) (.ref a) (.ref a) (.tup h1 h2) rfl
    obtain ⟨B, D, W, sm, _, hD, _⟩ := hf
    have := sm.dep
    refine repr_of_reads' rd sm.show_ (fun z => absurd (sm.nod.symm.trans z) (by decide)) hg (by omega) (fun _ _ e => e) (fun h' u tk k => ⟨.str _, H, I.un (Un.kept k) (I.hok.kept k), ⟨_, rfl⟩, q⟩) hl
theorem gu_of {A : Around} {k : Nat} (hr : Room k A) : A.units + 200 < cLine := by
  have := hr.un
  omega
end Wn
/-! expressions that give data and leave all as it was -/
namespace Wn
open PySem PySem.Spec PyProof.Rows L2
section
variable {K : PySem.W.Frag} {σ : L2.St} {H : Hp}
def EvD (K : PySem.W.Frag) (te : TE) (σ : L2.St) (H : Hp) (d : PyData) : Prop := ∀ H1, Gr [] H H1 → ∀ Q : VK, (∀ v H2, Gr [] H1 H2 → Dp K H2 v d → Q v H2) → te σ H1 Q
def EvS (K : PySem.W.Frag) (ta : TA) (σ : L2.St) (H : Hp) (ds : List PyData) : Prop := ∀ H1, Gr [] H H1 → ∀ Q : List V → Hp → Prop, (∀ vs H2, Gr [] H1 H2 → DpAll K H2 vs ds → Q vs H2) → ta σ H1 Q
/-- a list that stands as such -/
def EvL (K : PySem.W.Frag) (te : TE) (σ : L2.St) (H : Hp) (ds : List PyData) : Prop := ∀ H1, Gr [] H H1 → ∀ Q : VK, (∀ p xs H2, Gr [] H1 H2 → H2 p = some (.lst xs) → DpAll K H2 xs ds → Q (.ref p) H2) → te σ H1 Q
theorem EvD.on {te : TE} {d : PyData} {H' : Hp} (h : EvD K te σ H d) (g : Gr [] H H') : EvD K te σ H' d := fun H1 g1 Q q => h H1 (g.trans g1) Q q
theorem EvL.d {te : TE} {ds : List PyData} (h : EvL K te σ H ds) : EvD K te σ H (.list ds) := fun H1 g Q q => h H1 g Q fun p xs H2 g2 e a => q _ H2 g2 (dp_lst e a)
theorem ev_var {i : Nat} {v : V} {d : PyData} (e : σ[i]? = some (some v)) (h : Dp K H v d) : EvD K (tVar i) σ H d := fun H1 g Q q => ⟨v, e, q v H1 (Gr.refl _ _) (Dp.kp (Kp.of g) h)⟩
theorem ev_varL {i : Nat} {p : Addr} {xs : List V} {ds : List PyData} (e : σ[i]? = some (some (.ref p))) (h : H p = some (.lst xs)) (a : DpAll K H xs ds) : EvL K (tVar i) σ H ds :=
  fun H1 g Q q => ⟨_, e, q p xs H1 (Gr.refl _ _) (g _ _ (by simp) h) (DpAll.kp (Kp.of g) a)⟩
theorem ev_int {i : Int} : EvD K (tC (.int i)) σ H (.int i) := fun H1 _ Q q => q _ H1 (Gr.refl _ _) (.int i)
theorem ev_bl {i : Bool} : EvD K (tC (.bl i)) σ H (.bool i) := fun H1 _ Q q => q _ H1 (Gr.refl _ _) (.bl i)
theorem ev_str {i : Str} : EvD K (tC (.str i)) σ H (.str i) := fun H1 _ Q q => q _ H1 (Gr.refl _ _) (.str i)
theorem ev_non : EvD K (tC .non) σ H .none := fun H1 _ Q q => q _ H1 (Gr.refl _ _) .non
theorem es_nil : EvS K tNil σ H [] := fun H1 _ Q q => q _ H1 (Gr.refl _ _) .nil
theorem es_cons {te : TE} {ta : TA} {d : PyData} {ds : List PyData} (h : EvD K te σ H d) (r : EvS K ta σ H ds) : EvS K (tCons te ta) σ H (d :: ds) := fun H1 g Q q =>
  h H1 g _ fun v H2 g2 dv => r H2 (g.trans g2) _ fun vs H3 g3 dvs => q _ H3 (g2.trans g3) (.cons (Dp.kp (Kp.of g3) dv) dvs)
theorem dpAll_len {H : Hp} : ∀ {vs : List V} {ds : List PyData}, DpAll K H vs ds → vs.length = ds.length
  | _, _, .nil => rfl
  | _, _, .cons _ t => congrArg (· + 1) (dpAll_len t)
theorem ev_tup {ta : TA} {ds : List PyData} (h : EvS K ta σ H ds) (hz : ds.length ≤ 1000 := by exact Nat.le_of_ble_eq_true rfl) : EvD K (tTup ta) σ H (.tuple ds) := fun H1 g Q q =>
  h H1 g _ fun vs H2 g2 a => ⟨by rw [dpAll_len a]; exact Nat.le_of_lt (small1000 hz), fun p np => q _ _ (g2.trans (Gr.new np)) (dp_tup upd_same (DpAll.kp (Kp.of (Gr.new np)) a))⟩
theorem el_lst {ta : TA} {ds : List PyData} (h : EvS K ta σ H ds) (hz : ds.length ≤ 1000 := by exact Nat.le_of_ble_eq_true rfl) : EvL K (tLst ta) σ H ds := fun H1 g Q q =>
  h H1 g _ fun vs H2 g2 a => ⟨by rw [dpAll_len a]; exact Nat.le_of_lt (small1000 hz), fun p np => q _ _ _ (g2.trans (Gr.new np)) upd_same (DpAll.kp (Kp.of (Gr.new np)) a)⟩
theorem ev_lst {ta : TA} {ds : List PyData} (h : EvS K ta σ H ds) (hz : ds.length ≤ 1000 := by exact Nat.le_of_ble_eq_true rfl) : EvD K (tLst ta) σ H (.list ds) := (el_lst h hz).d
theorem dpAll_append {H : Hp} : ∀ {vs ws : List V} {ds es : List PyData}, DpAll K H vs ds → DpAll K H ws es → DpAll K H (vs ++ ws) (ds ++ es)
  | _, _, _, _, .nil, b => b
  | _, _, _, _, .cons h t, b => .cons h (dpAll_append t b)
theorem el_cat {ta tb : TE} {ds es : List PyData} (h1 : EvL K ta σ H ds) (h2 : EvL K tb σ H es) (hz : ds.length + es.length ≤ 1000 := by exact Nat.le_of_ble_eq_true rfl) : EvL K (tOp rCat ta tb) σ H (ds ++ es) := fun H1 g Q q =>
  h1 H1 g _ fun p xs H2 g2 e2 a2 => h2 H2 (g.trans g2) _ fun p3 ys H3 g3 e3 a3 => by
    have e2' := g3 _ _ (by simp) e2
    refine ⟨p, p3, xs, ys, rfl, rfl, e2', e3, by rw [dpAll_len a2, dpAll_len a3]; exact Nat.le_of_lt (small1000 hz), fun p4 np => ?_⟩
    exact q p4 _ _ ((g2.trans g3).trans (Gr.new np)) upd_same (dpAll_append (DpAll.kp (Kp.of (g3.trans (Gr.new np))) a2) (DpAll.kp (Kp.of (Gr.new np)) a3))
/-! two data compared -/
theorem ev_eq {ta tb : TE} {d e : PyData} (h1 : EvD K ta σ H d) (h2 : EvD K tb σ H e) (s1 : SeqAt.shaped d = true) (s2 : SeqAt.shaped e = true) : EvD K (tOp (rEqD K) ta tb) σ H (.bool (PyData.eqv d e)) := fun H1 g Q q =>
  h1 H1 g _ fun v H2 g2 a => h2 H2 (g.trans g2) _ fun w H3 g3 b => ⟨d, e, Dp.kp (Kp.of g3) a, b, s1, s2, q _ H3 (g2.trans g3) (.bl _)⟩
theorem ev_ne {ta tb : TE} {d e : PyData} (h1 : EvD K ta σ H d) (h2 : EvD K tb σ H e) (s1 : SeqAt.shaped d = true) (s2 : SeqAt.shaped e = true) : EvD K (tOp (rNeD K) ta tb) σ H (.bool (!PyData.eqv d e)) := fun H1 g Q q =>
  h1 H1 g _ fun v H2 g2 a => h2 H2 (g.trans g2) _ fun w H3 g3 b => ⟨d, e, Dp.kp (Kp.of g3) a, b, s1, s2, q _ H3 (g2.trans g3) (.bl _)⟩
theorem iteFb {b : Bool} {A B : Prop} (h : b = false) (x : B) : if b = true then A else B := by
  rw [h]
  exact iteF x
theorem iteTb {b : Bool} {A B : Prop} (h : b = true) (x : A) : if b = true then A else B := by
  rw [h]
  exact iteT x
/-! statements over them -/
theorem st_asgD {te : TE} {i : Nat} {d : PyData} {D : Ends} (h : EvD K te σ H d) (k : ∀ v H2, Gr [] H H2 → Dp K H2 v d → D.nx (σ.set i (some v)) H2) : tAsg te (gName i) D σ H := h H (Gr.refl _ _) _ k
theorem st_asgL {te : TE} {i : Nat} {ds : List PyData} {D : Ends} (h : EvL K te σ H ds) (k : ∀ p xs H2, Gr [] H H2 → H2 p = some (.lst xs) → DpAll K H2 xs ds → D.nx (σ.set i (some (.ref p))) H2) : tAsg te (gName i) D σ H := h H (Gr.refl _ _) _ k
theorem dp_bool {H : Hp} {v : V} {b : Bool} (h : Dp K H v (.bool b)) : v = .bl b := by cases h; rfl
theorem dp_int {H : Hp} {v : V} {b : Int} (h : Dp K H v (.int b)) : v = .int b := by cases h; rfl
theorem st_retB {te : TE} {b : Bool} {D : Ends} (h : EvD K te σ H (.bool b)) (k : ∀ H2, Gr [] H H2 → D.rt (.bl b) H2) : tRet te D σ H := h H (Gr.refl _ _) _ fun v H2 g e => by rw [dp_bool e]; exact k H2 g
/-- a test that is data -/
theorem tt_of {te : TE} {b : Bool} {H1 : Hp} {Q : Bool → Hp → Prop} (h : EvD K te σ H (.bool b)) (g : Gr [] H H1) (q : ∀ H2, Gr [] H1 H2 → Q b H2) : tTest te σ H1 Q := h H1 g _ fun v H2 g2 e => ⟨b, dp_bool e, q H2 g2⟩
theorem tb_of {te : TE} {b : Bool} {H1 : Hp} {Q : Bool → Hp → Prop} (h : EvD K te σ H (.bool b)) (g : Gr [] H H1) (q : ∀ H2, Gr [] H1 H2 → Q b H2) : tB te σ H1 Q := h H1 g _ fun v H2 g2 e => ⟨b, dp_bool e, q H2 g2⟩
theorem ev_andV {ta tb : TE} {a b : Bool} (h1 : EvD K ta σ H (.bool a)) (h2 : EvD K tb σ H (.bool b)) : EvD K (tAndV ta tb) σ H (.bool (a && b)) := fun H1 g Q q =>
  h1 H1 g _ fun v H2 g2 e => ⟨a, dp_bool e, by
    cases a with
    | true => exact iteT (h2 H2 (g.trans g2) _ fun w H3 g3 e3 => q w H3 (g2.trans g3) e3)
    | false => exact iteF (q _ H2 g2 (.bl false))⟩
end
end Wn
/-! sum of a tuple of whole numbers -/
namespace Wn
open PySem PySem.Spec PyProof.Rows L2
section
variable {prog : Program} {w : World} {A : Around} {E : Value → Shared → Prop} {s : Shared} {l : Addr} {its : List Value} {ns : List Int} {Q : Value → Shared → Prop}
theorem sum_tup0 {xs : Array (Int × Tok)} (hh : A.handled = none) (hl : s.heap.IsTuple l (intItems xs))
    (h : ∀ h' tk t', (∀ b o, s.heap.get? b = some o → h'.get? b = some o) → Q (.int (preSum (numAt xs) xs.size) t') { s with heap := h', toks := tk }) : wpAny (model prog w) A (call (.builtin "sum") [.ref l]) Q E s := by
  refine call_sum_walkG (wpAny_pyIter_tuple hl ?_)
  obtain ⟨o, ho, hc, n, hd⟩ := hl
  have lt : l < s.heap.objs.size := Heap.lt_size ho
  have kp : ∀ b u, s.heap.get? b = some u → (s.heap.push { cls := .type "tuple_iterator", data := .fields #[.ref l, .int 0 0] }).get? b = some u := fun b u e => Heap.get?_push_of_some _ e
  refine ⟨s.heap.objs.size, _, _, _, _, _, numAt xs, rfl, Walks.tuple (A := A.in1) hh s.heap.objs.size l (Nat.ne_of_lt lt) (intItems xs), ⟨⟨_, Heap.get?_push_size _ rfl, rfl, rfl⟩, ⟨o, kp _ _ ho, hc, n, hd⟩⟩, fun b hb => ?_, fun _ _ => intItems_at, fun h' tk t' hk => ?_⟩
  · have hz : (s.heap.push { cls := .type "tuple_iterator", data := .fields #[.ref l, .int 0 0] }).objs.size = s.heap.objs.size + 1 := by simp [Heap.push]
    simp only [List.mem_cons, List.not_mem_nil, or_false] at hb
    show b < (s.heap.push _).objs.size
    rw [hz]
    rcases hb with rfl | rfl
    · exact Nat.lt_succ_self _
    · exact Nat.lt_succ_of_lt lt
  · have := h h' tk t' (fun b u e => hk b u (by
      rw [List.mem_singleton]
      exact Nat.ne_of_lt (Heap.lt_size e)) (kp b u e))
    simpa [intItems] using this
theorem sum_tup (hh : A.handled = none) (hl : s.heap.IsTuple l its.toArray) (hi : IntsAre its ns)
    (h : ∀ h' tk t', (∀ b o, s.heap.get? b = some o → h'.get? b = some o) → Q (.int ns.sum t') { s with heap := h', toks := tk }) : wpAny (model prog w) A (call (.builtin "sum") [.ref l]) Q E s := by
  obtain ⟨xs, e⟩ := hi.allInts.items
  have hn : numsOf (intItems xs).toList = ns := by
    rw [← e]
    exact hi.numsOf
  rw [nums_intItems] at hn
  rw [e] at hl
  refine sum_tup0 hh hl fun h' tk t' hk => ?_
  have := h h' tk t' hk
  rw [preSum_eq, List.take_of_length_le (by simp), hn]
  exact this
end
def rSumT (K : PySem.W.Frag) : List V → Hp → VK → Prop := fun vs H Q => ∃ (a : Addr) (ns : List Int), vs = [V.ref a] ∧ SqT K H a (ns.map V.int) ∧ Q (.int ns.sum) H
theorem cr_sumT {X : Cx} (hc : X.calm = true) : CallR X (.builtin "sum") (rSumT X.K) := by
  intro pins s σ H vs us Q I r h
  obtain ⟨a, ns, rfl, hs, q⟩ := h
  obtain ⟨its, rv, hl, _⟩ := I.tuple hs
  rw [Vals.ref1 r]
  exact sum_tup (I.ok.hd hc) hl rv.ints fun h' tk t' hk => ⟨.int _, H, I.kept hk, ⟨_, rfl⟩, q⟩
end Wn
/-! a list with a step: xs[::k] -/
namespace Wn
open PySem PySem.Spec PyProof.Rows L2
def stepV (xs : List V) (k : Nat) : List V := (List.range ((xs.length + k - 1) / k)).filterMap fun i => xs[k * i]?
theorem vals_picks {xs : List V} {us : List Value} (r : Vals xs us) (f : Nat → Nat) : ∀ js : List Nat, Vals (js.filterMap fun i => xs[f i]?) (js.filterMap fun i => us[f i]?)
  | [] => .nil
  | j :: js => by
    have ih := vals_picks r f js
    cases e : xs[f j]? with
    | none =>
      have e2 := r.none_of e
      rw [List.filterMap_cons, List.filterMap_cons, e, e2]
      exact ih
    | some x =>
      obtain ⟨u, e2, h⟩ := r.get e
      rw [List.filterMap_cons, List.filterMap_cons, e, e2]
      exact .cons h ih
theorem pick_step (us : List Value) {k : Nat} (hk : 1 ≤ k) : slicePick us.toArray none none (some (k : Int)) = ((List.range ((us.length + k - 1) / k)).filterMap fun i => us[k * i]?).toArray := by
  have e : sliceBounds none none (some (k : Int)) us.toArray.size = ((0 : Int), (us.length : Int), (k : Int)) := by
    have h : (k : Int) > 0 := by omega
    simp only [sliceBounds, Option.getD_some, h, if_true, List.size_toArray]
  unfold slicePick
  rw [e]
  show (List.filterMap (fun i => us.toArray[i]?) (sliceRange 0 (us.length : Int) (k : Int))).toArray = _
  congr 1
  have e2 : sliceRange 0 (us.length : Int) (k : Int) = (List.range ((us.length + k - 1) / k)).map fun i => k * i := by
    unfold sliceRange
    have h : (k : Int) > 0 := by omega
    rw [if_pos h]
    have c : (if (0 : Int) < (us.length : Int) then ((us.length : Int) - 0 + k - 1) / k else 0).toNat = (us.length + k - 1) / k := by
      by_cases z : (0 : Int) < (us.length : Int)
      · rw [if_pos z, show ((us.length : Int) - 0 + k - 1) = ((us.length + k - 1 : Nat) : Int) by omega, ← Int.natCast_ediv]
        rfl
      · rw [if_neg z]
        have : us.length = 0 := by omega
        rw [this, Nat.zero_add, Nat.div_eq_of_lt (by omega)]
        rfl
    dsimp only
    rw [c]
    apply List.map_congr_left
    intro i _
    rw [Int.zero_add, ← Int.natCast_mul]
    rfl
  rw [e2, List.filterMap_map]
  congr 1
  funext i
  simp
theorem stepV_len (xs : List V) (k : Nat) (hk : 1 ≤ k) : (stepV xs k).length ≤ xs.length := by
  unfold stepV
  refine Nat.le_trans (List.length_filterMap_le _ _) ?_
  rw [List.length_range]
  rcases Nat.eq_zero_or_pos xs.length with z | z
  · rw [z, Nat.zero_add, Nat.div_eq_of_lt (by omega)]
    exact Nat.le_refl _
  · refine Nat.lt_succ_iff.mp ((Nat.div_lt_iff_lt_mul (by omega)).mpr ?_)
    have : xs.length * 1 ≤ xs.length * k := Nat.mul_le_mul_left _ hk
    rw [Nat.succ_mul]
    omega
def rStL (K : PySem.W.Frag) : V → V → Hp → VK → Prop := fun x y H Q => ∃ (a : Addr) (xs : List V) (k : Nat), x = .ref a ∧ y = .int k ∧ 1 ≤ k ∧ SqL K H a xs ∧ ∀ p, H p = none → Q (.ref p) (upd H p (.lst (stepV xs k)))
def tStL (r : R2) (te ts : TE) : TE := fun σ H Q => te σ H fun x H1 => ts σ H1 fun y H2 => r x y H2 Q
variable {X : Cx} {e st : Expr} {te ts : TE} {pos p2 : Pos}
theorem pe_stepL {r : R2} (he : PE X e te) (hs : PE X st ts) (hr : r = rStL X.K := by rfl) : PE X (.Subscript e (.Slice none none (some st) p2) pos) (tStL r te ts) := by
  subst hr
  refine ⟨fun pins s σ H Q I h => ?_⟩
  refine Subscript_ (thn (he.run pins s σ H _ I h) fun v s1 ⟨x, H1, I1, r1, q1⟩ => ?_)
  refine wpAny_Slice ?_
  rw [evalPart_none]
  refine wpAny_pure (wpAny_pure ?_)
  rw [evalPart_some]
  refine thn (hs.run pins s1 σ H1 _ I1 q1) fun vs s3 ⟨y, H3, I3, ry, q3⟩ => ?_
  obtain ⟨a, xs, k, rfl, rfl, hk, hx, q⟩ := q3
  cases r1
  obtain ⟨t, rfl⟩ := ry
  have I4 : Inv X pins σ H3 { s3 with heap := s3.heap.push { cls := .type "slice", data := .fields #[.none, .none, .int k t] } } := I3.kept (t' := s3.toks) fun b ob q => Heap.get?_push_of_some _ q
  obtain ⟨its, r, ht, hz⟩ := I4.list hx
  have hlen := r.length
  have hg : wpAny (model X.prog X.w) X.A (getItem (.ref a) (.ref s3.heap.objs.size)) (EP X pins σ Q) X.xe { s3 with heap := s3.heap.push { cls := .type "slice", data := .fields #[.none, .none, .int k t] } } := by
    refine wpAny_getItem_list_slice (st := some (k : Int)) ht.isList (Heap.IsSliceOf.new ..) .none .none (.int _ _) (by intro z; have := Option.some.inj z; omega) ?_ (by rw [List.size_toArray] <;> omega)
    rw [pick_step its hk, ← hlen]
    refine ⟨.ref _, _, I4.laid (t' := s3.toks) (o := .lst (stepV xs k)) (fun b ob q => Heap.get?_push_of_some _ q) (Nat.le_refl _) ?_, rfl, q _ (I4.hok.fresh (Nat.le_refl _))⟩
    exact ⟨Nat.le_trans (stepV_len xs k hk) hz, _, 0, vals_picks r _ _, Heap.get?_push_size _ rfl⟩
  show wpAny (model X.prog X.w) X.A (subscriptTail e (.Slice none none (some st) p2) (.ref a) (.ref s3.heap.objs.size)) (EP X pins σ Q) X.xe { s3 with heap := s3.heap.push { cls := .type "slice", data := .fields #[.none, .none, .int k t] } }
  exact tail_any (ops := [.ref a, .ref s3.heap.objs.size]) ht.isList.typeIs slot_list_getitem.lookup hg (by with_unfolding_all rfl)
end Wn
/-! sums of powers, and which cuts balance -/
namespace Wn
open PySem PySem.Spec PyProof.Rows L2
def geo (g : Nat) : Nat → Nat
  | 0 => 0
  | c + 1 => geo g c + g ^ c
theorem geo_add (g a : Nat) : ∀ d, geo g (a + d) = geo g a + g ^ a * geo g d
  | 0 => by simp [geo]
  | d + 1 => by
    rw [← Nat.add_assoc]
    show geo g (a + d) + g ^ (a + d) = geo g a + g ^ a * (geo g d + g ^ d)
    rw [geo_add g a d, Nat.mul_add, Nat.pow_add, Nat.add_assoc]
theorem geo_mul (g m : Nat) : ∀ c, geo g (m * c) = geo g m * geo (g ^ m) c
  | 0 => by simp [geo]
  | c + 1 => by
    show geo g (m * c + m) = geo g m * (geo (g ^ m) c + (g ^ m) ^ c)
    rw [geo_add, geo_mul g m c, Nat.mul_add, ← Nat.pow_mul, Nat.mul_comm (g ^ (m * c))]
theorem geo_tel (g : Nat) : ∀ c, geo g c * g + 1 = geo g c + g ^ c
  | 0 => by simp [geo]
  | c + 1 => by
    show (geo g c + g ^ c) * g + 1 = geo g c + g ^ c + g ^ (c + 1)
    rw [Nat.add_mul, Nat.pow_succ]
    have := geo_tel g c
    omega
def restSum (b n x s c : Nat) : Nat := ((List.range c).map fun i => rem b n x (s * i)).sum
theorem restSum_succ (b n x s c : Nat) : restSum b n x s (c + 1) = restSum b n x s c + rem b n x (s * c) := by
  unfold restSum
  rw [List.range_succ, List.map_append, List.sum_append]
  simp
theorem restSum_mod (b n x s : Nat) : ∀ c, restSum b n x s c % n = x * geo (b ^ s) c % n
  | 0 => by simp [restSum, geo]
  | c + 1 => by
    rw [restSum_succ, Nat.add_mod, restSum_mod b n x s c]
    show (_ + rem b n x (s * c) % n) % n = x * (geo (b ^ s) c + (b ^ s) ^ c) % n
    rw [Nat.mul_add, Nat.add_mod (x * _)]
    unfold rem
    rw [Nat.mod_mod, Nat.pow_mul]
def bal (b n s c : Nat) : Bool := decide (restSum b n 1 s c % n = 0)
theorem bal_iff {b n s c : Nat} : bal b n s c = true ↔ n ∣ geo (b ^ s) c := by
  unfold bal
  rw [decide_eq_true_eq, restSum_mod, Nat.one_mul]
  exact (Nat.dvd_iff_mod_eq_zero ..).symm
theorem bal_mul {b n s c m : Nat} (h : bal b n (m * s) c = true) : bal b n s (m * c) = true := by
  rw [bal_iff] at h ⊢
  rw [geo_mul, ← Nat.pow_mul, Nat.mul_comm s m]
  exact Nat.dvd_trans h (Nat.dvd_mul_left _ _)
theorem bal_prime {b n s c L : Nat} (hb : 1 ≤ b) (hn : 2 ≤ n) (hp : ∀ k, 2 ≤ k → k < n → ¬ n % k = 0) (hL : IsPer b n L) (hc : 2 ≤ c) (hs : 1 ≤ s) (e : L = s * c) : bal b n s c = true := by
  rw [bal_iff]
  have hsL : s < L := by
    rw [e]
    have : s * 2 ≤ s * c := Nat.mul_le_mul_left _ hc
    omega
  have g1 : 1 ≤ b ^ s := Nat.one_le_pow _ _ hb
  have h1 : (b ^ s) ^ c % n = 1 % n := by
    rw [← Nat.pow_mul, ← e]
    exact hL.2.1
  have h2 : ¬ n ∣ b ^ s - 1 := fun z => hL.2.2 s hs hsL ((mod_iff g1).mpr z).symm
  have t := geo_tel (b ^ s) c
  have t2 : geo (b ^ s) c * (b ^ s - 1) = (b ^ s) ^ c - 1 := by
    rw [Nat.mul_sub, Nat.mul_one]
    omega
  have h3 : n ∣ geo (b ^ s) c * (b ^ s - 1) := by
    rw [t2]
    exact (mod_iff (Nat.one_le_pow _ _ g1)).mp h1.symm
  have hd : Nat.gcd n (b ^ s - 1) ∣ n := Nat.gcd_dvd_left _ _
  have hdn := Nat.le_of_dvd (by omega) hd
  have hd0 : 1 ≤ Nat.gcd n (b ^ s - 1) := Nat.gcd_pos_of_pos_left _ (by omega)
  have hd1 : Nat.gcd n (b ^ s - 1) = 1 := by
    rcases Nat.lt_or_eq_of_le hdn with z | z
    · rcases Nat.lt_or_eq_of_le hd0 with y | y
      · exact absurd (Nat.mod_eq_zero_of_dvd hd) (hp _ y z)
      · exact y.symm
    · exact absurd (z ▸ Nat.gcd_dvd_right n (b ^ s - 1)) h2
  exact Nat.Coprime.dvd_of_dvd_mul_right hd1 h3
/-! which cuts -/
def from2 (k : Nat) : List Nat := (List.range k).map (2 + ·)
theorem from2_succ (k : Nat) : from2 (k + 1) = from2 k ++ [2 + k] := by
  unfold from2
  rw [List.range_succ, List.map_append]
  rfl
theorem mem_from2 {k c : Nat} : c ∈ from2 k ↔ 2 ≤ c ∧ c < 2 + k := by
  unfold from2
  rw [List.mem_map]
  constructor
  · rintro ⟨i, hi, rfl⟩
    rw [List.mem_range] at hi
    omega
  · rintro ⟨h1, h2⟩
    exact ⟨c - 2, List.mem_range.mpr (by omega), by omega⟩
def splitsL (L : Nat) : List Nat := (from2 (L - 1)).filter fun c => decide (L % c = 0)
theorem mem_splits {L c : Nat} (hL : 1 ≤ L) : c ∈ splitsL L ↔ 2 ≤ c ∧ c ∣ L := by
  unfold splitsL
  rw [List.mem_filter, mem_from2, decide_eq_true_eq]
  constructor
  · rintro ⟨⟨h1, h2⟩, h3⟩
    exact ⟨h1, Nat.dvd_of_mod_eq_zero h3⟩
  · rintro ⟨h1, h2⟩
    have := Nat.le_of_dvd hL h2
    exact ⟨⟨h1, by omega⟩, Nat.mod_eq_zero_of_dvd h2⟩
def dueL (b n L : Nat) : List Nat := (splitsL L).filter fun c => bal b n (L / c) c
def below (xs : List Nat) (c : Nat) : List Nat := xs.filter fun k => decide (k < c) && decide (c % k = 0)
def isLeast (xs : List Nat) (c : Nat) : Bool := (below xs c).isEmpty
def leastL (xs : List Nat) : List Nat := xs.filter (isLeast xs)
theorem asc_splits (L : Nat) : (splitsL L).Pairwise (· < ·) := by
  unfold splitsL from2
  refine List.Pairwise.filter _ ?_
  rw [List.pairwise_map]
  exact List.Pairwise.imp (fun h => by omega) List.pairwise_lt_range
theorem asc_due (b n L : Nat) : (dueL b n L).Pairwise (· < ·) := (asc_splits L).filter _
theorem isLeast_iff {xs : List Nat} {c : Nat} : isLeast xs c = true ↔ ∀ k ∈ xs, k < c → ¬ c % k = 0 := by
  unfold isLeast below
  rw [List.isEmpty_iff, List.filter_eq_nil_iff]
  constructor
  · intro h k hk hc hm
    exact h k hk (by rw [decide_eq_true hc, decide_eq_true hm]; rfl)
  · intro h k hk hm
    rw [Bool.and_eq_true, decide_eq_true_eq, decide_eq_true_eq] at hm
    exact h k hk hm.1 hm.2
theorem least_under {xs : List Nat} (h2 : ∀ k ∈ xs, 1 ≤ k) : ∀ (m k : Nat), k ≤ m → k ∈ xs → ∃ k0 ∈ xs, k0 ∣ k ∧ isLeast xs k0 = true
  | 0, k, hm, hk => absurd (h2 k hk) (by omega)
  | m + 1, k, hm, hk => by
    by_cases h : isLeast xs k = true
    · exact ⟨k, hk, Nat.dvd_refl k, h⟩
    · rw [isLeast_iff] at h
      have : ∃ j, j ∈ xs ∧ j < k ∧ k % j = 0 := by
        apply Classical.byContradiction
        intro z
        exact h fun j hj hl hm' => z ⟨j, hj, hl, hm'⟩
      obtain ⟨j, hj, hl, hm'⟩ := this
      obtain ⟨k0, h0, hd, hs⟩ := least_under h2 m j (by omega) hj
      exact ⟨k0, h0, Nat.dvd_trans hd (Nat.dvd_of_mod_eq_zero hm'), hs⟩
/-- the look at the least ones found so far -/
theorem least_step {xs : List Nat} (h2 : ∀ k ∈ xs, 1 ≤ k) (asc : xs.Pairwise (· < ·)) {i : Nat} (hi : i < xs.length) :
    (((xs.take i).filter (isLeast xs)).map fun k => !decide (xs[i] % k = 0)).all id = isLeast xs xs[i] := by
  rw [Bool.eq_iff_iff, List.all_map, List.all_eq_true, isLeast_iff]
  have lt : ∀ k ∈ xs.take i, k < xs[i] := fun k hk => by
    obtain ⟨j, hj, rfl⟩ := List.mem_iff_getElem.mp hk
    rw [List.length_take] at hj
    rw [List.getElem_take]
    exact List.pairwise_iff_getElem.mp asc j i (by omega) hi (by omega)
  have back : ∀ k ∈ xs, k < xs[i] → k ∈ xs.take i := fun k hk hl => by
    obtain ⟨j, hj, rfl⟩ := List.mem_iff_getElem.mp hk
    rw [List.mem_iff_getElem]
    have hji : j < i := by
      rcases Nat.lt_trichotomy j i with z | z | z
      · exact z
      · subst z
        omega
      · have := List.pairwise_iff_getElem.mp asc i j hi hj z
        omega
    exact ⟨j, by rw [List.length_take]; omega, by rw [List.getElem_take]⟩
  constructor
  · intro h k hk hl hm
    obtain ⟨k0, h0, hd, hs⟩ := least_under h2 k k (Nat.le_refl _) hk
    have hk0 : k0 < xs[i] := Nat.lt_of_le_of_lt (Nat.le_of_dvd (h2 k hk) hd) hl
    have := h k0 (List.mem_filter.mpr ⟨back k0 h0 hk0, hs⟩)
    rw [Function.comp_apply, id_eq, Bool.not_eq_true', decide_eq_false_iff_not] at this
    exact this (Nat.mod_eq_zero_of_dvd (Nat.dvd_trans hd (Nat.dvd_of_mod_eq_zero hm)))
  · intro h k hk
    obtain ⟨hk1, hk2⟩ := List.mem_filter.mp hk
    rw [Function.comp_apply, id_eq, Bool.not_eq_true', decide_eq_false_iff_not]
    exact h k (List.mem_of_mem_take hk1) (lt k hk1)
theorem due_mul {b n L c k : Nat} (hL : 1 ≤ L) (hc : c ∈ dueL b n L) (hk : k ∈ splitsL L) (hd : k % c = 0) : k ∈ dueL b n L := by
  obtain ⟨hc1, hc2⟩ := List.mem_filter.mp hc
  refine List.mem_filter.mpr ⟨hk, ?_⟩
  obtain ⟨k1, k2⟩ := (mem_splits hL).mp hk
  obtain ⟨c1, c2⟩ := (mem_splits hL).mp hc1
  obtain ⟨m, rfl⟩ := Nat.dvd_of_mod_eq_zero hd
  obtain ⟨s, rfl⟩ := k2
  have hm : 1 ≤ m := by
    rcases Nat.eq_zero_or_pos m with z | z
    · subst z
      omega
    · exact z
  have e1 : c * m * s / c = m * s := by
    rw [Nat.mul_assoc]
    exact Nat.mul_div_cancel_left _ (by omega)
  have e2 : c * m * s / (c * m) = s := Nat.mul_div_cancel_left _ (by omega)
  rw [e1] at hc2
  rw [e2, Nat.mul_comm c m]
  exact bal_mul hc2
theorem due_prime {b n L : Nat} (hb : 1 ≤ b) (hn : 2 ≤ n) (hp : ∀ k, 2 ≤ k → k < n → ¬ n % k = 0) (hL : IsPer b n L) : dueL b n L = splitsL L := by
  unfold dueL
  rw [List.filter_eq_self]
  intro c hc
  obtain ⟨h1, s, e⟩ := (mem_splits hL.1).mp hc
  have hs : 1 ≤ s := by
    rcases Nat.eq_zero_or_pos s with z | z
    · rw [z, Nat.mul_zero] at e
      have := hL.1
      omega
    · exact z
  have : L / c = s := by
    rw [e]
    exact Nat.mul_div_cancel_left _ (by omega)
  rw [this]
  exact bal_prime hb hn hp hL h1 hs (by rw [e, Nat.mul_comm])
/-! lists of whole numbers from 0 on -/
def vn (xs : List Nat) : List V := xs.map fun k => V.int (k : Nat)
def ni (xs : List Nat) : List Int := xs.map fun k => ((k : Nat) : Int)
theorem vn_ni (xs : List Nat) : vn xs = (ni xs).map V.int := by
  unfold vn ni
  rw [List.map_map]
  rfl
theorem vn_len (xs : List Nat) : (vn xs).length = xs.length := by simp [vn]
theorem vn_snoc (xs : List Nat) (k : Nat) : vn xs ++ [V.int (k : Nat)] = vn (xs ++ [k]) := by simp [vn]
theorem vn_get {xs : List Nat} {i : Nat} {y : V} (h : (vn xs)[i]? = some y) : ∃ hi : i < xs.length, y = V.int (xs[i] : Nat) := by
  unfold vn at h
  rw [List.getElem?_map] at h
  cases e : xs[i]? with
  | none =>
    rw [e] at h
    cases h
  | some n =>
    rw [e] at h
    obtain ⟨hi, e2⟩ := List.getElem?_eq_some_iff.mp e
    subst e2
    exact ⟨hi, (Option.some.inj h).symm⟩
theorem ni_sum : ∀ xs : List Nat, (ni xs).sum = ((xs.sum : Nat) : Int)
  | [] => rfl
  | x :: r => by
    show (x : Int) + (ni r).sum = ((x + r.sum : Nat) : Int)
    rw [ni_sum r]
    omega
theorem filt_yes {xs : List Nat} {g : Nat → Bool} {i : Nat} (hi : i < xs.length) (h : g xs[i] = true) : (xs.take (i + 1)).filter g = (xs.take i).filter g ++ [xs[i]] := by
  rw [List.take_succ_eq_append_getElem hi, List.filter_append, List.filter_cons, if_pos h]
  rfl
theorem filt_no {xs : List Nat} {g : Nat → Bool} {i : Nat} (hi : i < xs.length) (h : g xs[i] = false) : (xs.take (i + 1)).filter g = (xs.take i).filter g := by
  rw [List.take_succ_eq_append_getElem hi, List.filter_append, List.filter_cons, if_neg (by rw [h]; decide)]
  simp
theorem from2_len (k : Nat) : (from2 k).length = k := by simp [from2]
theorem from2_get {k i : Nat} (h : i < k) : (from2 k)[i]'(by rw [from2_len]; exact h) = 2 + i := by simp [from2]
theorem eqv_niL (ys : List Nat) : PyData.eqv (.list ((ni ys).map PyData.int)) (.list []) = ys.isEmpty := by
  cases ys with
  | nil => rfl
  | cons y r => rfl
theorem inV_ni (k : Nat) : ∀ xs : List Nat, inV (.int (k : Nat)) (vn xs) = decide (k ∈ xs) := by
  intro xs
  induction xs with
  | nil => rfl
  | cons y r ih =>
    show ((((y : Nat) : Int) == ((k : Nat) : Int)) || inV (.int (k : Nat)) (vn r)) = _
    rw [ih, Bool.eq_iff_iff, Bool.or_eq_true, beq_iff_eq, decide_eq_true_eq, decide_eq_true_eq, List.mem_cons]
    constructor
    · rintro (h | h)
      · exact .inl (by omega)
      · exact .inr h
    · rintro (h | h)
      · exact .inl (by omega)
      · exact .inr h
theorem flat_ni : ∀ xs : List Nat, (vn xs).all flatV = true
  | [] => rfl
  | _ :: r => flat_ni r
theorem blkOk_of {N N0 : List Str} {sc sc0 scope : Scope} {own : List (Str × Nat)} (hN : N = N0) (hs : sc = sc0) (h : blkC N0 sc0 scope own = true) : BlkOk N sc scope own := by
  subst hN hs
  exact blkOk_by h
end Wn
/-! values of digits, and the sum of the pieces -/
namespace Wn
open PySem PySem.Spec PyProof.Rows L2
def wrt (b : Nat) (ds : List Nat) : Nat := ds.foldl (fun f d => f * b + d) 0
theorem wrt_snoc (b : Nat) (ds : List Nat) (d : Nat) : wrt b (ds ++ [d]) = wrt b ds * b + d := by simp [wrt]
def dg (b n x lo c : Nat) : List Nat := (List.range c).map fun i => rem b n x (lo + i) * b / n
theorem dg_len (b n x lo c : Nat) : (dg b n x lo c).length = c := by simp [dg]
theorem dg_succ (b n x lo c : Nat) : dg b n x lo (c + 1) = dg b n x lo c ++ [rem b n x (lo + c) * b / n] := by
  unfold dg
  rw [List.range_succ, List.map_append]
  rfl
theorem wrt_dg (b n x lo : Nat) : ∀ c, n * wrt b (dg b n x lo c) + rem b n x (lo + c) = rem b n x lo * b ^ c
  | 0 => by simp [dg, wrt]
  | c + 1 => by
    have ih := wrt_dg b n x lo c
    have dm := Nat.div_add_mod (rem b n x (lo + c) * b) n
    rw [rem_succ] at dm
    rw [dg_succ, wrt_snoc, Nat.pow_succ, ← Nat.mul_assoc, ← ih, Nat.mul_add, Nat.add_mul, ← Nat.mul_assoc]
    have e : lo + (c + 1) = lo + c + 1 := rfl
    rw [e]
    omega
/-- the value of piece number j of k digits -/
def pce (b n x k j : Nat) : Nat := wrt b (dg b n x (k * j) k)
def pcs (b n x k c : Nat) : List Nat := (List.range c).map (pce b n x k)
theorem pcs_len (b n x k c : Nat) : (pcs b n x k c).length = c := by simp [pcs]
theorem pcs_succ (b n x k c : Nat) : pcs b n x k (c + 1) = pcs b n x k c ++ [pce b n x k c] := by
  unfold pcs
  rw [List.range_succ, List.map_append]
  rfl
theorem pcs_sum (b n x k : Nat) : ∀ c, n * (pcs b n x k c).sum + restSum b n x k c + rem b n x (k * c) = b ^ k * restSum b n x k c + rem b n x 0
  | 0 => by simp [pcs, restSum]
  | c + 1 => by
    have ih := pcs_sum b n x k c
    have w := wrt_dg b n x (k * c) k
    have e : k * (c + 1) = k * c + k := rfl
    rw [e, pcs_succ, List.sum_append, restSum_succ, Nat.mul_add, Nat.mul_add]
    have e2 : ([pce b n x k c] : List Nat).sum = pce b n x k c := by simp
    rw [e2]
    unfold pce
    rw [Nat.mul_comm (b ^ k) (rem b n x (k * c)), ← w]
    omega
theorem pcs_all {b n x k c : Nat} (hb : 1 ≤ b) (h : rem b n x (k * c) = rem b n x 0) : n * (pcs b n x k c).sum = (b ^ k - 1) * restSum b n x k c := by
  have e := pcs_sum b n x k c
  rw [h] at e
  have h1 : 1 ≤ b ^ k := Nat.one_le_pow _ _ hb
  rw [Nat.sub_mul, Nat.one_mul]
  omega
theorem pcs_quot {b n x k c : Nat} (hb : 2 ≤ b) (hk : 1 ≤ k) (hn : 1 ≤ n) (h : rem b n x (k * c) = rem b n x 0) :
    ((pcs b n x k c).sum % (b ^ k - 1) = 0 ↔ restSum b n x k c % n = 0) ∧ (restSum b n x k c % n = 0 → (pcs b n x k c).sum / (b ^ k - 1) = restSum b n x k c / n) := by
  have e := pcs_all (b := b) (n := n) (x := x) (k := k) (c := c) (by omega) h
  have h1 : 2 ≤ b ^ k := Nat.le_trans hb (Nat.le_self_pow (by omega) b)
  generalize (pcs b n x k c).sum = S at e ⊢
  generalize restSum b n x k c = R at e ⊢
  generalize hm : b ^ k - 1 = m at e ⊢
  have m1 : 1 ≤ m := by omega
  refine ⟨⟨fun z => ?_, fun z => ?_⟩, fun z => ?_⟩
  · obtain ⟨q, rfl⟩ := Nat.dvd_of_mod_eq_zero z
    have : m * R = m * (n * q) := by rw [← e, Nat.mul_left_comm]
    rw [Nat.eq_of_mul_eq_mul_left m1 this]
    exact Nat.mul_mod_right _ _
  · obtain ⟨q, rfl⟩ := Nat.dvd_of_mod_eq_zero z
    have : n * S = n * (m * q) := by rw [e, Nat.mul_left_comm]
    rw [Nat.eq_of_mul_eq_mul_left hn this]
    exact Nat.mul_mod_right _ _
  · obtain ⟨q, rfl⟩ := Nat.dvd_of_mod_eq_zero z
    have : n * S = n * (m * q) := by rw [e, Nat.mul_left_comm]
    rw [Nat.eq_of_mul_eq_mul_left hn this, Nat.mul_div_cancel_left _ m1, Nat.mul_div_cancel_left _ hn]
theorem pce_lt {b n x k j : Nat} (hb : 1 ≤ b) (hn : 1 ≤ n) : pce b n x k j < b ^ k := by
  have w := wrt_dg b n x (k * j) k
  have r := rem_lt (b := b) (n := n) (x := x) (i := k * j) hn
  unfold pce
  have h1 : n * wrt b (dg b n x (k * j) k) ≤ rem b n x (k * j) * b ^ k := by omega
  have h2 : rem b n x (k * j) * b ^ k < n * b ^ k := Nat.mul_lt_mul_of_pos_right r (Nat.pow_pos hb)
  exact Nat.lt_of_mul_lt_mul_left (Nat.lt_of_le_of_lt h1 h2)
theorem rem_period {b n x L : Nat} (h : b ^ L % n = 1 % n) : rem b n x L = rem b n x 0 := by
  unfold rem
  rw [Nat.mul_mod, h, ← Nat.mul_mod, Nat.pow_zero]
/-! whole numbers of more signs -/
theorem Sm.intB {i : Int} {k : Nat} (hk : 1 ≤ k) (h : i.natAbs < 2 ^ k) (hk2 : k ≤ 1000) : Sm (.int i) 303 0 k := by
  have hl := log2_lt hk h
  have h12 : i.natAbs < 10 ^ 302 := Nat.lt_of_lt_of_le h (Nat.le_trans (Nat.pow_le_pow_right (by decide) hk2) (by decide +kernel))
  refine ⟨?_, ?_, rfl, rfl, Nat.le_refl _, ?_⟩
  · show decide (i.natAbs.log2 < 1920) = true
    exact decide_eq_true (by omega)
  · show decide ((PyData.shown (.int i)).length ≤ 303) = true
    refine decide_eq_true ?_
    have e := int_text_length_le10 (k := 302) (by decide) h12
    show (Str.ofString (toString i)).length ≤ 303
    rw [PySem.ofString_length]
    exact e
  · show 0 ≤ k
    omega
/-- .. of up to 1900 bits -/
theorem Sm.intW {i : Int} (h : i.natAbs < 2 ^ 1900) : Sm (.int i) 600 0 0 := by
  have hl := log2_lt (k := 1900) (by decide) h
  have h12 : i.natAbs < 10 ^ 599 := Nat.lt_of_lt_of_le h (by decide +kernel)
  refine ⟨?_, ?_, rfl, rfl, Nat.le_refl _, Nat.le_refl _⟩
  · show decide (i.natAbs.log2 < 1920) = true
    exact decide_eq_true (by omega)
  · show decide ((PyData.shown (.int i)).length ≤ 600) = true
    refine decide_eq_true ?_
    have e := int_text_length_le10 (k := 599) (by decide) h12
    show (Str.ofString (toString i)).length ≤ 600
    rw [PySem.ofString_length]
    exact e
theorem Sm.int0 {i : Int} {k : Nat} (hk : 1 ≤ k) (h : i.natAbs < 2 ^ k) (hk2 : k ≤ 39) : Sm (.int i) 13 0 0 := by
  obtain ⟨a, b, c, d, e, _⟩ := Sm.int hk h hk2
  exact ⟨a, b, c, d, e, Nat.le_refl _⟩
end Wn
/-! d.update(e) for dicts of whole numbers and texts; dict(xs) with a name -/
namespace Wn
open PySem PySem.Spec PyProof.Rows L2
def rUpd : V → List V → Hp → VK → Prop := fun x vs H Q => ∃ (a o : Addr) (kvs more : List (Key × V)), x = .ref a ∧ vs = [.ref o] ∧ a ≠ o ∧ H a = some (.dK kvs) ∧ H o = some (.dK more) ∧ kvs.length + more.length ≤ sizeLine ∧ Q .non (upd H a (.dK (mergeK kvs more)))
theorem mt_update {X : Cx} : MtR X "dict.update" rUpd := by
  intro pins s σ H x vs v us Q I rx rv h
  obtain ⟨a, o, kvs, more, rfl, rfl, hne, ha, ho, hz, q⟩ := h
  cases rx
  obtain ⟨u, rfl, ru⟩ := rv.one
  cases ru
  obtain ⟨z1, n1, vs1, rel1, d1⟩ := dk_of I.hok ha
  obtain ⟨z2, n2, vs2, rel2, d2⟩ := dk_of I.hok ho
  have l1 := rel1.length
  have l2 := rel2.length
  refine call_meetsIn PySem.F.slot_dict_update d1.typeIs PySem.F.entry_dict_update (PySem.F.args_dict_update_2 _ _) (meets_dict_update (mixKind X.prog X.w) a o hne n2) ⟨vs1, vs2, d1, d2, by omega, fun h' d1' d2' hs => ?_⟩
  have hlm := length_mergeK more kvs
  have he : ∃ q, h'.get? a = some q := let ⟨q, _, _, hq, _⟩ := d1'; ⟨q, hq⟩
  exact ⟨.non, _, d_write I (by rw [ha]; exact True.intro) hs he (dk_new (by omega) n1 (rel2.merge rel1) d1'), rfl, q⟩
def rDP (K : PySem.W.Frag) : List V → Hp → VK → Prop := fun xs H Q => ∃ (a : Addr) (ps : List Addr) (kvs : List (Key × V)), xs = [.ref a] ∧ SqL K H a (ps.map V.ref) ∧ Paired (fun p kv => SqT K H p [kV kv.1, kv.2]) ps kvs ∧
    ∀ p, H p = none → Q (.ref p) (upd H p (.dK (mergeK [] kvs)))
theorem call_dP {X : Cx} (h : X.calm = true) : CallR X (.type "dict") (rDP X.K) := call_dictP h
theorem valV_merge : ∀ (more kvs : List (Key × V)) (k : Key), (valV (mergeK kvs more) k).isSome = ((valV kvs k).isSome || decide (∃ kv ∈ more, kv.1 = k))
  | [], kvs, k => by simp [mergeK]
  | p :: r, kvs, k => by
    show (valV (mergeK (putK kvs p.1 p.2) r) k).isSome = _
    rw [valV_merge r, valV_put, Bool.eq_iff_iff]
    by_cases e : k = p.1
    · subst e
      simp
    · rw [if_neg e]
      have e' : ¬ p.1 = k := fun z => e z.symm
      simp [e']
end Wn
/-! errors of one's own, over any built-in one: made, kept as values, looked at -/
namespace Wn
open PySem PySem.Spec PyProof.Rows L2
/-! the first store to such an error -/
section
open PySem.W PySem.HandSPX Builtin Builtin.ObjectAttr
variable {prog : Program} {w : World} {A : Around} {E : Value → Shared → Prop} {s : Shared} {K : PySem.W.Frag} {C : Addr} {B : String} {bmB : List Value}
theorem osa_one {x t : Addr} {name : Str} {tk : Tok} {v : Value} {R : Result → Shared → Prop} (SF : StoreFacts B bmB "object.__setattr__" "object") (X : K.In s.heap) (hx : s.heap.get? x = some (PySem.W.excObj C t none .none))
    (hp : PySem.W.excOver K C bmB = true) (ht : PySem.W.takerIn K C name = some none) (hh : PySem.W.hasDictIn K C = true)
    (h : ∀ dx h' tk', (∀ b o, b ≠ x → s.heap.get? b = some o → h'.get? b = some o) → s.heap.objs.size ≤ dx → dx ≠ x → h'.get? x = some (PySem.W.excObj C t (some dx) .none) → h'.Ns1 dx (fun y => if y = name then some v else none) → R (.ok (.ret .none)) { s with heap := h', toks := tk' }) :
    codeAny (model prog w) A (.call (.builtin "object.__setattr__") ⟨[.ref x, .str name tk, v], []⟩) R s := by
  have hlt := Heap.lt_size hx
  have hne : s.heap.objs.size ≠ x := Nat.ne_of_gt hlt
  refine osa_openX (od := none) SF X ⟨hx, rfl, rfl, trivial⟩ hp ht fun b => ?_
  obtain ⟨cd, hc, hd⟩ := any_some hh
  refine wpAny_bind (wpAny_pure (wpAny_bind (instanceDict_exc hx (looks_clsIn X hc) hd ?_)))
  have e1 : (s.heap.push (dictOf [] 0)).get? x = some (PySem.W.excObj C t none .none) := Heap.get?_push_of_some _ hx
  obtain ⟨G, hG⟩ : ∃ G, G = (s.heap.push (dictOf [] 0)).update x (fun o => { o with dict := some s.heap.objs.size }) := ⟨_, rfl⟩
  have gx : G.get? x = some (PySem.W.excObj C t (some s.heap.objs.size) .none) := by
    rw [hG]
    exact Heap.get?_update_self _ e1 rfl
  have go : ∀ b, b ≠ x → G.get? b = (s.heap.push (dictOf [] 0)).get? b := fun b hb => by
    rw [hG]
    exact Heap.get?_update_ne _ _ _ _ hb
  have gd : G.Ns s.heap.objs.size (fun _ => none) := by
    refine ⟨_, #[], 0, (go _ hne).trans (Heap.get?_push_size _ rfl), rfl, fun e he => ?_, fun _ => rfl⟩
    exact absurd he (by simp)
  rw [← hG]
  show wpAny (model prog w) A.in1 (storeInDict s.heap.objs.size (.str name tk) name v) _ _ { s with heap := G }
  obtain ⟨hp0, g, d, tt, os⟩ := s
  refine store_in_new gd fun h' tk' hn hs => ?_
  refine h _ h' tk' (fun b o hb e => ?_) (Nat.le_refl _) hne ((hs.2 x hne.symm).trans gx) hn
  have hbs : b ≠ hp0.objs.size := Nat.ne_of_lt (Heap.lt_size e)
  exact (hs.2 b hbs).trans ((go b hb).trans (Heap.get?_push_of_some _ e))
end
/-- what the text says of an error's class: C, over the built-in B, with the field f and its own __init__ at fI -/
structure ErrC (K : PySem.W.Frag) (C fI : Addr) (f : Str) (B newId initId : String) (bmB : List Value) : Prop where
  F : ExcBaseFacts B newId initId bmB
  SF : StoreFacts B bmB "object.__setattr__" "object"
  ini : PySem.W.excInitIn K C bmB newId = true
  ov : PySem.W.excOver K C bmB = true
  hd : PySem.W.hasDictIn K C = true
  sa : PySem.W.findIn K (.ref C) "__setattr__" = some (some (.builtin "object.__setattr__"))
  exC : PySem.W.subIn K (.ref C) (.type "BaseException") = some true
  tyC : PySem.W.typeIn K (.ref C) = some (.type "type")
  kC : PySem.W.keepIn K (.ref C) = true
  tk : PySem.W.takerIn K C f = some none
  no : PySem.W.findIn K (.ref C) f = some none
  iC : PySem.W.findIn K (.ref C) "__init__" = some (some (.ref fI))
  tI : PySem.W.typeIn K (.ref fI) = some (.type "function")
  ga : PySem.W.findIn K (.ref C) "__getattribute__" = some (some (.builtin "BaseException.__getattribute__"))
  gg : PySem.W.findIn K (.ref C) "__getattr__" = some none
  ha : PySem.W.findIn K (.ref C) "__class__" = some (some (.builtin "object.__class__"))
  mr : PySem.W.mroIn K C (.type "object") = some true
section
variable {X : Cx} {pins : List (Addr × Obj)} {σ : L2.St} {H : Hp} {s : Shared} {a C fI dx : Addr} {f : Str} {y : V} {u : Value} {B newId initId : String} {bmB : List Value} {A : Around} {E : Value → Shared → Prop}
theorem ErrC.xf {K : PySem.W.Frag} (T : ErrC K C fI f B newId initId bmB) : XfC K C := ⟨T.ga, T.gg, T.exC, T.hd⟩
/-- self.f = y, the first one -/
theorem ostE {Q : Unit → Shared → Prop} (T : ErrC X.K C fI f B newId initId bmB) (I : Inv X pins σ H s) (e : H a = some (exo a C none)) (ry : RelV y u)
    (h : ∀ dx s', H dx = none → dx ≠ a → Inv X pins σ (upd (upd H dx (exd dx [(f, y)])) a (exo a C (some dx))) s' → Q () s') : wpAny (model X.prog X.w) A (setAttr (.ref a) f u) Q E s := by
  obtain ⟨t1, ho⟩ := exo_at I.hok e
  refine PySem.W.set_plain I.kIn (od := none) ⟨ho, rfl, rfl, trivial⟩ T.sa ?_
  refine osa_one (s := { s with toks := s.toks + 1 }) T.SF I.kIn ho T.ov T.tk T.hd fun d2 G tk2 keep lo ne gx gn => ?_
  have free2 : H d2 = none := I.hok.fresh lo
  have lt2 : ∀ {b : Addr} {o : Obj}, s.heap.get? b = some o → b ≠ d2 := fun z => Nat.ne_of_lt (Nat.lt_of_lt_of_le (Heap.lt_size z) lo)
  have nA : ∀ {b : Addr}, H b = none → b ≠ a := fun z w => by
    rw [w, e] at z
    cases z
  have un : Un X.fs [] H (upd (upd H d2 (exd d2 [(f, y)])) a (exo a C (some d2))) s.heap G := by
    constructor
    · exact fun b o q n _ _ => keep b o (nA n) q
    · exact fun b o q n _ _ => ⟨o.slots, keep b o (nA n) q⟩
    · intro b o q n _
      rw [upd_ne (nA n), upd_ne (lt2 q)]
      exact n
    · intro b o q _
      by_cases w : b = a
      · subst w
        exact ⟨_, gx⟩
      · exact ⟨o, keep b o w q⟩
    · intro b xs q
      rw [upd_ne (at_ne e q exo_tup), upd_ne (ne_of_none q free2)]
      exact q
    · intro b o v q
      rw [upd_ne (at_ne e q exo_frz), upd_ne (ne_of_none q free2)]
      exact q
    · intro b ps q
      refine ⟨#[], ?_⟩
      rw [upd_ne (at_ne e q exo_tbl), upd_ne (ne_of_none q free2), q]
      simp
  refine h d2 _ free2 ne (I.un (t' := tk2) un fun b o q => ?_)
  by_cases w : b = a
  · subst w
    rw [upd_same] at q
    cases q
    exact exo_ok gx
  rw [upd_ne w] at q
  by_cases w2 : b = d2
  · subst w2
    rw [upd_same] at q
    cases q
    exact exd_ok gn (relO_put (fs := []) ry fun g => True.intro)
  rw [upd_ne w2] at q
  refine (I.hok b o q).stay (fun c v hc z => keep c v ?_ z) (fun c hc => ?_) (fun c xs hc => ?_)
  · rcases hc with hc | hc
    · rw [hc]
      exact w
    · exact at_ne e hc exo_own
  · rw [upd_ne (at_ne e hc exo_own), upd_ne (ne_of_none hc free2)]
    exact hc
  · rw [upd_ne (at_ne e hc exo_tup), upd_ne (ne_of_none hc free2)]
    exact hc
/-- the built-in's __init__: nothing of it is told -/
theorem oinitE {us : List Value} {Q : Value → Shared → Prop} (T : ErrC X.K C fI f B newId initId bmB) (I : Inv X pins σ H s) (e : H a = some (exo a C none)) (hl : us.length ≤ sizeLine) (h : ∀ s', Inv X pins σ H s' → Q .none s') :
    wpAny (model X.prog X.w) A (call (.builtin initId) (.ref a :: us)) Q E s := by
  obtain ⟨t1, ho⟩ := exo_at I.hok e
  obtain ⟨nm, N, qn, bs, bm, hdct, sn, sub, ab, col, dd, k0, k1, k2, k3, k5, hC, hT⟩ := PySem.W.excInit_of I.kIn T.ini
  obtain ⟨hp, g, d, t, os⟩ := s
  refine wpAny_call (PySem.HandSPX.init_base T.F hT hC ho hl fun G t2 k gx => ?_)
  have J := I.write (t' := t) (x := a) (e := a) (o := exo a C none) (by rw [e]; exact True.intro) (.inl rfl) k ⟨_, gx⟩ (exo_ok gx)
  rw [show upd H a (exo a C none) = H from funext fun b => by
    by_cases w : b = a
    · rw [w, upd_same, e]
    · rw [upd_ne w]] at J
  exact h _ J
end
/-- W.__init__(self, ..), W one's own class or a built-in one -/
def tInitE (K : PySem.W.Frag) (C : Addr) (ta : TA) : TE := fun σ H Q => ta σ H fun vs H1 => ∃ (a : Addr) (ws : List V), vs = .ref a :: ws ∧ ws.length ≤ 1000 ∧ H1 a = some (exo a C none) ∧ Q .non H1
/-- self.f = e -/
def tOstE (K : PySem.W.Frag) (C : Addr) (f : Str) (to te : TE) : TS := fun D σ H => te σ H fun y H1 => to σ H1 fun x H2 => ∃ a : Addr, x = .ref a ∧ H2 a = some (exo a C none) ∧ ∀ dx, H2 dx = none → dx ≠ a → D.nx σ (upd (upd H2 dx (exd dx [(f, y)])) a (exo a C (some dx)))
section
variable {X : Cx} {o e : Expr} {es : List Expr} {to te : TE} {ta : TA} {f : Str} {p p' p1 p2 pos : Pos} {C fI W : Addr} {B newId initId : String} {bmB : List Value} {mc : Value} {wn : Str}
theorem call_initE {pl : Sem Bool} (T : ErrC X.K C fI f B newId initId bmB) (ha : PA X (e :: es) ta) {pins : List (Addr × Obj)} {s : Shared} {σ : L2.St} {H : Hp} {Q : VK} (I : Inv X pins σ H s) (h : tInitE X.K C ta σ H Q)
    (he : starEach (e :: es) X.env = (false, eval e X.env) :: starEach es X.env := by rfl) (hpl : (backTo pos (starEach es X.env)).any (·.1) = false := by rfl) :
    wpAny (model X.prog X.w) X.A (callWith pos (Value.builtin initId) [] (backTo pos (starEach (e :: es) X.env)) []) (EP X pins σ Q) X.xe s := by
  refine PyProof.Rows.callWith_method1 (thn (ha.run pos pins s σ H _ I h) fun us s1 ⟨vs, H1, I1, r1, a, ws, ev, hl, ea, q⟩ => ?_) he hpl
  subst ev
  cases r1 with
  | @cons _ u0 _ ur ra rw' =>
    obtain rfl : u0 = Value.ref a := ra
    have hlen : ur.length ≤ sizeLine := by
      rw [← Paired.length rw', sizeLine_eq]
      omega
    exact oinitE T I1 ea hlen fun s' J => ⟨.non, H1, J, rfl, q⟩
/-- a class of one's own: its name holds W, whose __init__ is the built-in's -/
theorem pe_initW {pl : Sem Bool} (T : ErrC X.K C fI f B newId initId bmB) (hg : Gl X wn) (hm : X.mg wn = some (.ref W)) (r : ClX.CRead X.K W mc) (at_ : PySem.W.findCls X.K (.ref W) mc "__init__" = some (.val (.builtin initId))) (hh : PySem.W.handedIn (.builtin initId) = true) (ha : PA X (e :: es) ta)
    (hc : eval (.Call (.Attribute (.Name wn p1) "__init__" p2) (e :: es) [] pos) X.env = (do
      let ov ← eval (.Name wn p1) X.env
      standAt p2.atName
      let (f, first) ← holding [ov] (getMethod ov "__init__" pl)
      callWith pos f first (backTo pos (starEach (e :: es) X.env)) (backToKw pos (keywordEach [] X.env))) := by rfl)
    (hdb : (wn == ("__debug__" : Str)) = false := by decide)
    (he : starEach (e :: es) X.env = (false, eval e X.env) :: starEach es X.env := by rfl) (hpl : (backTo pos (starEach es X.env)).any (·.1) = false := by rfl) :
    PE X (.Call (.Attribute (.Name wn p1) "__init__" p2) (e :: es) [] pos) (tInitE X.K C ta) := by
  refine ⟨fun pins s σ H Q I h => ?_⟩
  refine PySem.W.methodCall_KW (ld_glob I hg hm ?_ hdb) hc
  refine PySem.W.method_cls I.kIn r.ga ?_
  refine PySem.W.cls_value I.kIn r.rd at_ hh ?_
  show wpAny _ _ (callWith pos (Value.builtin initId) [] (backTo pos (starEach (e :: es) X.env)) []) _ _ _
  exact call_initE (pl := pl) T ha (I.tok _) h he hpl
end
end Wn
namespace Wn
open PySem PySem.Spec PyProof.Rows L2
/-! C(e): the error made by its own __init__, which keeps sp -/
section
variable {X : Cx} {e : Expr} {es : List Expr} {ta : TA} {f : Str} {p pos : Pos} {C fI : Addr} {B newId initId : String} {bmB : List Value}
theorem pmkE {CX : CXT} {x : Str} {k : Nat} {fd : FuncData} {ps : List Str} {sp : Sp} (T : ErrC X.K C fI f B newId initId bmB) (F1 : FnOk X.prog X.w X.K X.mg X.base CX k fI fd ps sp) (hr : Room (k + 1) X.A) (hb : Binds X.K fd ps []) (hx : Passes CX X (fun _ _ _ => False))
    (hg : Gl X x) (hm : X.mg x = some (.ref C)) (ha : PA X (e :: es) ta)
    (hdb : (x == ("__debug__" : Str)) = false := by decide) (he : starEach (e :: es) X.env = (false, eval e X.env) :: starEach es X.env := by rfl) (hpl : (backTo pos (starEach es X.env)).any (·.1) = false := by rfl) :
    PMk X (.Call (.Name x p) (e :: es) [] pos) (tMkO C sp [] ta) := by
  intro pins s σ H Q I h
  refine wpAny_Call_Name_kw (ld_glob I hg hm ?_ hdb)
  refine PySem.W.callWith_K (h₀ := X.base) I.ok.mod.kin T.kC (thn (ha.run pos pins s σ H _ I h) fun us s1 hh => ?_) he hpl
  obtain ⟨vs, H1, I1, r1, hz, q1⟩ := hh
  refine ⟨I1.kIn, ?_⟩
  show wpAny _ _ (call (.ref C) us) _ _ _
  obtain ⟨nm, N, qn, bs, bm, hdct, sn, sub, ab, col, dd, k0, k1, k2, k3, k5, hC, hT⟩ := PySem.W.excInit_of I1.kIn T.ini
  obtain ⟨h0, g, dr, tk, os⟩ := s1
  obtain ⟨a, haa⟩ : ∃ a, a = h0.objs.size + 1 := ⟨_, rfl⟩
  have lo : h0.objs.size ≤ a := by rw [haa]; exact Nat.le_succ _
  have fresh : H1 a = none := I1.hok.fresh lo
  obtain ⟨G, hG⟩ : ∃ G, G = (h0.push (PySem.W.kdv_tup us)).push (PySem.HandSPX.excO C h0.objs.size) := ⟨_, rfl⟩
  have keep : ∀ b o, h0.get? b = some o → G.get? b = some o := fun b o z => by
    rw [hG]
    exact Heap.get?_push_of_some _ (Heap.get?_push_of_some _ z)
  have gA : G.get? a = some (PySem.HandSPX.excO C h0.objs.size) := by
    rw [hG, haa]
    heap_get
  have I2 : Inv X pins σ (upd H1 a (exo a C none)) ⟨G, g, dr, tk, os⟩ := I1.laid (t' := tk) (a := a) (o := exo a C none) (h' := G) keep lo (exo_ok gA)
  have want := q1 a fresh
  have r2 : Vals (V.ref a :: (vs ++ [])) (Value.ref a :: us) := .cons rfl (by rw [List.append_nil]; exact r1)
  have cnt : (Value.ref a :: us ++ []).length = ps.length := by
    rw [← F1.len _ _ _ _ want, List.append_nil]
    exact r2.length.symm
  have b2 := hb ⟨G, g, dr, tk, os⟩ (Value.ref a :: us) I2.kIn cnt
  rw [List.append_nil] at b2
  have few : us.length ≤ sizeLine := by
    rw [← Paired.length r1, sizeLine_eq]
    omega
  refine wpAny_call (PySem.HandSPX.call_own T.F hT hC (PySem.W.looks_findIn I1.kIn T.iC) (fun self => PySem.W.bind_fn I1.kIn self T.tI) few ?_)
  rw [← hG, ← haa]
  refine codeAny_mono (F1.run _ X.stack _ _ ⟨Value.ref a :: us, []⟩ (Value.ref a :: us) _ _ (fun _ _ _ => False) (hr.make C us []) (I2.env0.make C us []) b2 r2 want) fun r s' back => ?_
  match r, back with
  | .error er, back => exact hx pins σ _ _ er s' I2 back
  | .ok .next, back => exact back.elim
  | .ok .brk, back => exact back.elim
  | .ok .cont, back => exact back.elim
  | .ok (.ret u), back =>
    obtain ⟨v, H2, os2, bare2, un2, hok2, rv, ev, d, fs, ea, ed, hd1, q2⟩ := back
    subst ev
    obtain ⟨h2, g2, d2, t2, os'⟩ := s'
    exact ⟨rv, mk_end (raises_own T.exC T.tyC) I1 lo keep un2 hok2 os2 bare2 ea ed hd1 q2⟩
end
/-! an error kept as a value: its class, its own dict -/
def ExV (cls : Value) (d : Option Addr) (a : Addr) : HO := .ext fun h => ∃ (oe : Obj) (vs : Array Value), h.get? a = some oe ∧ Zc cls d oe ∧ oe.data = .fields vs
theorem exV_ok {P : Program} {w : World} {H : Hp} {h : Heap} {a : Addr} {cls : Value} {d : Option Addr} {oe : Obj} {vs : Array Value} (e : h.get? a = some oe) (z : Zc cls d oe) (hd : oe.data = .fields vs) : ObjOk P w H h a (ExV cls d a) :=
  ⟨⟨oe, vs, e, z, hd⟩, ⟨oe, e⟩, fun _ _ ⟨o, v, q, r⟩ k => ⟨o, v, k o q, r⟩⟩
theorem exV_at {P : Program} {w : World} {H : Hp} {h : Heap} {a : Addr} {cls : Value} {d : Option Addr} (hok : HOk P w H h) (e : H a = some (ExV cls d a)) : ∃ (oe : Obj) (vs : Array Value), h.get? a = some oe ∧ Zc cls d oe ∧ oe.data = .fields vs := by
  have x : ObjOk P w H h a (.ext fun h => ∃ (oe : Obj) (vs : Array Value), h.get? a = some oe ∧ Zc cls d oe ∧ oe.data = .fields vs) := hok a _ e
  exact x.1
section
variable {X : Cx} {pins : List (Addr × Obj)} {σ σ0 : L2.St} {H H0 : Hp} {s s0 : Shared} {a : Addr} {o : HO}
/-- what stands there, and was not there before, is tracked from now on -/
theorem track (I : Inv X pins σ H s) (I0 : Inv X pins σ0 H0 s0) (n0 : s0.heap.get? a = none) (hn : H a = none) (new : ObjOk X.prog X.w (upd H a o) s.heap a o) : Inv X pins σ (upd H a o) s := by
  have nb : ∀ {b : Addr} {u : Obj}, s0.heap.get? b = some u → b ≠ a := fun z w => by
    rw [w, n0] at z
    cases z
  have nt : ∀ {b : Addr} {u : HO}, H b = some u → b ≠ a := fun z => ne_of_none z hn
  refine ⟨I.ok, I.os, I.bare, ⟨I.base.keep, I.base.slot, fun b u z n hx => ?_, I.base.there, fun b xs z => ?_, fun b u v z => ?_, fun b ps z => ?_⟩, I.loc, I.cell, ?_, fun x c z => ?_, fun p hp => ?_, fun b u z => ?_, I.len⟩
  · obtain ⟨u', z'⟩ := I0.base.there b u z hx
    rw [upd_ne (nb z')]
    exact I.base.free b u z n hx
  · have := I.base.tups b xs z
    rw [upd_ne (nt this)]
    exact this
  · have := I.base.frzs b u v z
    rw [upd_ne (nt this)]
    exact this
  · obtain ⟨more, this⟩ := I.base.tbls b ps z
    exact ⟨more, by rw [upd_ne (nt this)]; exact this⟩
  · obtain ⟨m, hm, _⟩ := I0.loc
    obtain ⟨ob, _, _, e, _⟩ := hm
    rw [upd_ne (nb e)]
    exact I.free
  · obtain ⟨v, ob, e, _⟩ := I0.cell x c z
    rw [upd_ne (nb e)]
    exact I.freeC x c z
  · obtain ⟨h1, h2, h3⟩ := I.pin p hp
    exact ⟨h1, by rw [upd_ne (nb (I0.pin p hp).1)]; exact h2, h3⟩
  · by_cases w : b = a
    · subst w
      rw [upd_same] at z
      cases z
      exact new
    · rw [upd_ne w] at z
      exact (I.hok b u z).stay (fun c v hc q => q) (fun c hc => by rw [upd_ne (nt hc)]; exact hc) fun c xs hc => by rw [upd_ne (nt hc)]; exact hc
end
/-- C(e) as a value -/
def tVal (t : L2.St → Hp → XK → Prop) : TE := fun σ H Q => t σ H fun cls d H' => ∀ a, H' a = none → Q (.ref a) (upd H' a (ExV cls d a))
theorem pe_mkV {X : Cx} {e : Expr} {t : L2.St → Hp → XK → Prop} (he : PMk X e t) : PE X e (tVal t) := by
  refine ⟨fun pins s σ H Q I h => thn (he pins s σ H _ I h) fun u s1 hh => ?_⟩
  obtain ⟨a, oe, vs, sI, H', cls, d, eu, J, keep, n0, ha, hz, hd, h1, na, os, ag, r, q⟩ := hh
  have J1 := J.landed (B := sI.heap) (fun _ _ z _ => z) keep (Heap.UpToSlots.of_keeps keep) os ag
  subst eu
  exact ⟨.ref a, _, track J1 J n0 na (exV_ok ha hz hd), rfl, q a na⟩
/-! its field, its class -/
def tFldE (K : PySem.W.Frag) (f : Str) (te : TE) : TE := fun σ H Q => te σ H fun x H1 => ∃ (a C d : Addr) (fs : List (Str × V)) (v : V), x = .ref a ∧ XfC K C ∧ PySem.W.findIn K (.ref C) f = some none ∧ H1 a = some (ExV (.ref C) (some d) a) ∧ H1 d = some (.xd fs) ∧ fs.lookup f = some v ∧ Q v H1
theorem pe_fldE {X : Cx} {e : Expr} {te : TE} {pos : Pos} {n : Str} (he : PE X e te) (hb : attributeBase e n X.env (eval e X.env) = eval e X.env := by rfl) : PE X (.Attribute e n pos) (tFldE X.K n te) := by
  refine ⟨fun pins s σ H Q I h => attr_of hb (thn (he.run pins s σ H _ I h) fun u s1 hh => ?_)⟩
  obtain ⟨x, H1, I1, rx, a, C, d, fs, v, ex, T, hno, ea, ed, l, q⟩ := hh
  subst ex
  obtain rfl : u = Value.ref a := rx
  obtain ⟨oe, vs, ha, hz, hd⟩ := exV_at I1.hok ea
  have hx : ObjOk X.prog X.w H1 s1.heap d (.xd fs) := I1.hok d _ ed
  obtain ⟨mA, hns, hr⟩ := hx
  obtain ⟨od, ho, hl⟩ := lookIn_ns hns
  obtain ⟨u, hu, ru⟩ := RelO.some_of (v := v) (o := mA n) (by rw [← l]; exact hr n)
  have J : PySem.W.InstAt s1.heap a oe C (some od) := by
    refine ⟨ha, hz.1, ?_, ?_⟩
    · unfold PySem.W.notCls
      rw [hd]
    · rw [hz.2]
      exact ho
  exact PySem.HandSPX.exc_get I1.kIn J T.ga T.gg T.exC (PySem.W.findObj_own T.hdC hno rfl (by rw [hl, hu])) (handed_of ru) ⟨v, H1, I1.tok _, ru, q⟩
end Wn
/-! errors caught and kept; isinstance of such -/
namespace Wn
open PySem PySem.Spec PyProof.Rows L2
/-- what isinstance asks of the class C of an error -/
structure IsC (K : PySem.W.Frag) (C : Addr) : Prop where
  cl : (PySem.W.clsIn K C).isSome = true
  ga : PySem.W.findIn K (.ref C) "__getattribute__" = some (some (.builtin "BaseException.__getattribute__"))
  gg : PySem.W.findIn K (.ref C) "__getattr__" = some none
  exC : PySem.W.subIn K (.ref C) (.type "BaseException") = some true
  ha : PySem.W.findIn K (.ref C) "__class__" = some (some (.builtin "object.__class__"))
  hn : PySem.W.specialIn K (.builtin "object.__class__") "__get__" = some (some (.builtin "getset_descriptor.__get__"))
  ht : PySem.W.takesIn K (.builtin "object.__class__") = some true
  mr : PySem.W.mroIn K C (.type "object") = some true
def rIsV (K : PySem.W.Frag) : List V → Hp → VK → Prop := fun xs H Q => ∃ (a C d : Addr) (fs : List (Str × V)) (c : V) (cv : Value) (b : Bool), xs = [.ref a, c] ∧ IsC K C ∧ H a = some (ExV (.ref C) (some d) a) ∧ H d = some (.xd fs) ∧ (∀ u, RelV c u → u = cv) ∧ PySem.W.kitOne K (.ref C) cv = some b ∧ Q (.bl b) H
theorem call_isV {X : Cx} : CallR X (.builtin "isinstance") (rIsV X.K) := by
  intro pins s σ H xs us Q I r h
  obtain ⟨a, C, d, fs, c, cv, b, rfl, T, ea, ed, hcv, e, q⟩ := h
  obtain ⟨oe, vs, ha, hz, hd⟩ := exV_at I.hok ea
  have hx : ObjOk X.prog X.w H s.heap d (.xd fs) := I.hok d _ ed
  obtain ⟨mA, hns, hr⟩ := hx
  obtain ⟨od, ho, hl⟩ := lookIn_ns hns
  have J : PySem.W.InstAt s.heap a oe C (some od) := by
    refine ⟨ha, hz.1, ?_, ?_⟩
    · unfold PySem.W.notCls
      rw [hd]
    · rw [hz.2]
      exact ho
  cases r with
  | cons rx rr =>
    cases rr with
    | cons rt rr =>
      cases rr
      cases rx
      have ec := hcv _ rt
      subst ec
      exact PySem.W.kia_one (PySem.W.kitx_exc T.cl T.ga T.gg T.exC T.ha T.hn T.ht T.mr) I.kIn J e (fun z => nomatch z) fun tk => ⟨.bl b, H, I.kept (t' := tk) fun _ _ z => z, rfl, q⟩
/-! try: body, except (A, B, C) as n: m = n; what was caught is kept in m -/
/-- what the three names of a tuple of classes hold -/
structure Names3 (X : Cx) (x1 x2 x3 : Str) (c1 c2 c3 : Addr) : Prop where
  n1 : Gl X x1 ∧ (x1 == ("__debug__" : Str)) = false ∧ X.mg x1 = some (.ref c1)
  n2 : Gl X x2 ∧ (x2 == ("__debug__" : Str)) = false ∧ X.mg x2 = some (.ref c2)
  n3 : Gl X x3 ∧ (x3 == ("__debug__" : Str)) = false ∧ X.mg x3 = some (.ref c3)
def wKeep (K : PySem.W.Frag) (cs : List Value) (i j : Nat) (D : Ends) : WX := fun cls d σ H =>
  PySem.W.exmAny K cls cs = some true ∧ ∀ a, H a = none → D.nx ((σ.set j (some (.ref a))).set i none) (upd H a (ExV cls d a))
theorem flying_keep {B h h' : Heap} {l : List Env} {a : Addr} {Z : Obj → Prop} (k : ∀ b o, h.get? b = some o → h'.get? b = some o) (f : PySem.HandSPX.FlyingZ B l a Z h) : PySem.HandSPX.FlyingZ B l a Z h' := by
  obtain ⟨f1, f2, f3, oe, vs, T, oT, ts, e1, e2, e3, e4, e5, e6, e7, e8, e9⟩ := f
  exact ⟨fun b o z => k b o (f1 b o z), f2, Heap.FunFrames.of_keeps (fun b o z _ => ⟨o, k b o z, rfl⟩) f3, oe, vs, T, oT, ts, k _ _ e1, e2, e3, e4, e5, e6, k _ _ e7, e8, e9⟩
section
variable {X : Cx} {x1 x2 x3 n m : Str} {c1 c2 c3 : Addr} {i j : Nat} {body : List Stmt} {q1 q2 q3 qt qm qn pa pos pos' : Pos} {kt : Nat} {tb : WX → TS}
theorem ps_try_keep (hs : X.stack = X.env :: X.outer) (hf : X.env.frame = some X.env.locals) (hN : X.N.Nodup) (hi : X.N[i]? = some n) (hj : X.N[j]? = some m) (hij : i ≠ j) (hln : X.env.kindOf n = some .local) (hlm : X.env.kindOf m = some .local) (hc : Names3 X x1 x2 x3 c1 c2 c3)
    (hb : ∀ (W : WX) (pn : List (Addr × Obj)) (xe : Value → Shared → Prop), Takes (X.tr pn xe) W → PassesOwn (model X.prog X.w) X.A X.env xe → PSs (X.tr pn xe) body (tb W))
    (hsw : swapsWith (.Name n qn) (some (.Name m qm)) pa.line X.env = pure false := by rfl) (hdn : (n == ("__debug__" : Str)) = false := by decide) (hcn : (n == ("__classdict__" : Str)) = false := by decide) :
    PS X (.Try body [.ExceptHandler (some (.Tuple [.Name x1 q1, .Name x2 q2, .Name x3 q3] kt qt)) (some n) [.Assign [.Name m qm] (.Name n qn) pa] pos'] [] [] pos) (fun D σ H => tb (wKeep X.K [.ref c1, .ref c2, .ref c3] i j D) D σ H) := by
  refine ⟨fun pins s σ H D I h => ?_⟩
  have ok := I.ok
  have hfr : X.A.frames = some (X.env :: X.outer) := by rw [ok.frames, hs]
  have hloc : Loc X.env.scope n := .inl hln
  have hlocm : Loc X.env.scope m := .inl hlm
  refine wpAny_Try_except ?_
  refine wpAny_mono ((hb (wKeep X.K [.ref c1, .ref c2, .ref c3] i j D) (X.pn ++ pins) (fun e s₁ => wpAny (model X.prog X.w) X.A (noteFrame e X.env) (fun _ s₂ => wpAny (model X.prog X.w) X.A (setFlight e none) (fun _ s₃ =>
    wpAny (model X.prog X.w) X.A (handleBy e X.env [.ExceptHandler (some (.Tuple [.Name x1 q1, .Name x2 q2, .Name x3 q3] kt qt)) (some n) [.Assign [.Name m qm] (.Name n qn) pa] pos']) (SP X pins D) X.xe s₃) X.xe s₂) X.xe s₁) (fun u s' xx => ?_) PassesOwn.looking).run [] s σ H D (I.toTry _) h) (fun f s1 hsp => ?_) (fun e s1 he => he)
  · obtain ⟨a, B, sI, pins', σ', H', cls, d, rfl, J', nb, up, sky, na, os, ag, hb1, hyes⟩ := xx
    have J : Inv X pins σ' H' sI := J'.ofTry ok
    have sky2 : Sky B (X.env :: X.outer) a (Zc cls d) X.env.locals s'.heap := by
      rw [← hs]
      exact sky
    show wpAny (model X.prog X.w) X.A (noteFrame (.ref a) X.env) _ _ _
    refine Sky.land Zc.steady hfr hf sky2 fun h3 fl3 up3 => ?_
    have J3 : Inv X pins σ' H' { s' with heap := h3 } := J.landed nb fl3.1 (up.trans up3) os ag
    obtain ⟨oe3, vs3, he3, hz3, hd3⟩ := fl3.there
    have nfr : a ∉ frs (X.env :: X.outer) := fun hm => by
      obtain ⟨_, o', e', hnf⟩ := fl3.2.2.1.mem hm
      rw [he3] at e'
      cases e'
      exact hnf _ hd3
    have nL : a ≠ X.env.locals := fun z => nfr (List.mem_filterMap.mpr ⟨X.env, List.mem_cons_self, by rw [hf, z]⟩)
    have nF : a ∉ X.fs := fun hm => by
      obtain ⟨e, he, q⟩ := List.mem_filterMap.mp hm
      exact nfr (List.mem_filterMap.mpr ⟨e, List.mem_cons_of_mem _ he, q⟩)
    have n0 : sI.heap.get? a = none := by
      cases z : sI.heap.get? a with
      | none => rfl
      | some o =>
        have := nb a o z (by rw [hs]; exact nfr)
        rw [fl3.2.1] at this
        cases this
    have S3 := J3.suite he3 hd3 na nL nF
    refine wpAny_handleBy_cons (codeAny_handlers_test ?_) (by intro q; cases q)
    have LT : PySem.W.Looks (model X.prog X.w) h3 (typeOf (.ref a)) cls := fun A Q E s k q => wpAny_typeOf_ref (k _ _ he3) (by rw [hz3.1]; exact q)
    refine wpAny_Tuple ?_
    refine wpAny_items_cons (ld_glob (X := X.suite a ((a, oe3) :: (X.pn ++ pins))) S3 hc.n1.1 hc.n1.2.2 ?_ hc.n1.2.1)
    refine wpAny_items_cons (ld_glob (X := X.suite a ((a, oe3) :: (X.pn ++ pins))) S3 hc.n2.1 hc.n2.2.2 ?_ hc.n2.2.1)
    refine wpAny_items_cons (ld_glob (X := X.suite a ((a, oe3) :: (X.pn ++ pins))) S3 hc.n3.1 hc.n3.2.2 ?_ hc.n3.2.1)
    refine wpAny_items_nil ⟨by size_fits, ?_⟩
    obtain ⟨G, hG⟩ : ∃ G, G = h3.push { cls := .type "tuple", data := .seq [.ref c1, .ref c2, .ref c3].toArray } := ⟨_, rfl⟩
    have kp : ∀ b o, h3.get? b = some o → G.get? b = some o := fun _ _ z => by
      rw [hG]
      exact Heap.get?_push_of_some _ z
    have gt : G.get? h3.objs.size = some { cls := .type "tuple", data := .seq [.ref c1, .ref c2, .ref c3].toArray } := by
      rw [hG]
      exact Heap.get?_push_size h3 rfl
    rw [← hG]
    refine (PySem.W.exm_tup3 (M := model X.prog X.w) (J3.kIn.keeps kp) (LT.keeps kp) gt hb1).here ?_
    have fl4 := flying_keep kp fl3
    have upG : h3.UpToSlots G := Heap.UpToSlots.of_keeps kp
    refine codeAny_handlers_suite_as ?_
    refine PySem.HandSPX.lands_againZ fl4 fun h4 fl5 up4 => ?_
    have J4 : Inv X pins σ' H' { s' with heap := h4 } := J.landed nb fl5.1 (((up.trans up3).trans upG).trans up4) os ag
    obtain ⟨oe4, vs4, he4, hz4, hd4⟩ := fl5.there
    have S4 := J4.suite he4 hd4 na nL nF
    refine store_ok (X := X.suite a ((a, oe4) :: (X.pn ++ pins))) (v := .ref a) S4 hN hi hloc rfl (fun s5 S5 => ?_) (.inr hln)
    have hp : PSs (X.suite a ((a, oe4) :: (X.pn ++ pins))) [.Assign [.Name m qm] (.Name n qn) pa] (tSeq (tAsg (tVar i) (gName j)) tNext) :=
      pss_cons (ps_set (X := X.suite a ((a, oe4) :: (X.pn ++ pins))) hN hj hlocm (pe_var (X := X.suite a ((a, oe4) :: (X.pn ++ pins))) hi (.inl hln) hdn hcn) hsw (.inr hlm)) pss_nil
    have hlen : i < σ'.length := by
      rw [J4.len]
      exact (List.getElem?_eq_some_iff.mp hi).1
    refine wpAny_mono (hp.run [] s5 _ H' { nx := fun σ6 H6 => H6 = H' ∧ σ6 = (σ'.set i (some (.ref a))).set j (some (.ref a)), rt := fun _ _ => False } S5 ⟨_, List.getElem?_set_self hlen, rfl, rfl⟩) (fun f s6 hsp => ?_) (fun _ _ z => False.elim z)
    cases f with
    | next =>
      obtain ⟨σ6, H6, S6, rfl, rfl⟩ := hsp
      have gA := (S6.pin (a, oe4) (List.mem_append_left _ List.mem_cons_self)).1
      have J6 := track (S6.unsuite ok) J n0 na (exV_ok (cls := cls) (d := d) gA hz4 hd4)
      refine gone_ok J6 hN hi hln fun s7 J7 => ⟨_, _, J7, ?_⟩
      have e1 : (((σ'.set i (some (V.ref a))).set j (some (V.ref a))).set i none) = ((σ'.set j (some (V.ref a))).set i none) := by
        rw [List.set_comm _ _ hij, List.set_set]
      rw [e1]
      exact hyes a na
    | brk =>
      obtain ⟨_, _, _, z⟩ := hsp
      exact False.elim z
    | cont =>
      obtain ⟨_, _, _, z⟩ := hsp
      exact False.elim z
    | ret u =>
      obtain ⟨_, _, _, _, _, z⟩ := hsp
      exact False.elim z
  · cases f with
    | next =>
      obtain ⟨σ', H', J', q⟩ := hsp
      exact wpAny_execs_nil ⟨σ', H', J'.ofTry ok, q⟩
    | brk =>
      obtain ⟨σ', H', J', q⟩ := hsp
      exact ⟨σ', H', J'.ofTry ok, q⟩
    | cont =>
      obtain ⟨σ', H', J', q⟩ := hsp
      exact ⟨σ', H', J'.ofTry ok, q⟩
    | ret u =>
      obtain ⟨v, σ', H', J', r, q⟩ := hsp
      exact ⟨v, σ', H', J'.ofTry ok, r, q⟩
end
end Wn
/-! a lambda handed to a def that calls it, without a parameter or with one that has a written default -/
namespace Wn
open PySem PySem.Spec PyProof.Rows L2 LamX
def clos (X : Cx) (scope : Scope) : List (Str × Addr) := cloFrom X.env.cells scope.names []
abbrev lamO (X : Cx) (params : Arguments) (body : Expr) (scope : Scope) (dV doc pm : Value) (c' : Addr) (ctv : Value) : Obj :=
  PySem.W.kdv_obj "<lambda>" (X.env.qual ++ "<lambda>") params (.expr body) scope (clos X scope) dV doc pm c' ctv
/-- the lambda's names: no cell of its own; its own parameter is no name of the def around -/
structure LamD (N : List Str) (sc scope : Scope) : Prop where
  kind : scope.kind = .function
  co : scope.isCoroutine = false
  gen : scope.isGenerator = false
  own : ∀ y ∈ scope.names, y.2 ≠ .cell ∧ (y.2 = .local → y.1 ∉ N)
  free : ∀ y ∈ scope.names, y.2 = .free → sc.names.lookup y.1 = some .cell ∨ sc.names.lookup y.1 = some .free
def lamDB (N : List Str) (sc scope : Scope) : Bool :=
  decide (scope.kind = .function) && !scope.isCoroutine && !scope.isGenerator && scope.names.all fun y => !decide (y.2 = .cell) && (!decide (y.2 = .local) || !decide (y.1 ∈ N)) && (!decide (y.2 = .free) || decide (sc.names.lookup y.1 = some .cell) || decide (sc.names.lookup y.1 = some .free))
theorem lamD_by {N : List Str} {sc scope : Scope} (h : lamDB N sc scope = true) : LamD N sc scope := by
  unfold lamDB at h
  simp only [Bool.and_eq_true, Bool.or_eq_true, Bool.not_eq_true', decide_eq_true_eq, decide_eq_false_iff_not, List.all_eq_true] at h
  obtain ⟨⟨⟨h1, h2⟩, h3⟩, h4⟩ := h
  refine ⟨h1, h2, h3, fun y hy => ⟨(h4 y hy).1.1, fun e => ?_⟩, fun y hy e => ?_⟩
  · rcases (h4 y hy).1.2 with z | z
    · exact absurd e z
    · exact z
  · rcases (h4 y hy).2 with (z | z) | z
    · exact absurd e z
    · exact .inl z
    · exact .inr z
theorem LamD.has {X : Cx} {scope : Scope} (L : LamD X.N X.env.scope scope) (ok : X.Ok) : ∀ y ∈ scope.names, y.2 = .free → ∃ c, X.env.cells.lookup y.1 = some c := fun y hy e =>
  (L.free y hy e).elim (fun k => ok.has _ (.inl k)) (fun k => ok.has _ (.inr k))
section
variable {X : Cx} {pins : List (Addr × Obj)} {σ : L2.St} {H : Hp} {s : Shared}
/-- the function is made: its code object is new, or found in the table -/
theorem mk_tail {M : Model} {A : Around} {T : List (Addr × Str)} {c P : Addr} {params : Arguments} {body : Expr} {scope : Scope} {pos : Pos} {dV : Value} {E : Value → Shared → Prop} {Q : Value → Shared → Prop} (I : Inv X pins σ H s) (TB : TabB X.base X.mg c P) (hcode : X.env.code = .ref c)
    (hm : (P, X.env.qual ++ "<lambda>") ∈ T) (hu : ∀ p ∈ T, p.1 = P → p.2 = X.env.qual ++ "<lambda>") (hT : Tabs T H) (hfree : ∀ y ∈ scope.names, y.2 = .free → ∃ c, X.env.cells.lookup y.1 = some c)
    (h : ∀ (f c' : Addr) (doc pm ctv : Value) (H1 : Hp) (s' : Shared), Inv X pins σ H1 s' → ExtN H H1 → Tabs T H1 → (∀ b o, b ≠ P → s.heap.get? b = some o → s'.heap.get? b = some o) → (∀ b, H b = none → b < s.heap.objs.size → H1 b = none) →
      s'.heap.get? f = some (lamO X params body scope dV doc pm c' ctv) → H1 f = none → f ∉ frs X.stack → H1 c' = some (CodeO c' (X.env.qual ++ "<lambda>")) → Q (.ref f) s') :
    wpAny M A (makeTail "<lambda>" (X.env.qual ++ "<lambda>") params (.expr body) scope X.env dV .none none pos pos.line) Q E s := by
  obtain ⟨ps, hP, ht, ha⟩ := hT _ hm
  have bP : s.heap.BuiltinsAt X.mg P := TB.bm.keeps I.bk
  have gP : s.heap.get? P = some { cls := .none, data := .fields ps } := I.hok P _ hP
  have off : ∀ f, s.heap.objs.size ≤ f → f ∉ frs X.stack := fun f hf z => by
    rcases List.mem_cons.mp (I.stkSub _ z) with e | e
    · have h1 := I.lt
      rw [← e] at h1
      exact Nat.lt_irrefl _ (Nat.lt_of_lt_of_le h1 hf)
    · exact I.nofs hf e
  cases hc : codeAmong pos ps.toList with
  | some cv =>
    obtain ⟨c', e, hco⟩ := ha pos cv hc
    subst e
    refine PySem.W.kdv_makeTailHit (mg := X.mg) (c := c) (P := P) (ps := ps) (closure_ok hfree) I.ok.glob (I.mod.glob.keeps I.bk) hcode (TB.code.keeps I.bk) gP ht hc bP fun ctv doc h' tk hx hsz => ?_
    have I1 : Inv X pins σ H { s with heap := h'.push (lamO X params body scope dV doc ((X.mg "__name__").getD .none) c' ctv), toks := tk } := I.kept fun b o e => Heap.get?_push_of_some _ (hx b o e)
    exact h h'.objs.size c' doc ((X.mg "__name__").getD .none) ctv H _ I1 (ExtN.refl H) hT (fun b o _ e => Heap.get?_push_of_some _ (hx b o e)) (fun b z _ => z) (Heap.get?_push_size _ rfl) (I.hok.fresh hsz) (off _ hsz) hco
  | none =>
    refine PySem.W.kdv_makeTail (mg := X.mg) (c := c) (P := P) (ps := ps) (closure_ok hfree) I.ok.glob (I.mod.glob.keeps I.bk) hcode (TB.code.keeps I.bk) gP ht hc TB.gP bP fun c' ctv doc h' tk hx hge hlt hrec htb => ?_
    obtain ⟨c2, oc, vs, t, e2, hoc, hd, hv⟩ := hrec
    cases e2
    have grow : s.heap.objs.size ≤ h'.objs.size := Nat.le_trans hge (Nat.le_of_lt hlt)
    have nC : H c' = none := I.hok.fresh hge
    obtain ⟨F0, hF0⟩ : ∃ F0, F0 = lamO X params body scope dV doc ((X.mg "__name__").getD .none) c' ctv := ⟨_, rfl⟩
    have I1 := inv_table (t' := tk) (more := #[rawInt pos.line, rawInt pos.col, .ref c']) (h' := h'.push F0) I hP
      (fun b o hb e => Heap.get?_push_of_some _ (hx b o hb e)) (Heap.get?_push_of_some _ htb) hge ⟨oc, vs, t, Heap.get?_push_of_some _ hoc, hd, hv⟩
    have far : ∀ {b : Addr} {o : HO}, H b = some o → (∀ ps, o ≠ .tbl ps) → b ≠ P := fun e n z => by
      rw [z, hP] at e
      exact n ps (Option.some.inj e).symm
    have ext : ExtN H (upd (upd H P (.tbl (ps ++ #[rawInt pos.line, rawInt pos.col, .ref c']))) c' (CodeO c' (X.env.qual ++ "<lambda>"))) := fun b o e n => by
      rw [upd_ne (ne_of_none e nC), upd_ne (far e n)]
      exact e
    have lst : (ps ++ #[rawInt pos.line, rawInt pos.col, .ref c']).toList = ps.toList ++ [rawInt pos.line, rawInt pos.col, .ref c'] := by simp
    subst hF0
    refine h h'.objs.size c' doc ((X.mg "__name__").getD .none) ctv _ _ I1 ext (fun p hp => ?_) (fun b o hb e => Heap.get?_push_of_some _ (hx b o hb e)) (fun b z lt => ?_) (Heap.get?_push_size _ rfl) ?_ (off _ grow) upd_same
    · by_cases hb : p.1 = P
      · rw [hu p hp hb, hb]
        refine ⟨_, by rw [upd_ne (ne_of_none hP nC), upd_same], by rw [lst]; exact PySem.TriplesOk_snoc _ _ _ _ ht, fun p' cv hcv => ?_⟩
        rw [lst] at hcv
        rcases among_app _ ht hcv with z | z
        · obtain ⟨c0, e1, e2⟩ := ha p' cv z
          exact ⟨c0, e1, ext _ _ e2 codeO_ne⟩
        · exact ⟨c', z, upd_same⟩
      · obtain ⟨ps', a1, a2, a3⟩ := hT p hp
        refine ⟨ps', by rw [upd_ne (ne_of_none a1 nC), upd_ne hb]; exact a1, a2, fun p' cv hcv => ?_⟩
        obtain ⟨c0, e1, e2⟩ := a3 p' cv hcv
        exact ⟨c0, e1, ext _ _ e2 codeO_ne⟩
    · have n1 : b ≠ c' := Nat.ne_of_lt (Nat.lt_of_lt_of_le lt hge)
      have n2 : b ≠ P := fun w => by
        rw [w, hP] at z
        cases z
      rw [upd_ne n1, upd_ne n2]
      exact z
    · have n1 : h'.objs.size ≠ c' := Nat.ne_of_gt hlt
      have n2 : h'.objs.size ≠ P := Nat.ne_of_gt (Nat.lt_of_lt_of_le (Heap.lt_size gP) grow)
      rw [upd_ne n1, upd_ne n2]
      exact I.hok.fresh grow
/-- what is made of the lambda: objects that stay, the function at f among them -/
structure Made (X : Cx) (H1 : Hp) (s' : Shared) (params : Arguments) (body : Expr) (scope : Scope) (f c' : Addr) (dV doc pm ctv : Value) (D : List (Addr × Obj)) : Prop where
  at_ : (f, lamO X params body scope dV doc pm c' ctv) ∈ D
  there : ∀ p ∈ D, s'.heap.get? p.1 = some p.2 ∧ H1 p.1 = none ∧ p.1 ∉ frs X.stack
  code : H1 c' = some (CodeO c' (X.env.qual ++ "<lambda>"))
  binds : ∃ bs : List (Str × Value), (∀ s2 : Shared, (∀ p ∈ D, s2.heap.get? p.1 = some p.2) → BindsTo s2 (PySem.W.kdv_fn "<lambda>" (X.env.qual ++ "<lambda>") params (.expr body) scope (clos X scope) dV doc pm (.ref c') ctv) ⟨[], []⟩ bs) ∧ ∀ y ∈ bs, scope.names.lookup y.1 = some .local
/-- lambda: e -/
theorem lam_plain {T : List (Addr × Str)} {c P : Addr} {params : Arguments} {body : Expr} {scope : Scope} {pos : Pos} {E : Value → Shared → Prop} {Q : Value → Shared → Prop} (I : Inv X pins σ H s) (TB : TabB X.base X.mg c P) (hcode : X.env.code = .ref c)
    (hm : (P, X.env.qual ++ "<lambda>") ∈ T) (hu : ∀ p ∈ T, p.1 = P → p.2 = X.env.qual ++ "<lambda>") (hT : Tabs T H) (hdef : defaultsOf params X.env = ([], [])) (hfree : ∀ y ∈ scope.names, y.2 = .free → ∃ c, X.env.cells.lookup y.1 = some c)
    (hbind : ∀ (q : Str) (cl : List (Str × Addr)) (doc pm cv ctv : Value), bindArgs (PySem.W.kdv_fn "<lambda>" q params (.expr body) scope cl .none doc pm cv ctv) ⟨[], []⟩ = pure [])
    (h : ∀ (f c' : Addr) (dV doc pm ctv : Value) (D : List (Addr × Obj)) (H1 : Hp) (s' : Shared), Inv X pins σ H1 s' → ExtN H H1 → Tabs T H1 → Made X H1 s' params body scope f c' dV doc pm ctv D → Q (.ref f) s') :
    wpAny (model X.prog X.w) X.A (eval (.Lambda params body scope pos) X.env) Q E s := by
  refine PySem.W.kla_eval hdef ?_
  rw [makeFunction_eq]
  simp only [List.zip_nil_right, List.filterMap_nil, List.isEmpty_nil, if_true, pure_bind]
  refine mk_tail I TB hcode hm hu hT hfree fun f c' doc pm ctv H1 s' I1 eN T1 _ _ hf hfn hfr hco => ?_
  refine h f c' .none doc pm ctv [(f, lamO X params body scope .none doc pm c' ctv)] H1 s' I1 eN T1 ⟨List.mem_cons_self, fun p hp => ?_, hco, [], fun s2 _ => .of_eq (hbind _ _ _ _ _ _), fun y hy => absurd hy (by simp)⟩
  rw [List.mem_singleton] at hp
  subst hp
  exact ⟨hf, hfn, hfr⟩
/-- lambda a=0: e -/
theorem lam_dflt {T : List (Addr × Str)} {c P : Addr} {params : Arguments} {body : Expr} {scope : Scope} {pos p0 : Pos} {j0 : Nat} {n : Int} {x : Str} {E : Value → Shared → Prop} {Q : Value → Shared → Prop} (I : Inv X pins σ H s) (TB : TabB X.base X.mg c P) (hcode : X.env.code = .ref c)
    (hm : (P, X.env.qual ++ "<lambda>") ∈ T) (hu : ∀ p ∈ T, p.1 = P → p.2 = X.env.qual ++ "<lambda>") (hT : Tabs T H) (hkw : params.kwonlyargs = []) (hdef : defaultsOf params X.env = ([eval (.Constant (.int n) j0 p0) X.env], [])) (hfree : ∀ y ∈ scope.names, y.2 = .free → ∃ c, X.env.cells.lookup y.1 = some c)
    (hbind : ∀ (q : Str) (cl : List (Str × Addr)) (T0 : Addr) (doc pm cv ctv v : Value), ∃ k, bindArgs (PySem.W.kdv_fn "<lambda>" q params (.expr body) scope cl (.ref T0) doc pm cv ctv) ⟨[], []⟩ = seqItems? (.ref T0) >>= k ∧ k (some #[v]) = pure [(x, v)]) (hloc : scope.names.lookup x = some .local)
    (hE : ∀ e s, X.xe e s → E e s)
    (h : ∀ (f c' : Addr) (dV doc pm ctv : Value) (D : List (Addr × Obj)) (H1 : Hp) (s' : Shared), Inv X pins σ H1 s' → ExtN H H1 → Tabs T H1 → Made X H1 s' params body scope f c' dV doc pm ctv D → Q (.ref f) s') :
    wpAny (model X.prog X.w) X.A (eval (.Lambda params body scope pos) X.env) Q E s := by
  rw [arm_eval_Lambda, hdef]
  show wpAny _ _ (do let dv ← evalAll [eval (.Constant (.int n) j0 p0) X.env]; let kdv ← holding dv (evalAllOpt []); makeFunction "<lambda>" (X.env.qual ++ "<lambda>") params (.expr body) scope X.env dv kdv [] pos pos.line) Q E s
  have hc : PE X (.Constant (.int n) j0 p0) (tC (.int n)) := pe_int
  refine wpAny_bind ?_
  unfold evalAll
  refine wpAny_bind (wpAny_mono (hc.run pins s σ H (fun v H' => v = .int n ∧ H' = H) I ⟨rfl, rfl⟩) (fun u s1 hh => ?_) hE)
  obtain ⟨v, H', I1, r1, rfl, rfl⟩ := hh
  unfold evalAll
  refine wpAny_bind (wpAny_holding (wpAny_pure (wpAny_pure (wpAny_bind (wpAny_holding (wpAny_pure ?_))))))
  rw [makeFunction_eq, hkw]
  simp only [List.zip_nil_right, List.zip_nil_left, List.filterMap_nil, List.isEmpty_nil, List.isEmpty_cons, if_true, Bool.false_eq_true, if_false, pure_bind]
  refine wpAny_bind (wpAny_newTextTuple ?_)
  obtain ⟨T0, hT0⟩ : ∃ T0, T0 = s1.heap.objs.size := ⟨_, rfl⟩
  have I2 : Inv X pins σ H' { s1 with heap := s1.heap.push (PySem.W.kdv_tup [u]) } := I1.kept fun b o e => Heap.get?_push_of_some _ e
  have g0 : (s1.heap.push (PySem.W.kdv_tup [u])).get? T0 = some (PySem.W.kdv_tup [u]) := by
    rw [hT0]
    exact Heap.get?_push_size _ rfl
  have z0 : H' T0 = none := I1.hok.fresh (Nat.le_of_eq hT0.symm)
  have nf : T0 ∉ frs X.stack := fun z => by
    rcases List.mem_cons.mp (I1.stkSub _ z) with e | e
    · have h1 := I1.lt
      rw [← e, hT0] at h1
      exact Nat.lt_irrefl _ h1
    · exact I1.nofs (Nat.le_of_eq hT0.symm) e
  rw [← hT0]
  obtain ⟨ps, hP, _, _⟩ := hT _ hm
  have nP : T0 ≠ P := fun w => by
    rw [w, hP] at z0
    cases z0
  refine mk_tail I2 TB hcode hm hu hT hfree fun f c' doc pm ctv H1 s' I3 eN T1 kp low hf hfn hfr hco => ?_
  have g1 := kp T0 _ nP g0
  have z1 : H1 T0 = none := low T0 z0 (by
    show T0 < (s1.heap.push _).objs.size
    rw [Heap.size_push, hT0]
    exact Nat.lt_succ_self _)
  refine h f c' (.ref T0) doc pm ctv [(f, lamO X params body scope (.ref T0) doc pm c' ctv), (T0, PySem.W.kdv_tup [u])] H1 s' I3 eN T1 ⟨List.mem_cons_self, fun p hp => ?_, hco, [(x, u)], fun s2 k2 => ?_, fun y hy => ?_⟩
  · rcases List.mem_cons.mp hp with e | e
    · subst e
      exact ⟨hf, hfn, hfr⟩
    · rw [List.mem_singleton] at e
      subst e
      exact ⟨g1, z1, nf⟩
  · obtain ⟨k, b1, b2⟩ := hbind (X.env.qual ++ "<lambda>") (clos X scope) T0 doc pm (.ref c') ctv u
    exact BindsTo.of_defaults (o := PySem.W.kdv_tup [u]) rfl (k2 (T0, _) (by simp)) rfl b1 b2
  · rw [List.mem_singleton] at hy
    subst hy
    exact hloc
end
end Wn
namespace Wn
open PySem PySem.Spec PyProof.Rows L2 LamX
section
variable {X : Cx} {pins : List (Addr × Obj)} {σ : L2.St} {H HZ : Hp} {s s1 : Shared}
/-- the lambda's body begins: bs its own names -/
theorem lamW_start {A : Around} {outer : List Env} {E : XK} {scope : Scope} {f c' : Addr} {h1 : Heap} {tk : Nat} {bs : List (Str × Value)} (I : Inv X pins σ H s) (L : LamD X.N X.env.scope scope) (e0 : Env0 X.prog X.w X.K X.mg X.base A outer s1 HZ) (hd : A.handled = none)
    (un : Un (frs X.stack) [] H HZ s.heap s1.heap) (hns : h1.Ns s1.heap.objs.size fun y => bs.reverse.lookup y) (kp : ∀ b o, s1.heap.get? b = some o → h1.get? b = some o) :
    Inv (lamCx X A outer s1 HZ E scope f c') [] σ HZ { s1 with heap := h1, toks := tk } := by
  have hfree := L.has I.ok
  have up : ∀ {y c}, (cloFrom X.env.cells scope.names []).lookup y = some c → X.env.cells.lookup y = some c := fun {y c} e => by
    rcases cloFrom_mem (PySem.mem_of_lookup e) with z | ⟨z1, z2⟩
    · cases z
    · obtain ⟨c1, hc⟩ := hfree _ z1 rfl
      have hc : X.env.cells.lookup y = some c1 := hc
      rw [show c = c1 by rw [z2, hc] <;> rfl]
      exact hc
  have down : ∀ {y}, scope.names.lookup y = some .free → ∃ c, (cloFrom X.env.cells scope.names []).lookup y = some c := fun {y} hl => by
    have hy : (y, NameKind.free) ∈ scope.names := PySem.mem_of_lookup hl
    exact mem_lookup (cloFrom_has (cells := X.env.cells) (acc := []) hy)
  have cellK : ∀ {c : Addr} {v : Option Value}, H c = none → s.heap.IsCell c v → h1.IsCell c v := fun {c v} n ⟨o, ho, hd⟩ => by
    obtain ⟨sl, q⟩ := un.any ho n (by simp)
    exact ⟨_, kp _ _ q, hd⟩
  have ex0 : ∀ b : Addr, b ∉ (lamCx X A outer s1 HZ E scope f c').ex := fun b z => absurd (show b ∈ ([] : List Addr) from z) (by simp)
  refine ⟨⟨e0.mod, L.kind, rfl, rfl, Nat.le_refl _, fun y z c e1 e2 => I.ok.inj y z c (up e1) (up e2), fun y hy => ?_, fun y c z _ => ?_, fun _ => hd, Around.frames_deeper e0.frames, .inr ⟨rfl, rfl⟩, fun b z => absurd z (ex0 b), e0.bs, e0.bsz, fun b _ _ => ex0 b,
      fun b z => absurd z (ex0 b), e0.funs, e0.frf⟩,
    rfl, e0.bare, Un.kept kp, ⟨_, hns, fun i y v e1 e2 e3 => ?_⟩, fun y c e => ?_, e0.hok.fresh (Nat.le_refl _), fun y c e => ?_, fun q hq => absurd (show q ∈ ([] : List (Addr × Obj)) ++ [] from hq) (by simp), e0.hok.kept kp, I.len⟩
  · have hy : scope.names.lookup y = some .cell ∨ scope.names.lookup y = some .free := hy
    rcases hy with hy | hy
    · exact absurd rfl (L.own _ (PySem.mem_of_lookup hy)).1
    · exact down hy
  · have z : false = true := z
    cases z
  · have e3 : Vis scope y := e3
    rcases e3 with k | k | k
    · exact absurd (List.mem_iff_getElem?.mpr ⟨i, e1⟩) ((L.own _ (PySem.mem_of_lookup k)).2 rfl)
    · exact absurd rfl (L.own _ (PySem.mem_of_lookup k)).1
    · obtain ⟨m, hn, hl⟩ := I.loc
      have hvis : Vis X.env.scope y := (L.free _ (PySem.mem_of_lookup k) rfl).elim (fun k => .inr (.inl k)) (fun k => .inr (.inr k))
      obtain ⟨w', r, q⟩ := hl i y v e1 e2 hvis
      obtain ⟨c2, h2⟩ := down k
      refine ⟨w', r, .inr ⟨.inr k, c2, h2, ?_⟩⟩
      have c1 := up h2
      rcases q with ⟨k', _⟩ | ⟨_, c3, e', z⟩
      · have k' : X.env.scope.names.lookup y = some .local := k'
        rcases L.free _ (PySem.mem_of_lookup k) rfl with k2 | k2 <;> rw [show X.env.scope.names.lookup y = _ from k2] at k' <;> cases k'
      · rw [c1] at e'
        cases e'
        exact cellK (I.freeC y _ c1) z
  · obtain ⟨w', z⟩ := I.cell y c (up e)
    exact ⟨w', cellK (I.freeC y c (up e)) z⟩
  · obtain ⟨v, o, ho, hd⟩ := I.cell y c (up e)
    exact un.free c o ho (I.freeC y c (up e)) (by simp)
/-- x(), in the def that got the lambda; what is raised is wished for at its slots -/
theorem pe_actW {CXg : CXT} {Eg : XK} {Ng : List Str} {qg : Str} {sg : Scope} {g f c' : Addr} {cdg dV doc pm ctv : Value} {params : Arguments} {body : Expr} {scope : Scope} {D : List (Addr × Obj)} {k i : Nat} {a : Str} {pn : List (Addr × Obj)} {xe : Value → Shared → Prop} {W : WX} {tb : XK → TE} {p1 p2 : Pos}
    (I : Inv X pins σ H s) (L : LamD X.N X.env.scope scope) (M : Made X H s params body scope f c' dV doc pm ctv D)
    (tk : Takes ((cxOf CXg X.prog X.w X.K X.mg X.base Ng qg sg g cdg X.A X.stack s H Eg).tr pn xe) W) (hr : Room (k + 1) (X.A.deeper (envOfC qg sg s.heap.objs.size g cdg)))
    (hbody : ∀ (A : Around) (outer : List Env) (s : Shared) (H : Hp) (E : XK), Room k (A.deeper (lamEnv X scope s.heap.objs.size f c')) → PE (lamCx X A outer s H E scope f c') body (tb E))
    (hN : Ng[i]? = some a) (hv : Vis sg a) (hd : (a == ("__debug__" : Str)) = false := by decide) (hcd : (a == ("__classdict__" : Str)) = false := by decide) :
    PE ((cxOf CXg X.prog X.w X.K X.mg X.base Ng qg sg g cdg X.A X.stack s H Eg).tr pn xe) (.Call (.Name a p1) [] [] p2)
      (fun σZ HZ Q => σZ[i]? = some (some (.ref f)) ∧ HZ c' = some (CodeO c' (X.env.qual ++ "<lambda>")) ∧ ∃ E : XK, (∀ cls d H', E cls d H' → W cls d σZ H') ∧ tb E σ HZ Q) := by
  refine ⟨fun pinsZ sZ σZ HZ Q IZ h => ?_⟩
  obtain ⟨hs, hc, E, hW, ht⟩ := h
  refine wpAny_Call_Name_kw (thn ((pe_var (pos := p1) (i := i) hN hv hd hcd).run pinsZ sZ σZ HZ (fun v H1 => v = .ref f ∧ H1 = HZ) IZ ⟨.ref f, hs, rfl, rfl⟩) fun u s1 hh => ?_)
  obtain ⟨v, H1, I1, r1, ev, eH⟩ := hh
  subst ev
  rw [eH] at I1
  obtain rfl : u = Value.ref f := r1
  have un : Un (frs X.stack) [] H HZ s.heap s1.heap := I1.base
  have stay : ∀ p ∈ D, s1.heap.get? p.1 = some p.2 := fun p hp => un.keep _ _ (M.there p hp).1 (M.there p hp).2.1 (M.there p hp).2.2 (by simp)
  have of1 := stay _ M.at_
  refine PySem.W.callWith_F0 ⟨_, _, _, _, of1⟩ ?_
  obtain ⟨⟨oc, vs, t, hoc, hdc, hvc⟩, _, _⟩ := I1.hok c' _ hc
  obtain ⟨bs, hbind, hloc⟩ := M.binds
  have rc : codeAny (model X.prog X.w) (X.A.deeper (envOfC qg sg s.heap.objs.size g cdg)) (.call (.ref f) ⟨[], []⟩) (CR (L2.CX X.prog X.w) (envOfC qg sg s.heap.objs.size g cdg :: X.stack) X.prog X.w HZ s1 Q E) s1 := by
    refine PySem.W.kla_callFunE hr.depth of1 rfl L.co L.gen rfl ⟨c', oc, vs, t, rfl, hoc, hdc, hvc⟩ (hbind s1 stay _ _ _ _ ?_)
    refine wpAny_newFunctionEnv (fun y hy => (L.own y hy).1) hloc (fun h1 hns hsb => ⟨I1.nolimit.fresh _ hsb, ?_⟩) L.kind
    show codeAny _ _ (.expr body (lamEnv X scope s1.heap.objs.size f c')) _ _
    have kp : ∀ b o, s1.heap.get? b = some o → h1.get? b = some o := fun b o e => hsb.extBut b o (Nat.ne_of_lt (Heap.lt_size e)) (Heap.get?_push_of_some _ e)
    have J : Inv (lamCx X (X.A.deeper (envOfC qg sg s.heap.objs.size g cdg)) (envOfC qg sg s.heap.objs.size g cdg :: X.stack) s1 HZ E scope f c') [] σ HZ { s1 with heap := h1, toks := s1.toks + bs.length } :=
      lamW_start I L I1.env0 hr.hd un hns kp
    refine PySem.W.kla_codeExpr (wpAny_mono ((hbody _ _ s1 HZ E (hr.deeper _)).run [] _ _ HZ Q J ht) (fun v s' hq => ?_) fun e s' hq => hq)
    obtain ⟨w', H', J', rv, q⟩ := hq
    exact ⟨w', H', J'.os, J'.bare, J'.base, J'.hok, rv, q⟩
  refine wpAny_call (codeAny_mono rc fun r s' hq => ?_)
  match r, hq with
  | .error e, hq => exact tk e s' (XE.of_call I1 hW hq)
  | .ok (.ret u), hq => exact I1.after hq
  | .ok .next, hq => exact hq.elim
  | .ok .brk, hq => exact hq.elim
  | .ok .cont, hq => exact hq.elim
end
/-- how a lambda is made here -/
def MkLam (X : Cx) (T : List (Addr × Str)) (params : Arguments) (body : Expr) (scope : Scope) (lpos : Pos) : Prop :=
  ∀ (pins : List (Addr × Obj)) (σ : L2.St) (H : Hp) (s : Shared) (Q : Value → Shared → Prop), Inv X pins σ H s → Tabs T H →
    (∀ (f c' : Addr) (dV doc pm ctv : Value) (D : List (Addr × Obj)) (H1 : Hp) (s' : Shared), Inv X pins σ H1 s' → ExtN H H1 → Tabs T H1 → Made X H1 s' params body scope f c' dV doc pm ctv D → Q (.ref f) s') →
    wpAny (model X.prog X.w) X.A (eval (.Lambda params body scope lpos) X.env) Q X.xe s
/-- the def that calls what it got: a calls it; TT: what it makes of the lambda's reading -/
def Gives (X : Cx) (Ng : List Str) (x : Str) (sg : Scope) (g : Addr) (cdg : Value) (bg : List Stmt) (a : Str) (q : Str) (TT : (XK → Hp → VK → Prop) → Hp → VK → Prop) : Prop :=
  ∀ (f c' : Addr) (s : Shared) (H : Hp) (Q : VK) (tl : XK → Hp → VK → Prop), Room 1 (X.A.deeper (envOfC x sg s.heap.objs.size g cdg)) →
    (∀ (W : WX) (pn : List (Addr × Obj)) (xe : Value → Shared → Prop) (p1 p2 : Pos), Takes ((cxOf CX0 X.prog X.w X.K X.mg X.base Ng x sg g cdg X.A X.stack s H E0).tr pn xe) W →
      PE ((cxOf CX0 X.prog X.w X.K X.mg X.base Ng x sg g cdg X.A X.stack s H E0).tr pn xe) (.Call (.Name a p1) [] [] p2) (fun σZ HZ Q => σZ[0]? = some (some (.ref f)) ∧ HZ c' = some (CodeO c' q) ∧ ∃ E : XK, (∀ cls d H', E cls d H' → W cls d σZ H') ∧ tl E HZ Q)) →
    H c' = some (CodeO c' q) → TT tl H Q →
    ∃ t, PSs (cxOf CX0 X.prog X.w X.K X.mg X.base Ng x sg g cdg X.A X.stack s H E0).nox bg t ∧ t { nx := fun _ H' => Q .non H', rt := Q } (L2.start Ng [.ref f]) H
section
variable {X : Cx}
/-- x(lambda: body) -/
theorem pe_outc {T : List (Addr × Str)} {TT : (XK → Hp → VK → Prop) → Hp → VK → Prop} {x a : Str} {g : Addr} {k : Nat} {st : Stmt} {fd : FuncData} {Ng : List Str} {cdg : Value}
    {params : Arguments} {body : Expr} {scope : Scope} {t : XK → TE} {p lpos pos : Pos} (hg : Gl X x) (hm : X.mg x = some (.ref g)) (hk : PySem.W.keepIn X.K (.ref g) = true) (F : Fun X.K x x st g fd) (hcd : fd.code = cdg) (hb : L2.Binds X.K fd [a] []) (Sg : FnScope Ng [a] (defScope st)) (hNg : Ng[0]? = some a) (hva : Vis (defScope st) a)
    (hG : Gives X Ng x (defScope st) g cdg (defBody st) a (X.env.qual ++ "<lambda>") TT) (ML : MkLam X T params body scope lpos) (hr : Room (k + 2) X.A) (L : LamD X.N X.env.scope scope)
    (hbody : ∀ (A : Around) (outer : List Env) (s : Shared) (H : Hp) (E : XK) (f c' : Addr), Room k (A.deeper (lamEnv X scope s.heap.objs.size f c')) → PE (lamCx X A outer s H E scope f c') body (t E))
    (hdb : (x == ("__debug__" : Str)) = false := by decide) (hd : (a == ("__debug__" : Str)) = false := by decide) (hcc : (a == ("__classdict__" : Str)) = false := by decide) :
    PE X (.Call (.Name x p) [.Lambda params body scope lpos] [] pos) (tLam T TT t) := by
  refine ⟨fun pins s σ H Q I h => ?_⟩
  obtain ⟨hT, h⟩ := h
  obtain ⟨oc, od, kV, doc0, pm0, an, cdv, ct, osl, rfl, lk, hcg⟩ := F.ex
  obtain rfl : cdv = cdg := hcd
  refine wpAny_Call_Name_kw (ld_glob I hg hm ?_ hdb)
  refine PySem.W.callWith_K (h₀ := X.base) I.ok.mod.kin hk ?_ (by rfl) (by rfl)
  show wpAny _ _ (spliced ((false, eval (.Lambda params body scope lpos) X.env) :: backTo pos (starEach [] X.env))) _ _ s
  refine Calls.spliced_cons (ML pins σ H s _ I hT fun f c' dV doc pm ctv D H1 s' I1 eN T1 M => ?_)
  refine Calls.spliced_nil ⟨I1.kIn, ?_⟩
  have rc : codeAny (model X.prog X.w) X.A (.call (.ref g) ⟨[.ref f], []⟩) (CR CX0 X.stack X.prog X.w H1 s' Q E0) s' := by
    refine run_ofS (N := Ng) (ps := [a]) (us := [.ref f]) (vs := [.ref f]) lk hcg Sg hr I1.env0 (hb s' [.ref f] I1.kIn rfl) (.cons rfl .nil) rfl fun hr' => ?_
    obtain ⟨t', ht', hq'⟩ := hG f c' s' H1 Q (fun E H' Q' => t E σ H' Q') (hr'.mono (by omega)) (fun W pn xe p1 p2 tk => pe_actW (i := 0) I1 L M tk hr' (fun A outer s H E hr2 => hbody A outer s H E f c' hr2) hNg hva hd hcc) M.code (h H1 eN T1)
    exact ⟨t', ht'.nox, hq'⟩
  refine wpAny_call (codeAny_mono rc fun r s2 hq => ?_)
  match r, hq with
  | .error e, hq => exact (show False from hq).elim
  | .ok (.ret u), hq => exact I1.after hq
  | .ok .next, hq => exact hq.elim
  | .ok .brk, hq => exact hq.elim
  | .ok .cont, hq => exact hq.elim
end
end Wn
/-! a law whose defs make lambdas: the end, by the tables of their code -/
namespace Wn
open PySem PySem.Spec PyProof.Rows L2 LamX
/-- a def by its body, its code told -/
theorem fnGc {P : Program} {w : World} {K : PySem.W.Frag} {mg : Str → Option Value} {base : Heap} {CX : CXT} {k : Nat} {f : Addr} {fd : FuncData} {ps : List Str} {sp : Sp} {x qual : Str} {st : Stmt} {N : List Str} (F : Fun K x qual st f fd) (S : FnScope N ps (defScope st)) (sz : ∀ vs H Q E, sp vs H Q E → vs.length = ps.length)
    (body : ∀ (cdv : Value) (A : Around) (outer : List Env) (s : Shared) (H : Hp) (vs : List V) (Q : VK) (E : XK), fd.code = cdv → (A.deeper (envOfC qual (defScope st) s.heap.objs.size f cdv)).guards = some [] →
      Room k (A.deeper (envOfC qual (defScope st) s.heap.objs.size f cdv)) → sp vs H Q E →
      ∃ t, PSs (cxOf CX P w K mg base N qual (defScope st) f cdv A outer s H E) (defBody st) t ∧ t { nx := fun _ H' => Q .non H', rt := Q } (L2.start N vs) H) : FnG P w K mg base CX (k + 1) f fd ps sp := by
  obtain ⟨oc, od, kV, doc, pm, an, cdv, ct, osl, rfl, lk, hcd⟩ := F.ex
  refine ⟨sz, fun A hgd hr outer s H args us vs Q E e0 hb r h => ?_⟩
  have KI : K.In s.heap := e0.mod.kin.keeps fun b o e => (e0.bs b o e).1
  have NL : s.heap.NoLimit := e0.mod.nolimit.keeps fun b o e => (e0.bs b o e).1
  refine codeAny_call_function hr.depth (KI _ _ lk) rfl S.co S.gen rfl (PySem.W.codeRec_of KI hcd) (hb _ _ _ _ ?_)
  refine wpAny_newFunctionEnv_cells S.kind (fun y hy => ?_) fun env he s1 x => ?_
  · obtain ⟨n, v⟩ := y
    rcases S.par n (List.of_mem_zip hy).1 with q | q
    · exact .inl q
    · exact .inr ⟨q, PySem.W.cellsFrom_some _ _ _ (.inl q)⟩
  · subst he
    refine ⟨NL.keeps x.toInCall.keep, codeAny_func ?_⟩
    obtain ⟨t, ht, hq⟩ := body cdv A outer s H vs Q E rfl hgd (hr.deeper _) h
    refine wpAny_mono (ht.run [] s1 _ H _ (inv_start S hr.hd e0 (sz _ _ _ _ h) r x) hq) (fun fl s' z => ?_) fun e s' z => z
    cases fl with
    | ret u =>
      obtain ⟨v, σ', H', J, rv, q⟩ := z
      exact ⟨v, H', J.os, J.bare, J.base, J.hok, rv, q⟩
    | next =>
      obtain ⟨σ', H', J, q⟩ := z
      exact ⟨.non, H', J.os, J.bare, J.base, J.hok, rfl, q⟩
    | brk =>
      obtain ⟨_, _, _, q⟩ := z
      exact q.elim
    | cont =>
      obtain ⟨_, _, _, q⟩ := z
      exact q.elim
theorem fnGc0 {P : Program} {w : World} {K : PySem.W.Frag} {mg : Str → Option Value} {base : Heap} {k : Nat} {f : Addr} {fd : FuncData} {ps : List Str} {sp : Sp} {x qual : Str} {st : Stmt} {N : List Str} (F : Fun K x qual st f fd) (S : FnScope N ps (defScope st)) (sz : ∀ vs H Q E, sp vs H Q E → vs.length = ps.length)
    (body : ∀ (cdv : Value) (A : Around) (outer : List Env) (s : Shared) (H : Hp) (vs : List V) (Q : VK) (E : XK), fd.code = cdv → (A.deeper (envOfC qual (defScope st) s.heap.objs.size f cdv)).guards = some [] →
      Room k (A.deeper (envOfC qual (defScope st) s.heap.objs.size f cdv)) → sp vs H Q E →
      ∃ t, PSs (cxOf CX0 P w K mg base N qual (defScope st) f cdv A outer s H E).nox (defBody st) t ∧ t { nx := fun _ H' => Q .non H', rt := Q } (L2.start N vs) H) : FnG P w K mg base CX0 (k + 1) f fd ps sp :=
  fnGc F S sz fun cdv A outer s H vs Q E hc g r h => let ⟨t, ht, q⟩ := body cdv A outer s H vs Q E hc g r h; ⟨t, ht.nox, q⟩
/-- the law's call; cs: the code objects and their tables -/
theorem law_callGT {P : Program} {w : World} {K : PySem.W.Frag} {mg mb : Str → Option Value} {CX : CXT} {k : Nat} {fa a : Addr} {cs : List (Addr × Addr)} {fd : FuncData} {x : Str} {sp : Sp} {s1 : Shared} {vs : List Value} {ns : List Int}
    (KX : K.In s1.heap) (hns : s1.heap.Ns mainGlobals mg) (hb : s1.heap.Ns builtinsNs mb) (hbb : ∀ x : Str, x ≠ "__name__" → mb x = bootBuiltins x) (hlim : s1.heap.NoLimit) (hg : s1.gens = #[])
    (hT : ∀ p ∈ cs, s1.heap.get? p.2 = some { cls := .none, data := .fields #[] }) (nT : ∀ p ∈ cs, K.lookup p.2 = none) (C : ∀ p ∈ cs, PySem.W.CodeHd s1.heap p.1 p.2)
    (hbm : ∃ (bm : Addr) (ob : Obj), mg "__builtins__" = some (.ref bm) ∧ bm ≠ builtinsNs ∧ s1.heap.get? bm = some ob ∧ ob.cls = .type "module" ∧ ob.dict = some builtinsNs ∧ ob.data = .plain)
    (ha : s1.heap.get? a = some { cls := .type "list", data := .seq vs.toArray }) (hi : IntsAre vs ns) (hl : ns.length ≤ sizeLine) (hr : Room k callerA)
    (F : ∀ base : Heap, K.In base → base.Ns mainGlobals mg → (∀ p ∈ cs, TabB base mg p.1 p.2) → FnG P w K mg base CX k fa fd [x] sp) (hbind : ∀ (s : Shared) (u : Value), BindsTo s fd ⟨[u], []⟩ [(x, u)])
    (hsp : ∀ H : Hp, (∀ p ∈ cs, H p.2 = some (.tbl #[])) → SqL K H a (ns.map V.int) → sp [.ref a] H (fun v _ => v = .bl true) fun _ _ _ => False)
    (hCX : ∀ H e s', CX [] H s1 (fun _ _ _ => False) e s' → False) :
    codeAny (model P w) callerA (.call (.ref fa) ⟨[.ref a], []⟩) (fun r s' => r = .ok (.ret (.bool true)) ∧ OldK s1.heap s'.heap ∧ s'.os = s1.os ∧ AllBare s'.gens) s1 := by
  obtain ⟨ts, hts⟩ : ∃ ts, ts = cs.map (·.2) := ⟨_, rfl⟩
  have inT : ∀ {p : Addr × Addr}, p ∈ cs → p.2 ∈ ts := fun hp => by
    rw [hts]
    exact List.mem_map.mpr ⟨_, hp, rfl⟩
  have outT : ∀ {b : Addr}, b ∈ ts → s1.heap.get? b = some { cls := .none, data := .fields #[] } ∧ K.lookup b = none := fun hb => by
    rw [hts] at hb
    obtain ⟨p, hp, e⟩ := List.mem_map.mp hb
    rw [← e]
    exact ⟨hT p hp, nT p hp⟩
  have na : a ∉ ts := fun z => by
    have q := (outT z).1
    rw [ha] at q
    cases q
  obtain ⟨H, hH⟩ : ∃ H : Hp, H = fun b => if b ∈ ts then some (.tbl #[]) else if b = a ∧ K.lookup a = none then some (.frz { cls := .type "list", data := .seq vs.toArray } (.lst (ns.map V.int))) else none := ⟨_, rfl⟩
  have at_ : ∀ b u, H b = some u → (b ∈ ts ∧ u = .tbl #[]) ∨ (b = a ∧ K.lookup a = none ∧ u = .frz { cls := .type "list", data := .seq vs.toArray } (.lst (ns.map V.int))) := fun b u z => by
    rw [hH] at z
    dsimp only at z
    split at z
    · rename_i c
      exact .inl ⟨c, (Option.some.inj z).symm⟩
    · split at z
      · rename_i c
        exact .inr ⟨c.1, c.2, (Option.some.inj z).symm⟩
      · cases z
  have off : ∀ b o, s1.heap.get? b = some o → (∀ n, o.data ≠ .seq vs.toArray n) → o.data ≠ .fields #[] → H b = none := fun b o e d d2 => by
    cases z : H b with
    | none => rfl
    | some u =>
      rcases at_ b u z with ⟨w1, _⟩ | ⟨rfl, _, _⟩
      · rw [(outT w1).1] at e
        cases e
        exact absurd rfl d2
      · rw [ha] at e
        cases e
        exact absurd rfl (d _)
  have kb : ∀ b o, K.lookup b = some o → H b = none := fun b o e => by
    cases z : H b with
    | none => rfl
    | some u =>
      rcases at_ b u z with ⟨w1, _⟩ | ⟨rfl, z2, _⟩
      · rw [(outT w1).2] at e
        cases e
      · rw [z2] at e
        cases e
  have ok : HOk P w H s1.heap := fun b u z => by
    rcases at_ b u z with ⟨w1, rfl⟩ | ⟨rfl, _, rfl⟩
    · exact (outT w1).1
    · exact ⟨ha, by rw [List.length_map]; exact hl, vs, _, vals_ints hi, ha⟩
  have sq : SqL K H a (ns.map V.int) := by
    cases z : K.lookup a with
    | none =>
      refine .inl (.inr ⟨{ cls := .type "list", data := .seq vs.toArray }, ?_⟩)
      rw [hH]
      dsimp only
      rw [if_neg na]
      exact if_pos ⟨rfl, z⟩
    | some o =>
      have e := KX a o z
      rw [ha] at e
      cases e
      exact .inr ⟨_, vs.toArray, _, z, rfl, rfl, rfl, by rw [List.size_toArray, hi.length]; exact hl, by simpa using vals_ints hi⟩
  have tabs : ∀ p ∈ cs, H p.2 = some (.tbl #[]) := fun p hp => by
    rw [hH]
    exact if_pos (inT hp)
  have nsB : ∀ {b : Addr} {m : Str → Option Value}, s1.heap.Ns b m → (hidT s1.heap H).Ns b m := fun {b m} ⟨o, es, ep, e, d, r⟩ => ⟨o, es, ep, hidT_get e (off b o e (fun n z => by rw [d] at z; cases z) fun z => by rw [d] at z; cases z), d, r⟩
  have KB : K.In (hidT s1.heap H) := fun b o e => hidT_get (KX b o e) (kb b o e)
  have M : Mod K mg (hidT s1.heap H) := ⟨KB, nsB hns, ⟨mb, nsB hb, hbb⟩, let ⟨mc, h1, h2⟩ := hlim; ⟨mc, nsB h1, h2⟩⟩
  have TB : ∀ p ∈ cs, TabB (hidT s1.heap H) mg p.1 p.2 := fun p hp => by
    have g0 := hT p hp
    refine ⟨?_, ?_, fun z => ?_⟩
    · obtain ⟨o, us, file, tf, flags, tg, inF, text, tt, e1, r1, r2, r3, r⟩ := C p hp
      refine ⟨o, us, file, tf, flags, tg, inF, text, tt, hidT_get e1 (off _ _ e1 (fun n z => ?_) fun z => ?_), r1, r2, r3, r⟩
      · rw [r2] at z
        cases z
      · rw [r2] at z
        cases z
        simp at r3
    · obtain ⟨bm, ob, b1, b2, b3, b4, b5, b6⟩ := hbm
      have nG : bm ≠ mainGlobals := fun q => by
        obtain ⟨o, es, ep, e, hd, _⟩ := hns
        rw [q, e] at b3
        cases b3
        rw [hd] at b6
        cases b6
      have nP : bm ≠ p.2 := fun q => by
        rw [q, g0] at b3
        cases b3
        cases b6
      exact ⟨bm, ob, b1, b2, nG, nP, hidT_get b3 (off _ _ b3 (fun n z => by rw [b6] at z; cases z) fun z => by rw [b6] at z; cases z), b4, b5, b6⟩
    · obtain ⟨o, es, ep, e, hd, _⟩ := hns
      rw [z, g0] at e
      cases e
      cases hd
  have env : Env0 P w K mg (hidT s1.heap H) callerA [] s1 H := ⟨rfl, M, fun b o e => of_hidT e, Nat.le_of_eq (hidT_size _ _), trivial, fun b z => absurd (show b ∈ ([] : List Addr) from z) (by simp), ok, .of_eq hg⟩
  refine codeAny_mono ((F _ KB (nsB hns) TB).go callerA rfl hr [] s1 H ⟨[.ref a], []⟩ [.ref a] [.ref a] _ _ env (hbind s1 (.ref a)) (.cons rfl .nil) (hsp H tabs sq)) fun r s' z => ?_
  match r, z with
  | .error e, z => exact (hCX H e s' z).elim
  | .ok .next, z => exact z.elim
  | .ok .brk, z => exact z.elim
  | .ok .cont, z => exact z.elim
  | .ok (.ret u), z =>
    obtain ⟨v, H', os, bare, un, ok', rv, q⟩ := z
    obtain rfl : v = .bl true := q
    obtain rfl : u = Value.bool true := rv
    have grown : ∀ p ∈ cs, ∃ more : Array Value, s'.heap.get? p.2 = some { cls := .none, data := .fields more } := fun p hp => by
      obtain ⟨more, z⟩ := un.tbls p.2 #[] (tabs p hp)
      exact ⟨_, ok' p.2 _ z⟩
    have same : ∀ b o, b ∉ ts → s1.heap.get? b = some o → s'.heap.get? b = some o := fun b o nb e => by
      cases y : H b with
      | none => exact un.keep b o e y (fun c => absurd (show b ∈ ([] : List Addr) from c) (by simp)) (by simp)
      | some u =>
        rcases at_ b u y with ⟨w1, _⟩ | ⟨rfl, _, rfl⟩
        · exact absurd w1 nb
        · rw [ha] at e
          cases e
          exact (ok' _ _ (un.frzs _ _ _ y)).1
    refine ⟨rfl, ⟨fun b o e => ?_, fun b o e => ?_⟩, os, bare⟩
    · by_cases w1 : b ∈ ts
      · have w2 := w1
        rw [hts] at w2
        obtain ⟨p, hp, ep⟩ := List.mem_map.mp w2
        obtain ⟨more, hm⟩ := grown p hp
        rw [← ep] at e ⊢
        rw [hT p hp] at e
        cases e
        exact .inr (.inl ⟨((C p hp).tab (hT p hp)).isCodeTable, rfl, #[], more, rfl, by rw [Array.empty_append]; exact hm⟩)
      · exact .inl (same b o w1 e)
    · by_cases w1 : b ∈ ts
      · rw [hts] at w1
        obtain ⟨p, hp, ep⟩ := List.mem_map.mp w1
        obtain ⟨more, hm⟩ := grown p hp
        rw [← ep]
        exact ⟨_, hm⟩
      · exact ⟨o, same b o w1 e⟩
theorem walkGT {l : PySem.W.OpenLaw} {n k : Nat} {q : Program} {loose : List Str} {XP : (Str → Option Value) → Heap → Prop} {YP : World → Heap → Prop} {d : DefRec} {K : Params → PySem.W.Frag} {x : Str} {xs : List Str}
    (hn : l.most = some n) (hn2 : n ≤ sizeLine) (hdf : d.params.defaults = []) (hr : Room k callerA) (hxs : xs.all (fun y => ((recsOf q).find? fun e => e.name == y).isSome) = true) (hY : ∀ (w : World) (h : Heap), YP w h → (K w.params).In h)
    (F : ∀ (w : World) (mg : Str → Option Value) (fa : Addr) (h : Heap), (K w.params).In h → h.Ns mainGlobals mg → mg d.name = some (.ref fa) →
      ∃ (fd : FuncData) (cs : List (Addr × Addr)) (sp : Sp), (∀ p ∈ cs, (∃ y ∈ xs, PySem.W.tabIn (K w.params) y = some p) ∧ (K w.params).lookup p.2 = none) ∧ (∀ (s : Shared) (u : Value), BindsTo s fd ⟨[u], []⟩ [(x, u)]) ∧
        (∀ (H : Hp) (a : Addr) (ns : List Int), ns.length ≤ n → (∀ p ∈ cs, H p.2 = some (.tbl #[])) → SqL (K w.params) H a (ns.map V.int) → sp [.ref a] H (fun v _ => v = .bl true) fun _ _ _ => False) ∧
        ∀ base : Heap, (K w.params).In base → base.Ns mainGlobals mg → (∀ p ∈ cs, TabB base mg p.1 p.2) → FnG l.prog w (K w.params) mg base CX0 k fa fd [x] sp) :
    PySem.W.WalkO q loose XP YP l.row.toRowW d [] (fun f vs => PySem.call f vs) :=
  Att.attach_call hn hdf fun w s0 s1 mg mb fa o pm cd doc a vs ns G Y ho hd hcd hmg hobj hints hlen hg => by
    have KX := hY w _ Y
    obtain ⟨fd, cs, sp, hc, hb, hsp, hF⟩ := F w mg fa _ KX G.T.g hmg
    have tab : ∀ p ∈ cs, PySem.W.CodeHd s1.heap p.1 p.2 ∧ s1.heap.get? p.2 = some { cls := .none, data := .fields #[] } := fun p hp => by
      obtain ⟨⟨y, hy, e⟩, _⟩ := hc p hp
      have z := List.all_eq_true.mp hxs y hy
      obtain ⟨d2, e2⟩ := Option.isSome_iff_exists.mp z
      exact PySem.W.tab_of G.T KX e2 e
    exact law_callGT KX G.T.g G.T.b G.T.builtins G.T.nolimit hg (fun p hp => (tab p hp).2) (fun p hp => (hc p hp).2) (fun p hp => (tab p hp).1) G.T.bmain hobj hints (Nat.le_trans hlen hn2) hr hF hb (fun H hT hS => hsp H a ns hlen hT hS) fun H e s' z => z
end Wn
namespace Wn
open PySem PySem.Spec PyProof.Rows L2
local macro_rules | `(tactic| walk_at "vc") => `(tactic| simp only [cxK, cxK2, start1, start2, start3, tRet, tRetN, tSeq, tNext, tIfS, tAsg, gName, tDrop, tVar, tC, tOp, tUn, tTest, tB, tNot, tAnd, tOr, tAndV, tOrV, tNotV, tIf, tCons, tNil, tCB, tCall, tChain, tAug, ipI, rI, rI0, rU, rIs, rGcd, rEq, rNe, scal,
  List.getElem?_cons_zero, List.getElem?_cons_succ, List.set_cons_zero, List.set_cons_succ, Option.some.injEq, List.cons.injEq, V.int.injEq, V.bl.injEq, V.ref.injEq, V.str.injEq, and_true, true_and, exists_eq_left, exists_eq_left', exists_and_left, exists_and_right, List.append_nil, List.nil_append, List.cons_append, exists_eq_right, exists_eq_right', and_assoc, exists_const, V.ty.injEq, ↓reduceIte, Bool.false_eq_true, Bool.not_true, Bool.not_false, decide_eq_true_eq])
section
def topS (i : Nat) : Stmt := PySem.Challenge.pw_wheelnines_k47_whole_facts.main.body.getD i (.Pass ⟨0, 0, 0, 0⟩)
abbrev s_is_integer : Stmt := topS 10
theorem sc_is_integer : FnScope ["value"] ["value"] (defScope s_is_integer) := ⟨rfl, rfl, rfl, by decide +kernel, rfl, by decide +kernel, by decide +kernel⟩
abbrev s_is_within : Stmt := topS 11
theorem sc_is_within : FnScope ["value", "low", "high"] ["value", "low", "high"] (defScope s_is_within) := ⟨rfl, rfl, rfl, by decide +kernel, rfl, by decide +kernel, by decide +kernel⟩
abbrev s_need_base : Stmt := topS 12
theorem sc_need_base : FnScope ["value"] ["value"] (defScope s_need_base) := ⟨rfl, rfl, rfl, by decide +kernel, rfl, by decide +kernel, by decide +kernel⟩
abbrev s_need_denominator : Stmt := topS 13
theorem sc_need_denominator : FnScope ["value"] ["value"] (defScope s_need_denominator) := ⟨rfl, rfl, rfl, by decide +kernel, rfl, by decide +kernel, by decide +kernel⟩
abbrev s_pure_part : Stmt := topS 14
theorem sc_pure_part : FnScope ["base", "denominator", "pure", "common"] ["base", "denominator"] (defScope s_pure_part) := ⟨rfl, rfl, rfl, by decide +kernel, rfl, by decide +kernel, by decide +kernel⟩
abbrev s_period : Stmt := topS 15
theorem sc_period : FnScope ["base", "denominator", "pure", "one", "rest", "size"] ["base", "denominator"] (defScope s_period) := ⟨rfl, rfl, rfl, by decide +kernel, rfl, by decide +kernel, by decide +kernel⟩
abbrev s_head_size : Stmt := topS 16
theorem sc_head_size : FnScope ["base", "denominator", "impure", "rest", "size"] ["base", "denominator"] (defScope s_head_size) := ⟨rfl, rfl, rfl, by decide +kernel, rfl, by decide +kernel, by decide +kernel⟩
abbrev s_power : Stmt := topS 17
theorem sc_power : FnScope ["number", "exponent", "result", "_"] ["number", "exponent"] (defScope s_power) := ⟨rfl, rfl, rfl, by decide +kernel, rfl, by decide +kernel, by decide +kernel⟩
abbrev s_power_rest : Stmt := topS 18
theorem sc_power_rest : FnScope ["number", "exponent", "divisor", "rest", "square", "left"] ["number", "exponent", "divisor"] (defScope s_power_rest) := ⟨rfl, rfl, rfl, by decide +kernel, rfl, by decide +kernel, by decide +kernel⟩
abbrev s_prime_powers : Stmt := topS 19
theorem sc_prime_powers : FnScope ["number", "rows", "left", "prime", "exponent"] ["number"] (defScope s_prime_powers) := ⟨rfl, rfl, rfl, by decide +kernel, rfl, by decide +kernel, by decide +kernel⟩
abbrev s_spaced : Stmt := topS 21
theorem sc_spaced : FnScope ["base", "fraction", "size", "count", "numerator", "denominator", "step", "rests", "rest", "_"] ["base", "fraction", "size", "count"] (defScope s_spaced) := ⟨rfl, rfl, rfl, by decide +kernel, rfl, by decide +kernel, by decide +kernel⟩
abbrev s_is_balanced_with : Stmt := topS 22
theorem sc_is_balanced_with : FnScope ["base", "denominator", "size", "cut"] ["base", "denominator", "size", "cut"] (defScope s_is_balanced_with) := ⟨rfl, rfl, rfl, by decide +kernel, rfl, by decide +kernel, by decide +kernel⟩
abbrev s_is_fact : Stmt := topS 27
theorem sc_is_fact : FnScope ["value", "ranges", "number", "low", "high"] ["value"] (defScope s_is_fact) := ⟨rfl, rfl, rfl, by decide +kernel, rfl, by decide +kernel, by decide +kernel⟩
abbrev s_need_facts : Stmt := topS 28
theorem sc_need_facts : FnScope ["value", "number", "fact"] ["value"] (defScope s_need_facts) := ⟨rfl, rfl, rfl, by decide +kernel, rfl, by decide +kernel, by decide +kernel⟩
abbrev s_residue_count : Stmt := topS 29
theorem sc_residue_count : FnScope ["denominator", "count", "prime", "exponent"] ["denominator"] (defScope s_residue_count) := ⟨rfl, rfl, rfl, by decide +kernel, rfl, by decide +kernel, by decide +kernel⟩
abbrev s_holds : Stmt := topS 30
theorem sc_holds : FnScope ["base", "denominator", "size", "fact"] ["base", "denominator", "size", "fact"] (defScope s_holds) := ⟨rfl, rfl, rfl, by decide +kernel, rfl, by decide +kernel, by decide +kernel⟩
abbrev s_satisfy : Stmt := topS 31
theorem sc_satisfy : FnScope ["base", "denominator", "facts", "size", "fact"] ["base", "denominator", "facts"] (defScope s_satisfy) := ⟨rfl, rfl, rfl, by decide +kernel, rfl, by decide +kernel, by decide +kernel⟩
abbrev s_is_satisfied : Stmt := topS 32
theorem sc_is_satisfied : FnScope ["base", "denominator", "facts"] ["base", "denominator", "facts"] (defScope s_is_satisfied) := ⟨rfl, rfl, rfl, by decide +kernel, rfl, by decide +kernel, by decide +kernel⟩
abbrev s_denominators_by : Stmt := topS 33
theorem sc_denominators_by : FnScope ["base", "facts", "most", "denominator"] ["base", "facts", "most"] (defScope s_denominators_by) := ⟨rfl, rfl, rfl, by decide +kernel, rfl, by decide +kernel, by decide +kernel⟩
abbrev s_bases_by : Stmt := topS 34
theorem sc_bases_by : FnScope ["denominator", "facts", "most", "base"] ["denominator", "facts", "most"] (defScope s_bases_by) := ⟨rfl, rfl, rfl, by decide +kernel, rfl, by decide +kernel, by decide +kernel⟩
abbrev s_law_begun : Stmt := topS 36
theorem sc_law_begun : FnScope ["script", "k", "cells", "great", "cell", "seed"] ["script", "k"] (defScope s_law_begun) := ⟨rfl, rfl, rfl, by decide +kernel, rfl, by decide +kernel, by decide +kernel⟩
abbrev s_law_draw : Stmt := topS 37
theorem sc_law_draw : FnScope ["m", "limit", "found", "spot", "cells", "added", "cell", "blend"] ["m", "limit"] (defScope s_law_draw) := ⟨rfl, rfl, rfl, by decide +kernel, rfl, by decide +kernel, by decide +kernel⟩
abbrev s_law_of : Stmt := topS 38
theorem sc_law_of : FnScope ["m", "some"] ["m", "some"] (defScope s_law_of) := ⟨rfl, rfl, rfl, by decide +kernel, rfl, by decide +kernel, by decide +kernel⟩
abbrev s_law_divisor : Stmt := topS 39
theorem sc_law_divisor : FnScope ["one", "two"] ["one", "two"] (defScope s_law_divisor) := ⟨rfl, rfl, rfl, by decide +kernel, rfl, by decide +kernel, by decide +kernel⟩
abbrev s_law_powers : Stmt := topS 40
theorem sc_law_powers : FnScope ["b", "n", "some", "rest"] ["b", "n"] (defScope s_law_powers) := ⟨rfl, rfl, rfl, by decide +kernel, rfl, by decide +kernel, by decide +kernel⟩
abbrev s_law_period : Stmt := topS 41
theorem sc_law_period : FnScope ["b", "n", "some", "begin"] ["b", "n"] (defScope s_law_period) := ⟨rfl, rfl, rfl, by decide +kernel, rfl, by decide +kernel, by decide +kernel⟩
abbrev s_law_units : Stmt := topS 42
theorem sc_law_units : FnScope ["n", "k"] ["n"] (defScope s_law_units) := ⟨rfl, rfl, rfl, by decide +kernel, rfl, by decide +kernel, by decide +kernel⟩
abbrev s_law_raised : Stmt := topS 43
theorem sc_law_raised : FnScope ["b", "times", "n", "found", "square", "left"] ["b", "times", "n"] (defScope s_law_raised) := ⟨rfl, rfl, rfl, by decide +kernel, rfl, by decide +kernel, by decide +kernel⟩
abbrev s_law_is_so : Stmt := topS 44
theorem sc_law_is_so : FnScope ["b", "n", "fact", "length_so", "begin", "step", "total", "power_so", "turn"] ["b", "n", "fact"] (defScope s_law_is_so) := ⟨rfl, rfl, rfl, by decide +kernel, rfl, by decide +kernel, by decide +kernel⟩
abbrev s_law_are_so : Stmt := topS 45
theorem sc_law_are_so : FnScope ["b", "n", "facts_so", "fact"] ["b", "n", "facts_so"] (defScope s_law_are_so) := ⟨rfl, rfl, rfl, by decide +kernel, rfl, by decide +kernel, by decide +kernel⟩
abbrev s_law_fact : Stmt := topS 46
theorem sc_law_fact : FnScope ["m", "b", "n", "length_so", "begin", "more", "turn", "times"] ["m", "b", "n"] (defScope s_law_fact) := ⟨rfl, rfl, rfl, by decide +kernel, rfl, by decide +kernel, by decide +kernel⟩
abbrev s_law_right : Stmt := topS 47
theorem sc_law_right : FnScope ["m", "b", "n", "facts_so", "turn", "kept_so", "wide", "far", "due", "k", "again", "told"] ["m"] (defScope s_law_right) := ⟨rfl, rfl, rfl, by decide +kernel, rfl, by decide +kernel, by decide +kernel⟩
abbrev s_law_hand_right : Stmt := topS 48
theorem sc_law_hand_right : FnScope ["six", "rows", "facts_so", "wide", "due", "told"] [] (defScope s_law_hand_right) := ⟨rfl, rfl, rfl, by decide +kernel, rfl, by decide +kernel, by decide +kernel⟩
abbrev s_law : Stmt := topS 49
theorem sc_law : FnScope ["script", "k"] ["script"] (defScope s_law) := ⟨rfl, rfl, rfl, by decide +kernel, rfl, by decide +kernel, by decide +kernel⟩
def clsB (st : Stmt) (j : Nat) : Stmt := match st with
  | .ClassDef (body := b) .. => b.getD j (.Pass ⟨0, 0, 0, 0⟩)
  | _ => .Pass ⟨0, 0, 0, 0⟩

end
end Wn
/-! the head by one run in the kernel, and what it tells: facts as Bools, defs at any address, tables with text keys -/
namespace Wn
open PySem PySem.Spec PyProof.Rows L2
structure Asks where
  bs : PySem.W.Frag → List Bool
  fn : List He5.DefA
  ts : List He.Tab
abbrev AlW : Type := Bool × List He.FnW × List (Option (List (Option (Str × Int))))
def obsW (q : Asks) (K : PySem.W.Frag) : AlW := ((q.bs K).all id && q.fn.all (fun d => d.ok K), q.fn.map fun d => He5.fnA K (d.at_ K), q.ts.map fun t => He.dicW K (t.1 K))
def valW (q : Asks) (w : World) : AlW := (true, q.fn.map He5.DefA.val, q.ts.map fun t => some (He.keysIn w.params t.2))
def SaysW (q : Asks) (w : World) (K : PySem.W.Frag) : Prop := obsW q K = valW q w
def adrs (n : Nat) : List Addr := mainGlobals :: (List.range n).reverse
def obsWG (n : Nat) (q : Asks) (g : Addr → Option Obj) : AlW := obsW q (He.frT g (adrs n))
def hookW (n : Nat) (q : Asks) : PySem.W.Hook where
  α := AlW
  obs := fun s => obsWG n q s.heap.get?
  val := fun w => valW q w
  says := fun w h => ∃ K : PySem.W.Frag, K.In h ∧ SaysW q w K
  of := fun _ _ e => ⟨_, He.frT_in, e⟩
  keeps := fun _ _ _ ⟨K, hK, c⟩ k => ⟨K, PySem.W.Frag.In.keeps hK k, c⟩
theorem obsWG_eq {n : Nat} {q : Asks} {g : Addr → Option Obj} {s : Shared} (h : ∀ a, g a = s.heap.get? a) : obsWG n q g = (hookW n q).obs s := by
  have e : g = s.heap.get? := funext h
  rw [e] <;> rfl
section
variable {q : Asks} {w : World} {K : PySem.W.Frag}
theorem SaysW.all (c : SaysW q w K) : (q.bs K).all id = true ∧ q.fn.all (fun d => d.ok K) = true := by
  have h : ((q.bs K).all id && q.fn.all (fun d => d.ok K)) = true := congrArg (fun z : AlW => z.1) c
  exact Bool.and_eq_true_iff.mp h
theorem SaysW.b (c : SaysW q w K) (i : Nat) {b : Bool} (h : (q.bs K)[i]? = some b := by rfl) : b = true := List.all_eq_true.mp c.all.1 b (List.mem_of_getElem? h)
theorem SaysW.def_ (c : SaysW q w K) (i : Nat) {d : He5.DefA} (h : q.fn[i]? = some d := by rfl) : ∃ fd, FunD K d.name d.qual d.params d.body d.scope (d.dvs K) (d.kws K) (d.at_ K) fd := by
  have e : q.fn.map (fun d => He5.fnA K (d.at_ K)) = q.fn.map He5.DefA.val := congrArg (fun z : AlW => z.2.1) c
  have e2 : (q.fn.map fun d => He5.fnA K (d.at_ K))[i]? = (q.fn.map He5.DefA.val)[i]? := by rw [e]
  rw [List.getElem?_map, List.getElem?_map, h] at e2
  exact He5.DefA.funD (Option.some.inj e2) (List.all_eq_true.mp c.all.2 d (List.mem_of_getElem? h))
theorem SaysW.tab (c : SaysW q w K) (i : Nat) {t : He.Tab} (h : q.ts[i]? = some t := by rfl) : He.dicW K (t.1 K) = some (He.keysIn w.params t.2) := by
  have e : q.ts.map (fun t => He.dicW K (t.1 K)) = q.ts.map fun t => some (He.keysIn w.params t.2) := congrArg (fun z : AlW => z.2.2) c
  have e2 : (q.ts.map fun t => He.dicW K (t.1 K))[i]? = (q.ts.map fun t => some (He.keysIn w.params t.2))[i]? := by rw [e]
  rw [List.getElem?_map, List.getElem?_map, h] at e2
  exact Option.some.inj e2
end
/-- a property's getter, and what stands behind it -/
def mpr (K : PySem.W.Frag) (p : Addr) : Addr := match PySem.W.recIn K p "property" with
  | some (.ref m :: _) => m
  | _ => 0
def mre (K : PySem.W.Frag) (p : Addr) : List Value := match PySem.W.recIn K p "property" with
  | some (_ :: r) => r
  | _ => []
/-- a whole number's name -/
def intB (K : PySem.W.Frag) (x : Str) (i : Int) : Bool := match PySem.W.nsIn K mainGlobals x with
  | some (some (.int j _)) => decide (j = i)
  | _ => false
theorem intB_ok {K : PySem.W.Frag} {x : Str} {i : Int} (c : intB K x i = true) : ∃ t, PySem.W.nsIn K mainGlobals x = some (some (.int i t)) := by
  unfold intB at c
  split at c
  · rename_i j t e
    rw [e, of_decide_eq_true c]
    exact ⟨t, rfl⟩
  · cases c
def fclB (r : Option PySem.W.CFound) (z : String) : Bool := match r with
  | some (.val (.builtin y)) => decide (y = z)
  | _ => false
theorem fclB_ok {r : Option PySem.W.CFound} {z : String} (c : fclB r z = true) : r = some (.val (.builtin z)) := by
  unfold fclB at c
  split at c
  · rw [of_decide_eq_true c]
  · cases c
def Dn.ofF {K : PySem.W.Frag} {mg : Str → Option Value} {x : Str} {st : Stmt} {ps : List Str} {f : Addr} {fd : FuncData} (F : FunD K x x (defArgs st) (defBody st) (defScope st) [] [] f fd)
    (h : ∀ (kV doc pm : Value) (an : Option Addr) (cdv ct : Value) (us : List Value), us.length = ps.length → bindArgs (PySem.W.fnOf x x (defArgs st) (defBody st) (defScope st) .none kV doc pm an cdv ct) ⟨us, []⟩ = pure (ps.zip us)) (m : mg x = some (.ref f)) : Dn K mg x st ps :=
  ⟨f, fd, He5.fun_of F, by
    obtain ⟨oc, od, kV, doc, pm, an, cdv, ct, osl, rfl, _, _⟩ := (He5.fun_of F).ex
    exact h kV doc pm an cdv ct, m⟩
theorem codeE {K : PySem.W.Frag} {x q : Str} {ar : Arguments} {bd : List Stmt} {sc : Scope} {dvs : List V} {kws : List (Str × V)} {p : Str × Option Str} {fd : FuncData} (F : FunD K x q ar bd sc dvs kws (He.fAd K p) fd) : fd.code = .ref (He.codeOf K p) := by
  obtain ⟨oc, od, dV, kV, doc, pm, an, cdv, ct, osl, rfl, l, c, _, _⟩ := F.ex
  obtain ⟨z, e⟩ := He.codeIn_ref c
  have e2 : (PySem.W.fnOf x q ar bd sc dV kV doc pm an cdv ct).code = .ref z := e
  rw [He.codeOf_eq l e2]
  exact e2
/-- a written dict: its keys, its values -/
def rowsB (K : PySem.W.Frag) (a : Addr) (vs : List V) : Bool := match K.lookup a with
  | some ⟨_, _, .dict es _, _⟩ => He.relAll vs (es.toList.map (·.val))
  | _ => false
theorem dic_ok {K : PySem.W.Frag} {P : Params} {a : Addr} {ks : List Str} {vs : List V} (h : He.dicW K a = some (He.keysIn P ks)) (hv : rowsB K a vs = true) :
    ∃ (es : Array DictEntry) (n : Nat), K.lookup a = some ⟨.type "dict", none, .dict es n, #[]⟩ ∧ (a == sysModules) = false ∧ es.toList.map He.keyOf = He.keysIn P ks ∧ Vals vs (es.toList.map (·.val)) := by
  unfold He.dicW at h
  unfold rowsB at hv
  cases q : K.lookup a with
  | none =>
    rw [q] at h
    cases h
  | some o =>
    obtain ⟨oc, od, dt, osl⟩ := o
    rw [q] at h hv
    cases oc with
    | type c =>
      cases od with
      | none =>
        cases dt with
        | dict es n =>
          have h1 : (match decide (c = "dict") && (osl.isEmpty && !(a == sysModules)) with
            | true => some (es.toList.map He.keyOf)
            | false => none) = some (He.keysIn P ks) := h
          cases z : decide (c = "dict") && (osl.isEmpty && !(a == sysModules)) with
          | false =>
            rw [z] at h1
            cases h1
          | true =>
            rw [z] at h1
            obtain ⟨z1, z2⟩ := He.ba z
            obtain ⟨z3, z4⟩ := He.ba z2
            have e1 : c = "dict" := of_decide_eq_true z1
            have e2 : osl = #[] := Array.isEmpty_iff.mp z3
            have e3 : (a == sysModules) = false := by
              cases y : a == sysModules with
              | false => rfl
              | true =>
                rw [y] at z4
                cases z4
            subst e1 e2
            exact ⟨es, n, rfl, e3, Option.some.inj h1, He.relAll_ok hv⟩
        | _ => cases h
      | some b => cases dt <;> cases h
    | _ => cases od <;> cases dt <;> cases h
theorem dic_rows {P : Params} : ∀ {es : List DictEntry} {rows : List (Str × V)}, es.map He.keyOf = He.keysIn P (rows.map (·.1)) → Vals (rows.map (·.2)) (es.map (·.val)) →
    Paired (fun (e : DictEntry) (r : Str × V) => (∃ t, e.key = .str r.1 t) ∧ e.hash = PyData.keyHash P r.1 ∧ RelV r.2 e.val) es rows
  | [], [], _, _ => .nil
  | [], _ :: _, h, _ => by cases h
  | _ :: _, [], h, _ => by cases h
  | e :: es, (k, v) :: rows, h, hv => by
    have h1 : He.keyOf e :: es.map He.keyOf = some (k, PyData.keyHash P k) :: He.keysIn P (rows.map (·.1)) := h
    injection h1 with h2 h3
    cases hv with
    | cons r rest =>
      refine .cons ⟨?_, ?_, r⟩ (dic_rows h3 rest)
      · unfold He.keyOf at h2
        split at h2
        · rename_i x t q
          obtain ⟨h5, h6⟩ := Prod.mk.inj (Option.some.inj h2)
          exact ⟨t, by rw [q, h5]⟩
        · cases h2
      · unfold He.keyOf at h2
        split at h2
        · rename_i x t q
          obtain ⟨h5, h6⟩ := Prod.mk.inj (Option.some.inj h2)
          exact h6
        · cases h2
section
open LamX
/-- the end: a law that makes lambdas -/
theorem walkGTH {l : PySem.W.OpenLaw} {n k : Nat} {q : Program} {loose : List Str} {XP : (Str → Option Value) → Heap → Prop} {YP : World → Heap → Prop} {d : DefRec} {C : World → PySem.W.Frag → Prop} {x : Str} {xs : List Str}
    (hn : l.most = some n) (hn2 : n ≤ sizeLine) (hdf : d.params.defaults = []) (hr : Room k callerA) (hxs : xs.all (fun y => ((recsOf q).find? fun e => e.name == y).isSome) = true) (hY : ∀ (w : World) (h : Heap), YP w h → ∃ K : PySem.W.Frag, K.In h ∧ C w K)
    (F : ∀ (w : World) (mg : Str → Option Value) (fa : Addr) (h : Heap) (K : PySem.W.Frag), K.In h → C w K → h.Ns mainGlobals mg → mg d.name = some (.ref fa) →
      ∃ (fd : FuncData) (cs : List (Addr × Addr)) (sp : Sp), (∀ p ∈ cs, (∃ y ∈ xs, PySem.W.tabIn K y = some p) ∧ K.lookup p.2 = none) ∧ (∀ (s : Shared) (u : Value), BindsTo s fd ⟨[u], []⟩ [(x, u)]) ∧
        (∀ (H : Hp) (a : Addr) (ns : List Int), ns.length ≤ n → (∀ p ∈ cs, H p.2 = some (.tbl #[])) → SqL K H a (ns.map V.int) → sp [.ref a] H (fun v _ => v = .bl true) fun _ _ _ => False) ∧
        ∀ base : Heap, K.In base → base.Ns mainGlobals mg → (∀ p ∈ cs, TabB base mg p.1 p.2) → FnG l.prog w K mg base CX0 k fa fd [x] sp) :
    PySem.W.WalkO q loose XP YP l.row.toRowW d [] (fun f vs => PySem.call f vs) :=
  Att.attach_call hn hdf fun w s0 s1 mg mb fa o pm cd doc a vs ns G Y ho hd hcd hmg hobj hints hlen hg => by
    obtain ⟨K, KX, c⟩ := hY w _ Y
    obtain ⟨fd, cs, sp, hc, hb, hsp, hF⟩ := F w mg fa _ K KX c G.T.g hmg
    have tab : ∀ p ∈ cs, PySem.W.CodeHd s1.heap p.1 p.2 ∧ s1.heap.get? p.2 = some { cls := .none, data := .fields #[] } := fun p hp => by
      obtain ⟨⟨y, hy, e⟩, _⟩ := hc p hp
      have z := List.all_eq_true.mp hxs y hy
      obtain ⟨d2, e2⟩ := Option.isSome_iff_exists.mp z
      exact PySem.W.tab_of G.T KX e2 e
    exact law_callGT KX G.T.g G.T.b G.T.builtins G.T.nolimit hg (fun p hp => (tab p hp).2) (fun p hp => (hc p hp).2) (fun p hp => (tab p hp).1) G.T.bmain hobj hints (Nat.le_trans hlen hn2) hr hF hb (fun H hT hS => hsp H a ns hlen hT hS) fun H e s' z => z
end
/-- the end: a law without lambdas -/
theorem walkGH {l : PySem.W.OpenLaw} {n k : Nat} {q : Program} {loose : List Str} {XP : (Str → Option Value) → Heap → Prop} {YP : World → Heap → Prop} {d : DefRec} {C : World → PySem.W.Frag → Prop} {x : Str}
    (hn : l.most = some n) (hn2 : n ≤ sizeLine) (hdf : d.params.defaults = []) (hr : Room k callerA) (hY : ∀ (w : World) (h : Heap), YP w h → ∃ K : PySem.W.Frag, K.In h ∧ C w K)
    (F : ∀ (w : World) (mg : Str → Option Value) (fa : Addr) (h : Heap) (K : PySem.W.Frag), K.In h → C w K → h.Ns mainGlobals mg → mg d.name = some (.ref fa) →
      ∃ (fd : FuncData) (sp : Sp), (∀ (s : Shared) (u : Value), BindsTo s fd ⟨[u], []⟩ [(x, u)]) ∧
        (∀ (H : Hp) (a : Addr) (ns : List Int), ns.length ≤ n → Only H → SqL K H a (ns.map V.int) → sp [.ref a] H (fun v _ => v = .bl true) fun _ _ _ => False) ∧
        ∀ base : Heap, K.In base → base.Ns mainGlobals mg → FnG l.prog w K mg base CX0 k fa fd [x] sp) :
    PySem.W.WalkO q loose XP YP l.row.toRowW d [] (fun f vs => PySem.call f vs) :=
  Att.attach_call hn hdf fun w s0 s1 mg mb fa o pm cd doc a vs ns G Y ho hd hcd hmg hobj hints hlen hg => by
    obtain ⟨K, KX, c⟩ := hY w _ Y
    obtain ⟨fd, sp, hb, hsp, hF⟩ := F w mg fa _ K KX c G.T.g hmg
    exact law_callG KX G.T.g G.T.b G.T.builtins G.T.nolimit hg hobj hints (Nat.le_trans hlen hn2) hr hF hb (fun H hO hS => hsp H a ns hlen hO hS) fun H e s' z => z
end Wn
/-! the head by one run in the kernel, from the very start: a top that imports ahead -/
noncomputable section
namespace Wn
open PySem PySem.W PySem.Calls PyProof.Rows HandSHeadRun
/-- to the end of the opening -/
def goB (st : SharedT → Thread → Option (SharedT × Thread)) : Nat → SharedT → Thread → Option SharedT
  | 0, _, _ => none
  | m + 1, s, t => match t.atExitBegin with
    | some [] => some s
    | some (_ :: _) => none
    | none => match st s t with
      | some (s', t') => HandSHeadRun.frS s' fun s' => goB st m s' t'
      | none => none
theorem goB_ok {tb : String → Option Builtin} {p : Program} {w : World} : ∀ {m : Nat} {s s' : SharedT} {t : Thread}, goB (stepT (denote tb) p w) m s t = some s' → importEnds tb p w m s.abs t = some s'.abs
  | 0, _, _, _, h => by cases h
  | m + 1, s, s', t, h => by
    unfold goB at h
    unfold importEnds
    cases he : t.atExitBegin with
    | some l =>
      rw [he] at h
      cases l with
      | nil =>
        cases h
        rfl
      | cons a r => cases h
    | none =>
      rw [he] at h
      have h2 : (match stepT (denote tb) p w s t with
        | some (s', t') => HandSHeadRun.frS s' fun s' => goB (stepT (denote tb) p w) m s' t'
        | none => none) = some s' := h
      cases hs : stepT (denote tb) p w s t with
      | none =>
        rw [hs] at h2
        cases h2
      | some r =>
        obtain ⟨s2, t2⟩ := r
        rw [hs] at h2
        have h3 : (HandSHeadRun.frS s2 fun s' => goB (stepT (denote tb) p w) m s' t2) = some s' := h2
        rw [HandSHeadRun.frS_eq] at h3
        show (match step (denote tb) p w s.abs t with
          | .go s' t' => importEnds tb p w m s' t'
          | .halt _ _ => none) = some s'.abs
        rw [stepT_spec hs]
        exact goB_ok h3
def startT (p : Program) : SharedT := ⟨.nil, 0, {}, #[], {}, 1, { stdin := p.given.stdin.toArray }⟩
theorem startT_abs (p : Program) : (startT p).abs = (start p).1 := rfl
def toT (s : Shared) : Option SharedT := match putAll s.heap.objs.toList .nil 0 with
  | some (t, n) => some ⟨t, n, s.heap.life, s.gens, s.drawn, s.toks, s.os⟩
  | none => none
theorem toT_abs {s : Shared} {z : SharedT} (h : toT s = some z) : z.abs = s := by
  unfold toT at h
  cases e : putAll s.heap.objs.toList .nil 0 with
  | none =>
    rw [e] at h
    cases h
  | some r =>
    obtain ⟨t, n⟩ := r
    rw [e] at h
    cases h
    have eh := putAll_heap e
    show (⟨absHeap t n s.heap.life, s.gens, s.drawn, s.toks, s.os⟩ : Shared) = s
    rw [eh]
/-- the opening, the fence, then the top -/
def endG (s1 s2 : SharedT → Thread → Option (SharedT × Thread)) (M1 M2 : Nat) (p : Program) : Option (Shared × SharedT) := match goB s1 M1 (startT (opening p)) (start (opening p)).2 with
  | none => none
  | some z0 => match fenceModules? p z0.abs with
    | none => none
    | some s0 => match toT s0 with
      | none => none
      | some z1 => match (HandSHeadRun.frS z1 fun z1 => goF s2 z1.n (s0.heap.nsMap mainGlobals "__annotations__") M2 z1 (topStub p)) with
        | some s => some (s0, s)
        | none => none
def lookG (p : Program) (s0 : Shared) (s : SharedT) : Bool := (s0.heap.isNs mainGlobals && s0.gens.size == 0) && looksF p s0.heap s.abs
def RunG (r : OpenRow) (q : Program) (H : Hook) (ob : SharedT → H.α) (M1 M2 : Nat) (loose : List PySem.Str) (w : World) : Prop :=
  (endG (stepQ (denQ tabQ) (opening r.prog) w) (stepQ (denQ tabQ) r.prog w) M1 M2 r.prog).map (fun z => (lookG r.prog z.1 z.2, seenQ q loose (importedModules r.prog.main.body) (fun s => xlAt q [] s && recOk r.toRowW.records s) z.2.abs, ob z.2)) = some (true, openGood q loose, H.val w)
/-- the same in two runs: what must stand at the end, and what is asked -/
def RunGa (r : OpenRow) (q : Program) (M1 M2 : Nat) (loose : List PySem.Str) (w : World) : Prop :=
  (endG (stepQ (denQ tabQ) (opening r.prog) w) (stepQ (denQ tabQ) r.prog w) M1 M2 r.prog).map (fun z => (lookG r.prog z.1 z.2, seenQ q loose (importedModules r.prog.main.body) (fun s => xlAt q [] s && recOk r.toRowW.records s) z.2.abs)) = some (true, openGood q loose)
def RunGb (r : OpenRow) (H : Hook) (ob : SharedT → H.α) (M1 M2 : Nat) (w : World) : Prop :=
  (endG (stepQ (denQ tabQ) (opening r.prog) w) (stepQ (denQ tabQ) r.prog w) M1 M2 r.prog).map (fun z => ob z.2) = some (H.val w)
theorem runG_of {r : OpenRow} {q : Program} {H : Hook} {ob : SharedT → H.α} {M1 M2 : Nat} {loose : List PySem.Str} {w : World} (a : RunGa r q M1 M2 loose w) (b : RunGb r H ob M1 M2 w) : RunG r q H ob M1 M2 loose w := by
  unfold RunG
  unfold RunGa at a
  unfold RunGb at b
  obtain ⟨z, e, ea⟩ := Option.map_eq_some_iff.mp a
  rw [e] at b ⊢
  have eb := Option.some.inj b
  obtain ⟨e1, e2⟩ := Prod.mk.inj ea
  show some _ = some _
  rw [← eb, ← e1, ← e2]
theorem left_imp {p q : Program} {loose : List PySem.Str} {Xt : Shared → Bool} {α : Type} {Yf : Shared → α} {Ya : World → α} {N M1 M2 : Nat} (le1 : Nat.ble M1 N = true) (le2 : Nat.ble M2 N = true)
    (run : ∀ w : World, (endG (stepT (denote treeTable) (opening p) w) (stepT (denote treeTable) p w) M1 M2 p).map (fun z => (lookG p z.1 z.2, openSeen q loose (importedModules p.main.body) Xt true z.2.abs, Yf z.2.abs)) = some (true, openGood q loose, Ya w)) :
    LeftO p q loose Xt Yf Ya N true := fun w => by
  obtain ⟨⟨s0, s⟩, hs, hv⟩ := Option.map_eq_some_iff.mp (run w)
  obtain ⟨l1, l2, l3⟩ : _ ∧ _ ∧ _ := by simpa only [Prod.mk.injEq] using hv
  unfold endG at hs
  cases e0 : goB (stepT (denote treeTable) (opening p) w) M1 (startT (opening p)) (start (opening p)).2 with
  | none =>
    rw [e0] at hs
    cases hs
  | some z0 =>
    rw [e0] at hs
    dsimp only at hs
    cases e1 : fenceModules? p z0.abs with
    | none =>
      rw [e1] at hs
      cases hs
    | some s00 =>
      rw [e1] at hs
      dsimp only at hs
      cases e2 : toT s00 with
      | none =>
        rw [e2] at hs
        cases hs
      | some z1 =>
        rw [e2] at hs
        dsimp only at hs
        rw [HandSHeadRun.frS_eq] at hs
        cases e3 : goF (stepT (denote treeTable) p w) z1.n (s00.heap.nsMap mainGlobals "__annotations__") M2 z1 (topStub p) with
        | none =>
          rw [e3] at hs
          cases hs
        | some z2 =>
          rw [e3] at hs
          cases hs
          have a := goB_ok e0
          rw [startT_abs] at a
          have a2 := importEnds_mono (N - M1) _ _ _ _ a
          rw [show M1 + (N - M1) = N by have := Nat.le_of_ble_eq_true le1; omega] at a2
          have r := topRun_mono (N - M2) _ _ _ _ (goF_ok e3)
          rw [show M2 + (N - M2) = N by have := Nat.le_of_ble_eq_true le2; omega] at r
          have ea := toT_abs e2
          have en : s0.heap.objs.size = z1.n := by rw [← ea]; exact absHeap_size _ _ _
          rw [ea] at r
          obtain ⟨l4, l5⟩ := Bool.and_eq_true_iff.mp (show ((s0.heap.isNs mainGlobals && s0.gens.size == 0) && looksF p s0.heap s.abs) = true from l1)
          have l5' : (staticsOk (importedModules p.main.body) s0.heap s.abs.heap && namesBound p s.abs.heap && gensDone s.abs && laidKept s0.heap s.abs.heap) = true := l5
          have o : openEnds treeTable p w N = some s.abs := by
            unfold openEnds fencedOpening
            rw [a2]
            show ((fenceModules? p z0.abs)).bind _ = _
            rw [e1]
            show topFrom treeTable p w N s0 = _
            unfold topFrom
            rw [l4, en]
            show (topRun treeTable p w z1.n (s0.heap.nsMap mainGlobals "__annotations__") N s0 (topStub p)).bind _ = _
            rw [r]
            show (match staticsOk (importedModules p.main.body) s0.heap s.abs.heap && namesBound p s.abs.heap && gensDone s.abs && laidKept s0.heap s.abs.heap with | true => some s.abs | false => none) = _
            rw [l5']
          rw [o]
          exact congrArg some (Prod.ext l2 l3)
theorem head_imp {r : OpenRow} {q : Program} {H : Hook} {ob : SharedT → H.α} {M1 M2 : Nat} {loose : List PySem.Str} {d : DefRec} {kwd : List (PySem.Str × PySem.Expr)} (ho : ∀ s : SharedT, ob s = H.obs s.abs)
    (run : ∀ w, RunG r q H ob M1 M2 loose w)
    (hdef : defOf q r.name = some (d, kwd)) (hp : r.prog.theDef r.name = some (d.params, d.body, d.scope)) (hk : kwWritten? d.params.kwonlyargs d.params.kw_defaults = some kwd)
    (hwr : (!r.writes || r.records.isEmpty) = true) (k1 : r.wellSaid = true) (ok : (chainsOk q && opensWell r.prog && (frees r.toRowW && r.within.isEmpty)) = true) (hb : r.prog.bare) (hw : r.toRowW.promised)
    (call : WalkO q loose (XL q []) H.says r.toRowW d kwd fun f vs => PySem.call f vs) : r.Holds := by
  have left : LeftO r.prog q loose (fun s => xlAt q [] s && recOk r.toRowW.records s) H.obs H.val (M1 + M2) true :=
    left_imp (M1 := M1) (M2 := M2) (Nat.ble_eq_true_of_le (by omega)) (Nat.ble_eq_true_of_le (by omega)) fun w => by
      have z := run w
      have eo : ob = fun s => H.obs s.abs := funext ho
      unfold RunG at z
      rw [eo, ← stepQ_eq, ← denQ_eq, ← tabQ_eq] at z
      simp only [seenQ_eq]
      exact z
  exact holds_open (r := r) (q := q) (loose := loose) (XP := XL q []) (YP := H.says) (d := d) (kwd := kwd) left H.of H.keeps (fun s z => xl_of s (Bool.and_eq_true_iff.mp z).1) XL.keeps hdef hp hk (fun s z => recFacts_of (Bool.and_eq_true_iff.mp z).2) hwr k1 ok hb hw call
end Wn
/-! what is asked at the end, in three runs -/
namespace Wn
open PySem PySem.W PySem.Calls PyProof.Rows HandSHeadRun
theorem obsW3 {bs : PySem.W.Frag → List Bool} {fa fb : List He5.DefA} {ts : List He.Tab} {K : PySem.W.Frag} {w : World} (a : obsW ⟨bs, [], []⟩ K = valW ⟨bs, [], []⟩ w) (b : obsW ⟨fun _ => [], fa, ts⟩ K = valW ⟨fun _ => [], fa, ts⟩ w) (c : obsW ⟨fun _ => [], fb, []⟩ K = valW ⟨fun _ => [], fb, []⟩ w) :
    obsW ⟨bs, fa ++ fb, ts⟩ K = valW ⟨bs, fa ++ fb, ts⟩ w := by
  have a1 : ((bs K).all id && true) = true := congrArg (fun z : AlW => z.1) a
  have b1 : (true && fa.all fun d => d.ok K) = true := congrArg (fun z : AlW => z.1) b
  have b2 : (fa.map fun d => He5.fnA K (d.at_ K)) = fa.map He5.DefA.val := congrArg (fun z : AlW => z.2.1) b
  have b3 : (ts.map fun t => He.dicW K (t.1 K)) = ts.map fun t => some (He.keysIn w.params t.2) := congrArg (fun z : AlW => z.2.2) b
  have c1 : (true && fb.all fun d => d.ok K) = true := congrArg (fun z : AlW => z.1) c
  have c2 : (fb.map fun d => He5.fnA K (d.at_ K)) = fb.map He5.DefA.val := congrArg (fun z : AlW => z.2.1) c
  rw [Bool.and_true] at a1
  rw [Bool.true_and] at b1 c1
  show ((bs K).all id && (fa ++ fb).all (fun d => d.ok K), (fa ++ fb).map (fun d => He5.fnA K (d.at_ K)), ts.map fun t => He.dicW K (t.1 K)) = (true, (fa ++ fb).map He5.DefA.val, ts.map fun t => some (He.keysIn w.params t.2))
  rw [a1, List.all_append, b1, c1, List.map_append, List.map_append, b2, c2, b3]
  rfl
theorem runGb_of3 {r : OpenRow} {n M1 M2 : Nat} {w : World} {bs : PySem.W.Frag → List Bool} {fa fb : List He5.DefA} {ts : List He.Tab}
    (a : RunGb r (hookW n ⟨bs, [], []⟩) (fun s => obsWG n ⟨bs, [], []⟩ (getT s)) M1 M2 w) (b : RunGb r (hookW n ⟨fun _ => [], fa, ts⟩) (fun s => obsWG n ⟨fun _ => [], fa, ts⟩ (getT s)) M1 M2 w)
    (c : RunGb r (hookW n ⟨fun _ => [], fb, []⟩) (fun s => obsWG n ⟨fun _ => [], fb, []⟩ (getT s)) M1 M2 w) : RunGb r (hookW n ⟨bs, fa ++ fb, ts⟩) (fun s => obsWG n ⟨bs, fa ++ fb, ts⟩ (getT s)) M1 M2 w := by
  unfold RunGb at *
  obtain ⟨z, e, ea⟩ := Option.map_eq_some_iff.mp a
  rw [e] at b c ⊢
  have eb := Option.some.inj b
  have ec := Option.some.inj c
  exact congrArg some (obsW3 ea eb ec)
end Wn
/-! C(e) for an error whose __init__ keeps e in its one field; raise C(e) -/
namespace Wn
open PySem PySem.Spec PyProof.Rows L2
def spInit (C : Addr) (f : Str) : Sp := fun vs H Q _ => ∃ (a : Addr) (v : V), vs = [.ref a, v] ∧ H a = some (exo a C none) ∧ ∀ d, H d = none → d ≠ a → Q .non (upd (upd H d (exd d [(f, v)])) a (exo a C (some d)))
section
variable {X : Cx} {o e : Expr} {to te : TE} {f x : Str} {p p' p1 p2 pos : Pos} {C fI W : Addr} {B newId initId : String} {bmB : List Value} {mc : Value} {wn : Str}
theorem ps_ostE (T : ErrC X.K C fI f B newId initId bmB) (ho : PE X o to) (he : PE X e te) (hs : swapsWith e (some (.Attribute o f p')) pos.line X.env = pure false := by rfl) : PS X (.Assign [.Attribute o f p'] e pos) (tOstE X.K C f to te) := by
  refine ⟨fun pins s σ H D I h => plainObj_wpAny_Assign_Attribute (thn (he.run pins s σ H _ I h) fun v s1 z1 => ?_) hs⟩
  obtain ⟨y, H1, I1, r1, q1⟩ := z1
  refine thn (ho.run pins s1 σ H1 _ I1 q1) fun u s2 z2 => ?_
  obtain ⟨w, H2, I2, r2, a, ew, ea, q⟩ := z2
  subst ew
  obtain rfl : u = Value.ref a := r2
  exact ostE T I2 ea r1 fun dx s' n ne J => ⟨σ, _, J, q dx n ne⟩
/-- the built-in class's own name -/
theorem pe_initB {es : List Expr} {ta : TA} {pl : Sem Bool} (T : ErrC X.K C fI f B newId initId bmB) (hg : Gl X wn) (hm : X.mg wn = none) (hv : bootBuiltins wn = some (.type B)) (hnn : wn ≠ "__name__") (hdb : (wn == ("__debug__" : Str)) = false) (ty : typeOf (.type B) = pure (.type "type")) (stub : Manifest.isStub B = false)
    (at_ : PySem.W.findCls X.K (.type B) (.type "type") "__init__" = some (.val (.builtin initId))) (hh : PySem.W.handedIn (.builtin initId) = true) (ha : PA X (e :: es) ta)
    (hc : eval (.Call (.Attribute (.Name wn p1) "__init__" p2) (e :: es) [] pos) X.env = (do
      let ov ← eval (.Name wn p1) X.env
      standAt p2.atName
      let (f, first) ← holding [ov] (getMethod ov "__init__" pl)
      callWith pos f first (backTo pos (starEach (e :: es) X.env)) (backToKw pos (keywordEach [] X.env))) := by rfl)
    (he : starEach (e :: es) X.env = (false, eval e X.env) :: starEach es X.env := by rfl) (hpl : (backTo pos (starEach es X.env)).any (·.1) = false := by rfl) :
    PE X (.Call (.Attribute (.Name wn p1) "__init__" p2) (e :: es) [] pos) (tInitE X.K C ta) := by
  refine ⟨fun pins s σ H Q I h => ?_⟩
  refine PySem.W.methodCall_KW (ld_blt I hg hm hv ?_ hnn hdb) hc
  obtain ⟨m, fr⟩ := I.fr
  refine PySem.W.method_type fr I.ok.mod.kin ty stub at_ hh ?_
  show wpAny _ _ (callWith pos (Value.builtin initId) [] (backTo pos (starEach (e :: es) X.env)) []) _ _ _
  exact call_initE (pl := pl) T ha (I.tok _) h he hpl
end
/-- what such a making asks, once its one value is there -/
theorem mk1_go {C : Addr} {f : Str} {v : V} {H1 : Hp} {Q : XK} (h : ∀ d, H1 d = none → Q (.ref C) (some d) (upd H1 d (.xd [(f, v)]))) :
    [v].length ≤ 1000 ∧ ∀ a, H1 a = none → spInit C f (.ref a :: ([v] ++ [])) (upd H1 a (exo a C none))
      (fun u H2 => u = .non ∧ ∃ (d : Addr) (fs : List (Str × V)), H2 a = some (exo a C (some d)) ∧ H2 d = some (exd d fs) ∧ H1 d = none ∧ Q (.ref C) (some d) (upd (del H2 a) d (.xd fs))) (fun _ _ _ => False) := by
  refine ⟨by show 1 ≤ 1000; decide, fun a na => ⟨a, v, rfl, upd_same, fun d nd da => ?_⟩⟩
  have nd1 : H1 d = none := by
    rw [upd_ne da] at nd
    exact nd
  refine ⟨rfl, d, [(f, v)], upd_same, ?_, nd1, ?_⟩
  · rw [upd_ne da, upd_same]
  · have e1 : upd (del (upd (upd (upd H1 a (exo a C none)) d (exd d [(f, v)])) a (exo a C (some d))) a) d (.xd [(f, v)]) = upd H1 d (.xd [(f, v)]) := by
      funext b
      by_cases hb : b = d
      · rw [hb, upd_same, upd_same]
      · rw [upd_ne hb, upd_ne hb]
        by_cases ha : b = a
        · rw [ha, del_same, na]
        · rw [del_ne ha, upd_ne ha, upd_ne hb, upd_ne ha]
    rw [e1]
    exact h d nd1
end Wn
/-! what gives data, where lambdas are made on the way: all but the tables of code stays -/
namespace Wn
open PySem PySem.Spec PyProof.Rows L2 LamX
theorem extOf {H H' : Hp} (g : Gr [] H H') : ExtN H H' := fun b o h _ => g b o (by simp) h
theorem tabsGr {T : List (Addr × Str)} {H H' : Hp} (t : Tabs T H) (g : Gr [] H H') : Tabs T H' := fun p hp => (t p hp).ext fun b o e => g b o (by simp) e
theorem kpExt {H H' : Hp} (g : ExtN H H') : Kp H H' := ⟨fun a _ e => g a _ e (fun _ z => by cases z), fun a _ e => g a _ e (fun _ z => by cases z), fun a _ _ e => g a _ e (fun _ z => by cases z)⟩
theorem ExtN.lst {H H' : Hp} {a : Addr} {xs : List V} (g : ExtN H H') (h : H a = some (.lst xs)) : H' a = some (.lst xs) := g a _ h (fun _ z => by cases z)
theorem ExtN.tup {H H' : Hp} {a : Addr} {xs : List V} (g : ExtN H H') (h : H a = some (.tup xs)) : H' a = some (.tup xs) := g a _ h (fun _ z => by cases z)
theorem ExtN.dK {H H' : Hp} {a : Addr} {xs : List (Key × V)} (g : ExtN H H') (h : H a = some (.dK xs)) : H' a = some (.dK xs) := g a _ h (fun _ z => by cases z)
/-- what an error's outcome is: class, field, word -/
def TTg (es : List (Addr × Str × Str)) : (XK → Hp → VK → Prop) → Hp → VK → Prop := fun tl H Q =>
  ∀ (H2 : Hp) (Qn : VK) (E : XK), Gr [] H H2 → (∀ v H3, (∀ p, H3 p = none → Q (.ref p) (upd H3 p (.lst [v]))) → Qn v H3) →
    (∀ (C d : Addr) (f w : Str) (v : V) (H3 : Hp), (C, f, w) ∈ es → H3 d = some (.xd [(f, v)]) → (∀ t H4, Gr [] H3 H4 → H4 t = some (.tup [.str w, v]) → Q (.ref t) H4) → E (.ref C) (some d) H3) → tl E H2 Qn
section
variable {K : PySem.W.Frag} {T : List (Addr × Str)} {σ : L2.St} {H : Hp}
def EvT (K : PySem.W.Frag) (T : List (Addr × Str)) (te : TE) (σ : L2.St) (H : Hp) (d : PyData) : Prop := ∀ H1, ExtN H H1 → Tabs T H1 → ∀ Q : VK, (∀ v H2, ExtN H1 H2 → Tabs T H2 → Dp K H2 v d → Q v H2) → te σ H1 Q
def EvTS (K : PySem.W.Frag) (T : List (Addr × Str)) (ta : TA) (σ : L2.St) (H : Hp) (ds : List PyData) : Prop := ∀ H1, ExtN H H1 → Tabs T H1 → ∀ Q : List V → Hp → Prop, (∀ vs H2, ExtN H1 H2 → Tabs T H2 → DpAll K H2 vs ds → Q vs H2) → ta σ H1 Q
def EvTL (K : PySem.W.Frag) (T : List (Addr × Str)) (te : TE) (σ : L2.St) (H : Hp) (ds : List PyData) : Prop := ∀ H1, ExtN H H1 → Tabs T H1 → ∀ Q : VK, (∀ p xs H2, ExtN H1 H2 → Tabs T H2 → H2 p = some (.lst xs) → DpAll K H2 xs ds → Q (.ref p) H2) → te σ H1 Q
theorem EvTL.d {te : TE} {ds : List PyData} (h : EvTL K T te σ H ds) : EvT K T te σ H (.list ds) := fun H1 g t Q q => h H1 g t Q fun p xs H2 g2 t2 e a => q _ H2 g2 t2 (dp_lst e a)
/-- what makes no lambda, whatever stands -/
theorem et_of {te : TE} {d : PyData} (h : ∀ H, EvD K te σ H d) : EvT K T te σ H d := fun H1 _ t Q q => h H1 H1 (Gr.refl _ _) Q fun v H2 g2 a => q v H2 (extOf g2) (tabsGr t g2) a
theorem el_of {te : TE} {ds : List PyData} (h : ∀ H, EvL K te σ H ds) : EvTL K T te σ H ds := fun H1 _ t Q q => h H1 H1 (Gr.refl _ _) Q fun p xs H2 g2 e a => q p xs H2 (extOf g2) (tabsGr t g2) e a
theorem et_var {i : Nat} {v : V} {d : PyData} (e : σ[i]? = some (some v)) (h : Dp K H v d) : EvT K T (tVar i) σ H d := fun H1 g t Q q => ⟨v, e, q v H1 (ExtN.refl _) t (Dp.kp (kpExt g) h)⟩
theorem etl_var {i : Nat} {p : Addr} {xs : List V} {ds : List PyData} (e : σ[i]? = some (some (.ref p))) (h : H p = some (.lst xs)) (a : DpAll K H xs ds) : EvTL K T (tVar i) σ H ds :=
  fun H1 g t Q q => ⟨_, e, q p xs H1 (ExtN.refl _) t (ExtN.lst g h) (DpAll.kp (kpExt g) a)⟩
theorem ets_nil : EvTS K T tNil σ H [] := fun H1 _ t Q q => q _ H1 (ExtN.refl _) t .nil
theorem ets_cons {te : TE} {ta : TA} {d : PyData} {ds : List PyData} (h : EvT K T te σ H d) (r : EvTS K T ta σ H ds) : EvTS K T (tCons te ta) σ H (d :: ds) := fun H1 g t Q q =>
  h H1 g t _ fun v H2 g2 t2 dv => r H2 (g.trans g2) t2 _ fun vs H3 g3 t3 dvs => q _ H3 (g2.trans g3) t3 (.cons (Dp.kp (kpExt g3) dv) dvs)
theorem et_tup {ta : TA} {ds : List PyData} (h : EvTS K T ta σ H ds) (hz : ds.length ≤ 1000 := by exact Nat.le_of_ble_eq_true rfl) : EvT K T (tTup ta) σ H (.tuple ds) := fun H1 g t Q q =>
  h H1 g t _ fun vs H2 g2 t2 a => ⟨by rw [dpAll_len a]; exact Nat.le_of_lt (small1000 hz), fun p np => q _ _ (g2.trans (extOf (Gr.new np))) (tabsGr t2 (Gr.new np)) (dp_tup upd_same (DpAll.kp (Kp.of (Gr.new np)) a))⟩
theorem etl_lst {ta : TA} {ds : List PyData} (h : EvTS K T ta σ H ds) (hz : ds.length ≤ 1000 := by exact Nat.le_of_ble_eq_true rfl) : EvTL K T (tLst ta) σ H ds := fun H1 g t Q q =>
  h H1 g t _ fun vs H2 g2 t2 a => ⟨by rw [dpAll_len a]; exact Nat.le_of_lt (small1000 hz), fun p np => q _ _ _ (g2.trans (extOf (Gr.new np))) (tabsGr t2 (Gr.new np)) upd_same (DpAll.kp (Kp.of (Gr.new np)) a)⟩
theorem etl_cat {ta tb : TE} {ds es : List PyData} (h1 : EvTL K T ta σ H ds) (h2 : EvTL K T tb σ H es) (hz : ds.length + es.length ≤ 1000 := by exact Nat.le_of_ble_eq_true rfl) : EvTL K T (tOp rCat ta tb) σ H (ds ++ es) := fun H1 g t Q q =>
  h1 H1 g t _ fun p xs H2 g2 t2 e2 a2 => h2 H2 (g.trans g2) t2 _ fun p3 ys H3 g3 t3 e3 a3 => by
    have e2' := ExtN.lst g3 e2
    refine ⟨p, p3, xs, ys, rfl, rfl, e2', e3, by rw [dpAll_len a2, dpAll_len a3]; exact Nat.le_of_lt (small1000 hz), fun p4 np => ?_⟩
    exact q p4 _ _ ((g2.trans g3).trans (extOf (Gr.new np))) (tabsGr t3 (Gr.new np)) upd_same (dpAll_append (DpAll.kp (kpExt (g3.trans (extOf (Gr.new np)))) a2) (DpAll.kp (Kp.of (Gr.new np)) a3))
theorem et_eq {ta tb : TE} {d e : PyData} (h1 : EvT K T ta σ H d) (h2 : EvT K T tb σ H e) (s1 : SeqAt.shaped d = true) (s2 : SeqAt.shaped e = true) : EvT K T (tOp (rEqD K) ta tb) σ H (.bool (PyData.eqv d e)) := fun H1 g t Q q =>
  h1 H1 g t _ fun v H2 g2 t2 a => h2 H2 (g.trans g2) t2 _ fun w H3 g3 t3 b => ⟨d, e, Dp.kp (kpExt g3) a, b, s1, s2, q _ H3 (g2.trans g3) t3 (.bl _)⟩
theorem et_ne {ta tb : TE} {d e : PyData} (h1 : EvT K T ta σ H d) (h2 : EvT K T tb σ H e) (s1 : SeqAt.shaped d = true) (s2 : SeqAt.shaped e = true) : EvT K T (tOp (rNeD K) ta tb) σ H (.bool (!PyData.eqv d e)) := fun H1 g t Q q =>
  h1 H1 g t _ fun v H2 g2 t2 a => h2 H2 (g.trans g2) t2 _ fun w H3 g3 t3 b => ⟨d, e, Dp.kp (kpExt g3) a, b, s1, s2, q _ H3 (g2.trans g3) t3 (.bl _)⟩
/-- what comes of a lambda whose body gives d -/
theorem et_out {es : List (Addr × Str × Str)} {t : XK → TE} {d : PyData} (h : ∀ E H, EvD K (t E) σ H d) : EvT K T (tLam T (TTg es) t) σ H (.list [d]) := fun H1 _ t1 Q q =>
  ⟨t1, fun H2 g2 t2 H3 Qn E g3 kn _ => h E H3 H3 (Gr.refl _ _) Qn fun v H4 g4 a => kn v H4 fun p np =>
    q _ _ (g2.trans (extOf ((g3.trans g4).trans (Gr.new np)))) (tabsGr t2 ((g3.trans g4).trans (Gr.new np))) (dp_lst upd_same (.cons (Dp.kp (Kp.of (Gr.new np)) a) .nil))⟩
/-- .. whose body raises an error with the value d -/
theorem et_outE {es : List (Addr × Str × Str)} {t : XK → TE} {d : PyData} {C : Addr} {f w : Str} (hm : (C, f, w) ∈ es)
    (h : ∀ (E : XK) (H1 : Hp) (Q : VK), (∀ (dd : Addr) (v : V) H2, Gr [] H1 H2 → H2 dd = some (.xd [(f, v)]) → Dp K H2 v d → E (.ref C) (some dd) H2) → t E σ H1 Q) : EvT K T (tLam T (TTg es) t) σ H (.tuple [.str w, d]) := fun H1 _ t1 Q q =>
  ⟨t1, fun H2 g2 t2 H3 Qn E g3 _ ke => h E H3 Qn fun dd v H4 g4 hd a => ke C dd f w v H4 hm hd fun t' H5 g5 h5 =>
    q _ _ (g2.trans (extOf ((g3.trans g4).trans g5))) (tabsGr t2 ((g3.trans g4).trans g5)) (dp_tup h5 (.cons (.str _) (.cons (Dp.kp (Kp.of g5) a) .nil)))⟩
theorem stt_asgL {te : TE} {i : Nat} {ds : List PyData} {D : Ends} (t : Tabs T H) (h : EvTL K T te σ H ds) (k : ∀ p xs H2, ExtN H H2 → Tabs T H2 → H2 p = some (.lst xs) → DpAll K H2 xs ds → D.nx (σ.set i (some (.ref p))) H2) : tAsg te (gName i) D σ H := h H (ExtN.refl _) t _ k
theorem stt_retB {te : TE} {b : Bool} {D : Ends} (t : Tabs T H) (h : EvT K T te σ H (.bool b)) (k : ∀ H2, ExtN H H2 → Tabs T H2 → D.rt (.bl b) H2) : tRet te D σ H := h H (ExtN.refl _) t _ fun v H2 g t2 e => by rw [dp_bool e]; exact k H2 g t2
theorem ttt_of {te : TE} {b : Bool} {H1 : Hp} {Q : Bool → Hp → Prop} (t : Tabs T H1) (h : EvT K T te σ H (.bool b)) (g : ExtN H H1) (q : ∀ H2, ExtN H1 H2 → Tabs T H2 → Q b H2) : tTest te σ H1 Q := h H1 g t _ fun v H2 g2 t2 e => ⟨b, dp_bool e, q H2 g2 t2⟩
theorem ttb_of {te : TE} {b : Bool} {H1 : Hp} {Q : Bool → Hp → Prop} (t : Tabs T H1) (h : EvT K T te σ H (.bool b)) (g : ExtN H H1) (q : ∀ H2, ExtN H1 H2 → Tabs T H2 → Q b H2) : tB te σ H1 Q := h H1 g t _ fun v H2 g2 t2 e => ⟨b, dp_bool e, q H2 g2 t2⟩
theorem et_andV {ta tb : TE} {a b : Bool} (h1 : EvT K T ta σ H (.bool a)) (h2 : EvT K T tb σ H (.bool b)) : EvT K T (tAndV ta tb) σ H (.bool (a && b)) := fun H1 g t Q q =>
  h1 H1 g t _ fun v H2 g2 t2 e => ⟨a, dp_bool e, by
    cases a with
    | true => exact iteT (h2 H2 (g.trans g2) t2 _ fun w H3 g3 t3 e3 => q w H3 (g2.trans g3) t3 e3)
    | false => exact iteF (q _ H2 g2 t2 (.bl false))⟩
theorem et_orV {ta tb : TE} {a b : Bool} (h1 : EvT K T ta σ H (.bool a)) (h2 : EvT K T tb σ H (.bool b)) : EvT K T (tOrV ta tb) σ H (.bool (a || b)) := fun H1 g t Q q =>
  h1 H1 g t _ fun v H2 g2 t2 e => ⟨a, dp_bool e, by
    cases a with
    | true => exact iteT (q _ H2 g2 t2 (.bl true))
    | false => exact iteF (h2 H2 (g.trans g2) t2 _ fun w H3 g3 t3 e3 => q w H3 (g2.trans g3) t3 e3)⟩
end
end Wn
namespace Wn
open PySem PySem.Spec PyProof.Rows L2 LamX
theorem tabsGrM {T : List (Addr × Str)} {H H' : Hp} {d : Addr} (t : Tabs T H) (g : Gr [d] H H') (h : ∃ kvs, H d = some (.dK kvs)) : Tabs T H' := fun p hp => by
  obtain ⟨kvs, hd⟩ := h
  obtain ⟨ps, h1, h2, h3⟩ := t p hp
  refine ⟨ps, g _ _ (by simp; exact ne_of h1 hd (by intro z; cases z)) h1, h2, fun pos cv hc => ?_⟩
  obtain ⟨c, e1, e2⟩ := h3 pos cv hc
  exact ⟨c, e1, g _ _ (by simp; exact ne_of e2 hd (by intro z; cases z)) e2⟩
theorem tabs0 {T : List (Addr × Str)} {H : Hp} (h : ∀ p ∈ T, H p.1 = some (.tbl #[])) : Tabs T H := fun p hp =>
  ⟨#[], h p hp, by trivial, fun pos cv hc => by cases hc⟩
def tInts : List Int → TA
  | [] => tNil
  | i :: r => tCons (tC (.int i)) (tInts r)
theorem tInts_go {σ : L2.St} {H : Hp} : ∀ {is : List Int} {Q : List V → Hp → Prop}, Q (is.map V.int) H → tInts is σ H Q
  | [], _, q => q
  | i :: r, Q, q => tInts_go (is := r) (Q := fun vs H2 => Q (.int i :: vs) H2) q
section
variable {K : PySem.W.Frag} {T : List (Addr × Str)} {σ : L2.St} {H : Hp}
theorem ev_powN {a c : Nat} (h : CPow a c) : EvD K (tOp (rI CPow fun i j => .int (i ^ j.toNat)) (tC (.int (a : Nat))) (tC (.int (c : Nat)))) σ H (.int ((a ^ c : Nat) : Int)) := fun H1 _ Q q => ⟨a, c, rfl, rfl, h, by
  have e : ((a : Nat) : Int) ^ ((c : Nat) : Int).toNat = ((a ^ c : Nat) : Int) := by rw [Int.toNat_natCast, Int.natCast_pow]
  show Q (.int (((a : Nat) : Int) ^ ((c : Nat) : Int).toNat)) H1
  rw [e]
  exact q _ H1 (Gr.refl _ _) (.int _)⟩
theorem ev_pow {a c : Int} (h : CPow a c) : EvD K (tOp (rI CPow fun i j => .int (i ^ j.toNat)) (tC (.int a)) (tC (.int c))) σ H (.int (a ^ c.toNat)) := fun H1 _ Q q => ⟨a, c, rfl, rfl, h, q _ H1 (Gr.refl _ _) (.int _)⟩
end
end Wn
namespace Wn
open PySem PySem.Spec PyProof.Rows L2
theorem tab_mk {K : PySem.W.Frag} {x : Str} {f c P : Addr} {oc c1 : Value} {od d1 : Option Addr} {fd : FuncData} {sl s1 : Array (Option Value)} {vs : Array Value} (a : PySem.W.nsIn K mainGlobals x = some (some (.ref f))) (l : K.lookup f = some ⟨oc, od, .func fd, sl⟩) (e : fd.code = .ref c)
    (l2 : K.lookup c = some ⟨c1, d1, .fields vs, s1⟩) (h : vs[11]? = some (.ref P)) : PySem.W.tabIn K x = some (c, P) := by
  unfold PySem.W.tabIn
  rw [a]
  dsimp only
  rw [l]
  dsimp only
  rw [e]
  dsimp only
  rw [l2]
  dsimp only
  rw [h]
end Wn
namespace Wn
open PySem PySem.Spec PyProof.Rows L2 LamX
section
variable {K : PySem.W.Frag} {T : List (Addr × Str)} {σ : L2.St} {H : Hp} {es : List (Addr × Str × Str)} {t : XK → TE} {d : PyData}
/-- .. over what stands here -/
theorem et_outV (h : ∀ (E : XK) (H1 : Hp), ExtN H H1 → ∀ Q : VK, (∀ v H2, Gr [] H1 H2 → Dp K H2 v d → Q v H2) → t E σ H1 Q) : EvT K T (tLam T (TTg es) t) σ H (.list [d]) := fun H1 g0 t1 Q q =>
  ⟨t1, fun H2 g2 t2 H3 Qn E g3 kn _ => h E H3 ((g0.trans g2).trans (extOf g3)) Qn fun v H4 g4 a => kn v H4 fun p np =>
    q _ _ (g2.trans (extOf ((g3.trans g4).trans (Gr.new np)))) (tabsGr t2 ((g3.trans g4).trans (Gr.new np))) (dp_lst upd_same (.cons (Dp.kp (Kp.of (Gr.new np)) a) .nil))⟩
theorem et_outX {C : Addr} {f w : Str} (hm : (C, f, w) ∈ es)
    (h : ∀ (E : XK) (H1 : Hp), ExtN H H1 → ∀ (Q : VK), (∀ (dd : Addr) (v : V) H2, Gr [] H1 H2 → H2 dd = some (.xd [(f, v)]) → Dp K H2 v d → E (.ref C) (some dd) H2) → t E σ H1 Q) : EvT K T (tLam T (TTg es) t) σ H (.tuple [.str w, d]) := fun H1 g0 t1 Q q =>
  ⟨t1, fun H2 g2 t2 H3 Qn E g3 _ ke => h E H3 ((g0.trans g2).trans (extOf g3)) Qn fun dd v H4 g4 hd a => ke C dd f w v H4 hm hd fun t' H5 g5 h5 =>
    q _ _ (g2.trans (extOf ((g3.trans g4).trans g5))) (tabsGr t2 ((g3.trans g4).trans g5)) (dp_tup h5 (.cons (.str _) (.cons (Dp.kp (Kp.of g5) a) .nil)))⟩
theorem EvT.on {te : TE} {H' : Hp} (h : EvT K T te σ H d) (g : ExtN H H') : EvT K T te σ H' d := fun H1 g1 t1 Q q => h H1 (g.trans g1) t1 Q q
end
end Wn
namespace Wn
open PySem PySem.Spec PyProof.Rows L2 LamX
section
variable {K : PySem.W.Frag} {T : List (Addr × Str)} {σ : L2.St} {H : Hp}
/-- the first part of «or» in a test, false -/
theorem ttt_orL {te : TE} {u : TT} {b : Bool} {Q : Bool → Hp → Prop} (t : Tabs T H) (h : EvT K T te σ H (.bool b)) (hb : b = false) (q : ∀ H2, ExtN H H2 → Tabs T H2 → u σ H2 Q) : tOr (tTest te) u σ H Q := h H (ExtN.refl _) t _ fun v H2 g2 t2 e => ⟨b, dp_bool e, iteFb hb (q H2 g2 t2)⟩
end
end Wn
namespace Wn
open PySem PySem.Spec PyProof.Rows L2
/-! a list grown: data in which no list of its size stands, stay -/
mutual
def noLen (n : Nat) : PyData → Bool
  | .list xs => decide (xs.length ≠ n) && noLenAll n xs
  | .tuple xs => noLenAll n xs
  | _ => true
def noLenAll (n : Nat) : List PyData → Bool
  | [] => true
  | x :: xs => noLen n x && noLenAll n xs
end
mutual
theorem Dp.app {K : PySem.W.Frag} {H : Hp} {l : Addr} {xs : List V} {y : V} (h : H l = some (.lst xs)) : ∀ {v : V} {d : PyData}, Dp K H v d → noLen xs.length d = true → Dp K (upd H l (.lst (xs ++ [y]))) v d
  | _, _, .non, _ => .non
  | _, _, .bl b, _ => .bl b
  | _, _, .int i, _ => .int i
  | _, _, .str z, _ => .str z
  | _, _, .lst (a := a) (xs := zs) (ds := ds) s t, n => by
    rw [noLen, Bool.and_eq_true, decide_eq_true_eq] at n
    have hl := dpAll_len t
    refine .lst ?_ (DpAll.app h t n.2)
    rcases s with (s | ⟨o, s⟩) | s
    · by_cases e : a = l
      · subst e
        rw [h] at s
        cases s
        exact absurd hl.symm n.1
      · exact .inl (.inl (by rw [upd_ne e]; exact s))
    · exact .inl (.inr ⟨o, by rw [upd_ne (fun e => by rw [e, h] at s; cases s)]; exact s⟩)
    · exact .inr s
  | _, _, .tup (a := a) (xs := zs) (ds := ds) s t, n => by
    rw [noLen] at n
    refine .tup ?_ (DpAll.app h t n)
    rcases s with (s | ⟨o, s⟩) | s
    · exact .inl (.inl (by rw [upd_ne (fun e => by rw [e, h] at s; cases s)]; exact s))
    · exact .inl (.inr ⟨o, by rw [upd_ne (fun e => by rw [e, h] at s; cases s)]; exact s⟩)
    · exact .inr s
theorem DpAll.app {K : PySem.W.Frag} {H : Hp} {l : Addr} {xs : List V} {y : V} (h : H l = some (.lst xs)) : ∀ {vs : List V} {ds : List PyData}, DpAll K H vs ds → noLenAll xs.length ds = true → DpAll K (upd H l (.lst (xs ++ [y]))) vs ds
  | _, _, .nil, _ => .nil
  | _, _, .cons a b, n => by
    rw [noLenAll, Bool.and_eq_true] at n
    exact .cons (Dp.app h a n.1) (DpAll.app h b n.2)
end
/-- the tables stay where a list grows -/
theorem tabsApp {T : List (Addr × Str)} {H : Hp} {l : Addr} {xs ys : List V} (t : LamX.Tabs T H) (h : H l = some (.lst xs)) : LamX.Tabs T (upd H l (.lst ys)) := fun p hp => by
  obtain ⟨ps, h1, h2, h3⟩ := t p hp
  refine ⟨ps, by rw [upd_ne (ne_of h1 h (by intro z; cases z))]; exact h1, h2, fun pos cv hc => ?_⟩
  obtain ⟨c, e1, e2⟩ := h3 pos cv hc
  exact ⟨c, e1, by rw [upd_ne (ne_of e2 h (by intro z; cases z))]; exact e2⟩
end Wn
namespace Wn
open PySem PySem.Spec PyProof.Rows L2 LamX
section
variable {K : PySem.W.Frag} {T : List (Addr × Str)} {σ : L2.St} {H : Hp}
theorem noLenAll_app (n : Nat) : ∀ xs ys : List PyData, noLenAll n (xs ++ ys) = (noLenAll n xs && noLenAll n ys)
  | [], ys => by simp [noLenAll]
  | x :: xs, ys => by
    have ih := noLenAll_app n xs ys
    show noLenAll n (x :: (xs ++ ys)) = _
    rw [noLenAll, noLenAll, ih, Bool.and_assoc]
/-- l.append(e) -/
theorem stt_app {te : TE} {i : Nat} {l : Addr} {xs : List V} {ds : List PyData} {d : PyData} {D : Ends} (t : Tabs T H) (hi : σ[i]? = some (some (.ref l))) (e : H l = some (.lst xs)) (a : DpAll K H xs ds) (h : EvT K T te σ H d) (hn : noLenAll ds.length (ds ++ [d]) = true) (hz : ds.length < 1000)
    (k : ∀ ys H2, Tabs T H2 → H2 l = some (.lst ys) → DpAll K H2 ys (ds ++ [d]) → D.nx σ H2) : tDrop (tBM K "list" rAppend (tVar i) (tCons te tNil)) D σ H := by
  refine ⟨_, hi, .inl ⟨rfl, _, sq_lst e⟩, ?_⟩
  refine h H (ExtN.refl _) t _ fun v H2 g2 t2 dv => ?_
  have hl := dpAll_len a
  have e2 := ExtN.lst g2 e
  have a2 := DpAll.kp (kpExt g2) a
  rw [noLenAll_app, Bool.and_eq_true] at hn
  have n2 : noLen ds.length d = true := by
    have := hn.2
    rw [noLenAll, Bool.and_eq_true] at this
    exact this.1
  refine ⟨l, xs, v, rfl, rfl, e2, Nat.lt_of_lt_of_le (show xs.length < 6000 by omega) (by decide), ?_⟩
  refine k (xs ++ [v]) _ (tabsApp t2 e2) upd_same (dpAll_append (DpAll.app e2 a2 (by rw [hl]; exact hn.1)) (.cons (Dp.app e2 dv (by rw [hl]; exact n2)) .nil))
theorem stt_set {te : TE} {i : Nat} {d : PyData} {D : Ends} (t : Tabs T H) (h : EvT K T te σ H d) (k : ∀ v H2, ExtN H H2 → Tabs T H2 → Dp K H2 v d → D.nx (σ.set i (some v)) H2) : tAsg te (gName i) D σ H := h H (ExtN.refl _) t _ k
theorem et_repr {te : TE} {d : PyData} (h : EvT K T te σ H d) (f : Fits d) : EvT K T (tCB (rRepr K) (tCons te tNil)) σ H (.str d.shown) := fun H1 g t Q q =>
  h H1 g t _ fun v H2 g2 t2 a => ⟨v, d, rfl, a, f, q _ H2 g2 t2 (.str _)⟩
/-- two texts compared -/
theorem et_eqS {ta tb : TE} {x y : Str} (h1 : EvT K T ta σ H (.str x)) (h2 : EvT K T tb σ H (.str y)) : EvT K T (tOp rEq ta tb) σ H (.bool (decide (x = y))) := fun H1 g t Q q =>
  h1 H1 g t _ fun v H2 g2 t2 a => h2 H2 (g.trans g2) t2 _ fun w H3 g3 t3 b => by
    have e1 : v = .str x := by cases a; rfl
    have e2 : w = .str y := by cases b; rfl
    subst e1 e2
    refine ⟨rfl, ?_⟩
    have e3 : decide (V.str x = V.str y) = decide (x = y) := by
      rw [decide_eq_decide]
      exact ⟨fun z => V.str.inj z, fun z => by rw [z]⟩
    show Q (.bl (decide (V.str x = V.str y))) H3
    rw [e3]
    exact q _ H3 (g2.trans g3) t3 (.bl _)
end
end Wn
/-! a lambda handed to a def that hands it on to a def that calls it -/
namespace Wn
open PySem PySem.Spec PyProof.Rows L2 LamX
section
variable {X : Cx} {pins : List (Addr × Obj)} {σ : L2.St} {H : Hp} {s : Shared}
theorem un_in {fs fs' : List Addr} {H H1 H2 : Hp} {h h1 h2 : Heap} (a : Un fs [] H H1 h h1) (b : Un fs' [] H1 H2 h1 h2) (hs : ∀ x ∈ fs, x ∈ fs') (hn : ∀ x o, h.get? x = some o → x ∈ fs' → x ∈ fs) : Un fs [] H H2 h h2 where
  keep := fun x o q n hx _ => b.keep x o (a.keep x o q n hx (by simp)) (a.free x o q n (by simp)) (fun z => hx (hn x o q z)) (by simp)
  slot := fun x o q n hx _ => by
    obtain ⟨sl, q1⟩ := a.slot x o q n hx (by simp)
    obtain ⟨sl2, q2⟩ := b.slot x _ q1 (a.free x o q n (by simp)) (hs x hx) (by simp)
    exact ⟨sl2, q2⟩
  free := fun x o q n _ => by
    by_cases hx : x ∈ fs
    · obtain ⟨sl, q1⟩ := a.slot x o q n hx (by simp)
      exact b.free x _ q1 (a.free x o q n (by simp)) (by simp)
    · exact b.free x o (a.keep x o q n hx (by simp)) (a.free x o q n (by simp)) (by simp)
  there := fun x o q _ => by
    obtain ⟨o1, q1⟩ := a.there x o q (by simp)
    exact b.there x o1 q1 (by simp)
  tups := fun x xs q => b.tups x xs (a.tups x xs q)
  frzs := fun x o u q => b.frzs x o u (a.frzs x o u q)
  tbls := fun x ps q => by
    obtain ⟨m1, q1⟩ := a.tbls x ps q
    obtain ⟨m2, q2⟩ := b.tbls x _ q1
    exact ⟨m1 ++ m2, by rw [q2, Array.append_assoc]⟩
/-- x(), in the def that got the lambda at last -/
theorem pe_actG {CXg : CXT} {Eg : XK} {Ng : List Str} {qg : Str} {sg : Scope} {g f c' : Addr} {cdg dV doc pm ctv : Value} {params : Arguments} {body : Expr} {scope : Scope} {D : List (Addr × Obj)} {k i : Nat} {a : Str} {pn : List (Addr × Obj)} {xe : Value → Shared → Prop} {W : WX} {tb : XK → TE} {p1 p2 : Pos}
    {A2 : Around} {outer2 : List Env} {s3 : Shared} {H3 : Hp}
    (I : Inv X pins σ H s) (L : LamD X.N X.env.scope scope) (M : Made X H s params body scope f c' dV doc pm ctv D)
    (un3 : ∀ HZ h1, Un (frs outer2) [] H3 HZ s3.heap h1 → Un (frs X.stack) [] H HZ s.heap h1)
    (tk : Takes ((cxOf CXg X.prog X.w X.K X.mg X.base Ng qg sg g cdg A2 outer2 s3 H3 Eg).tr pn xe) W) (hr : Room (k + 1) (A2.deeper (envOfC qg sg s3.heap.objs.size g cdg)))
    (hbody : ∀ (A : Around) (outer : List Env) (s : Shared) (H : Hp) (E : XK), Room k (A.deeper (lamEnv X scope s.heap.objs.size f c')) → PE (lamCx X A outer s H E scope f c') body (tb E))
    (hN : Ng[i]? = some a) (hv : Vis sg a) (hd : (a == ("__debug__" : Str)) = false := by decide) (hcd : (a == ("__classdict__" : Str)) = false := by decide) :
    PE ((cxOf CXg X.prog X.w X.K X.mg X.base Ng qg sg g cdg A2 outer2 s3 H3 Eg).tr pn xe) (.Call (.Name a p1) [] [] p2)
      (fun σZ HZ Q => σZ[i]? = some (some (.ref f)) ∧ HZ c' = some (CodeO c' (X.env.qual ++ "<lambda>")) ∧ ∃ E : XK, (∀ cls d H', E cls d H' → W cls d σZ H') ∧ tb E σ HZ Q) := by
  refine ⟨fun pinsZ sZ σZ HZ Q IZ h => ?_⟩
  obtain ⟨hs, hc, E, hW, ht⟩ := h
  refine wpAny_Call_Name_kw (thn ((pe_var (pos := p1) (i := i) hN hv hd hcd).run pinsZ sZ σZ HZ (fun v H1 => v = .ref f ∧ H1 = HZ) IZ ⟨.ref f, hs, rfl, rfl⟩) fun u s1 hh => ?_)
  obtain ⟨v, H1, I1, r1, ev, eH⟩ := hh
  subst ev
  rw [eH] at I1
  obtain rfl : u = Value.ref f := r1
  have un : Un (frs X.stack) [] H HZ s.heap s1.heap := un3 _ _ I1.base
  have stay : ∀ p ∈ D, s1.heap.get? p.1 = some p.2 := fun p hp => un.keep _ _ (M.there p hp).1 (M.there p hp).2.1 (M.there p hp).2.2 (by simp)
  have of1 := stay _ M.at_
  refine PySem.W.callWith_F0 ⟨_, _, _, _, of1⟩ ?_
  obtain ⟨⟨oc, vs, t, hoc, hdc, hvc⟩, _, _⟩ := I1.hok c' _ hc
  obtain ⟨bs, hbind, hloc⟩ := M.binds
  have rc : codeAny (model X.prog X.w) (A2.deeper (envOfC qg sg s3.heap.objs.size g cdg)) (.call (.ref f) ⟨[], []⟩) (CR (L2.CX X.prog X.w) (envOfC qg sg s3.heap.objs.size g cdg :: outer2) X.prog X.w HZ s1 Q E) s1 := by
    refine PySem.W.kla_callFunE hr.depth of1 rfl L.co L.gen rfl ⟨c', oc, vs, t, rfl, hoc, hdc, hvc⟩ (hbind s1 stay _ _ _ _ ?_)
    refine wpAny_newFunctionEnv (fun y hy => (L.own y hy).1) hloc (fun h1 hns hsb => ⟨I1.nolimit.fresh _ hsb, ?_⟩) L.kind
    show codeAny _ _ (.expr body (lamEnv X scope s1.heap.objs.size f c')) _ _
    have kp : ∀ b o, s1.heap.get? b = some o → h1.get? b = some o := fun b o e => hsb.extBut b o (Nat.ne_of_lt (Heap.lt_size e)) (Heap.get?_push_of_some _ e)
    have J : Inv (lamCx X (A2.deeper (envOfC qg sg s3.heap.objs.size g cdg)) (envOfC qg sg s3.heap.objs.size g cdg :: outer2) s1 HZ E scope f c') [] σ HZ { s1 with heap := h1, toks := s1.toks + bs.length } :=
      lamW_start I L I1.env0 hr.hd un hns kp
    refine PySem.W.kla_codeExpr (wpAny_mono ((hbody _ _ s1 HZ E (hr.deeper _)).run [] _ _ HZ Q J ht) (fun v s' hq => ?_) fun e s' hq => hq)
    obtain ⟨w', H', J', rv, q⟩ := hq
    exact ⟨w', H', J'.os, J'.bare, J'.base, J'.hok, rv, q⟩
  refine wpAny_call (codeAny_mono rc fun r s' hq => ?_)
  match r, hq with
  | .error e, hq => exact tk e s' (XE.of_call I1 hW hq)
  | .ok (.ret u), hq => exact I1.after hq
  | .ok .next, hq => exact hq.elim
  | .ok .brk, hq => exact hq.elim
  | .ok .cont, hq => exact hq.elim
end
/-- how a lambda without parameters is made here: one object -/
def MkLam1 (X : Cx) (T : List (Addr × Str)) (params : Arguments) (body : Expr) (scope : Scope) (lpos : Pos) : Prop :=
  ∀ (pins : List (Addr × Obj)) (σ : L2.St) (H : Hp) (s : Shared) (Q : Value → Shared → Prop), Inv X pins σ H s → Tabs T H →
    (∀ (f c' : Addr) (doc pm ctv : Value) (H1 : Hp) (s' : Shared), Inv X pins σ H1 s' → ExtN H H1 → Tabs T H1 → Made X H1 s' params body scope f c' .none doc pm ctv [(f, lamO X params body scope .none doc pm c' ctv)] → Q (.ref f) s') →
    wpAny (model X.prog X.w) X.A (eval (.Lambda params body scope lpos) X.env) Q X.xe s
theorem lam_plain1 {X : Cx} {pins : List (Addr × Obj)} {σ : L2.St} {H : Hp} {s : Shared} {T : List (Addr × Str)} {c P : Addr} {params : Arguments} {body : Expr} {scope : Scope} {pos : Pos} {E : Value → Shared → Prop} {Q : Value → Shared → Prop} (I : Inv X pins σ H s) (TB : TabB X.base X.mg c P) (hcode : X.env.code = .ref c)
    (hm : (P, X.env.qual ++ "<lambda>") ∈ T) (hu : ∀ p ∈ T, p.1 = P → p.2 = X.env.qual ++ "<lambda>") (hT : Tabs T H) (hdef : defaultsOf params X.env = ([], [])) (hfree : ∀ y ∈ scope.names, y.2 = .free → ∃ c, X.env.cells.lookup y.1 = some c)
    (hbind : ∀ (q : Str) (cl : List (Str × Addr)) (doc pm cv ctv : Value), bindArgs (PySem.W.kdv_fn "<lambda>" q params (.expr body) scope cl .none doc pm cv ctv) ⟨[], []⟩ = pure [])
    (h : ∀ (f c' : Addr) (doc pm ctv : Value) (H1 : Hp) (s' : Shared), Inv X pins σ H1 s' → ExtN H H1 → Tabs T H1 → Made X H1 s' params body scope f c' .none doc pm ctv [(f, lamO X params body scope .none doc pm c' ctv)] → Q (.ref f) s') :
    wpAny (model X.prog X.w) X.A (eval (.Lambda params body scope pos) X.env) Q E s := by
  refine PySem.W.kla_eval hdef ?_
  rw [makeFunction_eq]
  simp only [List.zip_nil_right, List.filterMap_nil, List.isEmpty_nil, if_true, pure_bind]
  refine mk_tail I TB hcode hm hu hT hfree fun f c' doc pm ctv H1 s' I1 eN T1 _ _ hf hfn hfr hco => ?_
  refine h f c' doc pm ctv H1 s' I1 eN T1 ⟨List.mem_cons_self, fun p hp => ?_, hco, [], fun s2 _ => .of_eq (hbind _ _ _ _ _ _), fun y hy => absurd hy (by simp)⟩
  rw [List.mem_singleton] at hp
  subst hp
  exact ⟨hf, hfn, hfr⟩
/-- g(l), in the def that got the lambda l in slot 0 -/
def tOutV (f c' : Addr) (q : Str) (TT : (XK → Hp → VK → Prop) → Hp → VK → Prop) (tl : XK → Hp → VK → Prop) : TE := fun σ2 H2 Q => σ2[0]? = some (some (.ref f)) ∧ H2 c' = some (CodeO c' q) ∧ TT tl H2 Q
section
variable {X : Cx}
theorem pe_outV {pins : List (Addr × Obj)} {σ : L2.St} {H : Hp} {s : Shared} {TT : (XK → Hp → VK → Prop) → Hp → VK → Prop} {x a a2 x2 : Str} {g f c' g2 : Addr} {k : Nat} {st : Stmt} {fd : FuncData} {Ng N2 : List Str} {cdg cd2 doc pm ctv dV : Value} {sc2 : Scope} {D : List (Addr × Obj)}
    {params : Arguments} {body : Expr} {scope : Scope} {t : XK → TE} {p p3 pos : Pos} (I : Inv X pins σ H s) (L : LamD X.N X.env.scope scope) (M : Made X H s params body scope f c' dV doc pm ctv D)
    (hg : Gl (cxOf CX0 X.prog X.w X.K X.mg X.base N2 x2 sc2 g2 cd2 X.A X.stack s H E0).nox x) (hm : X.mg x = some (.ref g)) (hk : PySem.W.keepIn X.K (.ref g) = true) (F : Fun X.K x x st g fd) (hcd : fd.code = cdg) (hb : L2.Binds X.K fd [a] []) (Sg : FnScope Ng [a] (defScope st)) (hNg : Ng[0]? = some a) (hva : Vis (defScope st) a)
    (hG : Gives (cxOf CX0 X.prog X.w X.K X.mg X.base N2 x2 sc2 g2 cd2 X.A X.stack s H E0).nox Ng x (defScope st) g cdg (defBody st) a (X.env.qual ++ "<lambda>") TT)
    (hr : Room (k + 2) (X.A.deeper (envOfC x2 sc2 s.heap.objs.size g2 cd2))) (hN2 : N2[0]? = some a2) (hv2 : Vis sc2 a2)
    (hbody : ∀ (A : Around) (outer : List Env) (s : Shared) (H : Hp) (E : XK), Room k (A.deeper (lamEnv X scope s.heap.objs.size f c')) → PE (lamCx X A outer s H E scope f c') body (t E))
    (hdb : (x == ("__debug__" : Str)) = false := by decide) (hd : (a == ("__debug__" : Str)) = false := by decide) (hcc : (a == ("__classdict__" : Str)) = false := by decide) (hd2 : (a2 == ("__debug__" : Str)) = false := by decide) (hcc2 : (a2 == ("__classdict__" : Str)) = false := by decide) :
    PE (cxOf CX0 X.prog X.w X.K X.mg X.base N2 x2 sc2 g2 cd2 X.A X.stack s H E0).nox (.Call (.Name x p) [.Name a2 p3] [] pos) (tOutV f c' (X.env.qual ++ "<lambda>") TT (fun E H' Q' => t E σ H' Q')) := by
  refine ⟨fun pins2 s2 σ2 H2 Q I2 h => ?_⟩
  obtain ⟨hs, hc, h⟩ := h
  obtain ⟨oc, od, kV, doc0, pm0, an, cdv, ct, osl, rfl, lk, hcg⟩ := F.ex
  obtain rfl : cdv = cdg := hcd
  refine wpAny_Call_Name_kw (ld_glob I2 hg hm ?_ hdb)
  refine PySem.W.callWith_K (h₀ := X.base) I2.ok.mod.kin hk ?_ (by rfl) (by rfl)
  refine Calls.spliced_cons (thn ((pe_var (pos := p3) (i := 0) hN2 hv2 hd2 hcc2).run pins2 _ σ2 H2 (fun v H1 => v = .ref f ∧ H1 = H2) I2 ⟨.ref f, hs, rfl, rfl⟩) fun u s3 hh => ?_)
  obtain ⟨v, H1, I3, r1, ev, eH⟩ := hh
  subst ev
  rw [eH] at I3
  obtain rfl : u = Value.ref f := r1
  refine Calls.spliced_nil ⟨I3.kIn, ?_⟩
  have un1 : Un (frs X.stack) [] H H2 s.heap s3.heap := I3.base
  have un3 : ∀ HZ h1, Un (frs (envOfC x2 sc2 s.heap.objs.size g2 cd2 :: X.stack)) [] H2 HZ s3.heap h1 → Un (frs X.stack) [] H HZ s.heap h1 := fun HZ h1 u => by
    refine un_in un1 u (fun b hb => ?_) fun b o q hb => ?_
    · unfold frs at hb ⊢
      rw [List.filterMap_cons]
      split
      · exact hb
      · exact List.mem_cons_of_mem _ hb
    · unfold frs at hb
      rw [List.filterMap_cons] at hb
      split at hb
      · exact hb
      · rename_i w e
        rcases List.mem_cons.mp hb with z | z
        · have e2 : w = s.heap.objs.size := (Option.some.inj e).symm
          rw [z, e2] at q
          exact absurd (Heap.lt_size q) (Nat.lt_irrefl _)
        · exact z
  have rc : codeAny (model X.prog X.w) (X.A.deeper (envOfC x2 sc2 s.heap.objs.size g2 cd2)) (.call (.ref g) ⟨[.ref f], []⟩) (CR CX0 (envOfC x2 sc2 s.heap.objs.size g2 cd2 :: X.stack) X.prog X.w H2 s3 Q E0) s3 := by
    refine run_ofS (N := Ng) (ps := [a]) (us := [.ref f]) (vs := [.ref f]) lk hcg Sg hr I3.env0 (hb s3 [.ref f] I3.kIn rfl) (.cons rfl .nil) rfl fun hr' => ?_
    have act : ∀ (W : WX) (pn : List (Addr × Obj)) (xe : Value → Shared → Prop) (p1 p2 : Pos), Takes ((cxOf CX0 X.prog X.w X.K X.mg X.base Ng x (defScope st) g cdv (X.A.deeper (envOfC x2 sc2 s.heap.objs.size g2 cd2)) (envOfC x2 sc2 s.heap.objs.size g2 cd2 :: X.stack) s3 H2 E0).tr pn xe) W →
        PE ((cxOf CX0 X.prog X.w X.K X.mg X.base Ng x (defScope st) g cdv (X.A.deeper (envOfC x2 sc2 s.heap.objs.size g2 cd2)) (envOfC x2 sc2 s.heap.objs.size g2 cd2 :: X.stack) s3 H2 E0).tr pn xe) (.Call (.Name a p1) [] [] p2) (fun σZ HZ Q => σZ[0]? = some (some (.ref f)) ∧ HZ c' = some (CodeO c' (X.env.qual ++ "<lambda>")) ∧ ∃ E : XK, (∀ cls d H', E cls d H' → W cls d σZ H') ∧ t E σ HZ Q) :=
      fun W pn xe p1 p2 tk => pe_actG (CXg := CX0) (Eg := E0) (Ng := Ng) (qg := x) (sg := defScope st) (g := g) (cdg := cdv) (A2 := X.A.deeper (envOfC x2 sc2 s.heap.objs.size g2 cd2)) (outer2 := envOfC x2 sc2 s.heap.objs.size g2 cd2 :: X.stack) (s3 := s3) (H3 := H2) (i := 0) (k := k) (tb := t) I L M un3 tk hr' hbody hNg hva hd hcc
    obtain ⟨t', ht', hq'⟩ := hG f c' s3 H2 Q (fun E H' Q' => t E σ H' Q') (hr'.mono (by omega)) act hc h
    exact ⟨t', ht'.nox, hq'⟩
  refine wpAny_call (codeAny_mono rc fun r s2 hq => ?_)
  match r, hq with
  | .error e, hq => exact (show False from hq).elim
  | .ok (.ret u), hq => exact I3.after hq
  | .ok .next, hq => exact hq.elim
  | .ok .brk, hq => exact hq.elim
  | .ok .cont, hq => exact hq.elim
/-- the def that hands it on: x calls it -/
def Gives2 (X : Cx) (j : Nat) (N2 : List Str) (x2 : Str) (sc2 : Scope) (g2 : Addr) (cd2 : Value) (bg2 : List Stmt) (x a2 q : Str) (TT : (XK → Hp → VK → Prop) → Hp → VK → Prop) (TT2 : (XK → Hp → VK → Prop) → List V → Hp → VK → Prop) : Prop :=
  ∀ (f c' : Addr) (ws : List V) (s : Shared) (H : Hp) (Q : VK) (tl : XK → Hp → VK → Prop), Room j (X.A.deeper (envOfC x2 sc2 s.heap.objs.size g2 cd2)) →
    (∀ p p3 pos, PE (cxOf CX0 X.prog X.w X.K X.mg X.base N2 x2 sc2 g2 cd2 X.A X.stack s H E0).nox (.Call (.Name x p) [.Name a2 p3] [] pos) (tOutV f c' q TT tl)) →
    H c' = some (CodeO c' q) → TT2 tl ws H Q →
    ∃ t, PSs (cxOf CX0 X.prog X.w X.K X.mg X.base N2 x2 sc2 g2 cd2 X.A X.stack s H E0).nox bg2 t ∧ t { nx := fun _ H' => Q .non H', rt := Q } (L2.start N2 (.ref f :: ws)) H
def tLam2 (T : List (Addr × Str)) (TT2 : (XK → Hp → VK → Prop) → List V → Hp → VK → Prop) (n : Nat) (t : XK → TE) (ta : TA) : TE := fun σ H Q => Tabs T H ∧ ∀ H1, ExtN H H1 → Tabs T H1 → ta σ H1 (fun ws H2 => ws.length = n ∧ ExtN H1 H2 ∧ TT2 (fun E H' Q' => t E σ H' Q') ws H2 Q)
/-- x2(lambda: body, es) -/
theorem pe_outc2 {T : List (Addr × Str)} {TT : (XK → Hp → VK → Prop) → Hp → VK → Prop} {TT2 : (XK → Hp → VK → Prop) → List V → Hp → VK → Prop} {x a x2 a2 : Str} {g g2 : Addr} {k n : Nat} {st st2 : Stmt} {fd fd2 : FuncData} {Ng N2 ps2 : List Str} {cdg cd2 : Value}
    {params : Arguments} {body : Expr} {scope : Scope} {t : XK → TE} {ta : TA} {es : List Expr} {p lpos pos : Pos}
    (hg2 : Gl X x2) (hm2 : X.mg x2 = some (.ref g2)) (hk2 : PySem.W.keepIn X.K (.ref g2) = true) (F2 : Fun X.K x2 x2 st2 g2 fd2) (hcd2 : fd2.code = cd2) (hb2 : L2.Binds X.K fd2 (a2 :: ps2) []) (Sg2 : FnScope N2 (a2 :: ps2) (defScope st2)) (hN2 : N2[0]? = some a2) (hv2 : Vis (defScope st2) a2) (hn : ps2.length = n)
    (hm : X.mg x = some (.ref g)) (hk : PySem.W.keepIn X.K (.ref g) = true) (F : Fun X.K x x st g fd) (hcd : fd.code = cdg) (hb : L2.Binds X.K fd [a] []) (Sg : FnScope Ng [a] (defScope st)) (hNg : Ng[0]? = some a) (hva : Vis (defScope st) a)
    (hgl : ∀ (s : Shared) (H : Hp), Gl (cxOf CX0 X.prog X.w X.K X.mg X.base N2 x2 (defScope st2) g2 cd2 X.A X.stack s H E0).nox x)
    (hG : ∀ (s : Shared) (H : Hp), Gives (cxOf CX0 X.prog X.w X.K X.mg X.base N2 x2 (defScope st2) g2 cd2 X.A X.stack s H E0).nox Ng x (defScope st) g cdg (defBody st) a (X.env.qual ++ "<lambda>") TT)
    (hG2 : Gives2 X (k + 2) N2 x2 (defScope st2) g2 cd2 (defBody st2) x a2 (X.env.qual ++ "<lambda>") TT TT2)
    (ML : MkLam1 X T params body scope lpos) (hr : Room (k + 3) X.A) (L : LamD X.N X.env.scope scope)
    (hbody : ∀ (A : Around) (outer : List Env) (s : Shared) (H : Hp) (E : XK) (f c' : Addr), Room k (A.deeper (lamEnv X scope s.heap.objs.size f c')) → PE (lamCx X A outer s H E scope f c') body (t E))
    (ha : PA X es ta)
    (hdb2 : (x2 == ("__debug__" : Str)) = false := by decide) (hdb : (x == ("__debug__" : Str)) = false := by decide) (hd : (a == ("__debug__" : Str)) = false := by decide) (hcc : (a == ("__classdict__" : Str)) = false := by decide) (hd2 : (a2 == ("__debug__" : Str)) = false := by decide) (hcc2 : (a2 == ("__classdict__" : Str)) = false := by decide)
    (hpl : (backTo pos (starEach es X.env)).any (·.1) = false := by rfl) :
    PE X (.Call (.Name x2 p) (.Lambda params body scope lpos :: es) [] pos) (tLam2 T TT2 n t ta) := by
  refine ⟨fun pins s σ H Q I h => ?_⟩
  obtain ⟨hT, h⟩ := h
  obtain ⟨oc, od, kV, doc0, pm0, an, cdv, ct, osl, rfl, lk, hcg⟩ := F2.ex
  obtain rfl : cdv = cd2 := hcd2
  refine wpAny_Call_Name_kw (ld_glob I hg2 hm2 ?_ hdb2)
  refine PySem.W.callWith_K (h₀ := X.base) I.ok.mod.kin hk2 ?_ (by rfl) hpl
  show wpAny _ _ (spliced ((false, eval (.Lambda params body scope lpos) X.env) :: backTo pos (starEach es X.env))) _ _ s
  refine Calls.spliced_cons (ML pins σ H s _ I hT fun f c' doc pm ctv H1 s' I1 eN T1 M => ?_)
  have hf := M.there (f, lamO X params body scope .none doc pm c' ctv) List.mem_cons_self
  have Ip : Inv X ((f, lamO X params body scope .none doc pm c' ctv) :: pins) σ H1 s' := I1.pins_of fun q hq => by
    rcases List.mem_cons.mp hq with rfl | hq
    · obtain ⟨h1, h2, h3⟩ := hf
      have hl : f ≠ X.env.locals := fun z => by
        obtain ⟨m, ⟨o', es', ep, ho', hd', _⟩, _⟩ := I1.loc
        have h1 : s'.heap.get? f = _ := h1
        rw [z, ho'] at h1
        cases h1
        cases hd'
      refine ⟨h1, h2, hl, fun z => ?_, fun v z => by cases z⟩
      rcases I1.ok.stk with e | ⟨e, _⟩
      · exact h3 (by rw [e]; exact z)
      · refine h3 ?_
        rw [e]
        unfold frs
        rw [List.filterMap_cons]
        split
        · exact z
        · exact List.mem_cons_of_mem _ z
    · exact I1.pin q (List.mem_append_right _ hq)
  refine thn (ha.run pos _ s' σ H1 _ Ip (h H1 eN T1)) fun us s2 ⟨ws, H2, I2, r2, hwl, e2, q2⟩ => ⟨I2.kIn, ?_⟩
  have I2' : Inv X pins σ H2 s2 := I2.pins_of fun q hq => I2.pin q (List.mem_append_right _ (List.mem_cons_of_mem _ hq))
  have M2 : Made X H2 s2 params body scope f c' .none doc pm ctv [(f, lamO X params body scope .none doc pm c' ctv)] := by
    refine ⟨M.at_, fun q hq => ?_, e2 c' _ M.code codeO_ne, M.binds⟩
    have hq' := hq
    rw [List.mem_singleton] at hq
    subst hq
    have z := I2.pin (f, lamO X params body scope .none doc pm c' ctv) (List.mem_append_right _ List.mem_cons_self)
    exact ⟨z.1, z.2.1, hf.2.2⟩
  have rr : Vals (.ref f :: ws) (.ref f :: us) := .cons rfl r2
  have rc : codeAny (model X.prog X.w) X.A (.call (.ref g2) ⟨.ref f :: us, []⟩) (CR CX0 X.stack X.prog X.w H2 s2 Q E0) s2 := by
    have hlen : (Value.ref f :: us).length = (a2 :: ps2).length := by
      rw [List.length_cons, List.length_cons, ← r2.length, hwl, hn]
    have hlen2 : (V.ref f :: ws).length = (a2 :: ps2).length := by
      rw [List.length_cons, List.length_cons, hwl, hn]
    refine run_ofS (N := N2) (ps := a2 :: ps2) (us := .ref f :: us) (vs := .ref f :: ws) lk hcg Sg2 hr I2'.env0 (by simpa using hb2 s2 (.ref f :: us) I2'.kIn (by simpa using hlen)) rr hlen2 fun hr' => ?_
    obtain ⟨t', ht', hq'⟩ := hG2 f c' ws s2 H2 Q (fun E H' Q' => t E σ H' Q') hr' (fun p p3 pos => pe_outV (k := k) I2' L M2 (hgl s2 H2) hm hk F hcd hb Sg hNg hva (hG s2 H2) hr' hN2 hv2 (fun A outer s H E hr2 => hbody A outer s H E f c' hr2) hdb hd hcc hd2 hcc2) M2.code q2
    exact ⟨t', ht'.nox, hq'⟩
  refine wpAny_call (codeAny_mono rc fun r s2 hq => ?_)
  match r, hq with
  | .error e, hq => exact (show False from hq).elim
  | .ok (.ret u), hq => exact I2'.after hq
  | .ok .next, hq => exact hq.elim
  | .ok .brk, hq => exact hq.elim
  | .ok .cont, hq => exact hq.elim
end
end Wn
/-! instances of an own class: len(o), o(e), e in o -/
namespace Wn
open PySem PySem.Spec PyProof.Rows L2
section
variable {X : Cx} {k : Nat} {C g : Addr} {fd : FuncData} {ps : List Str} {sp : Sp}
/-- what comes back of a def that was run around here -/
theorem run_at {pins : List (Addr × Obj)} {σ : L2.St} {H : Hp} {s : Shared} {A : Around} {Q : VK} {R : Value → Shared → Prop} {E' : Value → Shared → Prop} {us : List Value} {vs : List V} (F : FnOk X.prog X.w X.K X.mg X.base CX0 k g fd ps sp) (hr : Room k A) (hb : Binds X.K fd ps []) (I : Inv X pins σ H s)
    (E0' : Env0 X.prog X.w X.K X.mg X.base A X.stack s H) (r : Vals vs us) (h : sp vs H Q E0) (q : ∀ u v H' s', Inv X pins σ H' s' → RelV v u → Q v H' → R u s') : wpAny (model X.prog X.w) A (call (.ref g) us) R E' s := by
  have hl : us.length = ps.length := by rw [← r.length]; exact F.len _ _ _ _ h
  refine wpAny_call (codeAny_mono (F.run A X.stack s H ⟨us, []⟩ us vs Q E0 hr E0' (by simpa using hb s us I.kIn (by simpa using hl)) r h) fun z s' hq => ?_)
  match z, hq with
  | .error e, hq => exact (show False from hq).elim
  | .ok (.ret u), hq =>
    obtain ⟨v, H', I3, rv, q3⟩ := I.after hq
    exact q u v H' s' I3 rv q3
  | .ok .next, hq => exact hq.elim
  | .ok .brk, hq => exact hq.elim
  | .ok .cont, hq => exact hq.elim
/-- len(o) -/
def rLenO (C : Addr) (sp : Sp) : List V → Hp → VK → Prop := fun xs H Q => ∃ a dx fs, xs = [.ref a] ∧ H a = some (.ins C dx fs) ∧ sp [.ref a] H (fun v H' => ∃ n : Nat, v = .int (n : Nat) ∧ n ≤ 1000000 ∧ Q (.int (n : Nat)) H') E0
theorem call_lenO (hs : PySem.W.findIn X.K (.ref C) "__len__" = some (some (.ref g))) (hf : PySem.W.isFn X.K (.ref g) = true) (F : FnOk X.prog X.w X.K X.mg X.base CX0 k g fd ps sp) (hr : Room (k + 1) X.A) (hb : Binds X.K fd ps []) : CallR X (.builtin "len") (rLenO C sp) := by
  intro pins s σ H xs us Q I r h
  obtain ⟨a, dx, fs, rfl, ea, h⟩ := h
  obtain ⟨u, rfl, rx⟩ := vals1 r
  obtain rfl : u = Value.ref a := rx
  obtain ⟨mA, O, _⟩ := ins_get I.hok ea
  obtain ⟨od, J, _⟩ := O.look
  obtain ⟨m, fr⟩ := I.fr
  refine PySem.W.len_K fr I.ok.mod.kin J hs hf (run_at (vs := [.ref a]) F hr.in1 hb I I.env0.in1 (.cons rfl .nil) h fun u v H' s' I3 rv q => ?_)
  obtain ⟨n, rfl, hn, q⟩ := q
  obtain ⟨t, rfl⟩ := rv
  exact ⟨⟨by omega, by omega⟩, .int (n : Nat), H', I3.tok _, ⟨_, rfl⟩, q⟩
/-- e in o -/
def rInO (C : Addr) (sp : Sp) : R2 := fun x y H Q => ∃ a dx fs, y = .ref a ∧ H a = some (.ins C dx fs) ∧ sp [.ref a, x] H (fun v H' => ∃ b : Bool, v = .bl b ∧ Q (.bl b) H') E0
def rNotInO (C : Addr) (sp : Sp) : R2 := fun x y H Q => ∃ a dx fs, y = .ref a ∧ H a = some (.ins C dx fs) ∧ sp [.ref a, x] H (fun v H' => ∃ b : Bool, v = .bl b ∧ Q (.bl (!b)) H') E0
theorem op_inO (hs : PySem.W.findIn X.K (.ref C) "__contains__" = some (some (.ref g))) (hf : PySem.W.isFn X.K (.ref g) = true) (F : FnOk X.prog X.w X.K X.mg X.base CX0 k g fd ps sp) (hr : Room k X.A) (hb : Binds X.K fd ps []) : OpR X (compareOp .In) (rInO C sp) := by
  intro pins s σ H x y v u Q I rx ry h
  obtain ⟨a, dx, fs, rfl, ea, h⟩ := h
  obtain rfl : u = Value.ref a := ry
  obtain ⟨mA, O, _⟩ := ins_get I.hok ea
  obtain ⟨od, J, _⟩ := O.look
  obtain ⟨m, fr⟩ := I.fr
  refine PySem.W.in_K fr I.ok.mod.kin J hs hf (run_at (vs := [.ref a, x]) F hr hb I I.env0 (.cons rfl (.cons rx .nil)) h fun u v H' s' I3 rv q => ?_)
  obtain ⟨b, rfl, q⟩ := q
  obtain rfl : u = Value.bool b := rv
  exact wpAny_truthy_bool ⟨.bl b, H', I3, rfl, q⟩
theorem op_notInO (hs : PySem.W.findIn X.K (.ref C) "__contains__" = some (some (.ref g))) (hf : PySem.W.isFn X.K (.ref g) = true) (F : FnOk X.prog X.w X.K X.mg X.base CX0 k g fd ps sp) (hr : Room k X.A) (hb : Binds X.K fd ps []) : OpR X (compareOp .NotIn) (rNotInO C sp) := by
  intro pins s σ H x y v u Q I rx ry h
  obtain ⟨a, dx, fs, rfl, ea, h⟩ := h
  obtain rfl : u = Value.ref a := ry
  obtain ⟨mA, O, _⟩ := ins_get I.hok ea
  obtain ⟨od, J, _⟩ := O.look
  obtain ⟨m, fr⟩ := I.fr
  refine PySem.W.notIn_K fr I.ok.mod.kin J hs hf (run_at (vs := [.ref a, x]) F hr hb I I.env0 (.cons rfl (.cons rx .nil)) h fun u v H' s' I3 rv q => ?_)
  obtain ⟨b, rfl, q⟩ := q
  obtain rfl : u = Value.bool b := rv
  exact wpAny_truthy_bool ⟨.bl (!b), H', I3, rfl, q⟩
/-- o(e) -/
def tCallI (C : Addr) (sp : Sp) (tf : TE) (t : TA) : TE := fun σ H Q => tf σ H fun y H1 => ∃ a, y = V.ref a ∧ t σ H1 fun vs H2 => (∃ dx fs, H2 a = some (.ins C dx fs)) ∧ sp (V.ref a :: vs) H2 Q E0
theorem pe_callI {fe e : Expr} {es : List Expr} {tf : TE} {t : TA} {pos : Pos} (hf : PE X fe tf) (c : StX.CallO X.K C g) (F : FnOk X.prog X.w X.K X.mg X.base CX0 k g fd ps sp) (hr : Room k X.A) (hb : Binds X.K fd ps []) (ha : PA X (e :: es) t)
    (ht : eval (.Call fe (e :: es) [] pos) X.env = (do callWith pos (← eval fe X.env) [] (backTo pos (starEach (e :: es) X.env)) (backToKw pos (keywordEach [] X.env))) := by rfl)
    (he : starEach (e :: es) X.env = (false, eval e X.env) :: starEach es X.env := by rfl) (hpl : (backTo pos (starEach es X.env)).any (·.1) = false := by rfl) : PE X (.Call fe (e :: es) [] pos) (tCallI C sp tf t) := by
  refine ⟨fun pins s σ H Q I h => ?_⟩
  refine Call_ (thn (hf.run pins s σ H _ I h) fun u s1 ⟨y, H1, I1, ry, a, ey, q⟩ => ?_) ht
  subst ey
  obtain rfl : u = Value.ref a := ry
  refine StX.callO_with (thn (ha.run pos pins s1 σ H1 _ I1 q) fun us s2 ⟨vs, H2, I2, r, ⟨dx, fs, ea⟩, q2⟩ => ?_) he hpl
  obtain ⟨mA, O, _⟩ := ins_get I2.hok ea
  obtain ⟨od, J, _⟩ := O.look
  refine ⟨⟨C, _, od, J, rfl⟩, ?_⟩
  have rr : Vals (V.ref a :: vs) (Value.ref a :: us) := .cons rfl r
  have hl : (Value.ref a :: us).length = ps.length := by rw [← rr.length]; exact F.len _ _ _ _ q2
  refine wpAny_call (PySem.W.kco_code I2.kIn J rfl c.at_ c.fn c.fi (codeAny_mono (F.run X.A X.stack s2 H2 ⟨.ref a :: us, []⟩ (.ref a :: us) (.ref a :: vs) Q E0 hr I2.env0 (by simpa using hb s2 (.ref a :: us) I2.kIn (by simpa using hl)) rr q2) fun z s' hq => ?_))
  match z, hq with
  | .error e, hq => exact (show False from hq).elim
  | .ok (.ret u), hq => exact I2.after hq
  | .ok .next, hq => exact hq.elim
  | .ok .brk, hq => exact hq.elim
  | .ok .cont, hq => exact hq.elim
end
end Wn
/-! a lambda as a thing on the heap: kept in a tuple or a name, handed on later; methods by keyword -/
namespace Wn
open PySem PySem.Spec PyProof.Rows L2 LamX
/-- the lambda's object: it never changes -/
abbrev LfO (X : Cx) (f : Addr) (params : Arguments) (body : Expr) (scope : Scope) (dV doc pm : Value) (c' : Addr) (ctv : Value) : HO :=
  .frz (lamO X params body scope dV doc pm c' ctv) (.own f)
structure LamAt (X : Cx) (params : Arguments) (body : Expr) (scope : Scope) (H : Hp) (f c' : Addr) : Prop where
  ex : ∃ dV doc pm ctv, H f = some (LfO X f params body scope dV doc pm c' ctv) ∧ H c' = some (CodeO c' (X.env.qual ++ "<lambda>")) ∧
    ((dV = .none ∧ bindArgs (PySem.W.kdv_fn "<lambda>" (X.env.qual ++ "<lambda>") params (.expr body) scope (clos X scope) .none doc pm (.ref c') ctv) ⟨[], []⟩ = pure []) ∨
     (∃ (T0 : Addr) (v : V) (x : Str), dV = .ref T0 ∧ H T0 = some (.tup [v]) ∧ scope.names.lookup x = some .local ∧
       ∀ u : Value, ∃ k, bindArgs (PySem.W.kdv_fn "<lambda>" (X.env.qual ++ "<lambda>") params (.expr body) scope (clos X scope) (.ref T0) doc pm (.ref c') ctv) ⟨[], []⟩ = seqItems? (.ref T0) >>= k ∧ k (some #[u]) = pure [(x, u)]))
theorem LamAt.ext {X : Cx} {params : Arguments} {body : Expr} {scope : Scope} {H H' : Hp} {f c' : Addr} (L : LamAt X params body scope H f c') (g : ExtN H H') : LamAt X params body scope H' f c' := by
  obtain ⟨dV, doc, pm, ctv, h1, h2, h3⟩ := L.ex
  refine ⟨dV, doc, pm, ctv, g _ _ h1 (fun ps z => by cases z), g _ _ h2 codeO_ne, ?_⟩
  rcases h3 with h3 | ⟨T0, v, x, e1, e2, e3⟩
  · exact .inl h3
  · exact .inr ⟨T0, v, x, e1, g _ _ e2 (fun ps z => by cases z), e3⟩
theorem LamAt.code {X : Cx} {params : Arguments} {body : Expr} {scope : Scope} {H : Hp} {f c' : Addr} (L : LamAt X params body scope H f c') : H c' = some (CodeO c' (X.env.qual ++ "<lambda>")) := by
  obtain ⟨dV, doc, pm, ctv, h1, h2, h3⟩ := L.ex
  exact h2
section
variable {X : Cx} {pins : List (Addr × Obj)} {σ : L2.St} {H : Hp} {s : Shared}
/-- the function is made and known from now on -/
theorem mk_tailT {M : Model} {A : Around} {T : List (Addr × Str)} {c P : Addr} {params : Arguments} {body : Expr} {scope : Scope} {pos : Pos} {dV : Value} {E : Value → Shared → Prop} {Q : Value → Shared → Prop} (I : Inv X pins σ H s) (TB : TabB X.base X.mg c P) (hcode : X.env.code = .ref c)
    (hm : (P, X.env.qual ++ "<lambda>") ∈ T) (hu : ∀ p ∈ T, p.1 = P → p.2 = X.env.qual ++ "<lambda>") (hT : Tabs T H) (hfree : ∀ y ∈ scope.names, y.2 = .free → ∃ c, X.env.cells.lookup y.1 = some c)
    (h : ∀ (f c' : Addr) (doc pm ctv : Value) (H1 : Hp) (s' : Shared), Inv X pins σ H1 s' → ExtN H H1 → Tabs T H1 →
      H1 f = some (LfO X f params body scope dV doc pm c' ctv) → H1 c' = some (CodeO c' (X.env.qual ++ "<lambda>")) → Q (.ref f) s') :
    wpAny M A (makeTail "<lambda>" (X.env.qual ++ "<lambda>") params (.expr body) scope X.env dV .none none pos pos.line) Q E s := by
  obtain ⟨ps, hP, ht, ha⟩ := hT _ hm
  have bP : s.heap.BuiltinsAt X.mg P := TB.bm.keeps I.bk
  have gP : s.heap.get? P = some { cls := .none, data := .fields ps } := I.hok P _ hP
  cases hc : codeAmong pos ps.toList with
  | some cv =>
    obtain ⟨c', e, hco⟩ := ha pos cv hc
    subst e
    refine PySem.W.kdv_makeTailHit (mg := X.mg) (c := c) (P := P) (ps := ps) (closure_ok hfree) I.ok.glob (I.mod.glob.keeps I.bk) hcode (TB.code.keeps I.bk) gP ht hc bP fun ctv doc h' tk hx hsz => ?_
    have nF : H h'.objs.size = none := I.hok.fresh hsz
    have e0 : (h'.push (lamO X params body scope dV doc ((X.mg "__name__").getD .none) c' ctv)).get? h'.objs.size = some (lamO X params body scope dV doc ((X.mg "__name__").getD .none) c' ctv) := Heap.get?_push_size _ rfl
    have I1 : Inv X pins σ (upd H h'.objs.size (LfO X h'.objs.size params body scope dV doc ((X.mg "__name__").getD .none) c' ctv)) { s with heap := h'.push (lamO X params body scope dV doc ((X.mg "__name__").getD .none) c' ctv), toks := tk } :=
      I.laid (fun b o e => Heap.get?_push_of_some _ (hx b o e)) hsz ⟨e0, ⟨_, e0⟩⟩
    have eN : ∀ b o, H b = some o → upd H h'.objs.size (LfO X h'.objs.size params body scope dV doc ((X.mg "__name__").getD .none) c' ctv) b = some o := fun b o e => by
      rw [upd_ne (ne_of_none e nF)]
      exact e
    exact h h'.objs.size c' doc ((X.mg "__name__").getD .none) ctv _ _ I1 (.of eN) (hT.ext eN) upd_same (eN _ _ hco)
  | none =>
    refine PySem.W.kdv_makeTail (mg := X.mg) (c := c) (P := P) (ps := ps) (closure_ok hfree) I.ok.glob (I.mod.glob.keeps I.bk) hcode (TB.code.keeps I.bk) gP ht hc TB.gP bP fun c' ctv doc h' tk hx hge hlt hrec htb => ?_
    obtain ⟨c2, oc, vs, t, e2, hoc, hd, hv⟩ := hrec
    cases e2
    have grow : s.heap.objs.size ≤ h'.objs.size := Nat.le_trans hge (Nat.le_of_lt hlt)
    have nC : H c' = none := I.hok.fresh hge
    have I0 := inv_table (t' := tk) (more := #[rawInt pos.line, rawInt pos.col, .ref c']) (h' := h') I hP (fun b o hb e => hx b o hb e) htb hge ⟨oc, vs, t, hoc, hd, hv⟩
    have far : ∀ {b : Addr} {o : HO}, H b = some o → (∀ ps, o ≠ .tbl ps) → b ≠ P := fun e n z => by
      rw [z, hP] at e
      exact n ps (Option.some.inj e).symm
    have ext : ExtN H (upd (upd H P (.tbl (ps ++ #[rawInt pos.line, rawInt pos.col, .ref c']))) c' (CodeO c' (X.env.qual ++ "<lambda>"))) := fun b o e n => by
      rw [upd_ne (ne_of_none e nC), upd_ne (far e n)]
      exact e
    have lst : (ps ++ #[rawInt pos.line, rawInt pos.col, .ref c']).toList = ps.toList ++ [rawInt pos.line, rawInt pos.col, .ref c'] := by simp
    have T0 : Tabs T (upd (upd H P (.tbl (ps ++ #[rawInt pos.line, rawInt pos.col, .ref c']))) c' (CodeO c' (X.env.qual ++ "<lambda>"))) := fun p hp => by
      by_cases hb : p.1 = P
      · rw [hu p hp hb, hb]
        refine ⟨_, by rw [upd_ne (ne_of_none hP nC), upd_same], by rw [lst]; exact PySem.TriplesOk_snoc _ _ _ _ ht, fun p' cv hcv => ?_⟩
        rw [lst] at hcv
        rcases among_app _ ht hcv with z | z
        · obtain ⟨c0, e1, e2⟩ := ha p' cv z
          exact ⟨c0, e1, ext _ _ e2 codeO_ne⟩
        · exact ⟨c', z, upd_same⟩
      · obtain ⟨ps', a1, a2, a3⟩ := hT p hp
        refine ⟨ps', by rw [upd_ne (ne_of_none a1 nC), upd_ne hb]; exact a1, a2, fun p' cv hcv => ?_⟩
        obtain ⟨c0, e1, e2⟩ := a3 p' cv hcv
        exact ⟨c0, e1, ext _ _ e2 codeO_ne⟩
    have hco1 : (upd (upd H P (.tbl (ps ++ #[rawInt pos.line, rawInt pos.col, .ref c']))) c' (CodeO c' (X.env.qual ++ "<lambda>"))) c' = some (CodeO c' (X.env.qual ++ "<lambda>")) := upd_same
    generalize upd (upd H P (.tbl (ps ++ #[rawInt pos.line, rawInt pos.col, .ref c']))) c' (CodeO c' (X.env.qual ++ "<lambda>")) = H0 at I0 ext T0 hco1
    have nF : H0 h'.objs.size = none := I0.hok.fresh (Nat.le_refl _)
    have e0 : (h'.push (lamO X params body scope dV doc ((X.mg "__name__").getD .none) c' ctv)).get? h'.objs.size = some (lamO X params body scope dV doc ((X.mg "__name__").getD .none) c' ctv) := Heap.get?_push_size _ rfl
    have I1 : Inv X pins σ (upd H0 h'.objs.size (LfO X h'.objs.size params body scope dV doc ((X.mg "__name__").getD .none) c' ctv)) { s with heap := h'.push (lamO X params body scope dV doc ((X.mg "__name__").getD .none) c' ctv), toks := tk } :=
      I0.laid (t' := tk) (fun b o e => Heap.get?_push_of_some _ e) (Nat.le_refl _) ⟨e0, ⟨_, e0⟩⟩
    have eN : ∀ b o, H0 b = some o → upd H0 h'.objs.size (LfO X h'.objs.size params body scope dV doc ((X.mg "__name__").getD .none) c' ctv) b = some o := fun b o e => by
      rw [upd_ne (ne_of_none e nF)]
      exact e
    exact h h'.objs.size c' doc ((X.mg "__name__").getD .none) ctv _ _ I1 (ext.trans (.of eN)) (T0.ext eN) upd_same (eN _ _ hco1)
/-- what a lambda's value is read as -/
def tLamE (T : List (Addr × Str)) (R : Hp → Addr → Addr → Prop) : TE := fun σ H Q => Tabs T H ∧ ∀ f c' H1, ExtN H H1 → Tabs T H1 → R H1 f c' → Q (.ref f) H1
end
section
variable {X : Cx} {T : List (Addr × Str)} {c P : Addr} {params : Arguments} {body : Expr} {scope : Scope} {pos : Pos}
/-- lambda: e -/
theorem pe_lamE (TB : TabB X.base X.mg c P) (hcode : X.env.code = .ref c)
    (hm : (P, X.env.qual ++ "<lambda>") ∈ T) (hu : ∀ p ∈ T, p.1 = P → p.2 = X.env.qual ++ "<lambda>") (hdef : defaultsOf params X.env = ([], [])) (L : LamD X.N X.env.scope scope)
    (hbind : ∀ (q : Str) (cl : List (Str × Addr)) (doc pm cv ctv : Value), bindArgs (PySem.W.kdv_fn "<lambda>" q params (.expr body) scope cl .none doc pm cv ctv) ⟨[], []⟩ = pure []) :
    PE X (.Lambda params body scope pos) (tLamE T (LamAt X params body scope)) := by
  refine ⟨fun pins s σ H Q I h => ?_⟩
  obtain ⟨hT, h⟩ := h
  refine PySem.W.kla_eval hdef ?_
  rw [makeFunction_eq]
  simp only [List.zip_nil_right, List.filterMap_nil, List.isEmpty_nil, if_true, pure_bind]
  exact mk_tailT I TB hcode hm hu hT (LamD.has L I.ok) fun f c' doc pm ctv H1 s' I1 eN T1 hf hco => ⟨.ref f, H1, I1, rfl, h f c' H1 eN T1 ⟨.none, doc, pm, ctv, hf, hco, .inl ⟨rfl, hbind _ _ _ _ _ _⟩⟩⟩
/-- lambda a=0: e -/
theorem pe_lamD {p0 : Pos} {j0 : Nat} {n : Int} {x : Str} (TB : TabB X.base X.mg c P) (hcode : X.env.code = .ref c)
    (hm : (P, X.env.qual ++ "<lambda>") ∈ T) (hu : ∀ p ∈ T, p.1 = P → p.2 = X.env.qual ++ "<lambda>") (hkw : params.kwonlyargs = []) (hdef : defaultsOf params X.env = ([eval (.Constant (.int n) j0 p0) X.env], [])) (L : LamD X.N X.env.scope scope)
    (hbind : ∀ (q : Str) (cl : List (Str × Addr)) (T0 : Addr) (doc pm cv ctv v : Value), ∃ k, bindArgs (PySem.W.kdv_fn "<lambda>" q params (.expr body) scope cl (.ref T0) doc pm cv ctv) ⟨[], []⟩ = seqItems? (.ref T0) >>= k ∧ k (some #[v]) = pure [(x, v)]) (hloc : scope.names.lookup x = some .local) :
    PE X (.Lambda params body scope pos) (tLamE T (LamAt X params body scope)) := by
  refine ⟨fun pins s σ H Q I h => ?_⟩
  obtain ⟨hT, h⟩ := h
  rw [arm_eval_Lambda, hdef]
  show wpAny _ _ (do let dv ← evalAll [eval (.Constant (.int n) j0 p0) X.env]; let kdv ← holding dv (evalAllOpt []); makeFunction "<lambda>" (X.env.qual ++ "<lambda>") params (.expr body) scope X.env dv kdv [] pos pos.line) _ _ s
  have hc : PE X (.Constant (.int n) j0 p0) (tC (.int n)) := pe_int
  refine wpAny_bind ?_
  unfold evalAll
  refine wpAny_bind (thn (hc.run pins s σ H (fun v H' => v = .int n ∧ H' = H) I ⟨rfl, rfl⟩) fun u s1 hh => ?_)
  obtain ⟨v, H', I1, r1, rfl, rfl⟩ := hh
  unfold evalAll
  refine wpAny_bind (wpAny_holding (wpAny_pure (wpAny_pure (wpAny_bind (wpAny_holding (wpAny_pure ?_))))))
  rw [makeFunction_eq, hkw]
  simp only [List.zip_nil_right, List.zip_nil_left, List.filterMap_nil, List.isEmpty_nil, List.isEmpty_cons, if_true, Bool.false_eq_true, if_false, pure_bind]
  refine wpAny_bind (wpAny_newTextTuple ?_)
  have g0 : (s1.heap.push (PySem.W.kdv_tup [u])).get? s1.heap.objs.size = some (PySem.W.kdv_tup [u]) := Heap.get?_push_size _ rfl
  have I2 : Inv X pins σ (upd H' s1.heap.objs.size (.tup [.int n])) { s1 with heap := s1.heap.push (PySem.W.kdv_tup [u]) } :=
    I1.laid (fun b o e => Heap.get?_push_of_some _ e) (Nat.le_refl _) ⟨by show 1 ≤ sizeLine; decide, [u], .cons r1 .nil, _, g0, rfl, _, rfl⟩
  have nF : H' s1.heap.objs.size = none := I1.hok.fresh (Nat.le_refl _)
  have eN : ∀ b o, H' b = some o → upd H' s1.heap.objs.size (.tup [.int n]) b = some o := fun b o e => by
    rw [upd_ne (ne_of_none e nF)]
    exact e
  have hT0 : (upd H' s1.heap.objs.size (.tup [.int n])) s1.heap.objs.size = some (.tup [.int n]) := upd_same
  generalize s1.heap.objs.size = T0 at *
  refine mk_tailT I2 TB hcode hm hu (hT.ext eN) (LamD.has L I2.ok) fun f c' doc pm ctv H1 s' I3 e3 T3 hf hco => ?_
  exact ⟨.ref f, H1, I3, rfl, h f c' H1 ((ExtN.of eN).trans e3) T3 ⟨.ref T0, doc, pm, ctv, hf, hco, .inr ⟨T0, .int n, x, rfl, e3 _ _ hT0 (fun ps z => by cases z), hloc, fun v => hbind _ _ _ _ _ _ _ _⟩⟩⟩
end
section
variable {X : Cx} {pins : List (Addr × Obj)} {σ : L2.St} {H : Hp} {s : Shared}
/-- x(), in the def that got the lambda at last -/
theorem pe_actT {CXg : CXT} {Eg : XK} {Ng : List Str} {qg : Str} {sg : Scope} {g f c' : Addr} {cdg : Value} {params : Arguments} {body : Expr} {scope : Scope} {k i : Nat} {a : Str} {pn : List (Addr × Obj)} {xe : Value → Shared → Prop} {W : WX} {tb : XK → TE} {p1 p2 : Pos}
    {A2 : Around} {outer2 : List Env} {s3 : Shared} {H3 : Hp}
    (I : Inv X pins σ H s) (L : LamD X.N X.env.scope scope) (M : LamAt X params body scope H f c')
    (un3 : ∀ HZ h1, Un (frs outer2) [] H3 HZ s3.heap h1 → Un (frs X.stack) [] H HZ s.heap h1)
    (tk : Takes ((cxOf CXg X.prog X.w X.K X.mg X.base Ng qg sg g cdg A2 outer2 s3 H3 Eg).tr pn xe) W) (hr : Room (k + 1) (A2.deeper (envOfC qg sg s3.heap.objs.size g cdg)))
    (hbody : ∀ (A : Around) (outer : List Env) (s : Shared) (H : Hp) (E : XK), Room k (A.deeper (lamEnv X scope s.heap.objs.size f c')) → PE (lamCx X A outer s H E scope f c') body (tb E))
    (hN : Ng[i]? = some a) (hv : Vis sg a) (hd : (a == ("__debug__" : Str)) = false := by decide) (hcd : (a == ("__classdict__" : Str)) = false := by decide) :
    PE ((cxOf CXg X.prog X.w X.K X.mg X.base Ng qg sg g cdg A2 outer2 s3 H3 Eg).tr pn xe) (.Call (.Name a p1) [] [] p2)
      (fun σZ HZ Q => σZ[i]? = some (some (.ref f)) ∧ HZ c' = some (CodeO c' (X.env.qual ++ "<lambda>")) ∧ ∃ E : XK, (∀ cls d H', E cls d H' → W cls d σZ H') ∧ tb E σ HZ Q) := by
  refine ⟨fun pinsZ sZ σZ HZ Q IZ h => ?_⟩
  obtain ⟨hs, hc, E, hW, ht⟩ := h
  refine wpAny_Call_Name_kw (thn ((pe_var (pos := p1) (i := i) hN hv hd hcd).run pinsZ sZ σZ HZ (fun v H1 => v = .ref f ∧ H1 = HZ) IZ ⟨.ref f, hs, rfl, rfl⟩) fun u s1 hh => ?_)
  obtain ⟨v, H1, I1, r1, ev, eH⟩ := hh
  subst ev
  rw [eH] at I1
  obtain rfl : u = Value.ref f := r1
  have un : Un (frs X.stack) [] H HZ s.heap s1.heap := un3 _ _ I1.base
  obtain ⟨dV, doc, pm, ctv, hf, _, hb0⟩ := M.ex
  have of1 : s1.heap.get? f = some (lamO X params body scope dV doc pm c' ctv) := (I1.hok f _ (un.frzs f _ _ hf)).1
  refine PySem.W.callWith_F0 ⟨_, _, _, _, of1⟩ ?_
  obtain ⟨⟨oc, vs, t, hoc, hdc, hvc⟩, _, _⟩ := I1.hok c' _ hc
  have hbnd : ∃ bs : List (Str × Value), BindsTo s1 (PySem.W.kdv_fn "<lambda>" (X.env.qual ++ "<lambda>") params (.expr body) scope (clos X scope) dV doc pm (.ref c') ctv) ⟨[], []⟩ bs ∧ ∀ y ∈ bs, scope.names.lookup y.1 = some .local := by
    rcases hb0 with ⟨e, hb⟩ | ⟨T0, v, x, e, hT0, hx, hb⟩
    · subst e
      exact ⟨[], .of_eq hb, fun y hy => absurd hy (by simp)⟩
    · subst e
      obtain ⟨hl, its, rv, o, ho, _, n, hd⟩ := I1.hok T0 _ (un.tups T0 _ hT0)
      cases rv with
      | cons r0 rn =>
        cases rn
        rename_i u0
        obtain ⟨k, b1, b2⟩ := hb u0
        refine ⟨[(x, u0)], BindsTo.of_defaults (o := o) rfl ho hd b1 b2, fun y hy => ?_⟩
        rw [List.mem_singleton] at hy
        subst hy
        exact hx
  obtain ⟨bs, hbind, hloc⟩ := hbnd
  have rc : codeAny (model X.prog X.w) (A2.deeper (envOfC qg sg s3.heap.objs.size g cdg)) (.call (.ref f) ⟨[], []⟩) (CR (L2.CX X.prog X.w) (envOfC qg sg s3.heap.objs.size g cdg :: outer2) X.prog X.w HZ s1 Q E) s1 := by
    refine PySem.W.kla_callFunE hr.depth of1 rfl L.co L.gen rfl ⟨c', oc, vs, t, rfl, hoc, hdc, hvc⟩ (hbind _ _ _ _ ?_)
    refine wpAny_newFunctionEnv (fun y hy => (L.own y hy).1) hloc (fun h1 hns hsb => ⟨I1.nolimit.fresh _ hsb, ?_⟩) L.kind
    show codeAny _ _ (.expr body (lamEnv X scope s1.heap.objs.size f c')) _ _
    have kp : ∀ b o, s1.heap.get? b = some o → h1.get? b = some o := fun b o e => hsb.extBut b o (Nat.ne_of_lt (Heap.lt_size e)) (Heap.get?_push_of_some _ e)
    have J : Inv (lamCx X (A2.deeper (envOfC qg sg s3.heap.objs.size g cdg)) (envOfC qg sg s3.heap.objs.size g cdg :: outer2) s1 HZ E scope f c') [] σ HZ { s1 with heap := h1, toks := s1.toks + bs.length } :=
      lamW_start I L I1.env0 hr.hd un hns kp
    refine PySem.W.kla_codeExpr (wpAny_mono ((hbody _ _ s1 HZ E (hr.deeper _)).run [] _ _ HZ Q J ht) (fun v s' hq => ?_) fun e s' hq => hq)
    obtain ⟨w', H', J', rv, q⟩ := hq
    exact ⟨w', H', J'.os, J'.bare, J'.base, J'.hok, rv, q⟩
  refine wpAny_call (codeAny_mono rc fun r s' hq => ?_)
  match r, hq with
  | .error e, hq => exact tk e s' (XE.of_call I1 hW hq)
  | .ok (.ret u), hq => exact I1.after hq
  | .ok .next, hq => exact hq.elim
  | .ok .brk, hq => exact hq.elim
  | .ok .cont, hq => exact hq.elim
end
section
variable {X : Cx}
/-- g(l), in the def that got the lambda l in slot 0 -/
theorem pe_outVT {pins : List (Addr × Obj)} {σ : L2.St} {H : Hp} {s : Shared} {TT : (XK → Hp → VK → Prop) → Hp → VK → Prop} {x a a2 x2 : Str} {g f c' g2 : Addr} {k : Nat} {st : Stmt} {fd : FuncData} {Ng N2 : List Str} {cdg cd2 : Value} {sc2 : Scope}
    {params : Arguments} {body : Expr} {scope : Scope} {t : XK → TE} {p p3 pos : Pos} (I : Inv X pins σ H s) (L : LamD X.N X.env.scope scope) (M : LamAt X params body scope H f c')
    (hg : Gl (cxOf CX0 X.prog X.w X.K X.mg X.base N2 x2 sc2 g2 cd2 X.A X.stack s H E0).nox x) (hm : X.mg x = some (.ref g)) (hk : PySem.W.keepIn X.K (.ref g) = true) (F : Fun X.K x x st g fd) (hcd : fd.code = cdg) (hb : L2.Binds X.K fd [a] []) (Sg : FnScope Ng [a] (defScope st)) (hNg : Ng[0]? = some a) (hva : Vis (defScope st) a)
    (hG : Gives (cxOf CX0 X.prog X.w X.K X.mg X.base N2 x2 sc2 g2 cd2 X.A X.stack s H E0).nox Ng x (defScope st) g cdg (defBody st) a (X.env.qual ++ "<lambda>") TT)
    (hr : Room (k + 2) (X.A.deeper (envOfC x2 sc2 s.heap.objs.size g2 cd2))) (hN2 : N2[0]? = some a2) (hv2 : Vis sc2 a2)
    (hbody : ∀ (A : Around) (outer : List Env) (s : Shared) (H : Hp) (E : XK), Room k (A.deeper (lamEnv X scope s.heap.objs.size f c')) → PE (lamCx X A outer s H E scope f c') body (t E))
    (hdb : (x == ("__debug__" : Str)) = false := by decide) (hd : (a == ("__debug__" : Str)) = false := by decide) (hcc : (a == ("__classdict__" : Str)) = false := by decide) (hd2 : (a2 == ("__debug__" : Str)) = false := by decide) (hcc2 : (a2 == ("__classdict__" : Str)) = false := by decide) :
    PE (cxOf CX0 X.prog X.w X.K X.mg X.base N2 x2 sc2 g2 cd2 X.A X.stack s H E0).nox (.Call (.Name x p) [.Name a2 p3] [] pos) (tOutV f c' (X.env.qual ++ "<lambda>") TT (fun E H' Q' => t E σ H' Q')) := by
  refine ⟨fun pins2 s2 σ2 H2 Q I2 h => ?_⟩
  obtain ⟨hs, hc, h⟩ := h
  obtain ⟨oc, od, kV, doc0, pm0, an, cdv, ct, osl, rfl, lk, hcg⟩ := F.ex
  obtain rfl : cdv = cdg := hcd
  refine wpAny_Call_Name_kw (ld_glob I2 hg hm ?_ hdb)
  refine PySem.W.callWith_K (h₀ := X.base) I2.ok.mod.kin hk ?_ (by rfl) (by rfl)
  refine Calls.spliced_cons (thn ((pe_var (pos := p3) (i := 0) hN2 hv2 hd2 hcc2).run pins2 _ σ2 H2 (fun v H1 => v = .ref f ∧ H1 = H2) I2 ⟨.ref f, hs, rfl, rfl⟩) fun u s3 hh => ?_)
  obtain ⟨v, H1, I3, r1, ev, eH⟩ := hh
  subst ev
  rw [eH] at I3
  obtain rfl : u = Value.ref f := r1
  refine Calls.spliced_nil ⟨I3.kIn, ?_⟩
  have un1 : Un (frs X.stack) [] H H2 s.heap s3.heap := I3.base
  have un3 : ∀ HZ h1, Un (frs (envOfC x2 sc2 s.heap.objs.size g2 cd2 :: X.stack)) [] H2 HZ s3.heap h1 → Un (frs X.stack) [] H HZ s.heap h1 := fun HZ h1 u => by
    refine un_in un1 u (fun b hb => ?_) fun b o q hb => ?_
    · unfold frs at hb ⊢
      rw [List.filterMap_cons]
      split
      · exact hb
      · exact List.mem_cons_of_mem _ hb
    · unfold frs at hb
      rw [List.filterMap_cons] at hb
      split at hb
      · exact hb
      · rename_i w e
        rcases List.mem_cons.mp hb with z | z
        · have e2 : w = s.heap.objs.size := (Option.some.inj e).symm
          rw [z, e2] at q
          exact absurd (Heap.lt_size q) (Nat.lt_irrefl _)
        · exact z
  have rc : codeAny (model X.prog X.w) (X.A.deeper (envOfC x2 sc2 s.heap.objs.size g2 cd2)) (.call (.ref g) ⟨[.ref f], []⟩) (CR CX0 (envOfC x2 sc2 s.heap.objs.size g2 cd2 :: X.stack) X.prog X.w H2 s3 Q E0) s3 := by
    refine run_ofS (N := Ng) (ps := [a]) (us := [.ref f]) (vs := [.ref f]) lk hcg Sg hr I3.env0 (hb s3 [.ref f] I3.kIn rfl) (.cons rfl .nil) rfl fun hr' => ?_
    have act : ∀ (W : WX) (pn : List (Addr × Obj)) (xe : Value → Shared → Prop) (p1 p2 : Pos), Takes ((cxOf CX0 X.prog X.w X.K X.mg X.base Ng x (defScope st) g cdv (X.A.deeper (envOfC x2 sc2 s.heap.objs.size g2 cd2)) (envOfC x2 sc2 s.heap.objs.size g2 cd2 :: X.stack) s3 H2 E0).tr pn xe) W →
        PE ((cxOf CX0 X.prog X.w X.K X.mg X.base Ng x (defScope st) g cdv (X.A.deeper (envOfC x2 sc2 s.heap.objs.size g2 cd2)) (envOfC x2 sc2 s.heap.objs.size g2 cd2 :: X.stack) s3 H2 E0).tr pn xe) (.Call (.Name a p1) [] [] p2) (fun σZ HZ Q => σZ[0]? = some (some (.ref f)) ∧ HZ c' = some (CodeO c' (X.env.qual ++ "<lambda>")) ∧ ∃ E : XK, (∀ cls d H', E cls d H' → W cls d σZ H') ∧ t E σ HZ Q) :=
      fun W pn xe p1 p2 tk => pe_actT (CXg := CX0) (Eg := E0) (Ng := Ng) (qg := x) (sg := defScope st) (g := g) (cdg := cdv) (A2 := X.A.deeper (envOfC x2 sc2 s.heap.objs.size g2 cd2)) (outer2 := envOfC x2 sc2 s.heap.objs.size g2 cd2 :: X.stack) (s3 := s3) (H3 := H2) (i := 0) (k := k) (tb := t) I L M un3 tk hr' hbody hNg hva hd hcc
    obtain ⟨t', ht', hq'⟩ := hG f c' s3 H2 Q (fun E H' Q' => t E σ H' Q') (hr'.mono (by omega)) act hc h
    exact ⟨t', ht'.nox, hq'⟩
  refine wpAny_call (codeAny_mono rc fun r s2 hq => ?_)
  match r, hq with
  | .error e, hq => exact (show False from hq).elim
  | .ok (.ret u), hq => exact I3.after hq
  | .ok .next, hq => exact hq.elim
  | .ok .brk, hq => exact hq.elim
  | .ok .cont, hq => exact hq.elim
/-- x2(l, es), l any expression that gives a lambda made here -/
def tLamV (R : Hp → Addr → Addr → Prop) (TT2 : (XK → Hp → VK → Prop) → List V → Hp → VK → Prop) (n : Nat) (te0 : TE) (t : XK → TE) (ta : TA) : TE := fun σ H Q => te0 σ H fun v H1 => ∃ f c', v = .ref f ∧ ta σ H1 (fun ws H2 => ws.length = n ∧ R H2 f c' ∧ TT2 (fun E H' Q' => t E σ H' Q') ws H2 Q)
theorem pe_outT2 {TT : (XK → Hp → VK → Prop) → Hp → VK → Prop} {TT2 : (XK → Hp → VK → Prop) → List V → Hp → VK → Prop} {x a x2 a2 : Str} {g g2 : Addr} {k n : Nat} {st st2 : Stmt} {fd fd2 : FuncData} {Ng N2 ps2 : List Str} {cdg cd2 : Value}
    {params : Arguments} {body : Expr} {scope : Scope} {te0 : TE} {t : XK → TE} {ta : TA} {e0 : Expr} {es : List Expr} {p pos : Pos}
    (hg2 : Gl X x2) (hm2 : X.mg x2 = some (.ref g2)) (hk2 : PySem.W.keepIn X.K (.ref g2) = true) (F2 : Fun X.K x2 x2 st2 g2 fd2) (hcd2 : fd2.code = cd2) (hb2 : L2.Binds X.K fd2 (a2 :: ps2) []) (Sg2 : FnScope N2 (a2 :: ps2) (defScope st2)) (hN2 : N2[0]? = some a2) (hv2 : Vis (defScope st2) a2) (hn : ps2.length = n)
    (hm : X.mg x = some (.ref g)) (hk : PySem.W.keepIn X.K (.ref g) = true) (F : Fun X.K x x st g fd) (hcd : fd.code = cdg) (hb : L2.Binds X.K fd [a] []) (Sg : FnScope Ng [a] (defScope st)) (hNg : Ng[0]? = some a) (hva : Vis (defScope st) a)
    (hgl : ∀ (s : Shared) (H : Hp), Gl (cxOf CX0 X.prog X.w X.K X.mg X.base N2 x2 (defScope st2) g2 cd2 X.A X.stack s H E0).nox x)
    (hG : ∀ (s : Shared) (H : Hp), Gives (cxOf CX0 X.prog X.w X.K X.mg X.base N2 x2 (defScope st2) g2 cd2 X.A X.stack s H E0).nox Ng x (defScope st) g cdg (defBody st) a (X.env.qual ++ "<lambda>") TT)
    (hG2 : Gives2 X (k + 2) N2 x2 (defScope st2) g2 cd2 (defBody st2) x a2 (X.env.qual ++ "<lambda>") TT TT2)
    (h0 : PE X e0 te0) (hr : Room (k + 3) X.A) (L : LamD X.N X.env.scope scope)
    (hbody : ∀ (A : Around) (outer : List Env) (s : Shared) (H : Hp) (E : XK) (f c' : Addr), Room k (A.deeper (lamEnv X scope s.heap.objs.size f c')) → PE (lamCx X A outer s H E scope f c') body (t E))
    (ha : PA X es ta)
    (hdb2 : (x2 == ("__debug__" : Str)) = false := by decide) (hdb : (x == ("__debug__" : Str)) = false := by decide) (hd : (a == ("__debug__" : Str)) = false := by decide) (hcc : (a == ("__classdict__" : Str)) = false := by decide) (hd2 : (a2 == ("__debug__" : Str)) = false := by decide) (hcc2 : (a2 == ("__classdict__" : Str)) = false := by decide)
    (he : starEach (e0 :: es) X.env = (false, eval e0 X.env) :: starEach es X.env := by rfl) (hpl : (backTo pos (starEach es X.env)).any (·.1) = false := by rfl) :
    PE X (.Call (.Name x2 p) (e0 :: es) [] pos) (tLamV (LamAt X params body scope) TT2 n te0 t ta) := by
  refine ⟨fun pins s σ H Q I h => ?_⟩
  obtain ⟨oc, od, kV, doc0, pm0, an, cdv, ct, osl, rfl, lk, hcg⟩ := F2.ex
  obtain rfl : cdv = cd2 := hcd2
  refine wpAny_Call_Name_kw (ld_glob I hg2 hm2 ?_ hdb2)
  refine PySem.W.callWith_K (h₀ := X.base) I.ok.mod.kin hk2 ?_ he hpl
  rw [he]
  show wpAny _ _ (spliced ((false, eval e0 X.env) :: backTo pos (starEach es X.env))) _ _ s
  refine Calls.spliced_cons (thn (h0.run pins s σ H _ I h) fun u0 s1 hh => ?_)
  obtain ⟨v0, H1, I1, r0, f, c', ev0, q0⟩ := hh
  subst ev0
  obtain rfl : u0 = Value.ref f := r0
  refine thn (ha.run pos pins s1 σ H1 _ I1 q0) fun us s2 ⟨ws, H2, I2', r2, hwl, M2, q2⟩ => ⟨I2'.kIn, ?_⟩
  have rr : Vals (.ref f :: ws) (.ref f :: us) := .cons rfl r2
  have rc : codeAny (model X.prog X.w) X.A (.call (.ref g2) ⟨.ref f :: us, []⟩) (CR CX0 X.stack X.prog X.w H2 s2 Q E0) s2 := by
    have hlen : (Value.ref f :: us).length = (a2 :: ps2).length := by
      rw [List.length_cons, List.length_cons, ← r2.length, hwl, hn]
    have hlen2 : (V.ref f :: ws).length = (a2 :: ps2).length := by
      rw [List.length_cons, List.length_cons, hwl, hn]
    refine run_ofS (N := N2) (ps := a2 :: ps2) (us := .ref f :: us) (vs := .ref f :: ws) lk hcg Sg2 hr I2'.env0 (by simpa using hb2 s2 (.ref f :: us) I2'.kIn (by simpa using hlen)) rr hlen2 fun hr' => ?_
    obtain ⟨t', ht', hq'⟩ := hG2 f c' ws s2 H2 Q (fun E H' Q' => t E σ H' Q') hr' (fun p p3 pos => pe_outVT (k := k) I2' L M2 (hgl s2 H2) hm hk F hcd hb Sg hNg hva (hG s2 H2) hr' hN2 hv2 (fun A outer s H E hr2 => hbody A outer s H E f c' hr2) hdb hd hcc hd2 hcc2) M2.code q2
    exact ⟨t', ht'.nox, hq'⟩
  refine wpAny_call (codeAny_mono rc fun r s2 hq => ?_)
  match r, hq with
  | .error e, hq => exact (show False from hq).elim
  | .ok (.ret u), hq => exact I2'.after hq
  | .ok .next, hq => exact hq.elim
  | .ok .brk, hq => exact hq.elim
  | .ok .cont, hq => exact hq.elim
theorem pe_outT2L {TT : (XK → Hp → VK → Prop) → Hp → VK → Prop} {TT2 : (XK → Hp → VK → Prop) → List V → Hp → VK → Prop} {x a x2 a2 : Str} {g g2 : Addr} {k n : Nat} {st st2 : Stmt} {fd fd2 : FuncData} {Ng N2 ps2 : List Str} {cdg cd2 : Value}
    {params : Arguments} {body : Expr} {scope : Scope} {te0 : TE} {t : XK → TE} {ta : TA} {es : List Expr} {p pos lpos : Pos}
    (hg2 : Gl X x2) (hm2 : X.mg x2 = some (.ref g2)) (hk2 : PySem.W.keepIn X.K (.ref g2) = true) (F2 : Fun X.K x2 x2 st2 g2 fd2) (hcd2 : fd2.code = cd2) (hb2 : L2.Binds X.K fd2 (a2 :: ps2) []) (Sg2 : FnScope N2 (a2 :: ps2) (defScope st2)) (hN2 : N2[0]? = some a2) (hv2 : Vis (defScope st2) a2) (hn : ps2.length = n)
    (hm : X.mg x = some (.ref g)) (hk : PySem.W.keepIn X.K (.ref g) = true) (F : Fun X.K x x st g fd) (hcd : fd.code = cdg) (hb : L2.Binds X.K fd [a] []) (Sg : FnScope Ng [a] (defScope st)) (hNg : Ng[0]? = some a) (hva : Vis (defScope st) a)
    (hgl : ∀ (s : Shared) (H : Hp), Gl (cxOf CX0 X.prog X.w X.K X.mg X.base N2 x2 (defScope st2) g2 cd2 X.A X.stack s H E0).nox x)
    (hG : ∀ (s : Shared) (H : Hp), Gives (cxOf CX0 X.prog X.w X.K X.mg X.base N2 x2 (defScope st2) g2 cd2 X.A X.stack s H E0).nox Ng x (defScope st) g cdg (defBody st) a (X.env.qual ++ "<lambda>") TT)
    (hG2 : Gives2 X (k + 2) N2 x2 (defScope st2) g2 cd2 (defBody st2) x a2 (X.env.qual ++ "<lambda>") TT TT2)
    (h0 : PE X (.Lambda params body scope lpos) te0) (hr : Room (k + 3) X.A) (L : LamD X.N X.env.scope scope)
    (hbody : ∀ (A : Around) (outer : List Env) (s : Shared) (H : Hp) (E : XK) (f c' : Addr), Room k (A.deeper (lamEnv X scope s.heap.objs.size f c')) → PE (lamCx X A outer s H E scope f c') body (t E))
    (ha : PA X es ta)
    (hdb2 : (x2 == ("__debug__" : Str)) = false := by decide) (hdb : (x == ("__debug__" : Str)) = false := by decide) (hd : (a == ("__debug__" : Str)) = false := by decide) (hcc : (a == ("__classdict__" : Str)) = false := by decide) (hd2 : (a2 == ("__debug__" : Str)) = false := by decide) (hcc2 : (a2 == ("__classdict__" : Str)) = false := by decide)
    (he : starEach (.Lambda params body scope lpos :: es) X.env = (false, eval (.Lambda params body scope lpos) X.env) :: starEach es X.env := by rfl) (hpl : (backTo pos (starEach es X.env)).any (·.1) = false := by rfl) :
    PE X (.Call (.Name x2 p) (.Lambda params body scope lpos :: es) [] pos) (tLamV (LamAt X params body scope) TT2 n te0 t ta) :=
  pe_outT2 hg2 hm2 hk2 F2 hcd2 hb2 Sg2 hN2 hv2 hn hm hk F hcd hb Sg hNg hva hgl hG hG2 h0 hr L hbody ha hdb2 hdb hd hcc hd2 hcc2 he hpl
/-- one of two readings -/
theorem PE.or {e : Expr} {t1 t2 : TE} (h1 : PE X e t1) (h2 : PE X e t2) : PE X e (fun σ H Q => t1 σ H Q ∨ t2 σ H Q) := ⟨fun pins s σ H Q I h => h.elim (h1.run pins s σ H Q I) (h2.run pins s σ H Q I)⟩
end
/-- o.m(k = v) -/
def tMethK (C : Addr) (m : Str) (sp : Sp) (gV : List V → List V → List V) (n : Nat) (E : XK) (ta : TE) (tk : TA) : TE := fun σ H Q => ta σ H fun x H1 => ∃ a dx fs, x = .ref a ∧ H1 a = some (.ins C dx fs) ∧ fs.lookup m = none ∧
  tk σ H1 fun zs H2 => zs.length = n ∧ sp (gV [x] zs) H2 Q E
section
variable {X : Cx} {CX : CXT} {k : Nat} {f C : Addr} {fd : FuncData} {ps ks : List Str} {sp : Sp} {E : XK} {m : Str} {p pos apos : Pos} {o : Expr} {kws : List Keyword} {ta : TE} {tk : TA} {g : List Value → List Value → List Value} {gV : List V → List V → List V}
theorem pe_methK {pl : Sem Bool} (he : PE X o ta) (c : Cls X.K C) (hm : Meth X.K C m f) (F : FnOk X.prog X.w X.K X.mg X.base CX k f fd ps sp) (hr : Room k X.A) (hb : KBn X.K fd ps 1 ks g gV) (hx : Passes CX X E) (hkw : PK X kws tk)
    (hall : (backToKw pos (keywordEach kws X.env)).all (·.1.isSome) = true := by rfl) (hks : (backToKw pos (keywordEach kws X.env)).filterMap (·.1) = ks := by rfl)
    (hpl : ((backTo pos (starEach [] X.env)).any (·.1) || (backToKw pos (keywordEach kws X.env)).any (·.1.isNone)) = false := by rfl)
    (ht : eval (.Call (.Attribute o m apos) [] kws pos) X.env = (do
      let ov ← eval o X.env
      standAt apos.atName
      let (f, first) ← holding [ov] (getMethod ov m pl)
      callWith pos f first (backTo pos (starEach [] X.env)) (backToKw pos (keywordEach kws X.env))) := by rfl) :
    PE X (.Call (.Attribute o m apos) [] kws pos) (tMethK C m sp gV ks.length E ta tk) := by
  refine ⟨fun pins s σ H Q I h => ?_⟩
  refine PySem.W.methodCall_KW (pl := pl) (thn (he.run pins s σ H _ I h) fun u s1 ⟨x, H1, I1, rx, a, dx, fs, ex, ea, l, q⟩ => ?_) ht
  subst ex
  obtain rfl : u = Value.ref a := rx
  refine getmeth_ok I1 ea c hm l ?_
  refine PySem.W.callWith_KW0 (first := [.ref a]) (h₀ := X.base) I.ok.mod.kin hm.kp hall ?_ hpl
  refine thn (hkw.run pos pins s1 σ H1 _ I1 q) fun ws s2 ⟨zs, H2, I2, rz, l2, q2⟩ => ⟨I2.kIn, ?_⟩
  rw [hks]
  exact run_fnN (us := [.ref a]) (vs := [.ref a]) F hr hb hx I2 (.cons rfl .nil) rz rfl l2 q2
end
section
variable {X : Cx} {CX : CXT} {k : Nat} {C g : Addr} {fd : FuncData} {ps : List Str} {sp : Sp} {E : XK}
/-- o(e), which may raise -/
def tCallIX (C : Addr) (sp : Sp) (E : XK) (tf : TE) (t : TA) : TE := fun σ H Q => tf σ H fun y H1 => ∃ a, y = V.ref a ∧ t σ H1 fun vs H2 => (∃ dx fs, H2 a = some (.ins C dx fs)) ∧ sp (V.ref a :: vs) H2 Q E
theorem pe_callIX {fe e : Expr} {es : List Expr} {tf : TE} {t : TA} {pos : Pos} (hf : PE X fe tf) (c : StX.CallO X.K C g) (F : FnOk X.prog X.w X.K X.mg X.base CX k g fd ps sp) (hr : Room k X.A) (hb : Binds X.K fd ps []) (hx : Passes CX X E) (ha : PA X (e :: es) t)
    (ht : eval (.Call fe (e :: es) [] pos) X.env = (do callWith pos (← eval fe X.env) [] (backTo pos (starEach (e :: es) X.env)) (backToKw pos (keywordEach [] X.env))) := by rfl)
    (he : starEach (e :: es) X.env = (false, eval e X.env) :: starEach es X.env := by rfl) (hpl : (backTo pos (starEach es X.env)).any (·.1) = false := by rfl) : PE X (.Call fe (e :: es) [] pos) (tCallIX C sp E tf t) := by
  refine ⟨fun pins s σ H Q I h => ?_⟩
  refine Call_ (thn (hf.run pins s σ H _ I h) fun u s1 ⟨y, H1, I1, ry, a, ey, q⟩ => ?_) ht
  subst ey
  obtain rfl : u = Value.ref a := ry
  refine StX.callO_with (thn (ha.run pos pins s1 σ H1 _ I1 q) fun us s2 ⟨vs, H2, I2, r, ⟨dx, fs, ea⟩, q2⟩ => ?_) he hpl
  obtain ⟨mA, O, _⟩ := ins_get I2.hok ea
  obtain ⟨od, J, _⟩ := O.look
  refine ⟨⟨C, _, od, J, rfl⟩, ?_⟩
  have rr : Vals (V.ref a :: vs) (Value.ref a :: us) := .cons rfl r
  have hl : (Value.ref a :: us).length = ps.length := by rw [← rr.length]; exact F.len _ _ _ _ q2
  refine wpAny_call (PySem.W.kco_code I2.kIn J rfl c.at_ c.fn c.fi (codeAny_mono (F.run X.A X.stack s2 H2 ⟨.ref a :: us, []⟩ (.ref a :: us) (.ref a :: vs) Q E hr I2.env0 (by simpa using hb s2 (.ref a :: us) I2.kIn (by simpa using hl)) rr q2) fun z s' hq => ?_))
  match z, hq with
  | .error e, hq => exact hx _ _ _ _ _ _ I2 hq
  | .ok (.ret u), hq => exact I2.after hq
  | .ok .next, hq => exact hq.elim
  | .ok .brk, hq => exact hq.elim
  | .ok .cont, hq => exact hq.elim
end
/-! the text's parts -/
def lamP : Expr → Arguments
  | .Lambda p _ _ _ => p
  | _ => default
def lamB : Expr → Expr
  | .Lambda _ b _ _ => b
  | e => e
def lamS : Expr → Scope
  | .Lambda _ _ s _ => s
  | _ => default
def tupAt : Expr → Nat → Expr
  | .Tuple es .., k => es.getD k (.Constant .none default default)
  | e, _ => e
def forIter : Stmt → Expr
  | .For (iter := i) .. => i
  | _ => .Constant .none default default
def forBody : Stmt → List Stmt
  | .For (body := b) .. => b
  | _ => []
end Wn
/-! try: .. except (A, B, C): return a text; d.get(k) of a written dict; a local that holds one of several defs that may raise -/
namespace Wn
open PySem PySem.Spec PyProof.Rows L2
def wRet3 (K : PySem.W.Frag) (cs : List Value) (v : V) (D : Ends) : WX := fun cls d σ H => PySem.W.exmAny K cls cs = some true ∧ D.rt v H
section
variable {X : Cx} {x1 x2 x3 : Str} {c1 c2 c3 : Addr} {body : List Stmt} {q1 q2 q3 qt pr pz pos pos' : Pos} {kt j0 : Nat} {tb : WX → TS} {z : Str}
theorem ps_try_ret3 (hs : X.stack = X.env :: X.outer) (hf : X.env.frame = some X.env.locals) (hc : Names3 X x1 x2 x3 c1 c2 c3)
    (hb : ∀ (W : WX) (pn : List (Addr × Obj)) (xe : Value → Shared → Prop), Takes (X.tr pn xe) W → PassesOwn (model X.prog X.w) X.A X.env xe → PSs (X.tr pn xe) body (tb W)) :
    PS X (.Try body [.ExceptHandler (some (.Tuple [.Name x1 q1, .Name x2 q2, .Name x3 q3] kt qt)) none [.Return (some (.Constant (.str z) j0 pz)) pr] pos'] [] [] pos) (fun D σ H => tb (wRet3 X.K [.ref c1, .ref c2, .ref c3] (.str z) D) D σ H) := by
  refine ⟨fun pins s σ H D I h => ?_⟩
  have ok := I.ok
  have hfr : X.A.frames = some (X.env :: X.outer) := by rw [ok.frames, hs]
  refine wpAny_Try_except ?_
  refine wpAny_mono ((hb (wRet3 X.K [.ref c1, .ref c2, .ref c3] (.str z) D) (X.pn ++ pins) (fun e s₁ => wpAny (model X.prog X.w) X.A (noteFrame e X.env) (fun _ s₂ => wpAny (model X.prog X.w) X.A (setFlight e none) (fun _ s₃ =>
    wpAny (model X.prog X.w) X.A (handleBy e X.env [.ExceptHandler (some (.Tuple [.Name x1 q1, .Name x2 q2, .Name x3 q3] kt qt)) none [.Return (some (.Constant (.str z) j0 pz)) pr] pos']) (SP X pins D) X.xe s₃) X.xe s₂) X.xe s₁) (fun u s' xx => ?_) PassesOwn.looking).run [] s σ H D (I.toTry _) h) (fun f s1 hsp => ?_) (fun e s1 he => he)
  · obtain ⟨a, B, sI, pins', σ', H', cls, d, rfl, J', nb, up, sky, na, os, ag, hb1, hyes⟩ := xx
    have J : Inv X pins σ' H' sI := J'.ofTry ok
    have sky2 : Sky B (X.env :: X.outer) a (Zc cls d) X.env.locals s'.heap := by
      rw [← hs]
      exact sky
    show wpAny (model X.prog X.w) X.A (noteFrame (.ref a) X.env) _ _ _
    refine Sky.land Zc.steady hfr hf sky2 fun h3 fl3 up3 => ?_
    have J3 : Inv X pins σ' H' { s' with heap := h3 } := J.landed nb fl3.1 (up.trans up3) os ag
    obtain ⟨oe3, vs3, he3, hz3, hd3⟩ := fl3.there
    have nfr : a ∉ frs (X.env :: X.outer) := fun hm => by
      obtain ⟨_, o', e', hnf⟩ := fl3.2.2.1.mem hm
      rw [he3] at e'
      cases e'
      exact hnf _ hd3
    have nL : a ≠ X.env.locals := fun z => nfr (List.mem_filterMap.mpr ⟨X.env, List.mem_cons_self, by rw [hf, z]⟩)
    have nF : a ∉ X.fs := fun hm => by
      obtain ⟨e, he, q⟩ := List.mem_filterMap.mp hm
      exact nfr (List.mem_filterMap.mpr ⟨e, List.mem_cons_of_mem _ he, q⟩)
    have S3 := J3.suite he3 hd3 na nL nF
    refine wpAny_handleBy_cons (codeAny_handlers_test ?_) (by intro q; cases q)
    have LT : PySem.W.Looks (model X.prog X.w) h3 (typeOf (.ref a)) cls := fun A Q E s k q => wpAny_typeOf_ref (k _ _ he3) (by rw [hz3.1]; exact q)
    refine wpAny_Tuple ?_
    refine wpAny_items_cons (ld_glob (X := X.suite a ((a, oe3) :: (X.pn ++ pins))) S3 hc.n1.1 hc.n1.2.2 ?_ hc.n1.2.1)
    refine wpAny_items_cons (ld_glob (X := X.suite a ((a, oe3) :: (X.pn ++ pins))) S3 hc.n2.1 hc.n2.2.2 ?_ hc.n2.2.1)
    refine wpAny_items_cons (ld_glob (X := X.suite a ((a, oe3) :: (X.pn ++ pins))) S3 hc.n3.1 hc.n3.2.2 ?_ hc.n3.2.1)
    refine wpAny_items_nil ⟨by size_fits, ?_⟩
    obtain ⟨G, hG⟩ : ∃ G, G = h3.push { cls := .type "tuple", data := .seq [.ref c1, .ref c2, .ref c3].toArray } := ⟨_, rfl⟩
    have kp : ∀ b o, h3.get? b = some o → G.get? b = some o := fun _ _ z => by
      rw [hG]
      exact Heap.get?_push_of_some _ z
    have gt : G.get? h3.objs.size = some { cls := .type "tuple", data := .seq [.ref c1, .ref c2, .ref c3].toArray } := by
      rw [hG]
      exact Heap.get?_push_size h3 rfl
    rw [← hG]
    refine (PySem.W.exm_tup3 (M := model X.prog X.w) (J3.kIn.keeps kp) (LT.keeps kp) gt hb1).here ?_
    have fl4 := flying_keep kp fl3
    have upG : h3.UpToSlots G := Heap.UpToSlots.of_keeps kp
    refine codeAny_handlers_suite ?_
    refine PySem.HandSPX.lands_againZ fl4 fun h4 fl5 up4 => ?_
    have J4 : Inv X pins σ' H' { s' with heap := h4 } := J.landed nb fl5.1 (((up.trans up3).trans upG).trans up4) os ag
    obtain ⟨oe4, vs4, he4, hz4, hd4⟩ := fl5.there
    have S4 := J4.suite he4 hd4 na nL nF
    have hp : PSs (X.suite a ((a, oe4) :: (X.pn ++ pins))) [.Return (some (.Constant (.str z) j0 pz)) pr] (tRet (tC (.str z))) := pss_one (ps_ret pe_str)
    refine wpAny_mono (hp.run [] _ _ H' { nx := fun _ _ => False, rt := D.rt } S4 hyes) (fun f s6 hsp => ?_) (fun _ _ z => False.elim z)
    cases f with
    | next =>
      obtain ⟨σ6, H6, S6, q6⟩ := hsp
      exact q6.elim
    | brk =>
      obtain ⟨σ6, H6, S6, q6⟩ := hsp
      exact q6.elim
    | cont =>
      obtain ⟨σ6, H6, S6, q6⟩ := hsp
      exact q6.elim
    | ret u =>
      obtain ⟨v6, σ6, H6, S6, r6, q6⟩ := hsp
      exact ⟨_, _, _, S6.unsuite ok, r6, q6⟩
  · cases f with
    | next =>
      obtain ⟨σ', H', J, q⟩ := hsp
      exact wpAny_execs_nil ⟨σ', H', J.ofTry ok, q⟩
    | brk =>
      obtain ⟨σ', H', J, q⟩ := hsp
      exact ⟨σ', H', J.ofTry ok, q⟩
    | cont =>
      obtain ⟨σ', H', J, q⟩ := hsp
      exact ⟨σ', H', J.ofTry ok, q⟩
    | ret u =>
      obtain ⟨v, σ', H', J, rv, q⟩ := hsp
      exact ⟨v, σ', H', J.ofTry ok, rv, q⟩
end
/-! d.get(k) of a written dict with text keys -/
def KD (K : PySem.W.Frag) (w : World) (p : Addr) : Prop := ∃ es n, K.lookup p = some ⟨.type "dict", none, .dict es n, #[]⟩ ∧ PySem.W.KeysLit w.params es.toList ∧ (p == sysModules) = false
def KVal (K : PySem.W.Frag) (p : Addr) (z : Str) (o : Option V) : Prop := match o with
  | none => PySem.W.nsIn K p z = some none
  | some v => ∃ u, PySem.W.nsIn K p z = some (some u) ∧ RelV v u
def tKGet (K : PySem.W.Frag) (w : World) (td ty : TE) : TE := fun σ H Q => td σ H fun x H1 => ∃ p, x = .ref p ∧ KD K w p ∧ ty σ H1 fun y H2 => ∃ z o, y = .str z ∧ KVal K p z o ∧ Q (o.getD .non) H2
section
variable {X : Cx} {o e : Expr} {apos cpos : Pos} {td ty : TE}
theorem pe_kget1 (ho : PE X o td) (he : PE X e ty) (m : M1 X o "get" apos e cpos) : PE X (.Call (.Attribute o "get" apos) [e] [] cpos) (tKGet X.K X.w td ty) := by
  refine ⟨fun pins s σ H Q I h => ?_⟩
  refine wpAny_Call_method m.base m.few m.line PySem.F.plainAttrs_dict PySem.F.slot_dict_get PySem.F.type_dict_get (thn (ho.run pins s σ H _ I h) fun u s1 ⟨x, H1, I1, rx, p, ex, ⟨es, n, hl, hk, hm⟩, q1⟩ => ?_)
  subst ex
  obtain rfl : u = Value.ref p := rx
  have hm1 := PySem.W.mapOf_K (prog := X.prog) (w := X.w) I1.kIn hl hk
  refine ⟨hm1.typeIs, fun b q => ?_, ?_⟩
  · cases q
    exact ⟨_, I1.kIn _ _ hl, rfl⟩
  rw [m.trees]
  refine Calls.callWith_builtin rfl (Calls.evalArgs_plain (Calls.spliced_cons (thn (he.run pins s1 σ H1 _ I1 q1) fun iv s2 ⟨y, H2, I2, ry, z, ov, ey, kv, q2⟩ => Calls.spliced_nil ?_)))
  subst ey
  obtain ⟨t, rfl⟩ := (show ∃ t, iv = Value.str z t from ry)
  have hm2 := PySem.W.mapOf_K (prog := X.prog) (w := X.w) I2.kIn hl hk
  refine call_meetsIn PySem.F.slot_dict_get hm2.typeIs PySem.F.entry_dict_get (PySem.F.args_dict_get_2 _ _) (meets_dict_get (strKind X.prog X.w) p (strKind_is X.prog X.w z t) hm) ⟨_, hm2, ?_⟩
  cases ov with
  | none =>
    rw [PySem.W.find_K hl kv]
    exact ⟨.non, H2, I2.tok _, rfl, q2⟩
  | some v =>
    obtain ⟨u, e1, r1⟩ := kv
    rw [PySem.W.find_K hl e1]
    exact ⟨v, H2, I2.tok _, r1, q2⟩
end
/-! a local that holds one of several defs -/
structure HeldX (P : Program) (w : World) (K : PySem.W.Frag) (mg : Str → Option Value) (base : Heap) (CX : CXT) (k : Nat) (f : Addr) (sp : Sp) : Prop where
  ex : ∃ (fd : FuncData) (ps : List Str), FnOk P w K mg base CX k f fd ps sp ∧ PySem.W.keepIn K (.ref f) = true ∧ Binds K fd ps []
def tCallAS (i : Nat) (S : Addr → Sp → Prop) (E : L2.St → XK) (t : TA) : TE := fun σ H Q => ∃ f sp, σ[i]? = some (some (.ref f)) ∧ S f sp ∧ t σ H fun vs H1 => sp vs H1 Q (E σ)
section
variable {X : Cx} {CX : CXT} {k i : Nat} {E : L2.St → XK} {x : Str} {p pos : Pos} {e : Expr} {es : List Expr} {t : TA}
theorem pe_callAS {S : Addr → Sp → Prop} (A : ∀ f sp, S f sp → HeldX X.prog X.w X.K X.mg X.base CX k f sp) (hr : Room k X.A) (hN : X.N[i]? = some x) (hv : Vis X.env.scope x) (hx : ∀ σ, PassesAt CX X σ (E σ)) (ha : PA X (e :: es) t)
    (hdb : (x == ("__debug__" : Str)) = false := by decide) (hcd : (x == ("__classdict__" : Str)) = false := by decide)
    (he : starEach (e :: es) X.env = (false, eval e X.env) :: starEach es X.env := by rfl) (hpl : (backTo pos (starEach es X.env)).any (·.1) = false := by rfl) : PE X (.Call (.Name x p) (e :: es) [] pos) (tCallAS i S E t) := by
  refine ⟨fun pins s σ H Q I h => ?_⟩
  obtain ⟨f, sp, hs, hS, ht⟩ := h
  obtain ⟨fd, ps, F, hk, hb⟩ := (A f sp hS).ex
  refine wpAny_Call_Name_kw (thn ((pe_var (pos := p) hN hv hdb hcd).run pins s σ H (fun v H1 => v = .ref f ∧ H1 = H) I ⟨.ref f, hs, rfl, rfl⟩) fun u s1 ⟨v, H1, I1, r1, q1⟩ => ?_)
  obtain ⟨rfl, rfl⟩ := q1
  cases r1
  refine PySem.W.callWith_K (h₀ := X.base) I.ok.mod.kin hk (thn (ha.run pos pins s1 σ _ _ I1 ht) fun us s2 ⟨vs, H2, I2, r, q⟩ => ⟨I2.kIn, ?_⟩) he hpl
  exact run_fnS F hr hb (hx σ) I2 r q
end
/-! both what a def does where it does not raise, and where it does -/
theorem FnOk.or {P : Program} {w : World} {K : PySem.W.Frag} {mg : Str → Option Value} {base : Heap} {k j : Nat} {f : Addr} {fd : FuncData} {ps : List Str} {sp1 sp2 : Sp} (F1 : FnOk P w K mg base CX0 k f fd ps sp1) (F2 : FnOk P w K mg base (L2.CX P w) j f fd ps sp2) :
    FnOk P w K mg base (L2.CX P w) (max k j) f fd ps (fun vs H Q E => sp1 vs H Q E0 ∨ sp2 vs H Q E) := by
  refine ⟨fun vs H Q E h => h.elim (F1.len vs H Q E0) (F2.len vs H Q E), fun A outer s H args us vs Q E hr e0 hb hv h => ?_⟩
  rcases h with h | h
  · refine codeAny_mono (F1.run A outer s H args us vs Q E0 (hr.mono (Nat.le_max_left _ _)) e0 hb hv h) fun r s' hq => ?_
    match r, hq with
    | .error e, hq => exact (show False from hq).elim
    | .ok (.ret u), hq => exact hq
    | .ok .next, hq => exact hq
    | .ok .brk, hq => exact hq
    | .ok .cont, hq => exact hq
  · exact F2.run A outer s H args us vs Q E (hr.mono (Nat.le_max_right _ _)) e0 hb hv h
section
variable {X : Cx} {e : Expr} {ta : TE} {f : Str} {pos : Pos} {K' : PySem.W.Frag}
theorem pe_fldT (hK : X.K = K') (he : PE X e ta) (hb : attributeBase e f X.env (eval e X.env) = eval e X.env) : PE X (.Attribute e f pos) (tFld K' ta f) := by
  subst hK
  exact pe_fld he hb
end
end Wn
/-! d.get(k, x) of a written dict; written tuples as facts of the end -/
namespace Wn
open PySem PySem.Spec PyProof.Rows L2
def tKGet2 (K : PySem.W.Frag) (w : World) (td ty tx : TE) : TE := fun σ H Q => td σ H fun x H1 => ∃ p, x = .ref p ∧ KD K w p ∧ ty σ H1 fun y H2 => tx σ H2 fun z0 H3 => ∃ z o, y = .str z ∧ KVal K p z o ∧ Q (o.getD z0) H3
section
variable {X : Cx} {o e f : Expr} {apos cpos : Pos} {td ty tx : TE}
theorem pe_kget2 (ho : PE X o td) (he : PE X e ty) (hf : PE X f tx) (m : M2 X o "get" apos e f cpos) : PE X (.Call (.Attribute o "get" apos) [e, f] [] cpos) (tKGet2 X.K X.w td ty tx) := by
  refine ⟨fun pins s σ H Q I h => ?_⟩
  refine wpAny_Call_method m.base m.few m.line PySem.F.plainAttrs_dict PySem.F.slot_dict_get PySem.F.type_dict_get (thn (ho.run pins s σ H _ I h) fun u s1 ⟨x, H1, I1, rx, p, ex, ⟨es, n, hl, hk, hm⟩, q1⟩ => ?_)
  subst ex
  obtain rfl : u = Value.ref p := rx
  have hm1 := PySem.W.mapOf_K (prog := X.prog) (w := X.w) I1.kIn hl hk
  refine ⟨hm1.typeIs, fun b q => ?_, ?_⟩
  · cases q
    exact ⟨_, I1.kIn _ _ hl, rfl⟩
  rw [m.trees]
  refine Calls.callWith_builtin rfl (Calls.evalArgs_plain (Calls.spliced_cons (thn (he.run pins s1 σ H1 _ I1 q1) fun iv s2 ⟨y, H2, I2, ry, q2⟩ =>
    Calls.spliced_cons (thn (hf.run pins s2 σ H2 _ I2 q2) fun fv s3 ⟨z0, H3, I3, rz, z, ov, ey, kv, q3⟩ => Calls.spliced_nil ?_))))
  subst ey
  obtain ⟨t, rfl⟩ := (show ∃ t, iv = Value.str z t from ry)
  have hm2 := PySem.W.mapOf_K (prog := X.prog) (w := X.w) I3.kIn hl hk
  refine call_meetsIn PySem.F.slot_dict_get hm2.typeIs PySem.F.entry_dict_get (PySem.F.args_dict_get_3 _ _ _) (meets_dict_get_default (strKind X.prog X.w) p (strKind_is X.prog X.w z t) hm fv) ⟨_, hm2, ?_⟩
  cases ov with
  | none =>
    rw [PySem.W.find_K hl kv]
    exact ⟨z0, H3, I3.tok _, rz, q3⟩
  | some v =>
    obtain ⟨u, e1, r1⟩ := kv
    rw [PySem.W.find_K hl e1]
    exact ⟨v, H3, I3.tok _, r1, q3⟩
end
/-- the address that a written dict has at a text -/
def kAt (K : PySem.W.Frag) (p : Addr) (z : Str) : Addr := match PySem.W.nsIn K p z with
  | some (some (.ref a)) => a
  | _ => 0
/-- the address that a written tuple has at a place -/
def tAtK (K : PySem.W.Frag) (p : Addr) (i : Nat) : Addr := match K.lookup p with
  | some ⟨_, _, .seq its _, _⟩ => (match its.toList[i]? with | some (.ref a) => a | _ => 0)
  | _ => 0
def seqB (K : PySem.W.Frag) (a : Addr) (xs : List V) : Bool := match K.lookup a with
  | some ⟨.type "tuple", none, .seq its _, _⟩ => decide (its.size ≤ 100) && He.relAll xs its.toList
  | _ => false
theorem seqB_ok {K : PySem.W.Frag} {a : Addr} {xs : List V} (h : seqB K a xs = true) (H : Hp) : SqT K H a xs := by
  unfold seqB at h
  split at h
  · rename_i its n sl q
    rw [Bool.and_eq_true] at h
    exact .inr ⟨_, its, n, q, rfl, rfl, Nat.le_trans (of_decide_eq_true h.1) (by show 100 ≤ 16777216; decide), He.relAll_ok h.2⟩
  · cases h
section
variable {K : PySem.W.Frag} {w : World}
structure WDict (K : PySem.W.Frag) (w : World) (p : Addr) (rows : List (Str × V)) : Prop where
  ex : ∃ es n, K.lookup p = some ⟨.type "dict", none, .dict es n, #[]⟩ ∧ (p == sysModules) = false ∧ Paired (fun (e : DictEntry) (r : Str × V) => (∃ t, e.key = .str r.1 t) ∧ e.hash = PyData.keyHash w.params r.1 ∧ RelV r.2 e.val) es.toList rows
theorem keysLit_of {w : World} : ∀ {es : List DictEntry} {rows : List (Str × V)}, Paired (fun (e : DictEntry) (r : Str × V) => (∃ t, e.key = .str r.1 t) ∧ e.hash = PyData.keyHash w.params r.1 ∧ RelV r.2 e.val) es rows → PySem.W.KeysLit w.params es
  | _, _, .nil => True.intro
  | _, _, .cons ⟨⟨t, h1⟩, h2, _⟩ r => ⟨⟨_, t, h1, h2⟩, keysLit_of r⟩
theorem find_of {w : World} {z : Str} : ∀ {es : List DictEntry} {rows : List (Str × V)}, Paired (fun (e : DictEntry) (r : Str × V) => (∃ t, e.key = .str r.1 t) ∧ e.hash = PyData.keyHash w.params r.1 ∧ RelV r.2 e.val) es rows →
    (rows.lookup z = none → es.find? (·.key.isStr z) = none ∧ es.any (·.refKey) = false) ∧ (∀ v, rows.lookup z = some v → ∃ e, es.find? (·.key.isStr z) = some e ∧ RelV v e.val)
  | _, _, .nil => ⟨fun _ => ⟨rfl, rfl⟩, fun v h => by cases h⟩
  | e :: es, (k, u) :: rows, .cons ⟨⟨t, h1⟩, h2, h3⟩ r => by
    obtain ⟨ih1, ih2⟩ := find_of (z := z) r
    have he : e.key.isStr z = (k == z) := by rw [h1]; rfl
    have hr : e.refKey = false := by unfold DictEntry.refKey; rw [h1]
    by_cases hz : k = z
    · subst hz
      refine ⟨fun h => ?_, fun v h => ?_⟩
      · rw [List.lookup_cons, beq_self_eq_true] at h
        cases h
      · rw [List.lookup_cons, beq_self_eq_true] at h
        cases h
        refine ⟨e, ?_, h3⟩
        rw [List.find?_cons, he, beq_self_eq_true]
    · have hz1 : (z == k) = false := beq_eq_false_iff_ne.mpr (Ne.symm hz)
      have hz2 : (k == z) = false := beq_eq_false_iff_ne.mpr hz
      refine ⟨fun h => ?_, fun v h => ?_⟩
      · rw [List.lookup_cons, hz1] at h
        obtain ⟨a1, a2⟩ := ih1 h
        refine ⟨?_, ?_⟩
        · rw [List.find?_cons, he, hz2]
          exact a1
        · rw [List.any_cons, hr, a2]
          rfl
      · rw [List.lookup_cons, hz1] at h
        obtain ⟨e2, a1, a2⟩ := ih2 v h
        refine ⟨e2, ?_, a2⟩
        rw [List.find?_cons, he, hz2]
        exact a1
theorem WDict.kd {p : Addr} {rows : List (Str × V)} (h : WDict K w p rows) : KD K w p := by
  obtain ⟨es, n, h1, h2, h3⟩ := h.ex
  exact ⟨es, n, h1, keysLit_of h3, h2⟩
theorem WDict.val {p : Addr} {rows : List (Str × V)} (h : WDict K w p rows) (z : Str) : KVal K p z (rows.lookup z) := by
  obtain ⟨es, n, h1, h2, h3⟩ := h.ex
  obtain ⟨f1, f2⟩ := find_of (z := z) h3
  cases hr : rows.lookup z with
  | none =>
    obtain ⟨a1, a2⟩ := f1 hr
    show PySem.W.nsIn K p z = some none
    unfold PySem.W.nsIn
    rw [h1]
    dsimp only
    rw [a1]
    dsimp only
    rw [a2]
    rfl
  | some v =>
    obtain ⟨e, a1, a2⟩ := f2 v hr
    refine ⟨e.val, ?_, a2⟩
    unfold PySem.W.nsIn
    rw [h1]
    dsimp only
    rw [a1]
theorem WDict.at {p : Addr} {rows : List (Str × V)} (h : WDict K w p rows) {z : Str} {v : V} (e : rows.lookup z = some v) : KDct K w p z v := by
  obtain ⟨es, n, h1, h2, h3⟩ := h.ex
  have k := h.val z
  rw [e] at k
  obtain ⟨u, k1, k2⟩ := k
  exact ⟨es, n, u, h1, keysLit_of h3, k1, k2⟩
end
end Wn
namespace Wn
open PySem PySem.Spec PyProof.Rows L2
def bsH0 (K : PySem.W.Frag) : List Bool := [decide (PySem.W.nsIn K mainGlobals "is_integer" = some (some (.ref (He.ga K "is_integer")))),
  decide (PySem.W.nsIn K mainGlobals "is_within" = some (some (.ref (He.ga K "is_within")))),
  decide (PySem.W.nsIn K mainGlobals "need_base" = some (some (.ref (He.ga K "need_base")))),
  decide (PySem.W.nsIn K mainGlobals "need_denominator" = some (some (.ref (He.ga K "need_denominator")))),
  decide (PySem.W.nsIn K mainGlobals "pure_part" = some (some (.ref (He.ga K "pure_part")))),
  decide (PySem.W.nsIn K mainGlobals "period" = some (some (.ref (He.ga K "period")))),
  decide (PySem.W.nsIn K mainGlobals "head_size" = some (some (.ref (He.ga K "head_size")))),
  decide (PySem.W.nsIn K mainGlobals "power" = some (some (.ref (He.ga K "power")))),
  decide (PySem.W.nsIn K mainGlobals "power_rest" = some (some (.ref (He.ga K "power_rest")))),
  decide (PySem.W.nsIn K mainGlobals "prime_powers" = some (some (.ref (He.ga K "prime_powers")))),
  decide (PySem.W.nsIn K mainGlobals "spaced" = some (some (.ref (He.ga K "spaced")))),
  decide (PySem.W.nsIn K mainGlobals "is_balanced_with" = some (some (.ref (He.ga K "is_balanced_with")))),
  decide (PySem.W.nsIn K mainGlobals "is_fact" = some (some (.ref (He.ga K "is_fact")))),
  decide (PySem.W.nsIn K mainGlobals "need_facts" = some (some (.ref (He.ga K "need_facts")))),
  decide (PySem.W.nsIn K mainGlobals "residue_count" = some (some (.ref (He.ga K "residue_count")))),
  decide (PySem.W.nsIn K mainGlobals "holds" = some (some (.ref (He.ga K "holds"))))]
def bsH1 (K : PySem.W.Frag) : List Bool := [decide (PySem.W.nsIn K mainGlobals "satisfy" = some (some (.ref (He.ga K "satisfy")))),
  decide (PySem.W.nsIn K mainGlobals "is_satisfied" = some (some (.ref (He.ga K "is_satisfied")))),
  decide (PySem.W.nsIn K mainGlobals "denominators_by" = some (some (.ref (He.ga K "denominators_by")))),
  decide (PySem.W.nsIn K mainGlobals "bases_by" = some (some (.ref (He.ga K "bases_by")))),
  decide (PySem.W.nsIn K mainGlobals "_law_begun" = some (some (.ref (He.ga K "_law_begun")))),
  decide (PySem.W.nsIn K mainGlobals "_law_draw" = some (some (.ref (He.ga K "_law_draw")))),
  decide (PySem.W.nsIn K mainGlobals "_law_of" = some (some (.ref (He.ga K "_law_of")))),
  decide (PySem.W.nsIn K mainGlobals "_law_divisor" = some (some (.ref (He.ga K "_law_divisor")))),
  decide (PySem.W.nsIn K mainGlobals "_law_powers" = some (some (.ref (He.ga K "_law_powers")))),
  decide (PySem.W.nsIn K mainGlobals "_law_period" = some (some (.ref (He.ga K "_law_period")))),
  decide (PySem.W.nsIn K mainGlobals "_law_units" = some (some (.ref (He.ga K "_law_units")))),
  decide (PySem.W.nsIn K mainGlobals "_law_raised" = some (some (.ref (He.ga K "_law_raised")))),
  decide (PySem.W.nsIn K mainGlobals "_law_is_so" = some (some (.ref (He.ga K "_law_is_so")))),
  decide (PySem.W.nsIn K mainGlobals "_law_are_so" = some (some (.ref (He.ga K "_law_are_so")))),
  decide (PySem.W.nsIn K mainGlobals "_law_fact" = some (some (.ref (He.ga K "_law_fact")))),
  decide (PySem.W.nsIn K mainGlobals "_law_right" = some (some (.ref (He.ga K "_law_right"))))]
def bsH2 (K : PySem.W.Frag) : List Bool := [decide (PySem.W.nsIn K mainGlobals "_law_hand_right" = some (some (.ref (He.ga K "_law_hand_right")))),
  decide (PySem.W.nsIn K mainGlobals "law" = some (some (.ref (He.ga K "law")))),
  decide (PySem.W.nsIn K cStatics "sys.int_max_str_digits" = some none),
  decide (PySem.W.nsIn K mainGlobals "isinstance" = some none),
  decide (PySem.W.nsIn K mainGlobals "int" = some none),
  decide (PySem.W.nsIn K mainGlobals "bool" = some none),
  decide (PySem.W.nsIn K mainGlobals "str" = some none),
  decide (PySem.W.nsIn K mainGlobals "len" = some none),
  decide (PySem.W.nsIn K mainGlobals "range" = some none),
  decide (PySem.W.nsIn K mainGlobals "tuple" = some none),
  decide (PySem.W.nsIn K mainGlobals "sum" = some none),
  decide (PySem.W.nsIn K mainGlobals "max" = some none),
  decide (PySem.W.nsIn K mainGlobals "min" = some none),
  decide (PySem.W.nsIn K mainGlobals "repr" = some none),
  decide (PySem.W.nsIn K mainGlobals "enumerate" = some none),
  decide (PySem.W.nsIn K mainGlobals "all" = some none)]
def bsH3 (K : PySem.W.Frag) : List Bool := [decide (PySem.W.nsIn K mainGlobals "zip" = some none),
  decide (PySem.W.nsIn K mainGlobals "gcd" = some (some (.builtin "math.gcd"))),
  decide (PySem.W.nsIn K mainGlobals "RANGES" = some (some (.ref (He.ga K "RANGES")))),
  rowsB K (He.ga K "RANGES") [V.ref (kAt K (He.ga K "RANGES") "period"), V.ref (kAt K (He.ga K "RANGES") "head"), V.ref (kAt K (He.ga K "RANGES") "wheels"), V.ref (kAt K (He.ga K "RANGES") "power")],
  seqB K (kAt K (He.ga K "RANGES") "period") [V.ref (tAtK K (kAt K (He.ga K "RANGES") "period") 0)],
  seqB K (tAtK K (kAt K (He.ga K "RANGES") "period") 0) [V.int 1, V.int 5000],
  seqB K (kAt K (He.ga K "RANGES") "head") [V.ref (tAtK K (kAt K (He.ga K "RANGES") "head") 0)],
  seqB K (tAtK K (kAt K (He.ga K "RANGES") "head") 0) [V.int 0, V.int 20],
  seqB K (kAt K (He.ga K "RANGES") "wheels") [V.ref (tAtK K (kAt K (He.ga K "RANGES") "wheels") 0)],
  seqB K (tAtK K (kAt K (He.ga K "RANGES") "wheels") 0) [V.int 1, V.int 5000],
  seqB K (kAt K (He.ga K "RANGES") "power") [V.ref (tAtK K (kAt K (He.ga K "RANGES") "power") 0), V.ref (tAtK K (kAt K (He.ga K "RANGES") "power") 1)],
  seqB K (tAtK K (kAt K (He.ga K "RANGES") "power") 0) [V.int 0, V.int 1000000000000000000000000000000],
  seqB K (tAtK K (kAt K (He.ga K "RANGES") "power") 1) [V.int 0, V.int 4999],
  intB K "MOST_BASE" 1000,
  intB K "MOST_DENOMINATOR" 5000,
  intB K "MOST_FACTS" 10]
def bsH4 (K : PySem.W.Frag) : List Bool := [intB K "GREATEST_BOUND" 1000]
def bsH (K : PySem.W.Frag) : List Bool := bsH0 K ++ (bsH1 K ++ (bsH2 K ++ (bsH3 K ++ (bsH4 K))))
def fnH0 : List He5.DefA := [⟨fun K => He.fAd K ("is_integer", none), "is_integer", "is_integer", defArgs s_is_integer, defBody s_is_integer, defScope s_is_integer, [], []⟩,
  ⟨fun K => He.fAd K ("is_within", none), "is_within", "is_within", defArgs s_is_within, defBody s_is_within, defScope s_is_within, [], []⟩,
  ⟨fun K => He.fAd K ("need_base", none), "need_base", "need_base", defArgs s_need_base, defBody s_need_base, defScope s_need_base, [], []⟩,
  ⟨fun K => He.fAd K ("need_denominator", none), "need_denominator", "need_denominator", defArgs s_need_denominator, defBody s_need_denominator, defScope s_need_denominator, [], []⟩,
  ⟨fun K => He.fAd K ("pure_part", none), "pure_part", "pure_part", defArgs s_pure_part, defBody s_pure_part, defScope s_pure_part, [], []⟩,
  ⟨fun K => He.fAd K ("period", none), "period", "period", defArgs s_period, defBody s_period, defScope s_period, [], []⟩,
  ⟨fun K => He.fAd K ("head_size", none), "head_size", "head_size", defArgs s_head_size, defBody s_head_size, defScope s_head_size, [], []⟩,
  ⟨fun K => He.fAd K ("power", none), "power", "power", defArgs s_power, defBody s_power, defScope s_power, [], []⟩,
  ⟨fun K => He.fAd K ("power_rest", none), "power_rest", "power_rest", defArgs s_power_rest, defBody s_power_rest, defScope s_power_rest, [], []⟩,
  ⟨fun K => He.fAd K ("prime_powers", none), "prime_powers", "prime_powers", defArgs s_prime_powers, defBody s_prime_powers, defScope s_prime_powers, [], []⟩,
  ⟨fun K => He.fAd K ("spaced", none), "spaced", "spaced", defArgs s_spaced, defBody s_spaced, defScope s_spaced, [], []⟩,
  ⟨fun K => He.fAd K ("is_balanced_with", none), "is_balanced_with", "is_balanced_with", defArgs s_is_balanced_with, defBody s_is_balanced_with, defScope s_is_balanced_with, [], []⟩,
  ⟨fun K => He.fAd K ("is_fact", none), "is_fact", "is_fact", defArgs s_is_fact, defBody s_is_fact, defScope s_is_fact, [], []⟩,
  ⟨fun K => He.fAd K ("need_facts", none), "need_facts", "need_facts", defArgs s_need_facts, defBody s_need_facts, defScope s_need_facts, [], []⟩,
  ⟨fun K => He.fAd K ("residue_count", none), "residue_count", "residue_count", defArgs s_residue_count, defBody s_residue_count, defScope s_residue_count, [], []⟩,
  ⟨fun K => He.fAd K ("holds", none), "holds", "holds", defArgs s_holds, defBody s_holds, defScope s_holds, [], []⟩]
def fnH1 : List He5.DefA := [⟨fun K => He.fAd K ("satisfy", none), "satisfy", "satisfy", defArgs s_satisfy, defBody s_satisfy, defScope s_satisfy, [], []⟩,
  ⟨fun K => He.fAd K ("is_satisfied", none), "is_satisfied", "is_satisfied", defArgs s_is_satisfied, defBody s_is_satisfied, defScope s_is_satisfied, [], []⟩,
  ⟨fun K => He.fAd K ("denominators_by", none), "denominators_by", "denominators_by", defArgs s_denominators_by, defBody s_denominators_by, defScope s_denominators_by, [], []⟩,
  ⟨fun K => He.fAd K ("bases_by", none), "bases_by", "bases_by", defArgs s_bases_by, defBody s_bases_by, defScope s_bases_by, [], []⟩,
  ⟨fun K => He.fAd K ("_law_begun", none), "_law_begun", "_law_begun", defArgs s_law_begun, defBody s_law_begun, defScope s_law_begun, [], []⟩,
  ⟨fun K => He.fAd K ("_law_draw", none), "_law_draw", "_law_draw", defArgs s_law_draw, defBody s_law_draw, defScope s_law_draw, [], []⟩,
  ⟨fun K => He.fAd K ("_law_of", none), "_law_of", "_law_of", defArgs s_law_of, defBody s_law_of, defScope s_law_of, [], []⟩,
  ⟨fun K => He.fAd K ("_law_divisor", none), "_law_divisor", "_law_divisor", defArgs s_law_divisor, defBody s_law_divisor, defScope s_law_divisor, [], []⟩,
  ⟨fun K => He.fAd K ("_law_powers", none), "_law_powers", "_law_powers", defArgs s_law_powers, defBody s_law_powers, defScope s_law_powers, [], []⟩,
  ⟨fun K => He.fAd K ("_law_period", none), "_law_period", "_law_period", defArgs s_law_period, defBody s_law_period, defScope s_law_period, [], []⟩,
  ⟨fun K => He.fAd K ("_law_units", none), "_law_units", "_law_units", defArgs s_law_units, defBody s_law_units, defScope s_law_units, [], []⟩,
  ⟨fun K => He.fAd K ("_law_raised", none), "_law_raised", "_law_raised", defArgs s_law_raised, defBody s_law_raised, defScope s_law_raised, [], []⟩,
  ⟨fun K => He.fAd K ("_law_is_so", none), "_law_is_so", "_law_is_so", defArgs s_law_is_so, defBody s_law_is_so, defScope s_law_is_so, [], []⟩,
  ⟨fun K => He.fAd K ("_law_are_so", none), "_law_are_so", "_law_are_so", defArgs s_law_are_so, defBody s_law_are_so, defScope s_law_are_so, [], []⟩,
  ⟨fun K => He.fAd K ("_law_fact", none), "_law_fact", "_law_fact", defArgs s_law_fact, defBody s_law_fact, defScope s_law_fact, [], []⟩,
  ⟨fun K => He.fAd K ("_law_right", none), "_law_right", "_law_right", defArgs s_law_right, defBody s_law_right, defScope s_law_right, [], []⟩]
def fnH2 : List He5.DefA := [⟨fun K => He.fAd K ("_law_hand_right", none), "_law_hand_right", "_law_hand_right", defArgs s_law_hand_right, defBody s_law_hand_right, defScope s_law_hand_right, [], []⟩,
  ⟨fun K => He.fAd K ("law", none), "law", "law", defArgs s_law, defBody s_law, defScope s_law, [], []⟩]
def fnHa : List He5.DefA := fnH0 ++ (fnH1)
def fnHb : List He5.DefA := fnH2
def fnH : List He5.DefA := fnHa ++ fnHb
def tsH : List He.Tab := [(fun K => He.ga K "RANGES", ["period", "head", "wheels", "power"])]
def asksH : Asks := ⟨bsH, fnH, tsH⟩
abbrev RH : PySem.W.OpenRow := PySem.W.OpenLaw.row PySem.Challenge.rw_wheelnines_k47_whole_facts
abbrev qH : Program := PySem.W.view RH.prog [49]
def namesH0 : List Str := ["gcd", "WheelError", "BadBase", "BadDenominator", "BadNumber", "BadFacts", "MOST_BASE", "MOST_DENOMINATOR", "is_integer", "is_within", "need_base", "need_denominator", "pure_part", "period", "head_size", "power", "power_rest", "prime_powers", "spaced", "is_balanced_with", "MOST_FACTS", "GREATEST_BOUND", "RANGES", "is_fact"]
def namesH1 : List Str := ["need_facts", "residue_count", "holds", "satisfy", "is_satisfied", "denominators_by", "bases_by", "_law_begun", "_law_draw", "_law_of", "_law_divisor", "_law_powers", "_law_period", "_law_units", "_law_raised", "_law_is_so", "_law_are_so", "_law_fact", "_law_right", "_law_hand_right"]
def namesH : List Str := namesH0 ++ (namesH1)
abbrev hkH : PySem.W.Hook := hookW 900 asksH
def obH (s : PySem.W.SharedT) : AlW := obsWG 900 asksH (HandSHeadRun.getT s)
theorem obH_eq (s : PySem.W.SharedT) : obH s = hkH.obs s.abs := obsWG_eq (HandSHeadRun.getT_eq s)
theorem runFa (w : World) : RunGa RH qH 3000 9000 namesH (w.withFollow "special-get-raises" false) := by
  unfold RunGa
  kernel_rfl
theorem runFb1 (w : World) : RunGb RH (hookW 900 ⟨bsH, [], []⟩) (fun s => obsWG 900 ⟨bsH, [], []⟩ (HandSHeadRun.getT s)) 3000 9000 (w.withFollow "special-get-raises" false) := by
  unfold RunGb
  kernel_rfl
theorem runFb2 (w : World) : RunGb RH (hookW 900 ⟨fun _ => [], fnHa, tsH⟩) (fun s => obsWG 900 ⟨fun _ => [], fnHa, tsH⟩ (HandSHeadRun.getT s)) 3000 9000 (w.withFollow "special-get-raises" false) := by
  unfold RunGb
  kernel_rfl
theorem runFb3 (w : World) : RunGb RH (hookW 900 ⟨fun _ => [], fnHb, []⟩) (fun s => obsWG 900 ⟨fun _ => [], fnHb, []⟩ (HandSHeadRun.getT s)) 3000 9000 (w.withFollow "special-get-raises" false) := by
  unfold RunGb
  kernel_rfl
theorem runFb (w : World) : RunGb RH hkH obH 3000 9000 (w.withFollow "special-get-raises" false) := runGb_of3 (runFb1 w) (runFb2 w) (runFb3 w)
theorem runF (w : World) : RunG RH qH hkH obH 3000 9000 namesH (w.withFollow "special-get-raises" false) := runG_of (runFa w) (runFb w)
theorem runTa (w : World) : RunGa RH qH 3000 9000 namesH (w.withFollow "special-get-raises" true) := by
  unfold RunGa
  kernel_rfl
theorem runTb1 (w : World) : RunGb RH (hookW 900 ⟨bsH, [], []⟩) (fun s => obsWG 900 ⟨bsH, [], []⟩ (HandSHeadRun.getT s)) 3000 9000 (w.withFollow "special-get-raises" true) := by
  unfold RunGb
  kernel_rfl
theorem runTb2 (w : World) : RunGb RH (hookW 900 ⟨fun _ => [], fnHa, tsH⟩) (fun s => obsWG 900 ⟨fun _ => [], fnHa, tsH⟩ (HandSHeadRun.getT s)) 3000 9000 (w.withFollow "special-get-raises" true) := by
  unfold RunGb
  kernel_rfl
theorem runTb3 (w : World) : RunGb RH (hookW 900 ⟨fun _ => [], fnHb, []⟩) (fun s => obsWG 900 ⟨fun _ => [], fnHb, []⟩ (HandSHeadRun.getT s)) 3000 9000 (w.withFollow "special-get-raises" true) := by
  unfold RunGb
  kernel_rfl
theorem runTb (w : World) : RunGb RH hkH obH 3000 9000 (w.withFollow "special-get-raises" true) := runGb_of3 (runTb1 w) (runTb2 w) (runTb3 w)
theorem runT (w : World) : RunG RH qH hkH obH 3000 9000 namesH (w.withFollow "special-get-raises" true) := runG_of (runTa w) (runTb w)
theorem runH (w : World) : RunG RH qH hkH obH 3000 9000 namesH w := PySem.W.byRow2 "special-get-raises" (P := fun w => RunG RH qH hkH obH 3000 9000 namesH w) runF runT w
end Wn
/-! wheels: rows of remainders -/
namespace Wn
open PySem PySem.Spec PyProof.Rows L2
def topB (b n L x : Nat) : Bool := decide (Nat.gcd x n = 1) && (List.range L).all fun i => decide (x ≤ rem b n x i)
def wl (b n L : Nat) : List Nat := (List.range n).filter (topB b n L)
def InOrb (b n L y r : Nat) : Prop := ∃ i, i < L ∧ rem b n y i = r
theorem top_iff {b n L x : Nat} : topB b n L x = true ↔ Nat.gcd x n = 1 ∧ ∀ i, i < L → x ≤ rem b n x i := by
  unfold topB
  rw [Bool.and_eq_true, decide_eq_true_eq, List.all_eq_true]
  constructor
  · rintro ⟨h1, h2⟩
    refine ⟨h1, fun i hi => ?_⟩
    have := h2 i (List.mem_range.mpr hi)
    rwa [decide_eq_true_eq] at this
  · rintro ⟨h1, h2⟩
    exact ⟨h1, fun i hi => decide_eq_true (h2 i (List.mem_range.mp hi))⟩
theorem rem_rem (b n y i j : Nat) : rem b n (rem b n y i) j = rem b n y (i + j) := by
  unfold rem
  rw [Nat.mod_mul_mod, Nat.mul_assoc, ← Nat.pow_add]
theorem rem_per {b n L y : Nat} (h : IsPer b n L) (hy : y < n) : rem b n y L = y := by
  unfold rem
  rw [Nat.mul_mod, h.2.1, ← Nat.mul_mod, Nat.mul_one, Nat.mod_eq_of_lt hy]
theorem orb_symm {b n L x y : Nat} (h : IsPer b n L) (hy : y < n) (o : InOrb b n L y x) : InOrb b n L x y := by
  obtain ⟨i, hi, e⟩ := o
  subst e
  rcases Nat.eq_zero_or_pos i with z | z
  · subst z
    exact ⟨0, h.1, by rw [rem_rem, rem_zero hy]⟩
  · exact ⟨L - i, by omega, by rw [rem_rem, show i + (L - i) = L by omega, rem_per h hy]⟩
theorem rem_cop {b n x : Nat} (g : Nat.gcd b n = 1) (gx : Nat.gcd x n = 1) (i : Nat) : Nat.gcd (rem b n x i) n = 1 := by
  unfold rem
  rw [← Nat.gcd_rec n (x * b ^ i), Nat.gcd_comm]
  exact Nat.Coprime.mul_left gx (cop_pow g i)
theorem not_top {b n L x : Nat} (g : Nat.gcd b n = 1) (h : IsPer b n L) (hx : x < n) (gx : Nat.gcd x n = 1) : topB b n L x = false ↔ ∃ y, y < x ∧ Nat.gcd y n = 1 ∧ InOrb b n L y x := by
  have hn : 1 ≤ n := by omega
  constructor
  · intro z
    have z' : ¬ topB b n L x = true := by rw [z]; decide
    rw [top_iff] at z'
    have : ∃ i, i < L ∧ rem b n x i < x := by
      apply Classical.byContradiction
      intro c
      exact z' ⟨gx, fun i hi => Nat.le_of_not_lt fun l => c ⟨i, hi, l⟩⟩
    obtain ⟨i, hi, l⟩ := this
    exact ⟨_, l, rem_cop g gx i, orb_symm h hx ⟨i, hi, rfl⟩⟩
  · rintro ⟨y, hy, gy, o⟩
    obtain ⟨j, hj, e⟩ := orb_symm h (by omega) o
    cases c : topB b n L x with
    | false => rfl
    | true =>
      have := (top_iff.mp c).2 j hj
      omega
/-- who has been met before x comes -/
def Met (b n L k r : Nat) : Prop := ∃ y, y < k ∧ Nat.gcd y n = 1 ∧ InOrb b n L y r
theorem met_top {b n L k r : Nat} (g : Nat.gcd b n = 1) (h : IsPer b n L) (hk : k ≤ n) : Met b n L k r ↔ ∃ y, y < k ∧ topB b n L y = true ∧ InOrb b n L y r := by
  constructor
  · rintro ⟨y, hy, gy, i, hi, e⟩
    -- the least of its row
    obtain ⟨m, hm, ⟨j, hj, ej⟩, q⟩ := least (fun z => ∃ j, j < L ∧ rem b n y j = z) y ⟨0, h.1, rem_zero (by omega)⟩
    have hjm : rem b n y j = m := ej
    refine ⟨m, by omega, top_iff.mpr ⟨?_, fun t ht => ?_⟩, ?_⟩
    · rw [← hjm]
      exact rem_cop g gy j
    · apply Nat.le_of_not_lt
      intro l
      refine q _ l ⟨(j + t) % L, Nat.mod_lt _ h.1, ?_⟩
      rw [← hjm, rem_rem]
      have := Nat.div_add_mod (j + t) L
      show rem b n y ((j + t) % L) = rem b n y (j + t)
      conv => rhs; rw [← this]
      rw [← rem_rem]
      congr 1
      unfold rem
      rw [Nat.mul_mod, h.mul, ← Nat.mul_mod, Nat.mul_one, Nat.mod_eq_of_lt (by omega)]
    · refine ⟨(L - j + i) % L, Nat.mod_lt _ h.1, ?_⟩
      have := Nat.div_add_mod (L - j + i) L
      rw [← e, ← hjm, rem_rem]
      have e2 : rem b n y (j + (L - j + i) % L) = rem b n y (j + (L - j + i)) := by
        conv => rhs; rw [← this]
        rw [show j + (L * ((L - j + i) / L) + (L - j + i) % L) = L * ((L - j + i) / L) + (j + (L - j + i) % L) by omega, ← rem_rem (i := L * ((L - j + i) / L))]
        congr 1
        unfold rem
        rw [Nat.mul_mod, h.mul, ← Nat.mul_mod, Nat.mul_one, Nat.mod_eq_of_lt (by omega)]
      rw [e2, show j + (L - j + i) = L + i by omega, ← rem_rem, rem_per h (by omega)]
  · rintro ⟨y, hy, t, o⟩
    exact ⟨y, hy, (top_iff.mp t).1, o⟩
theorem met_succ {b n L k r : Nat} : Met b n L (k + 1) r ↔ Met b n L k r ∨ (Nat.gcd k n = 1 ∧ InOrb b n L k r) := by
  constructor
  · rintro ⟨y, hy, gy, o⟩
    rcases Nat.lt_or_eq_of_le (show y ≤ k by omega) with z | z
    · exact .inl ⟨y, z, gy, o⟩
    · subst z
      exact .inr ⟨gy, o⟩
  · rintro (⟨y, hy, gy, o⟩ | ⟨gk, o⟩)
    · exact ⟨y, by omega, gy, o⟩
    · exact ⟨k, by omega, gk, o⟩
/-- a number whose least one stands before it brings nothing new -/
theorem met_skip {b n L k r : Nat} (g : Nat.gcd b n = 1) (h : IsPer b n L) (hk : k < n) (c : topB b n L k = false) : Met b n L (k + 1) r ↔ Met b n L k r := by
  rw [met_top g h (by omega), met_top g h (by omega)]
  constructor
  · rintro ⟨y, hy, t, o⟩
    rcases Nat.lt_or_eq_of_le (show y ≤ k by omega) with z | z
    · exact ⟨y, z, t, o⟩
    · subst z
      rw [c] at t
      cases t
  · rintro ⟨y, hy, t, o⟩
    exact ⟨y, by omega, t, o⟩
def rl (b n x L : Nat) : List Nat := (List.range L).map fun i => rem b n x i
theorem rl_len (b n x L : Nat) : (rl b n x L).length = L := by simp [rl]
theorem mem_rl {b n x L r : Nat} : r ∈ rl b n x L ↔ InOrb b n L x r := by
  unfold rl
  rw [List.mem_map]
  constructor
  · rintro ⟨i, hi, e⟩
    exact ⟨i, List.mem_range.mp hi, e⟩
  · rintro ⟨i, hi, e⟩
    exact ⟨i, List.mem_range.mpr hi, e⟩
theorem rl_lt {b n x L r : Nat} (hn : 1 ≤ n) (h : r ∈ rl b n x L) : r < n := by
  obtain ⟨i, _, rfl⟩ := mem_rl.mp h
  exact rem_lt hn
def copL (n : Nat) : List Nat := (List.range n).filter fun x => decide (Nat.gcd x n = 1)
theorem wl_take_succ {b n L k : Nat} (hk : k < n) : ((List.range n).take (k + 1)).filter (topB b n L) = ((List.range n).take k).filter (topB b n L) ++ (if topB b n L k = true then [k] else []) := by
  rw [List.take_succ_eq_append_getElem (by simpa using hk), List.filter_append, List.getElem_range, List.filter_cons]
  split <;> simp
end Wn
namespace Wn
open PySem PySem.Spec PyProof.Rows L2
theorem orb_trans {b n L x y r : Nat} (h : IsPer b n L) (hy : y < n) (o : InOrb b n L y x) (o2 : InOrb b n L x r) : InOrb b n L y r := by
  obtain ⟨i, hi, rfl⟩ := o
  obtain ⟨j, hj, rfl⟩ := o2
  refine ⟨(i + j) % L, Nat.mod_lt _ h.1, ?_⟩
  rw [rem_rem]
  have := Nat.div_add_mod (i + j) L
  show rem b n y ((i + j) % L) = rem b n y (i + j)
  conv => rhs; rw [← this]
  rw [← rem_rem]
  congr 1
  unfold rem
  rw [Nat.mul_mod, h.mul, ← Nat.mul_mod, Nat.mul_one, Nat.mod_eq_of_lt hy]
theorem asc_cop (n : Nat) : (copL n).Pairwise (· < ·) := List.Pairwise.filter _ List.pairwise_lt_range
theorem mem_cop {n x : Nat} : x ∈ copL n ↔ x < n ∧ Nat.gcd x n = 1 := by
  unfold copL
  rw [List.mem_filter, List.mem_range, decide_eq_true_eq]
theorem cop_len (n : Nat) : (copL n).length ≤ n := by
  unfold copL
  exact Nat.le_trans (List.length_filter_le _ _) (by simp)
theorem cop_take {n i y : Nat} (hi : i < (copL n).length) : y ∈ (copL n).take i ↔ y < (copL n)[i] ∧ Nat.gcd y n = 1 := by
  have hx := mem_cop.mp (List.getElem_mem hi)
  constructor
  · intro h
    obtain ⟨j, hj, rfl⟩ := List.mem_iff_getElem.mp h
    rw [List.length_take] at hj
    rw [List.getElem_take]
    exact ⟨List.pairwise_iff_getElem.mp (asc_cop n) j i (by omega) hi (by omega), (mem_cop.mp (List.getElem_mem _)).2⟩
  · rintro ⟨hl, hg⟩
    have hm : y ∈ copL n := mem_cop.mpr ⟨by omega, hg⟩
    obtain ⟨j, hj, rfl⟩ := List.mem_iff_getElem.mp hm
    rw [List.mem_iff_getElem]
    have hji : j < i := by
      rcases Nat.lt_trichotomy j i with z | z | z
      · exact z
      · subst z
        omega
      · have := List.pairwise_iff_getElem.mp (asc_cop n) i j hi hj z
        omega
    exact ⟨j, by rw [List.length_take]; omega, by rw [List.getElem_take]⟩
theorem cop_top (b n L : Nat) : (copL n).filter (topB b n L) = wl b n L := by
  unfold copL wl
  rw [List.filter_filter]
  congr 1
  funext x
  cases t : topB b n L x with
  | false => rfl
  | true => rw [decide_eq_true (top_iff.mp t).1]; rfl
theorem valV_mem : ∀ (l : List (Key × V)) (k : Key), (valV l k).isSome = true ↔ ∃ kv ∈ l, kv.1 = k
  | [], k => by simp [valV]
  | p :: r, k => by
    by_cases e : p.1 = k
    · rw [valV_pos e]
      simp [e]
    · rw [valV_neg e, valV_mem r]
      simp [e]
end Wn
/-! set(xs) of a list of whole numbers -/
namespace Wn
open PySem PySem.Spec PyProof.Rows L2
abbrev eSet (w : World) : Obj := { cls := .type "set", dict := none, data := .set #[] 0 (.fresh 0 0 (!w.params.followText "set-order")) }
section
variable {P : Program} {w : World} {A : Around} {E : Value → Shared → Prop} {z : Shared}
theorem set_lst {l : Addr} {us : Array Value} (ks : List Int) {Q : Value → Shared → Prop} (hh : A.handled = none) (hl : z.heap.IsList l us) (hu : IntsAre us.toList ks) (hb : ks.length + 1 < scanBound)
    (go : ∀ (hp : Heap) (tk c : Nat), SetR w hp z.heap.objs.size (fun j => decide (j ∈ ks)) c → (∀ b o, z.heap.get? b = some o → hp.get? b = some o) → Q (.ref z.heap.objs.size) { z with heap := hp, toks := tk }) :
    wpAny (model P w) A (call (.type "set") [.ref l]) Q E z := by
  have hsz : us.size = ks.length := Array.length_toList (xs := us) ▸ IntsAre.length hu
  obtain ⟨c0, t0, mr⟩ := F.called_set.mro
  have p1 := F.called_set.made; have p2 := F.called_set.sub
  refine wpAny_call (codeAny_of_tree (show wpAny _ _ (callAny (.type "set") _) _ _ _ from wpAny_pure ⟨Code.quiet_builtin _ (by decide +kernel), codeAny_builtin F.entry_type_call ?_⟩))
  rw [Around.under_plain (weight_type_call_type "set" [Value.ref l] []) rfl]
  have p3 := F.called_set.notType; have p4 := F.called_set.canCreate; have p5 := F.typeCall_set_1 (.ref l)
  repeat (any_goals (first | assumption | wp_step))
  refine codeAny_mono (code_set_led1 (.ref l) (E := E) (Q₁ := fun v s1 => v = .ref z.heap.objs.size ∧ s1 = { z with heap := z.heap.push (eSet w) }) ⟨rfl, rfl⟩) fun r s1 hr => ?_
  cases r with
  | error e => exact hr
  | ok fl =>
    cases fl with
    | ret v =>
      obtain ⟨rfl, rfl⟩ := hr
      have aS : (z.heap.push (eSet w)).get? z.heap.objs.size = some (eSet w) := Heap.get?_push_size _ rfl
      have tS : Shared.TypeIs { z with heap := z.heap.push (eSet w) } (.ref z.heap.objs.size) "set" := ⟨_, aS, rfl⟩
      have p6 := F.called_set.init.lookup; have p7 := F.called_set.init.bind (.ref z.heap.objs.size)
      repeat (any_goals (first | assumption | wp_step))
      refine codeAny_mono (codeAny_call_builtin (R := wants (fun r s2 => r = .none ∧ ∃ hp tk c, s2 = { z with heap := hp, toks := tk } ∧ SetR w hp z.heap.objs.size (fun j => decide (j ∈ ks)) c ∧ (∀ b o, z.heap.get? b = some o → hp.get? b = some o)) E)
        F.called_set.init.plain F.entry_set_init (check_set_init_1 tS ?_)) fun r2 s2 hr2 => ?_
      · obtain ⟨⟨oc, od, odata, osl⟩, ho, hc, nl, hd⟩ := hl
        simp only at hc hd; subst hc; subst hd
        have ho' : (z.heap.push (eSet w)).get? l = some { cls := .type "list", dict := od, data := .seq us nl, slots := osl } := Heap.get?_push_of_some _ ho
        have q1 := F.sub_list_set; have q2 := F.sub_list_frozenset
        have q3 : (Value.type "list" == Value.type "dict") = false := by decide
        have il : (z.heap.push (eSet w)).IsList l us := ⟨_, ho', rfl, nl, rfl⟩
        unfold Builtin.«set.__init__» noKeywords Builtin.Frozenset.updateFrom
        generalize eI : pyIter = PI; wp_walk; subst eI
        refine wpAny_pyIter_list il (wpAny_bind (wpAny_runValue ?_))
        have lt : l < z.heap.objs.size := Heap.lt_size ho
        have h3 : A.in1.in1.in1.handled = none := by simp [hh]
        have eI : (z.heap.push (eSet w)).objs.size = z.heap.objs.size + 1 := Heap.size_push ..
        have nI : l ≠ (z.heap.push (eSet w)).objs.size := by rw [eI]; exact Nat.ne_of_lt (Nat.lt_succ_of_lt lt)
        have nS : z.heap.objs.size ∉ [(z.heap.push (eSet w)).objs.size, l] := by
          rw [eI]; simp only [List.mem_cons, List.not_mem_nil, or_false]; exact fun h => h.elim (Nat.ne_of_lt (Nat.lt_succ_self _)) (Nat.ne_of_gt lt)
        have items : ∀ (i : Nat) (v : Value), us[i]? = some v → ∃ k t, ks[i]? = some k ∧ v = .int k t := fun i v hv => by
          have hi : i < ks.length := hsz ▸ (Array.getElem?_eq_some_iff.mp hv).1
          obtain ⟨t, e⟩ := PyProof.Rows.IntsAre.int_at hu i v (by simpa using hv)
          exact ⟨ks[i], t, by simp [hi], by rw [e]; simp [hi]⟩
        refine set_update_ints ((Walks.list h3 _ l nI us).toS) z.heap.objs.size nS ks hsz hb items (us.size - 0) 0 _ (by omega) (Nat.zero_le _) ⟨⟨_, Heap.get?_push_size _ rfl, rfl, rfl⟩, il.push _⟩ ⟨0, Nat.le_refl 0, setR_new_at (Heap.get?_push_of_some _ aS)⟩ fun s3 c3 mv hc3 R3 => ?_
        obtain ⟨h3', g3, d3, tk3, os3⟩ := s3
        have e1 : g3 = z.gens := mv.gens; have e2 : d3 = z.drawn := mv.drawn; have e3 : os3 = z.os := mv.os
        subst e1; subst e2; subst e3
        refine wpAny_pure (show wpAny _ _ (ret Value.none) _ _ _ from wpAny_pure ⟨rfl, h3', tk3, c3, rfl, R3, fun b o e => ?_⟩)
        have lb : b < z.heap.objs.size := Heap.lt_size e
        refine mv.heap b o ?_ (Heap.get?_push_of_some _ (Heap.get?_push_of_some _ e))
        simp only [List.mem_cons, List.not_mem_nil, or_false]; rw [eI]; exact fun h => h.elim (Nat.ne_of_lt lb) (Nat.ne_of_lt (Nat.lt_succ_of_lt lb))
      · cases r2 with
        | error e => exact hr2
        | ok fl2 =>
          cases fl2 with
          | ret r =>
            obtain ⟨rfl, hp, tk, c, rfl, R, kp⟩ := hr2
            repeat (any_goals (first | assumption | wp_step))
            exact go _ _ _ R kp
          | _ => exact hr2.elim
    | _ => exact hr.elim
end
theorem ints_vals : ∀ {ns : List Int} {us : List Value}, Vals (ns.map V.int) us → IntsAre us ns
  | [], _, .nil => .nil
  | _ :: _, _, .cons ⟨k, e⟩ t => e ▸ IntsAre.cons _ k (ints_vals t)
def rSetL (K : PySem.W.Frag) (w : World) : List V → Hp → VK → Prop := fun xs H Q => ∃ (l : Addr) (ns : List Int), xs = [V.ref l] ∧ SqL K H l (ns.map V.int) ∧ ns.length ≤ 4000 ∧
  ∀ (a : Addr) (ks : List Int), H a = none → ks.Nodup → (∀ k, k ∈ ks ↔ k ∈ ns) → Q (.ref a) (upd H a (SetO w a (fun j => decide (j ∈ ns)) ks.length))
theorem call_setL {X : Cx} (hc : X.calm = true) : CallR X (.type "set") (rSetL X.K X.w) := by
  intro pins s σ H xs us Q I r h
  obtain ⟨l, ns, rfl, hs, hz, q⟩ := h
  obtain ⟨its, rv, hl, _⟩ := I.list hs
  rw [Vals.ref1 r]
  refine set_lst ns (I.ok.hd hc) hl.isList (by simpa using ints_vals rv) (by unfold scanBound; omega) fun hp tk c R kp => ?_
  have R' := R
  obtain ⟨o, es, ep, t, _, _, _, _, nd, hm, _, _, hn, _⟩ := R
  have e : (es.toList.map keyOf).length = c := by rw [List.length_map, Array.length_toList, hn]
  have free := I.hok.fresh (Nat.le_refl s.heap.objs.size)
  have q' := q s.heap.objs.size (es.toList.map keyOf) free nd (fun k => by rw [← hm]; simp)
  rw [e] at q'
  exact ⟨.ref _, _, I.laid (t' := tk) kp (Nat.le_refl _) (setO_new R'), rfl, q'⟩
/-! ascending lists with the same members are one -/
theorem asc_eq : ∀ {xs ys : List Int}, xs.Pairwise (· < ·) → ys.Pairwise (· < ·) → (∀ k, k ∈ xs ↔ k ∈ ys) → xs = ys
  | [], [], _, _, _ => rfl
  | [], y :: ys, _, _, h => absurd ((h y).mpr List.mem_cons_self) (by simp)
  | x :: xs, [], _, _, h => absurd ((h x).mp List.mem_cons_self) (by simp)
  | x :: xs, y :: ys, hx, hy, h => by
    have hx' := List.pairwise_cons.mp hx
    have hy' := List.pairwise_cons.mp hy
    have e : x = y := by
      rcases List.mem_cons.mp ((h x).mp List.mem_cons_self) with z | z
      · exact z
      · rcases List.mem_cons.mp ((h y).mpr List.mem_cons_self) with z2 | z2
        · exact z2.symm
        · have h1 := hy'.1 x z
          have h2 := hx'.1 y z2
          omega
    subst e
    rw [asc_eq hx'.2 hy'.2 fun k => ?_]
    have hk := h k
    simp only [List.mem_cons] at hk
    constructor
    · intro z
      rcases hk.mp (.inr z) with z2 | z2
      · have := hx'.1 k z
        omega
      · exact z2
    · intro z
      rcases hk.mpr (.inr z) with z2 | z2
      · have := hy'.1 k z
        omega
      · exact z2
end Wn
/-! a tuple times any small number -/
namespace Wn
open PySem PySem.Spec PyProof.Rows L2
theorem tmul_same (l : Addr) (us : Array Value) (n : Nat) (dd : Option Addr) (sl : Array (Option Value)) (k : Int) (u : Tok) (c0 : (decide (k < -(2 ^ 63)) || decide (k ≥ 2 ^ 63)) = false) (c1 : (us.isEmpty || k == 1) = true) :
    Meets (Builtin.«tuple.__mul__» ⟨[.ref l, .int k u], []⟩) (fun _ R s => s.heap.get? l = some { cls := .type "tuple", dict := dd, data := .seq us n, slots := sl } ∧ R (.ok (.ret (Value.ref l))) s) :=
  .of_wp fun prog w A R s ⟨hl, go⟩ => by
    obtain ⟨hp, g, d, tk, os⟩ := s
    have f1 := AutoSeq1.idx_int
    wp_walk using wpAny_loadPart' hl
    repeat (first
      | (refine wpAny_ite_false (decide_eq_false (by rw [c0]; exact Bool.false_ne_true)) ?_; wp_walk using wpAny_loadPart' hl)
      | (refine wpAny_ite_true (decide_eq_true (by rw [c1])) ?_; wp_walk using wpAny_loadPart' hl))
    exact ⟨_, rfl, go⟩
theorem tmul_none (l : Addr) (us : Array Value) (n : Nat) (dd : Option Addr) (sl : Array (Option Value)) (k : Int) (u : Tok) (c0 : (decide (k < -(2 ^ 63)) || decide (k ≥ 2 ^ 63)) = false) (c1 : (us.isEmpty || k == 1) = false) (c2 : (decide (k ≤ 0) || us.isEmpty) = true) :
    Meets (Builtin.«tuple.__mul__» ⟨[.ref l, .int k u], []⟩) (fun _ R s => s.heap.get? l = some { cls := .type "tuple", dict := dd, data := .seq us n, slots := sl } ∧
      R (.ok (.ret (Value.ref s.heap.objs.size))) { s with heap := s.heap.push { cls := Value.type "tuple", data := Data.seq #[] }, toks := s.toks }) :=
  .of_wp fun prog w A R s ⟨hl, go⟩ => by
    obtain ⟨hp, g, d, tk, os⟩ := s
    have f1 := AutoSeq1.idx_int
    wp_walk using wpAny_loadPart' hl
    repeat (first
      | (refine wpAny_ite_false (decide_eq_false (by rw [c0]; exact Bool.false_ne_true)) ?_; wp_walk using wpAny_loadPart' hl)
      | (refine wpAny_ite_false (decide_eq_false (by rw [c1]; exact Bool.false_ne_true)) ?_; wp_walk using wpAny_loadPart' hl)
      | (refine wpAny_ite_true (decide_eq_true (by rw [c2])) ?_; wp_walk using wpAny_loadPart' hl))
    exact ⟨_, rfl, go⟩
def rRepG (K : PySem.W.Frag) : R2 := fun x y H Q => ∃ (l : Addr) (k : Int) (xs : List V), x = .ref l ∧ y = .int k ∧ SqT K H l xs ∧ (-1000 ≤ k ∧ k ≤ 1000 ∧ xs.length ≤ 1000) ∧
  ((k = 1 ∨ xs = []) → Q (.ref l) H) ∧ (k ≠ 1 → xs ≠ [] → ∀ p, H p = none → Q (.ref p) (upd H p (.tup (List.replicate k.toNat xs).flatten)))
theorem op_repG {X : Cx} : OpR X (binaryOp .Mult) (rRepG X.K) := by
  intro pins s σ H x y v u Q I rx ry h
  obtain ⟨l, k, xs, rfl, rfl, hT, ⟨h0, h1, hz⟩, q1, q2⟩ := h
  by_cases hb : 2 ≤ k ∧ xs ≠ []
  · exact op_repT pins s σ H _ _ _ _ _ I rx ry ⟨l, k, xs, rfl, rfl, hT, hb.2, hb.1, h1, hz, q2 (by omega) hb.2⟩
  cases rx
  obtain ⟨t, rfl⟩ := ry
  obtain ⟨its, r, ⟨⟨cls, dd, data, sl⟩, ho, hc, n, hd⟩, hs⟩ := I.tuple hT
  simp only at hc hd
  subst hc hd
  have c0 : (decide (k < -(2 ^ 63)) || decide (k ≥ 2 ^ 63)) = false := by
    rw [decide_eq_false (by omega), decide_eq_false (by omega)] <;> rfl
  have hne : its.toArray.isEmpty = true ↔ xs = [] := by
    cases r with
    | nil => exact ⟨fun _ => rfl, fun _ => rfl⟩
    | cons a b => exact ⟨fun z => by simp at z, fun z => by cases z⟩
  by_cases c1 : (its.toArray.isEmpty || k == 1) = true
  · have hk : k = 1 ∨ xs = [] := by
      rcases Bool.or_eq_true _ _ ▸ c1 with z | z
      · exact .inr (hne.mp z)
      · exact .inl (beq_iff_eq.mp z)
    refine wpAny_binaryOp_repeat_ref (T := "tuple") (U := "int") (by decide) ⟨_, ho, rfl⟩ (fun s' => typeIs_int s' k t) noFill_tuple_mul F.fills_int_mul F.slot_int_rmul repeat_tuple F.slot_int_index.lookup
      (call_meets F.slot_int_rmul (typeIs_int s k t) F.entry_int_rmul (F.args_int_rmul_2 _ _) (int_rmul_tuple k t l its.toArray n dd sl)
        ⟨ho, rfl, ⟨_, ho, rfl⟩, call_meets F.slot_tuple_mul ⟨_, ho, rfl⟩ F.entry_tuple_mul (F.args_tuple_mul_2 _ _) (tmul_same l its.toArray n dd sl k t c0 c1) ⟨ho, .ref l, H, I, rfl, q1 hk⟩⟩)
  · have c1' : (its.toArray.isEmpty || k == 1) = false := by simpa using c1
    rw [Bool.or_eq_false_iff] at c1'
    have hx : xs ≠ [] := fun z => by
      rw [hne.mpr z] at c1'
      cases c1'.1
    have hk1 : k ≠ 1 := fun z => by
      have := c1'.2
      rw [z] at this
      cases this
    have hk0 : k ≤ 0 := by
      rcases Int.lt_or_le 0 k with z | z
      · exact absurd ⟨by omega, hx⟩ hb
      · exact z
    have q3 := q2 hk1 hx s.heap.objs.size (I.hok.fresh (Nat.le_refl _))
    rw [show k.toNat = 0 by omega] at q3
    refine wpAny_binaryOp_repeat_ref (T := "tuple") (U := "int") (by decide) ⟨_, ho, rfl⟩ (fun s' => typeIs_int s' k t) noFill_tuple_mul F.fills_int_mul F.slot_int_rmul repeat_tuple F.slot_int_index.lookup
      (call_meets F.slot_int_rmul (typeIs_int s k t) F.entry_int_rmul (F.args_int_rmul_2 _ _) (int_rmul_tuple k t l its.toArray n dd sl)
        ⟨ho, rfl, ⟨_, ho, rfl⟩, call_meets F.slot_tuple_mul ⟨_, ho, rfl⟩ F.entry_tuple_mul (F.args_tuple_mul_2 _ _) (tmul_none l its.toArray n dd sl k t c0 (by rw [c1'.1, c1'.2]; rfl) (by rw [decide_eq_true hk0]; rfl)) ⟨ho, ?_⟩⟩)
    refine ⟨.ref s.heap.objs.size, _, I.laid (t' := s.toks) (o := .tup (List.replicate 0 xs).flatten) (fun b ob q => Heap.get?_push_of_some _ q) (Nat.le_refl _) ?_, rfl, q3⟩
    exact ⟨Nat.zero_le _, [], .nil, IsTup.new _ _⟩
end Wn
/-! rotations -/
namespace Wn
open PySem PySem.Spec PyProof.Rows L2
def rotL (ds : List Nat) (k : Nat) : List Nat := ds.drop k ++ ds.take k
theorem rotL_len (ds : List Nat) (k : Nat) : (rotL ds k).length = ds.length := by
  unfold rotL
  rw [List.length_append, List.length_drop, List.length_take]
  omega
theorem rotL_zero (ds : List Nat) : rotL ds 0 = ds := by simp [rotL]
theorem rotL_succ {ds : List Nat} {k : Nat} (h : k < ds.length) : (rotL ds k).drop 1 ++ (rotL ds k).take 1 = rotL ds (k + 1) := by
  unfold rotL
  rw [List.drop_eq_getElem_cons h]
  simp only [List.cons_append, List.drop_succ_cons, List.drop_zero, List.take_succ_cons, List.take_zero]
  rw [List.append_assoc, List.take_succ_eq_append_getElem h]
theorem mem_rotL {ds : List Nat} {k x : Nat} (h : x ∈ rotL ds k) : x ∈ ds := by
  unfold rotL at h
  rcases List.mem_append.mp h with z | z
  · exact List.mem_of_mem_drop z
  · exact List.mem_of_mem_take z
/-- the repeating digits -/
def dgl (b n x L : Nat) : List Nat := (List.range L).map fun i => rem b n x i * b / n
theorem dgl_len (b n x L : Nat) : (dgl b n x L).length = L := by simp [dgl]
theorem rem_cyc {b n x L : Nat} (h : IsPer b n L) (i : Nat) : rem b n x (i + L) = rem b n x i := by
  unfold rem
  rw [Nat.pow_add, ← Nat.mul_assoc, Nat.mul_mod, h.2.1, ← Nat.mul_mod, Nat.mul_one]
theorem dgl_rot {b n x L k : Nat} (h : IsPer b n L) (hk : k ≤ L) : rotL (dgl b n x L) k = dgl b n (rem b n x k) L := by
  unfold rotL
  apply List.ext_getElem
  · rw [List.length_append, List.length_drop, List.length_take, dgl_len, dgl_len]
    omega
  · intro i h1 h2
    rw [dgl_len] at h2
    rw [List.getElem_append]
    split
    · rename_i hi
      rw [List.length_drop, dgl_len] at hi
      rw [List.getElem_drop]
      simp only [dgl, List.getElem_map, List.getElem_range]
      rw [rem_rem]
    · rename_i hi
      rw [List.length_drop, dgl_len] at hi
      rw [List.getElem_take]
      simp only [dgl, List.getElem_map, List.getElem_range, List.length_drop, List.length_map, List.length_range]
      rw [rem_rem, show k + i = i - (L - k) + L by omega, rem_cyc h]
theorem dgl_inj {b n x y L : Nat} (hb : 2 ≤ b) (h : IsPer b n L) (hx : x < n) (hy : y < n) (e : dgl b n x L = dgl b n y L) : x = y := by
  have hn : 1 ≤ n := by omega
  have hd : ∀ i, i < L → rem b n x i * b / n = rem b n y i * b / n := fun i hi => by
    have h1 : (dgl b n x L)[i]'(by rw [dgl_len]; exact hi) = (dgl b n y L)[i]'(by rw [dgl_len]; exact hi) := by simp only [e]
    simp only [dgl, List.getElem_map, List.getElem_range] at h1
    exact h1
  have st : ∀ z i, rem b n z i * b = n * (rem b n z i * b / n) + rem b n z (i + 1) := fun z i => by
    rw [← rem_succ]
    exact (Nat.div_add_mod _ _).symm
  -- the difference grows by the base at each step
  have key : ∀ i, i ≤ L → (rem b n x i : Int) - rem b n y i = ((x : Int) - y) * (b : Int) ^ i := by
    intro i
    induction i with
    | zero =>
      intro _
      rw [rem_zero hx, rem_zero hy]
      simp
    | succ i ih =>
      intro hi
      have h1 := ih (by omega)
      have h2 := st x i
      have h3 := st y i
      rw [hd i (by omega)] at h2
      generalize rem b n y i * b / n = q at h2 h3
      have h4 : (rem b n x i : Int) * b = n * q + rem b n x (i + 1) := by exact_mod_cast h2
      have h5 : (rem b n y i : Int) * b = n * q + rem b n y (i + 1) := by exact_mod_cast h3
      rw [Int.pow_succ, ← Int.mul_assoc, ← h1, Int.sub_mul]
      omega
  have k := key L (Nat.le_refl _)
  rw [rem_per h hx, rem_per h hy] at k
  have hL := h.1
  have hp : (2 : Int) ≤ (b : Int) ^ L := by
    have : 2 ≤ b ^ L := Nat.le_trans hb (Nat.le_self_pow (by omega) b)
    exact_mod_cast this
  have : ((x : Int) - y) * ((b : Int) ^ L - 1) = 0 := by
    rw [Int.mul_sub, Int.mul_one]
    omega
  rcases Int.mul_eq_zero.mp this with z | z <;> omega
/-- among the first ones each comes once -/
theorem rem_once {b n x L i j : Nat} (g : Nat.gcd b n = 1) (gx : Nat.gcd x n = 1) (h : IsPer b n L) (hi : i < L) (hj : j < L) (e : rem b n x i = rem b n x j) : i = j := by
  have key : ∀ {i j : Nat}, i < j → j < L → rem b n x i = rem b n x j → False := fun {i j} hij hj e => by
    have e1 : b ^ i % n = b ^ j % n := mod_cancel gx e
    have e2 : b ^ (j - i) % n = 1 % n := by
      refine mod_cancel (cop_pow g i) ?_
      rw [← Nat.pow_add, show i + (j - i) = j by omega, Nat.mul_one]
      exact e1.symm
    exact h.2.2 (j - i) (by omega) (by omega) e2
  rcases Nat.lt_trichotomy i j with z | z | z
  · exact (key z hj e).elim
  · exact z
  · exact (key z hi e.symm).elim
/-- the first place from which y comes; the period where there is none -/
def topI (b n x y L : Nat) : Nat := ((List.range L).find? fun i => decide (rem b n x i = y)).getD L
theorem topI_hit {b n x y L i : Nat} (hi : i < L) (e : rem b n x i = y) (no : ∀ j, j < i → rem b n x j ≠ y) : topI b n x y L = i := by
  unfold topI
  have : (List.range L).find? (fun i => decide (rem b n x i = y)) = some i := by
    rw [List.find?_range_eq_some]
    refine ⟨decide_eq_true e, List.mem_range.mpr hi, fun j hj => ?_⟩
    simp only [Bool.not_eq_true', decide_eq_false_iff_not]
    exact no j hj
  rw [this]
  rfl
theorem topI_miss {b n x y L : Nat} (no : ∀ j, j < L → rem b n x j ≠ y) : topI b n x y L = L := by
  unfold topI
  have : (List.range L).find? (fun i => decide (rem b n x i = y)) = none := by
    rw [List.find?_eq_none]
    intro i hi
    rw [decide_eq_true_eq]
    exact no i (List.mem_range.mp hi)
  rw [this]
  rfl
theorem topI_cases (b n x y L : Nat) : (topI b n x y L < L ∧ rem b n x (topI b n x y L) = y ∧ ∀ j, j < topI b n x y L → rem b n x j ≠ y) ∨ (topI b n x y L = L ∧ ∀ j, j < L → rem b n x j ≠ y) := by
  by_cases h : ∃ i, i < L ∧ rem b n x i = y
  · obtain ⟨i, hi, e⟩ := h
    obtain ⟨m, hm, pm, q⟩ := least (fun i => rem b n x i = y) i e
    have e1 := topI_hit (L := L) (show m < L by omega) pm (fun j hj z => q j hj z)
    rw [e1]
    exact .inl ⟨by omega, pm, fun j hj z => q j hj z⟩
  · have no : ∀ j, j < L → rem b n x j ≠ y := fun j hj z => h ⟨j, hj, z⟩
    exact .inr ⟨topI_miss no, no⟩
end Wn
/-! values of digits and of their rotations; multipliers -/
namespace Wn
open PySem PySem.Spec PyProof.Rows L2
theorem wrt_from (b : Nat) : ∀ (ds : List Nat) (f : Nat), ds.foldl (fun f d => f * b + d) f = f * b ^ ds.length + wrt b ds
  | [], f => by simp [wrt]
  | d :: r, f => by
    have h1 := wrt_from b r (f * b + d)
    have h2 := wrt_from b r (0 * b + d)
    unfold wrt at h1 h2 ⊢
    simp only [List.foldl_cons, List.length_cons]
    rw [h1, h2, Nat.pow_succ, Nat.add_mul, Nat.zero_mul, Nat.zero_add, Nat.mul_assoc, Nat.mul_comm b]
    omega
theorem wrt_cons (b x : Nat) (r : List Nat) : wrt b (x :: r) = x * b ^ r.length + wrt b r := by
  have := wrt_from b r (0 * b + x)
  rw [Nat.zero_mul, Nat.zero_add] at this
  rw [← this]
  simp [wrt]
theorem wrt_append (b : Nat) (xs ys : List Nat) : wrt b (xs ++ ys) = wrt b xs * b ^ ys.length + wrt b ys := by
  rw [← wrt_from b ys (wrt b xs)]
  simp [wrt, List.foldl_append]
theorem wrt_lt {b : Nat} : ∀ {ds : List Nat}, (∀ d ∈ ds, d < b) → wrt b ds < b ^ ds.length
  | [], _ => by simp [wrt]
  | x :: r, h => by
    have ih := wrt_lt (ds := r) fun d hd => h d (List.mem_cons_of_mem _ hd)
    have hx := h x List.mem_cons_self
    rw [wrt_cons, List.length_cons, Nat.pow_succ, Nat.mul_comm (b ^ r.length)]
    have : (x + 1) * b ^ r.length ≤ b * b ^ r.length := Nat.mul_le_mul_right _ hx
    rw [Nat.succ_mul] at this
    omega
theorem rot_at {ds : List Nat} {i : Nat} (h : i < ds.length) : rotL ds i = ds[i] :: (ds.drop (i + 1) ++ ds.take i) := by
  unfold rotL
  rw [List.drop_eq_getElem_cons h]
  rfl
theorem wrt_rot {b : Nat} {ds : List Nat} {i : Nat} (h : i < ds.length) (hb : 1 ≤ b) : ((wrt b (rotL ds i) : Nat) : Int) * (b : Int) - ((ds[i] : Nat) : Int) * (((b ^ ds.length : Nat) : Int) - 1) = ((wrt b (rotL ds (i + 1)) : Nat) : Int) := by
  have e : rotL ds (i + 1) = (ds.drop (i + 1) ++ ds.take i) ++ [ds[i]] := by
    rw [← rotL_succ h, rot_at h]
    rfl
  have hl : (ds.drop (i + 1) ++ ds.take i).length + 1 = ds.length := by
    rw [List.length_append, List.length_drop, List.length_take]
    omega
  rw [rot_at h, e, wrt_cons, wrt_snoc, ← hl]
  generalize ds.drop (i + 1) ++ ds.take i = r
  generalize wrt b r = w
  generalize ds[i] = x
  rw [Nat.pow_succ]
  generalize b ^ r.length = p
  push_cast
  rw [Int.add_mul, Int.mul_sub, Int.mul_one, Int.mul_assoc (x : Int) (p : Int) (b : Int)]
  omega
/-- k times their value is that of a rotation -/
def IsMul (b : Nat) (ds : List Nat) (k : Nat) : Prop := ∃ j, j < ds.length ∧ wrt b (rotL ds j) = k * wrt b ds
/-- those met among the first i rotations -/
def mulL (b : Nat) (ds : List Nat) (i : Nat) : List Nat := ((List.range i).filter fun j => decide (wrt b (rotL ds j) % wrt b ds = 0)).map fun j => wrt b (rotL ds j) / wrt b ds
theorem mulL_succ (b : Nat) (ds : List Nat) (i : Nat) : mulL b ds (i + 1) = mulL b ds i ++ (if wrt b (rotL ds i) % wrt b ds = 0 then [wrt b (rotL ds i) / wrt b ds] else []) := by
  unfold mulL
  rw [List.range_succ, List.filter_append, List.map_append]
  congr 1
  by_cases h : wrt b (rotL ds i) % wrt b ds = 0
  · rw [if_pos h, List.filter_cons_of_pos (by simpa using h)]
    rfl
  · rw [if_neg h, List.filter_cons_of_neg (by simpa using h)]
    rfl
theorem mulL_len (b : Nat) (ds : List Nat) (i : Nat) : (mulL b ds i).length ≤ i := by
  unfold mulL
  rw [List.length_map]
  exact Nat.le_trans (List.length_filter_le _ _) (by simp)
theorem mem_mulL {b : Nat} {ds : List Nat} {k i : Nat} (hv : 1 ≤ wrt b ds) : k ∈ mulL b ds i ↔ ∃ j, j < i ∧ wrt b (rotL ds j) = k * wrt b ds := by
  unfold mulL
  rw [List.mem_map]
  constructor
  · rintro ⟨j, hj, rfl⟩
    rw [List.mem_filter, List.mem_range, decide_eq_true_eq] at hj
    exact ⟨j, hj.1, (Nat.div_mul_cancel (Nat.dvd_of_mod_eq_zero hj.2)).symm⟩
  · rintro ⟨j, hj, e⟩
    refine ⟨j, ?_, ?_⟩
    · rw [List.mem_filter, List.mem_range, decide_eq_true_eq, e]
      exact ⟨hj, Nat.mul_mod_left _ _⟩
    · rw [e, Nat.mul_div_cancel _ hv]
/-- there are few of them -/
def Few (b : Nat) (ds : List Nat) : Prop := ∀ ks : List Nat, ks.Nodup → (∀ k ∈ ks, IsMul b ds k) → ks.length < 64
theorem nodup_sub {xs : List Nat} : ∀ {ys : List Nat}, xs.Nodup → (∀ x ∈ xs, x ∈ ys) → xs.length ≤ ys.length := by
  intro ys
  induction ys generalizing xs with
  | nil =>
    intro _ h
    cases xs with
    | nil => exact Nat.le_refl _
    | cons x r => exact absurd (h x List.mem_cons_self) (by simp)
  | cons y ys ih =>
    intro nd h
    have h1 := ih (nd.erase y) fun x hx => by
      have hm := List.mem_of_mem_erase hx
      rcases List.mem_cons.mp (h x hm) with e | e
      · subst e
        exact absurd hx (List.Nodup.not_mem_erase nd)
      · exact e
    rw [List.length_cons]
    by_cases hy : y ∈ xs
    · rw [List.length_erase_of_mem hy] at h1
      omega
    · rw [List.erase_of_not_mem hy] at h1
      omega
theorem few_of {b p : Nat} {ds : List Nat} (hv : 1 ≤ wrt b ds) (hp : p < 64) (h : ∀ j, j < ds.length → ∃ i, i < p ∧ rotL ds j = rotL ds i) : Few b ds := fun ks nd hk => by
  have := nodup_sub (ys := (List.range p).map fun i => wrt b (rotL ds i) / wrt b ds) nd fun k hm => by
    obtain ⟨j, hj, e⟩ := hk k hm
    obtain ⟨i, hi, e2⟩ := h j hj
    exact List.mem_map.mpr ⟨i, List.mem_range.mpr hi, by rw [← e2, e, Nat.mul_div_cancel _ hv]⟩
  rw [List.length_map, List.length_range] at this
  omega
theorem few_len {b : Nat} {ds : List Nat} (hv : 1 ≤ wrt b ds) (h : ds.length < 64) : Few b ds := few_of hv h fun j hj => ⟨j, hj, rfl⟩
/-- digits twice over -/
theorem rot_twice {ds : List Nat} {j : Nat} (h1 : ds.length ≤ j) (h2 : j < (ds ++ ds).length) : rotL (ds ++ ds) j = rotL (ds ++ ds) (j - ds.length) := by
  unfold rotL
  rw [List.length_append] at h2
  rw [List.drop_append, List.take_append, List.drop_append, List.take_append, List.drop_eq_nil_of_le h1, List.take_of_length_le h1, show j - ds.length - ds.length = 0 by omega]
  simp only [List.nil_append, List.drop_zero, List.take_zero, List.append_nil, List.append_assoc]
theorem few_twice {b : Nat} {ds : List Nat} (hv : 1 ≤ wrt b (ds ++ ds)) (h : ds.length < 64) : Few b (ds ++ ds) := few_of hv h fun j hj => by
  rcases Nat.lt_or_ge j ds.length with z | z
  · exact ⟨j, z, rfl⟩
  · refine ⟨j - ds.length, ?_, rot_twice z hj⟩
    rw [List.length_append] at hj
    omega
/-- a number up to 1000 has no common divisor with one of two primes -/
theorem gcd_prime {b p : Nat} (hp : ∀ g, g ≤ p → g ∣ p → g = 1 ∨ g = p) (h0 : 1 ≤ p) (h : Nat.gcd b p ≠ 1) : p ∣ b := by
  rcases hp _ (Nat.le_of_dvd h0 (Nat.gcd_dvd_right b p)) (Nat.gcd_dvd_right b p) with e | e
  · exact absurd e h
  · rw [← e]
    exact Nat.gcd_dvd_left b p
theorem cop_two {b p q : Nat} (hb : 1 ≤ b) (hp : ∀ g, g ≤ p → g ∣ p → g = 1 ∨ g = p) (hq : ∀ g, g ≤ q → g ∣ q → g = 1 ∨ g = q) (p0 : 1 ≤ p) (q0 : 1 ≤ q) (c : Nat.gcd p q = 1) (hl : b < p * q) : Nat.gcd b p = 1 ∨ Nat.gcd b q = 1 := by
  by_cases h1 : Nat.gcd b p = 1
  · exact .inl h1
  · by_cases h2 : Nat.gcd b q = 1
    · exact .inr h2
    · have := Nat.le_of_dvd hb (Nat.Coprime.mul_dvd_of_dvd_of_dvd c (gcd_prime hp p0 h1) (gcd_prime hq q0 h2))
      omega
theorem cop_43_47 {b : Nat} (h1 : 1 ≤ b) (h2 : b ≤ 1000) : Nat.gcd b 43 = 1 ∨ Nat.gcd b 47 = 1 := cop_two h1 (by decide) (by decide) (by decide) (by decide) (by decide) (by omega)
/-- two ascending rows of numbers with the same members -/
theorem ascN_eq {xs ys : List Nat} (hx : xs.Pairwise (· < ·)) (hy : ys.Pairwise (· < ·)) (h : ∀ k, k ∈ xs ↔ k ∈ ys) : xs = ys := by
  have key : ∀ {zs : List Nat}, zs.Pairwise (· < ·) → (ni zs).Pairwise (· < ·) := fun hz => List.Pairwise.map _ (fun a b h => by omega) hz
  have := asc_eq (key hx) (key hy) fun k => by
    unfold ni
    rw [List.mem_map, List.mem_map]
    exact ⟨fun ⟨a, ha, e⟩ => ⟨a, (h a).mp ha, e⟩, fun ⟨a, ha, e⟩ => ⟨a, (h a).mpr ha, e⟩⟩
  unfold ni at this
  exact (List.map_inj_right (fun a b e => by omega)).mp this
/-- rows of whole numbers whose members are natural ones -/
theorem ni_of : ∀ {zs : List Int}, (∀ k ∈ zs, 0 ≤ k) → ∃ xs : List Nat, zs = ni xs
  | [], _ => ⟨[], rfl⟩
  | z :: zs, h => by
    obtain ⟨xs, e⟩ := ni_of (zs := zs) fun k hk => h k (List.mem_cons_of_mem _ hk)
    have := h z List.mem_cons_self
    exact ⟨z.toNat :: xs, by rw [e]; show z :: ni xs = ((z.toNat : Nat) : Int) :: ni xs; rw [Int.toNat_of_nonneg this]⟩
theorem mem_ni {xs : List Nat} {k : Nat} : ((k : Nat) : Int) ∈ ni xs ↔ k ∈ xs := by
  unfold ni
  rw [List.mem_map]
  constructor
  · rintro ⟨a, ha, e⟩
    rw [show k = a by omega]
    exact ha
  · exact fun h => ⟨k, h, rfl⟩
end Wn
open PySem PySem.W PySem.Calls PyProof.Rows Builtin
open L2
namespace Wn
/-! counts by keys -/
def kvP (ps : List (Nat × Nat)) : List (Key × V) := ps.map fun p => ((Sum.inl ((p.1 : Nat) : Int) : Key), V.int (p.2 : Nat))
structure Cnt (g : Nat → Nat) (ps : List (Nat × Nat)) : Prop where
  nd : (ps.map Prod.fst).Nodup
  mem : ∀ q c, (q, c) ∈ ps ↔ g q = c ∧ 1 ≤ c
theorem Cnt.nil : Cnt (fun _ => 0) [] := ⟨List.nodup_nil, fun q c => ⟨fun h => (by cases h), fun ⟨h1, h2⟩ => by omega⟩⟩
theorem Cnt.congr {g g' : Nat → Nat} {ps : List (Nat × Nat)} (h : Cnt g ps) (e : ∀ q, g q = g' q) : Cnt g' ps := ⟨h.nd, fun q c => by rw [h.mem, e]⟩
theorem kvP_key {ps : List (Nat × Nat)} {q : Nat} {kv : Key × V} (h : kv ∈ kvP ps) (e : kv.1 = (Sum.inl ((q : Nat) : Int) : Key)) : ∃ c, (q, c) ∈ ps ∧ kv.2 = .int (c : Nat) := by
  obtain ⟨⟨q', c⟩, hp, rfl⟩ := List.mem_map.mp h
  have e2 : ((q' : Nat) : Int) = (q : Int) := Sum.inl.inj e
  have : q' = q := by omega
  subst this
  exact ⟨c, hp, rfl⟩
theorem Cnt.get {g : Nat → Nat} {ps : List (Nat × Nat)} (h : Cnt g ps) (q : Nat) : valV (kvP ps) (Sum.inl ((q : Nat) : Int) : Key) = if g q = 0 then none else some (.int (g q : Nat)) := by
  unfold valV
  cases e : (kvP ps).find? fun kv => decide (kv.1 = (Sum.inl ((q : Nat) : Int) : Key)) with
  | none =>
    by_cases g0 : g q = 0
    · rw [if_pos g0]
      rfl
    · exfalso
      have hm := (h.mem q (g q)).mpr ⟨rfl, by omega⟩
      have := List.find?_eq_none.mp e _ (List.mem_map.mpr ⟨_, hm, rfl⟩)
      simp at this
  | some kv =>
    have h1 := List.mem_of_find?_eq_some e
    have h2 := List.find?_some e
    obtain ⟨c, hc, hv⟩ := kvP_key h1 (of_decide_eq_true h2)
    obtain ⟨h3, h4⟩ := (h.mem q c).mp hc
    rw [if_neg (by omega), h3]
    exact congrArg some hv
theorem Cnt.put {g : Nat → Nat} {ps : List (Nat × Nat)} (h : Cnt g ps) (q d : Nat) (hd : 1 ≤ d) :
    ∃ ps', putK (kvP ps) (Sum.inl ((q : Nat) : Int) : Key) (.int ((g q + d : Nat) : Int)) = kvP ps' ∧ Cnt (fun z => g z + if z = q then d else 0) ps' := by
  by_cases g0 : g q = 0
  · refine ⟨ps ++ [(q, g q + d)], ?_, ?_, fun q' c => ?_⟩
    · rw [putK_new _ (by rw [h.get, if_pos g0])]
      unfold kvP
      rw [List.map_append]
      rfl
    · rw [List.map_append, List.nodup_append]
      refine ⟨h.nd, by simp, ?_⟩
      intro x hx y hy e
      rw [List.map_cons, List.map_nil, List.mem_singleton] at hy
      obtain ⟨⟨q', c⟩, hp, e3⟩ := List.mem_map.mp hx
      obtain ⟨h3, h4⟩ := (h.mem q' c).mp hp
      have e4 : q' = q := (show q' = x from e3).trans (e.trans hy)
      rw [e4] at h3
      omega
    · rw [List.mem_append, List.mem_singleton, h.mem]
      by_cases e : q' = q
      · subst e
        rw [if_pos rfl]
        constructor
        · rintro (⟨h1, h2⟩ | h1)
          · omega
          · have := (Prod.mk.inj h1).2
            omega
        · rintro ⟨h1, h2⟩
          exact .inr (by rw [h1])
      · rw [if_neg e, Nat.add_zero]
        constructor
        · rintro (h1 | h1)
          · exact h1
          · exact absurd (Prod.mk.inj h1).1 e
        · exact fun h1 => .inl h1
  · have hm := (h.mem q (g q)).mpr ⟨rfl, by omega⟩
    refine ⟨ps.map fun p => if p.1 = q then (p.1, g q + d) else p, ?_, ?_, fun q' c => ?_⟩
    · unfold putK
      rw [if_pos]
      · unfold kvP
        rw [List.map_map, List.map_map]
        refine List.map_congr_left fun p _ => ?_
        show (if (Sum.inl ((p.1 : Nat) : Int) : Key) = Sum.inl ((q : Nat) : Int) then _ else _) = _
        by_cases e : p.1 = q
        · rw [if_pos (by rw [e])]
          show _ = (fun p : Nat × Nat => ((Sum.inl ((p.1 : Nat) : Int) : Key), V.int (p.2 : Nat))) (if p.1 = q then (p.1, g q + d) else p)
          rw [if_pos e]
        · rw [if_neg (fun z => e (by have := Sum.inl.inj z; omega))]
          show _ = (fun p : Nat × Nat => ((Sum.inl ((p.1 : Nat) : Int) : Key), V.int (p.2 : Nat))) (if p.1 = q then (p.1, g q + d) else p)
          rw [if_neg e]
      · rw [List.any_eq_true]
        exact ⟨_, List.mem_map.mpr ⟨_, hm, rfl⟩, decide_eq_true rfl⟩
    · rw [List.map_map, show ps.map (Prod.fst ∘ fun p => if p.1 = q then (p.1, g q + d) else p) = ps.map Prod.fst from List.map_congr_left fun p _ => by
        show (if p.1 = q then (p.1, g q + d) else p).1 = p.1
        split <;> rfl]
      exact h.nd
    · rw [List.mem_map]
      by_cases e : q' = q
      · subst e
        rw [if_pos rfl]
        constructor
        · rintro ⟨⟨q2, c2⟩, hp, e2⟩
          by_cases e3 : q2 = q'
          · rw [if_pos e3] at e2
            have := (Prod.mk.inj e2).2
            omega
          · rw [if_neg e3] at e2
            exact absurd (Prod.mk.inj e2).1 e3
        · rintro ⟨h1, h2⟩
          refine ⟨_, hm, ?_⟩
          rw [if_pos rfl, h1]
      · rw [if_neg e, Nat.add_zero, ← h.mem]
        constructor
        · rintro ⟨⟨q2, c2⟩, hp, e2⟩
          by_cases e3 : q2 = q
          · rw [if_pos e3] at e2
            exact absurd ((Prod.mk.inj e2).1.symm.trans e3) e
          · rw [if_neg e3] at e2
            rw [← e2]
            exact hp
        · intro hp
          exact ⟨_, hp, if_neg e⟩
/-- all keys are values of a list -/
theorem Cnt.len {g : Nat → Nat} {ps : List (Nat × Nat)} {ks : List Nat} (h : Cnt g ps) (hk : ∀ q, 1 ≤ g q → q ∈ ks) : ps.length ≤ ks.length := by
  have := nodup_sub (ys := ks) h.nd fun x hx => by
    obtain ⟨⟨q, c⟩, hp, rfl⟩ := List.mem_map.mp hx
    obtain ⟨h1, h2⟩ := (h.mem q c).mp hp
    exact hk q (by omega)
  rwa [List.length_map] at this
/-- the keys in their order -/
def IsKeys (g : Nat → Nat) (ks : List Nat) : Prop := ks.Pairwise (· < ·) ∧ ∀ q, q ∈ ks ↔ 1 ≤ g q
theorem IsKeys.uniq {g : Nat → Nat} {ks ks' : List Nat} (h : IsKeys g ks) (h' : IsKeys g ks') : ks = ks' := ascN_eq h.1 h'.1 fun k => (h.2 k).trans (h'.2 k).symm
def prs (g : Nat → Nat) (ks : List Nat) : List (Nat × Nat) := ks.map fun q => (q, g q)
/-- a list of the pairs, ascending -/
theorem Cnt.sorted {g : Nat → Nat} {ps ys : List (Nat × Nat)} (h : Cnt g ps) (hp : ys.Perm ps) (hs : ys.Pairwise fun x y => ¬ (y.1 < x.1)) : IsKeys g (ys.map Prod.fst) ∧ ys = prs g (ys.map Prod.fst) := by
  have nd : (ys.map Prod.fst).Nodup := (hp.map Prod.fst).nodup_iff.mpr h.nd
  refine ⟨⟨?_, fun q => ?_⟩, ?_⟩
  · rw [List.pairwise_map]
    rw [List.nodup_iff_pairwise_ne, List.pairwise_map] at nd
    exact (hs.and nd).imp fun ⟨h1, h2⟩ => by omega
  · rw [List.mem_map]
    constructor
    · rintro ⟨⟨q', c⟩, hm, rfl⟩
      obtain ⟨h1, h2⟩ := (h.mem q' c).mp (hp.mem_iff.mp hm)
      show 1 ≤ g q'
      omega
    · intro hq
      exact ⟨(q, g q), hp.mem_iff.mpr ((h.mem q (g q)).mpr ⟨rfl, hq⟩), rfl⟩
  · unfold prs
    rw [List.map_map]
    conv => lhs; rw [← List.map_id ys]
    refine List.map_congr_left fun p hm => ?_
    obtain ⟨q, c⟩ := p
    obtain ⟨h1, h2⟩ := (h.mem q c).mp (hp.mem_iff.mp hm)
    show (q, c) = (q, g q)
    rw [h1]
def cntQ (f : Nat → Nat) (ms : List Nat) (q : Nat) : Nat := (ms.filter fun x => decide (f x = q)).length
theorem cntQ_perm {f : Nat → Nat} {ms ms' : List Nat} (h : ms.Perm ms') (q : Nat) : cntQ f ms q = cntQ f ms' q := (h.filter _).length_eq
theorem cntQ_app (f : Nat → Nat) (ms ms' : List Nat) (q : Nat) : cntQ f (ms ++ ms') q = cntQ f ms q + cntQ f ms' q := by
  unfold cntQ
  rw [List.filter_append, List.length_append]
theorem cntQ_const {f : Nat → Nat} {ms : List Nat} {q0 : Nat} (h : ∀ x ∈ ms, f x = q0) (q : Nat) : cntQ f ms q = if q = q0 then ms.length else 0 := by
  unfold cntQ
  by_cases e : q = q0
  · rw [if_pos e, List.filter_eq_self.mpr fun x hx => decide_eq_true (by rw [h x hx, e])]
  · rw [if_neg e, List.filter_eq_nil_iff.mpr fun x hx => by
      rw [decide_eq_true_eq, h x hx]
      exact fun z => e z.symm]
    rfl
theorem cntQ_pos {f : Nat → Nat} {ms : List Nat} {q : Nat} (h : 1 ≤ cntQ f ms q) : q ∈ ms.map f := by
  unfold cntQ at h
  obtain ⟨x, hx⟩ := List.exists_mem_of_length_pos h
  obtain ⟨h1, h2⟩ := List.mem_filter.mp hx
  rw [decide_eq_true_eq] at h2
  exact List.mem_map.mpr ⟨x, h1, h2⟩
end Wn
namespace Wn
open PySem PySem.Spec PyProof.Rows L2
theorem rem_pow (b n x k j : Nat) : rem (b ^ k) n x j = rem b n x (k * j) := by
  unfold rem
  rw [Nat.pow_mul]
theorem IsPer.pow {b n k c : Nat} (h : IsPer b n (k * c)) (hk : 1 ≤ k) (hc : 1 ≤ c) : IsPer (b ^ k) n c := by
  obtain ⟨h1, h2, h3⟩ := h
  refine ⟨hc, by rw [← Nat.pow_mul]; exact h2, fun j hj1 hj2 => ?_⟩
  rw [← Nat.pow_mul]
  exact h3 (k * j) (Nat.mul_pos hk hj1) ((Nat.mul_lt_mul_left hk).mpr hj2)
theorem restSum_rl (b n x k c : Nat) : restSum b n x k c = (rl (b ^ k) n x c).sum := by
  unfold restSum rl
  refine congrArg List.sum (List.map_congr_left fun i _ => ?_)
  rw [rem_pow]
theorem rest_shift (b n x k : Nat) : ∀ m, restSum b n (rem b n x k) k m + rem b n x 0 = restSum b n x k (m + 1)
  | 0 => by
    rw [restSum_succ]
    simp [restSum]
  | m + 1 => by
    rw [restSum_succ, restSum_succ b n x k (m + 1), ← rest_shift b n x k m, rem_rem, show k + k * m = k * (m + 1) by rw [Nat.mul_succ, Nat.add_comm]]
    omega
theorem rest_next {b n x k c : Nat} (h : IsPer b n (k * c)) : restSum b n (rem b n x k) k c = restSum b n x k c := by
  have h1 := rest_shift b n x k c
  rw [restSum_succ, show rem b n x (k * c) = rem b n x 0 from by have := rem_cyc (x := x) h 0; rwa [Nat.zero_add] at this] at h1
  omega
theorem rest_orb {b n x k c : Nat} (h : IsPer b n (k * c)) (hx : x < n) : ∀ i, restSum b n (rem b n x (k * i)) k c = restSum b n x k c
  | 0 => by rw [Nat.mul_zero, rem_zero hx]
  | i + 1 => by
    rw [Nat.mul_succ, ← rem_rem, rest_next h]
    exact rest_orb h hx i
theorem rest_mem {b n x k c r : Nat} (h : IsPer b n (k * c)) (hx : x < n) (hr : r ∈ rl (b ^ k) n x c) : restSum b n r k c = restSum b n x k c := by
  obtain ⟨i, _, e⟩ := mem_rl.mp hr
  rw [← e, rem_pow]
  exact rest_orb h hx i
theorem rest_bal {b n k c x : Nat} (h : bal b n k c = true) : restSum b n x k c % n = 0 := by
  unfold bal at h
  rw [decide_eq_true_eq, restSum_mod, Nat.one_mul] at h
  rw [restSum_mod, Nat.mul_mod, h, Nat.mul_zero, Nat.zero_mod]
/-- the sum of the pieces is nines times the sum of the remainders over n -/
theorem pcs_div {b n x k c : Nat} (hb : 2 ≤ b) (hk : 1 ≤ k) (hn : 1 ≤ n) (h : IsPer b n (k * c)) : ((pcs b n x k c).sum % (b ^ k - 1) = 0 ↔ restSum b n x k c % n = 0) ∧ (restSum b n x k c % n = 0 → (pcs b n x k c).sum / (b ^ k - 1) = restSum b n x k c / n) := by
  have e := pcs_all (b := b) (n := n) (x := x) (k := k) (c := c) (by omega) (by have := rem_cyc (x := x) h 0; rwa [Nat.zero_add] at this)
  have b2 : 2 ≤ b ^ k := Nat.le_trans (by simpa using hb) (Nat.pow_le_pow_right (by omega) hk)
  have b1 : 1 ≤ b ^ k - 1 := by omega
  generalize b ^ k - 1 = m at e b1
  generalize (pcs b n x k c).sum = S at e
  generalize restSum b n x k c = R at e
  have h1 : ∀ t, R = n * t → S = m * t := fun t z => by
    rw [z] at e
    have : n * S = n * (m * t) := by
      rw [e]
      exact Nat.mul_left_comm m n t
    exact Nat.eq_of_mul_eq_mul_left hn this
  have h2 : ∀ t, S = m * t → R = n * t := fun t z => by
    rw [z] at e
    have : m * R = m * (n * t) := by
      rw [← e]
      exact Nat.mul_left_comm n m t
    exact Nat.eq_of_mul_eq_mul_left b1 this
  refine ⟨⟨fun z => ?_, fun z => ?_⟩, fun z => ?_⟩
  · obtain ⟨t, ht⟩ := Nat.dvd_of_mod_eq_zero z
    rw [h2 t ht, Nat.mul_mod_right]
  · obtain ⟨t, ht⟩ := Nat.dvd_of_mod_eq_zero z
    rw [h1 t ht, Nat.mul_mod_right]
  · obtain ⟨t, ht⟩ := Nat.dvd_of_mod_eq_zero z
    rw [h1 t ht, ht, Nat.mul_div_cancel_left _ b1, Nat.mul_div_cancel_left _ hn]
/-! the members of the orbits of the least ones -/
def msQ (B n c i : Nat) : List Nat := ((List.range i).filter (topB B n c)).flatMap fun y => rl B n y c
theorem msQ_succ (B n c i : Nat) : msQ B n c (i + 1) = msQ B n c i ++ (if topB B n c i = true then rl B n i c else []) := by
  unfold msQ
  rw [List.range_succ, List.filter_append, List.flatMap_append]
  by_cases h : topB B n c i = true
  · rw [if_pos h, List.filter_cons, if_pos h]
    simp
  · rw [if_neg h, List.filter_cons, if_neg h]
    simp
theorem mem_msQ {B n c i r : Nat} (g : Nat.gcd B n = 1) (h : IsPer B n c) (hi : i ≤ n) : r ∈ msQ B n c i ↔ Met B n c i r := by
  rw [met_top g h hi]
  unfold msQ
  rw [List.mem_flatMap]
  constructor
  · rintro ⟨y, hy, hr⟩
    obtain ⟨h1, h2⟩ := List.mem_filter.mp hy
    exact ⟨y, List.mem_range.mp h1, h2, mem_rl.mp hr⟩
  · rintro ⟨y, h1, h2, h3⟩
    exact ⟨y, List.mem_filter.mpr ⟨List.mem_range.mpr h1, h2⟩, mem_rl.mpr h3⟩
theorem rl_nodup {B n c x : Nat} (g : Nat.gcd B n = 1) (h : IsPer B n c) (gx : Nat.gcd x n = 1) : (rl B n x c).Nodup := by
  unfold rl
  rw [List.nodup_iff_pairwise_ne, List.pairwise_map, List.pairwise_iff_getElem]
  intro u v hu hv huv e
  rw [List.getElem_range, List.getElem_range] at e
  rw [List.length_range] at hu hv
  have := rem_once g gx h hu hv e
  omega
theorem msQ_nodup {B n c : Nat} (g : Nat.gcd B n = 1) (h : IsPer B n c) : ∀ i, i ≤ n → (msQ B n c i).Nodup
  | 0, _ => by simp [msQ]
  | i + 1, hi => by
    rw [msQ_succ]
    by_cases ht : topB B n c i = true
    · rw [if_pos ht]
      have gi := (top_iff.mp ht).1
      refine List.nodup_append.mpr ⟨msQ_nodup g h i (by omega), rl_nodup g h gi, fun x hx y hy e => ?_⟩
      subst e
      obtain ⟨y, h1, h2, h3⟩ := (mem_msQ g h (by omega)).mp hx
      have back := orb_symm h (by omega) (mem_rl.mp hy)
      have := orb_trans h (by omega) h3 back
      have nt := (not_top g h (by omega) gi).mpr ⟨y, h1, h2, this⟩
      rw [nt] at ht
      cases ht
    · rw [if_neg ht, List.append_nil]
      exact msQ_nodup g h i (by omega)
theorem filt_len {xs ys : List Nat} {p : Nat → Bool} (hx : xs.Nodup) (hy : ys.Nodup) (h : ∀ r, r ∈ xs ↔ r ∈ ys) : (xs.filter p).length = (ys.filter p).length := by
  refine Nat.le_antisymm (nodup_sub (hx.filter _) fun r hr => ?_) (nodup_sub (hy.filter _) fun r hr => ?_)
  · obtain ⟨h1, h2⟩ := List.mem_filter.mp hr
    exact List.mem_filter.mpr ⟨(h r).mp h1, h2⟩
  · obtain ⟨h1, h2⟩ := List.mem_filter.mp hr
    exact List.mem_filter.mpr ⟨(h r).mpr h1, h2⟩
/-- in the end all that have no common divisor with n -/
theorem met_all {B n c r : Nat} (hn : 1 ≤ n) (g : Nat.gcd B n = 1) (h : IsPer B n c) : Met B n c n r ↔ r < n ∧ Nat.gcd r n = 1 := by
  constructor
  · rintro ⟨y, h1, h2, i, h3, rfl⟩
    exact ⟨rem_lt hn, rem_cop g h2 i⟩
  · rintro ⟨h1, h2⟩
    exact ⟨r, h1, h2, 0, h.1, rem_zero h1⟩
theorem cnt_all {B n c : Nat} {f : Nat → Nat} {ts : List Nat} (hn : 1 ≤ n) (g : Nat.gcd B n = 1) (h : IsPer B n c) (ht : ts.Nodup) (hm : ∀ r, r ∈ ts ↔ r < n ∧ Nat.gcd r n = 1) (q : Nat) : cntQ f (msQ B n c n) q = cntQ f ts q :=
  filt_len (msQ_nodup g h n (Nat.le_refl _)) ht fun r => ((mem_msQ g h (Nat.le_refl _)).trans (met_all hn g h)).trans (hm r).symm
end Wn
/-! counts from both ends; how many there are -/
namespace Wn
open PySem PySem.Spec PyProof.Rows L2
theorem cnt_sum {f : Nat → Nat} {ks : List Nat} (nd : ks.Nodup) : ∀ ms : List Nat, (∀ x ∈ ms, f x ∈ ks) → (ks.map fun q => cntQ f ms q).sum = ms.length
  | [], hh => by
    clear hh
    induction ks with
    | nil => rfl
    | cons k r ih =>
      rw [List.map_cons, List.sum_cons, ih (List.nodup_cons.mp nd).2]
      rfl
  | x :: ms, h => by
    have ih := cnt_sum nd ms fun y hy => h y (List.mem_cons_of_mem _ hy)
    have one : ∀ q, cntQ f (x :: ms) q = (if f x = q then 1 else 0) + cntQ f ms q := fun q => by
      unfold cntQ
      rw [List.filter_cons]
      by_cases e : f x = q
      · rw [if_pos (decide_eq_true e), if_pos e, List.length_cons, Nat.add_comm]
      · rw [if_neg (by simpa using e), if_neg e, Nat.zero_add]
    have split : ∀ l : List Nat, (l.map fun q => cntQ f (x :: ms) q).sum = (l.map fun q => if f x = q then 1 else 0).sum + (l.map fun q => cntQ f ms q).sum := fun l => by
      induction l with
      | nil => rfl
      | cons a r ih =>
        rw [List.map_cons, List.map_cons, List.map_cons, List.sum_cons, List.sum_cons, List.sum_cons, ih, one]
        omega
    have hit : ∀ l : List Nat, l.Nodup → (l.map fun q => if f x = q then 1 else 0).sum = if f x ∈ l then 1 else 0 := fun l nl => by
      induction l with
      | nil => rfl
      | cons a r ih =>
        obtain ⟨n1, n2⟩ := List.nodup_cons.mp nl
        rw [List.map_cons, List.sum_cons, ih n2]
        by_cases e : f x = a
        · rw [if_pos e, if_neg (by rw [e]; exact n1), if_pos (by rw [e]; simp)]
        · rw [if_neg e]
          by_cases m : f x ∈ r
          · rw [if_pos m, if_pos (by simp [m])]
          · rw [if_neg m, if_neg (by simp [m, e])]
    rw [split, hit ks nd, if_pos (h x (by simp)), ih, List.length_cons, Nat.add_comm]
/-- the remainder of the other end -/
theorem rem_neg {b n x i : Nat} (hx : 1 ≤ x) (hxn : x < n) (g : Nat.gcd b n = 1) (gx : Nat.gcd x n = 1) (hn : 2 ≤ n) : rem b n (n - x) i + rem b n x i = n := by
  have h1 : (rem b n (n - x) i + rem b n x i) % n = 0 := by
    unfold rem
    rw [← Nat.add_mod, ← Nat.add_mul, Nat.sub_add_cancel (by omega), Nat.mul_mod_right]
  have h2 := rem_lt (b := b) (n := n) (x := x) (i := i) (by omega)
  have h3 := rem_lt (b := b) (n := n) (x := n - x) (i := i) (by omega)
  have h4 : 1 ≤ rem b n x i := by
    rcases Nat.eq_zero_or_pos (rem b n x i) with z | z
    · have := rem_cop g gx i
      rw [z, Nat.gcd_zero_left] at this
      omega
    · exact z
  obtain ⟨t, ht⟩ := Nat.dvd_of_mod_eq_zero h1
  have : t = 1 := by
    rcases Nat.lt_or_ge t 2 with z | z
    · have : t ≠ 0 := fun z => by
        rw [z, Nat.mul_zero] at ht
        omega
      omega
    · have : n * 2 ≤ n * t := Nat.mul_le_mul_left _ z
      omega
  rw [this, Nat.mul_one] at ht
  exact ht
theorem rest_neg {b n x k : Nat} (hx : 1 ≤ x) (hxn : x < n) (g : Nat.gcd b n = 1) (gx : Nat.gcd x n = 1) (hn : 2 ≤ n) : ∀ c, restSum b n (n - x) k c + restSum b n x k c = n * c
  | 0 => by simp [restSum]
  | c + 1 => by
    have e1 := rest_neg (b := b) (k := k) hx hxn g gx hn c
    have e2 := rem_neg (b := b) (i := k * c) hx hxn g gx hn
    rw [restSum_succ, restSum_succ, Nat.mul_succ]
    omega
theorem rest_pos {b n x k c : Nat} (hx : 1 ≤ x) (hxn : x < n) (g : Nat.gcd b n = 1) (gx : Nat.gcd x n = 1) (hn : 2 ≤ n) (hc : 1 ≤ c) : 1 ≤ restSum b n x k c := by
  obtain ⟨c, rfl⟩ : ∃ d, c = d + 1 := ⟨c - 1, by omega⟩
  rw [restSum_succ]
  have h4 : 1 ≤ rem b n x (k * c) := by
    rcases Nat.eq_zero_or_pos (rem b n x (k * c)) with z | z
    · have := rem_cop g gx (k * c)
      rw [z, Nat.gcd_zero_left] at this
      omega
    · exact z
  omega
/-- the quotient of the other end -/
theorem quo_neg {b n x k c : Nat} (hx : 1 ≤ x) (hxn : x < n) (g : Nat.gcd b n = 1) (gx : Nat.gcd x n = 1) (hn : 2 ≤ n) (h : restSum b n x k c % n = 0) : restSum b n (n - x) k c / n + restSum b n x k c / n = c := by
  have e := rest_neg (b := b) (k := k) hx hxn g gx hn c
  obtain ⟨t, ht⟩ := Nat.dvd_of_mod_eq_zero h
  rw [ht] at e ⊢
  have hle : n * t ≤ n * c := by omega
  have htc : t ≤ c := Nat.le_of_mul_le_mul_left hle (by omega)
  have e2 : restSum b n (n - x) k c = n * (c - t) := by
    rw [Nat.mul_sub]
    omega
  rw [e2, Nat.mul_div_cancel_left _ (by omega), Nat.mul_div_cancel_left _ (by omega)]
  omega
theorem neg_cop {n x : Nat} (hx : x ≤ n) (g : Nat.gcd x n = 1) : Nat.gcd (n - x) n = 1 := by
  have h := Nat.gcd_dvd_left (n - x) n
  have h2 := Nat.gcd_dvd_right (n - x) n
  have h3 : Nat.gcd (n - x) n ∣ x := by
    have := Nat.dvd_sub h2 h
    rwa [show n - (n - x) = x by omega] at this
  have := Nat.dvd_gcd h3 h2
  rw [g] at this
  exact Nat.dvd_one.mp this
end Wn
namespace Wn
open PySem PySem.Spec PyProof.Rows L2
/-! list.count of flat items -/
theorem count_vals {y : V} : ∀ {ys : List V} {its : List Value}, Vals ys its → ys.all flatV = true → its.countP (eqU y) = ys.countP fun z => eqV z y
  | [], _, h, _ => by cases h; rfl
  | z :: ys, _, h, f => by
    cases h with
    | cons rz rt =>
      rw [List.all_cons, Bool.and_eq_true] at f
      rw [List.countP_cons, List.countP_cons, count_vals rt f.2, eqU_of rz f.1]
section
variable {X : Cx}
def rCount (K : PySem.W.Frag) : V → List V → Hp → VK → Prop := fun x xs H Q => ∃ (a : Addr) (ys : List V) (y : V), x = V.ref a ∧ xs = [y] ∧ SqL K H a ys ∧ flatV y = true ∧ ys.all flatV = true ∧ Q (.int ((ys.countP fun z => eqV z y : Nat) : Int)) H
theorem mt_count : MtR X "list.count" (rCount X.K) := by
  intro pins s σ H x xs v us Q I rx rxs h
  obtain ⟨a, ys, y, rfl, rfl, hs, fy, fys, q⟩ := h
  cases rx
  cases rxs with
  | cons ry rt =>
    rename_i uy ut
    cases rt
    obtain ⟨its, rv, ⟨⟨cls, dd, data, sl⟩, n, ho, hc, hdn, hd⟩, hlen⟩ := I.list hs
    simp only at hc hd
    subst hc hd
    refine call_meets PySem.F.slot_list_count ⟨_, ho, rfl⟩ PySem.F.entry_list_count (PySem.F.args_list_count_2 _ _)
      (SeqAt.list_countAt a its.toArray n dd sl uy (eqU y)) ⟨ho, fun u' hu' => mem_eqAt ry fy rv fys u' (by simpa using hu'), ?_⟩
    rw [← count_vals rv fys] at q
    exact ⟨.int (its.countP (eqU y) : Nat), H, I.tok _, ⟨_, rfl⟩, q⟩
variable {T : String} {name id : Str} {r : V → List V → Hp → VK → Prop} {o e : Expr} {es : List Expr} {to : TE} {t : TA} {apos cpos : Pos}
theorem pe_bmC {K' : PySem.W.Frag} {idn : String} {nm : Str} (pa : PlainAttrs T) (slot : Slot T nm idn) (hty : typeOf (.builtin idn) = pure (.type "method_descriptor")) (hm : MtR X idn r) (ho : PE X o to) (ha : PA X (e :: es) t) (hK : X.K = K')
    (hbase : attributeBase o nm X.env (eval o X.env) = eval o X.env := by rfl)
    (hfew : ((backTo cpos (starEach (e :: es) X.env)).all (fun x => !x.1) && (backToKw cpos (keywordEach [] X.env)).all (fun x => x.1.isSome)
      && decide ((e :: es).length + ([] : List Keyword).length + (if ([] : List Keyword).isEmpty then 0 else 1) < 30)) = true := by rfl)
    (hline : (apos.endLine == cpos.line) = true := by rfl) (hs : starEach (e :: es) X.env = (false, eval e X.env) :: starEach es X.env := by rfl) (hplain : (backTo cpos (starEach es X.env)).any (·.1) = false := by rfl) :
    PE X (.Call (.Attribute o nm apos) (e :: es) [] cpos) (tBM K' T r to t) := hK ▸ pe_bm pa slot hty hm ho ha hbase hfew hline hs hplain
end
end Wn
/-! enumerate over a tuple -/
namespace Wn
open PySem PySem.Spec PyProof.Rows L2
theorem meets_enum1 {v : Value} {o : Obj} {G : Heap → Prop} (B : Begins v o G) :
    Meets (Builtin.«enumerate.__new__» ⟨[.type "enumerate", v], []⟩) (fun _ R s => G s.heap ∧
      R (.ok (.ret (.ref (s.heap.push o).objs.size))) { s with heap := (s.heap.push o).push { cls := .type "enumerate", data := .fields #[.none, .bool false, .ref s.heap.objs.size, rawInt 0, .none, .none] } }) :=
  .of_wp fun prog w A R s h => by
    obtain ⟨h0, g, d, tk, os⟩ := s
    obtain ⟨h1, h⟩ := h
    have hsub := sub_enumerate
    have q1 : ∀ {A' : Around} {E : Value → Shared → Prop} {Q : Value → Shared → Prop}, Q (.ref h0.objs.size) ⟨h0.push o, g, d, tk, os⟩ → wpAny (model prog w) A' (pyIter v) Q E ⟨h0, g, d, tk, os⟩ :=
      fun q => B.iter prog w _ _ ⟨h0, g, d, tk, os⟩ _ h1 q
    wp_walk using q1
    refine wpAny_stack_any fun st => wpAny_pure ?_
    split
    · rename_i c _ _ _ _ _
      cases (c == Value.type "enumerate")
      · wp_walk using q1
        exact ⟨_, rfl, h⟩
      · wp_walk using q1
        exact ⟨_, rfl, h⟩
    · wp_walk using q1
      exact ⟨_, rfl, h⟩
theorem enum1 {prog : Program} {w : World} {A : Around} {E : Value → Shared → Prop} {s : Shared} {v : Value} {o : Obj} {G : Heap → Prop} {Q : Value → Shared → Prop} (B : Begins v o G) (h1 : G s.heap)
    (h : ∀ h', IsEnum h' (s.heap.objs.size + 1) s.heap.objs.size 0 .none → h'.get? s.heap.objs.size = some o → (∀ b o, s.heap.get? b = some o → h'.get? b = some o) → Q (.ref (s.heap.objs.size + 1)) { s with heap := h' }) :
    wpAny (model prog w) A (call (.type "enumerate") [v]) Q E s := by
  refine callType_new F.called_enumerate (by decide) (F.typeCall_enumerate_1 _) (F.newCall_enumerate_1 _) (fun obj => F.args_object_init_2 obj _) F.entry_enumerate_new (meets_enum1 B) ⟨h1, ?_⟩
  have hz : (s.heap.push o).objs.size = s.heap.objs.size + 1 := Heap.size_push ..
  show _ ∧ _
  rw [hz]
  have he : IsEnum ((s.heap.push o).push { cls := .type "enumerate", data := .fields #[.none, .bool false, .ref s.heap.objs.size, rawInt 0, .none, .none] }) (s.heap.objs.size + 1) s.heap.objs.size 0 .none := by
    have z := Heap.get?_push_size (s.heap.push o) (o := { cls := .type "enumerate", data := .fields #[.none, .bool false, .ref s.heap.objs.size, rawInt 0, .none, .none] }) rfl
    rw [hz] at z
    exact z
  exact ⟨⟨_, he, rfl⟩, h _ he (Heap.get?_push_of_some _ (Heap.get?_push_size _ B.free)) fun b u x => Heap.get?_push_of_some _ (Heap.get?_push_of_some _ x)⟩
/-- the tuple at a as it stands, each item in a new pair -/
def ItE (K : PySem.W.Frag) (a : Addr) : It :=
  ⟨fun i H => ∃ (xs : List V) (x : V), SqT K H a xs ∧ xs[i]? = some x, fun i H v H' => ∃ T x, v = .ref T ∧ H T = none ∧ H' = upd H T (.tup [.int (i : Nat), x]) ∧ ∀ xs, SqT K H a xs → xs[i]? = some x, fun i H => ∃ xs : List V, SqT K H a xs ∧ xs.length = i⟩
theorem turn_enumT {P : Program} {w : World} {K : PySem.W.Frag} {elts : List Expr} {kk : Nat} {tpos : Pos} (a e it : Addr) (its : Array Value) (hat : a ≠ it) (hae : a ≠ e) (hne : e ≠ it) :
    Turn P w K (.Tuple elts kk tpos) (ItE K a) [e, it] e (fun i h => (∃ old, IsEnum h e it ((i : Nat) : Int) old) ∧ h.IsTupleIter it a i) where
  mem := by simp
  obj := fun i h st b hb => by
    obtain ⟨⟨old, he⟩, ⟨o, ho, hc, hd⟩⟩ := st
    have e' : b = e ∨ b = it := by simpa using hb
    rcases e' with z | z
    · rw [z]
      exact ⟨_, he, fun v q => nomatch q⟩
    · rw [z]
      exact ⟨o, ho, fun v q => by rw [hd] at q; cases q⟩
  keep := fun i h h' st k => let ⟨⟨old, he⟩, hi⟩ := st; ⟨⟨old, k e (by simp) _ he⟩, hi.at fun o q => k it (by simp) o q⟩
  item := by
    intro X hP hw hK hc i pins s σ H E I hf st hg
    subst hP hw hK
    obtain ⟨⟨old, he⟩, hit⟩ := st
    obtain ⟨xs, x, hq, hx⟩ := hg
    obtain ⟨vs, rv, p, hz⟩ := I.tuple hq
    obtain ⟨u, hu, ru⟩ := rv.get hx
    have hel : e < s.heap.objs.size := Heap.lt_size he
    have hil : it < s.heap.objs.size := by
      obtain ⟨_, q, _⟩ := hit
      exact Heap.lt_size q
    have D := Draws.tuple (prog := X.prog) (w := X.w) (A := X.A.in1) (I.ok.hd hc) it a hat vs.toArray
    have lt : i < vs.toArray.size := by
      rw [List.size_toArray]
      exact (List.getElem?_eq_some_iff.mp hu).1
    refine wpAny_pyNext_enum_itemD D he ⟨hit, p⟩ lt hne (by simpa using ⟨hne, Ne.symm hae⟩) fun x' h' tk hp ho hs' hT hsz hk => ?_
    have ex : x' = u := by
      have z : vs.toArray[i]? = some x' := hp
      rw [show vs.toArray[i]? = vs[i]? by simp, hu] at z
      exact (Option.some.inj z).symm
    subst ex
    refine ⟨_, rfl, wpAny_letOwnedTupleGo_enum (s := { s with heap := h', toks := tk + 1 }) ho fun h'' he' sb => ?_⟩
    have hT2 : h''.get? s.heap.objs.size = some { cls := .type "tuple", data := .seq #[.int i tk, x'] } := (sb.2 _ (Nat.ne_of_gt hel)).trans hT
    have new : ObjOk X.prog X.w (upd H s.heap.objs.size (.tup [.int (i : Nat), x])) h'' s.heap.objs.size (.tup [.int (i : Nat), x]) :=
      ⟨by show 2 ≤ sizeLine; decide, [.int i tk, x'], .cons ⟨_, rfl⟩ (.cons ru .nil), ⟨_, hT2, rfl, _, rfl⟩⟩
    have I1 : Inv X pins σ (upd H s.heap.objs.size (.tup [.int (i : Nat), x])) { s with heap := h'', toks := tk + 1 } :=
      I.turnedNew (ch := [e, it]) (fun b ob hb q => (sb.2 b (fun z => hb (by simp [z]))).trans (hk b ob (fun z => hb (by simp [z])) (fun z => hb (by simp [z])) q)) hf (Nat.le_refl _) new
    refine ⟨.ref s.heap.objs.size, _, I1, rfl, ⟨_, x, rfl, I.hok.fresh (Nat.le_refl _), rfl, fun ys hy => by rw [I.tuple_inj hy hq]; exact hx⟩, ⟨⟨x', ?_⟩, hs'.1.at fun o q => (sb.2 it (Ne.symm hne)).trans q⟩, fun b hb => ?_⟩
    · have e1 : ((i + 1 : Nat) : Int) = (i : Int) + 1 := by omega
      rw [e1]
      exact he'
    · have hb' : b < s.heap.objs.size := by
        have e' : b = e ∨ b = it := by simpa using hb
        rcases e' with z | z
        · rw [z]
          exact hel
        · rw [z]
          exact hil
      rw [upd_ne (Nat.ne_of_lt hb')]
      exact (hf b hb).1
  done := by
    intro X hP hw hK hc i pins s σ H E I hf st hg
    subst hP hw hK
    obtain ⟨⟨old, he⟩, hit⟩ := st
    obtain ⟨xs, hq, hx⟩ := hg
    obtain ⟨vs, rv, p, hz⟩ := I.tuple hq
    obtain ⟨f0, f1, f2, f3, f4, f5⟩ := hf it (by simp)
    have hl := rv.length
    have D := Draws.tuple (prog := X.prog) (w := X.w) (A := X.A.in1) (I.ok.hd hc) it a hat vs.toArray
    have en : vs.toArray.size = i := by
      rw [List.size_toArray, ← hl, hx]
    refine wpAny_pyNext_enum_endD D he ⟨by rw [en]; exact hit, p⟩ fun h' eb => ⟨rfl, I.turned (t' := s.toks) (fun b o hb q => eb b o hb q) f0 f1 f3 f4 f5⟩
  self := fun A i s Q E st h => let ⟨⟨_, he⟩, _⟩ := st; wpAny_pyIter_enum he h
def iEnumT (K : PySem.W.Frag) (ta : TA) : TI := fun σ H R => ta σ H fun vs H1 => ∃ a xs, vs = [.ref a] ∧ SqT K H1 a xs ∧ R (ItE K a) H1
theorem pi_enumT {X : Cx} {e : Expr} {ta : TA} {p pos tpos : Pos} {elts : List Expr} {kk : Nat} (hg : Gl X "enumerate") (hm : X.mg "enumerate" = none) (ha : PA X [e] ta) (hs : starEach [e] X.env = [(false, eval e X.env)] := by rfl) :
    PI X (.Tuple elts kk tpos) (.Call (.Name "enumerate" p) [e] [] pos) (iEnumT X.K ta) := by
  refine ⟨fun pins s σ H R I h => ?_⟩
  refine Call_ (ld_blt I hg hm boot_enumerate (PyProof.Rows.callWith_type1 (thn (ha.run pos pins s σ H _ I h) fun us s1 hh => ?_) hs rfl))
  obtain ⟨vs, H1, I1, r1, a, xs, ex, hq, q⟩ := hh
  subst ex
  cases r1 with
  | cons r rr =>
    cases rr
    cases r
    obtain ⟨its, rv, p', hz⟩ := I1.tuple hq
    have pT : s1.heap.IsTuple a its.toArray := p'
    refine enum1 (begins_tuple a its.toArray) pT fun h' he hit hk => wpAny_pyIter_enum he ?_
    have I2 : Inv X pins σ H1 { s1 with heap := h' } := I1.kept (t' := s1.toks) hk
    have hlt : a < s1.heap.objs.size := by
      obtain ⟨o, e, _⟩ := pT
      exact Heap.lt_size e
    refine ⟨s1.heap.objs.size + 1, [s1.heap.objs.size + 1, s1.heap.objs.size], _, _, H1, rfl, I2, turn_enumT a (s1.heap.objs.size + 1) s1.heap.objs.size its.toArray (Nat.ne_of_lt hlt) (Nat.ne_of_lt (Nat.lt_succ_of_lt hlt)) (Nat.succ_ne_self _), ⟨⟨.none, he⟩, ⟨_, hit, rfl, rfl⟩⟩, fun b hb => ?_, q⟩
    have e' : b = s1.heap.objs.size + 1 ∨ b = s1.heap.objs.size := by simpa using hb
    have hle : s1.heap.objs.size ≤ b := by
      rcases e' with z | z
      · rw [z]
        exact Nat.le_add_right _ _
      · rw [z]
        exact Nat.le_refl _
    exact I1.fpOk hle (I1.hok.fresh hle)
theorem for_enumT {K : PySem.W.Frag} {a : Addr} {xs : List V} {g : TG} {tb : TS} {D : Ends} {σ : L2.St} {H : Hp} (Pv : Nat → L2.St → Hp → Prop) (h0 : Pv 0 σ H) (hl : ∀ i σ H, i ≤ xs.length → Pv i σ H → SqT K H a xs)
    (hs : ∀ i x T σ H, xs[i]? = some x → H T = none → Pv i σ H → g (.ref T) σ (upd H T (.tup [.int (i : Nat), x])) fun σ2 H2 => tb { D with nx := Pv (i + 1), ct := Pv (i + 1), bk := D.nx } σ2 H2) (hd : ∀ σ H, Pv xs.length σ H → D.nx σ H) :
    ∃ W : Nat → Nat → L2.St → Hp → Prop, (∃ m, W 0 m σ H) ∧ ∀ i m σ H, W i m σ H →
      ((ItE K a).stop i H ∧ D.nx σ H) ∨ ((ItE K a).go i H ∧ ∃ N : L2.St → Hp → Prop, (∀ σ' H', N σ' H' → ∃ m', m' < m ∧ W (i + 1) m' σ' H') ∧ ∀ x H', (ItE K a).yld i H x H' → g x σ H' fun σ2 H2 => tb { D with nx := N, ct := N, bk := D.nx } σ2 H2) := by
  refine ⟨fun i m σ H => m = xs.length - i ∧ i ≤ xs.length ∧ Pv i σ H, ⟨xs.length, by simp, Nat.zero_le _, h0⟩, ?_⟩
  rintro i m σ H ⟨em, hi, p⟩
  subst em
  have sq := hl i σ H hi p
  rcases Nat.lt_or_eq_of_le hi with lt | e
  · refine .inr ⟨⟨xs, xs[i], sq, by simp [lt]⟩, Pv (i + 1), fun σ' H' p' => ⟨xs.length - (i + 1), by omega, rfl, lt, p'⟩, fun x H' y => ?_⟩
    obtain ⟨T, z, e1, e2, e3, e4⟩ := y
    subst e1 e3
    exact hs i z T σ H (e4 xs sq) e2 p
  · subst e
    exact .inl ⟨⟨xs, sq, rfl⟩, hd σ H p⟩
end Wn
namespace Wn
open PySem PySem.Spec PyProof.Rows L2
/-! enumerate of a list, in a loop and in a comprehension -/
theorem for_enumL {K : PySem.W.Frag} {a : Addr} {xs : List V} {g : TG} {tb : TS} {D : Ends} {σ : L2.St} {H : Hp} (Pv : Nat → L2.St → Hp → Prop) (h0 : Pv 0 σ H) (hl : ∀ i σ H, i ≤ xs.length → Pv i σ H → SqL K H a xs)
    (hs : ∀ i x T σ H, xs[i]? = some x → H T = none → Pv i σ H → g (.ref T) σ (upd H T (.tup [.int (i : Nat), x])) fun σ2 H2 => tb { D with nx := Pv (i + 1), ct := Pv (i + 1), bk := D.nx } σ2 H2) (hd : ∀ σ H, Pv xs.length σ H → D.nx σ H) :
    ∃ W : Nat → Nat → L2.St → Hp → Prop, (∃ m, W 0 m σ H) ∧ ∀ i m σ H, W i m σ H →
      ((Ite K a).stop i H ∧ D.nx σ H) ∨ ((Ite K a).go i H ∧ ∃ N : L2.St → Hp → Prop, (∀ σ' H', N σ' H' → ∃ m', m' < m ∧ W (i + 1) m' σ' H') ∧ ∀ x H', (Ite K a).yld i H x H' → g x σ H' fun σ2 H2 => tb { D with nx := N, ct := N, bk := D.nx } σ2 H2) := by
  refine ⟨fun i m σ H => m = xs.length - i ∧ i ≤ xs.length ∧ Pv i σ H, ⟨xs.length, by simp, Nat.zero_le _, h0⟩, ?_⟩
  rintro i m σ H ⟨em, hi, p⟩
  subst em
  have sq := hl i σ H hi p
  rcases Nat.lt_or_eq_of_le hi with lt | e
  · refine .inr ⟨⟨xs, xs[i], sq, by simp [lt]⟩, Pv (i + 1), fun σ' H' p' => ⟨xs.length - (i + 1), by omega, rfl, lt, p'⟩, fun x H' y => ?_⟩
    obtain ⟨T, z, e1, e2, e3, e4⟩ := y
    subst e1 e3
    exact hs i z T σ H (e4 xs sq) e2 p
  · subst e
    exact .inl ⟨⟨xs, sq, Nat.le_refl _⟩, hd σ H p⟩
theorem lc_enumL {K : PySem.W.Frag} {a : Addr} {xs : List V} {g : TG} {tt : TT} {te : TE} {vs : List Nat} {σ : L2.St} {H1 : Hp} {D : Addr} {Qd : Hp → Prop} (Pv : Nat → Hp → Prop) (h0 : Pv 0 (upd H1 D (.lst []))) (hl : ∀ i H, i ≤ xs.length → Pv i H → SqL K H a xs)
    (hs : ∀ i x T H, xs[i]? = some x → H T = none → Pv i H → g (.ref T) (wipe σ vs) (upd H T (.tup [.int (i : Nat), x])) fun σ2 H2 => wipe σ2 vs = wipe σ vs ∧ tt σ2 H2 fun b H3 =>
      if b = true then te σ2 H3 fun y H4 => ∃ acc, H4 D = some (.lst acc) ∧ acc.length < sizeLine ∧ Pv (i + 1) (upd H4 D (.lst (acc ++ [y]))) else Pv (i + 1) H3) (hd : ∀ H, Pv xs.length H → Qd H) :
    ∃ W : Nat → Nat → Hp → Prop, (∃ m, W 0 m (upd H1 D (.lst []))) ∧ ∀ i m H, W i m H →
      ((Ite K a).stop i H ∧ Qd H) ∨ ((Ite K a).go i H ∧ ∃ Nx : Hp → Prop, (∀ H', Nx H' → ∃ m', m' < m ∧ W (i + 1) m' H') ∧ ∀ x H', (Ite K a).yld i H x H' → g x (wipe σ vs) H' fun σ2 H2 => wipe σ2 vs = wipe σ vs ∧ tt σ2 H2 fun b H3 =>
        if b = true then te σ2 H3 fun y H4 => ∃ acc, H4 D = some (.lst acc) ∧ acc.length < sizeLine ∧ Nx (upd H4 D (.lst (acc ++ [y]))) else Nx H3) := by
  refine ⟨fun i m H => m = xs.length - i ∧ i ≤ xs.length ∧ Pv i H, ⟨xs.length, by simp, Nat.zero_le _, h0⟩, ?_⟩
  rintro i m H ⟨em, hi, p⟩
  subst em
  have q := hl i H hi p
  rcases Nat.lt_or_eq_of_le hi with lt | e
  · refine .inr ⟨⟨xs, xs[i], q, by simp [lt]⟩, Pv (i + 1), fun H' p' => ⟨xs.length - (i + 1), by omega, rfl, lt, p'⟩, fun x H' y => ?_⟩
    obtain ⟨T, z, e1, e2, e3, e4⟩ := y
    subst e1 e3
    exact hs i z T H (e4 xs q) e2 p
  · subst e
    exact .inl ⟨⟨xs, q, Nat.le_refl _⟩, hd H p⟩
end Wn
namespace Wn
/-! the length (order) of a residue -/
def ordN (n r : Nat) : Nat := if Nat.gcd r n = 1 then (match (List.range n).find? fun j => r ^ (j + 1) % n == 1 % n with
  | some j => j + 1
  | none => 0) else 0
theorem ordN_no {n r : Nat} (h : Nat.gcd r n ≠ 1) : ordN n r = 0 := if_neg h
theorem find_least {n : Nat} {p : Nat → Bool} {j : Nat} (hj : j < n) (h : p j = true) (hl : ∀ i, i < j → p i = false) : (List.range n).find? p = some j := by
  rw [List.find?_range_eq_some]
  refine ⟨h, List.mem_range.mpr hj, fun i hi => ?_⟩
  rw [hl i hi]
  rfl
theorem ordN_per {n r : Nat} (hn : 1 ≤ n) (h : Nat.gcd r n = 1) : IsPer r n (ordN n r) ∧ ordN n r ≤ n := by
  obtain ⟨L, hL, hP⟩ := per_exists hn h
  have e : ordN n r = L := by
    unfold ordN
    rw [if_pos h, find_least (j := L - 1) (by have := hP.1; omega) (by
      rw [Nat.sub_add_cancel hP.1, beq_iff_eq]
      exact hP.2.1) fun i hi => by
        rw [beq_eq_false_iff_ne]
        exact hP.2.2 (i + 1) (by omega) (by omega)]
    exact Nat.sub_add_cancel hP.1
  rw [e]
  exact ⟨hP, hL⟩
theorem ordN_eq {n r L : Nat} (hn : 1 ≤ n) (h : Nat.gcd r n = 1) (hP : IsPer r n L) : ordN n r = L := (ordN_per hn h).1.uniq hP
theorem ordN_pos {n r : Nat} (hn : 1 ≤ n) : ordN n r ≠ 0 ↔ Nat.gcd r n = 1 := by
  constructor
  · intro h
    by_cases g : Nat.gcd r n = 1
    · exact g
    · exact absurd (ordN_no g) h
  · intro g
    have := (ordN_per hn g).1.1
    omega
theorem ordN_le {n r : Nat} (hn : 1 ≤ n) : ordN n r ≤ n := by
  by_cases g : Nat.gcd r n = 1
  · exact (ordN_per hn g).2
  · rw [ordN_no g]
    exact Nat.zero_le _
theorem per_pow {n r L k : Nat} (h : IsPer r n L) (hk : 1 ≤ k) : IsPer (r ^ k % n) n (L / Nat.gcd k L) := by
  have hL := h.1
  have g0 : 0 < Nat.gcd k L := Nat.gcd_pos_of_pos_left L hk
  have key : ∀ j, (r ^ k % n) ^ j % n = 1 % n ↔ L / Nat.gcd k L ∣ j := fun j => by
    rw [← Nat.pow_mod, ← Nat.pow_mul, h.iff]
    obtain ⟨a, ha⟩ := Nat.gcd_dvd_left k L
    obtain ⟨c, hc⟩ := Nat.gcd_dvd_right k L
    have cop := Nat.coprime_div_gcd_div_gcd (m := k) (n := L) g0
    have e1 : L / Nat.gcd k L = c := Nat.div_eq_of_eq_mul_right g0 hc
    have e2 : k / Nat.gcd k L = a := Nat.div_eq_of_eq_mul_right g0 ha
    rw [e1, e2] at cop
    rw [e1]
    generalize Nat.gcd k L = g at g0 ha hc
    rw [ha, hc, Nat.mul_assoc]
    constructor
    · intro d
      exact (Nat.Coprime.symm cop).dvd_of_dvd_mul_left (Nat.dvd_of_mul_dvd_mul_left g0 d)
    · intro d
      exact Nat.mul_dvd_mul_left g (Nat.dvd_trans d (Nat.dvd_mul_left j a))
  refine ⟨Nat.div_pos (Nat.le_of_dvd hL (Nat.gcd_dvd_right k L)) g0, (key _).mpr (Nat.dvd_refl _), fun j j1 jd z => ?_⟩
  have := Nat.le_of_dvd (by omega) ((key j).mp z)
  omega
end Wn
namespace Wn
open PySem PySem.Spec PyProof.Rows L2
open PySem.HandSPX
section
variable {X : Cx} {C : Addr} {f : Str}
/-- error.f, the error that the suite holds (at a; its class cls, its dict d) -/
def tByE (C : Addr) (f : Str) (a : Addr) (cls : Value) (d : Option Addr) (te : TE) : TE := fun σ H Q => te σ H fun x H1 => x = .ref a ∧ cls = .ref C ∧ ∃ (dd : Addr) (v : V), d = some dd ∧ H1 dd = some (.xd [(f, v)]) ∧ Q v H1
theorem pe_byE {a : Addr} {oe : Obj} {cls : Value} {d : Option Addr} {pn : List (Addr × Obj)} {e : Expr} {te : TE} {pos : Pos} (T : XfC X.K C) (hno : PySem.W.findIn X.K (.ref C) f = some none) (hz : Zc cls d oe) (hf : ∃ vs, oe.data = .fields vs) (he : PE (X.suite a ((a, oe) :: pn)) e te)
    (hb : attributeBase e f X.env (eval e X.env) = eval e X.env := by rfl) :
    PE (X.suite a ((a, oe) :: pn)) (.Attribute e f pos) (tByE C f a cls d te) := by
  refine ⟨fun pins s σ H Q I h => ?_⟩
  refine attr_of hb (thn (he.run pins s σ H _ I h) fun u s1 hh => ?_)
  obtain ⟨x, H1, I1, rx, ex, ec, dd, v, ed, ea, q⟩ := hh
  subst ex
  obtain rfl : u = Value.ref a := rx
  subst ec
  subst ed
  obtain ⟨ha, _⟩ := I1.pin (a, oe) (List.mem_append_left _ List.mem_cons_self)
  obtain ⟨vs, hd⟩ := hf
  have hx : ObjOk X.prog X.w H1 s1.heap dd (.xd [(f, v)]) := I1.hok dd _ ea
  obtain ⟨mA, hns, hr⟩ := hx
  obtain ⟨od, ho, hl⟩ := lookIn_ns hns
  have l : List.lookup f [(f, v)] = some v := by simp [List.lookup]
  obtain ⟨u, hu, ru⟩ := RelO.some_of (v := v) (o := mA f) (by rw [← l]; exact hr f)
  have J : PySem.W.InstAt s1.heap a oe C (some od) := ⟨ha, hz.1, by unfold PySem.W.notCls; rw [hd] <;> rfl, by rw [hz.2]; exact ho⟩
  exact PySem.HandSPX.exc_get I1.kIn J T.ga T.gg T.exC (PySem.W.findObj_own T.hdC hno rfl (by rw [hl, hu])) (handed_of ru) ⟨v, H1, I1.tok _, ru, q⟩
end
section
variable {X : Cx}
def rLcm : List V → Hp → VK → Prop := fun vs H Q => ∃ a b : Nat, vs = [.int a, .int b] ∧ (a ≤ 100000 ∧ b ≤ 100000) ∧ Q (.int ((Nat.lcm a b : Nat) : Int)) H
theorem cr_lcm : CallR X (.builtin "math.lcm") rLcm := by
  intro pins s σ H vs us Q I r h
  obtain ⟨a, b, rfl, ⟨ha, hb⟩, q⟩ := h
  obtain ⟨t, u, rfl⟩ := Vals.int2 r
  have e : (((Nat.lcm 1 (a : Int).natAbs).lcm (b : Int).natAbs : Nat) : Int) = ((Nat.lcm a b : Nat) : Int) := by
    rw [Int.natAbs_natCast, Int.natAbs_natCast, Nat.lcm_one_left]
  refine PySem.W.mg_lcm (by rw [Int.natAbs_natCast]; omega) (by rw [Int.natAbs_natCast]; omega) ?_ ?_
  · rw [e, Int.natAbs_natCast]
    have h1 : Nat.lcm a b ≤ a * b := by
      unfold Nat.lcm
      exact Nat.div_le_self _ _
    have h2 : a * b ≤ 100000 * 100000 := Nat.mul_le_mul ha hb
    have h3 : Nat.lcm a b < 2 ^ 40 := Nat.lt_of_le_of_lt (Nat.le_trans h1 h2) (by decide)
    exact Nat.lt_trans (PySem.Flt.log2_lt_of (by decide) h3) (by decide)
  · rw [e]
    exact ⟨.int _, H, I.tok _, ⟨_, rfl⟩, q⟩
/-- t.index(x), ints, the first place -/
def rIdxT (K : PySem.W.Frag) : V → List V → Hp → VK → Prop := fun x xs H Q => ∃ (p : Addr) (ys : List Nat) (z j : Nat), x = .ref p ∧ xs = [.int (z : Nat)] ∧ SqT K H p (vn ys) ∧ ys[j]? = some z ∧ (∀ m, m < j → ys[m]? ≠ some z) ∧ Q (.int (j : Nat)) H
theorem flat_vnT : ∀ xs : List Nat, (vn xs).all flatV = true
  | [] => rfl
  | x :: r => by
    show (true && (vn r).all flatV) = true
    rw [flat_vnT r]
    rfl
theorem mt_tup_indexN : MtR X "tuple.index" (rIdxT X.K) := by
  intro pins s σ H x xs v us Q I rx rs h
  obtain ⟨p, ys, z, j, rfl, rfl, hq, hy, hno, q⟩ := h
  cases rx
  obtain ⟨u, rfl, t, rfl⟩ := vals1 rs
  obtain ⟨its, r, pl, hz⟩ := I.tuple hq
  obtain ⟨⟨cls, dd, dt, sl⟩, ho, hc, n, hd⟩ := pl
  simp only at hc hd
  subst hc
  subst hd
  have hl : its.toArray.size = ys.length := by rw [List.size_toArray, ← r.length, vn_len]
  have hj : j < its.toArray.size := by rw [hl]; exact (List.getElem?_eq_some_iff.mp hy).1
  have at' : ∀ (m : Nat) (hm : m < its.toArray.size), ∃ (y : Nat) (t' : Tok), ys[m]? = some y ∧ its.toArray[m] = Value.int (y : Nat) t' := fun m hm => by
    have hm' : m < ys.length := by rw [← hl]; exact hm
    obtain ⟨w, hw, t', hw'⟩ := r.get (i := m) (x := .int (ys[m] : Nat)) (by simp [vn, hm'])
    refine ⟨ys[m], t', List.getElem?_eq_getElem hm', ?_⟩
    have e := (List.getElem?_eq_some_iff.mp hw).2
    rw [← hw', ← e]
    simp
  refine call_meets PySem.F.slot_tuple_index ⟨_, ho, rfl⟩ PySem.F.entry_tuple_index (PySem.F.args_tuple_index_2 _ _) (TI.tuple_indexAt p its.toArray n dd sl (.int (z : Nat) t) (eqU (.int (z : Nat))) j hj ?_ ?_)
    ⟨ho, fun w hw => mem_eqAt (x := .int (z : Nat)) ⟨t, rfl⟩ rfl r (flat_vnT ys) w (by simpa using hw), ⟨.int (j : Nat), H, I.tok _, ⟨_, rfl⟩, q⟩⟩
  · obtain ⟨y, t', h1, h2⟩ := at' j hj
    rw [hy] at h1
    cases h1
    rw [h2]
    show (((z : Nat) : Int) == ((z : Nat) : Int)) = true
    exact beq_self_eq_true _
  · intro m hm hmj
    obtain ⟨y, t', h1, h2⟩ := at' m hm
    rw [h2]
    show (((y : Nat) : Int) == ((z : Nat) : Int)) = false
    rw [beq_eq_false_iff_ne]
    intro e
    have : y = z := by omega
    exact hno m hmj (by rw [h1, this])
/-- tuple(xs), xs a list: the object is known whole, so that its methods may be called -/
def rTpF (K : PySem.W.Frag) : List V → Hp → VK → Prop := fun xs H Q => ∃ p ys, xs = [.ref p] ∧ SqL K H p ys ∧ ∀ l o, o.dict = none → H l = none → Q (.ref l) (upd H l (.frz o (.tup ys)))
theorem call_tpF : CallR X (.type "tuple") (rTpF X.K) := by
  intro pins s σ H xs us Q I r h
  obtain ⟨p, ys, rfl, hq, q⟩ := h
  obtain ⟨u, rfl, rx⟩ := vals1 r
  cases rx
  obtain ⟨its, r', pl, hz⟩ := I.list hq
  have hlen := r'.length
  refine call_tuple_list pl.isList (fun h' kp => ?_) (by simp only [List.size_toArray] <;> omega)
  have I1 : Inv X pins σ H { s with heap := h' } := I.kept (t' := s.toks) kp
  have I2 : Inv X pins σ (upd H h'.objs.size (.frz { cls := .type "tuple", data := .seq its.toArray } (.tup ys))) { s with heap := h'.push { cls := .type "tuple", data := .seq its.toArray } } :=
    I1.laid (t' := s.toks) (fun b o e => Heap.get?_push_of_some _ e) (Nat.le_refl _) (show ObjOk X.prog X.w _ _ _ (.frz { cls := .type "tuple", data := .seq its.toArray } (.tup ys)) from ⟨Heap.get?_push_size _ rfl, hz, its, r', IsTup.new _ _⟩)
  exact ⟨.ref h'.objs.size, _, I2, rfl, q _ _ rfl (I1.hok.fresh (Nat.le_refl _))⟩
variable {name : Str} {idn : String} {r : V → List V → Hp → VK → Prop} {o e : Expr} {es : List Expr} {to : TE} {t : TA} {apos cpos : Pos}
def tBMT (r : V → List V → Hp → VK → Prop) (to : TE) (t : TA) : TE := fun σ H Q => to σ H fun x H1 => (∃ (p : Addr) (ob : Obj) (xs : List V), x = .ref p ∧ H1 p = some (.frz ob (.tup xs)) ∧ ob.dict = none) ∧ t σ H1 fun xs H2 => r x xs H2 Q
theorem pe_bmT (pa : PlainAttrs "tuple") (slot : Slot "tuple" name idn) (hty : typeOf (.builtin idn) = pure (.type "method_descriptor")) (hm : MtR X idn r) (ho : PE X o to) (ha : PA X (e :: es) t)
    (hbase : attributeBase o name X.env (eval o X.env) = eval o X.env := by rfl)
    (hfew : ((backTo cpos (starEach (e :: es) X.env)).all (fun x => !x.1) && (backToKw cpos (keywordEach [] X.env)).all (fun x => x.1.isSome)
      && decide ((e :: es).length + ([] : List Keyword).length + (if ([] : List Keyword).isEmpty then 0 else 1) < 30)) = true := by rfl)
    (hline : (apos.endLine == cpos.line) = true := by rfl) (hs : starEach (e :: es) X.env = (false, eval e X.env) :: starEach es X.env := by rfl) (hplain : (backTo cpos (starEach es X.env)).any (·.1) = false := by rfl) :
    PE X (.Call (.Attribute o name apos) (e :: es) [] cpos) (tBMT r to t) := by
  refine ⟨fun pins s σ H Q I h => ?_⟩
  refine wpAny_Call_method_late hbase hfew hline rfl (thn (ho.run pins s σ H _ I h) fun v s1 ⟨x, H1, I1, r1, ty, q1⟩ => ?_)
  obtain ⟨p, ob, xs, rfl, hp, hd⟩ := ty
  obtain rfl : v = Value.ref p := r1
  obtain ⟨hg, _, its, _, o2, hg2, hc2, _⟩ := I1.hok p _ hp
  rw [hg] at hg2
  cases hg2
  have h1 : s1.TypeIs (.ref p) "tuple" := ⟨ob, hg, hc2⟩
  have h2 : ∀ a, Value.ref p = .ref a → ∃ ob, s1.heap.get? a = some ob ∧ ob.dict = none := fun a e => by
    cases e
    exact ⟨ob, hg, hd⟩
  refine ⟨"tuple", idn, pa, slot, hty, h1, h2, ?_⟩
  have hA := ha.run cpos pins s1 σ H1 _ I1 q1
  rw [hs] at hA ⊢
  refine Calls.callWith_builtin (by show (false || (backTo cpos (starEach es X.env)).any (·.1)) = false; rw [hplain] <;> rfl) (Calls.evalArgs_plain ?_)
  exact thn hA fun us s2 ⟨vs, H2, I2, r2, q2⟩ => hm pins s2 σ H2 (.ref p) vs (.ref p) us Q I2 rfl r2 q2
end
end Wn
/-! the text of data tells the data -/
namespace Wn
open PySem PySem.Spec PyProof.Rows L2
def codes (d : PyData) : List Nat := d.shown.cps.toList
theorem cps_app (x y : Str) : (x ++ y).cps.toList = x.cps.toList ++ y.cps.toList := by
  show (x.cps ++ y.cps).toList = _
  rw [Array.toList_append]
def jn : List (List Nat) → List Nat
  | [] => []
  | [x] => x
  | x :: y :: r => x ++ (44 :: 32 :: jn (y :: r))
theorem join_codes : ∀ ts : List Str, (Str.join ", " ts).cps.toList = jn (ts.map fun t => t.cps.toList)
  | [] => rfl
  | [x] => rfl
  | x :: y :: r => by
    have ih := join_codes (y :: r)
    show (x ++ ", " ++ Str.join ", " (y :: r)).cps.toList = _
    rw [cps_app, cps_app, ih, List.append_assoc]
    rfl
theorem shownAll_map : ∀ xs : List PyData, (PyData.shownAll xs).map (fun t => t.cps.toList) = xs.map codes
  | [] => rfl
  | x :: xs => by
    show x.shown.cps.toList :: (PyData.shownAll xs).map _ = _
    rw [shownAll_map xs]
    rfl
theorem shownAll_len : ∀ xs : List PyData, (PyData.shownAll xs).length = xs.length
  | [] => rfl
  | x :: xs => congrArg (· + 1) (shownAll_len xs)
theorem codes_tup (xs : List PyData) : codes (.tuple xs) = 40 :: (jn (xs.map codes) ++ (if xs.length = 1 then [44, 41] else [41])) := by
  show (tupleText (PyData.shownAll xs)).cps.toList = _
  unfold tupleText
  rw [cps_app, cps_app, join_codes, shownAll_map, shownAll_len]
  have e0 : (("(" : String) : Str).cps.toList = [40] := rfl
  rw [e0, List.append_assoc]
  by_cases h : xs.length = 1
  · rw [if_pos h, if_pos (by rw [h]; rfl)]
    rfl
  · rw [if_neg h, if_neg (by simpa using h)]
    rfl
theorem textFrom_codes : ∀ (ts : List Str) (k : Nat) (acc : Str), 1 ≤ k → (textFrom k acc ts).cps.toList = acc.cps.toList ++ (ts.map fun t => 44 :: 32 :: t.cps.toList).flatten
  | [], k, acc, _ => by
    show acc.cps.toList = _
    simp
  | t :: ts, k, acc, hk => by
    unfold textFrom
    rw [textFrom_codes ts (k + 1) _ (by omega), cps_app, cps_app, if_pos (by omega)]
    have e : ((", " : String) : Str).cps.toList = [44, 32] := rfl
    rw [e]
    simp
theorem jn_flat : ∀ (x : List Nat) (r : List (List Nat)), jn (x :: r) = x ++ (r.map fun t => 44 :: 32 :: t).flatten
  | x, [] => by simp [jn]
  | x, y :: r => by
    show x ++ (44 :: 32 :: jn (y :: r)) = _
    rw [jn_flat y r]
    simp
theorem codes_lst (xs : List PyData) : codes (.list xs) = 91 :: (jn (xs.map codes) ++ [93]) := by
  show (listText (PyData.shownAll xs)).cps.toList = _
  unfold listText
  rw [cps_app]
  have e1 : (("]" : String) : Str).cps.toList = [93] := rfl
  have e2 : (("[" : String) : Str).cps.toList = [91] := rfl
  have e3 : (("" : String) : Str).cps.toList = [] := rfl
  rw [e1]
  cases xs with
  | nil => rfl
  | cons x r =>
    have e4 : PyData.shownAll (x :: r) = x.shown :: PyData.shownAll r := rfl
    rw [e4]
    unfold textFrom
    rw [textFrom_codes _ (0 + 1) _ (by omega), cps_app, cps_app, if_neg (by decide), e2, e3, List.map_cons, jn_flat, ← shownAll_map]
    simp [codes]
    rfl
/-! whole numbers -/
def isDg (c : Nat) : Bool := decide (48 ≤ c) && decide (c ≤ 57)
theorem codes_nat (m : Nat) : codes (.int (m : Nat)) = (Nat.toDigits 10 m).map Char.toNat := PySem.W.KIN.signs_num m
theorem codes_neg (m : Nat) : codes (.int (Int.negSucc m)) = 45 :: (Nat.toDigits 10 (m + 1)).map Char.toNat := by
  show (Str.ofString (toString (Int.negSucc m))).cps.toList = _
  rw [signs_ofString]
  show (("-" ++ Nat.repr (m + 1) : String)).toList.map Char.toNat = _
  rw [String.toList_append, List.map_append, Nat.toList_repr]
  rfl
theorem digs_all (m : Nat) : ∀ c ∈ (Nat.toDigits 10 m).map Char.toNat, isDg c = true := fun c hc => by
  obtain ⟨ch, hch, e⟩ := List.mem_map.mp hc
  have r := digit_range (Nat.isDigit_of_mem_toDigits (by decide) (by decide) hch)
  rw [e] at r
  unfold isDg
  rw [decide_eq_true r.1, decide_eq_true r.2]
  rfl
theorem digs_inj {m k : Nat} (h : (Nat.toDigits 10 m).map Char.toNat = (Nat.toDigits 10 k).map Char.toNat) : m = k := by
  rw [← PySem.W.KIN.val_back m, h, PySem.W.KIN.val_back k]
theorem digs_ne (m : Nat) : (Nat.toDigits 10 m).map Char.toNat ≠ [] := fun e => by
  have h := toDigits_len_ge 10 m
  rw [List.map_eq_nil_iff.mp e] at h
  exact absurd h (by decide)
/-- what may follow a text inside another -/
def End (x : List Nat) : Prop := x = [] ∨ ∃ c r, x = c :: r ∧ (c = 44 ∨ c = 41 ∨ c = 93)
theorem End.nodg {x : List Nat} (h : End x) : x.takeWhile isDg = [] := by
  rcases h with rfl | ⟨c, r, rfl, h⟩
  · rfl
  · rw [List.takeWhile_cons]
    rcases h with rfl | rfl | rfl <;> rfl
theorem run_dg {c x : List Nat} (hc : ∀ d ∈ c, isDg d = true) (h : End x) : (c ++ x).takeWhile isDg = c := by
  rw [List.takeWhile_append_of_pos hc, h.nodg, List.append_nil]
theorem dg_inj {c d x y : List Nat} (hc : ∀ z ∈ c, isDg z = true) (hd : ∀ z ∈ d, isDg z = true) (hx : End x) (hy : End y) (e : c ++ x = d ++ y) : c = d ∧ x = y := by
  have h := congrArg (List.takeWhile isDg) e
  rw [run_dg hc hx, run_dg hd hy] at h
  subst h
  exact ⟨rfl, List.append_cancel_left e⟩
mutual
/-- data whose text tells it -/
def pl : PyData → Bool
  | .none => true
  | .bool _ => true
  | .int _ => true
  | .str _ => false
  | .list xs => plAll xs
  | .tuple xs => plAll xs
  | .dict _ => false
def plAll : List PyData → Bool
  | [] => true
  | x :: xs => pl x && plAll xs
end
/-- the first sign tells the kind -/
def kind : PyData → Nat
  | .none => 1
  | .bool _ => 2
  | .int _ => 3
  | .str _ => 0
  | .list _ => 4
  | .tuple _ => 5
  | .dict _ => 0
def kindC (c : Nat) : Nat := if c = 78 then 1 else if c = 84 ∨ c = 70 then 2 else if c = 45 ∨ isDg c = true then 3 else if c = 91 then 4 else if c = 40 then 5 else 0
theorem kind_dg {c : Nat} (h : isDg c = true) : kindC c = 3 := by
  unfold kindC
  unfold isDg at h
  simp only [Bool.and_eq_true, decide_eq_true_eq] at h
  rw [if_neg (by omega), if_neg (by omega), if_pos (.inr (by unfold isDg; simp only [Bool.and_eq_true, decide_eq_true_eq]; exact h))]
theorem kind_codes {d : PyData} (h : pl d = true) : ∃ c r, codes d = c :: r ∧ kindC c = kind d := by
  cases d with
  | none => exact ⟨78, [111, 110, 101], rfl, rfl⟩
  | bool b =>
    cases b with
    | false => exact ⟨70, [97, 108, 115, 101], rfl, rfl⟩
    | true => exact ⟨84, [114, 117, 101], rfl, rfl⟩
  | int i =>
    cases i with
    | ofNat m =>
      have e := codes_nat m
      have n := digs_ne m
      have a := digs_all m
      cases q : (Nat.toDigits 10 m).map Char.toNat with
      | nil => exact absurd q n
      | cons c r =>
        rw [q] at e a
        exact ⟨c, r, e, kind_dg (a c (List.mem_cons_self ..))⟩
    | negSucc m => exact ⟨45, _, codes_neg m, rfl⟩
  | str x => cases h
  | dict x => cases h
  | list xs => exact ⟨91, _, codes_lst xs, rfl⟩
  | tuple xs => exact ⟨40, _, codes_tup xs, rfl⟩
theorem kind_eq {d e : PyData} {x y : List Nat} (hd : pl d = true) (he : pl e = true) (h : codes d ++ x = codes e ++ y) : kind d = kind e := by
  obtain ⟨c, r, e1, k1⟩ := kind_codes hd
  obtain ⟨c', r', e2, k2⟩ := kind_codes he
  rw [e1, e2] at h
  injection h with h _
  rw [← k1, ← k2, h]
/-- what closes a row of texts -/
def Cl (u : List Nat) : Prop := (∃ r, u = 41 :: r) ∨ (∃ r, u = 93 :: r) ∨ (∃ r, u = 44 :: 41 :: r)
theorem Cl.end {u : List Nat} (h : Cl u) : End u := by
  rcases h with ⟨r, rfl⟩ | ⟨r, rfl⟩ | ⟨r, rfl⟩
  · exact .inr ⟨_, _, rfl, .inr (.inl rfl)⟩
  · exact .inr ⟨_, _, rfl, .inr (.inr rfl)⟩
  · exact .inr ⟨_, _, rfl, .inl rfl⟩
theorem Cl.no {u r : List Nat} (h : Cl u) (e : u = 44 :: 32 :: r) : False := by
  subst e
  rcases h with ⟨r, h⟩ | ⟨r, h⟩ | ⟨r, h⟩
  · cases h
  · cases h
  · cases h
theorem Cl.nohead {d : PyData} {u x : List Nat} (h : Cl u) (hd : pl d = true) (e : u = codes d ++ x) : False := by
  obtain ⟨c, r, e1, k1⟩ := kind_codes hd
  rw [e1] at e
  have hk : kindC c ≠ 0 := by
    rw [k1]
    cases d <;> first | (intro z; cases z; done) | (cases hd; done)
  rcases h with ⟨r, rfl⟩ | ⟨r, rfl⟩ | ⟨r, rfl⟩ <;> (injection e with e _; subst e; exact hk rfl)
theorem jn_two (x y : List Nat) (r : List (List Nat)) (u : List Nat) : jn (x :: y :: r) ++ u = x ++ (44 :: 32 :: (jn (y :: r) ++ u)) := by
  show (x ++ (44 :: 32 :: jn (y :: r))) ++ u = _
  rw [List.append_assoc]
  rfl
theorem end_sep (r : List Nat) : End (44 :: r) := .inr ⟨_, _, rfl, .inl rfl⟩
theorem tail_inj {n k : Nat} {x y : List Nat} (hn : n = k) (h : (if n = 1 then [44, 41] else [41]) ++ x = (if k = 1 then [44, 41] else [41]) ++ y) : x = y := by
  subst hn
  exact List.append_cancel_left h
theorem tail_cl (n : Nat) (x : List Nat) : Cl ((if n = 1 then [44, 41] else [41]) ++ x) := by
  split
  · exact .inr (.inr ⟨x, rfl⟩)
  · exact .inl ⟨x, rfl⟩
mutual
theorem codes_inj : ∀ (d e : PyData) (x y : List Nat), pl d = true → pl e = true → End x → End y → codes d ++ x = codes e ++ y → d = e ∧ x = y
  | .none, e, x, y, hd, he, hx, hy, h => by
    have k := kind_eq hd he h
    cases e <;> first | (cases k; done) | exact ⟨rfl, List.append_cancel_left h⟩
  | .bool b, e, x, y, hd, he, hx, hy, h => by
    have k := kind_eq hd he h
    cases e <;> first | (cases k; done) | skip
    rename_i b'
    cases b <;> cases b' <;> first | exact ⟨rfl, List.append_cancel_left h⟩ | (injection h with h _; cases h)
  | .int i, e, x, y, hd, he, hx, hy, h => by
    have k := kind_eq hd he h
    cases e <;> first | (cases k; done) | skip
    rename_i j
    cases i with
    | ofNat m =>
      cases j with
      | ofNat m' =>
        have e1 := codes_nat m
        have e2 := codes_nat m'
        change codes (.int (m : Nat)) ++ x = codes (.int (m' : Nat)) ++ y at h
        rw [e1, e2] at h
        obtain ⟨a, b⟩ := dg_inj (digs_all m) (digs_all m') hx hy h
        rw [digs_inj a]
        exact ⟨rfl, b⟩
      | negSucc m' =>
        change codes (.int (m : Nat)) ++ x = _ at h
        rw [codes_nat, codes_neg] at h
        cases q : (Nat.toDigits 10 m).map Char.toNat with
        | nil => exact absurd q (digs_ne m)
        | cons c r =>
          have a := digs_all m c (by rw [q]; exact List.mem_cons_self ..)
          rw [q] at h
          injection h with h _
          subst h
          cases a
    | negSucc m =>
      cases j with
      | ofNat m' =>
        change _ = codes (.int (m' : Nat)) ++ y at h
        rw [codes_nat, codes_neg] at h
        cases q : (Nat.toDigits 10 m').map Char.toNat with
        | nil => exact absurd q (digs_ne m')
        | cons c r =>
          have a := digs_all m' c (by rw [q]; exact List.mem_cons_self ..)
          rw [q] at h
          injection h with h _
          subst h
          cases a
      | negSucc m' =>
        rw [codes_neg, codes_neg, List.cons_append, List.cons_append] at h
        injection h with _ h
        obtain ⟨a, b⟩ := dg_inj (digs_all (m + 1)) (digs_all (m' + 1)) hx hy h
        have := digs_inj a
        have e : m = m' := by omega
        rw [e]
        exact ⟨rfl, b⟩
  | .str s, e, x, y, hd, he, hx, hy, h => by cases hd
  | .dict s, e, x, y, hd, he, hx, hy, h => by cases hd
  | .list xs, e, x, y, hd, he, hx, hy, h => by
    have k := kind_eq hd he h
    cases e <;> first | (cases k; done) | skip
    rename_i ys
    rw [codes_lst, codes_lst, List.cons_append, List.cons_append] at h
    injection h with _ h
    rw [List.append_assoc, List.append_assoc] at h
    obtain ⟨a, b⟩ := rows_inj xs ys _ _ hd he (.inr (.inl ⟨x, rfl⟩)) (.inr (.inl ⟨y, rfl⟩)) h
    injection b with _ b
    rw [a]
    exact ⟨rfl, b⟩
  | .tuple xs, e, x, y, hd, he, hx, hy, h => by
    have k := kind_eq hd he h
    cases e <;> first | (cases k; done) | skip
    rename_i ys
    rw [codes_tup, codes_tup, List.cons_append, List.cons_append] at h
    injection h with _ h
    rw [List.append_assoc, List.append_assoc] at h
    obtain ⟨a, b⟩ := rows_inj xs ys _ _ hd he (tail_cl _ x) (tail_cl _ y) h
    rw [a]
    exact ⟨rfl, tail_inj (by rw [a]) b⟩
theorem rows_inj : ∀ (xs ys : List PyData) (u v : List Nat), plAll xs = true → plAll ys = true → Cl u → Cl v → jn (xs.map codes) ++ u = jn (ys.map codes) ++ v → xs = ys ∧ u = v
  | [], [], u, v, _, _, _, _, h => ⟨rfl, h⟩
  | [], y :: ys, u, v, _, hy, hu, hv, h => by
    have hy1 : pl y = true := by
      have : (pl y && plAll ys) = true := hy
      rw [Bool.and_eq_true] at this
      exact this.1
    exfalso
    rw [List.map_cons, jn_flat, List.append_assoc] at h
    exact hu.nohead hy1 h
  | x :: xs, [], u, v, hx, _, hu, hv, h => by
    have hx1 : pl x = true := by
      have : (pl x && plAll xs) = true := hx
      rw [Bool.and_eq_true] at this
      exact this.1
    exfalso
    rw [List.map_cons, jn_flat, List.append_assoc] at h
    exact hv.nohead hx1 h.symm
  | [x], [y], u, v, hx, hy, hu, hv, h => by
    have hx1 : pl x = true := by
      have : (pl x && plAll []) = true := hx
      rw [Bool.and_eq_true] at this
      exact this.1
    have hy1 : pl y = true := by
      have : (pl y && plAll []) = true := hy
      rw [Bool.and_eq_true] at this
      exact this.1
    obtain ⟨a, b⟩ := codes_inj x y u v hx1 hy1 hu.end hv.end h
    rw [a]
    exact ⟨rfl, b⟩
  | [x], y :: y2 :: ys, u, v, hx, hy, hu, hv, h => by
    have hx1 : pl x = true := by
      have : (pl x && plAll []) = true := hx
      rw [Bool.and_eq_true] at this
      exact this.1
    have hy1 : pl y = true := by
      have : (pl y && plAll (y2 :: ys)) = true := hy
      rw [Bool.and_eq_true] at this
      exact this.1
    exfalso
    change jn [codes x] ++ u = jn (codes y :: codes y2 :: ys.map codes) ++ v at h
    rw [jn_two (codes y)] at h
    obtain ⟨a, b⟩ := codes_inj x y u _ hx1 hy1 hu.end (end_sep _) h
    exact hu.no b
  | x :: x2 :: xs, [y], u, v, hx, hy, hu, hv, h => by
    have hx1 : pl x = true := by
      have : (pl x && plAll (x2 :: xs)) = true := hx
      rw [Bool.and_eq_true] at this
      exact this.1
    have hy1 : pl y = true := by
      have : (pl y && plAll []) = true := hy
      rw [Bool.and_eq_true] at this
      exact this.1
    exfalso
    change jn (codes x :: codes x2 :: xs.map codes) ++ u = jn [codes y] ++ v at h
    rw [jn_two (codes x)] at h
    obtain ⟨a, b⟩ := codes_inj x y _ v hx1 hy1 (end_sep _) hv.end h
    exact hv.no b.symm
  | x :: x2 :: xs, y :: y2 :: ys, u, v, hx, hy, hu, hv, h => by
    have hx1 : pl x = true ∧ plAll (x2 :: xs) = true := by
      have : (pl x && plAll (x2 :: xs)) = true := hx
      rw [Bool.and_eq_true] at this
      exact this
    have hy1 : pl y = true ∧ plAll (y2 :: ys) = true := by
      have : (pl y && plAll (y2 :: ys)) = true := hy
      rw [Bool.and_eq_true] at this
      exact this
    change jn (codes x :: codes x2 :: xs.map codes) ++ u = jn (codes y :: codes y2 :: ys.map codes) ++ v at h
    rw [jn_two (codes x), jn_two (codes y)] at h
    obtain ⟨a, b⟩ := codes_inj x y _ _ hx1.1 hy1.1 (end_sep _) (end_sep _) h
    injection b with _ b
    injection b with _ b
    obtain ⟨c, d⟩ := rows_inj (x2 :: xs) (y2 :: ys) u v hx1.2 hy1.2 hu hv b
    rw [a, c]
    exact ⟨rfl, d⟩
end
theorem shown_inj {d e : PyData} (hd : pl d = true) (he : pl e = true) (h : d.shown = e.shown) : d = e := by
  have hc : codes d ++ [] = codes e ++ [] := by
    unfold codes
    rw [h]
  exact (codes_inj d e [] [] hd he (.inl rfl) (.inl rfl) hc).1
end Wn
namespace Wn
open PySem PySem.Spec PyProof.Rows L2
def isP (p : Nat) : Bool := decide (2 ≤ p) && (List.range p).all fun q => decide (q < 2) || decide (p % q ≠ 0)
theorem isP_iff {p : Nat} : isP p = true ↔ 2 ≤ p ∧ ∀ q, 2 ≤ q → q < p → ¬ q ∣ p := by
  unfold isP
  simp only [Bool.and_eq_true, decide_eq_true_eq, List.all_eq_true, List.mem_range, Bool.or_eq_true]
  constructor
  · rintro ⟨h1, h2⟩
    refine ⟨h1, fun q q1 q2 d => ?_⟩
    rcases h2 q q2 with z | z
    · omega
    · exact z (Nat.mod_eq_zero_of_dvd d)
  · rintro ⟨h1, h2⟩
    refine ⟨h1, fun q q2 => ?_⟩
    by_cases z : q < 2
    · exact .inl z
    · exact .inr fun e => h2 q (by omega) q2 (Nat.dvd_of_mod_eq_zero e)
theorem isP_dvd {p g : Nat} (h : isP p = true) (d : g ∣ p) : g = 1 ∨ g = p := by
  obtain ⟨h1, h2⟩ := isP_iff.mp h
  have hg : g ≤ p := Nat.le_of_dvd (by omega) d
  have h0 : 1 ≤ g := Nat.pos_of_ne_zero fun z => by rw [z] at d; have := Nat.eq_zero_of_zero_dvd d; omega
  by_cases e1 : g = 1
  · exact .inl e1
  · by_cases e2 : g = p
    · exact .inr e2
    · exact absurd d (h2 g (by omega) (by omega))
theorem isP_cop {p a : Nat} (h : isP p = true) (hn : ¬ p ∣ a) : Nat.gcd p a = 1 := by
  rcases isP_dvd h (Nat.gcd_dvd_left p a) with e | e
  · exact e
  · exact absurd (e ▸ Nat.gcd_dvd_right p a) hn
/-- how often p divides -/
def vlF (p : Nat) : Nat → Nat → Nat
  | 0, _ => 0
  | f + 1, n => if n % p = 0 then vlF p f (n / p) + 1 else 0
def vl (p n : Nat) : Nat := vlF p n n
theorem vlF_spec {p : Nat} (hp : 2 ≤ p) : ∀ f n, n ≤ f → 1 ≤ n → p ^ vlF p f n ∣ n ∧ ¬ p ^ (vlF p f n + 1) ∣ n
  | 0, n, h1, h2 => by omega
  | f + 1, n, h1, h2 => by
    unfold vlF
    by_cases h : n % p = 0
    · rw [if_pos h]
      obtain ⟨m, rfl⟩ := Nat.dvd_of_mod_eq_zero h
      rw [Nat.mul_div_cancel_left m (by omega)]
      have hm : 1 ≤ m := Nat.pos_of_ne_zero fun z => by rw [z] at h2; omega
      have hm2 : m < p * m := by
        have : 2 * m ≤ p * m := Nat.mul_le_mul_right _ hp
        omega
      obtain ⟨a, b⟩ := vlF_spec hp f m (by omega) hm
      refine ⟨?_, fun d => b ?_⟩
      · rw [Nat.pow_succ, Nat.mul_comm]
        exact Nat.mul_dvd_mul_left p a
      · rw [Nat.pow_succ, Nat.mul_comm] at d
        exact Nat.dvd_of_mul_dvd_mul_left (by omega) d
    · rw [if_neg h]
      refine ⟨by simp, fun d => h ?_⟩
      rw [Nat.zero_add, Nat.pow_one] at d
      exact Nat.mod_eq_zero_of_dvd d
theorem vl_spec {p n : Nat} (hp : 2 ≤ p) (hn : 1 ≤ n) : p ^ vl p n ∣ n ∧ ¬ p ^ (vl p n + 1) ∣ n := vlF_spec hp n n (Nat.le_refl _) hn
theorem vl_of {p n e : Nat} (hp : 2 ≤ p) (hn : 1 ≤ n) (h1 : p ^ e ∣ n) (h2 : ¬ p ^ (e + 1) ∣ n) : vl p n = e := by
  obtain ⟨a, b⟩ := vl_spec hp hn
  apply Nat.le_antisymm
  · apply Nat.le_of_not_lt
    intro l
    exact h2 (Nat.dvd_trans (Nat.pow_dvd_pow p l) a)
  · apply Nat.le_of_not_lt
    intro l
    exact b (Nat.dvd_trans (Nat.pow_dvd_pow p l) h1)
def fpp (n p : Nat) : Option (Nat × Nat) := if n % p = 0 ∧ isP p = true then some (p, vl p n) else none
def ppU (n k : Nat) : List (Nat × Nat) := (List.range k).filterMap (fpp n)
def ppL (n : Nat) : List (Nat × Nat) := ppU n (n + 1)
theorem ppU_succ (n k : Nat) : ppU n (k + 1) = ppU n k ++ (match fpp n k with | some r => [r] | none => []) := by
  unfold ppU
  rw [List.range_succ, List.filterMap_append]
  congr 1
  cases h : fpp n k <;> simp [h]
theorem ppU_skip {n k : Nat} : ∀ {m}, k ≤ m → (∀ p, k ≤ p → p < m → fpp n p = none) → ppU n m = ppU n k
  | 0, h, _ => by rw [show k = 0 by omega]
  | m + 1, h, hs => by
    rcases Nat.lt_or_eq_of_le h with z | z
    · rw [ppU_succ, hs m (by omega) (Nat.lt_succ_self m), List.append_nil, ppU_skip (by omega) fun p h1 h2 => hs p h1 (by omega)]
    · rw [z]
theorem ppU_len {n : Nat} : ∀ k, (ppU n k).length ≤ k := fun k => by
  unfold ppU
  refine Nat.le_trans (List.length_filterMap_le _ _) ?_
  rw [List.length_range]
  exact Nat.le_refl _
/-- what is left when all below k have been taken out -/
structure Left (n left k : Nat) : Prop where
  pos : 1 ≤ left
  dv : left ∣ n
  low : ∀ q, 2 ≤ q → q < k → ¬ q ∣ left
  same : ∀ q e, k ≤ q → isP q = true → (q ^ e ∣ left ↔ q ^ e ∣ n)
theorem Left.start {n : Nat} (hn : 1 ≤ n) : Left n n 2 := ⟨hn, Nat.dvd_refl _, fun q h1 h2 => by omega, fun _ _ _ _ => Iff.rfl⟩
theorem Left.ge {n left k : Nat} (L : Left n left k) (h : 1 < left) : k ≤ left := by
  apply Nat.le_of_not_lt
  intro z
  exact L.low left h z (Nat.dvd_refl _)
theorem Left.prime {n left k p : Nat} (L : Left n left k) (hk : 2 ≤ p) (hp : p ≤ k) (d : p ∣ left) : isP p = true := isP_iff.mpr ⟨hk, fun q h1 h2 d2 => L.low q h1 (by omega) (Nat.dvd_trans d2 d)⟩
/-- what is left has no divisor below its root: it is a prime itself -/
theorem Left.jump {n left k : Nat} (L : Left n left k) (hk : 2 ≤ k) (h : 1 < left) (h2 : left < k * k) : isP left = true ∧ Left n left left ∧ ∀ p, k ≤ p → p < left → fpp n p = none := by
  have hP : Wn.isP left = true := isP_iff.mpr ⟨h, fun q h1 h3 d => by
    obtain ⟨m, rfl⟩ := d
    have hm : 1 ≤ m := Nat.pos_of_ne_zero fun z => by rw [z] at h; omega
    have hm2 : 2 ≤ m := by
      rcases Nat.lt_or_ge m 2 with z | z
      · have : m = 1 := by omega
        rw [this] at h3
        omega
      · exact z
    have a1 : k ≤ q := Nat.le_of_not_lt fun z => L.low q h1 z (Nat.dvd_mul_right _ _)
    have a2 : k ≤ m := Nat.le_of_not_lt fun z => L.low m hm2 z (Nat.dvd_mul_left _ _)
    have := Nat.mul_le_mul a1 a2
    omega⟩
  have hge := L.ge h
  refine ⟨hP, ⟨L.pos, L.dv, fun q h1 h3 => (isP_iff.mp hP).2 q h1 h3, fun q e h1 => L.same q e (by omega)⟩, fun p h1 h3 => ?_⟩
  unfold fpp
  rw [if_neg]
  rintro ⟨h4, h5⟩
  have := (L.same p 1 h1 h5).mpr (by rw [Nat.pow_one]; exact Nat.dvd_of_mod_eq_zero h4)
  rw [Nat.pow_one] at this
  exact (isP_iff.mp hP).2 p (isP_iff.mp h5).1 h3 this
/-- p taken out e times -/
theorem Left.next {n left k r e : Nat} (L : Left n left k) (hn : 1 ≤ n) (hk : 2 ≤ k) (h : left = r * k ^ e) (hr : ¬ k ∣ r) : Left n r (k + 1) ∧ fpp n k = if e = 0 then none else some (k, e) := by
  have hr1 : 1 ≤ r := Nat.pos_of_ne_zero fun z => by have := L.pos; rw [h, z] at this; omega
  have rl : r ∣ left := ⟨k ^ e, h⟩
  refine ⟨⟨hr1, Nat.dvd_trans rl L.dv, fun q h1 h2 d => ?_, fun q c h1 hq => ?_⟩, ?_⟩
  · rcases Nat.lt_or_eq_of_le (show q ≤ k by omega) with z | z
    · exact L.low q h1 z (Nat.dvd_trans d rl)
    · exact hr (z ▸ d)
  · rw [← L.same q c (by omega) hq]
    constructor
    · exact fun d => Nat.dvd_trans d rl
    · intro d
      rw [h] at d
      refine Nat.Coprime.dvd_of_dvd_mul_right ?_ d
      refine Nat.Coprime.pow_left c (Nat.Coprime.pow_right e ?_)
      refine isP_cop hq fun d2 => ?_
      have := Nat.le_of_dvd (by omega) d2
      omega
  · by_cases e0 : e = 0
    · rw [if_pos e0]
      unfold fpp
      rw [if_neg]
      rintro ⟨h4, h5⟩
      have := (L.same k 1 (Nat.le_refl _) h5).mpr (by rw [Nat.pow_one]; exact Nat.dvd_of_mod_eq_zero h4)
      rw [Nat.pow_one, h, e0, Nat.pow_zero, Nat.mul_one] at this
      exact hr this
    · rw [if_neg e0]
      have dk : k ∣ left := by
        rw [h]
        exact Nat.dvd_trans (show k ∣ k ^ e by rw [show e = (e - 1) + 1 by omega, Nat.pow_succ]; exact Nat.dvd_mul_left _ _) (Nat.dvd_mul_left _ _)
      have hP := L.prime hk (Nat.le_refl _) dk
      have d1 : k ∣ n := Nat.dvd_trans dk L.dv
      unfold fpp
      rw [if_pos ⟨Nat.mod_eq_zero_of_dvd d1, hP⟩]
      congr 2
      refine vl_of hk hn ?_ fun d => ?_
      · exact (L.same k e (Nat.le_refl _) hP).mp (by rw [h]; exact Nat.dvd_mul_left _ _)
      · have d2 := (L.same k (e + 1) (Nat.le_refl _) hP).mpr d
        rw [h, Nat.pow_succ, Nat.mul_comm r] at d2
        exact hr (Nat.dvd_of_mul_dvd_mul_left (Nat.pow_pos (by omega)) d2)
end Wn
/-! if it is not balanced, a prime shows it -/
namespace Wn
open PySem PySem.Spec PyProof.Rows L2
theorem prime_dvd : ∀ m, 2 ≤ m → ∃ p, isP p = true ∧ p ∣ m := by
  intro m
  induction m using Nat.strongRecOn with
  | ind m ih =>
    intro hm
    cases e : isP m with
    | true => exact ⟨m, e, Nat.dvd_refl _⟩
    | false =>
      obtain ⟨q, h1, h2, h3⟩ : ∃ q, 2 ≤ q ∧ q < m ∧ q ∣ m := by
        refine Classical.byContradiction fun hno => ?_
        have := isP_iff.mpr ⟨hm, fun q h1 h2 d => hno ⟨q, h1, h2, d⟩⟩
        rw [e] at this
        cases this
      obtain ⟨p, hp, hd⟩ := ih q h2 h1
      exact ⟨p, hp, Nat.dvd_trans hd h3⟩
theorem dvd_of_pp {n R : Nat} (hn : 1 ≤ n) (h : ∀ p, isP p = true → p ∣ n → p ^ vl p n ∣ R) : n ∣ R := by
  obtain ⟨m, hm⟩ := Nat.gcd_dvd_left n R
  rcases Nat.lt_or_ge m 2 with z | z
  · have m1 : m = 1 := by
      rcases Nat.eq_zero_or_pos m with y | y
      · rw [y, Nat.mul_zero] at hm
        omega
      · omega
    rw [m1, Nat.mul_one] at hm
    have := Nat.gcd_dvd_right n R
    rwa [← hm] at this
  · exfalso
    obtain ⟨p, hp, hd⟩ := prime_dvd m z
    have p2 := (isP_iff.mp hp).1
    have pn : p ∣ n := by
      rw [hm]
      exact Nat.dvd_trans hd (Nat.dvd_mul_left _ _)
    obtain ⟨v1, v2⟩ := vl_spec p2 hn
    have hg := Nat.dvd_gcd v1 (h p hp pn)
    refine v2 ?_
    rw [Nat.pow_succ]
    have : p ^ vl p n * p ∣ Nat.gcd n R * m := Nat.mul_dvd_mul hg hd
    rwa [← hm] at this
theorem mem_ppL {n p : Nat} (hn : 1 ≤ n) (hp : isP p = true) (d : p ∣ n) : (p, vl p n) ∈ ppL n := by
  unfold ppL ppU
  rw [List.mem_filterMap]
  refine ⟨p, List.mem_range.mpr (Nat.lt_succ_of_le (Nat.le_of_dvd hn d)), ?_⟩
  unfold fpp
  rw [if_pos ⟨Nat.mod_eq_zero_of_dvd d, hp⟩]
theorem ppL_mem {n : Nat} {r : Nat × Nat} (h : r ∈ ppL n) : isP r.1 = true ∧ r.1 ∣ n ∧ r.2 = vl r.1 n := by
  unfold ppL ppU at h
  obtain ⟨p, hp, e⟩ := List.mem_filterMap.mp h
  unfold fpp at e
  by_cases c : n % p = 0 ∧ isP p = true
  · rw [if_pos c] at e
    have := Option.some.inj e
    subst this
    exact ⟨c.2, Nat.dvd_of_mod_eq_zero c.1, rfl⟩
  · rw [if_neg c] at e
    cases e
theorem shows_ex {b n k c : Nat} (hb1 : 1 ≤ b) (hn : 2 ≤ n) (h : b ^ (k * c) % n = 1 % n) (hb : bal b n k c = false) :
    ∃ r ∈ ppL n, b ^ k % r.1 = 1 ∧ restSum b n 1 k c % r.1 ^ r.2 ≠ 0 := by
  refine Classical.byContradiction fun hno => ?_
  have key : n ∣ restSum b n 1 k c := dvd_of_pp (by omega) fun p hp d => by
    have p2 := (isP_iff.mp hp).1
    obtain ⟨v1, v2⟩ := vl_spec (n := n) p2 (by omega)
    by_cases c1 : b ^ k % p = 1
    · refine Classical.byContradiction fun hd => hno ⟨(p, vl p n), mem_ppL (by omega) hp d, c1, fun z => hd (Nat.dvd_of_mod_eq_zero z)⟩
    · have bk : 1 ≤ b ^ k := Nat.pow_pos hb1
      have nd : ¬ p ∣ b ^ k - 1 := fun z => c1 (by
        obtain ⟨t, ht⟩ := z
        have e : b ^ k = p * t + 1 := by omega
        rw [e, Nat.mul_add_mod, Nat.mod_eq_of_lt (by omega)])
      have tel := geo_tel (b ^ k) c
      have dn : n ∣ geo (b ^ k) c * (b ^ k - 1) := by
        have e1 : geo (b ^ k) c * (b ^ k - 1) = (b ^ k) ^ c - 1 := by
          rw [Nat.mul_sub, Nat.mul_one]
          omega
        rw [e1, ← Nat.pow_mul]
        have one : 1 % n = 1 := Nat.mod_eq_of_lt (by omega)
        rw [one] at h
        have := Nat.div_add_mod (b ^ (k * c)) n
        rw [h] at this
        exact ⟨b ^ (k * c) / n, by omega⟩
      have cp : Nat.Coprime (p ^ vl p n) (b ^ k - 1) := Nat.Coprime.pow_left _ (isP_cop hp nd)
      have dg : p ^ vl p n ∣ geo (b ^ k) c := cp.dvd_of_dvd_mul_right (Nat.dvd_trans v1 dn)
      have rm := restSum_mod b n 1 k c
      rw [Nat.one_mul] at rm
      have h1 := (Nat.dvd_mod_iff v1).mpr dg
      rw [← rm] at h1
      exact (Nat.dvd_mod_iff v1).mp h1
  have : bal b n k c = true := by
    unfold bal
    exact decide_eq_true (Nat.mod_eq_zero_of_dvd key)
  rw [hb] at this
  cases this
end Wn
/-! sorted of a set of ints, any number of members -/
namespace L2
open PySem PySem.Spec PyProof.Rows
section
variable {P : Program} {w : World} {A : Around} {E : Value → Shared → Prop} {s : Shared} {a : Addr}
theorem sorted_setB {S : Int → Bool} {n : Nat} {Q : Value → Shared → Prop} (R : SetR w s.heap a S n) (hh : A.handled = none) (hn0 : n ≤ 4000)
    (hQ : ∀ s' p (out : Array Value) (c : Nat) (ns : List Int), (∀ b o, s.heap.get? b = some o → s'.heap.get? b = some o) → s'.gens = s.gens → s'.os = s.os → s.heap.objs.size ≤ p →
      s'.heap.get? p = some (seqObj "list" out c) → IntsAre out.toList ns → ns.Pairwise (· < ·) → (∀ k, k ∈ ns ↔ S k = true) → ns.length = n → Q (.ref p) s') :
    wpAny (model P w) A (call (.builtin "sorted") [.ref a]) Q E s := by
  obtain ⟨o, es, ep, t, ho, hex, hd, g, nd, hm, hb, hf, hn, hr, hl⟩ := R
  refine Calls.call_function_entry kind_sorted plain_sorted entry_sorted (args_sorted1 _) ?_
  unfold Builtin.«sorted»
  refine wpAny_bind (m := checkCount "sorted" 1 1 _) (wpAny_pure ?_)
  refine wpAny_bind (collect_set (A := A.in1) hh ⟨o, ho, hex.1, hd⟩ hf hb hr hl fun s1 vs k1 hz g1 o1 pm => ?_)
  have hvl : vs.length = n := by rw [pm.length_eq, List.length_map, Array.length_toList]; exact hn
  have hI : IntsAre vs (vs.map Builtin.Re.reRawOf) := ints_of vs fun v hv => by
    obtain ⟨e, he, q⟩ := List.mem_map.mp (pm.mem_iff.mp hv)
    obtain ⟨k, tk, h1, _⟩ := g e he
    exact ⟨k, tk, by rw [← q]; exact h1⟩
  have pk : (vs.map Builtin.Re.reRawOf).Perm (es.toList.map keyOf) := by
    have q := pm.map Builtin.Re.reRawOf
    rw [List.map_map] at q
    exact q
  have hvz : vs.length ≤ sizeLine := by rw [hvl, sizeLine_eq]; omega
  refine wpAny_bind (wpAny_newList ?_ hvz)
  have hoL : (s1.heap.push (seqObj "list" vs.toArray 0)).get? s1.heap.objs.size = some (seqObj "list" vs.toArray 0) := Heap.get?_push_size _ rfl
  refine wpAny_bind (wpAny_holding (wpAny_call_entry slot_list_sort ⟨_, hoL, rfl⟩ entry_list_sort (SrtO.list_sort_ord SrtO.swo_int hoL hvz (fun h2 => SrtO.ints_sortable hI h2) fun out h1 h2 => ⟨.none, rfl, ?_⟩) (args_list_sort _)))
  obtain ⟨a1, a2, a3⟩ := SrtO.ints_out hI h1 h2
  obtain ⟨c, hc⟩ := sortedHeap_at (vs := vs) (out := out.toArray) hoL
  have pn : (out.map SrtO.iv).Perm (es.toList.map keyOf) := a2.trans pk
  refine wpAny_pure ⟨_, rfl, hQ _ s1.heap.objs.size out.toArray c (out.map SrtO.iv) (fun b u e => ?_) g1 o1 hz hc a1 (lt_of_le_nodup _ a3 (pn.nodup_iff.mpr nd)) (fun k => by rw [pn.mem_iff, ← hm k]) ?_⟩
  · have q := k1 b u e
    have hlt := Heap.lt_size q
    show (sortedHeap (s1.heap.push (seqObj "list" vs.toArray 0)) s1.heap.objs.size vs out.toArray).get? b = some u
    rw [sortedHeap_old (Nat.ne_of_lt hlt) (by rw [size_push']; exact Nat.lt_succ_of_lt hlt)]
    exact Heap.get?_push_of_some _ q
  · rw [pn.length_eq, List.length_map, Array.length_toList]; exact hn
end
def rSortedSetB (w : World) : List V → Hp → VK → Prop := fun vs H Q => ∃ (a : Addr) (S : Int → Bool) (n : Nat), vs = [V.ref a] ∧ H a = some (SetO w a S n) ∧ n ≤ 4000 ∧
  ∀ (ns : List Int) (p : Addr), ns.Pairwise (· < ·) → (∀ k : Int, k ∈ ns ↔ S k = true) → ns.length = n → H p = none → Q (.ref p) (upd H p (.lst (ns.map V.int)))
theorem cr_sortedSetB {X : Cx} (hc : X.calm = true) : CallR X (.builtin "sorted") (rSortedSetB X.w) := by
  intro pins s σ H vs us Q I r h
  obtain ⟨a, S, n, rfl, ha, h64, q⟩ := h
  have R := setO_get I ha
  rw [Vals.ref1 r]
  refine sorted_setB R (I.ok.hd hc) h64 fun s' p out c ns k g o hp hg hi hs hm hl => ?_
  have hlen : (ns.map V.int).length ≤ sizeLine := by rw [List.length_map, hl, sizeLine_eq]; omega
  have hn : H p = none := I.hok.fresh hp
  have J : Inv X pins σ (upd H p (.lst (ns.map V.int))) { s with heap := s'.heap, gens := s'.gens, drawn := s'.drawn, toks := s'.toks } :=
    I.call (ch := []) (Un.laid k hp hn) (I.hok.laid k hp ⟨hlen, out.toList, c, vals_of_ints hi, hg⟩) (by rw [g]; exact I.bare) (fun _ z => nomatch z)
  have e : s' = { s with heap := s'.heap, gens := s'.gens, drawn := s'.drawn, toks := s'.toks } := by
    cases s'
    cases s
    cases o
    rfl
  rw [e]
  exact ⟨.ref p, _, J, rfl, q ns p hs hm hl hn⟩
end L2
/-! a list backwards: xs[::-1] -/
namespace Wn
open PySem PySem.Spec PyProof.Rows L2
theorem pick_rev (us : List Value) : slicePick us.toArray none none (some (-1)) = us.reverse.toArray := by
  have e : sliceBounds none none (some (-1)) us.toArray.size = (((us.length : Int) - 1), (-1 : Int), (-1 : Int)) := by
    simp [sliceBounds]
  unfold slicePick
  rw [e]
  show (List.filterMap (fun i => us.toArray[i]?) (sliceRange ((us.length : Int) - 1) (-1) (-1))).toArray = _
  congr 1
  have e2 : sliceRange ((us.length : Int) - 1) (-1) (-1) = (List.range us.length).map fun i => us.length - 1 - i := by
    unfold sliceRange
    have c : (if (-1 : Int) > 0 then (if ((us.length : Int) - 1) < -1 then ((-1) - ((us.length : Int) - 1) + (-1) - 1) / (-1) else 0) else (if ((us.length : Int) - 1) > -1 then (((us.length : Int) - 1) - (-1) - (-1) - 1) / (-(-1)) else 0)).toNat = us.length := by
      rw [if_neg (by decide)]
      by_cases z : ((us.length : Int) - 1) > -1
      · rw [if_pos z, show (-(-1 : Int)) = 1 from rfl, Int.ediv_one]
        omega
      · rw [if_neg z]
        omega
    dsimp only
    rw [c]
    apply List.map_congr_left
    intro i hi
    have := List.mem_range.mp hi
    omega
  rw [e2, List.filterMap_map]
  apply List.ext_getElem?
  intro i
  have key : ∀ n, n ≤ us.length → (List.filterMap ((fun i => us.toArray[i]?) ∘ fun i => us.length - 1 - i) (List.range n)) = us.reverse.take n := by
    intro n
    induction n with
    | zero => intro _; rfl
    | succ n ih =>
      intro hn
      rw [List.range_succ, List.filterMap_append, ih (by omega), List.take_succ_eq_append_getElem (by rw [List.length_reverse]; omega), List.getElem_reverse]
      refine congrArg (fun z => us.reverse.take n ++ z) ?_
      show List.filterMap (fun i => us.toArray[us.length - 1 - i]?) [n] = _
      rw [List.filterMap_cons]
      have : us.toArray[us.length - 1 - n]? = some us[us.length - 1 - n] := by
        rw [List.getElem?_toArray, List.getElem?_eq_getElem]
      rw [this]
      rfl
  rw [key us.length (Nat.le_refl _), List.take_of_length_le (by rw [List.length_reverse]; exact Nat.le_refl _)]
def rRvL (K : PySem.W.Frag) : V → V → Hp → VK → Prop := fun x y H Q => ∃ (a : Addr) (xs : List V), x = .ref a ∧ y = .int (-1) ∧ SqL K H a xs ∧ ∀ p, H p = none → Q (.ref p) (upd H p (.lst xs.reverse))
variable {X : Cx} {e st : Expr} {te ts : TE} {pos p2 : Pos}
theorem pe_revL {r : R2} (he : PE X e te) (hs : PE X st ts) (hr : r = rRvL X.K := by rfl) : PE X (.Subscript e (.Slice none none (some st) p2) pos) (tStL r te ts) := by
  subst hr
  refine ⟨fun pins s σ H Q I h => ?_⟩
  refine Subscript_ (thn (he.run pins s σ H _ I h) fun v s1 ⟨x, H1, I1, r1, q1⟩ => ?_)
  refine wpAny_Slice ?_
  rw [evalPart_none]
  refine wpAny_pure (wpAny_pure ?_)
  rw [evalPart_some]
  refine thn (hs.run pins s1 σ H1 _ I1 q1) fun vs s3 ⟨y, H3, I3, ry, q3⟩ => ?_
  obtain ⟨a, xs, rfl, rfl, hx, q⟩ := q3
  cases r1
  obtain ⟨t, rfl⟩ := ry
  have I4 : Inv X pins σ H3 { s3 with heap := s3.heap.push { cls := .type "slice", data := .fields #[.none, .none, .int (-1) t] } } := I3.kept (t' := s3.toks) fun b ob q => Heap.get?_push_of_some _ q
  obtain ⟨its, r, ht, hz⟩ := I4.list hx
  have hlen := r.length
  have hg : wpAny (model X.prog X.w) X.A (getItem (.ref a) (.ref s3.heap.objs.size)) (EP X pins σ Q) X.xe { s3 with heap := s3.heap.push { cls := .type "slice", data := .fields #[.none, .none, .int (-1) t] } } := by
    refine wpAny_getItem_list_slice (st := some (-1)) ht.isList (Heap.IsSliceOf.new ..) .none .none (.int _ _) (by intro z; have := Option.some.inj z; omega) ?_ (by rw [List.size_toArray] <;> omega)
    rw [pick_rev its]
    refine ⟨.ref _, _, I4.laid (t' := s3.toks) (o := .lst xs.reverse) (fun b ob q => Heap.get?_push_of_some _ q) (Nat.le_refl _) ?_, rfl, q _ (I4.hok.fresh (Nat.le_refl _))⟩
    exact ⟨by rw [List.length_reverse]; exact hz, _, 0, r.reverse, Heap.get?_push_size _ rfl⟩
  show wpAny (model X.prog X.w) X.A (subscriptTail e (.Slice none none (some st) p2) (.ref a) (.ref s3.heap.objs.size)) (EP X pins σ Q) X.xe { s3 with heap := s3.heap.push { cls := .type "slice", data := .fields #[.none, .none, .int (-1) t] } }
  exact tail_any (ops := [.ref a, .ref s3.heap.objs.size]) ht.isList.typeIs slot_list_getitem.lookup hg (by with_unfolding_all rfl)
end Wn
/-! a tuple backwards: xs[::-1] -/
namespace Wn
open PySem PySem.Spec PyProof.Rows L2 HT
theorem pickT_rev (us : List Value) : ((List.range us.length).filterMap fun (k : Nat) => us.toArray[(((us.length : Int) - 1) + (k : Int) * (-1)).toNat]?).toArray = us.reverse.toArray := by
  congr 1
  have key : ∀ n, n ≤ us.length → (List.filterMap (fun (k : Nat) => us.toArray[(((us.length : Int) - 1) + (k : Int) * (-1)).toNat]?) (List.range n)) = us.reverse.take n := by
    intro n
    induction n with
    | zero => intro _; rfl
    | succ n ih =>
      intro hn
      rw [List.range_succ, List.filterMap_append, ih (by omega), List.take_succ_eq_append_getElem (by rw [List.length_reverse]; omega), List.getElem_reverse]
      refine congrArg (fun z => us.reverse.take n ++ z) ?_
      rw [List.filterMap_cons]
      have e : (((us.length : Int) - 1) + (n : Int) * (-1)).toNat = us.length - 1 - n := by omega
      have : us.toArray[us.length - 1 - n]? = some us[us.length - 1 - n] := by
        rw [List.getElem?_toArray, List.getElem?_eq_getElem]
      rw [e, this]
      rfl
  rw [key us.length (Nat.le_refl _), List.take_of_length_le (by rw [List.length_reverse]; exact Nat.le_refl _)]
section
variable {prog : Program} {w : World} {A : Around} {E : Value → Shared → Prop} {s : Shared}
theorem applied_rev {sl : Addr} {u : Tok} {n : Nat} {Q : Int × Int × Nat → Shared → Prop} (hs : s.heap.IsSliceOf sl .none .none (.int (-1) u)) (h : Q (((n : Int) - 1), -1, n) s) : wpAny (model prog w) A (Builtin.Slice.sliceApplied (.ref sl) (pure (n : Int))) Q E s := by
  obtain ⟨os, hos, hcs, hds⟩ := id hs
  unfold Builtin.Slice.sliceApplied Builtin.Slice.sliceFields
  refine wpAny_bind (wpAny_bind (wpAny_field hos hds (x := .none) rfl (wpAny_bind (wpAny_field hos hds (x := .none) rfl (wpAny_bind (wpAny_field hos hds (x := .int (-1) u) rfl (wpAny_pure ?_)))))))
  refine wpAny_bind (slicePart_int ?_)
  show wpAny _ _ (if ((-1 : Int) == 0) = true then _ else _) _ _ s
  rw [if_neg (by decide)]
  refine wpAny_bind (slicePart_none (wpAny_bind (slicePart_none (wpAny_bind (wpAny_pure ?_)))))
  show wpAny _ _ (pure (((n : Int) - 1), (-1 : Int), Builtin.Slice.slicePlaces ((n : Int) - 1) (-1) (-1))) _ _ s
  have e : Builtin.Slice.slicePlaces ((n : Int) - 1) (-1) (-1) = n := by
    unfold Builtin.Slice.slicePlaces
    rw [if_neg (by decide)]
    by_cases z : ((n : Int) - 1) > -1
    · rw [if_pos z, show (-(-1 : Int)) = 1 from rfl, Int.ediv_one]
      omega
    · rw [if_neg z]
      omega
  rw [e]
  exact wpAny_pure h
theorem getItem_tuple_rev {t sl : Addr} {items : List Value} {u : Tok} {Q : Value → Shared → Prop} (ht : IsTup s.heap t items.toArray) (hs : s.heap.IsSliceOf sl .none .none (.int (-1) u))
    (h : Q (.ref s.heap.objs.size) { s with heap := s.heap.push { cls := .type "tuple", data := .seq items.reverse.toArray } }) (hsz : items.length ≤ sizeLine) : wpAny (model prog w) A (getItem (.ref t) (.ref sl)) Q E s := by
  have hok : sizeOk (.seq items.reverse.toArray) := by
    show items.reverse.toArray.size ≤ sizeLine
    rw [List.size_toArray, List.length_reverse]
    exact hsz
  obtain ⟨os, hos, hcs, hds⟩ := id hs
  have hTs : s.TypeIs (.ref sl) "slice" := ⟨os, hos, hcs⟩
  unfold getItem
  try with_reducible refine wpAny_holding ?_
  first | refine wpAny_bind (wpAny_pure ?_) | skip
  refine wpAny_bind (wpAny_sequenceKey ht.typeIs (by decide) ?_)
  refine wpAny_bind (wpAny_callSpecial?_slot (name := Str.ofString "__getitem__") ht.typeIs PyProof.Rows.slot_tuple_getitem
    (wpAny_call_entry PyProof.Rows.slot_tuple_getitem ht.typeIs entry_tuple_getitem ?_ (args_tuple_getitem _ _)))
  show wpAny _ _ (Builtin.Tuple.tupleItemsOf (.ref t) >>= _) _ _ s
  refine wpAny_bind (tupleItemsOf_ ht ?_)
  refine wpAny_bind (wpAny_typeOf hTs ?_)
  rw [if_pos (by decide)]
  have e0 : items.toArray.size = items.length := List.size_toArray
  rw [e0]
  refine wpAny_bind (applied_rev hs ?_)
  have hno : ¬ ((((items.length : Int) - 1) == 0 && (-1 : Int) == 1 && items.length == items.length) = true) := by
    intro q
    rw [Bool.and_eq_true, Bool.and_eq_true] at q
    exact absurd q.1.2 (by decide)
  show wpAny _ _ (if (((items.length : Int) - 1) == 0 && (-1 : Int) == 1 && items.length == items.length) = true then _ else _) _ _ s
  rw [if_neg hno, pickT_rev]
  first
    | exact wpAny_bind (m := Builtin.Tuple.tupleExact _) (wpAny_newObj_type (wpAny_pure ⟨_, rfl, wpAny_pure h⟩) hok)
    | exact wpAny_bind (m := Builtin.Tuple.tupleExact _) (wpAny_newObj_type (wpAny_bind (wpAny_pure (wpAny_pure ⟨_, rfl, wpAny_pure h⟩))) hok)
    | exact wpAny_bind (wpAny_bind (m := Builtin.Tuple.tupleExact _) (wpAny_newObj_type (wpAny_pure (wpAny_pure ⟨_, rfl, wpAny_pure h⟩)) hok))
    | exact wpAny_bind (wpAny_bind (m := Builtin.Tuple.tupleExact _) (wpAny_newObj_type (wpAny_pure ⟨_, rfl, wpAny_pure h⟩) hok))
end
def rRvT (K : PySem.W.Frag) : V → V → Hp → VK → Prop := fun x y H Q => ∃ (a : Addr) (xs : List V), x = .ref a ∧ y = .int (-1) ∧ SqT K H a xs ∧ ∀ p, H p = none → Q (.ref p) (upd H p (.tup xs.reverse))
variable {X : Cx} {e st : Expr} {te ts : TE} {pos p2 : Pos}
theorem pe_revT {r : R2} (he : PE X e te) (hs : PE X st ts) (hr : r = rRvT X.K := by rfl) : PE X (.Subscript e (.Slice none none (some st) p2) pos) (tStL r te ts) := by
  subst hr
  refine ⟨fun pins s σ H Q I h => ?_⟩
  refine Subscript_ (thn (he.run pins s σ H _ I h) fun v s1 ⟨x, H1, I1, r1, q1⟩ => ?_)
  refine wpAny_Slice ?_
  rw [evalPart_none]
  refine wpAny_pure (wpAny_pure ?_)
  rw [evalPart_some]
  refine thn (hs.run pins s1 σ H1 _ I1 q1) fun vs s3 ⟨y, H3, I3, ry, q3⟩ => ?_
  obtain ⟨a, xs, rfl, rfl, hx, q⟩ := q3
  cases r1
  obtain ⟨t, rfl⟩ := ry
  have I4 : Inv X pins σ H3 { s3 with heap := s3.heap.push { cls := .type "slice", data := .fields #[.none, .none, .int (-1) t] } } := I3.kept (t' := s3.toks) fun b ob q => Heap.get?_push_of_some _ q
  obtain ⟨its, r, ht, hz⟩ := I4.tuple hx
  have hlen := r.length
  have hg : wpAny (model X.prog X.w) X.A (getItem (.ref a) (.ref s3.heap.objs.size)) (EP X pins σ Q) X.xe { s3 with heap := s3.heap.push { cls := .type "slice", data := .fields #[.none, .none, .int (-1) t] } } := by
    refine getItem_tuple_rev ht (Heap.IsSliceOf.new ..) ?_ (by omega)
    refine ⟨.ref _, _, I4.laid (t' := s3.toks) (o := .tup xs.reverse) (fun b ob q => Heap.get?_push_of_some _ q) (Nat.le_refl _) ?_, rfl, q _ (I4.hok.fresh (Nat.le_refl _))⟩
    exact ⟨by rw [List.length_reverse]; exact hz, _, r.reverse, IsTup.new _ _⟩
  show wpAny (model X.prog X.w) X.A (subscriptTail e (.Slice none none (some st) p2) (.ref a) (.ref s3.heap.objs.size)) (EP X pins σ Q) X.xe { s3 with heap := s3.heap.push { cls := .type "slice", data := .fields #[.none, .none, .int (-1) t] } }
  exact tail_any (ops := [.ref a, .ref s3.heap.objs.size]) ht.typeIs PyProof.Rows.slot_tuple_getitem.lookup hg (by with_unfolding_all rfl)
end Wn
/-! values beside lists that still grow: the heap without them; expressions over it -/
namespace Wn
open PySem PySem.Spec PyProof.Rows L2

def di (xs : List Nat) : PyData := .tuple ((ni xs).map PyData.int)
theorem sm_ni {xs : List Nat} {m : Nat} (h : ∀ k ∈ xs, k < 8192) (hm : xs.length ≤ m) : Sm (di xs) 13 1 (m * 14) := by
  refine Sm.tup (W := 13) m (fun d hd => ?_) (by unfold ni; rw [List.length_map, List.length_map]; exact hm)
  obtain ⟨z, hz, rfl⟩ := List.mem_map.mp hd
  obtain ⟨k, hk, rfl⟩ := List.mem_map.mp hz
  exact Sm.int (by decide) (by rw [Int.natAbs_natCast]; exact h k hk) (by decide)
theorem sml_ni {xs : List Nat} {m : Nat} (h : ∀ k ∈ xs, k < 8192) (hm : xs.length ≤ m) : Sm (.list ((ni xs).map PyData.int)) 13 1 (m * 14) := by
  refine Sm.lst (W := 13) m (fun d hd => ?_) (by unfold ni; rw [List.length_map, List.length_map]; exact hm)
  obtain ⟨z, hz, rfl⟩ := List.mem_map.mp hd
  obtain ⟨k, hk, rfl⟩ := List.mem_map.mp hz
  exact Sm.int (by decide) (by rw [Int.natAbs_natCast]; exact h k hk) (by decide)
theorem dp_vnT {K : PySem.W.Frag} {H : Hp} {t : Addr} {xs : List Nat} (h : H t = some (.tup (vn xs))) : Dp K H (.ref t) (di xs) := by
  rw [vn_ni] at h
  exact dp_tup h (dpAll_ints _)
theorem dp_vnL {K : PySem.W.Frag} {H : Hp} {t : Addr} {xs : List Nat} (h : H t = some (.lst (vn xs))) : Dp K H (.ref t) (.list ((ni xs).map PyData.int)) := by
  rw [vn_ni] at h
  exact dp_lst h (dpAll_ints _)

/-! values beside lists that still grow: the heap without them -/
def hid (W : List Addr) (H : Hp) : Hp := fun a => if a ∈ W then none else H a
theorem hid_get {W : List Addr} {H : Hp} {a : Addr} {o : HO} (h : H a = some o) (n : a ∉ W) : hid W H a = some o := by
  unfold hid
  rw [if_neg n]
  exact h
theorem hid_inv {W : List Addr} {H : Hp} {a : Addr} {o : HO} (h : hid W H a = some o) : a ∉ W ∧ H a = some o := by
  unfold hid at h
  by_cases m : a ∈ W
  · rw [if_pos m] at h
    cases h
  · rw [if_neg m] at h
    exact ⟨m, h⟩
theorem hid_kp {W : List Addr} {H H' : Hp} (g : Gr W H H') : Kp (hid W H) (hid W H') :=
  ⟨fun a _ e => hid_get (g a _ (hid_inv e).1 (hid_inv e).2) (hid_inv e).1, fun a _ e => hid_get (g a _ (hid_inv e).1 (hid_inv e).2) (hid_inv e).1, fun a _ _ e => hid_get (g a _ (hid_inv e).1 (hid_inv e).2) (hid_inv e).1⟩
theorem hid_out {W : List Addr} {H : Hp} : Kp (hid W H) H := ⟨fun a _ e => (hid_inv e).2, fun a _ e => (hid_inv e).2, fun a _ _ e => (hid_inv e).2⟩
theorem hid_in0 {H : Hp} : Kp H (hid [] H) := ⟨fun a _ e => hid_get e (by simp), fun a _ e => hid_get e (by simp), fun a _ _ e => hid_get e (by simp)⟩
theorem ne_none {H : Hp} {a S : Addr} {o : HO} (e : H a = some o) (n : H S = none) : a ∉ [S] := fun m => by
  rw [List.mem_singleton] at m
  subst m
  rw [n] at e
  cases e
theorem hid_in {H H' : Hp} {S : Addr} (n : H S = none) (g : Gr [S] H H') : Kp H (hid [S] H') :=
  ⟨fun a _ e => hid_get (g a _ (ne_none e n) e) (ne_none e n), fun a _ e => hid_get (g a _ (ne_none e n) e) (ne_none e n), fun a _ _ e => hid_get (g a _ (ne_none e n) e) (ne_none e n)⟩
def Wst (W : List Addr) (H : Hp) : Prop := ∀ a, a ∈ W → H a ≠ none
theorem Wst.gr {W : List Addr} {H H' : Hp} (s : Wst W H) (g : Gr [] H H') : Wst W H' := fun a m z => by
  cases e : H a with
  | none => exact s a m e
  | some o =>
    rw [g a o (by simp) e] at z
    cases z
theorem Wst.ne {W : List Addr} {H : Hp} {p : Addr} (s : Wst W H) (n : H p = none) : p ∉ W := fun m => s p m n
theorem gr0 {W : List Addr} {H H' : Hp} (g : Gr [] H H') : Gr W H H' := g.mono (by simp)
section
variable {K : PySem.W.Frag} {σ : L2.St} {H : Hp} {W : List Addr}
theorem dpAll_take {H : Hp} : ∀ {vs : List V} {ds : List PyData} (j : Nat), DpAll K H vs ds → DpAll K H (vs.take j) (ds.take j)
  | _, _, 0, _ => by
    rw [List.take_zero, List.take_zero]
    exact .nil
  | _, _, j + 1, .nil => .nil
  | _, _, j + 1, .cons a b => .cons a (dpAll_take j b)
def EvW (K : PySem.W.Frag) (W : List Addr) (te : TE) (σ : L2.St) (H : Hp) (d : PyData) : Prop := ∀ H1, Gr W H H1 → Wst W H1 → ∀ Q : VK, (∀ v H2, Gr [] H1 H2 → Dp K (hid W H2) v d → Q v H2) → te σ H1 Q
def EsW (K : PySem.W.Frag) (W : List Addr) (ta : TA) (σ : L2.St) (H : Hp) (ds : List PyData) : Prop := ∀ H1, Gr W H H1 → Wst W H1 → ∀ Q : List V → Hp → Prop, (∀ vs H2, Gr [] H1 H2 → DpAll K (hid W H2) vs ds → Q vs H2) → ta σ H1 Q
def ElW (W : List Addr) (te : TE) (σ : L2.St) (H : Hp) (xs : List Nat) : Prop := ∀ H1, Gr W H H1 → Wst W H1 → ∀ Q : VK, (∀ p H2, Gr [] H1 H2 → p ∉ W → H2 p = some (.lst (vn xs)) → Q (.ref p) H2) → te σ H1 Q
theorem ew_var {i : Nat} {v : V} {d : PyData} (e : σ[i]? = some (some v)) (h : Dp K (hid W H) v d) : EvW K W (tVar i) σ H d := fun H1 g _ Q q => ⟨v, e, q v H1 (Gr.refl _ _) (Dp.kp (hid_kp g) h)⟩
theorem ew_int {i : Int} : EvW K W (tC (.int i)) σ H (.int i) := fun H1 _ _ Q q => q _ H1 (Gr.refl _ _) (.int i)
theorem ew_bl {i : Bool} : EvW K W (tC (.bl i)) σ H (.bool i) := fun H1 _ _ Q q => q _ H1 (Gr.refl _ _) (.bl i)
theorem ew_str {i : Str} : EvW K W (tC (.str i)) σ H (.str i) := fun H1 _ _ Q q => q _ H1 (Gr.refl _ _) (.str i)
theorem ew_non : EvW K W (tC .non) σ H .none := fun H1 _ _ Q q => q _ H1 (Gr.refl _ _) .non
theorem esw_nil : EsW K W tNil σ H [] := fun H1 _ _ Q q => q _ H1 (Gr.refl _ _) .nil
theorem esw_cons {te : TE} {ta : TA} {d : PyData} {ds : List PyData} (h : EvW K W te σ H d) (r : EsW K W ta σ H ds) : EsW K W (tCons te ta) σ H (d :: ds) := fun H1 g s Q q =>
  h H1 g s _ fun v H2 g2 dv => r H2 (g.trans (gr0 g2)) (s.gr g2) _ fun vs H3 g3 dvs => q _ H3 (g2.trans g3) (.cons (Dp.kp (hid_kp (gr0 g3)) dv) dvs)
theorem ew_tup {ta : TA} {ds : List PyData} (h : EsW K W ta σ H ds) (hz : ds.length ≤ 1000 := by exact Nat.le_of_ble_eq_true rfl) : EvW K W (tTup ta) σ H (.tuple ds) := fun H1 g s Q q =>
  h H1 g s _ fun vs H2 g2 a => ⟨by rw [dpAll_len a]; exact Nat.le_of_lt (small1000 hz), fun p np => q _ _ (g2.trans (Gr.new np)) (dp_tup (hid_get upd_same ((s.gr g2).ne np)) (DpAll.kp (hid_kp (Gr.new np)) a))⟩
theorem ew_lst {ta : TA} {ds : List PyData} (h : EsW K W ta σ H ds) (hz : ds.length ≤ 1000 := by exact Nat.le_of_ble_eq_true rfl) : EvW K W (tLst ta) σ H (.list ds) := fun H1 g s Q q =>
  h H1 g s _ fun vs H2 g2 a => ⟨by rw [dpAll_len a]; exact Nat.le_of_lt (small1000 hz), fun p np => q _ _ (g2.trans (Gr.new np)) (dp_lst (hid_get upd_same ((s.gr g2).ne np)) (DpAll.kp (hid_kp (Gr.new np)) a))⟩
theorem elw_var {i : Nat} {r : Addr} {xs : List Nat} (e : σ[i]? = some (some (.ref r))) (h : H r = some (.lst (vn xs))) (n : r ∉ W) : ElW W (tVar i) σ H xs := fun H1 g _ Q q => ⟨_, e, q r H1 (Gr.refl _ _) n (g r _ n h)⟩
def lstD (xs : List Nat) : PyData := .list ((ni xs).map PyData.int)
theorem elw_d {te : TE} {xs : List Nat} (h : ElW W te σ H xs) : EvW K W te σ H (lstD xs) := fun H1 g s Q q => h H1 g s _ fun p H2 g2 n e => q _ H2 g2 (dp_vnL (hid_get e n))
theorem elw_take {te : TE} {xs : List Nat} {j : Nat} (h : ElW W te σ H xs) (hj : j ≤ xs.length) : ElW W (tSl (rSlL K) te tNoPart (tPart (tC (.int (j : Nat))))) σ H (xs.take j) := fun H1 g s Q q =>
  h H1 g s _ fun p H2 g2 n e => ⟨(j : Int), rfl, p, vn xs, rfl, sq_lst e, fun t nt => q t _ (g2.trans (Gr.new nt)) ((s.gr g2).ne nt) (by
    rw [upd_same, cut_lo (by rw [vn_len]; exact hj)]
    unfold vn
    rw [List.map_take])⟩
theorem elw_drop {te : TE} {xs : List Nat} {j : Nat} (h : ElW W te σ H xs) (hj : j ≤ xs.length) : ElW W (tSl (rSlL K) te (tPart (tC (.int (j : Nat)))) tNoPart) σ H (xs.drop j) := fun H1 g s Q q =>
  h H1 g s _ fun p H2 g2 n e => ⟨(j : Int), rfl, p, vn xs, rfl, sq_lst e, fun t nt => q t _ (g2.trans (Gr.new nt)) ((s.gr g2).ne nt) (by
    rw [upd_same, cut_hi (by rw [vn_len]; exact hj)]
    unfold vn
    rw [List.map_drop])⟩
theorem cut_init {xs : List Nat} {y : Nat} : cutV (vn (xs ++ [y])) none (some (-1)) = vn xs := by
  unfold cutV
  have e : HT.sIx (vn (xs ++ [y])).length (vn (xs ++ [y])).length (some (-1)) = xs.length := by
    have e0 : ∀ n d : Nat, HT.sIx n d (some (-1)) = ((-1 : Int) + (n : Int)).toNat := fun n d => by
      unfold HT.sIx
      exact if_pos (by decide)
    rw [e0, vn_len, List.length_append]
    show ((-1 : Int) + ((xs.length + 1 : Nat) : Int)).toNat = _
    omega
  rw [e, HT.sIx_none, List.drop_zero, Nat.sub_zero]
  unfold vn
  rw [← List.map_take, List.take_append_of_le_length (Nat.le_refl _), List.take_length]
theorem elw_init {te : TE} {xs : List Nat} {y : Nat} (h : ElW W te σ H (xs ++ [y])) : ElW W (tSl (rSlL K) te tNoPart (tPart (tUn (rU fun i => V.int (-i)) (tC (.int 1))))) σ H xs := fun H1 g s Q q =>
  h H1 g s _ fun p H2 g2 n e => ⟨1, rfl, (-1 : Int), rfl, p, vn (xs ++ [y]), rfl, sq_lst e, fun t nt => q t _ (g2.trans (Gr.new nt)) ((s.gr g2).ne nt) (by rw [upd_same, cut_init])⟩
theorem elw_cat {ta tb : TE} {xs ys : List Nat} (h1 : ElW W ta σ H xs) (h2 : ElW W tb σ H ys) (hz : xs.length + ys.length ≤ 6000) : ElW W (tOp rCat ta tb) σ H (xs ++ ys) := fun H1 g s Q q =>
  h1 H1 g s _ fun p H2 g2 n2 e2 => h2 H2 (g.trans (gr0 g2)) (s.gr g2) _ fun p3 H3 g3 n3 e3 =>
    ⟨p, p3, vn xs, vn ys, rfl, rfl, g3 p _ (by simp) e2, e3, by rw [vn_len, vn_len]; exact Nat.le_trans hz (by decide), fun t nt => q t _ ((g2.trans g3).trans (Gr.new nt)) (((s.gr g2).gr g3).ne nt) (by
      rw [upd_same]
      unfold vn
      rw [List.map_append])⟩
theorem ew_tupOf {te : TE} {xs : List Nat} (h : ElW W te σ H xs) : EvW K W (tCB (rTpO K) (tCons te tNil)) σ H (di xs) := fun H1 g s Q q =>
  h H1 g s _ fun p H2 g2 n e => ⟨p, vn xs, rfl, .inl ⟨sq_lst e, fun t nt => q _ _ (g2.trans (Gr.new nt)) (dp_vnT (hid_get upd_same ((s.gr g2).ne nt)))⟩⟩
theorem ew_listOf {te : TE} {ds : List PyData} (h : EvW K W te σ H (.tuple ds)) : EvW K W (tCB (rLsO K) (tCons te tNil)) σ H (.list ds) := fun H1 g s Q q =>
  h H1 g s _ fun v H2 g2 e => by
    cases e with
    | tup s' a' => exact ⟨_, _, rfl, .inr (hid_out.sqT s'), fun l nl => q _ _ (g2.trans (Gr.new nl)) (dp_lst (hid_get upd_same ((s.gr g2).ne nl)) (DpAll.kp (hid_kp (Gr.new nl)) a'))⟩
theorem ew_slT {te : TE} {ds : List PyData} {j : Nat} (h : EvW K W te σ H (.tuple ds)) (hj : j ≤ ds.length) : EvW K W (tSl (rSlA K) te tNoPart (tPart (tC (.int (j : Nat))))) σ H (.tuple (ds.take j)) := fun H1 g s Q q =>
  h H1 g s _ fun v H2 g2 e => by
    cases e with
    | @tup a ys _ s' t =>
      have hl := dpAll_len t
      refine ⟨(j : Int), rfl, a, ys, rfl, hid_out.sqT s', fun z => ?_, fun _ p np => ?_⟩
      · have e1 := z.2
        rw [HT.sIx_nat] at e1
        have e2 : ds.take j = ds := List.take_of_length_le (by omega)
        refine q _ H2 g2 ?_
        rw [e2]
        exact .tup s' t
      · refine q _ _ (g2.trans (Gr.new np)) (dp_tup (hid_get upd_same ((s.gr g2).ne np)) ?_)
        rw [cut_lo (by omega)]
        exact DpAll.kp (hid_kp (Gr.new np)) (dpAll_take j t)
theorem ew_catT {ta tb : TE} {ds es : List PyData} (h1 : EvW K W ta σ H (.tuple ds)) (h2 : EvW K W tb σ H (.tuple es)) (hz : ds.length + es.length ≤ 6000) : EvW K W (tOp (rCatA K) ta tb) σ H (.tuple (ds ++ es)) := fun H1 g s Q q =>
  h1 H1 g s _ fun v H2 g2 e2 => h2 H2 (g.trans (gr0 g2)) (s.gr g2) _ fun v3 H3 g3 e3 => by
    have e2 := Dp.kp (hid_kp (gr0 g3)) e2
    cases e2 with
    | @tup a xs _ s1 t1 =>
      cases e3 with
      | @tup b ys _ s2 t2 =>
        have l1 := dpAll_len t1
        have l2 := dpAll_len t2
        refine ⟨a, b, xs, ys, rfl, rfl, hid_out.sqT s1, hid_out.sqT s2, Nat.le_trans (show _ ≤ 6000 by omega) (by decide), fun z => ?_, fun _ z => ?_, fun _ _ p np => ?_⟩
        · subst z
          cases t1
          exact q _ H3 (g2.trans g3) (.tup s2 t2)
        · subst z
          cases t2
          rw [List.append_nil] at q
          exact q _ H3 (g2.trans g3) (.tup s1 t1)
        · exact q _ _ ((g2.trans g3).trans (Gr.new np)) (dp_tup (hid_get upd_same (((s.gr g2).gr g3).ne np)) (DpAll.kp (hid_kp (Gr.new np)) (dpAll_append t1 t2)))
/-- a pair put to a list that grows -/
theorem hid_put {H : Hp} {S p : Addr} {vs : List V} {ds : List PyData} {s : Str} {v : V} {d : PyData} (e : H S = some (.lst vs)) (a : DpAll K (hid [S] H) vs ds) (h : Dp K (hid [S] H) v d) (np : H p = none) :
    (upd H p (.tup [.str s, v])) S = some (.lst vs) ∧ Gr [S] H (upd (upd H p (.tup [.str s, v])) S (.lst (vs ++ [.ref p]))) ∧ DpAll K (hid [S] (upd (upd H p (.tup [.str s, v])) S (.lst (vs ++ [.ref p])))) (vs ++ [.ref p]) (ds ++ [.tuple [.str s, d]]) := by
  have hne : p ≠ S := fun z => by
    subst z
    rw [np] at e
    cases e
  have g1 : Gr [] H (upd H p (.tup [.str s, v])) := Gr.new np
  have g2 : Gr [S] H (upd (upd H p (.tup [.str s, v])) S (.lst (vs ++ [.ref p]))) := (gr0 g1).trans (Gr.wr (by simp))
  have hp : hid [S] (upd (upd H p (.tup [.str s, v])) S (.lst (vs ++ [.ref p]))) p = some (.tup [.str s, v]) := hid_get (by rw [upd_ne hne, upd_same]) (by simpa using hne)
  exact ⟨g1 S _ (by simp) e, g2, dpAll_append (DpAll.kp (hid_kp g2) a) (.cons (dp_tup hp (.cons (.str _) (.cons (Dp.kp (hid_kp g2) h) .nil))) .nil)⟩
end

theorem EvW.evd {K : PySem.W.Frag} {te : TE} {σ : L2.St} {H : Hp} {d : PyData} (h : EvW K [] te σ H d) : EvD K te σ H d := fun H1 g Q q => h H1 g (fun a m => by simp at m) Q fun v H2 g2 e => q v H2 g2 (Dp.kp hid_out e)
theorem EvD.evw {K : PySem.W.Frag} {te : TE} {σ : L2.St} {H : Hp} {d : PyData} (h : EvD K te σ H d) : EvW K [] te σ H d := fun H1 g _ Q q => h H1 g Q fun v H2 g2 e => q v H2 g2 (Dp.kp hid_in0 e)
theorem dpA_at {K : PySem.W.Frag} {H : Hp} : ∀ {xs : List V} {ds : List PyData} {i : Nat} {y : V}, DpAll K H xs ds → xs[i]? = some y → ∃ d, ds[i]? = some d ∧ Dp K H y d
  | _, _, i, y, .nil, h => by simp at h
  | _, _, 0, y, .cons a b, h => by
    simp at h
    subst h
    exact ⟨_, rfl, a⟩
  | _, _, i + 1, y, .cons a b, h => by
    obtain ⟨d, e1, e2⟩ := dpA_at (i := i) b (by simpa using h)
    exact ⟨d, by simpa using e1, e2⟩
theorem dpA_get {K : PySem.W.Frag} {H : Hp} : ∀ {xs : List V} {ds : List PyData} {i : Nat} {d : PyData}, DpAll K H xs ds → ds[i]? = some d → ∃ y, xs[i]? = some y ∧ Dp K H y d
  | _, _, i, y, .nil, h => by simp at h
  | _, _, 0, y, .cons a b, h => by
    simp at h
    subst h
    exact ⟨_, rfl, a⟩
  | _, _, i + 1, y, .cons a b, h => by
    obtain ⟨d, e1, e2⟩ := dpA_get (i := i) b (by simpa using h)
    exact ⟨d, by simpa using e1, e2⟩
theorem dpA_drop {K : PySem.W.Frag} {H : Hp} : ∀ {vs : List V} {ds : List PyData} (j : Nat), DpAll K H vs ds → DpAll K H (vs.drop j) (ds.drop j)
  | _, _, 0, h => by
    rw [List.drop_zero, List.drop_zero]
    exact h
  | _, _, j + 1, .nil => .nil
  | _, _, j + 1, .cons a b => dpA_drop j b
theorem dpA_rev {K : PySem.W.Frag} {H : Hp} : ∀ {vs : List V} {ds : List PyData}, DpAll K H vs ds → DpAll K H vs.reverse ds.reverse
  | _, _, .nil => .nil
  | _, _, .cons a b => by
    rw [List.reverse_cons, List.reverse_cons]
    exact dpAll_append (dpA_rev b) (.cons a .nil)
theorem hid_ofM {W : List Addr} {H H' : Hp} {d : Addr} (g : Gr [d] H H') (h : ∃ kvs, H d = some (.dK kvs)) (n : d ∉ W) : Kp (hid W H) (hid W H') :=
  Kp.ofM (d := d) (fun a o m e => hid_get (g a o m (hid_inv e).2) (hid_inv e).1) (by
    obtain ⟨kvs, h⟩ := h
    exact ⟨kvs, hid_get h n⟩)
theorem fresh_keep {H H1 H2 : Hp} {d : Addr} (nd : H d = none) (g1 : Gr [] H H1) (g2 : Gr [d] H1 H2) : Gr [] H H2 := fun u o _ e => g2 u o (by rw [List.mem_singleton]; exact ne_of_none e nd) (g1 u o (by simp) e)
theorem cut_hi' {xs : List V} {j : Nat} : cutV xs (some (j : Int)) none = xs.drop j := by
  unfold cutV
  rw [HT.sIx_nat, HT.sIx_none]
  rcases Nat.le_total j xs.length with h | h
  · rw [Nat.min_eq_left h]
    exact List.take_of_length_le (by rw [List.length_drop]; omega)
  · rw [Nat.min_eq_right h, List.drop_eq_nil_of_le h, Nat.sub_self, List.take_zero]
theorem cut_lo' {xs : List V} {j : Nat} : cutV xs none (some (j : Int)) = xs.take j := by
  unfold cutV
  rw [HT.sIx_nat, HT.sIx_none, List.drop_zero, Nat.sub_zero]
  rcases Nat.le_total j xs.length with h | h
  · rw [Nat.min_eq_left h]
  · rw [Nat.min_eq_right h, List.take_of_length_le h, List.take_of_length_le (Nat.le_refl _)]
section
variable {K : PySem.W.Frag} {σ : L2.St} {H : Hp} {W : List Addr}
theorem EvW.on {te : TE} {d : PyData} {H' : Hp} (h : EvW K W te σ H d) (g : Gr W H H') : EvW K W te σ H' d := fun H1 g1 s Q q => h H1 (g.trans g1) s Q q
theorem ew_i0 {g : Int → Int → Int} {ta tb : TE} {i j : Int} (h1 : EvW K W ta σ H (.int i)) (h2 : EvW K W tb σ H (.int j)) : EvW K W (tOp (rI0 fun i j => .int (g i j)) ta tb) σ H (.int (g i j)) := fun H1 gr s Q q =>
  h1 H1 gr s _ fun v H2 g2 e => h2 H2 (gr.trans (gr0 g2)) (s.gr g2) _ fun w H3 g3 e3 => by
    obtain rfl := dp_int e
    obtain rfl := dp_int e3
    exact ⟨i, j, rfl, rfl, q _ H3 (g2.trans g3) (.int _)⟩
theorem ew_iC {C : Int → Int → Prop} {g : Int → Int → Int} {ta tb : TE} {i j : Int} (h1 : EvW K W ta σ H (.int i)) (h2 : EvW K W tb σ H (.int j)) (hc : C i j) : EvW K W (tOp (rI C fun i j => .int (g i j)) ta tb) σ H (.int (g i j)) := fun H1 gr s Q q =>
  h1 H1 gr s _ fun v H2 g2 e => h2 H2 (gr.trans (gr0 g2)) (s.gr g2) _ fun w H3 g3 e3 => by
    obtain rfl := dp_int e
    obtain rfl := dp_int e3
    exact ⟨i, j, rfl, rfl, hc, q _ H3 (g2.trans g3) (.int _)⟩
theorem ew_neg {g : Int → Int} {ta : TE} {i : Int} (h1 : EvW K W ta σ H (.int i)) : EvW K W (tUn (rU fun i => .int (g i)) ta) σ H (.int (g i)) := fun H1 gr s Q q =>
  h1 H1 gr s _ fun v H2 g2 e => by
    obtain rfl := dp_int e
    exact ⟨i, rfl, q _ H2 g2 (.int _)⟩
theorem ew_to {te : TE} {d e : PyData} (h : EvW K W te σ H d) (z : d = e) : EvW K W te σ H e := z ▸ h
theorem ew_take {te tp : TE} {ds : List PyData} {j : Nat} (h : EvW K W te σ H (.tuple ds)) (hp : EvW K W tp σ H (.int (j : Nat))) : EvW K W (tSl (rSlA K) te tNoPart (tPart tp)) σ H (.tuple (ds.take j)) := fun H1 g s Q q =>
  h H1 g s _ fun v H2 g2 e => hp H2 (g.trans (gr0 g2)) (s.gr g2) _ fun vj H3 g3 ej => by
    obtain rfl := dp_int ej
    have e := Dp.kp (hid_kp (gr0 g3)) e
    cases e with
    | @tup a ys _ s' t =>
      have hl := dpAll_len t
      refine ⟨(j : Int), rfl, a, ys, rfl, hid_out.sqT s', fun z => ?_, fun _ p np => ?_⟩
      · have e1 := z.2
        rw [HT.sIx_nat] at e1
        have e2 : ds.take j = ds := List.take_of_length_le (by omega)
        refine q _ H3 (g2.trans g3) ?_
        rw [e2]
        exact .tup s' t
      · refine q _ _ ((g2.trans g3).trans (Gr.new np)) (dp_tup (hid_get upd_same (((s.gr g2).gr g3).ne np)) ?_)
        rw [cut_lo']
        exact DpAll.kp (hid_kp (Gr.new np)) (dpAll_take j t)
theorem ew_drop {te tp : TE} {ds : List PyData} {j : Nat} (h : EvW K W te σ H (.tuple ds)) (hp : EvW K W tp σ H (.int (j : Nat))) : EvW K W (tSl (rSlA K) te (tPart tp) tNoPart) σ H (.tuple (ds.drop j)) := fun H1 g s Q q =>
  h H1 g s _ fun v H2 g2 e => hp H2 (g.trans (gr0 g2)) (s.gr g2) _ fun vj H3 g3 ej => by
    obtain rfl := dp_int ej
    have e := Dp.kp (hid_kp (gr0 g3)) e
    cases e with
    | @tup a ys _ s' t =>
      have hl := dpAll_len t
      refine ⟨(j : Int), rfl, a, ys, rfl, hid_out.sqT s', fun z => ?_, fun _ p np => ?_⟩
      · have e1 := z.1
        rw [HT.sIx_nat] at e1
        refine q _ H3 (g2.trans g3) ?_
        have e2 : ds.drop j = ds := by
          rcases Nat.eq_zero_or_pos j with z | z
          · subst z
            rfl
          · have : ds.length = 0 := by omega
            rw [List.length_eq_zero_iff.mp this]
            cases j <;> rfl
        rw [e2]
        exact .tup s' t
      · refine q _ _ ((g2.trans g3).trans (Gr.new np)) (dp_tup (hid_get upd_same (((s.gr g2).gr g3).ne np)) ?_)
        rw [cut_hi']
        exact DpAll.kp (hid_kp (Gr.new np)) (dpA_drop j t)
theorem ew_rev {te : TE} {ds : List PyData} (h : EvW K W te σ H (.tuple ds)) : EvW K W (tStL (rRvT K) te (tUn (rU fun i => V.int (-i)) (tC (.int 1)))) σ H (.tuple ds.reverse) := fun H1 g s Q q =>
  h H1 g s _ fun v H2 g2 e => by
    cases e with
    | @tup a ys _ s' t =>
      exact ⟨1, rfl, a, ys, rfl, rfl, hid_out.sqT s', fun p np => q _ _ (g2.trans (Gr.new np)) (dp_tup (hid_get upd_same ((s.gr g2).ne np)) (DpAll.kp (hid_kp (Gr.new np)) (dpA_rev t)))⟩
theorem ew_ixT {te ti : TE} {ds : List PyData} {d : PyData} {j : Nat} (h : EvW K W te σ H (.tuple ds)) (hi : EvW K W ti σ H (.int (j : Nat))) (hj : ds[j]? = some d) : EvW K W (tOp (rIxT K) te ti) σ H d := fun H1 g s Q q =>
  h H1 g s _ fun v H2 g2 e => hi H2 (g.trans (gr0 g2)) (s.gr g2) _ fun vi H3 g3 ei => by
    obtain rfl := dp_int ei
    have e := Dp.kp (hid_kp (gr0 g3)) e
    cases e with
    | @tup a ys _ s' t =>
      obtain ⟨y, hy, dy⟩ := dpA_get t hj
      exact ⟨a, ys, (j : Int), y, rfl, rfl, hid_out.sqT s', atI_nat hy, q _ H3 (g2.trans g3) dy⟩
theorem ew_ixL {te ti : TE} {ds : List PyData} {d : PyData} {j : Nat} (h : EvW K W te σ H (.list ds)) (hi : EvW K W ti σ H (.int (j : Nat))) (hj : ds[j]? = some d) : EvW K W (tOp (rIxL K) te ti) σ H d := fun H1 g s Q q =>
  h H1 g s _ fun v H2 g2 e => hi H2 (g.trans (gr0 g2)) (s.gr g2) _ fun vi H3 g3 ei => by
    obtain rfl := dp_int ei
    have e := Dp.kp (hid_kp (gr0 g3)) e
    cases e with
    | @lst a ys _ s' t =>
      obtain ⟨y, hy, dy⟩ := dpA_get t hj
      exact ⟨a, ys, (j : Int), y, rfl, rfl, hid_out.sqL s', atI_nat hy, q _ H3 (g2.trans g3) dy⟩
theorem ew_lenT {te : TE} {ds : List PyData} (h : EvW K W te σ H (.tuple ds)) : EvW K W (tCB (rLn K) (tCons te tNil)) σ H (.int (ds.length : Nat)) := fun H1 g s Q q =>
  h H1 g s _ fun v H2 g2 e => by
    cases e with
    | @tup a ys _ s' t => exact ⟨a, ys, rfl, .inr (hid_out.sqT s'), by rw [dpAll_len t]; exact q _ H2 g2 (.int _)⟩
theorem ew_lenL {te : TE} {ds : List PyData} (h : EvW K W te σ H (.list ds)) : EvW K W (tCB (rLn K) (tCons te tNil)) σ H (.int (ds.length : Nat)) := fun H1 g s Q q =>
  h H1 g s _ fun v H2 g2 e => by
    cases e with
    | @lst a ys _ s' t => exact ⟨a, ys, rfl, .inl (hid_out.sqL s'), by rw [dpAll_len t]; exact q _ H2 g2 (.int _)⟩
theorem ew_repr {te : TE} {d : PyData} (h : EvW K W te σ H d) (f : Fits d) : EvW K W (tCB (rRepr K) (tCons te tNil)) σ H (.str d.shown) := fun H1 g s Q q =>
  h H1 g s _ fun v H2 g2 a => ⟨v, d, rfl, Dp.kp hid_out a, f, q _ H2 g2 (.str _)⟩
theorem ew_neS {ta tb : TE} {x y : Str} (h1 : EvW K W ta σ H (.str x)) (h2 : EvW K W tb σ H (.str y)) : EvW K W (tOp rNe ta tb) σ H (.bool (!decide (x = y))) := fun H1 g s Q q =>
  h1 H1 g s _ fun v H2 g2 a => h2 H2 (g.trans (gr0 g2)) (s.gr g2) _ fun w H3 g3 b => by
    have e1 : v = .str x := by cases a; rfl
    have e2 : w = .str y := by cases b; rfl
    subst e1 e2
    refine ⟨rfl, ?_⟩
    have e3 : decide (V.str x = V.str y) = decide (x = y) := by
      rw [decide_eq_decide]
      exact ⟨fun z => V.str.inj z, fun z => by rw [z]⟩
    show Q (.bl (!decide (V.str x = V.str y))) H3
    rw [e3]
    exact q _ H3 (g2.trans g3) (.bl _)
theorem ew_eqD {ta tb : TE} {d e : PyData} (h1 : EvW K W ta σ H d) (h2 : EvW K W tb σ H e) (s1 : SeqAt.shaped d = true) (s2 : SeqAt.shaped e = true) : EvW K W (tOp (rEqD K) ta tb) σ H (.bool (PyData.eqv d e)) := fun H1 g s Q q =>
  h1 H1 g s _ fun v H2 g2 a => h2 H2 (g.trans (gr0 g2)) (s.gr g2) _ fun w H3 g3 b => ⟨d, e, Dp.kp hid_out (Dp.kp (hid_kp (gr0 g3)) a), Dp.kp hid_out b, s1, s2, q _ H3 (g2.trans g3) (.bl _)⟩
theorem ew_neD {ta tb : TE} {d e : PyData} (h1 : EvW K W ta σ H d) (h2 : EvW K W tb σ H e) (s1 : SeqAt.shaped d = true) (s2 : SeqAt.shaped e = true) : EvW K W (tOp (rNeD K) ta tb) σ H (.bool (!PyData.eqv d e)) := fun H1 g s Q q =>
  h1 H1 g s _ fun v H2 g2 a => h2 H2 (g.trans (gr0 g2)) (s.gr g2) _ fun w H3 g3 b => ⟨d, e, Dp.kp hid_out (Dp.kp (hid_kp (gr0 g3)) a), Dp.kp hid_out b, s1, s2, q _ H3 (g2.trans g3) (.bl _)⟩
/-- a test that is data, under hidden lists -/
theorem tw_of {te : TE} {b : Bool} {Q : Bool → Hp → Prop} (wst : Wst W H) (h : EvW K W te σ H (.bool b)) (q : ∀ H2, Gr [] H H2 → Q b H2) : tTest te σ H Q := h H (Gr.refl _ _) wst _ fun v H2 g2 e => ⟨b, dp_bool e, q H2 g2⟩
theorem twb_of {te : TE} {b : Bool} {Q : Bool → Hp → Prop} (wst : Wst W H) (h : EvW K W te σ H (.bool b)) (q : ∀ H2, Gr [] H H2 → Q b H2) : tB te σ H Q := h H (Gr.refl _ _) wst _ fun v H2 g2 e => ⟨b, dp_bool e, q H2 g2⟩
theorem st_asgW {ta : TA} {i : Nat} {ds : List PyData} {D : Ends} (h : EsW K [] ta σ H ds) (hz : ds.length ≤ 1000) (k : ∀ vs H2 S, Gr [] H H2 → H2 S = none → DpAll K H2 vs ds → D.nx (σ.set i (some (.ref S))) (upd H2 S (.lst vs))) : tAsg (tLst ta) (gName i) D σ H :=
  h H (Gr.refl _ _) (fun a m => by simp at m) _ fun vs H2 g2 a => ⟨by rw [dpAll_len a]; exact Nat.le_of_lt (small1000 hz), fun S nS => k vs H2 S g2 nS (DpAll.kp hid_out a)⟩
theorem st_asgV {ta : TA} {i : Nat} {ds : List PyData} {D : Ends} (wst : Wst W H) (h : EsW K W ta σ H ds) (hz : ds.length ≤ 1000) (k : ∀ os H2 p, Gr [] H H2 → H2 p = none → p ∉ W → DpAll K (hid W H2) os ds → D.nx (σ.set i (some (.ref p))) (upd H2 p (.lst os))) : tAsg (tLst ta) (gName i) D σ H :=
  h H (Gr.refl _ _) wst _ fun vs H2 g2 a => ⟨by rw [dpAll_len a]; exact Nat.le_of_lt (small1000 hz), fun p np => k vs H2 p g2 np ((wst.gr g2).ne np) a⟩
/-- xs.append(e), by the size of the list -/
theorem st_appD {te : TE} {i : Nat} {l : Addr} {xs : List V} {ds : List PyData} {d : PyData} {D : Ends} (hi : σ[i]? = some (some (.ref l))) (e : H l = some (.lst xs)) (a : DpAll K H xs ds) (h : EvW K [] te σ H d) (hn : noLenAll ds.length (ds ++ [d]) = true) (hz : ds.length < 1000)
    (k : ∀ ys H2, Gr [l] H H2 → H2 l = some (.lst ys) → DpAll K H2 ys (ds ++ [d]) → (∀ v d, Dp K H v d → noLen ds.length d = true → Dp K H2 v d) → D.nx σ H2) : tDrop (tBM K "list" rAppend (tVar i) (tCons te tNil)) D σ H := by
  refine ⟨_, hi, .inl ⟨rfl, _, sq_lst e⟩, ?_⟩
  refine h H (Gr.refl _ _) (fun a m => by simp at m) _ fun v H2 g2 dv => ?_
  have dv := Dp.kp hid_out dv
  have hl := dpAll_len a
  have e2 := g2 l _ (by simp) e
  have a2 := DpAll.kp (Kp.of g2) a
  rw [noLenAll_app, Bool.and_eq_true] at hn
  have n2 : noLen ds.length d = true := by
    have := hn.2
    rw [noLenAll, Bool.and_eq_true] at this
    exact this.1
  refine ⟨l, xs, v, rfl, rfl, e2, Nat.lt_of_lt_of_le (show xs.length < 6000 by omega) (by decide), ?_⟩
  refine k (xs ++ [v]) _ ((gr0 g2).trans (Gr.wr (by simp))) upd_same (dpAll_append (DpAll.app e2 a2 (by rw [hl]; exact hn.1)) (.cons (Dp.app e2 dv (by rw [hl]; exact n2)) .nil)) fun w dd hw hn => ?_
  exact Dp.app e2 (Dp.kp (Kp.of g2) hw) (by rw [hl]; exact hn)
theorem dpA_ints : ∀ {H : Hp} {vs : List V} {zs : List Int}, DpAll K H vs (zs.map PyData.int) → vs = zs.map V.int
  | _, _, [], .nil => rfl
  | _, _, z :: zs, .cons a b => by
    rw [dp_int a, dpA_ints b]
    rfl
theorem dpA_int2 {H : Hp} {vs : List V} {x : Int} {d : PyData} (h : DpAll K H vs [.int x, d]) : ∃ v, vs = [.int x, v] ∧ Dp K H v d := by
  cases h with
  | cons a h =>
    cases h with
    | cons b h =>
      cases h
      obtain rfl := dp_int a
      exact ⟨_, rfl, b⟩
theorem dpA_int3 {H : Hp} {vs : List V} {x y : Int} {d : PyData} (h : DpAll K H vs [.int x, .int y, d]) : ∃ v, vs = [.int x, .int y, v] ∧ Dp K H v d := by
  cases h with
  | cons a h =>
    obtain rfl := dp_int a
    obtain ⟨v, rfl, e⟩ := dpA_int2 h
    exact ⟨v, rfl, e⟩
theorem dp_two {H : Hp} {v : V} {i j : Int} (h : Dp K H v (.tuple [.int i, .int j])) : ∃ a, v = .ref a ∧ SqT K H a [.int i, .int j] := by
  cases h with
  | @tup a xs _ s t =>
    cases t with
    | cons h1 t =>
      cases t with
      | cons h2 t =>
        cases t
        obtain rfl := dp_int h1
        obtain rfl := dp_int h2
        exact ⟨a, rfl, s⟩
theorem two_dp {H : Hp} {a : Addr} {i j : Int} (s : SqT K H a [.int i, .int j]) : Dp K H (.ref a) (.tuple [.int i, .int j]) := .tup s (.cons (.int _) (.cons (.int _) .nil))
/-- a call that gives data -/
def SpD (K : PySem.W.Frag) (sp : Sp) (E : XK) (ds : List PyData) (d : PyData) : Prop := ∀ vs H1 Q, DpAll K H1 vs ds → (∀ v H2, Gr [] H1 H2 → Dp K H2 v d → Q v H2) → sp vs H1 Q E
theorem ew_call {sp : Sp} {ta : TA} {E : XK} {ds : List PyData} {d : PyData} (h : EsW K [] ta σ H ds) (hs : SpD K sp E ds d) : EvW K [] (tCall sp [] E ta) σ H d := fun H1 g s Q q =>
  h H1 g s _ fun vs H2 g2 a => by
    show sp (vs ++ []) H2 Q E
    rw [List.append_nil]
    exact hs vs H2 Q (DpAll.kp hid_out a) fun v H3 g3 dv => q v H3 (g2.trans g3) (Dp.kp hid_in0 dv)
theorem ew_andV {ta tb : TE} {a b : Bool} (h1 : EvW K W ta σ H (.bool a)) (h2 : EvW K W tb σ H (.bool b)) : EvW K W (tAndV ta tb) σ H (.bool (a && b)) := fun H1 g s Q q =>
  h1 H1 g s _ fun v H2 g2 e => ⟨a, dp_bool e, by
    cases a with
    | true => exact iteT (h2 H2 (g.trans (gr0 g2)) (s.gr g2) _ fun w H3 g3 e3 => q w H3 (g2.trans g3) e3)
    | false => exact iteF (q _ H2 g2 (.bl false))⟩
theorem ew_orV {ta tb : TE} {a b : Bool} (h1 : EvW K W ta σ H (.bool a)) (h2 : EvW K W tb σ H (.bool b)) : EvW K W (tOrV ta tb) σ H (.bool (a || b)) := fun H1 g s Q q =>
  h1 H1 g s _ fun v H2 g2 e => ⟨a, dp_bool e, by
    cases a with
    | true => exact iteT (q _ H2 g2 (.bl true))
    | false => exact iteF (h2 H2 (g.trans (gr0 g2)) (s.gr g2) _ fun w H3 g3 e3 => q w H3 (g2.trans g3) e3)⟩
theorem ew_catL {ta tb : TE} {ds es : List PyData} (h1 : EvL K ta σ H ds) (h2 : EvL K tb σ H es) (hz : ds.length + es.length ≤ 1000) : EvW K [] (tOp rCat ta tb) σ H (.list (ds ++ es)) := (el_cat h1 h2 hz).d.evw
/-- scalars compared -/
theorem ew_eqI {ta tb : TE} {x y : Int} (h1 : EvW K W ta σ H (.int x)) (h2 : EvW K W tb σ H (.int y)) : EvW K W (tOp rEq ta tb) σ H (.bool (decide (x = y))) := fun H1 g s Q q =>
  h1 H1 g s _ fun v H2 g2 a => h2 H2 (g.trans (gr0 g2)) (s.gr g2) _ fun w H3 g3 b => by
    obtain rfl := dp_int a
    obtain rfl := dp_int b
    refine ⟨rfl, ?_⟩
    have e3 : decide (V.int x = V.int y) = decide (x = y) := by
      rw [decide_eq_decide]
      exact ⟨fun z => V.int.inj z, fun z => by rw [z]⟩
    show Q (.bl (decide (V.int x = V.int y))) H3
    rw [e3]
    exact q _ H3 (g2.trans g3) (.bl _)
theorem ew_neI {ta tb : TE} {x y : Int} (h1 : EvW K W ta σ H (.int x)) (h2 : EvW K W tb σ H (.int y)) : EvW K W (tOp rNe ta tb) σ H (.bool (!decide (x = y))) := fun H1 g s Q q =>
  h1 H1 g s _ fun v H2 g2 a => h2 H2 (g.trans (gr0 g2)) (s.gr g2) _ fun w H3 g3 b => by
    obtain rfl := dp_int a
    obtain rfl := dp_int b
    refine ⟨rfl, ?_⟩
    have e3 : decide (V.int x = V.int y) = decide (x = y) := by
      rw [decide_eq_decide]
      exact ⟨fun z => V.int.inj z, fun z => by rw [z]⟩
    show Q (.bl (!decide (V.int x = V.int y))) H3
    rw [e3]
    exact q _ H3 (g2.trans g3) (.bl _)
theorem ew_bool {te : TE} {a b : Bool} (h : EvW K W te σ H (.bool a)) (e : a = b) : EvW K W te σ H (.bool b) := e ▸ h
/-- x = e, e data, beside hidden lists -/
theorem st_setW {te : TE} {i : Nat} {d : PyData} {D : Ends} (wst : Wst W H) (h : EvW K W te σ H d) (k : ∀ v H2, Gr [] H H2 → Dp K (hid W H2) v d → D.nx (σ.set i (some v)) H2) : tAsg te (gName i) D σ H := h H (Gr.refl _ _) wst _ k
/-- xs = xs + [..], the list and what it holds; all else stays -/
theorem st_catW {ta : TA} {i j : Nat} {S : Addr} {vs : List V} {ds es : List PyData} {D : Ends} (hj : σ[j]? = some (some (.ref S))) (hS : H S = some (.lst vs)) (a : DpAll K H vs ds) (h : EsW K [] ta σ H es) (hz : ds.length + es.length ≤ 1000)
    (k : ∀ ws H2 S2, Gr [] H H2 → H2 S2 = none → DpAll K H2 ws (ds ++ es) → D.nx (σ.set i (some (.ref S2))) (upd H2 S2 (.lst ws))) : tAsg (tOp rCat (tVar j) (tLst ta)) (gName i) D σ H :=
  ⟨_, hj, h H (Gr.refl _ _) (fun a m => by simp at m) _ fun ws H2 g2 b => ⟨by rw [dpAll_len b]; exact Nat.le_of_lt (small1000 (by omega)), fun p np => by
    have g3 : Gr [] H2 (upd H2 p (.lst ws)) := Gr.new np
    have l1 := dpAll_len a
    have l2 := dpAll_len b
    refine ⟨S, p, vs, ws, rfl, rfl, (g2.trans g3) S _ (by simp) hS, upd_same, Nat.le_trans (show _ ≤ 6000 by omega) (by decide), fun S2 n2 => ?_⟩
    exact k _ _ S2 (g2.trans g3) n2 (dpAll_append (DpAll.kp (Kp.of (g2.trans g3)) a) (DpAll.kp (Kp.of g3) (DpAll.kp hid_out b)))⟩⟩
/-- xs.append(e) -/
theorem st_appW {te : TE} {i : Nat} {S : Addr} {vs : List V} {ds : List PyData} {e : PyData} {D : Ends} (hi : σ[i]? = some (some (.ref S))) (hS : H S = some (.lst vs)) (a : DpAll K (hid [S] H) vs ds) (h : EvW K [S] te σ H e) (hz : ds.length ≤ 6000)
    (k : ∀ ws H2, Gr [S] H H2 → H2 S = some (.lst ws) → DpAll K (hid [S] H2) ws (ds ++ [e]) → D.nx σ H2) : tDrop (tBM K "list" rAppend (tVar i) (tCons te tNil)) D σ H := by
  refine ⟨_, hi, .inl ⟨rfl, _, sq_lst hS⟩, h H (Gr.refl _ _) (fun a m => by rw [List.mem_singleton] at m; subst m; rw [hS]; exact fun z => by cases z) _ fun v H2 g2 ev => ?_⟩
  have hS2 := g2 S _ (by simp) hS
  have g3 : Gr [S] H2 (upd H2 S (.lst (vs ++ [v]))) := Gr.wr (by simp)
  have l1 := dpAll_len a
  refine ⟨S, vs, v, rfl, rfl, hS2, Nat.lt_of_lt_of_le (show vs.length < 7000 by omega) (by decide), ?_⟩
  refine k (vs ++ [v]) _ ((gr0 g2).trans g3) upd_same (dpAll_append (DpAll.kp ((hid_kp (gr0 g2)).trans (hid_kp g3)) a) (.cons (Dp.kp (hid_kp g3) ev) .nil))
/-- for x in xs: ys.append(..) -/
theorem for_appW {te : TE} {i9 i4 : Nat} {p S : Addr} {os vs : List V} {odds ds : List PyData} {f : PyData → PyData} {σ0 : L2.St} {H6 : Hp} {D : Ends} (hp : H6 p = some (.lst os)) (hpS : p ∉ [S]) (hS : H6 S = some (.lst vs)) (a : DpAll K (hid [S] H6) vs ds) (ao : DpAll K (hid [S] H6) os odds)
    (hz : ds.length + odds.length ≤ 6000) (h4 : σ0[i4]? = some (some (.ref S))) (hne : i9 ≠ i4) (h9 : i9 < σ0.length)
    (he : ∀ x v H', Gr [S] H6 H' → Dp K (hid [S] H') v x → x ∈ odds → EvW K [S] te (σ0.set i9 (some v)) H' (f x))
    (hd : ∀ v9 vs' H', Gr [S] H6 H' → H' S = some (.lst vs') → DpAll K (hid [S] H') vs' (ds ++ odds.map f) → D.nx (σ0.set i9 v9) H') (h0 : ∃ v, σ0 = σ0.set i9 v) :
    ∃ Wf : Nat → Nat → L2.St → Hp → Prop, (∃ m, Wf 0 m σ0 H6) ∧ ∀ i m σ H, Wf i m σ H →
      ((Itl K p).stop i H ∧ D.nx σ H) ∨ ((Itl K p).go i H ∧ ∃ N : L2.St → Hp → Prop, (∀ σ' H', N σ' H' → ∃ m', m' < m ∧ Wf (i + 1) m' σ' H') ∧ ∀ x H', (Itl K p).yld i H x H' → gName i9 x σ H' fun σ2 H2 => tDrop (tBM K "list" rAppend (tVar i4) (tCons te tNil)) { D with nx := N, ct := N, bk := D.nx } σ2 H2) := by
  have lo := dpAll_len ao
  refine for_list (K := K) (a := p) (xs := os) (fun i σ H' => Gr [S] H6 H' ∧ ∃ v9 vs', H' S = some (.lst vs') ∧ DpAll K (hid [S] H') vs' (ds ++ (odds.take i).map f) ∧ σ = σ0.set i9 v9) ?_ (fun i σ H' _ z => sq_lst (z.1 p _ hpS hp)) ?_ ?_
  · obtain ⟨v, hv⟩ := h0
    exact ⟨Gr.refl _ _, v, vs, hS, by rw [List.take_zero, List.map_nil, List.append_nil]; exact a, hv⟩
  · rintro i x σ H' hx ⟨G, v9, vs', hS', a', rfl⟩
    obtain ⟨dd, hdd, dx⟩ := dpA_at ao hx
    have hi : i < odds.length := (List.getElem?_eq_some_iff.mp hdd).1
    have ed : odds[i] = dd := (List.getElem?_eq_some_iff.mp hdd).2
    show tDrop (tBM K "list" rAppend (tVar i4) (tCons te tNil)) _ ((σ0.set i9 v9).set i9 (some x)) H'
    rw [List.set_set]
    refine st_appW (K := K) (S := S) (vs := vs') (by rw [List.getElem?_set_ne hne]; exact h4) hS' a' (he dd x H' G (Dp.kp (hid_kp G) dx) (List.mem_of_getElem? hdd)) (by rw [List.length_append, List.length_map, List.length_take]; omega) fun ws H2 g2 hS2 a2 => ?_
    refine ⟨G.trans g2, some x, ws, hS2, ?_, rfl⟩
    rw [List.take_succ_eq_append_getElem hi, List.map_append, ed, ← List.append_assoc]
    exact a2
  · rintro σ H' ⟨G, v9, vs', hS', a', rfl⟩
    rw [lo, List.take_of_length_le (Nat.le_refl _)] at a'
    exact hd v9 vs' H' G hS' a'
end

section
variable {K : PySem.W.Frag} {σ : L2.St} {H : Hp}
/-- for x in a tuple that is data -/
theorem st_forT {tl : TE} {g : TG} {tb : TS} {D : Ends} {ds : List PyData} (h : EvW K [] tl σ H (.tuple ds)) (Pv : Hp → Nat → L2.St → Hp → Prop) (h0 : ∀ H2, Gr [] H H2 → Pv H2 0 σ H2) (hk : ∀ H2 i σ' H', Pv H2 i σ' H' → Kp H2 H')
    (hs : ∀ H2 i d v σ' H', Gr [] H H2 → ds[i]? = some d → Dp K H' v d → Pv H2 i σ' H' → g v σ' H' fun σ3 H3 => tb { D with nx := Pv H2 (i + 1), ct := Pv H2 (i + 1), bk := D.nx } σ3 H3) (hd : ∀ H2 σ' H', Gr [] H H2 → Pv H2 ds.length σ' H' → D.nx σ' H') : tFor (iTup K tl) g tb D σ H :=
  h H (Gr.refl _ _) (fun a m => by simp at m) _ fun v H2 g2 e => by
    have e := Dp.kp hid_out e
    cases e with
    | @tup a xs _ s t =>
      have lx := dpAll_len t
      refine ⟨a, rfl, ⟨_, s⟩, ?_⟩
      refine for_tup (K := K) (a := a) (xs := xs) (Pv H2) (h0 H2 g2) (fun i σ' H' _ z => (hk H2 i σ' H' z).sqT s) (fun i x σ' H' hx z => ?_) (fun σ' H' z => hd H2 σ' H' g2 (by rw [← lx]; exact z))
      obtain ⟨dd, hdd, dx⟩ := dpA_at t hx
      exact hs H2 i dd x σ' H' g2 hdd (Dp.kp (hk H2 i σ' H' z) dx) z
theorem st_forL {tl : TE} {g : TG} {tb : TS} {D : Ends} {ds : List PyData} (h : EvW K [] tl σ H (.list ds)) (Pv : Hp → Nat → L2.St → Hp → Prop) (h0 : ∀ H2, Gr [] H H2 → Pv H2 0 σ H2) (hk : ∀ H2 i σ' H', Pv H2 i σ' H' → Kp H2 H')
    (hs : ∀ H2 i d v σ' H', Gr [] H H2 → ds[i]? = some d → Dp K H' v d → Pv H2 i σ' H' → g v σ' H' fun σ3 H3 => tb { D with nx := Pv H2 (i + 1), ct := Pv H2 (i + 1), bk := D.nx } σ3 H3) (hd : ∀ H2 σ' H', Gr [] H H2 → Pv H2 ds.length σ' H' → D.nx σ' H') : tFor (iList K tl) g tb D σ H :=
  h H (Gr.refl _ _) (fun a m => by simp at m) _ fun v H2 g2 e => by
    have e := Dp.kp hid_out e
    cases e with
    | @lst a xs _ s t =>
      have lx := dpAll_len t
      refine ⟨a, rfl, ⟨_, s⟩, ?_⟩
      refine for_list (K := K) (a := a) (xs := xs) (Pv H2) (h0 H2 g2) (fun i σ' H' _ z => (hk H2 i σ' H' z).sqL s) (fun i x σ' H' hx z => ?_) (fun σ' H' z => hd H2 σ' H' g2 (by rw [← lx]; exact z))
      obtain ⟨dd, hdd, dx⟩ := dpA_at t hx
      exact hs H2 i dd x σ' H' g2 hdd (Dp.kp (hk H2 i σ' H' z) dx) z
end
theorem psNox {X : Cx} {st : Stmt} {t : TS} (h : PS X.nox st t) : PS X st t := ⟨fun pins s σ H D I hw =>
  wpAny_mono (h.run pins s σ H D (I.wish _) hw) (fun _ _ q => q.unwish) fun _ _ z => False.elim z⟩
/-! comprehensions that give data -/
mutual
/-- no list in it -/
def noL : PyData → Bool
  | .list _ => false
  | .tuple xs => noLAll xs
  | .dict _ => false
  | _ => true
def noLAll : List PyData → Bool
  | [] => true
  | x :: xs => noL x && noLAll xs
end
mutual
theorem dp_noL {K : PySem.W.Frag} {H : Hp} {D : Addr} {us : List V} (hD : H D = some (.lst us)) : ∀ {v : V} {d : PyData}, Dp K H v d → noL d = true → Dp K (hid [D] H) v d
  | _, _, .non, _ => .non
  | _, _, .bl b, _ => .bl b
  | _, _, .int i, _ => .int i
  | _, _, .str z, _ => .str z
  | _, _, .lst _ _, n => by cases n
  | _, _, .tup (a := a) (xs := zs) (ds := ds) s t, n => by
    have n : noLAll ds = true := n
    refine .tup ?_ (dpA_noL hD t n)
    have ne : ∀ {o}, H a = some o → (∀ u, o ≠ .lst u) → a ∉ [D] := fun {o} h k m => by
      rw [List.mem_singleton] at m
      subst m
      rw [hD] at h
      injection h with h
      exact k us h.symm
    rcases s with (s | ⟨o, s⟩) | s
    · exact .inl (.inl (hid_get s (ne s fun u z => by cases z)))
    · exact .inl (.inr ⟨o, hid_get s (ne s fun u z => by cases z)⟩)
    · exact .inr s
theorem dpA_noL {K : PySem.W.Frag} {H : Hp} {D : Addr} {us : List V} (hD : H D = some (.lst us)) : ∀ {vs : List V} {ds : List PyData}, DpAll K H vs ds → noLAll ds = true → DpAll K (hid [D] H) vs ds
  | _, _, .nil, _ => .nil
  | _, _, .cons a b, n => by
    rw [noLAll, Bool.and_eq_true] at n
    exact .cons (dp_noL hD a n.1) (dpA_noL hD b n.2)
end
section
variable {K : PySem.W.Frag} {σ : L2.St} {H : Hp}
/-- a turn of a comprehension: what is put, or none -/
def LcT (K : PySem.W.Frag) (g : TG) (tt : TT) (te : TE) (vs : List Nat) (σ : L2.St) (H1 : Hp) (v : V) (r : Option PyData) : Prop :=
  ∀ (Q1 : VK) (Q0 : Hp → Prop), (∀ d y H2, r = some d → Gr [] H1 H2 → Dp K H2 y d → Q1 y H2) → (∀ H2, r = none → Gr [] H1 H2 → Q0 H2) →
    g v (wipe σ vs) H1 fun σ2 H2 => wipe σ2 vs = wipe σ vs ∧ tt σ2 H2 fun b H3 => if b = true then te σ2 H3 Q1 else Q0 H3
theorem lcT_put {K : PySem.W.Frag} {g : TG} {tt : TT} {te : TE} {vs : List Nat} {ds : List PyData} {f : PyData → Option PyData} {H2 H' : Hp} {D : Addr} {us : List V} {i : Nat} {dd : PyData} {x : V} (nD : H2 D = none) (hi : ds[i]? = some dd) (hz : ds.length ≤ 6000)
    (G : Gr [] H2 H') (hD : H' D = some (.lst us)) (aU : DpAll K (hid [D] H') us ((ds.take i).filterMap f)) (he : LcT K g tt te vs σ H' x (f dd)) (hn : ∀ d, f dd = some d → noL d = true) :
    g x (wipe σ vs) H' fun σ2 H2' => wipe σ2 vs = wipe σ vs ∧ tt σ2 H2' fun b H3 => if b = true then te σ2 H3 fun y H4 => ∃ acc, H4 D = some (.lst acc) ∧ acc.length < sizeLine ∧
      (Gr [] H2 (upd H4 D (.lst (acc ++ [y]))) ∧ ∃ us, (upd H4 D (.lst (acc ++ [y]))) D = some (.lst us) ∧ DpAll K (hid [D] (upd H4 D (.lst (acc ++ [y])))) us ((ds.take (i + 1)).filterMap f))
      else (Gr [] H2 H3 ∧ ∃ us, H3 D = some (.lst us) ∧ DpAll K (hid [D] H3) us ((ds.take (i + 1)).filterMap f)) := by
  have hi' : i < ds.length := (List.getElem?_eq_some_iff.mp hi).1
  have ed : ds[i] = dd := (List.getElem?_eq_some_iff.mp hi).2
  have tk := List.take_succ_eq_append_getElem hi'
  rw [ed] at tk
  have lu := dpAll_len aU
  have lf := List.length_filterMap_le f (ds.take i)
  rw [List.length_take] at lf
  refine he _ _ (fun d y H4 hr g4 dy => ?_) (fun H3 hr g3 => ?_)
  · have hD4 := g4 D _ (by simp) hD
    have gC : Gr [D] H4 (upd H4 D (.lst (us ++ [y]))) := Gr.wr (by simp)
    refine ⟨us, hD4, Nat.lt_of_lt_of_le (show us.length < 7000 by omega) (by decide), fresh_keep nD (G.trans g4) gC, us ++ [y], upd_same, ?_⟩
    rw [tk, List.filterMap_append]
    have e1 : List.filterMap f [dd] = [d] := by
      rw [List.filterMap_cons, hr]
      rfl
    rw [e1]
    exact dpAll_append (DpAll.kp ((hid_kp (gr0 g4)).trans (hid_kp gC)) aU) (.cons (Dp.kp (hid_kp gC) (dp_noL hD4 dy (hn d hr))) .nil)
  · refine ⟨G.trans g3, us, g3 D _ (by simp) hD, ?_⟩
    rw [tk, List.filterMap_append]
    have e1 : List.filterMap f [dd] = [] := by
      rw [List.filterMap_cons, hr]
      rfl
    rw [e1, List.append_nil]
    exact DpAll.kp (hid_kp (gr0 g3)) aU
theorem el_lcT {tl te : TE} {g : TG} {tt : TT} {vs : List Nat} {ds : List PyData} (f : PyData → Option PyData) (h : EvW K [] tl σ H (.tuple ds)) (hz : ds.length ≤ 6000)
    (he : ∀ x v H1, x ∈ ds → Gr [] H H1 → Dp K H1 v x → LcT K g tt te vs σ H1 v (f x)) (hn : ∀ x ∈ ds, ∀ d, f x = some d → noL d = true) : EvL K (tLc (iTup K tl) g tt te vs) σ H (ds.filterMap f) := fun H1 g1 Q q =>
  h H1 g1 (fun a m => by simp at m) _ fun v H2 g2 e => by
    have e := Dp.kp hid_out e
    cases e with
    | @tup a xs _ s t =>
      have lx := dpAll_len t
      refine ⟨a, rfl, ⟨_, s⟩, fun D nD => ?_⟩
      refine lc_tup (K := K) (a := a) (xs := xs) (fun i H' => Gr [] H2 H' ∧ ∃ us, H' D = some (.lst us) ∧ DpAll K (hid [D] H') us ((ds.take i).filterMap f)) ⟨Gr.new nD, [], upd_same, .nil⟩ (fun i H' _ z => (Kp.of z.1).sqT s) ?_ ?_
      · rintro i x H' hx ⟨G, us, hD, aU⟩
        obtain ⟨dd, hdd, dx⟩ := dpA_at t hx
        exact lcT_put nD hdd hz G hD aU (he dd x H' (List.mem_of_getElem? hdd) ((g1.trans g2).trans G) (Dp.kp (Kp.of G) dx)) (hn dd (List.mem_of_getElem? hdd))
      · rintro H3 ⟨G, us, hD, aU⟩
        rw [lx, List.take_of_length_le (Nat.le_refl _)] at aU
        exact q D us H3 (g2.trans G) hD (DpAll.kp hid_out aU)
theorem el_lcL {tl te : TE} {g : TG} {tt : TT} {vs : List Nat} {ds : List PyData} (f : PyData → Option PyData) (h : EvW K [] tl σ H (.list ds)) (hz : ds.length ≤ 6000)
    (he : ∀ x v H1, x ∈ ds → Gr [] H H1 → Dp K H1 v x → LcT K g tt te vs σ H1 v (f x)) (hn : ∀ x ∈ ds, ∀ d, f x = some d → noL d = true) : EvL K (tLc (iList K tl) g tt te vs) σ H (ds.filterMap f) := fun H1 g1 Q q =>
  h H1 g1 (fun a m => by simp at m) _ fun v H2 g2 e => by
    have e := Dp.kp hid_out e
    cases e with
    | @lst a xs _ s t =>
      have lx := dpAll_len t
      refine ⟨a, rfl, ⟨_, s⟩, fun D nD => ?_⟩
      refine lc_list (K := K) (a := a) (xs := xs) (fun i H' => Gr [] H2 H' ∧ ∃ us, H' D = some (.lst us) ∧ DpAll K (hid [D] H') us ((ds.take i).filterMap f)) ⟨Gr.new nD, [], upd_same, .nil⟩ (fun i H' _ z => (Kp.of z.1).sqL s) ?_ ?_
      · rintro i x H' hx ⟨G, us, hD, aU⟩
        obtain ⟨dd, hdd, dx⟩ := dpA_at t hx
        exact lcT_put nD hdd hz G hD aU (he dd x H' (List.mem_of_getElem? hdd) ((g1.trans g2).trans G) (Dp.kp (Kp.of G) dx)) (hn dd (List.mem_of_getElem? hdd))
      · rintro H3 ⟨G, us, hD, aU⟩
        rw [lx, List.take_of_length_le (Nat.le_refl _)] at aU
        exact q D us H3 (g2.trans G) hD (DpAll.kp hid_out aU)
theorem el_lstW {ta : TA} {ds : List PyData} (h : EsW K [] ta σ H ds) (hz : ds.length ≤ 1000 := by exact Nat.le_of_ble_eq_true rfl) : EvL K (tLst ta) σ H ds := fun H1 g Q q =>
  h H1 g (fun a m => by simp at m) _ fun vs H2 g2 a => ⟨by rw [dpAll_len a]; exact Nat.le_of_lt (small1000 hz), fun p np => q _ _ _ (g2.trans (Gr.new np)) upd_same (DpAll.kp (Kp.of (Gr.new np)) (DpAll.kp hid_out a))⟩
theorem el_to {te : TE} {ds es : List PyData} (h : EvL K te σ H ds) (z : ds = es) : EvL K te σ H es := z ▸ h
/-- for x in ..: each turn puts what te gives -/
theorem lcT_name {te : TE} {vs : List Nat} {i : Nat} {H1 : Hp} {v : V} {d : PyData} (hw : wipe ((wipe σ vs).set i (some v)) vs = wipe σ vs) (h : EvW K [] te ((wipe σ vs).set i (some v)) H1 d) : LcT K (gName i) tYes te vs σ H1 v (some d) := fun Q1 Q0 q _ =>
  ⟨hw, iteT (B := Q0 H1) (h H1 (Gr.refl _ _) (fun a m => by simp at m) Q1 fun y H2 g2 dy => q d y H2 rfl g2 (Dp.kp hid_out dy))⟩
/-- for x, y in .. -/
theorem lcT_two {te : TE} {vs : List Nat} {i j : Nat} {H1 : Hp} {v : V} {x y d : PyData} (hv : Dp K H1 v (.tuple [x, y])) (hw : ∀ a b, wipe (((wipe σ vs).set i (some a)).set j (some b)) vs = wipe σ vs)
    (h : ∀ a b, Dp K H1 a x → Dp K H1 b y → EvW K [] te (((wipe σ vs).set i (some a)).set j (some b)) H1 d) : LcT K (gTup K 2 (gCons (gName i) (gCons (gName j) gNil))) tYes te vs σ H1 v (some d) := fun Q1 Q0 q _ => by
  cases hv with
  | @tup p xs _ s t =>
    cases t with
    | @cons a _ _ _ h1 t =>
      cases t with
      | @cons b _ _ _ h2 t =>
        cases t
        exact ⟨p, _, rfl, s, rfl, a, _, rfl, b, _, rfl, rfl, hw a b, iteT (B := Q0 H1) (h a b h1 h2 H1 (Gr.refl _ _) (fun a m => by simp at m) Q1 fun y H2 g2 dy => q d y H2 rfl g2 (Dp.kp hid_out dy))⟩
end
theorem filA_yes {α : Type} {xs : List α} {p : α → Bool} {x : α} (h : p x = true) : (xs ++ [x]).filter p = xs.filter p ++ [x] := by
  rw [List.filter_append, List.filter_cons_of_pos h]
  rfl
theorem filA_no {α : Type} {xs : List α} {p : α → Bool} {x : α} (h : p x = false) : (xs ++ [x]).filter p = xs.filter p := by
  rw [List.filter_append, List.filter_cons_of_neg (by rw [h]; decide)]
  exact List.append_nil _
/-! data equal to data -/
mutual
theorem eqv_self : ∀ {d : PyData}, d.hasDict = false → PyData.eqv d d = true
  | .none, _ => rfl
  | .bool b, _ => by
    show (b == b) = true
    exact beq_self_eq_true b
  | .int i, _ => by
    show (i == i) = true
    exact beq_self_eq_true i
  | .str x, _ => by
    show (x == x) = true
    exact beq_self_eq_true x
  | .list xs, h => eqvAll_self (xs := xs) h
  | .tuple xs, h => eqvAll_self (xs := xs) h
  | .dict xs, h => by cases h
theorem eqvAll_self : ∀ {xs : List PyData}, PyData.hasDictAll xs = false → PyData.eqvAll xs xs = true
  | [], _ => rfl
  | x :: xs, h => by
    have h : (x.hasDict || PyData.hasDictAll xs) = false := h
    rw [Bool.or_eq_false_iff] at h
    show (PyData.eqv x x && PyData.eqvAll xs xs) = true
    rw [eqv_self h.1, eqvAll_self h.2]
    rfl
end
theorem Sm.eqv {d : PyData} {B D W : Nat} (h : Sm d B D W) : PyData.eqv d d = true := eqv_self h.nod
mutual
/-- no truth value, no dict in it -/
def nb : PyData → Bool
  | .none => true
  | .bool _ => false
  | .int _ => true
  | .str _ => true
  | .list xs => nbAll xs
  | .tuple xs => nbAll xs
  | .dict _ => false
def nbAll : List PyData → Bool
  | [] => true
  | x :: xs => nb x && nbAll xs
end
mutual
theorem eqv_is : ∀ {d e : PyData}, nb d = true → nb e = true → PyData.eqv d e = true → d = e
  | .none, e, _, _, h => by cases e <;> first | rfl | cases h
  | .bool b, e, h, _, _ => by cases h
  | .dict b, e, h, _, _ => by cases h
  | .int i, e, _, h2, h => by
    cases e <;> first | (cases h2; done) | (cases h; done) | skip
    rename_i j
    have h : (i == j) = true := h
    rw [eq_of_beq h]
  | .str i, e, _, h2, h => by
    cases e <;> first | (cases h2; done) | (cases h; done) | skip
    rename_i j
    have h : (i == j) = true := h
    rw [eq_of_beq h]
  | .list xs, e, h1, h2, h => by
    cases e <;> first | (cases h2; done) | (cases h; done) | skip
    rename_i ys
    rw [eqvAll_is (xs := xs) (ys := ys) h1 h2 h]
  | .tuple xs, e, h1, h2, h => by
    cases e <;> first | (cases h2; done) | (cases h; done) | skip
    rename_i ys
    rw [eqvAll_is (xs := xs) (ys := ys) h1 h2 h]
theorem eqvAll_is : ∀ {xs ys : List PyData}, nbAll xs = true → nbAll ys = true → PyData.eqvAll xs ys = true → xs = ys
  | [], [], _, _, _ => rfl
  | [], y :: ys, _, _, h => by cases h
  | x :: xs, [], _, _, h => by cases h
  | x :: xs, y :: ys, h1, h2, h => by
    have h1 : (nb x && nbAll xs) = true := h1
    have h2 : (nb y && nbAll ys) = true := h2
    have h : (PyData.eqv x y && PyData.eqvAll xs ys) = true := h
    rw [Bool.and_eq_true] at h1 h2 h
    rw [eqv_is h1.1 h2.1 h.1, eqvAll_is h1.2 h2.2 h.2]
end
mutual
theorem nb_nod : ∀ {d : PyData}, nb d = true → d.hasDict = false
  | .none, _ => rfl
  | .bool _, h => by cases h
  | .int _, _ => rfl
  | .str _, _ => rfl
  | .list xs, h => nbAll_nod (xs := xs) h
  | .tuple xs, h => nbAll_nod (xs := xs) h
  | .dict _, h => by cases h
theorem nbAll_nod : ∀ {xs : List PyData}, nbAll xs = true → PyData.hasDictAll xs = false
  | [], _ => rfl
  | x :: xs, h => by
    have h : (nb x && nbAll xs) = true := h
    rw [Bool.and_eq_true] at h
    show (x.hasDict || PyData.hasDictAll xs) = false
    rw [nb_nod h.1, nbAll_nod h.2]
    rfl
end
theorem eqv_iff {d e : PyData} (h1 : nb d = true) (h2 : nb e = true) : PyData.eqv d e = true ↔ d = e := ⟨eqv_is h1 h2, fun z => by rw [z]; exact eqv_self (nb_nod h2)⟩
theorem eqv_dec {d e : PyData} (h1 : nb d = true) (h2 : nb e = true) [Decidable (d = e)] : PyData.eqv d e = decide (d = e) := by
  by_cases h : d = e
  · rw [decide_eq_true h]
    exact (eqv_iff h1 h2).mpr h
  · rw [decide_eq_false h]
    cases z : PyData.eqv d e with
    | false => rfl
    | true => exact absurd ((eqv_iff h1 h2).mp z) h
theorem nbAll_of {xs : List PyData} (h : ∀ x ∈ xs, nb x = true) : nbAll xs = true := by
  induction xs with
  | nil => rfl
  | cons x r ih =>
    show (nb x && nbAll r) = true
    rw [h x (List.mem_cons_self ..), ih fun y hy => h y (List.mem_cons_of_mem _ hy)]
    rfl
theorem set_len {xs : List Nat} {ks : List Int} (nd : ks.Nodup) (hm : ∀ k, k ∈ ks ↔ k ∈ ni xs) : ks.length ≤ xs.length := by
  obtain ⟨zs, rfl⟩ := ni_of (zs := ks) fun k hk => by
    have := (hm k).mp hk
    unfold ni at this
    obtain ⟨j, _, rfl⟩ := List.mem_map.mp this
    omega
  unfold ni at nd hm ⊢
  have h1 : zs.Nodup := by
    rw [List.nodup_iff_pairwise_ne, List.pairwise_map] at nd
    exact nd.imp fun h e => h (by rw [e])
  have := nodup_sub (ys := xs) h1 fun z hz => by
    obtain ⟨j, hj, e⟩ := List.mem_map.mp ((hm (z : Int)).mp (List.mem_map.mpr ⟨z, hz, rfl⟩))
    rwa [show z = j by omega]
  rw [List.length_map]
  omega
end Wn
/-! sums of fractions; sorted lists of numbers -/
namespace Wn
open PySem PySem.Spec PyProof.Rows L2
/-! strictly ascending lists with the same members -/
theorem asc_uniq : ∀ {xs ys : List Nat}, xs.Pairwise (· < ·) → ys.Pairwise (· < ·) → (∀ z, z ∈ xs ↔ z ∈ ys) → xs = ys
  | [], [], _, _, _ => rfl
  | [], y :: ys, _, _, h => absurd ((h y).mpr (List.mem_cons_self ..)) (by simp)
  | x :: xs, [], _, _, h => absurd ((h x).mp (List.mem_cons_self ..)) (by simp)
  | x :: xs, y :: ys, hx, hy, h => by
    rw [List.pairwise_cons] at hx hy
    have e : x = y := by
      have h1 := (h x).mp (List.mem_cons_self ..)
      have h2 := (h y).mpr (List.mem_cons_self ..)
      rw [List.mem_cons] at h1 h2
      rcases h1 with h1 | h1
      · exact h1
      · rcases h2 with h2 | h2
        · exact h2.symm
        · have := hy.1 x h1
          have := hx.1 y h2
          omega
    subst e
    rw [asc_uniq hx.2 hy.2 fun z => ?_]
    have hz := h z
    rw [List.mem_cons, List.mem_cons] at hz
    constructor
    · intro m
      rcases hz.mp (.inr m) with e | e
      · subst e
        exact absurd (hx.1 z m) (by omega)
      · exact e
    · intro m
      rcases hz.mpr (.inr m) with e | e
      · subst e
        exact absurd (hy.1 z m) (by omega)
      · exact e
/-- ascending, not strictly: what is sorted is unique -/
theorem srt_uniq : ∀ {xs ys : List Int}, xs.Perm ys → xs.Pairwise (· ≤ ·) → ys.Pairwise (· ≤ ·) → xs = ys
  | [], ys, p, _, _ => (List.nil_perm.mp p).symm
  | x :: xs, [], p, _, _ => absurd p.symm (by simp)
  | x :: xs, y :: ys, p, hx, hy => by
    rw [List.pairwise_cons] at hx hy
    have e : x = y := by
      have h1 := p.mem_iff.mp (List.mem_cons_self (a := x) (l := xs))
      have h2 := p.mem_iff.mpr (List.mem_cons_self (a := y) (l := ys))
      rw [List.mem_cons] at h1 h2
      rcases h1 with h1 | h1
      · exact h1
      · rcases h2 with h2 | h2
        · exact h2.symm
        · have := hy.1 x h1
          have := hx.1 y h2
          omega
    subst e
    rw [srt_uniq (List.Perm.cons_inv p) hx.2 hy.2]
/-! insertion sort -/
def insN (x : Nat) : List Nat → List Nat
  | [] => [x]
  | y :: r => if x ≤ y then x :: y :: r else y :: insN x r
def srtN : List Nat → List Nat
  | [] => []
  | x :: r => insN x (srtN r)
theorem insN_perm (x : Nat) : ∀ xs, (insN x xs).Perm (x :: xs)
  | [] => List.Perm.refl _
  | y :: r => by
    unfold insN
    split
    · exact List.Perm.refl _
    · exact ((insN_perm x r).cons y).trans (List.Perm.swap x y r)
theorem srtN_perm : ∀ xs, (srtN xs).Perm xs
  | [] => List.Perm.refl _
  | x :: r => (insN_perm x (srtN r)).trans ((srtN_perm r).cons x)
theorem insN_srt {x : Nat} : ∀ {xs : List Nat}, xs.Pairwise (· ≤ ·) → (insN x xs).Pairwise (· ≤ ·)
  | [], _ => by
    unfold insN
    exact List.pairwise_singleton _ _
  | y :: r, h => by
    rw [List.pairwise_cons] at h
    unfold insN
    split
    · rename_i hxy
      rw [List.pairwise_cons, List.pairwise_cons]
      refine ⟨fun z hz => ?_, h.1, h.2⟩
      rcases List.mem_cons.mp hz with rfl | hz
      · exact hxy
      · exact Nat.le_trans hxy (h.1 z hz)
    · rename_i hxy
      rw [List.pairwise_cons]
      refine ⟨fun z hz => ?_, insN_srt h.2⟩
      rcases List.mem_cons.mp ((insN_perm x r).mem_iff.mp hz) with rfl | hz
      · omega
      · exact h.1 z hz
theorem srtN_srt : ∀ xs, (srtN xs).Pairwise (· ≤ ·)
  | [] => List.Pairwise.nil
  | x :: r => insN_srt (srtN_srt r)
theorem srt_is {ns : List Int} {xs : List Nat} (p : ns.Perm (ni xs)) (h : ns.Pairwise (· ≤ ·)) : ns = ni (srtN xs) := by
  refine srt_uniq (p.trans ?_) h ?_
  · unfold ni
    exact ((srtN_perm xs).map _).symm
  · unfold ni
    rw [List.pairwise_map]
    exact (srtN_srt xs).imp fun h => by omega
/-- strictly ascending, the members of a list, each once -/
theorem asc_set {xs ys : List Nat} {zs : List Int} (hs : zs.Pairwise (· < ·)) (hz : ∀ k : Int, k ∈ zs ↔ decide (k ∈ ni xs) = true) (hy : ys.Pairwise (· < ·)) (h : ∀ z, z ∈ ys ↔ z ∈ xs) : zs = ni ys := by
  obtain ⟨ws, rfl⟩ := ni_of (zs := zs) fun k hk => by
    have := of_decide_eq_true ((hz k).mp hk)
    unfold ni at this
    obtain ⟨j, _, rfl⟩ := List.mem_map.mp this
    omega
  rw [asc_uniq (xs := ws) (ys := ys) ?_ hy fun z => ?_]
  · unfold ni at hs
    rw [List.pairwise_map] at hs
    exact hs.imp fun {x y} h => by omega
  · rw [h z]
    have h1 := hz (z : Int)
    rw [decide_eq_true_eq] at h1
    have m : ∀ (l : List Nat), ((z : Int) ∈ ni l) ↔ z ∈ l := fun l => by
      unfold ni
      rw [List.mem_map]
      constructor
      · rintro ⟨j, hj, e⟩
        have e : (j : Int) = (z : Int) := e
        rwa [show z = j by omega]
      · exact fun h => ⟨z, h, rfl⟩
    rw [m ws, m xs] at h1
    exact h1
/-! each once, ascending -/
def unqN : List Nat → List Nat
  | [] => []
  | [x] => [x]
  | x :: y :: r => if x = y then unqN (y :: r) else x :: unqN (y :: r)
theorem unqN_mem : ∀ (xs : List Nat) (z : Nat), z ∈ unqN xs ↔ z ∈ xs
  | [], z => Iff.rfl
  | [x], z => Iff.rfl
  | x :: y :: r, z => by
    unfold unqN
    split
    · rename_i h
      subst h
      rw [unqN_mem (x :: r) z]
      simp
    · rw [List.mem_cons, unqN_mem (y :: r) z, List.mem_cons (a := z) (b := x)]
theorem unqN_asc : ∀ {xs : List Nat}, xs.Pairwise (· ≤ ·) → (unqN xs).Pairwise (· < ·)
  | [], _ => List.Pairwise.nil
  | [x], _ => List.pairwise_singleton _ _
  | x :: y :: r, h => by
    rw [List.pairwise_cons] at h
    have ih := unqN_asc h.2
    unfold unqN
    split
    · exact ih
    · rename_i hxy
      rw [List.pairwise_cons]
      refine ⟨fun z hz => ?_, ih⟩
      have hz := (unqN_mem _ z).mp hz
      have h1 := h.1 y (List.mem_cons_self ..)
      rcases List.mem_cons.mp hz with rfl | hz
      · omega
      · have := h.1 z (List.mem_cons_of_mem _ hz)
        have h2 := h.2
        rw [List.pairwise_cons] at h2
        have := h2.1 z hz
        omega
def setN (xs : List Nat) : List Nat := unqN (srtN xs)
theorem setN_mem {xs : List Nat} {z : Nat} : z ∈ setN xs ↔ z ∈ xs := (unqN_mem _ z).trans (srtN_perm xs).mem_iff
theorem setN_asc (xs : List Nat) : (setN xs).Pairwise (· < ·) := unqN_asc (srtN_srt xs)
/-! the denominators of sums -/
def sumE (p a c : Nat) : List Nat := if a ≠ c then [max a c] else if p = 2 then List.range a else List.range (a + 1)
def sumStep (one two : Nat) (found : List Nat) (r : Nat × Nat) : List Nat := found.flatMap fun x => (sumE r.1 (vl r.1 one) (vl r.1 two)).map fun e => x * r.1 ^ e
def sumK (one two k : Nat) : List Nat := ((ppL (Nat.lcm one two)).take k).foldl (sumStep one two) [1]
def sumL (one two : Nat) : List Nat := (ppL (Nat.lcm one two)).foldl (sumStep one two) [1]
theorem sumK_succ {one two k : Nat} (h : k < (ppL (Nat.lcm one two)).length) : sumK one two (k + 1) = sumStep one two (sumK one two k) (ppL (Nat.lcm one two))[k] := by
  unfold sumK
  rw [List.take_succ_eq_append_getElem h, List.foldl_append]
  rfl
theorem sumK_all {one two : Nat} : sumK one two (ppL (Nat.lcm one two)).length = sumL one two := by
  unfold sumK sumL
  rw [List.take_length]
/-- small enough on the way -/
def sumOk (one two : Nat) : Bool := decide (Nat.lcm one two ≤ 20000) && ((List.range ((ppL (Nat.lcm one two)).length + 1)).all fun k => decide ((sumK one two k).length ≤ 1000) && ((sumK one two k).all fun z => decide (z ≤ 100000000)) && decide (1 ≤ (sumK one two k).length))
theorem sumOk_at {one two k : Nat} (h : sumOk one two = true) (hk : k ≤ (ppL (Nat.lcm one two)).length) : (sumK one two k).length ≤ 1000 ∧ (∀ z ∈ sumK one two k, z ≤ 100000000) ∧ 1 ≤ (sumK one two k).length := by
  unfold sumOk at h
  rw [Bool.and_eq_true, List.all_eq_true] at h
  have h2 := h.2 k (List.mem_range.mpr (by omega))
  simp only [Bool.and_eq_true, decide_eq_true_eq, List.all_eq_true] at h2
  exact ⟨h2.1.1, h2.1.2, h2.2⟩
theorem sumOk_lcm {one two : Nat} (h : sumOk one two = true) : Nat.lcm one two ≤ 20000 := by
  unfold sumOk at h
  rw [Bool.and_eq_true] at h
  exact of_decide_eq_true h.1
def sdL (one two : Nat) : List Nat := srtN (sumL one two)
/-! lowest terms -/
def lowN (a u : Nat) : Nat × Nat := (a % u / Nat.gcd (a % u) u, u / Nat.gcd (a % u) u)
def sdn (x n y m : Nat) : Nat := n * m / Nat.gcd (x * m + y * n) (n * m)
theorem low_two (x n y m : Nat) : (lowN (x * m + y * n) (n * m)).2 = sdn x n y m := by
  unfold lowN sdn
  show n * m / Nat.gcd ((x * m + y * n) % (n * m)) (n * m) = _
  rw [← Nat.gcd_rec, Nat.gcd_comm]
theorem low_self {x n : Nat} (h : x < n) (g : Nat.gcd x n = 1) : lowN x n = (x, n) := by
  unfold lowN
  rw [Nat.mod_eq_of_lt h, g, Nat.div_one, Nat.div_one]
theorem low_ok {a u : Nat} (hu : 1 ≤ u) : (lowN a u).1 < (lowN a u).2 ∧ Nat.gcd (lowN a u).1 (lowN a u).2 = 1 ∧ (lowN a u).2 ≤ u := by
  unfold lowN
  have hr := Nat.mod_lt a (show 0 < u by omega)
  have hg : 1 ≤ Nat.gcd (a % u) u := Nat.gcd_pos_of_pos_right _ (by omega)
  obtain ⟨c, hc⟩ := Nat.gcd_dvd_left (a % u) u
  obtain ⟨e, he⟩ := Nat.gcd_dvd_right (a % u) u
  have h1 : a % u / Nat.gcd (a % u) u = c := by
    rw [Nat.div_eq_iff_eq_mul_right hg (Nat.gcd_dvd_left _ _)]
    exact hc
  have h2 : u / Nat.gcd (a % u) u = e := by
    rw [Nat.div_eq_iff_eq_mul_right hg (Nat.gcd_dvd_right _ _)]
    exact he
  refine ⟨?_, ?_, Nat.div_le_self _ _⟩
  · show a % u / _ < u / _
    rw [h1, h2]
    refine Nat.lt_of_mul_lt_mul_left (a := Nat.gcd (a % u) u) ?_
    rw [← hc, ← he]
    exact hr
  · show Nat.gcd (a % u / _) (u / _) = 1
    rw [Nat.gcd_div (Nat.gcd_dvd_left _ _) (Nat.gcd_dvd_right _ _)]
    exact Nat.div_self hg
theorem low_mod {a u : Nat} (hu : 1 ≤ u) : lowN (a % u) u = lowN a u := by
  unfold lowN
  rw [Nat.mod_mod]
/-- an example: the first numerator -/
def exF (one two d : Nat) : Option Nat := (List.range two).find? fun y => decide (Nat.gcd y two = 1) && decide (sdn (1 % one) one y two = d)
theorem exF_some {one two d y : Nat} (h : exF one two d = some y) : y < two ∧ Nat.gcd y two = 1 ∧ sdn (1 % one) one y two = d := by
  unfold exF at h
  have h1 := List.find?_some h
  have h2 := List.mem_of_find?_eq_some h
  simp only [Bool.and_eq_true, decide_eq_true_eq] at h1
  exact ⟨List.mem_range.mp h2, h1⟩
theorem exF_none {one two d : Nat} (h : exF one two d = none) : ∀ y, y < two → Nat.gcd y two = 1 → sdn (1 % one) one y two ≠ d := by
  intro y hy hg e
  unfold exF at h
  have := List.find?_eq_none.mp h y (List.mem_range.mpr hy)
  rw [decide_eq_true hg, decide_eq_true e] at this
  exact this rfl
end Wn
/-! zip of two sequences, each a list or a tuple -/
namespace Wn
open PySem PySem.Spec PyProof.Rows L2
/-- an iterator and what it goes over, of either kind -/
def KIt (t : Bool) (h : Heap) (it l : Addr) (k : Nat) : Prop := if t = true then h.IsTupleIter it l k else h.IsListIter it l k
def KSq (t : Bool) (h : Heap) (l : Addr) (us : Array Value) : Prop := if t = true then h.IsTuple l us else h.IsList l us
theorem KIt.mv {t : Bool} {h h' : Heap} {it l : Addr} {k : Nat} (q : KIt t h it l k) (f : ∀ o, h.get? it = some o → h'.get? it = some o) : KIt t h' it l k := by
  cases t with
  | true => exact Heap.IsTupleIter.at (show h.IsTupleIter it l k from q) f
  | false => exact Heap.IsListIter.at (show h.IsListIter it l k from q) f
theorem KIt.ex {t : Bool} {h h' : Heap} {it l p : Addr} {k : Nat} (q : KIt t h it l k) (f : Heap.ExtBut p h h') (n : it ≠ p) : KIt t h' it l k := q.mv fun o e => f _ _ n e
theorem KSq.ex {t : Bool} {h h' : Heap} {l p : Addr} {us : Array Value} (q : KSq t h l us) (f : Heap.ExtBut p h h') (n : l ≠ p) : KSq t h' l us := by
  cases t with
  | true => exact Heap.IsTuple.extBut (show h.IsTuple l us from q) f n
  | false => exact Heap.IsList.extBut (show h.IsList l us from q) f n
theorem KIt.lt {t : Bool} {h : Heap} {it l : Addr} {k : Nat} (q : KIt t h it l k) : it < h.objs.size := by
  cases t with
  | true => obtain ⟨_, e, _⟩ := (show h.IsTupleIter it l k from q); exact Heap.lt_size e
  | false => obtain ⟨_, e, _⟩ := (show h.IsListIter it l k from q); exact Heap.lt_size e
theorem KSq.lt {t : Bool} {h : Heap} {l : Addr} {us : Array Value} (q : KSq t h l us) : l < h.objs.size := by
  cases t with
  | true => obtain ⟨_, e, _⟩ := (show h.IsTuple l us from q); exact Heap.lt_size e
  | false => obtain ⟨_, e, _⟩ := (show h.IsList l us from q); exact Heap.lt_size e
section
variable {prog : Program} {w : World} {A : Around} {E : Value → Shared → Prop} {s : Shared}
theorem nx_some {t : Bool} {it l : Addr} {k : Nat} {us : Array Value} {x : Value} {Q : Value → Shared → Prop} (q : KIt t s.heap it l k) (r : KSq t s.heap l us) (e : us[k]? = some x)
    (go : ∀ g, KIt t g it l (k + 1) → Heap.SameBut it s.heap g → Q x { s with heap := g }) : wpAny (model prog w) A (Builtin.SmallTypes.nextOf (.ref it)) Q E s := by
  cases t with
  | true => exact RZ.nextOf_tuple_item q r e go
  | false => exact wpAny_nextOf_list_item q r e go
theorem nx_none {t : Bool} {it l : Addr} {k : Nat} {us : Array Value} {Q : Value → Shared → Prop} (hh : A.handled = none) (q : KIt t s.heap it l k) (r : KSq t s.heap l us) (e : us[k]? = none)
    (go : ∀ g p, Heap.ExtBut it s.heap g → (∃ o, g.get? p = some o ∧ o.cls = .type "StopIteration") → E (.ref p) { s with heap := g }) : wpAny (model prog w) A (Builtin.SmallTypes.nextOf (.ref it)) Q E s := by
  cases t with
  | true => exact RZ.nextOf_tuple_end hh q r e go
  | false => exact wpAny_nextOf_list_end hh q r e go
variable {t1 t2 : Bool} {z TI TO i1 i2 l1 l2 : Addr} {k1 k2 : Nat} {us vs : Array Value} {x y a b : Value}
/-- one more pair -/
theorem zm_some {Q : Value → Shared → Prop} (D : ZipApart z TI TO i1 i2 l1 l2) (Z : IsZip s.heap z TI TO .none) (PI : IsPair s.heap TI (.ref i1) (.ref i2)) (PO : IsPair s.heap TO a b)
    (I1 : KIt t1 s.heap i1 l1 k1) (I2 : KIt t2 s.heap i2 l2 k2) (S1 : KSq t1 s.heap l1 us) (S2 : KSq t2 s.heap l2 vs) (ex : us[k1]? = some x) (ey : vs[k2]? = some y)
    (go : ∀ g, IsZip g z TI TO (rawInt s.heap.objs.size) → IsPair g TO x y → KIt t1 g i1 l1 (k1 + 1) → KIt t2 g i2 l2 (k2 + 1) → IsPair g s.heap.objs.size x y → g.objs.size = s.heap.objs.size + 1 →
      (∀ c o, c ≠ z → c ≠ TO → c ≠ i1 → c ≠ i2 → s.heap.get? c = some o → g.get? c = some o) → Q (.ref s.heap.objs.size) { s with heap := g }) :
    wpAny (model prog w) A (Builtin.«zip.__next__» ⟨[.ref z], []⟩) (fun fin s' => ∃ v, fin = .done (.ret v) ∧ Q v s') E s := by
  show wpAny _ _ (field (.ref z) 2 >>= fun _ => _) _ E s
  refine wpAny_bind (wpAny_field Z rfl (x := .bool false) rfl ?_)
  show wpAny _ _ (field (.ref z) 3 >>= fun _ => _) _ E s
  refine wpAny_bind (wpAny_field Z rfl (x := .ref TI) rfl (wpAny_bind (wpAny_seqItems PI rfl ?_)))
  show wpAny _ _ (Builtin.SmallTypes.ownedTupleIsFree (.ref z) >>= fun _ => _) _ E s
  refine wpAny_bind ?_
  unfold Builtin.SmallTypes.ownedTupleIsFree
  refine wpAny_bind (wpAny_field Z rfl (x := .none) rfl (wpAny_pure ?_))
  simp only [if_true]
  refine wpAny_bind (wpAny_rule (wpAny_bind (wpAny_field Z rfl (x := .ref TO) rfl (wpAny_bind (wpAny_setField_rec Z (by simp) fun g1 Z1 e1 => ?_)))))
  replace Z1 : IsZip g1 z TI TO .ellipsis := Z1
  refine wpAny_bind ?_
  simp only [List.zipIdx_cons, List.zipIdx_nil, List.forIn_cons, List.forIn_nil]
  refine wpAny_bind (wpAny_bind (wpAny_onRaise ?_))
  show wpAny _ _ (Builtin.SmallTypes.nextOf (.ref i1) >>= fun _ => _) _ _ _
  refine wpAny_bind (nx_some (I1.ex e1.extBut D.i1z) (S1.ex e1.extBut D.l1z) ex fun g2 J1 e2 => wpAny_pure ?_)
  have PO2 : IsPair g2 TO a b := e2.extBut _ _ D.TOi1 (e1.extBut _ _ D.TOz PO)
  refine wpAny_bind (wpAny_seqItems PO2 rfl (wpAny_bind (wpAny_updateSeq_pair PO2 fun g3 PO3 e3 => ?_)))
  replace PO3 : IsPair g3 TO x b := PO3
  refine wpAny_bind (wpAny_letGo (wpAny_pure (wpAny_bind (wpAny_bind (wpAny_onRaise ?_)))))
  show wpAny _ _ (Builtin.SmallTypes.nextOf (.ref i2) >>= fun _ => _) _ _ _
  refine wpAny_bind (nx_some (((I2.ex e1.extBut D.i2z).ex e2.extBut D.i12.symm).ex e3.extBut D.TOi2.symm) (((S2.ex e1.extBut D.l2z).ex e2.extBut D.l2i1).ex e3.extBut D.l2TO) ey fun g4 J2 e4 => wpAny_pure ?_)
  have PO4 : IsPair g4 TO x b := e4.extBut _ _ D.TOi2 PO3
  refine wpAny_bind (wpAny_seqItems PO4 rfl (wpAny_bind (wpAny_updateSeq_pair PO4 fun g5 PO5 e5 => ?_)))
  replace PO5 : IsPair g5 TO x y := PO5
  refine wpAny_bind (wpAny_letGo (wpAny_pure (wpAny_pure (wpAny_bind (wpAny_seqItems PO5 rfl (wpAny_bind (wpAny_newTuple ?_)))))))
  have sz : g5.objs.size = s.heap.objs.size := by rw [e5.1, e4.1, e3.1, e2.1, e1.1]
  have Z5 : IsZip g5 z TI TO .ellipsis := e5.extBut _ _ D.TOz.symm (e4.extBut _ _ D.i2z.symm (e3.extBut _ _ D.TOz.symm (e2.extBut _ _ D.i1z.symm Z1)))
  have old : ∀ c o, c ≠ z → c ≠ TO → c ≠ i1 → c ≠ i2 → s.heap.get? c = some o → g5.get? c = some o := fun c o n1 n2 n3 n4 e =>
    e5.extBut _ _ n2 (e4.extBut _ _ n4 (e3.extBut _ _ n2 (e2.extBut _ _ n3 (e1.extBut _ _ n1 e))))
  have J1' : KIt t1 g5 i1 l1 (k1 + 1) := ((J1.ex e3.extBut D.TOi1.symm).ex e4.extBut D.i12).ex e5.extBut D.TOi1.symm
  have J2' : KIt t2 g5 i2 l2 (k2 + 1) := J2.ex e5.extBut D.TOi2.symm
  have zl : z < g5.objs.size := Heap.lt_size Z5
  show wpAny _ _ (Builtin.SmallTypes.ownedTupleHandOut (.ref z) (.ref g5.objs.size) >>= fun _ => _) _ _ _
  refine wpAny_bind ?_
  unfold Builtin.SmallTypes.ownedTupleHandOut
  have Z6 : IsZip (g5.push { cls := .type "tuple", data := .seq #[x, y] }) z TI TO .ellipsis := Heap.get?_push_of_some _ Z5
  refine wpAny_bind (wpAny_setField_rec Z6 (by simp) fun g7 Z7 e7 => ?_)
  replace Z7 : IsZip g7 z TI TO (rawInt g5.objs.size) := Z7
  refine wpAny_setField_rec Z7 (by simp) fun g8 Z8 e8 => ?_
  replace Z8 : IsZip g8 z TI TO (rawInt g5.objs.size) := Z8
  have up : ∀ c o, c ≠ z → g5.get? c = some o → g8.get? c = some o := fun c o n e => e8.extBut _ _ n (e7.extBut _ _ n (Heap.get?_push_of_some _ e))
  have T8 : IsPair g8 g5.objs.size x y := e8.extBut _ _ (Nat.ne_of_gt zl) (e7.extBut _ _ (Nat.ne_of_gt zl) (Heap.get?_push_size _ rfl))
  have sz8 : g8.objs.size = g5.objs.size + 1 := by rw [e8.1, e7.1, Heap.size_push]
  rw [sz] at Z8 T8 sz8
  refine wpAny_pure ⟨_, rfl, ?_⟩
  show Q (.ref g5.objs.size) _
  rw [sz]
  exact go g8 Z8 (up _ _ D.TOz PO5) (J1'.mv fun o e => up _ o D.i1z e) (J2'.mv fun o e => up _ o D.i2z e) T8 sz8 fun c o n1 n2 n3 n4 e => up c o n1 (old c o n1 n2 n3 n4 e)
/-- the end -/
theorem zm_none {Q : Fin → Shared → Prop} (hh : A.handled = none) (D : ZipApart z TI TO i1 i2 l1 l2) (Z : IsZip s.heap z TI TO .none) (PI : IsPair s.heap TI (.ref i1) (.ref i2)) (PO : IsPair s.heap TO a b)
    (I1 : KIt t1 s.heap i1 l1 k1) (I2 : KIt t2 s.heap i2 l2 k2) (S1 : KSq t1 s.heap l1 us) (S2 : KSq t2 s.heap l2 vs) (en : us[k1]? = none ∨ vs[k2]? = none)
    (go : ∀ g p, (∀ c o, c ≠ z → c ≠ TO → c ≠ i1 → c ≠ i2 → s.heap.get? c = some o → g.get? c = some o) → (∃ o, g.get? p = some o ∧ o.cls = .type "StopIteration") → E (.ref p) { s with heap := g }) :
    wpAny (model prog w) A (Builtin.«zip.__next__» ⟨[.ref z], []⟩) Q E s := by
  show wpAny _ _ (field (.ref z) 2 >>= fun _ => _) Q E s
  refine wpAny_bind (wpAny_field Z rfl (x := .bool false) rfl ?_)
  show wpAny _ _ (field (.ref z) 3 >>= fun _ => _) Q E s
  refine wpAny_bind (wpAny_field Z rfl (x := .ref TI) rfl (wpAny_bind (wpAny_seqItems PI rfl ?_)))
  show wpAny _ _ (Builtin.SmallTypes.ownedTupleIsFree (.ref z) >>= fun _ => _) Q E s
  refine wpAny_bind ?_
  unfold Builtin.SmallTypes.ownedTupleIsFree
  refine wpAny_bind (wpAny_field Z rfl (x := .none) rfl (wpAny_pure ?_))
  simp only [if_true]
  refine wpAny_bind (wpAny_rule (wpAny_bind (wpAny_field Z rfl (x := .ref TO) rfl (wpAny_bind (wpAny_setField_rec Z (by simp) fun g1 Z1 e1 => ?_)))))
  replace Z1 : IsZip g1 z TI TO .ellipsis := Z1
  refine wpAny_bind ?_
  simp only [List.zipIdx_cons, List.zipIdx_nil, List.forIn_cons, List.forIn_nil]
  refine wpAny_bind (wpAny_bind (wpAny_onRaise ?_))
  show wpAny _ _ (Builtin.SmallTypes.nextOf (.ref i1) >>= fun _ => _) _ _ _
  cases ex : us[k1]? with
  | none =>
    refine wpAny_bind (nx_none hh (I1.ex e1.extBut D.i1z) (S1.ex e1.extBut D.l1z) ex fun g2 p e2 hp => ?_)
    obtain ⟨o, ho, hc⟩ := hp
    have Z2 : IsZip g2 z TI TO .ellipsis := e2 _ _ D.i1z.symm Z1
    have pz : p ≠ z := fun q => by subst q; rw [Z2] at ho; cases ho; simp at hc
    exact wpAny_setField_rec Z2 (by simp) fun g3 _ e3 => go g3 p (fun c o n1 _ n3 _ q => e3.extBut _ _ n1 (e2 _ _ n3 (e1.extBut _ _ n1 q))) ⟨o, e3.extBut _ _ pz ho, hc⟩
  | some x =>
    have ey : vs[k2]? = none := en.resolve_left (by rw [ex]; intro q; cases q)
    refine wpAny_bind (nx_some (I1.ex e1.extBut D.i1z) (S1.ex e1.extBut D.l1z) ex fun g2 J1 e2 => wpAny_pure ?_)
    have PO2 : IsPair g2 TO a b := e2.extBut _ _ D.TOi1 (e1.extBut _ _ D.TOz PO)
    refine wpAny_bind (wpAny_seqItems PO2 rfl (wpAny_bind (wpAny_updateSeq_pair PO2 fun g3 PO3 e3 => ?_)))
    refine wpAny_bind (wpAny_letGo (wpAny_pure (wpAny_bind (wpAny_bind (wpAny_onRaise ?_)))))
    show wpAny _ _ (Builtin.SmallTypes.nextOf (.ref i2) >>= fun _ => _) _ _ _
    refine wpAny_bind (nx_none hh (((I2.ex e1.extBut D.i2z).ex e2.extBut D.i12.symm).ex e3.extBut D.TOi2.symm) (((S2.ex e1.extBut D.l2z).ex e2.extBut D.l2i1).ex e3.extBut D.l2TO) ey fun g4 p e4 hp => ?_)
    obtain ⟨o, ho, hc⟩ := hp
    have Z4 : IsZip g4 z TI TO .ellipsis := e4 _ _ D.i2z.symm (e3.extBut _ _ D.TOz.symm (e2.extBut _ _ D.i1z.symm Z1))
    have pz : p ≠ z := fun q => by subst q; rw [Z4] at ho; cases ho; simp at hc
    exact wpAny_setField_rec Z4 (by simp) fun g5 _ e5 => go g5 p (fun c o n1 n2 n3 n4 q => e5.extBut _ _ n1 (e4 _ _ n4 (e3.extBut _ _ n2 (e2.extBut _ _ n3 (e1.extBut _ _ n1 q))))) ⟨o, e5.extBut _ _ pz ho, hc⟩
theorem py_some {Q : Option Value → Shared → Prop} (D : ZipApart z TI TO i1 i2 l1 l2) (Z : IsZip s.heap z TI TO .none) (PI : IsPair s.heap TI (.ref i1) (.ref i2)) (PO : IsPair s.heap TO a b)
    (I1 : KIt t1 s.heap i1 l1 k1) (I2 : KIt t2 s.heap i2 l2 k2) (S1 : KSq t1 s.heap l1 us) (S2 : KSq t2 s.heap l2 vs) (ex : us[k1]? = some x) (ey : vs[k2]? = some y)
    (go : ∀ g, IsZip g z TI TO (rawInt s.heap.objs.size) → IsPair g TO x y → KIt t1 g i1 l1 (k1 + 1) → KIt t2 g i2 l2 (k2 + 1) → IsPair g s.heap.objs.size x y → g.objs.size = s.heap.objs.size + 1 →
      (∀ c o, c ≠ z → c ≠ TO → c ≠ i1 → c ≠ i2 → s.heap.get? c = some o → g.get? c = some o) → Q (some (.ref s.heap.objs.size)) { s with heap := g }) : wpAny (model prog w) A (pyNext (.ref z)) Q E s := by
  have ty : s.TypeIs (.ref z) "zip" := ⟨_, Z, rfl⟩
  unfold pyNext
  exact wpAny_bind (wpAny_attempt (wpAny_callSpecial?_slot (name := Str.ofString "__next__") ty F.slot_zip_next (wpAny_call_entry F.slot_zip_next ty F.entry_zip_next
    (zm_some D Z PI PO I1 I2 S1 S2 ex ey fun g a1 a2 a3 a4 a5 a6 a7 => wpAny_pure (go g a1 a2 a3 a4 a5 a6 a7)) (F.args_zip_next_1 _))))
theorem py_none {Q : Option Value → Shared → Prop} (hh : A.handled = none) (D : ZipApart z TI TO i1 i2 l1 l2) (Z : IsZip s.heap z TI TO .none) (PI : IsPair s.heap TI (.ref i1) (.ref i2)) (PO : IsPair s.heap TO a b)
    (I1 : KIt t1 s.heap i1 l1 k1) (I2 : KIt t2 s.heap i2 l2 k2) (S1 : KSq t1 s.heap l1 us) (S2 : KSq t2 s.heap l2 vs) (en : us[k1]? = none ∨ vs[k2]? = none)
    (go : ∀ g, (∀ c o, c ≠ z → c ≠ TO → c ≠ i1 → c ≠ i2 → s.heap.get? c = some o → g.get? c = some o) → Q none { s with heap := g }) : wpAny (model prog w) A (pyNext (.ref z)) Q E s := by
  have ty : s.TypeIs (.ref z) "zip" := ⟨_, Z, rfl⟩
  unfold pyNext
  refine wpAny_bind (wpAny_attempt (wpAny_callSpecial?_slot (name := Str.ofString "__next__") ty F.slot_zip_next (wpAny_call_entry F.slot_zip_next ty F.entry_zip_next
    (zm_none hh D Z PI PO I1 I2 S1 S2 en fun g p k hp => ?_) (F.args_zip_next_1 _))))
  obtain ⟨o, ho, hc⟩ := hp
  exact wpAny_bind (wpAny_isInstance (T := "StopIteration") (b := true) ⟨o, ho, hc⟩ isSubtype_stop (wpAny_pure (go _ k)))
end

/-! the zip made -/
def itN (t : Bool) : String := if t = true then "tuple_iterator" else "list_iterator"
abbrev zA (t : Bool) (h : Heap) (l : Addr) : Heap := h.push { cls := .type (itN t), data := .fields #[.ref l, .int 0 0] }
abbrev zB (t u : Bool) (h : Heap) (l k : Addr) : Heap := zA u (zA t h l) k
abbrev zC (t u : Bool) (h : Heap) (l k : Addr) : Heap := (zB t u h l k).push { cls := .type "tuple", data := .seq #[.ref h.objs.size, .ref (zA t h l).objs.size] }
abbrev zD (t u : Bool) (h : Heap) (l k : Addr) : Heap := (zC t u h l k).push { cls := .type "tuple", data := .seq #[.none, .none] }
abbrev zE (t u : Bool) (h : Heap) (l k : Addr) : Heap := (zD t u h l k).push { cls := .type "zip", data := .fields #[.none, .bool false, .bool false, .ref (zB t u h l k).objs.size, .ref (zC t u h l k).objs.size] }
theorem KSq.push {t : Bool} {h : Heap} {l : Addr} {us : Array Value} (q : KSq t h l us) (o : Obj) : KSq t (h.push o) l us := by
  cases t with
  | true => exact Heap.IsTuple.push (show h.IsTuple l us from q) o
  | false => exact Heap.IsList.push (show h.IsList l us from q) o
theorem iter_any {prog : Program} {w : World} {A : Around} {E : Value → Shared → Prop} {s : Shared} {t : Bool} {l : Addr} {us : Array Value} {Q : Value → Shared → Prop} (q : KSq t s.heap l us) (go : Q (.ref s.heap.objs.size) { s with heap := zA t s.heap l }) : wpAny (model prog w) A (pyIter (.ref l)) Q E s := by
  cases t with
  | true => exact wpAny_pyIter_tuple q go
  | false => exact wpAny_pyIter_list q go
theorem zm_new (t u : Bool) (l k : Addr) (us vs : Array Value) :
    Meets (Builtin.«zip.__new__» ⟨[.type "zip", .ref l, .ref k], []⟩) (fun _ R s => KSq t s.heap l us ∧ KSq u s.heap k vs ∧ R (.ok (.ret (.ref (zD t u s.heap l k).objs.size))) { s with heap := zE t u s.heap l k }) :=
  .of_wp fun prog w A R s h => by
    obtain ⟨hp, g, d, tk, os⟩ := s; obtain ⟨q1, q2, go⟩ := h
    have sb := sub_zip
    have L1 : KSq t (Shared.heap ⟨hp, g, d, tk, os⟩) l us := q1
    have L2 : KSq u (Shared.heap ⟨zA t hp l, g, d, tk, os⟩) k vs := q2.push _
    wp_walk using iter_any L1, iter_any L2
    exact ⟨_, rfl, go⟩
theorem zm_call {prog : Program} {w : World} {A : Around} {E : Value → Shared → Prop} {s : Shared} {t u : Bool} {l k : Addr} {us vs : Array Value} {Q : Value → Shared → Prop} (q1 : KSq t s.heap l us) (q2 : KSq u s.heap k vs)
    (go : ∀ g, IsZip g (s.heap.objs.size + 4) (s.heap.objs.size + 2) (s.heap.objs.size + 3) .none → IsPair g (s.heap.objs.size + 2) (.ref s.heap.objs.size) (.ref (s.heap.objs.size + 1)) → IsPair g (s.heap.objs.size + 3) .none .none →
      KIt t g s.heap.objs.size l 0 → KIt u g (s.heap.objs.size + 1) k 0 → (∀ c o, s.heap.get? c = some o → g.get? c = some o) → Q (.ref (s.heap.objs.size + 4)) { s with heap := g }) :
    wpAny (model prog w) A (call (.type "zip") [.ref l, .ref k]) Q E s := by
  refine callType_new F.called_zip (by decide) (F.typeCall_zip_2 _ _) (F.newCall_zip_2 _ _) (fun ob => F.args_object_init_3 ob _ _) F.entry_zip_new (zm_new t u l k us vs) ⟨q1, q2, ?_⟩
  have n1 : (zA t s.heap l).objs.size = s.heap.objs.size + 1 := Heap.size_push ..
  have n2 : (zB t u s.heap l k).objs.size = s.heap.objs.size + 2 := by rw [Heap.size_push, n1]
  have n3 : (zC t u s.heap l k).objs.size = s.heap.objs.size + 3 := by rw [Heap.size_push, n2]
  have n4 : (zD t u s.heap l k).objs.size = s.heap.objs.size + 4 := by rw [Heap.size_push, n3]
  have e5 : (zE t u s.heap l k).get? (zD t u s.heap l k).objs.size = some _ := Heap.get?_push_size _ rfl
  have e4 : (zE t u s.heap l k).get? (zC t u s.heap l k).objs.size = some _ := Heap.get?_push_of_some _ (Heap.get?_push_size _ rfl)
  have e3 : (zE t u s.heap l k).get? (zB t u s.heap l k).objs.size = some _ := Heap.get?_push_of_some _ (Heap.get?_push_of_some _ (Heap.get?_push_size _ rfl))
  have e2 : (zE t u s.heap l k).get? (zA t s.heap l).objs.size = some _ := Heap.get?_push_of_some _ (Heap.get?_push_of_some _ (Heap.get?_push_of_some _ (Heap.get?_push_size _ rfl)))
  have e1 : (zE t u s.heap l k).get? s.heap.objs.size = some _ := Heap.get?_push_of_some _ (Heap.get?_push_of_some _ (Heap.get?_push_of_some _ (Heap.get?_push_of_some _ (Heap.get?_push_size _ rfl))))
  show _ ∧ _
  rw [n2, n3, n4] at e5
  rw [n1, n2] at e3
  rw [n3] at e4
  rw [n1] at e2
  rw [n4]
  have i1 : KIt t (zE t u s.heap l k) s.heap.objs.size l 0 := by
    cases t with
    | true => exact ⟨_, e1, rfl, rfl⟩
    | false => exact ⟨_, e1, rfl, rfl⟩
  have i2 : KIt u (zE t u s.heap l k) (s.heap.objs.size + 1) k 0 := by
    cases u with
    | true => exact ⟨_, e2, rfl, rfl⟩
    | false => exact ⟨_, e2, rfl, rfl⟩
  exact ⟨⟨_, e5, rfl⟩, go _ e5 e3 e4 i1 i2 fun c o x => Heap.get?_push_of_some _ (Heap.get?_push_of_some _ (Heap.get?_push_of_some _ (Heap.get?_push_of_some _ (Heap.get?_push_of_some _ x))))⟩
/-! its walk -/
def SqK (t : Bool) (K : PySem.W.Frag) (H : Hp) (a : Addr) (xs : List V) : Prop := if t = true then SqT K H a xs else SqL K H a xs
theorem SqK.kp {t : Bool} {K : PySem.W.Frag} {H H' : Hp} {a : Addr} {xs : List V} (k : Kp H H') (h : SqK t K H a xs) : SqK t K H' a xs := by
  cases t with
  | true => exact k.sqT h
  | false => exact k.sqL h
theorem SqK.seq {X : Cx} {pins : List (Addr × Obj)} {σ : L2.St} {H : Hp} {s : Shared} {t : Bool} {a : Addr} {xs : List V} (I : Inv X pins σ H s) (h : SqK t X.K H a xs) : ∃ its : List Value, Vals xs its ∧ KSq t s.heap a its.toArray := by
  cases t with
  | true =>
    obtain ⟨its, r, p, _⟩ := I.tuple h
    exact ⟨its, r, p⟩
  | false =>
    obtain ⟨its, r, p, _⟩ := I.list h
    exact ⟨its, r, p.isList⟩
theorem SqK.inj {X : Cx} {pins : List (Addr × Obj)} {σ : L2.St} {H : Hp} {s : Shared} {t : Bool} {a : Addr} {xs ys : List V} (I : Inv X pins σ H s) (h : SqK t X.K H a xs) (h2 : SqK t X.K H a ys) : xs = ys := by
  cases t with
  | true => exact I.tuple_inj h h2
  | false => exact I.list_inj h h2
def ItzM (t u : Bool) (K : PySem.W.Frag) (a b : Addr) : It :=
  ⟨fun i H => ∃ (xs ys : List V) (x y : V), SqK t K H a xs ∧ SqK u K H b ys ∧ xs[i]? = some x ∧ ys[i]? = some y,
    fun i H v H' => ∃ p x y, v = .ref p ∧ H p = none ∧ H' = upd H p (.tup [x, y]) ∧ (∀ xs, SqK t K H a xs → xs[i]? = some x) ∧ ∀ ys, SqK u K H b ys → ys[i]? = some y,
    fun i H => ∃ xs ys : List V, SqK t K H a xs ∧ SqK u K H b ys ∧ (xs.length ≤ i ∨ ys.length ≤ i)⟩
theorem mem5 {c z TI TO i1 i2 : Addr} (h : c ∈ [z, TI, TO, i1, i2]) : c = z ∨ c = TI ∨ c = TO ∨ c = i1 ∨ c = i2 := by simpa using h
theorem turn_zipM {P : Program} {w : World} {K : PySem.W.Frag} {t u : Bool} {elts : List Expr} {kk : Nat} {tpos : Pos} {a b z TI TO i1 i2 : Addr} (D : ZipApart z TI TO i1 i2 a b) :
    Turn P w K (.Tuple elts kk tpos) (ItzM t u K a b) [z, TI, TO, i1, i2] z (fun i h => IsZip h z TI TO .none ∧ IsPair h TI (.ref i1) (.ref i2) ∧ (∃ x y, IsPair h TO x y) ∧ KIt t h i1 a i ∧ KIt u h i2 b i) where
  mem := by simp
  obj := fun i h st c hc => by
    obtain ⟨Z, PI, ⟨x, y, PO⟩, J1, J2⟩ := st
    have its : ∀ {t : Bool} {i a k}, KIt t h i a k → ∃ o, h.get? i = some o ∧ ∀ v, o.data ≠ .cell v := fun {t i a k} J => by
      cases t with
      | true => obtain ⟨o, e, _, d⟩ := (show h.IsTupleIter i a k from J); exact ⟨o, e, fun v q => by rw [d] at q; cases q⟩
      | false => obtain ⟨o, e, _, d⟩ := (show h.IsListIter i a k from J); exact ⟨o, e, fun v q => by rw [d] at q; cases q⟩
    rcases mem5 hc with rfl | rfl | rfl | rfl | rfl
    · exact ⟨_, Z, fun v q => nomatch q⟩
    · exact ⟨_, PI, fun v q => nomatch q⟩
    · exact ⟨_, PO, fun v q => nomatch q⟩
    · exact its J1
    · exact its J2
  keep := fun i h g st k => by
    obtain ⟨Z, PI, ⟨x, y, PO⟩, J1, J2⟩ := st
    exact ⟨k z (by simp) _ Z, k TI (by simp) _ PI, ⟨x, y, k TO (by simp) _ PO⟩, J1.mv fun o q => k i1 (by simp) o q, J2.mv fun o q => k i2 (by simp) o q⟩
  item := by
    intro X eP ew eK hc i pins s σ H E I hf st hg
    subst eP ew eK
    obtain ⟨Z, PI, ⟨x0, y0, PO⟩, J1, J2⟩ := st
    obtain ⟨xs, ys, x, y, qx, qy, ex, ey⟩ := hg
    obtain ⟨its, rv, p1⟩ := qx.seq I
    obtain ⟨jts, rw2, p2⟩ := qy.seq I
    obtain ⟨v1, hv1, r1⟩ := rv.get ex
    obtain ⟨v2, hv2, r2⟩ := rw2.get ey
    have zl : z < s.heap.objs.size := Heap.lt_size Z
    refine py_some D Z PI PO J1 J2 p1 p2 (x := v1) (y := v2) (by simpa using hv1) (by simpa using hv2) fun g Z' PO' J1' J2' T' hsz old => ?_
    refine ⟨_, rfl, wpAny_letOwnedTupleGo_zip (s := { s with heap := g }) Z' fun g2 Z2 sb => ?_⟩
    have T2 : g2.get? s.heap.objs.size = some { cls := .type "tuple", data := .seq #[v1, v2] } := (sb.2 _ (Nat.ne_of_gt zl)).trans T'
    have nw : ObjOk X.prog X.w (upd H s.heap.objs.size (.tup [x, y])) g2 s.heap.objs.size (.tup [x, y]) := ⟨by show 2 ≤ sizeLine; decide, [v1, v2], .cons r1 (.cons r2 .nil), ⟨_, T2, rfl, _, rfl⟩⟩
    have ne5 : ∀ {c}, c ∉ [z, TI, TO, i1, i2] → c ≠ z ∧ c ≠ TO ∧ c ≠ i1 ∧ c ≠ i2 := fun {c} n => ⟨fun q => n (by simp [q]), fun q => n (by simp [q]), fun q => n (by simp [q]), fun q => n (by simp [q])⟩
    have I2 : Inv X pins σ (upd H s.heap.objs.size (.tup [x, y])) { s with heap := g2 } :=
      I.turnedNew (t' := s.toks) (ch := [z, TI, TO, i1, i2]) (fun c o n q => (sb.2 c (ne5 n).1).trans (old c o (ne5 n).1 (ne5 n).2.1 (ne5 n).2.2.1 (ne5 n).2.2.2 q)) hf (Nat.le_refl _) nw
    refine ⟨.ref s.heap.objs.size, _, I2, rfl, ⟨_, x, y, rfl, I.hok.fresh (Nat.le_refl _), rfl, fun l hl => by rw [SqK.inj I hl qx]; exact ex, fun l hl => by rw [SqK.inj I hl qy]; exact ey⟩, ⟨Z2, ?_, ⟨v1, v2, ?_⟩, ?_, ?_⟩, fun c hcm => ?_⟩
    · exact (sb.2 _ D.TIz).trans (old _ _ D.TIz D.TITO D.TIi1 D.TIi2 PI)
    · exact (sb.2 _ D.TOz).trans PO'
    · exact J1'.mv fun o q => (sb.2 _ D.i1z).trans q
    · exact J2'.mv fun o q => (sb.2 _ D.i2z).trans q
    · have hlt : c < s.heap.objs.size := by
        rcases mem5 hcm with rfl | rfl | rfl | rfl | rfl
        · exact zl
        · exact Heap.lt_size PI
        · exact Heap.lt_size PO
        · exact J1.lt
        · exact J2.lt
      rw [upd_ne (Nat.ne_of_lt hlt)]
      exact (hf c hcm).1
  done := by
    intro X eP ew eK hc i pins s σ H E I hf st hg
    subst eP ew eK
    obtain ⟨Z, PI, ⟨x0, y0, PO⟩, J1, J2⟩ := st
    obtain ⟨xs, ys, qx, qy, en⟩ := hg
    obtain ⟨its, rv, p1⟩ := qx.seq I
    obtain ⟨jts, rw2, p2⟩ := qy.seq I
    have l1 := rv.length
    have l2 := rw2.length
    have he : its.toArray[i]? = none ∨ jts.toArray[i]? = none := en.imp (fun q => by simp; omega) (fun q => by simp; omega)
    have ne5 : ∀ {c}, c ∉ [z, TI, TO, i1, i2] → c ≠ z ∧ c ≠ TO ∧ c ≠ i1 ∧ c ≠ i2 := fun {c} n => ⟨fun q => n (by simp [q]), fun q => n (by simp [q]), fun q => n (by simp [q]), fun q => n (by simp [q])⟩
    exact py_none (I.ok.hd hc) D Z PI PO J1 J2 p1 p2 he fun g old => ⟨rfl, I.turnedL (t' := s.toks) (ch := [z, TI, TO, i1, i2]) (fun c o n q => old c o (ne5 n).1 (ne5 n).2.1 (ne5 n).2.2.1 (ne5 n).2.2.2 q) hf⟩
  self := fun A i s Q E st h => wpAny_pyIter_zip st.1 h
def iZipM (K : PySem.W.Frag) (ta : TA) : TI := fun σ H R => ta σ H fun vs H1 => ∃ (t u : Bool) (a b : Addr) (xs ys : List V), vs = [.ref a, .ref b] ∧ SqK t K H1 a xs ∧ SqK u K H1 b ys ∧ R (ItzM t u K a b) H1
theorem pi_zipM {X : Cx} {e e2 : Expr} {ta : TA} {p pos tpos : Pos} {elts : List Expr} {kk : Nat} (hg : Gl X "zip") (hm : X.mg "zip" = none) (ha : PA X [e, e2] ta)
    (h1 : starEach [e, e2] X.env = (false, eval e X.env) :: starEach [e2] X.env := by rfl) (h2 : (backTo pos (starEach [e2] X.env)).any (·.1) = false := by rfl) : PI X (.Tuple elts kk tpos) (.Call (.Name "zip" p) [e, e2] [] pos) (iZipM X.K ta) := by
  refine ⟨fun pins s σ H R I h => ?_⟩
  refine Call_ (ld_blt I hg hm PyProof.Rows.boot_zip (PyProof.Rows.callWith_type1 (thn (ha.run pos pins s σ H _ I h) fun args s1 ⟨vs, H1, I1, r1, q1⟩ => ?_) h1 h2))
  obtain ⟨t, u, a, b, xs, ys, rfl, qx, qy, q⟩ := q1
  cases r1 with
  | cons ra rr =>
    cases rr with
    | cons rb rr =>
      cases rr
      cases ra
      cases rb
      obtain ⟨its, rv, p1⟩ := qx.seq I1
      obtain ⟨jts, rw2, p2⟩ := qy.seq I1
      refine zm_call p1 p2 fun g Z PI PO J1 J2 old => wpAny_pyIter_zip Z ?_
      have fresh : ∀ c, c ∈ [s1.heap.objs.size + 4, s1.heap.objs.size + 2, s1.heap.objs.size + 3, s1.heap.objs.size, s1.heap.objs.size + 1] → FpOk X pins H1 c := fun c hcm => by
        have hle : s1.heap.objs.size ≤ c := by
          rcases mem5 hcm with rfl | rfl | rfl | rfl | rfl
          · exact Nat.le_add_right _ _
          · exact Nat.le_add_right _ _
          · exact Nat.le_add_right _ _
          · exact Nat.le_refl _
          · exact Nat.le_add_right _ _
        exact I1.fpOk hle (I1.hok.fresh hle)
      exact ⟨s1.heap.objs.size + 4, [s1.heap.objs.size + 4, s1.heap.objs.size + 2, s1.heap.objs.size + 3, s1.heap.objs.size, s1.heap.objs.size + 1], _, _, H1, rfl, I1.kept (t' := s1.toks) old, turn_zipM (PySem.W.ktu_apart s1.heap.objs.size a b p1.lt p2.lt), ⟨Z, PI, ⟨_, _, PO⟩, J1, J2⟩, fresh, q⟩
/-! a loop, a comprehension over it -/
theorem for_zipM {K : PySem.W.Frag} {t u : Bool} {a b : Addr} {xs ys : List V} {g : TG} {tb : TS} {D : Ends} {σ : L2.St} {H : Hp} (hl : xs.length = ys.length) (Pv : Nat → L2.St → Hp → Prop) (h0 : Pv 0 σ H) (hq : ∀ i σ H, Pv i σ H → SqK t K H a xs ∧ SqK u K H b ys)
    (hs : ∀ (i : Nat) (x y : V) (p : Addr) (σ : L2.St) (H : Hp), xs[i]? = some x → ys[i]? = some y → Pv i σ H → H p = none → g (.ref p) σ (upd H p (.tup [x, y])) fun σ2 H2 => tb { D with nx := Pv (i + 1), ct := Pv (i + 1), bk := D.nx } σ2 H2) (hd : ∀ σ H, Pv xs.length σ H → D.nx σ H) :
    ∃ W : Nat → Nat → L2.St → Hp → Prop, (∃ m, W 0 m σ H) ∧ ∀ i m σ H, W i m σ H →
      ((ItzM t u K a b).stop i H ∧ D.nx σ H) ∨ ((ItzM t u K a b).go i H ∧ ∃ N : L2.St → Hp → Prop, (∀ σ' H', N σ' H' → ∃ m', m' < m ∧ W (i + 1) m' σ' H') ∧ ∀ v H', (ItzM t u K a b).yld i H v H' → g v σ H' fun σ2 H2 => tb { D with nx := N, ct := N, bk := D.nx } σ2 H2) := by
  refine ⟨fun i m σ H => m = xs.length - i ∧ i ≤ xs.length ∧ Pv i σ H, ⟨xs.length, rfl, Nat.zero_le _, h0⟩, ?_⟩
  rintro i m σ H ⟨rfl, hi, pv⟩
  obtain ⟨qx, qy⟩ := hq i σ H pv
  rcases Nat.lt_or_eq_of_le hi with lt | rfl
  · have lt2 : i < ys.length := by omega
    refine .inr ⟨⟨xs, ys, _, _, qx, qy, List.getElem?_eq_getElem lt, List.getElem?_eq_getElem lt2⟩, Pv (i + 1), fun σ' H' z => ⟨xs.length - (i + 1), by omega, rfl, lt, z⟩, fun v H' y => ?_⟩
    obtain ⟨p, x', y', rfl, np, rfl, f1, f2⟩ := y
    exact hs i x' y' p σ H (f1 xs qx) (f2 ys qy) pv np
  · exact .inl ⟨⟨xs, ys, qx, qy, .inl (Nat.le_refl _)⟩, hd σ H pv⟩
theorem lc_zipM {K : PySem.W.Frag} {t u : Bool} {a b : Addr} {xs ys : List V} {g : TG} {tt : TT} {te : TE} {vs : List Nat} {σ : L2.St} {H1 : Hp} {D : Addr} {Qd : Hp → Prop} (hl : xs.length = ys.length) (Pv : Nat → Hp → Prop) (h0 : Pv 0 (upd H1 D (.lst []))) (hq : ∀ i H, Pv i H → SqK t K H a xs ∧ SqK u K H b ys)
    (hs : ∀ (i : Nat) (x y : V) (p : Addr) (H : Hp), xs[i]? = some x → ys[i]? = some y → Pv i H → H p = none → g (.ref p) (wipe σ vs) (upd H p (.tup [x, y])) fun σ2 H2 => wipe σ2 vs = wipe σ vs ∧ tt σ2 H2 fun b H3 =>
      if b = true then te σ2 H3 fun y H4 => ∃ acc, H4 D = some (.lst acc) ∧ acc.length < sizeLine ∧ Pv (i + 1) (upd H4 D (.lst (acc ++ [y]))) else Pv (i + 1) H3) (hd : ∀ H, Pv xs.length H → Qd H) :
    ∃ W : Nat → Nat → Hp → Prop, (∃ m, W 0 m (upd H1 D (.lst []))) ∧ ∀ i m H, W i m H →
      ((ItzM t u K a b).stop i H ∧ Qd H) ∨ ((ItzM t u K a b).go i H ∧ ∃ Nx : Hp → Prop, (∀ H', Nx H' → ∃ m', m' < m ∧ W (i + 1) m' H') ∧ ∀ x H', (ItzM t u K a b).yld i H x H' → g x (wipe σ vs) H' fun σ2 H2 => wipe σ2 vs = wipe σ vs ∧ tt σ2 H2 fun b H3 =>
        if b = true then te σ2 H3 fun y H4 => ∃ acc, H4 D = some (.lst acc) ∧ acc.length < sizeLine ∧ Nx (upd H4 D (.lst (acc ++ [y]))) else Nx H3) := by
  refine ⟨fun i m H => m = xs.length - i ∧ i ≤ xs.length ∧ Pv i H, ⟨xs.length, rfl, Nat.zero_le _, h0⟩, ?_⟩
  rintro i m H ⟨rfl, hi, pv⟩
  obtain ⟨qx, qy⟩ := hq i H pv
  rcases Nat.lt_or_eq_of_le hi with lt | rfl
  · have lt2 : i < ys.length := by omega
    refine .inr ⟨⟨xs, ys, _, _, qx, qy, List.getElem?_eq_getElem lt, List.getElem?_eq_getElem lt2⟩, Pv (i + 1), fun H' z => ⟨xs.length - (i + 1), by omega, rfl, lt, z⟩, fun v H' y => ?_⟩
    obtain ⟨p, x', y', rfl, np, rfl, f1, f2⟩ := y
    exact hs i x' y' p H (f1 xs qx) (f2 ys qy) pv np
  · exact .inl ⟨⟨xs, ys, qx, qy, .inl (Nat.le_refl _)⟩, hd H pv⟩
end Wn
/-! several except clauses that all name the error alike -/
namespace Wn
open PySem PySem.Spec PyProof.Rows L2
/-- the ends of a clause after which the name is gone -/
def endsNo (i : Nat) (D : Ends) : Ends := ⟨fun τ G => D.nx (τ.set i none) G, D.rt, fun τ G => D.bk (τ.set i none) G, fun τ G => D.ct (τ.set i none) G⟩
/-- one clause after the other -/
def wTwo (K : PySem.W.Frag) (i : Nat) (Wo : WX) (D : Ends) : List (Value × (Addr → Value → Option Addr → TS)) → WX
  | [] => Wo
  | (c, t) :: r => fun k d τ G => ∃ b, PySem.W.exmOne K k c = some b ∧ (b = true → ∀ p, G p = none → t p k d (endsNo i D) (τ.set i (some (.ref p))) G) ∧ (b = false → wTwo K i Wo D r k d τ G)
inductive ClAs (X : Cx) (nm : Str) : List ExceptHandler → List (Value × (Addr → Value → Option Addr → TS)) → Prop
  | nil : ClAs X nm [] []
  | cons {y : Str} {c : Value} {t : Addr → Value → Option Addr → TS} {st : Stmt} {sts : List Stmt} {p1 p2 : Pos} {hs : List ExceptHandler} {l : List (Value × (Addr → Value → Option Addr → TS))} (hc : Names X y c)
      (hb : ∀ (p : Addr) (o : Obj) (k : Value) (d : Option Addr) (pn : List (Addr × Obj)), Zc k d o → (∃ zs, o.data = .fields zs) → PSs (X.suite p ((p, o) :: pn)) (st :: sts) (t p k d)) (r : ClAs X nm hs l) :
      ClAs X nm (.ExceptHandler (some (.Name y p1)) (some nm) (st :: sts) p2 :: hs) ((c, t) :: l)
section
variable {X : Cx} {nm : Str} {i : Nat} {body : List Stmt} {g₀ : ExceptHandler} {gs : List ExceptHandler} {l : List (Value × (Addr → Value → Option Addr → TS))} {pos : Pos} {tb : WX → TS} {Wo : WX}
theorem ps_try_two (hst : X.stack = X.env :: X.outer) (hfm : X.env.frame = some X.env.locals) (hnd : X.N.Nodup) (hi : X.N[i]? = some nm) (hlo : X.env.kindOf nm = some .local) (tk : Takes X Wo)
    (hb : ∀ (W : WX) (pn : List (Addr × Obj)) (xe : Value → Shared → Prop), Takes (X.tr pn xe) W → PassesOwn (model X.prog X.w) X.A X.env xe → PSs (X.tr pn xe) body (tb W))
    (hcl : ClAs X nm (g₀ :: gs) l) : PS X (.Try body (g₀ :: gs) [] [] pos) (fun D τ G => tb (wTwo X.K i Wo D l) D τ G) := by
  refine ⟨fun pins s τ G D I0 hw => ?_⟩
  have okk := I0.ok; have frm : X.A.frames = some (X.env :: X.outer) := by rw [okk.frames, hst]
  have hlc : Loc X.env.scope nm := .inl hlo
  refine wpAny_Try_except (wpAny_mono ((hb (wTwo X.K i Wo D l) (X.pn ++ pins) (fun ex u₁ => wpAny (model X.prog X.w) X.A (noteFrame ex X.env) (fun _ u₂ => wpAny (model X.prog X.w) X.A (setFlight ex none) (fun _ u₃ =>
    wpAny (model X.prog X.w) X.A (handleBy ex X.env (g₀ :: gs)) (SP X pins D) X.xe u₃) X.xe u₂) X.xe u₁) (fun u z hx => ?_) PassesOwn.looking).run [] s τ G D (I0.toTry _) hw) (fun fl z hsp => ?_) (fun ex z he => he))
  · obtain ⟨p, B, sI, pins', τ', G', k, d, rfl, J0, nb, up, sk, np, os, ag, w⟩ := hx
    have J : Inv X pins τ' G' sI := J0.ofTry okk
    have sk' : Sky B (X.env :: X.outer) p (Zc k d) X.env.locals z.heap := by rw [← hst]; exact sk
    show wpAny (model X.prog X.w) X.A (noteFrame (.ref p) X.env) _ _ _
    refine Sky.land Zc.steady frm hfm sk' fun g3 F3 U3 => ?_
    have J3 : Inv X pins τ' G' { z with heap := g3 } := J.landed nb F3.1 (up.trans U3) os ag
    obtain ⟨o3, zs3, q3, qz3, qd3⟩ := F3.there
    have noF : ∀ {g : Heap} {o : Obj} {zs : Array Value}, g.FunFrames B (X.env :: X.outer) → g.get? p = some o → o.data = .fields zs → p ∉ frs (X.env :: X.outer) := fun {g o zs} ff e dd hm => by
      obtain ⟨_, o', e', nf⟩ := ff.mem hm
      rw [e] at e'; cases e'
      exact nf _ dd
    have noP := noF F3.2.2.1 q3 qd3
    have pL : p ≠ X.env.locals := fun e => noP (List.mem_filterMap.mpr ⟨X.env, List.mem_cons_self, by rw [hfm, e]⟩)
    have pF : p ∉ X.fs := fun hm => by
      obtain ⟨e, he, q⟩ := List.mem_filterMap.mp hm
      exact noP (List.mem_filterMap.mpr ⟨e, List.mem_cons_of_mem _ he, q⟩)
    have S3 := J3.suite q3 qd3 np pL pF
    have go : ∀ {hs' : List ExceptHandler} {l' : List (Value × (Addr → Value → Option Addr → TS))}, ClAs X nm hs' l' → wTwo X.K i Wo D l' k d τ' G' →
        wpAny (model X.prog X.w) X.A (handleBy (.ref p) X.env hs') (SP X pins D) X.xe { z with heap := g3 } := by
      intro hs' l' hk
      induction hk with
      | nil =>
        intro w
        refine wpAny_handleBy_nil ?_
        obtain ⟨k1, k2, k3, o5, zs5, T5, oT5, ts5, e5, z5, d5, h5, r5⟩ := id F3
        unfold PySem.passOn
        refine wpAny_bind (wpAny_field e5 d5 h5 ?_)
        rw [if_neg (show ¬ ((Value.ref T5 == Value.none) = true) from by simp)]
        have out : wpAny (model X.prog X.w) X.A (setFlight (.ref p) X.env.frame) (fun _ u => wpAny (model X.prog X.w) X.A (throw (.ref p) : Sem Flow) (SP X pins D) X.xe u) X.xe { z with heap := g3 } := by
          rw [hfm]
          exact HandSPX.setFlight_upZ F3 fun g4 F4 U4 => wpAny_throw (tk _ _ ⟨p, B, sI, pins, τ', G', k, d, rfl, J, nb, (up.trans U3).trans U4, .inr (.inr (by rw [hst]; exact F4)), np, os, ag, w⟩)
        first
          | exact wpAny_bind (wpAny_pure (wpAny_bind out))
          | exact wpAny_bind out
      | @cons y c t st sts p1 p2 hs2 l2 hc hsu r ih =>
        intro w
        obtain ⟨b, ex1, yes, no⟩ := w
        refine wpAny_handleBy_cons (codeAny_handlers_test ?_) (by intro q; cases q)
        have lo : PySem.W.Looks (model X.prog X.w) g3 (typeOf (.ref p)) k := fun A Q E u m q => wpAny_typeOf_ref (m _ _ q3) (by rw [qz3.1]; exact q)
        have ma := PySem.W.exm_one (M := model X.prog X.w) (J3.kIn) lo ex1
        have ask : ∀ {Q E : Value → Shared → Prop}, Q c { z with heap := g3 } → wpAny (model X.prog X.w) (X.A.mark (some (.ref p))) (eval (.Name y p1) X.env) Q E { z with heap := g3 } := fun {Q E} q => by
          obtain ⟨hg, hdb, hm | ⟨hm, hv, hnn⟩⟩ := hc
          · exact ld_glob (X := X.suite p ((p, o3) :: (X.pn ++ pins))) S3 hg hm q hdb
          · exact ld_blt (X := X.suite p ((p, o3) :: (X.pn ++ pins))) S3 hg hm hv q hnn hdb
        refine ask (ma.here ?_)
        cases b with
        | true =>
          refine codeAny_handlers_suite_as (HandSPX.lands_againZ F3 fun g4 F4 U4 => ?_)
          have J4 : Inv X pins τ' G' { z with heap := g4 } := J.landed nb F4.1 ((up.trans U3).trans U4) os ag
          obtain ⟨o4, zs4, q4, qz4, qd4⟩ := F4.there
          have S4 := J4.suite q4 qd4 np pL pF
          refine store_ok (X := X.suite p ((p, o4) :: (X.pn ++ pins))) (v := .ref p) S4 hnd hi hlc rfl (fun u5 S5 => ?_) (.inr hlo)
          refine wpAny_mono ((hsu p o4 k d (X.pn ++ pins) qz4 ⟨_, qd4⟩).run [] u5 _ G' _ S5 (yes rfl p np)) (fun fl u6 hsp => ?_) (fun _ _ q => False.elim q)
          have gone : ∀ {τ6 : L2.St} {G6 : Hp} {Q : Shared → Prop}, Inv (X.suite p ((p, o4) :: (X.pn ++ pins))) [] τ6 G6 u6 → (∀ u7, Inv X pins (τ6.set i none) G6 u7 → Q u7) →
              wpAny (model X.prog X.w) X.A (do bindName X.env nm .none; unbindBehindTheSuite X.env nm p2) (fun _ u7 => Q u7) X.xe u6 := fun {τ6 G6 Q} S6 hq => gone_ok (S6.unsuite okk) hnd hi hlo hq
          cases fl with
          | next => obtain ⟨τ6, G6, S6, q6⟩ := hsp; exact gone S6 fun u7 J7 => ⟨_, _, J7, q6⟩
          | brk => obtain ⟨τ6, G6, S6, q6⟩ := hsp; exact gone S6 fun u7 J7 => ⟨_, _, J7, q6⟩
          | cont => obtain ⟨τ6, G6, S6, q6⟩ := hsp; exact gone S6 fun u7 J7 => ⟨_, _, J7, q6⟩
          | ret v => obtain ⟨v6, τ6, G6, S6, r6, q6⟩ := hsp; exact gone S6 fun u7 J7 => ⟨_, _, _, J7, r6, q6⟩
        | false =>
          show wpAny _ X.A (handleBy (.ref p) X.env hs2) _ _ _
          exact ih (no rfl)
    exact go hcl w
  · cases fl with
    | next => obtain ⟨τ', G', J', q⟩ := hsp; exact wpAny_execs_nil ⟨τ', G', J'.ofTry okk, q⟩
    | brk => obtain ⟨τ', G', J', q⟩ := hsp; exact ⟨τ', G', J'.ofTry okk, q⟩
    | cont => obtain ⟨τ', G', J', q⟩ := hsp; exact ⟨τ', G', J'.ofTry okk, q⟩
    | ret u => obtain ⟨v, τ', G', J', r, q⟩ := hsp; exact ⟨v, τ', G', J'.ofTry okk, r, q⟩
end
end Wn
/-! the text of a list of great whole numbers: below ten to the 4,300, where no limit of digits has been set -/
namespace Wn
open PySem PySem.Spec PyProof.Rows L2
section
variable {prog : Program} {w : World} {A : Around} {E : Value → Shared → Prop} {s : Shared}
theorem big_call {a : Int} {t : Tok} {Q : Value → Shared → Prop} (hn : s.heap.NoDigits) (ha : a.natAbs < 10 ^ 4300) (h : Q (.str (toString a) s.toks) { s with toks := s.toks + 1 }) : wpAny (model prog w) A (call (.builtin "int.__repr__") [.int a t]) Q E s := by
  refine wpAny_call (codeAny_call_builtin F.slot_int_repr.plain F.entry_int_repr (F.slot_int_repr.check _ _ _ _ _ _ _ _ (typeIs_int s a t) (F.args_int_repr_1 _) ?_))
  unfold Builtin.«int.__repr__»
  show wpAny _ _ (do let r ← Builtin.overDigitLimit? a; _) _ _ s
  exact wpAny_bind (overDigitLimit_any hn (fun lt => wpAny_bind (wpAny_mkStr (wpAny_pure h) (int_text_fits10 lt))) fun ge => absurd ha (Nat.not_lt.mpr ge))
theorem big_obj {a : Int} {t : Tok} {Q : Value → Shared → Prop} (hn : s.heap.NoDigits) (ha : a.natAbs < 10 ^ 4300) (h : Q (.str (toString a) s.toks) { s with toks := s.toks + 1 }) : wpAny (model prog w) A (pyReprObj (.int a t)) Q E s := by
  have hv : [Value.int a t].any Value.onHeap = false := rfl
  unfold pyReprObj
  simp only [cRoomFor, hv, Bool.false_eq_true, if_false, pure_bind]
  refine wpAny_bind (wpAny_specialOf (name := Str.ofString "__repr__") (typeIs_int s a t) F.slot_int_repr.lookup ?_)
  refine wpAny_bind (m := callSpecialIfBound? (.int a t) (Str.ofString "__repr__")) (wpAny_callSpecialIfBound?_slot (name := Str.ofString "__repr__") (typeIs_int s a t) F.slot_int_repr (big_call hn ha ?_))
  exact wpAny_bind (wpAny_isInstance (T := "str") (b := true) rfl isSubtype_str_str (wpAny_pure h))
theorem big_reprK {a : Int} {as : List Addr} {h₀ : Heap} {d : Nat} (t : Tok) (hn : h₀.NoDigits) (ha : a.natAbs < 10 ^ 4300) : ReprK prog w as h₀ d (.int a t) (toString a) := fun base hb A g E s Q _ _ _ hk hQ => by
  rw [pyReprUnder_leaf (v := .int a t) (show base ≤ sizeLine by omega) (fun _ e => nomatch e)]
  unfold pyRepr
  exact wpAny_bind (big_obj (hn.keeps hk) ha (wpAny_pure (hQ s.heap _ fun _ _ e => e)))
end
def bigB (ns : List Int) : Prop := ns ≠ [] ∧ ns.length ≤ 1000 ∧ ∀ n ∈ ns, n.natAbs < 10 ^ 4300
theorem big_leaf : ∀ ns : List Int, (∀ n ∈ ns, n.natAbs < 10 ^ 4300) → PyData.leavesShortAll 4302 (ns.map PyData.int) = true ∧ PyData.bulkAll (ns.map PyData.int) ≤ ns.length
  | [], _ => ⟨rfl, Nat.le_refl _⟩
  | n :: ns, h => by
    obtain ⟨h1, h2⟩ := big_leaf ns fun m hm => h m (List.mem_cons_of_mem _ hm)
    have hn := int_text_length_le10 (k := 4300) (by decide) (h n (List.mem_cons_self ..))
    refine ⟨?_, ?_⟩
    · show (decide ((PyData.shown (.int n)).length ≤ 4302) && PyData.leavesShortAll 4302 (ns.map PyData.int)) = true
      rw [h1, Bool.and_true]
      refine decide_eq_true ?_
      show (Str.ofString (toString n)).length ≤ 4302
      rw [PySem.ofString_length]
      omega
    · show PyData.bulk (.int n) + 1 + PyData.bulkAll (ns.map PyData.int) ≤ ns.length + 1
      have : PyData.bulk (.int n) = 0 := rfl
      omega
theorem big_len {ns : List Int} (h : bigB ns) : (PyData.shown (.list (ns.map PyData.int))).length ≤ sizeLine := by
  obtain ⟨h1, h2⟩ := big_leaf ns h.2.2
  have h3 := PyData.shown_le_bulk 4302 (by decide) (.list (ns.map PyData.int)) h1
  have h4 : PyData.bulk (.list (ns.map PyData.int)) ≤ 1000 := Nat.le_trans h2 h.2.1
  have h5 : (4302 + 2) * PyData.bulk (.list (ns.map PyData.int)) ≤ 4304 * 1000 := Nat.mul_le_mul_left _ h4
  rw [sizeLine_eq]
  omega
theorem big_texts (ns : List Int) : PyData.shownAll (ns.map PyData.int) = ns.map fun n => Str.ofString (toString n) := by
  induction ns with
  | nil => rfl
  | cons n ns ih =>
    show PyData.shown (.int n) :: PyData.shownAll (ns.map PyData.int) = _
    rw [ih]
    rfl
theorem vals_intsB {ns : List Int} {its : List Value} (h : Vals (ns.map V.int) its) : ∀ (i : Nat) (y : Value), its[i]? = some y → ∃ n t, ns[i]? = some n ∧ y = .int n t := by
  induction ns generalizing its with
  | nil =>
    cases h
    intro i y e
    simp at e
  | cons n ns ih =>
    cases h with
    | cons r rr =>
      obtain ⟨t, rfl⟩ := r
      intro i y e
      cases i with
      | zero => exact ⟨n, t, rfl, (Option.some.inj e).symm⟩
      | succ i => exact ih rr i y e
def rReprI (K : PySem.W.Frag) : List V → Hp → VK → Prop := fun xs H Q => ∃ (a : Addr) (ns : List Int), xs = [.ref a] ∧ SqL K H a (ns.map V.int) ∧ bigB ns ∧ Q (.str (PyData.shown (.list (ns.map PyData.int)))) H
theorem call_reprI {X : Cx} (hd : PySem.W.nsIn X.K cStatics "sys.int_max_str_digits" = some none) (hg : X.A.guards = some []) (hu : X.A.units + 200 < cLine) : CallR X (.builtin "repr") (rReprI X.K) := by
  intro pins s σ H xs us Q I r h
  obtain ⟨a, ns, rfl, hS, hB, q⟩ := h
  obtain ⟨u, rfl, rx⟩ := vals1 r
  obtain rfl : u = Value.ref a := rx
  obtain ⟨its, rv, ⟨o, m, ho, hc, _, hda⟩, _⟩ := I.list hS
  have hND : s.heap.NoDigits := by
    obtain ⟨mc, hns, _⟩ := I.nolimit
    refine ⟨mc, hns, ?_⟩
    have X0 := I.kIn
    obtain ⟨o, es, ep, ho, hd2, _, hf⟩ := hns
    unfold PySem.W.nsIn at hd
    split at hd
    · rename_i c d es' n' sl qq
      have e := X0 _ _ qq
      rw [ho] at e
      cases e
      cases hd2
      split at hd
      · cases hd
      · rename_i he
        rw [← hf]
        unfold nsFind findBy
        rw [← Array.find?_toList, he]
        rfl
    · cases hd
  have hlen := rv.length
  have hz : (listText (ns.map fun n => Str.ofString (toString n))).length ≤ sizeLine := by
    have := big_len hB
    rw [← big_texts]
    exact this
  have hT : ∀ (i : Nat) (y : Value), its.toArray[i]? = some y → ∃ t, (ns.map fun n => Str.ofString (toString n))[i]? = some t ∧ ReprK X.prog X.w [] s.heap 0 y t := fun i y e => by
    obtain ⟨n, t, e1, rfl⟩ := vals_intsB rv i y (by simpa using e)
    refine ⟨Str.ofString (toString n), by rw [List.getElem?_map, e1]; rfl, big_reprK t hND (hB.2.2 n (List.mem_of_getElem? e1))⟩
  cases its with
  | nil =>
    cases ns with
    | nil => exact absurd rfl hB.1
    | cons n ns => cases rv
  | cons x l =>
    refine PySem.call_repr_slot (by omega) ⟨o, ho, hc⟩ F.slot_list_repr.toG ?_
    refine call_list_reprK (as := []) (h₀ := s.heap) (d := 0) ho hc hda (by simp) (by rw [List.length_map]; rw [List.length_map] at hlen; simpa using hlen) hT hg (fun b _ => Clear.nil b) (by show X.A.units + 1 + (0 + 1) < cLine; omega) (fun _ _ e => e) (fun h' u tk hk => ⟨_, _, rfl, ?_⟩) hz
    refine ⟨.str _, H, I.un (Un.kept hk) (I.hok.kept hk), ⟨_, rfl⟩, ?_⟩
    rw [← big_texts]
    exact q
end Wn
/-! with e as x: return e2 — the block may raise; a lambda with one parameter -/
namespace Wn
open PySem PySem.Spec PyProof.Rows L2 LamX L2H
/-! ### a def called while an exception is handled; it raises nothing -/
structure FnM (gd : Bool) (P : Program) (w : World) (K : PySem.W.Frag) (mg : Str → Option Value) (base : Heap) (k : Nat) (f : Addr) (fd : FuncData) (ps : List Str) (sp : Sp) : Prop where
  len : ∀ vs H Q E, sp vs H Q E → vs.length = ps.length
  run : ∀ (A : Around) (outer : List Env) (s : Shared) (H : Hp) (args : Args) (us : List Value) (vs : List V) (Q : VK), (gd = true → A.guards = some []) → RoomH k A → Env0 P w K mg base A outer s H → BindsTo s fd args (ps.zip us) → Vals vs us → sp vs H Q E0 →
    codeAny (model P w) A (.call (.ref f) args) (CR CX0 outer P w H s Q E0) s
theorem FnM.mono {gd : Bool} {P : Program} {w : World} {K : PySem.W.Frag} {mg : Str → Option Value} {base : Heap} {j k : Nat} {f : Addr} {fd : FuncData} {ps : List Str} {sp : Sp} (F : FnM gd P w K mg base j f fd ps sp) (h : j ≤ k) : FnM gd P w K mg base k f fd ps sp :=
  ⟨F.len, fun A outer s H args us vs Q hg hr => F.run A outer s H args us vs Q hg (hr.mono h)⟩
def cxM (P : Program) (w : World) (K : PySem.W.Frag) (mg : Str → Option Value) (base : Heap) (N : List Str) (qual : Str) (scope : Scope) (f : Addr) (cd : Value) (A : Around) (outer : List Env) (s : Shared) (H : Hp) : Cx :=
  { cxOf CX0 P w K mg base N qual scope f cd A outer s H E0 with calm := false }
/-- the module's names: an object that every state has, and that nobody tracks -/
theorem pin_main {P : Program} {w : World} {K : PySem.W.Frag} {mg : Str → Option Value} {base : Heap} {A : Around} {outer : List Env} {s : Shared} {H : Hp} (e0 : Env0 P w K mg base A outer s H) : ∃ p : Addr × Obj, PinOk outer H s p := by
  obtain ⟨o, es, ep, ho, hd, _⟩ := e0.mod.glob
  obtain ⟨g, n⟩ := e0.bs _ _ ho
  refine ⟨(mainGlobals, o), g, n, fun z => ?_, fun v z => by rw [hd] at z; cases z⟩
  have := (e0.funs.mem z).1
  rw [ho] at this
  cases this
/-- without its pins -/
theorem inv_bared {X Y : Cx} {pins : List (Addr × Obj)} {σ : L2.St} {H : Hp} {s : Shared} (I : Inv X pins σ H s) (e : Y = { X with pn := [] }) : Inv Y [] σ H s := by
  subst e
  have o := I.ok
  exact ⟨⟨o.mod, o.kind, o.glob, o.blt, o.above, o.inj, o.has, o.cab, o.hd, o.frames, o.stk, o.exf, o.bs, o.bsz, o.noex, o.exfs, o.funs, o.frf⟩, I.os, I.bare, I.base, I.loc, I.cell, I.free, I.freeC, (fun q hq => nomatch hq), I.hok, I.len⟩
section
variable {gd : Bool} {P : Program} {w : World} {K : PySem.W.Frag} {mg : Str → Option Value} {base : Heap} {k : Nat} {f : Addr} {fd : FuncData} {ps : List Str} {sp : Sp}
/-- such a def by its body -/
theorem fnM {x qual : Str} {st : Stmt} {N : List Str} (F : Fun K x qual st f fd) (S : FnScope N ps (defScope st)) (sz : ∀ vs H Q E, sp vs H Q E → vs.length = ps.length)
    (body : ∀ (cdv : Value) (A : Around) (outer : List Env) (s : Shared) (H : Hp) (vs : List V) (Q : VK), (gd = true → (A.deeper (envOfC qual (defScope st) s.heap.objs.size f cdv)).guards = some []) → RoomH k (A.deeper (envOfC qual (defScope st) s.heap.objs.size f cdv)) → sp vs H Q E0 →
      ∃ t, PSs (cxM P w K mg base N qual (defScope st) f cdv A outer s H) (defBody st) t ∧ t { nx := fun _ H' => Q .non H', rt := Q } (L2.start N vs) H) : FnM gd P w K mg base (k + 1) f fd ps sp := by
  obtain ⟨oc, od, kV, doc, pm, an, cdv, ct, osl, rfl, lk, hcd⟩ := F.ex
  refine ⟨sz, fun A outer s H args us vs Q hg hr e0 hb r h => ?_⟩
  have KI : K.In s.heap := e0.mod.kin.keeps fun b o e => (e0.bs b o e).1
  have NL : s.heap.NoLimit := e0.mod.nolimit.keeps fun b o e => (e0.bs b o e).1
  refine codeAny_call_function hr.depth (KI _ _ lk) rfl S.co S.gen rfl (PySem.W.codeRec_of KI hcd) (hb _ _ _ _ ?_)
  refine wpAny_newFunctionEnv_cells S.kind (fun y hy => ?_) fun env he s1 x => ?_
  · obtain ⟨n, v⟩ := y
    exact (S.par n (List.of_mem_zip hy).1).imp id fun q => ⟨q, PySem.W.cellsFrom_some _ _ _ (.inl q)⟩
  · subst he
    refine ⟨NL.keeps x.toInCall.keep, codeAny_func ?_⟩
    obtain ⟨t, ht, hq⟩ := body cdv A outer s H vs Q hg (hr.deeper _) h
    obtain ⟨p, hp⟩ := pin_main e0
    have I0 := inv_bared (Y := cxM P w K mg base N qual (defScope st) f cdv A outer s H) (inv_startH (CX := CX0) (E := E0) (P := P) S hp e0 (sz _ _ _ _ h) r x) rfl
    refine wpAny_mono (ht.run [] s1 _ H _ I0 hq) (fun fl s' z => ?_) fun e s' z => z
    cases fl with
    | ret u =>
      obtain ⟨v, σ', H', J, rv, q⟩ := z
      exact ⟨v, H', J.os, J.bare, J.base, J.hok, rv, q⟩
    | next =>
      obtain ⟨σ', H', J, q⟩ := z
      exact ⟨.non, H', J.os, J.bare, J.base, J.hok, rfl, q⟩
    | brk =>
      obtain ⟨_, _, _, q⟩ := z
      exact q.elim
    | cont =>
      obtain ⟨_, _, _, q⟩ := z
      exact q.elim
end
/-- the callee runs, in a context that handles an exception -/
theorem run_fnM {gd : Bool} {X : Cx} {k : Nat} {f : Addr} {fd : FuncData} {ps : List Str} {sp : Sp} {pins : List (Addr × Obj)} {σ : L2.St} {H : Hp} {s : Shared} {Q : VK} {us : List Value} {vs : List V} (F : FnM gd X.prog X.w X.K X.mg X.base k f fd ps sp) (hg : gd = true → X.A.guards = some []) (hr : RoomH k X.A) (hb : L2.Binds X.K fd ps [])
    (I : Inv X pins σ H s) (r : Vals vs us) (h : sp vs H Q E0) : codeAny (model X.prog X.w) X.A (.call (.ref f) ⟨us, []⟩) (fun z s' => ∃ u, z = .ok (.ret u) ∧ EP X pins σ Q u s') s := by
  have hl : us.length = ps.length := by rw [← r.length]; exact F.len _ _ _ _ h
  have b := hb s us I.kIn (by rw [List.append_nil]; exact hl)
  rw [List.append_nil] at b
  refine codeAny_mono (F.run X.A X.stack s H ⟨us, []⟩ us vs Q hg hr I.env0 b r h) fun z s' hq => ?_
  match z, hq with
  | .error e, hq => exact (show False from hq).elim
  | .ok (.ret u), hq => exact ⟨u, rfl, I.after hq⟩
  | .ok .next, hq => exact hq.elim
  | .ok .brk, hq => exact hq.elim
  | .ok .cont, hq => exact hq.elim
/-! ### an error that has landed goes on -/
section
variable {X : Cx} {pins : List (Addr × Obj)} {σ : L2.St} {H : Hp}
/-- the error's two records are out of the reach of all that is tracked: passed on, it is in the air again -/
theorem pass_again {α : Type} {Wout : WX} {Qr : α → Shared → Prop} {what : String} {s : Shared} {a T : Addr} {oe oT : Obj} {vs ts : Array Value} {cls : Value} {d : Option Addr} (hs : X.stack = X.env :: X.outer) (hf : X.env.frame = some X.env.locals) (tk : Takes X Wout)
    (I : Inv X pins σ H s) (pa : s.heap.get? a = some oe ∧ H a = none) (pT : s.heap.get? T = some oT ∧ H T = none) (hz : Zc cls d oe) (da : oe.data = .fields vs) (v1 : vs[1]? = some (.ref T)) (dT : oT.data = .fields ts) (v3 : ts[3]? = some .none) (hTa : T ≠ a)
    (old : ∀ b o, X.s_0.heap.get? b = some o → b ≠ a ∧ b ≠ T) (oldP : ∀ p ∈ X.pn ++ pins, p.1 ≠ a ∧ p.1 ≠ T) (hw : Wout cls d σ H) : wpAny (model X.prog X.w) X.A (PySem.passOn what (.ref a) X.env : Sem α) Qr X.xe s := by
  -- the state without the two
  obtain ⟨G, in_, out_⟩ := restrict s.heap fun b => !decide (b = a) && !decide (b = T)
  have mem : ∀ {b o}, G.get? b = some o → s.heap.get? b = some o ∧ b ≠ a ∧ b ≠ T := fun {b o} e => by
    by_cases c : b = a ∨ b = T
    · rw [out_ b (by rcases c with c | c <;> simp [c])] at e
      cases e
    · rw [not_or] at c
      rw [in_ b (by simp [c.1, c.2])] at e
      exact ⟨e, c⟩
  have kept : ∀ b o, b ≠ a → b ≠ T → s.heap.get? b = some o → G.get? b = some o := fun b o n1 n2 e => (in_ b (by simp [n1, n2])).trans e
  have I1 : Inv X pins σ H { s with heap := G } := I.less (fun b o e => (mem e).1) kept ⟨oe, vs, pa.1, da⟩ ⟨oT, ts, pT.1, dT⟩ pa.2 pT.2 old oldP
  -- its ground
  have none_ : ∀ b, b = a ∨ b = T → (PySem.W.hideAll G (frs X.stack)).get? b = none := fun b c => by
    match q : (PySem.W.hideAll G (frs X.stack)).get? b with
    | none => rfl
    | some o =>
      have m := mem (PySem.W.of_hideAll _ q)
      exact (c.elim m.2.1 m.2.2).elim
  have air : HandSPX.FlyingZ (PySem.W.hideAll G (frs X.stack)) X.stack a (Zc cls d) s.heap :=
    ⟨fun b o e => (mem (PySem.W.of_hideAll _ e)).1, none_ a (.inl rfl), funFrames_none I.stack fun b hb => PySem.W.hideAll_none _ hb, oe, vs, T, oT, ts, pa.1, hz, da, v1, none_ T (.inr rfl), hTa, pT.1, dT, v3⟩
  unfold PySem.passOn
  refine wpAny_bind (wpAny_field pa.1 da v1 ?_)
  have go : wpAny (model X.prog X.w) X.A (setFlight (.ref a) X.env.frame >>= fun _ => (throw (.ref a) : Sem α)) Qr X.xe s := by
    rw [hf]
    refine wpAny_bind (HandSPX.setFlight_upZ air fun h2 held up => wpAny_throw (tk _ _ ?_))
    exact ⟨a, PySem.W.hideAll G (frs X.stack), { s with heap := G }, pins, σ, H, cls, d, rfl, I1, fun b o e hb => PySem.W.hideAll_get _ e hb, (Heap.UpToSlots.of_keeps fun b o e => (mem e).1).trans up, .inr (.inr held), pa.2, rfl, I.bare, hw⟩
  have nn : ¬ ((Value.ref T == Value.none) = true) := by simp
  first
    | (rw [if_neg nn]; exact wpAny_bind (wpAny_pure go))
    | (rw [if_neg nn]; exact go)
end
/-! ### with -/
def wWith (spx : Sp) (a : Addr) (Wout : WX) : WX := fun cls d σ H => ∃ kv, RelV kv cls ∧ ∀ ev tv : V, spx [.ref a, kv, ev, tv] H (fun v H' => v = .non ∧ Wout cls d σ H') E0
def tWith (C : Addr) (spe spx : Sp) (i : Nat) (tc : TE) (te : WX → TE) (Wout : WX) : TS := fun D σ H => tc σ H fun x H1 => ∃ a dx fs, x = .ref a ∧ H1 a = some (.ins C dx fs) ∧
  spe [.ref a] H1 (fun v H2 => te (wWith spx a Wout) (σ.set i (some v)) H2 fun r H3 => spx [.ref a, .non, .non, .non] H3 (fun _ H4 => D.rt r H4) E0) E0
def psX : List Str := ["self", "kind", "value", "trace"]
section
variable {X : Cx} {pins : List (Addr × Obj)}
/-- behind an error in the block: __exit__ is told of it, then on it goes -/
theorem with_exc {Wout : WX} {D : Ends} {u : Value} {s' : Shared} {x fx : Addr} {fdx : FuncData} {spx : Sp} {k : Nat} {pos : Pos} (hs : X.stack = X.env :: X.outer) (hf : X.env.frame = some X.env.locals) (hex : X.ex = []) (ok : X.Ok) (tk : Takes X Wout)
    (Fx : FnM false X.prog X.w X.K X.mg X.base k fx fdx psX spx) (hr : RoomH k X.A) (hb : L2.Binds X.K fdx psX []) {kont : Value → Sem Flow} (hk : ∀ s6, wpAny (model X.prog X.w) X.A (PySem.passOn "with" u X.env : Sem Flow) (SP X pins D) X.xe s6 → wpAny (model X.prog X.w) X.A (kont .none) (SP X pins D) X.xe s6)
    {xe : Value → Shared → Prop} (xx : XE (X.tr (X.pn ++ pins) xe) (wWith spx x Wout) u s') :
    wpAny (model X.prog X.w) X.A (noteFrame u X.env) (fun _ s2 => wpAny (model X.prog X.w) X.A (do
      setFlight u none
      standAt pos
      holding [u] (typeOf u >>= fun c => tracebackOf u >>= fun tb => withItem.marked u (.call (.ref fx) ⟨[.ref x] ++ [c, u, tb], []⟩) >>= kont)) (SP X pins D) X.xe s2) X.xe s' := by
  obtain ⟨a, B, sI, pins', σ', H', cls, d, rfl, J', nb, up, sky, na, os, ag, hw⟩ := xx
  have J := J'.ofTry ok
  have fr : X.A.frames = some (X.env :: X.outer) := ok.frames.trans (congrArg some hs)
  have sky : Sky B X.stack a (Zc cls d) X.env.locals s'.heap := sky
  rw [hs] at sky
  refine wpAny_mono (sky.land (Q := fun _ s3 => s3.heap.FunFrames B (X.env :: X.outer) ∧ HandSPX.FlyingZ B (X.env :: X.outer) a (Zc cls d) s3.heap ∧ s'.heap.UpToSlots s3.heap ∧ s3 = { s' with heap := s3.heap }) Zc.steady fr hf fun h3 fl up3 => ⟨fl.2.2.1, fl, up3, rfl⟩) (fun _ s2 q2 => wpAny_bind (wpAny_mono q2 (fun _ s3 q3 => ?_) fun _ _ z => z)) fun _ _ z => z
  obtain ⟨ff, fl, up3, es3⟩ := q3
  obtain ⟨h3, rfl⟩ : ∃ h3, s3 = { s' with heap := h3 } := ⟨_, es3⟩
  refine wpAny_bind (wpAny_standAt (wpAny_holding ?_))
  have J3 : Inv X pins σ' H' { s' with heap := h3 } := J.landed nb fl.1 (up.trans up3) os ag
  obtain ⟨_, nB, _, oe, vs, T, oT, ts, he, hz, da, v1, nT, hTa, hT, dT, v3⟩ := fl
  -- no frame is a record
  have off : ∀ (b : Addr) (o : Obj) (fs : Array Value), h3.get? b = some o → o.data = .fields fs → b ∉ frs (X.env :: X.outer) := fun b o fs e df hm => by
    obtain ⟨_, o2, e2, no⟩ := ff.mem hm
    rw [e] at e2
    cases e2
    exact no _ df
  have loc : X.env.locals ∈ frs (X.env :: X.outer) := List.mem_filterMap.mpr ⟨X.env, List.mem_cons_self, hf⟩
  have sub : ∀ b, b ∈ X.fs → b ∈ frs (X.env :: X.outer) := fun b hm => by
    obtain ⟨en, h1, h2⟩ := List.mem_filterMap.mp hm
    exact List.mem_filterMap.mpr ⟨en, List.mem_cons_of_mem _ h1, h2⟩
  have rec_ : ∀ (b : Addr) (o : Obj) (fs : Array Value), h3.get? b = some o → o.data = .fields fs → b ≠ X.env.locals ∧ b ∉ X.fs ∧ ∀ v, o.data ≠ .cell v := fun b o fs e df =>
    ⟨fun z => off b o fs e df (z ▸ loc), fun z => off b o fs e df (sub b z), fun v z => by rw [df] at z; cases z⟩
  have nT' : H' T = none := (J.inGround nb).gone nT
  have qT := rec_ T oT ts hT dT
  have qa := rec_ a oe vs he da
  have J4 : Inv X ((T, oT) :: pins) σ' H' { s' with heap := h3 } := J3.pins_of fun p hp => by
    rcases List.mem_cons.mp hp with rfl | hp
    · exact ⟨hT, nT', qT.1, qT.2⟩
    · exact J3.pin p (List.mem_append_right _ hp)
  have S := J4.suite he da na qa.1 qa.2.1
  -- its class, its traceback
  refine wpAny_bind (wpAny_typeOf_ref he ?_)
  rw [hz.1]
  have tbk : ∀ {Q : Value → Shared → Prop} {E : Value → Shared → Prop}, (∀ tv tu, RelV tv tu → Q tu { s' with heap := h3 }) → wpAny (model X.prog X.w) X.A (tracebackOf (.ref a)) Q E { s' with heap := h3 } := fun hq => by
    have lt : 1 < ts.size := Nat.lt_trans (by decide) (Array.getElem?_eq_some_iff.mp v3).1
    unfold tracebackOf
    refine wpAny_bind (wpAny_field he da v1 ?_)
    dsimp only
    refine wpAny_bind (wpAny_field hT dT (Array.getElem?_eq_getElem lt) ?_)
    split
    · exact wpAny_pure (hq .non .none rfl)
    · exact wpAny_pure (hq (.ref T) (.ref T) rfl)
  refine wpAny_bind (tbk fun tv tu rt => ?_)
  obtain ⟨kv, rk, hsp⟩ := hw
  unfold withItem.marked
  have hr2 : RoomH k (X.suite a ((a, oe) :: (X.pn ++ (T, oT) :: pins))).A := ⟨hr.dp, hr.un⟩
  refine wpAny_bind (wpAny_bind (wpAny_run (codeAny_mono (run_fnM (X := X.suite a ((a, oe) :: (X.pn ++ (T, oT) :: pins))) (us := [.ref x, cls, .ref a, tu]) (vs := [.ref x, kv, .ref a, tv]) Fx (fun z => by cases z) hr2 hb S (.cons rfl (.cons rk (.cons rfl (.cons rt .nil)))) (hsp (.ref a) tv)) fun z s6 hq => ?_) (fun z => absurd (Option.some.inj z) (ref_ne_byPass a))))
  obtain ⟨u6, rfl, v6, H6, S6, r6, ev6, q6⟩ := hq
  subst ev6
  obtain rfl : u6 = Value.none := r6
  dsimp only
  refine wpAny_pure (hk _ ?_)
  have pa := S6.pin (a, oe) (List.mem_append_left _ List.mem_cons_self)
  have U := S6.unsuite ok
  have pT := S6.pin (T, oT) (List.mem_append_left _ (List.mem_cons_of_mem _ (List.mem_append_right _ List.mem_cons_self)))
  -- what stood before is neither of the two
  have far : ∀ b o, sI.heap.get? b = some o → b ≠ a ∧ b ≠ T := fun b o e => by
    by_cases hb : b ∈ frs X.stack
    · rw [hs] at hb
      exact ⟨fun z => off a oe vs he da (z ▸ hb), fun z => off T oT ts hT dT (z ▸ hb)⟩
    · have g := nb b o e hb
      exact ⟨fun z => (by rw [z, nB] at g; cases g), fun z => (by rw [z, nT] at g; cases g)⟩
  have U2 : Inv X pins σ' H6 s6 := U.pins_of fun p hp => U.pin p (List.mem_append_right _ (List.mem_cons_of_mem _ hp))
  refine pass_again hs hf tk U2 ⟨pa.1, pa.2.1⟩ ⟨pT.1, pT.2.1⟩ hz da v1 dT v3 hTa (fun b o e => ?_) (fun p hp => far p.1 p.2 (J.pin p hp).1) q6
  obtain ⟨o2, g⟩ := J.base.there b o e (by rw [hex]; simp)
  exact far b o2 g
/-- with e as y: return e2 -/
theorem ps_with {C fe fx : Addr} {fde fdx : FuncData} {spe spx : Sp} {k i : Nat} {y : Str} {ctx e : Expr} {tc : TE} {te : WX → TE} {Wout : WX} {py rp pos : Pos} (hs : X.stack = X.env :: X.outer) (hf : X.env.frame = some X.env.locals) (hex : X.ex = []) (tk : Takes X Wout) (hg : ∀ (pn : List (Addr × Obj)) (xe : Value → Shared → Prop), PG (X.tr pn xe) (.Name y py) (gName i))
    (hc : PE X ctx tc) (Fe : FnOk X.prog X.w X.K X.mg X.base CX0 k fe fde ["self"] spe) (be : L2.Binds X.K fde ["self"] []) (Fx : FnOk X.prog X.w X.K X.mg X.base CX0 k fx fdx psX spx) (FxM : FnM false X.prog X.w X.K X.mg X.base k fx fdx psX spx) (bx : L2.Binds X.K fdx psX []) (hr : Room k X.A)
    (hE : PySem.W.findIn X.K (.ref C) "__enter__" = some (some (.ref fe))) (hEf : PySem.W.isFn X.K (.ref fe) = true) (hX : PySem.W.findIn X.K (.ref C) "__exit__" = some (some (.ref fx))) (hXf : PySem.W.isFn X.K (.ref fx) = true)
    (he : ∀ (W : WX) (pn : List (Addr × Obj)) (xe : Value → Shared → Prop), Takes (X.tr pn xe) W → PassesOwn (model X.prog X.w) X.A X.env xe → PE (X.tr pn xe) e (te W)) :
    PS X (.With [⟨ctx, some (.Name y py)⟩] [.Return (some e) rp] pos) (tWith C spe spx i tc te Wout) := by
  refine ⟨fun pins s σ H D I h => ?_⟩
  have ok := I.ok
  rw [arm_exec_With]
  refine wpAny_bind (wpAny_standAt ?_)
  rw [arm_withItems_cons, arm_withItems_nil]
  unfold withItem
  refine wpAny_bind (thn (hc.run pins s σ H _ I h) fun u s1 hh => ?_)
  obtain ⟨v, H1, I1, r1, a, dx, fs, ev, ea, h1⟩ := hh
  subst ev
  obtain rfl : u = Value.ref a := r1
  obtain ⟨mA, O, _⟩ := ins_get I1.hok ea
  obtain ⟨od, J, _⟩ := O.look
  obtain ⟨cd, hcd, ae⟩ := PySem.W.kw_along hE
  obtain ⟨cd', hcd', ax⟩ := PySem.W.kw_along hX
  cases hcd.symm.trans hcd'
  have L1 := PySem.W.kw_special (M := model X.prog X.w) I1.kIn J hcd ae
  have L7 := PySem.W.kw_special (M := model X.prog X.w) I1.kIn J hcd ax
  have L3 := PySem.W.bind_fn (M := model X.prog X.w) I1.kIn (.ref a) (beq_iff_eq.mp hEf)
  have L4 := PySem.W.bind_fn (M := model X.prog X.w) I1.kIn (.ref a) (beq_iff_eq.mp hXf)
  have L5 : PySem.W.Looks (model X.prog X.w) s1.heap (aMethodOfAnotherBuiltinTypeStops (.ref fe) cd.mro) () := PySem.W.Looks.of_pure rfl
  have L6 : PySem.W.Looks (model X.prog X.w) s1.heap (aMethodOfAnotherBuiltinTypeStops (.ref fx) cd.mro) () := PySem.W.Looks.of_pure rfl
  obtain ⟨hh, g, d, tt, os⟩ := s1
  refine wpAny_bind (wpAny_standAt ?_)
  simp only [Bool.false_eq_true, if_false]
  kw_lk
  refine wpAny_mono (run_fn (us := [.ref a]) (vs := [.ref a]) Fe hr be .nil pass0 I1 (.cons rfl .nil) h1) (fun v2 s2 h2 => ?_) fun _ _ z => z
  obtain ⟨w2, H2, I2, r2, q2⟩ := h2
  refine wpAny_bind (wpAny_pure (wpAny_bind (wpAny_attempt (PySem.W.kw_held ?_))))
  obtain ⟨bad, hbad⟩ : ∃ bad : Value → Sem Flow, bad = fun u => (do
      setFlight u none
      standAt ctx.pos
      holding [u] (typeOf u >>= fun c => tracebackOf u >>= fun tb => withItem.marked u (.call (.ref fx) ⟨[.ref a] ++ [c, u, tb], []⟩) >>= fun r => (pure r >>= fun r => match r with
        | .none => pure false >>= fun swallow => if swallow = true then (do rule "with.exit-swallows"; setFlight u none; pure .next) else PySem.passOn "with" u X.env
        | .bool b => pure b >>= fun swallow => if swallow = true then (do rule "with.exit-swallows"; setFlight u none; pure .next) else PySem.passOn "with" u X.env
        | _ => withItem.marked u (.call (.type "bool") ⟨[r], []⟩) >>= fun z => pure (z == .bool true) >>= fun swallow => if swallow = true then (do rule "with.exit-swallows"; setFlight u none; pure .next) else PySem.passOn "with" u X.env))) := ⟨_, rfl⟩
  obtain ⟨xe, hxe⟩ : ∃ xe : Value → Shared → Prop, xe = fun u s' => wpAny (model X.prog X.w) X.A (noteFrame u X.env) (fun _ s2 => wpAny (model X.prog X.w) X.A (bad u) (SP X pins D) X.xe s2) X.xe s' := ⟨_, rfl⟩
  have tk2 : Takes (X.tr (X.pn ++ pins) xe) (wWith spx a Wout) := fun u s' xx => by
    show xe u s'
    rw [hxe, hbad]
    refine with_exc hs hf hex ok tk FxM (roomH_of hr) bx (fun s6 h6 => ?_) xx
    refine wpAny_bind (wpAny_pure (wpAny_bind (wpAny_pure ?_)))
    simp only [Bool.false_eq_true, if_false]
    exact h6
  have body : wpAny (model X.prog X.w) X.A (assign (.Name y py) X.env v2 >>= fun _ => execs [.Return (some e) rp] X.env) (fun f s5 => ∃ (r : V) (u : Value) (σ5 : L2.St) (H5 : Hp), f = .ret u ∧ Inv X pins σ5 H5 s5 ∧ RelV r u ∧ spx [.ref a, .non, .non, .non] H5 (fun _ H4 => D.rt r H4) E0) xe s2 := by
    refine wpAny_bind (wpAny_mono ((hg (X.pn ++ pins) xe).run [] s2 σ H2 w2 v2 (fun σ' H' => te (wWith spx a Wout) σ' H' fun r H3 => spx [.ref a, .non, .non, .non] H3 (fun _ H4 => D.rt r H4) E0) (I2.toTry _) r2 q2) (fun _ s3 h3 => ?_) fun _ _ z => z)
    obtain ⟨σ3, H3, I3, q3⟩ := h3
    refine wpAny_execs_cons (wpAny_Return_some ?_)
    refine wpAny_mono ((he _ _ xe tk2 (by rw [hxe]; exact PassesOwn.looking)).run [] s3 σ3 H3 _ I3 q3) (fun u s4 h4 => ?_) fun _ _ z => z
    obtain ⟨r, H4, I4, r4, q4⟩ := h4
    exact ⟨r, u, σ3, H4, rfl, I4.ofTry ok, r4, q4⟩
  refine wpAny_mono body (fun f s5 h5 => ?_) (fun u s5 h5 => ?_)
  · obtain ⟨r, u, σ5, H5, rfl, I5, r5, q5⟩ := h5
    dsimp only
    refine wpAny_bind (wpAny_standAt (wpAny_bind (wpAny_holding ?_)))
    refine wpAny_mono (run_fn (us := [.ref a, .none, .none, .none]) (vs := [.ref a, .non, .non, .non]) Fx hr bx .nil pass0 I5 (.cons rfl (.cons rfl (.cons rfl (.cons rfl .nil)))) q5) (fun v6 s6 h6 => ?_) fun _ _ z => z
    obtain ⟨w6, H6, I6, r6, q6⟩ := h6
    exact wpAny_pure ⟨r, σ5, H6, I6, r5, q6⟩
  · rw [hxe, hbad] at h5
    exact wpAny_bind h5
end
/-! ### a lambda with one parameter -/
/-- the context of its body: N the names of the def around, then its own -/
def lamCxP (X : Cx) (P : List Str) (A : Around) (outer : List Env) (s : Shared) (H : Hp) (E : XK) (scope : Scope) (f c' : Addr) : Cx := { lamCx X A outer s H E scope f c' with N := X.N ++ P }
/-- its slots: those of the def around, the argument, then what is not set yet -/
def slP (σ : L2.St) (v : V) (n : Nat) : L2.St := σ ++ some v :: List.replicate n none
section
variable {X : Cx} {pins : List (Addr × Obj)} {σ : L2.St} {H HZ : Hp} {s s1 : Shared}
theorem lamP_start {A : Around} {outer : List Env} {E : XK} {scope : Scope} {f c' : Addr} {h1 : Heap} {tk : Nat} {p : Str} {P : List Str} {v : V} {u : Value} (hP : ∀ x ∈ p :: P, scope.names.lookup x = some .local) (rv : RelV v u) (I : Inv X pins σ H s) (L : LamD X.N X.env.scope scope)
    (e0 : Env0 X.prog X.w X.K X.mg X.base A outer s1 HZ) (hd : A.handled = none) (un : Un (frs X.stack) [] H HZ s.heap s1.heap) (hns : h1.Ns s1.heap.objs.size fun y => [(p, u)].reverse.lookup y) (kp : ∀ b o, s1.heap.get? b = some o → h1.get? b = some o) :
    Inv (lamCxP X (p :: P) A outer s1 HZ E scope f c') [] (slP σ v P.length) HZ { s1 with heap := h1, toks := tk } := by
  have I0 : Inv (lamCx X A outer s1 HZ E scope f c') [] σ HZ { s1 with heap := h1, toks := tk } := lamW_start I L e0 hd un hns kp
  have o := I0.ok
  have len := I.len
  refine ⟨⟨o.mod, o.kind, o.glob, o.blt, o.above, o.inj, o.has, o.cab, o.hd, o.frames, o.stk, o.exf, o.bs, o.bsz, o.noex, o.exfs, o.funs, o.frf⟩, I0.os, I0.bare, I0.base, ⟨_, hns, fun i y w e1 e2 e3 => ?_⟩, I0.cell, I0.free, I0.freeC, I0.pin, I0.hok, ?_⟩
  · have e1 : (X.N ++ p :: P)[i]? = some y := e1
    unfold slP at e2
    by_cases hi : i < X.N.length
    · rw [List.getElem?_append_left hi] at e1
      rw [List.getElem?_append_left (by omega)] at e2
      obtain ⟨m, _, look⟩ := I0.loc
      obtain ⟨z, r, q⟩ := look i y w e1 e2 e3
      refine ⟨z, r, ?_⟩
      rcases q with ⟨kd, _⟩ | q
      · exact absurd (List.mem_of_getElem? e1) ((L.own _ (PySem.mem_of_lookup kd)).2 rfl)
      · exact .inr q
    · rw [List.getElem?_append_right (by omega)] at e1
      rw [List.getElem?_append_right (by omega), len] at e2
      cases c : i - X.N.length with
      | zero =>
        rw [c] at e1 e2
        cases e1
        cases e2
        exact ⟨u, rv, .inl ⟨hP _ List.mem_cons_self, by simp⟩⟩
      | succ n =>
        rw [c, List.getElem?_cons_succ, List.getElem?_replicate] at e2
        split at e2 <;> cases e2
  · show (slP σ v P.length).length = (X.N ++ p :: P).length
    unfold slP
    rw [List.length_append, List.length_append, len, List.length_cons, List.length_cons, List.length_replicate]
/-- the lambda as it stands -/
structure LamAt1 (X : Cx) (params : Arguments) (body : Expr) (scope : Scope) (p : Str) (H : Hp) (f c' : Addr) : Prop where
  ex : ∃ doc pm ctv, H f = some (LfO X f params body scope .none doc pm c' ctv) ∧ H c' = some (CodeO c' (X.env.qual ++ "<lambda>")) ∧
    ∀ u : Value, bindArgs (PySem.W.kdv_fn "<lambda>" (X.env.qual ++ "<lambda>") params (.expr body) scope (clos X scope) .none doc pm (.ref c') ctv) ⟨[u], []⟩ = pure [(p, u)]
theorem LamAt1.code {params : Arguments} {body : Expr} {scope : Scope} {p : Str} {f c' : Addr} (L : LamAt1 X params body scope p H f c') : H c' = some (CodeO c' (X.env.qual ++ "<lambda>")) := by
  obtain ⟨_, _, _, _, h, _⟩ := L.ex
  exact h
/-- lambda p: e -/
theorem pe_lam1 {T : List (Addr × Str)} {c P : Addr} {params : Arguments} {body : Expr} {scope : Scope} {pos : Pos} {p : Str} (TB : TabB X.base X.mg c P) (hcode : X.env.code = .ref c) (hm : (P, X.env.qual ++ "<lambda>") ∈ T) (hu : ∀ p ∈ T, p.1 = P → p.2 = X.env.qual ++ "<lambda>")
    (hdef : defaultsOf params X.env = ([], [])) (L : LamD X.N X.env.scope scope) (hbind : ∀ (q : Str) (cl : List (Str × Addr)) (doc pm cv ctv u : Value), bindArgs (PySem.W.kdv_fn "<lambda>" q params (.expr body) scope cl .none doc pm cv ctv) ⟨[u], []⟩ = pure [(p, u)]) :
    PE X (.Lambda params body scope pos) (tLamE T (LamAt1 X params body scope p)) := by
  refine ⟨fun pins s σ H Q I h => ?_⟩
  obtain ⟨hT, h⟩ := h
  refine PySem.W.kla_eval hdef ?_
  rw [makeFunction_eq]
  simp only [List.zip_nil_right, List.filterMap_nil, List.isEmpty_nil, if_true, pure_bind]
  exact mk_tailT I TB hcode hm hu hT (LamD.has L I.ok) fun f c' doc pm ctv H1 s' I1 eN T1 hf hco => ⟨.ref f, H1, I1, rfl, h f c' H1 eN T1 ⟨doc, pm, ctv, hf, hco, fun u => hbind _ _ _ _ _ _ u⟩⟩
/-- a(b), in the def that got the lambda -/
theorem pe_act1 {CXg : CXT} {Eg : XK} {Ng : List Str} {qg : Str} {sg : Scope} {g f c' : Addr} {cdg : Value} {params : Arguments} {body : Expr} {scope : Scope} {k i j : Nat} {a b p : Str} {P : List Str} {pn : List (Addr × Obj)} {xe : Value → Shared → Prop} {W : WX} {tb : XK → TE} {p1 p2 p3 : Pos}
    {A2 : Around} {outer2 : List Env} {s3 : Shared} {H3 : Hp} (I : Inv X pins σ H s) (L : LamD X.N X.env.scope scope) (hP : ∀ x ∈ p :: P, scope.names.lookup x = some .local) (M : LamAt1 X params body scope p H f c')
    (un3 : ∀ HZ h1, Un (frs outer2) [] H3 HZ s3.heap h1 → Un (frs X.stack) [] H HZ s.heap h1)
    (tk : Takes ((cxOf CXg X.prog X.w X.K X.mg X.base Ng qg sg g cdg A2 outer2 s3 H3 Eg).tr pn xe) W) (hr : Room (k + 1) (A2.deeper (envOfC qg sg s3.heap.objs.size g cdg)))
    (hbody : ∀ (A : Around) (outer : List Env) (s : Shared) (H : Hp) (E : XK), (A.deeper (lamEnv X scope s.heap.objs.size f c')).guards = A2.guards → Room k (A.deeper (lamEnv X scope s.heap.objs.size f c')) → PE (lamCxP X (p :: P) A outer s H E scope f c') body (tb E))
    (hN : Ng[i]? = some a) (hv : Vis sg a) (hNb : Ng[j]? = some b) (hvb : Vis sg b) (hd : (a == ("__debug__" : Str)) = false := by decide) (hcd : (a == ("__classdict__" : Str)) = false := by decide) (hdb : (b == ("__debug__" : Str)) = false := by decide) (hcb : (b == ("__classdict__" : Str)) = false := by decide) :
    PE ((cxOf CXg X.prog X.w X.K X.mg X.base Ng qg sg g cdg A2 outer2 s3 H3 Eg).tr pn xe) (.Call (.Name a p1) [.Name b p3] [] p2)
      (fun σZ HZ Q => σZ[i]? = some (some (.ref f)) ∧ HZ c' = some (CodeO c' (X.env.qual ++ "<lambda>")) ∧ ∃ v, σZ[j]? = some (some v) ∧ ∃ E : XK, (∀ cls d H', E cls d H' → W cls d σZ H') ∧ tb E (slP σ v P.length) HZ Q) := by
  refine ⟨fun pinsZ sZ σZ HZ Q IZ h => ?_⟩
  obtain ⟨hs, hc, v, hj, E, hW, ht⟩ := h
  refine wpAny_Call_Name_kw (thn ((pe_var (pos := p1) (i := i) hN hv hd hcd).run pinsZ sZ σZ HZ (fun v H1 => v = .ref f ∧ H1 = HZ) IZ ⟨.ref f, hs, rfl, rfl⟩) fun u0 s0 hh => ?_)
  obtain ⟨v0, H0, I0, r0, ev0, eH0⟩ := hh
  subst ev0
  rw [eH0] at I0
  obtain rfl : u0 = Value.ref f := r0
  obtain ⟨doc, pm, ctv, hf, _, hb0⟩ := M.ex
  have fn : ∀ {s' : Shared}, Inv ((cxOf CXg X.prog X.w X.K X.mg X.base Ng qg sg g cdg A2 outer2 s3 H3 Eg).tr pn xe) pinsZ σZ HZ s' → s'.heap.get? f = some (lamO X params body scope .none doc pm c' ctv) := fun I' => (I'.hok f _ ((un3 _ _ I'.base).frzs f _ _ hf)).1
  refine PySem.W.callWith_F ⟨_, _, _, _, fn I0⟩ (Calls.spliced_cons (thn ((pe_var (pos := p3) (i := j) hNb hvb hdb hcb).run pinsZ _ σZ HZ (fun w H1 => w = v ∧ H1 = HZ) I0 ⟨v, hj, rfl, rfl⟩) fun u s1 hh => ?_))
  obtain ⟨w, H1, I1, r1, ew, eH⟩ := hh
  subst ew
  rw [eH] at I1
  refine Calls.spliced_nil ⟨⟨_, _, _, _, fn I1⟩, ?_⟩
  have un : Un (frs X.stack) [] H HZ s.heap s1.heap := un3 _ _ I1.base
  have of1 := fn I1
  obtain ⟨⟨oc, vs, t, hoc, hdc, hvc⟩, _, _⟩ := I1.hok c' _ hc
  have rc : codeAny (model X.prog X.w) (A2.deeper (envOfC qg sg s3.heap.objs.size g cdg)) (.call (.ref f) ⟨[u], []⟩) (CR (L2.CX X.prog X.w) (envOfC qg sg s3.heap.objs.size g cdg :: outer2) X.prog X.w HZ s1 Q E) s1 := by
    refine PySem.W.kla_callFunE hr.depth of1 rfl L.co L.gen rfl ⟨c', oc, vs, t, rfl, hoc, hdc, hvc⟩ (BindsTo.of_eq (hb0 u) _ _ _ _ ?_)
    refine wpAny_newFunctionEnv (fun y hy => (L.own y hy).1) (fun y hy => ?_) (fun h1 hns hsb => ⟨I1.nolimit.fresh _ hsb, ?_⟩) L.kind
    · rw [List.mem_singleton] at hy
      subst hy
      exact hP _ List.mem_cons_self
    show codeAny _ _ (.expr body (lamEnv X scope s1.heap.objs.size f c')) _ _
    have kp : ∀ b o, s1.heap.get? b = some o → h1.get? b = some o := fun b o e => hsb.extBut b o (Nat.ne_of_lt (Heap.lt_size e)) (Heap.get?_push_of_some _ e)
    have J : Inv (lamCxP X (p :: P) (A2.deeper (envOfC qg sg s3.heap.objs.size g cdg)) (envOfC qg sg s3.heap.objs.size g cdg :: outer2) s1 HZ E scope f c') [] (slP σ w P.length) HZ { s1 with heap := h1, toks := s1.toks + [(p, u)].length } :=
      lamP_start hP r1 I L I1.env0 hr.hd un hns kp
    refine PySem.W.kla_codeExpr (wpAny_mono ((hbody (A2.deeper (envOfC qg sg s3.heap.objs.size g cdg)) _ s1 HZ E rfl (hr.deeper _)).run [] _ _ HZ Q J ht) (fun v s' hq => ?_) fun e s' hq => hq)
    obtain ⟨w', H', J', rv, q⟩ := hq
    exact ⟨w', H', J'.os, J'.bare, J'.base, J'.hok, rv, q⟩
  refine wpAny_call (codeAny_mono rc fun r s' hq => ?_)
  match r, hq with
  | .error e, hq => exact tk e s' (XE.of_call I1 hW hq)
  | .ok (.ret u), hq => exact I1.after hq
  | .ok .next, hq => exact hq.elim
  | .ok .brk, hq => exact hq.elim
  | .ok .cont, hq => exact hq.elim
end
/-! ### x(e, lambda p: body), where x is: with manager as one: return action(one) -/
def eU (spx : Sp) (a : Addr) (σ : L2.St) (W : WX) : XK := fun cls d H => ∃ kv, RelV kv cls ∧ ∀ ev tv : V, spx [.ref a, kv, ev, tv] H (fun v H' => v = .non ∧ W cls d σ H') E0
def tUnder (T : List (Addr × Str)) (C : Addr) (spe spx : Sp) (q : Str) (n : Nat) (W : WX) (te0 : TE) (t : XK → TE) : TE := fun σ H Q => te0 σ H fun x H1 => Tabs T H1 ∧ ∀ c' H2, ExtN H1 H2 → Tabs T H2 → H2 c' = some (CodeO c' q) →
  ∃ a dx fs, x = .ref a ∧ H2 a = some (.ins C dx fs) ∧ spe [.ref a] H2 (fun v H3 => H3 c' = some (CodeO c' q) ∧ t (eU spx a σ W) (slP σ v n) H3 fun r H4 => spx [.ref a, .non, .non, .non] H4 (fun _ H5 => Q r H5) E0) E0
/-- the def's own text -/
def WithDef (st : Stmt) : Prop := ∃ q1 q2 q3 q4 q5 q6 q7, defBody st = [.With [⟨.Name "manager" q1, some (.Name "one" q2)⟩] [.Return (some (.Call (.Name "action" q3) [.Name "one" q4] [] q5)) q6] q7]
def nsU : List Str := ["manager", "action", "one"]
section
variable {X : Cx}
theorem pe_under {T : List (Addr × Str)} {x p : Str} {P : List Str} {g : Addr} {k : Nat} {st : Stmt} {fd : FuncData} {params : Arguments} {body : Expr} {scope : Scope} {t : XK → TE} {te0 : TE} {e0 : Expr} {q pos lpos : Pos} {C fe fx : Addr} {fde fdx : FuncData} {spe spx : Sp} {W : WX}
    (hg : Gl X x) (hm : X.mg x = some (.ref g)) (hk : PySem.W.keepIn X.K (.ref g) = true) (F : Fun X.K x x st g fd) (hb : L2.Binds X.K fd ["manager", "action"] []) (Sg : FnScope nsU ["manager", "action"] (defScope st)) (hst : WithDef st) (hlo : (defScope st).names.lookup (Str.ofString "one") = some NameKind.local) (hl0 : Vis (defScope st) "manager") (hl1 : Vis (defScope st) "action")
    (Fe : FnOk X.prog X.w X.K X.mg X.base CX0 (k + 2) fe fde ["self"] spe) (be : L2.Binds X.K fde ["self"] []) (Fx : FnOk X.prog X.w X.K X.mg X.base CX0 (k + 2) fx fdx psX spx) (FxM : FnM false X.prog X.w X.K X.mg X.base (k + 2) fx fdx psX spx) (bx : L2.Binds X.K fdx psX [])
    (hE : PySem.W.findIn X.K (.ref C) "__enter__" = some (some (.ref fe))) (hEf : PySem.W.isFn X.K (.ref fe) = true) (hX : PySem.W.findIn X.K (.ref C) "__exit__" = some (some (.ref fx))) (hXf : PySem.W.isFn X.K (.ref fx) = true)
    (hmo : ∀ vs H (Q Q' : VK) E, (∀ v H', Q v H' → Q' v H') → spe vs H Q E → spe vs H Q' E) (tk : Takes X W) (h0 : PE X e0 te0) (hlam : PE X (.Lambda params body scope lpos) (tLamE T (LamAt1 X params body scope p))) (hr : Room (k + 3) X.A) (L : LamD X.N X.env.scope scope) (hP : ∀ x ∈ p :: P, scope.names.lookup x = some .local)
    (hbody : ∀ (A : Around) (outer : List Env) (s : Shared) (H : Hp) (E : XK) (f c' : Addr), (A.deeper (lamEnv X scope s.heap.objs.size f c')).guards = X.A.guards → Room k (A.deeper (lamEnv X scope s.heap.objs.size f c')) → PE (lamCxP X (p :: P) A outer s H E scope f c') body (t E))
    (hdb : (x == ("__debug__" : Str)) = false := by decide) (he : starEach (e0 :: [.Lambda params body scope lpos]) X.env = (false, eval e0 X.env) :: starEach [.Lambda params body scope lpos] X.env := by rfl) (hpl : (backTo pos (starEach [.Lambda params body scope lpos] X.env)).any (·.1) = false := by rfl) :
    PE X (.Call (.Name x q) [e0, .Lambda params body scope lpos] [] pos) (tUnder T C spe spx (X.env.qual ++ "<lambda>") P.length W te0 t) := by
  refine ⟨fun pins s σ H Q I h => ?_⟩
  obtain ⟨oc, od, kV, doc0, pm0, an, cdv, ct, osl, rfl, lk, hcg⟩ := F.ex
  refine wpAny_Call_Name_kw (ld_glob I hg hm ?_ hdb)
  refine PySem.W.callWith_K (h₀ := X.base) I.ok.mod.kin hk ?_ he hpl
  rw [he]
  show wpAny _ _ (spliced ((false, eval e0 X.env) :: backTo pos (starEach [.Lambda params body scope lpos] X.env))) _ _ s
  refine Calls.spliced_cons (thn (h0.run pins s σ H _ I h) fun u0 s1 hh => ?_)
  obtain ⟨v0, H1, I1, r0, hT, h1⟩ := hh
  show wpAny _ _ (spliced ((false, eval (.Lambda params body scope lpos) X.env) :: backTo pos (starEach [] X.env))) _ _ s1
  refine Calls.spliced_cons (thn (hlam.run pins s1 σ H1 (fun v H2 => ∃ f c', v = .ref f ∧ ExtN H1 H2 ∧ Tabs T H2 ∧ LamAt1 X params body scope p H2 f c') I1 ⟨hT, fun f c' H2 e t m => ⟨f, c', rfl, e, t, m⟩⟩) fun u1 s2 hh => ?_)
  obtain ⟨v1, H2, I2, r1, f, c', ev1, e2, t2, M⟩ := hh
  subst ev1
  obtain rfl : u1 = Value.ref f := r1
  refine Calls.spliced_nil ⟨I2.kIn, ?_⟩
  obtain ⟨a, dx, fs, ev0, ea, hq0⟩ := h1 c' H2 e2 t2 M.code
  subst ev0
  obtain rfl : u0 = Value.ref a := r0
  obtain ⟨q1, q2, q3, q4, q5, q6, q7, hbd⟩ := hst
  have rc : codeAny (model X.prog X.w) X.A (.call (.ref g) ⟨[.ref a, .ref f], []⟩) (CR (L2.CX X.prog X.w) X.stack X.prog X.w H2 s2 Q (fun cls d H' => W cls d σ H')) s2 := by
    refine run_ofS (N := nsU) (ps := ["manager", "action"]) (us := [.ref a, .ref f]) (vs := [.ref a, .ref f]) lk hcg Sg hr I2.env0 (hb s2 [.ref a, .ref f] I2.kIn rfl) (.cons rfl (.cons rfl .nil)) rfl fun hr' => ?_
    rw [hbd]
    refine ⟨_, pss_one (ps_with (C := C) (i := 2) (k := k + 2) (tc := tVar 0) (Wout := fun cls d _ H' => W cls d σ H') (te := fun W' => fun σZ HZ Q => σZ[1]? = some (some (.ref f)) ∧ HZ c' = some (CodeO c' (X.env.qual ++ "<lambda>")) ∧ ∃ v, σZ[2]? = some (some v) ∧ ∃ E : XK, (∀ cls d H', E cls d H' → W' cls d σZ H') ∧ t E (slP σ v P.length) HZ Q)
      rfl rfl rfl (takes_of rfl rfl rfl rfl) (fun pn xe => pg_name (i := 2) (by show nsU.Nodup; decide) rfl (.inl hlo) (.inr hlo)) (pe_var (i := 0) rfl hl0) Fe be Fx FxM bx hr' hE hEf hX hXf (fun W' pn xe tk' _ => ?_)), ?_⟩
    · exact pe_act1 (CXg := L2.CX X.prog X.w) (Ng := nsU) (qg := x) (sg := defScope st) (g := g) (k := k) (i := 1) (j := 2) (tb := t) (A2 := X.A) (outer2 := X.stack) (s3 := s2) (H3 := H2) I2 L hP M (fun _ _ u => u) tk' (hr'.mono (by omega)) (fun A outer s H E hg2 hr2 => hbody A outer s H E f c' hg2 hr2) rfl hl1 rfl (.inl hlo)
    · refine ⟨_, rfl, a, dx, fs, rfl, ea, ?_⟩
      refine hmo _ _ _ _ _ (fun v H3 z => ?_) hq0
      exact ⟨rfl, z.1, v, rfl, eU spx a σ W, fun _ _ _ q => q, z.2⟩
  refine wpAny_call (codeAny_mono rc fun r s' hq => ?_)
  match r, hq with
  | .error e, hq => exact tk e s' (XE.of_call I2 (fun _ _ _ z => z) hq)
  | .ok (.ret u), hq => exact I2.after hq
  | .ok .next, hq => exact hq.elim
  | .ok .brk, hq => exact hq.elim
  | .ok .cont, hq => exact hq.elim
end
end Wn
/-! instances of an own class: == by its own def, isinstance of its own class -/
namespace Wn
open PySem PySem.Spec PyProof.Rows L2
section
variable {X : Cx} {k : Nat} {C g : Addr} {fd : FuncData} {ps : List Str} {sp : Sp}
/-- x == y, both of the class -/
def rEqO (C : Addr) (sp : Sp) : R2 := fun x y H Q => ∃ a dx fs b dy gs, x = .ref a ∧ y = .ref b ∧ H a = some (.ins C dx fs) ∧ H b = some (.ins C dy gs) ∧ sp [.ref a, .ref b] H (fun v H' => ∃ b : Bool, v = .bl b ∧ Q (.bl b) H') E0
theorem op_eqO (hs : PySem.W.findIn X.K (.ref C) "__eq__" = some (some (.ref g))) (hf : PySem.W.isFn X.K (.ref g) = true) (F : FnOk X.prog X.w X.K X.mg X.base CX0 k g fd ps sp) (hr : Room k X.A) (hb : Binds X.K fd ps []) : OpR X (compareOp .Eq) (rEqO C sp) := by
  intro pins s σ H x y v u Q I rx ry h
  obtain ⟨a, dx, fs, b, dy, gs, rfl, rfl, ea, eb, h⟩ := h
  obtain rfl : v = Value.ref a := rx
  obtain rfl : u = Value.ref b := ry
  obtain ⟨mA, O, _⟩ := ins_get I.hok ea
  obtain ⟨od, J, _⟩ := O.look
  obtain ⟨mB, O', _⟩ := ins_get I.hok eb
  obtain ⟨od', J', _⟩ := O'.look
  obtain ⟨m, fr⟩ := I.fr
  show wpAny (model X.prog X.w) X.A (richCompare .Eq (.ref a) (.ref b)) _ _ s
  refine PySem.W.cmp_K (op := .Eq) (tb := .ref C) hr.units0 fr I.ok.mod.kin J J'.type (by simp [PySem.W.notFirst]) hs hf ?_
  refine run_at (vs := [.ref a, .ref b]) F hr hb I I.env0 (.cons rfl (.cons rfl .nil)) h fun u v H' s' I3 rv q => ?_
  obtain ⟨b, rfl, q⟩ := q
  exact SlX.cmpback rv ⟨.bl b, H', I3, rv, q⟩
/-- isinstance(o, C) -/
def rIsO (C : Addr) : List V → Hp → VK → Prop := fun xs H Q => ∃ a dx fs, xs = [.ref a, .ref C] ∧ H a = some (.ins C dx fs) ∧ Q (.bl true) H
theorem call_isO (c : Cls X.K C) (hi : SlX.SIsi X.K C) : CallR X (.builtin "isinstance") (rIsO C) := by
  intro pins s σ H xs us Q I r h
  obtain ⟨a, dx, fs, rfl, ea, q⟩ := h
  exact call_isi pins s σ H _ us Q I r ⟨.ref a, .ref C, .ref C, .ref C, true, rfl, .own C, .base (.ins ea c hi.ca hi.cn hi.ct hi.cm), by unfold PySem.W.kitOne; rw [if_pos (beq_self_eq_true _)], q⟩
end
end Wn
/-! instances of an own class: != by its own ==, == with whatever; reads where an exception is handled -/
namespace Wn
open PySem PySem.Spec PyProof.Rows L2 LamX L2H
section
variable {prog : Program} {w : World} {A : Around} {E : Value → Shared → Prop} {K : PySem.W.Frag} {C x f : Addr} {ox : Obj} {od : Option Obj} {s : Shared} {b : Value}
theorem ne_call (X : K.In s.heap) (I : PySem.W.InstAt s.heap x ox C od) (ho : PySem.W.mroIn K C (.type "object") = some true) (hs : PySem.W.findIn K (.ref C) "__eq__" = some (some (.ref f))) (hf : PySem.W.isFn K (.ref f) = true) (hu : A.units + 1 < cLine) {Q : Value → Shared → Prop}
    (h : wpAny (model prog w) A.in1 (call (.ref f) [.ref x, b]) (fun v s' => ∃ r, v = .bool r ∧ Q (.bool (!r)) s') E s) : wpAny (model prog w) A (call (.builtin "object.__ne__") [.ref x, b]) Q E s := by
  refine wpAny_call (codeAny_call_builtin PySem.F.cmp_object.ne.plain PySem.F.cmpEntry_ne ?_)
  have LI : PySem.W.Looks (model prog w) s.heap (isInstance (.ref x) (.type "object")) true := I.type.andThen (PySem.W.looks_mroIn X ho)
  have ha := PySem.F.cmpArgs_ne (.ref x) b
  simp only [checkBuiltinCall, PySem.F.cmpKind_ne, PySem.F.cmpSplit_ne]
  refine wpAny_bind (LI.here ?_)
  simp only [Bool.not_true, Bool.false_eq_true, if_false]
  have fin : wpAny (model prog w) A.in1 (Builtin.«object.__ne__» ⟨[.ref x, b], []⟩) (fun fin s' => match fin with
      | .done f => (match (Except.ok f : Result) with
        | .ok (.ret v) => Q v s'
        | .ok _ => False
        | .error e => E e s')
      | .again c' => c'.quiet = true ∧ codeAny (model prog w) A c' (fun r s' => match r with
        | .ok (.ret v) => Q v s'
        | .ok _ => False
        | .error e => E e s') s') (fun e s' => E e s') s := by
    unfold Builtin.«object.__ne__»
    refine wpAny_bind (m := slotArgs "__ne__" 1 ⟨[.ref x, b], []⟩) (wpAny_of_eq (a := (Value.ref x, [b])) (by first | rfl | kernel_rfl) ?_)
    dsimp only
    refine wpAny_bind (wpAny_cRoomFor (show A.units + 1 < cLine from hu) ?_)
    refine wpAny_bind (PySem.W.ifBound_K X I hs hf (wpAny_mono h (fun v s' hv => ?_) fun _ _ z => z))
    obtain ⟨r, rfl, q⟩ := hv
    dsimp only
    refine wpAny_bind (wpAny_truthy_bool ?_)
    exact wpAny_pure q
  cases hsig : Manifest.signature? "object.__ne__" with
  | none => exact wpAny_pure fin
  | some sig =>
    simp only [argsOk, hsig] at ha
    dsimp only
    rw [show Bind.checkArgs "object.__ne__" sig ⟨[.ref x, b], []⟩ = pure () from ha]
    exact wpAny_pure fin
/-- x != b, by the class's own == -/
theorem ne_K {h₀ : Heap} {L : Addr} {m : Str → Option Value} {tb : Value} (F : Fr h₀ L s.heap m) (X₀ : K.In h₀) (I : PySem.W.InstAt s.heap x ox C od) (ho : PySem.W.mroIn K C (.type "object") = some true) (hne : PySem.W.findIn K (.ref C) "__ne__" = some (some (.builtin "object.__ne__")))
    (hs : PySem.W.findIn K (.ref C) "__eq__" = some (some (.ref f))) (hf : PySem.W.isFn K (.ref f) = true) (hb : PySem.W.Looks (model prog w) s.heap (typeOf b) tb) (hn : tb = .ref C) (hu : A.units + 1 < cLine) {Q : Value → Shared → Prop}
    (h : wpAny (model prog w) A.in1 (call (.ref f) [.ref x, b]) (fun v s' => ∃ r, v = .bool r ∧ Q (.bool (!r)) s') E s) : wpAny (model prog w) A (richCompare .NotEq (.ref x) b) Q E s := by
  have X := X₀.keeps F.keep
  have one : wpAny (model prog w) A (tryCompare (.ref x) "__ne__" b) (fun r s' => ∃ v, r = some v ∧ Q v s') E s := by
    unfold tryCompare
    simp only [callSpecialIfBound?, bindSpecialIfBound?]
    refine wpAny_bind (wpAny_holding (wpAny_bind (wpAny_bind (wpAny_bind (I.type.here ((PySem.W.looks_findIn X hne).here ?_))))))
    simp only [PySem.F.cmp_object.ne.bind]
    refine wpAny_bind (wpAny_askSetting (wpAny_ite ?_))
    have fin : wpAny (model prog w) A (call (.builtin "object.__ne__") ([.ref x] ++ [b]) >>= fun v => pure (some v)) (fun r s' => wpAny (model prog w) A (match r with
        | some .notImplemented => pure none
        | none => pure none
        | some v => pure (some v)) (fun r s' => ∃ v, r = some v ∧ Q v s') E s') E s :=
      wpAny_bind (wpAny_mono (ne_call (Q := fun v s' => ∃ r, v = Value.bool r ∧ Q v s') X I ho hs hf hu (wpAny_mono h (fun v s' ⟨r, e, q⟩ => ⟨r, e, _, rfl, q⟩) fun _ _ z => z)) (fun v s' hv => by
        obtain ⟨r, rfl, q⟩ := hv
        exact wpAny_pure (wpAny_pure ⟨_, rfl, q⟩)) fun _ _ z => z)
    split
    · exact wpAny_bind (wpAny_pure (wpAny_pure fin))
    · exact wpAny_tryCatch (wpAny_bind (wpAny_pure (wpAny_pure fin)))
  unfold richCompare
  simp only [oneThing_ref]
  refine wpAny_holding (wpAny_bind (wpAny_cRoomFor (Nat.lt_of_succ_lt hu) ?_))
  refine wpAny_bind (I.type.here (wpAny_bind (hb.here ?_)))
  rw [hn, if_neg (by simp)]
  refine wpAny_bind (wpAny_pure ?_)
  simp only [Bool.false_eq_true, if_false]
  refine wpAny_bind (wpAny_mono one (fun r s' z => ?_) fun _ _ z => z)
  obtain ⟨v, rfl, q⟩ := z
  exact wpAny_pure q
end
section
variable {X : Cx} {k : Nat} {C g : Addr} {fd : FuncData} {ps : List Str} {sp : Sp}
/-- x != y, both of the class -/
def rNeO (C : Addr) (sp : Sp) : R2 := fun x y H Q => ∃ a dx fs b dy gs, x = .ref a ∧ y = .ref b ∧ H a = some (.ins C dx fs) ∧ H b = some (.ins C dy gs) ∧ sp [.ref a, .ref b] H (fun v H' => ∃ b : Bool, v = .bl b ∧ Q (.bl (!b)) H') E0
theorem op_neO (hi : SlX.SIsi X.K C) (hne : PySem.W.findIn X.K (.ref C) "__ne__" = some (some (.builtin "object.__ne__"))) (hs : PySem.W.findIn X.K (.ref C) "__eq__" = some (some (.ref g))) (hf : PySem.W.isFn X.K (.ref g) = true) (F : FnOk X.prog X.w X.K X.mg X.base CX0 k g fd ps sp) (hr : Room (k + 1) X.A) (hb : L2.Binds X.K fd ps []) : OpR X (compareOp .NotEq) (rNeO C sp) := by
  intro pins s σ H x y v u Q I rx ry h
  obtain ⟨a, dx, fs, b, dy, gs, rfl, rfl, ea, eb, h⟩ := h
  obtain rfl : v = Value.ref a := rx
  obtain rfl : u = Value.ref b := ry
  obtain ⟨mA, O, _⟩ := ins_get I.hok ea
  obtain ⟨od, J, _⟩ := O.look
  obtain ⟨mB, O', _⟩ := ins_get I.hok eb
  obtain ⟨od', J', _⟩ := O'.look
  obtain ⟨m, fr⟩ := I.fr
  show wpAny (model X.prog X.w) X.A (richCompare .NotEq (.ref a) (.ref b)) _ _ s
  refine ne_K fr I.ok.mod.kin J hi.cm hne hs hf J'.type rfl (by have := hr.un; omega) ?_
  refine run_at (vs := [.ref a, .ref b]) F hr.in1 hb I I.env0.in1 (.cons rfl (.cons rfl .nil)) h fun u v H' s' I3 rv q => ?_
  obtain ⟨r, rfl, q⟩ := q
  obtain rfl : u = Value.bool r := rv
  exact ⟨r, rfl, .bl (!r), H', I3, rfl, q⟩
/-- x == y, whatever y is -/
def rEqY (K : PySem.W.Frag) (C : Addr) (sp : Sp) : R2 := fun x y H Q => ∃ a dx fs t, x = .ref a ∧ H a = some (.ins C dx fs) ∧ TyX K H y t ∧ PySem.W.notFirst K C t = true ∧ sp [.ref a, y] H (fun v H' => ∃ b : Bool, v = .bl b ∧ Q (.bl b) H') E0
theorem op_eqY (hs : PySem.W.findIn X.K (.ref C) "__eq__" = some (some (.ref g))) (hf : PySem.W.isFn X.K (.ref g) = true) (F : FnOk X.prog X.w X.K X.mg X.base CX0 k g fd ps sp) (hr : Room k X.A) (hb : L2.Binds X.K fd ps []) : OpR X (compareOp .Eq) (rEqY X.K C sp) := by
  intro pins s σ H x y v u Q I rx ry h
  obtain ⟨a, dx, fs, t, rfl, ea, ty, nf, h⟩ := h
  obtain rfl : v = Value.ref a := rx
  obtain ⟨mA, O, _⟩ := ins_get I.hok ea
  obtain ⟨od, J, _⟩ := O.look
  obtain ⟨m, fr⟩ := I.fr
  have lt : PySem.W.Looks (model X.prog X.w) s.heap (typeOf u) t := by
    obtain ⟨P, Z, p, _⟩ := kit_of I ry ty
    exact Z.ty _ _ I.kIn p
  show wpAny (model X.prog X.w) X.A (richCompare .Eq (.ref a) u) _ _ s
  refine PySem.W.cmp_K (op := .Eq) (tb := t) hr.units0 fr I.ok.mod.kin J lt nf hs hf ?_
  refine run_at (vs := [.ref a, y]) F hr hb I I.env0 (.cons rfl (.cons ry .nil)) h fun u v H' s' I3 rv q => ?_
  obtain ⟨b, rfl, q⟩ := q
  exact SlX.cmpback rv ⟨.bl b, H', I3, rv, q⟩
end
/-! ### where an exception is handled -/
theorem RoomH.in1 {k : Nat} {A : Around} (r : RoomH (k + 1) A) : RoomH k A.in1 := ⟨by have := r.dp; show A.depth + 3 * k + 5 < _; omega, by have := r.un; show A.units + 1 + 16 * k + 200 < _; omega⟩
theorem gu_ofH {A : Around} {k : Nat} (r : RoomH k A) : A.units + 200 < cLine := by
  have := r.un
  omega
section
variable {gd : Bool} {X : Cx} {k : Nat} {C p g : Addr} {fd : FuncData} {ps : List Str} {sp : Sp} {x f : Str} {e : Expr} {es : List Expr} {ta : TE} {t : TA} {q pos : Pos}
theorem run_atM {pins : List (Addr × Obj)} {σ : L2.St} {H : Hp} {s : Shared} {A : Around} {Q : VK} {R : Value → Shared → Prop} {E' : Value → Shared → Prop} {us : List Value} {vs : List V} (F : FnM gd X.prog X.w X.K X.mg X.base k g fd ps sp) (hgd : gd = true → A.guards = some []) (hr : RoomH k A) (hb : L2.Binds X.K fd ps []) (I : Inv X pins σ H s)
    (e0 : Env0 X.prog X.w X.K X.mg X.base A X.stack s H) (r : Vals vs us) (h : sp vs H Q E0) (q : ∀ u v H' s', Inv X pins σ H' s' → RelV v u → Q v H' → R u s') : wpAny (model X.prog X.w) A (call (.ref g) us) R E' s := by
  have hl : us.length = ps.length := by rw [← r.length]; exact F.len _ _ _ _ h
  have b := hb s us I.kIn (by rw [List.append_nil]; exact hl)
  rw [List.append_nil] at b
  refine wpAny_call (codeAny_mono (F.run A X.stack s H ⟨us, []⟩ us vs Q hgd hr e0 b r h) fun z s' hq => ?_)
  match z, hq with
  | .error e, hq => exact (show False from hq).elim
  | .ok (.ret u), hq =>
    obtain ⟨v, H', I3, rv, q3⟩ := I.after hq
    exact q u v H' s' I3 rv q3
  | .ok .next, hq => exact hq.elim
  | .ok .brk, hq => exact hq.elim
  | .ok .cont, hq => exact hq.elim
/-- f(e, ..) there -/
theorem pe_callM (F : FnM gd X.prog X.w X.K X.mg X.base k g fd ps sp) (hgd : gd = true → X.A.guards = some []) (hr : RoomH k X.A) (hg : Gl X x) (hm : X.mg x = some (.ref g)) (hk : PySem.W.keepIn X.K (.ref g) = true) (hb : L2.Binds X.K fd ps []) (ha : PA X (e :: es) t)
    (hdb : (x == ("__debug__" : Str)) = false := by decide) (he : starEach (e :: es) X.env = (false, eval e X.env) :: starEach es X.env := by rfl) (hpl : (backTo pos (starEach es X.env)).any (·.1) = false := by rfl) : PE X (.Call (.Name x q) (e :: es) [] pos) (tCall sp [] E0 t) :=
  ⟨fun pins s σ H Q I h => wpAny_Call_Name_kw (ld_glob I hg hm (PySem.W.callWith_K (h₀ := X.base) I.ok.mod.kin hk (thn (ha.run pos pins s σ H _ I h) fun us s1 ⟨vs, H1, I1, r, q⟩ => ⟨I1.kIn, run_atM (vs := vs) F hgd hr hb I1 I1.env0 r (by dsimp only at q; rw [List.append_nil] at q; exact q) fun u v H' s' I3 rv q3 => ⟨v, H', I3, rv, q3⟩⟩) he hpl) hdb)⟩
/-- e.f there, a property -/
theorem pe_propM (he : PE X e ta) (c : Cls X.K C) (hp : PropOf X.K C f p g) (F : FnM gd X.prog X.w X.K X.mg X.base k g fd ps sp) (hgd : gd = true → X.A.guards = some []) (hr : RoomH (k + 1) X.A) (hb : L2.Binds X.K fd ps []) (hab : attributeBase e f X.env (eval e X.env) = eval e X.env) : PE X (.Attribute e f pos) (tProp C sp [] E0 ta) := by
  refine ⟨fun pins s σ H Q I h => attr_of hab (thn (he.run pins s σ H _ I h) fun u s1 hh => ?_)⟩
  obtain ⟨y, H1, I1, ry, a, dx, fs, rfl, ea, q⟩ := hh
  obtain rfl : u = Value.ref a := ry
  obtain ⟨mA, O, _⟩ := ins_get I1.hok ea
  obtain ⟨od, J, _⟩ := O.look
  obtain ⟨rest, hrec⟩ := hp.rec_
  have hc : (PySem.W.clsIn X.K C).isSome = true := by
    obtain ⟨cd, hc, _⟩ := PySem.W.any_some c.hd
    rw [hc]
    rfl
  have I2 := I1.tok (s1.toks + 1)
  have b := hb { s1 with toks := s1.toks + 1 } [.ref a] I2.kIn (F.len _ _ _ _ q)
  rw [List.append_nil] at b
  refine PySem.W.get_bind I1.kIn J (PySem.W.plainGet_of (c.get f)).1 (PySem.W.findObj_data hc hp.at_ hp.get hp.tak) (PySem.W.plainGet_of (c.get f)).2 (wpAny_call (PySem.W.prop_get (s := { s1 with toks := s1.toks + 1 }) I1.kIn hrec ?_))
  refine codeAny_mono (F.run X.A.in1 X.stack { s1 with toks := s1.toks + 1 } H1 ⟨[.ref a], []⟩ [.ref a] [.ref a] Q hgd (RoomH.in1 hr) I2.env0.in1 b (.cons rfl .nil) q) fun z s' hq => ?_
  match z, hq with
  | .error e, hq => exact (show False from hq).elim
  | .ok (.ret u), hq =>
    obtain ⟨v, H', I3, rv, q3⟩ := I2.after hq
    show wpAny _ _ (handedOut u) _ _ _
    rw [PySem.W.handedOut_of (handed_of rv)]
    exact wpAny_pure ⟨v, H', I3, rv, q3⟩
  | .ok .next, hq => exact hq.elim
  | .ok .brk, hq => exact hq.elim
  | .ok .cont, hq => exact hq.elim
/-- len(o) there -/
theorem call_lenM (hs : PySem.W.findIn X.K (.ref C) "__len__" = some (some (.ref g))) (hf : PySem.W.isFn X.K (.ref g) = true) (F : FnM gd X.prog X.w X.K X.mg X.base k g fd ps sp) (hgd : gd = true → X.A.guards = some []) (hr : RoomH (k + 1) X.A) (hb : L2.Binds X.K fd ps []) : CallR X (.builtin "len") (rLenO C sp) := by
  intro pins s σ H xs us Q I r h
  obtain ⟨a, dx, fs, rfl, ea, h⟩ := h
  obtain ⟨u, rfl, rx⟩ := vals1 r
  obtain rfl : u = Value.ref a := rx
  obtain ⟨mA, O, _⟩ := ins_get I.hok ea
  obtain ⟨od, J, _⟩ := O.look
  obtain ⟨m, fr⟩ := I.fr
  refine PySem.W.len_K fr I.ok.mod.kin J hs hf (run_atM (vs := [.ref a]) F hgd (RoomH.in1 hr) hb I I.env0.in1 (.cons rfl .nil) h fun u v H' s' I3 rv q => ?_)
  obtain ⟨n, rfl, hn, q⟩ := q
  obtain ⟨t, rfl⟩ := rv
  exact ⟨⟨by omega, by omega⟩, .int (n : Nat), H', I3.tok _, ⟨_, rfl⟩, q⟩
end
/-- x is not y, two of True and False -/
def rNotB : R2 := fun x y H Q => ∃ a b, x = .bl a ∧ y = .bl b ∧ Q (.bl (!decide (a = b))) H
theorem op_notB {X : Cx} : OpR X (compareOp .IsNot) rNotB := by
  intro pins s σ H x y v u Q I rx ry h
  obtain ⟨a, b, rfl, rfl, q⟩ := h
  obtain rfl : v = Value.bool a := rx
  obtain rfl : u = Value.bool b := ry
  by_cases e : a = b
  · subst e
    exact wpAny_isNot_self rfl ⟨.bl false, H, I, rfl, by simpa using q⟩
  · exact wpAny_isNot_other rfl (fun z => e (Value.bool.inj z)) ⟨.bl true, H, I, rfl, by simpa [e] using q⟩
end Wn
/-! a lambda whose one parameter is a cell: a comprehension in its body reads it -/
namespace Wn
open PySem PySem.Spec PyProof.Rows L2 LamX L2H
/-- the lambda's names: its parameter is the only cell of its own, nothing else is its own -/
structure LamC (N : List Str) (sc scope : Scope) (p : Str) : Prop where
  kind : scope.kind = .function
  co : scope.isCoroutine = false
  gen : scope.isGenerator = false
  own : ∀ y ∈ scope.names, (y.2 = .cell → y.1 = p) ∧ y.2 ≠ .local
  free : ∀ y ∈ scope.names, y.2 = .free → sc.names.lookup y.1 = some .cell ∨ sc.names.lookup y.1 = some .free
  new : p ∉ N
  pc : scope.names.lookup p = some .cell
  nf : ∀ y ∈ scope.names, y.2 = .free → y.1 ≠ p
  lay : ∀ n acc, cellsFrom n scope.names acc = (p, n) :: acc
  psh : ∀ h, pushCells h scope.names = h.push { cls := .type "cell", data := .cell none }
def lamCB (N : List Str) (sc scope : Scope) (p : Str) : Bool :=
  decide (scope.kind = .function) && !scope.isCoroutine && !scope.isGenerator && !decide (p ∈ N) && decide (scope.names.lookup p = some .cell) && scope.names.all fun y => (!decide (y.2 = .cell) || decide (y.1 = p)) && !decide (y.2 = .local) && (!decide (y.2 = .free) || (!decide (y.1 = p) && (decide (sc.names.lookup y.1 = some .cell) || decide (sc.names.lookup y.1 = some .free))))
theorem lamC_by {N : List Str} {sc scope : Scope} {p : Str} (h : lamCB N sc scope p = true) (lay : ∀ n acc, cellsFrom n scope.names acc = (p, n) :: acc) (psh : ∀ h, pushCells h scope.names = h.push { cls := .type "cell", data := .cell none }) : LamC N sc scope p := by
  unfold lamCB at h
  simp only [Bool.and_eq_true, Bool.or_eq_true, Bool.not_eq_true', decide_eq_true_eq, decide_eq_false_iff_not, List.all_eq_true] at h
  obtain ⟨⟨⟨⟨⟨h1, h2⟩, h3⟩, h4⟩, h5⟩, h6⟩ := h
  refine ⟨h1, h2, h3, fun y hy => ⟨fun e => ?_, (h6 y hy).1.2⟩, fun y hy e => ?_, h4, h5, fun y hy e => ?_, lay, psh⟩
  · exact (h6 y hy).1.1.elim (fun z => absurd e z) id
  · exact (h6 y hy).2.elim (fun z => absurd e z) (fun z => z.2)
  · exact (h6 y hy).2.elim (fun z => absurd e z) (fun z => z.1)
theorem LamC.has {X : Cx} {scope : Scope} {p : Str} (L : LamC X.N X.env.scope scope p) (ok : X.Ok) : ∀ y ∈ scope.names, y.2 = .free → ∃ c, X.env.cells.lookup y.1 = some c := fun y hy e =>
  (L.free y hy e).elim (fun k => ok.has _ (.inl k)) (fun k => ok.has _ (.inr k))
section
variable {M : Model} {A : Around} {E : Value → Shared → Prop} {s : Shared}
theorem wpAny_newEnvC {scope : Scope} {globals : Addr} {closure : List (Str × Addr)} {p : Str} {u : Value} {qual : Str} {func : Option Addr} {code : Value} {builtins : Addr} {Q : Env → Shared → Prop}
    (hk : scope.kind = .function) (lay : ∀ n acc, cellsFrom n scope.names acc = (p, n) :: acc) (psh : ∀ h, pushCells h scope.names = h.push { cls := .type "cell", data := .cell none }) (pc : scope.names.lookup p = some .cell)
    (hQ : ∀ h', h'.Ns s.heap.objs.size (fun _ => none) → h'.IsCell (s.heap.objs.size + 1) (some u) → (∀ b o, s.heap.get? b = some o → h'.get? b = some o) → Q (newEnv scope s.heap.objs.size globals ((p, s.heap.objs.size + 1) :: closure) qual func code none builtins) { s with heap := h' }) :
    wpAny M A (newFunctionEnv scope globals closure [(p, u)] qual func code none builtins) Q E s := by
  simp only [newFunctionEnv, Option.isSome_none, Bool.false_eq_true, if_false]
  refine wpAny_bind (wpAny_alloc ?_)
  refine wpAny_bind (wpAny_layCells _ (fun name kind cells => by cases hkc : kind == NameKind.cell <;> simp [hkc]) _ _ _ _ ?_)
  rw [lay, psh, show ({ s with heap := s.heap.push { cls := .type "frame", data := .dict #[] } } : Shared).heap.objs.size = s.heap.objs.size + 1 from Heap.size_push ..]
  rw [List.forIn_cons]
  have ic : ((s.heap.push { cls := .type "frame", data := .dict #[] }).push { cls := .type "cell", data := .cell none }).IsCell (s.heap.objs.size + 1) none := ⟨_, by rw [← Heap.size_push (h := s.heap) (o := { cls := .type "frame", data := .dict #[] })]; exact Heap.get?_push_size _ rfl, rfl⟩
  refine wpAny_bind (wpAny_bind (wpAny_bind (wpAny_storeName_cell hk pc (by simp) ic (fun h' c1 sb => wpAny_pure ?_))))
  dsimp only
  rw [List.forIn_nil]
  refine wpAny_pure (wpAny_pure ?_)
  have ne : s.heap.objs.size ≠ s.heap.objs.size + 1 := by omega
  refine hQ h' ?_ c1 fun b o e => ?_
  · exact ((Heap.Ns.new s.heap (.type "frame")).keeps (fun b o e => Heap.get?_push_of_some _ e)).sameBut sb ne
  · rw [sb.2 b (Nat.ne_of_lt (Nat.lt_succ_of_lt (Heap.lt_size e)))]
    exact Heap.get?_push_of_some _ (Heap.get?_push_of_some _ e)
end
abbrev lamEnvC (X : Cx) (p : Str) (scope : Scope) (L f c' : Addr) : Env := PySem.W.envX (X.env.qual ++ "<lambda>") scope L f (.ref c') ((p, L + 1) :: cloFrom X.env.cells scope.names [])
/-- the context of its body: N the names of the def around, then the parameter, then what comprehensions have -/
def lamCxC (X : Cx) (p : Str) (P : List Str) (A : Around) (outer : List Env) (s : Shared) (H : Hp) (E : XK) (scope : Scope) (f c' : Addr) : Cx where
  prog := X.prog
  w := X.w
  K := X.K
  mg := X.mg
  base := X.base
  A := A.deeper (lamEnvC X p scope s.heap.objs.size f c')
  N := X.N ++ p :: P
  s_0 := s
  H_0 := H
  env := lamEnvC X p scope s.heap.objs.size f c'
  outer := outer
  stack := lamEnvC X p scope s.heap.objs.size f c' :: outer
  ex := []
  fn := fun _ => false
  calm := true
  pn := []
  xe := fun e s' => wpAny (model X.prog X.w) (A.deeper (lamEnvC X p scope s.heap.objs.size f c')) (leaving (lamEnvC X p scope s.heap.objs.size f c') e) (fun _ s'' => L2.CX X.prog X.w outer H s E e s'') (fun e' s'' => L2.CX X.prog X.w outer H s E e' s'') s'
section
variable {X : Cx} {pins : List (Addr × Obj)} {σ : L2.St} {H HZ : Hp} {s s1 : Shared}
theorem lamC_start {A : Around} {outer : List Env} {E : XK} {scope : Scope} {f c' : Addr} {h1 : Heap} {p : Str} {P : List Str} {v : V} {u : Value} (rv : RelV v u) (I : Inv X pins σ H s) (L : LamC X.N X.env.scope scope p)
    (e0 : Env0 X.prog X.w X.K X.mg X.base A outer s1 HZ) (hd : A.handled = none) (un : Un (frs X.stack) [] H HZ s.heap s1.heap) (hns : h1.Ns s1.heap.objs.size fun _ => none) (hc : h1.IsCell (s1.heap.objs.size + 1) (some u)) (kp : ∀ b o, s1.heap.get? b = some o → h1.get? b = some o) :
    Inv (lamCxC X p P A outer s1 HZ E scope f c') [] (slP σ v P.length) HZ { s1 with heap := h1 } := by
  have hfree := L.has I.ok
  have len := I.len
  have up : ∀ {y c}, (cloFrom X.env.cells scope.names []).lookup y = some c → X.env.cells.lookup y = some c ∧ y ≠ p := fun {y c} e => by
    rcases cloFrom_mem (PySem.mem_of_lookup e) with z | ⟨z1, z2⟩
    · cases z
    · obtain ⟨c1, hc⟩ := hfree _ z1 rfl
      have hc : X.env.cells.lookup y = some c1 := hc
      rw [show c = c1 by rw [z2, hc] <;> rfl]
      exact ⟨hc, L.nf _ z1 rfl⟩
  have down : ∀ {y}, scope.names.lookup y = some .free → ∃ c, (cloFrom X.env.cells scope.names []).lookup y = some c := fun {y} hl => by
    have hy : (y, NameKind.free) ∈ scope.names := PySem.mem_of_lookup hl
    exact mem_lookup (cloFrom_has (cells := X.env.cells) (acc := []) hy)
  have old : ∀ {c : Addr} {v : Option Value}, H c = none → s.heap.IsCell c v → s1.heap.IsCell c v := fun {c v} n ⟨o, ho, hd⟩ => by
    obtain ⟨sl, q⟩ := un.any ho n (by simp)
    exact ⟨_, q, hd⟩
  have cellK : ∀ {c : Addr} {v : Option Value}, H c = none → s.heap.IsCell c v → h1.IsCell c v := fun {c v} n z => (old n z).keeps kp
  -- the cells: the parameter's, or one of before
  have two : ∀ {y c}, ((p, s1.heap.objs.size + 1) :: cloFrom X.env.cells scope.names []).lookup y = some c → (y = p ∧ c = s1.heap.objs.size + 1) ∨ (y ≠ p ∧ X.env.cells.lookup y = some c ∧ (cloFrom X.env.cells scope.names []).lookup y = some c ∧ c < s1.heap.objs.size) := fun {y c} e => by
    rw [List.lookup_cons] at e
    cases hb : y == p with
    | true =>
      rw [hb] at e
      cases e
      exact .inl ⟨beq_iff_eq.mp hb, rfl⟩
    | false =>
      rw [hb] at e
      obtain ⟨e1, n1⟩ := up e
      obtain ⟨w', z⟩ := I.cell y c e1
      exact .inr ⟨n1, e1, e, (old (I.freeC y c e1) z).lt⟩
  have one : ∀ {y c}, y ≠ p → (cloFrom X.env.cells scope.names []).lookup y = some c → ((p, s1.heap.objs.size + 1) :: cloFrom X.env.cells scope.names []).lookup y = some c := fun {y c} n e => by
    rw [List.lookup_cons, beq_eq_false_iff_ne.mpr n]
    exact e
  have self : ((p, s1.heap.objs.size + 1) :: cloFrom X.env.cells scope.names []).lookup p = some (s1.heap.objs.size + 1) := by
    rw [List.lookup_cons, beq_self_eq_true]
  have ex0 : ∀ b : Addr, b ∉ (lamCxC X p P A outer s1 HZ E scope f c').ex := fun b z => absurd (show b ∈ ([] : List Addr) from z) (by simp)
  refine ⟨⟨e0.mod, L.kind, rfl, rfl, Nat.le_refl _, fun y z c e1 e2 => ?_, fun y hy => ?_, fun y c z _ => ?_, fun _ => hd, Around.frames_deeper e0.frames, .inr ⟨rfl, rfl⟩, fun b z => absurd z (ex0 b), e0.bs, e0.bsz, fun b _ _ => ex0 b,
      fun b z => absurd z (ex0 b), e0.funs, e0.frf⟩,
    rfl, e0.bare, Un.kept kp, ⟨_, hns, fun i y w e1 e2 e3 => ?_⟩, fun y c e => ?_, e0.hok.fresh (Nat.le_refl _), fun y c e => ?_, fun q hq => absurd (show q ∈ ([] : List (Addr × Obj)) ++ [] from hq) (by simp), e0.hok.kept kp, ?_⟩
  · rcases two e1 with ⟨rfl, rfl⟩ | ⟨_, a1, _, l1⟩
    · rcases two e2 with ⟨z, _⟩ | ⟨_, _, _, l2⟩
      · exact z.symm
      · omega
    · rcases two e2 with ⟨_, z⟩ | ⟨_, a2, _, _⟩
      · omega
      · exact I.ok.inj y z c a1 a2
  · have hy : scope.names.lookup y = some .cell ∨ scope.names.lookup y = some .free := hy
    rcases hy with hy | hy
    · obtain rfl : y = p := (L.own _ (PySem.mem_of_lookup hy)).1 rfl
      exact ⟨_, self⟩
    · obtain ⟨c, e⟩ := down hy
      exact ⟨c, one (L.nf _ (PySem.mem_of_lookup hy) rfl) e⟩
  · have z : false = true := z
    cases z
  · have e1 : (X.N ++ p :: P)[i]? = some y := e1
    have e3 : Vis scope y := e3
    unfold slP at e2
    by_cases hi : i < X.N.length
    · rw [List.getElem?_append_left hi] at e1
      rw [List.getElem?_append_left (by omega)] at e2
      have ny : y ≠ p := fun z => L.new (by rw [← z]; exact List.mem_of_getElem? e1)
      rcases e3 with k | k | k
      · exact absurd rfl (L.own _ (PySem.mem_of_lookup k)).2
      · exact absurd ((L.own _ (PySem.mem_of_lookup k)).1 rfl) ny
      · obtain ⟨m, hn, hl⟩ := I.loc
        have hvis : Vis X.env.scope y := (L.free _ (PySem.mem_of_lookup k) rfl).elim (fun k => .inr (.inl k)) (fun k => .inr (.inr k))
        obtain ⟨w', r, q⟩ := hl i y w e1 e2 hvis
        obtain ⟨c2, h2⟩ := down k
        refine ⟨w', r, .inr ⟨.inr k, c2, one ny h2, ?_⟩⟩
        have c1 := (up h2).1
        rcases q with ⟨k', _⟩ | ⟨_, c3, e', z⟩
        · have k' : X.env.scope.names.lookup y = some .local := k'
          rcases L.free _ (PySem.mem_of_lookup k) rfl with k2 | k2 <;> rw [show X.env.scope.names.lookup y = _ from k2] at k' <;> cases k'
        · rw [c1] at e'
          cases e'
          exact cellK (I.freeC y _ c1) z
    · rw [List.getElem?_append_right (by omega)] at e1
      rw [List.getElem?_append_right (by omega), len] at e2
      cases c : i - X.N.length with
      | zero =>
        rw [c] at e1 e2
        cases e1
        cases e2
        exact ⟨u, rv, .inr ⟨.inl L.pc, _, self, hc⟩⟩
      | succ n =>
        rw [c, List.getElem?_cons_succ, List.getElem?_replicate] at e2
        split at e2 <;> cases e2
  · rcases two e with ⟨_, rfl⟩ | ⟨_, a1, _, _⟩
    · exact ⟨_, hc⟩
    · obtain ⟨w', z⟩ := I.cell y c a1
      exact ⟨w', cellK (I.freeC y c a1) z⟩
  · rcases two e with ⟨_, rfl⟩ | ⟨_, a1, _, _⟩
    · exact e0.hok.fresh (Nat.le_succ _)
    · obtain ⟨v, o, ho, hd⟩ := I.cell y c a1
      exact un.free c o ho (I.freeC y c a1) (by simp)
  · show (slP σ v P.length).length = (X.N ++ p :: P).length
    unfold slP
    rw [List.length_append, List.length_append, len, List.length_cons, List.length_cons, List.length_replicate]
/-- lambda p: e -/
theorem pe_lam1C {T : List (Addr × Str)} {c P : Addr} {params : Arguments} {body : Expr} {scope : Scope} {pos : Pos} {p : Str} (TB : TabB X.base X.mg c P) (hcode : X.env.code = .ref c) (hm : (P, X.env.qual ++ "<lambda>") ∈ T) (hu : ∀ p ∈ T, p.1 = P → p.2 = X.env.qual ++ "<lambda>")
    (hdef : defaultsOf params X.env = ([], [])) (L : LamC X.N X.env.scope scope p) (hbind : ∀ (q : Str) (cl : List (Str × Addr)) (doc pm cv ctv u : Value), bindArgs (PySem.W.kdv_fn "<lambda>" q params (.expr body) scope cl .none doc pm cv ctv) ⟨[u], []⟩ = pure [(p, u)]) :
    PE X (.Lambda params body scope pos) (tLamE T (LamAt1 X params body scope p)) := by
  refine ⟨fun pins s σ H Q I h => ?_⟩
  obtain ⟨hT, h⟩ := h
  refine PySem.W.kla_eval hdef ?_
  rw [makeFunction_eq]
  simp only [List.zip_nil_right, List.filterMap_nil, List.isEmpty_nil, if_true, pure_bind]
  exact mk_tailT I TB hcode hm hu hT (LamC.has L I.ok) fun f c' doc pm ctv H1 s' I1 eN T1 hf hco => ⟨.ref f, H1, I1, rfl, h f c' H1 eN T1 ⟨doc, pm, ctv, hf, hco, fun u => hbind _ _ _ _ _ _ u⟩⟩
/-- a(b), in the def that got the lambda -/
theorem pe_act1C {CXg : CXT} {Eg : XK} {Ng : List Str} {qg : Str} {sg : Scope} {g f c' : Addr} {cdg : Value} {params : Arguments} {body : Expr} {scope : Scope} {k i j : Nat} {a b p : Str} {P : List Str} {pn : List (Addr × Obj)} {xe : Value → Shared → Prop} {W : WX} {tb : XK → TE} {p1 p2 p3 : Pos}
    {A2 : Around} {outer2 : List Env} {s3 : Shared} {H3 : Hp} (I : Inv X pins σ H s) (L : LamC X.N X.env.scope scope p) (M : LamAt1 X params body scope p H f c')
    (un3 : ∀ HZ h1, Un (frs outer2) [] H3 HZ s3.heap h1 → Un (frs X.stack) [] H HZ s.heap h1)
    (tk : Takes ((cxOf CXg X.prog X.w X.K X.mg X.base Ng qg sg g cdg A2 outer2 s3 H3 Eg).tr pn xe) W) (hr : Room (k + 1) (A2.deeper (envOfC qg sg s3.heap.objs.size g cdg)))
    (hbody : ∀ (A : Around) (outer : List Env) (s : Shared) (H : Hp) (E : XK), (A.deeper (lamEnvC X p scope s.heap.objs.size f c')).guards = A2.guards → Room k (A.deeper (lamEnvC X p scope s.heap.objs.size f c')) → PE (lamCxC X p P A outer s H E scope f c') body (tb E))
    (hN : Ng[i]? = some a) (hv : Vis sg a) (hNb : Ng[j]? = some b) (hvb : Vis sg b) (hd : (a == ("__debug__" : Str)) = false := by decide) (hcd : (a == ("__classdict__" : Str)) = false := by decide) (hdb : (b == ("__debug__" : Str)) = false := by decide) (hcb : (b == ("__classdict__" : Str)) = false := by decide) :
    PE ((cxOf CXg X.prog X.w X.K X.mg X.base Ng qg sg g cdg A2 outer2 s3 H3 Eg).tr pn xe) (.Call (.Name a p1) [.Name b p3] [] p2)
      (fun σZ HZ Q => σZ[i]? = some (some (.ref f)) ∧ HZ c' = some (CodeO c' (X.env.qual ++ "<lambda>")) ∧ ∃ v, σZ[j]? = some (some v) ∧ ∃ E : XK, (∀ cls d H', E cls d H' → W cls d σZ H') ∧ tb E (slP σ v P.length) HZ Q) := by
  refine ⟨fun pinsZ sZ σZ HZ Q IZ h => ?_⟩
  obtain ⟨hs, hc, v, hj, E, hW, ht⟩ := h
  refine wpAny_Call_Name_kw (thn ((pe_var (pos := p1) (i := i) hN hv hd hcd).run pinsZ sZ σZ HZ (fun v H1 => v = .ref f ∧ H1 = HZ) IZ ⟨.ref f, hs, rfl, rfl⟩) fun u0 s0 hh => ?_)
  obtain ⟨v0, H0, I0, r0, ev0, eH0⟩ := hh
  subst ev0
  rw [eH0] at I0
  obtain rfl : u0 = Value.ref f := r0
  obtain ⟨doc, pm, ctv, hf, _, hb0⟩ := M.ex
  have fn : ∀ {s' : Shared}, Inv ((cxOf CXg X.prog X.w X.K X.mg X.base Ng qg sg g cdg A2 outer2 s3 H3 Eg).tr pn xe) pinsZ σZ HZ s' → s'.heap.get? f = some (lamO X params body scope .none doc pm c' ctv) := fun I' => (I'.hok f _ ((un3 _ _ I'.base).frzs f _ _ hf)).1
  refine PySem.W.callWith_F ⟨_, _, _, _, fn I0⟩ (Calls.spliced_cons (thn ((pe_var (pos := p3) (i := j) hNb hvb hdb hcb).run pinsZ _ σZ HZ (fun w H1 => w = v ∧ H1 = HZ) I0 ⟨v, hj, rfl, rfl⟩) fun u s1 hh => ?_))
  obtain ⟨w, H1, I1, r1, ew, eH⟩ := hh
  subst ew
  rw [eH] at I1
  refine Calls.spliced_nil ⟨⟨_, _, _, _, fn I1⟩, ?_⟩
  have un : Un (frs X.stack) [] H HZ s.heap s1.heap := un3 _ _ I1.base
  have of1 := fn I1
  obtain ⟨⟨oc, vs, t, hoc, hdc, hvc⟩, _, _⟩ := I1.hok c' _ hc
  have rc : codeAny (model X.prog X.w) (A2.deeper (envOfC qg sg s3.heap.objs.size g cdg)) (.call (.ref f) ⟨[u], []⟩) (CR (L2.CX X.prog X.w) (envOfC qg sg s3.heap.objs.size g cdg :: outer2) X.prog X.w HZ s1 Q E) s1 := by
    refine PySem.W.kla_callFunE hr.depth of1 rfl L.co L.gen rfl ⟨c', oc, vs, t, rfl, hoc, hdc, hvc⟩ (BindsTo.of_eq (hb0 u) _ _ _ _ ?_)
    refine wpAny_newEnvC (u := u) L.kind L.lay L.psh L.pc fun h1 hns hc kp => ⟨I1.nolimit.keeps kp, ?_⟩
    show codeAny _ _ (.expr body (lamEnvC X p scope s1.heap.objs.size f c')) _ _
    have J : Inv (lamCxC X p P (A2.deeper (envOfC qg sg s3.heap.objs.size g cdg)) (envOfC qg sg s3.heap.objs.size g cdg :: outer2) s1 HZ E scope f c') [] (slP σ w P.length) HZ { s1 with heap := h1 } :=
      lamC_start r1 I L I1.env0 hr.hd un hns hc kp
    refine PySem.W.kla_codeExpr (wpAny_mono ((hbody (A2.deeper (envOfC qg sg s3.heap.objs.size g cdg)) _ s1 HZ E rfl (hr.deeper _)).run [] _ _ HZ Q J ht) (fun v s' hq => ?_) fun e s' hq => hq)
    obtain ⟨w', H', J', rv, q⟩ := hq
    exact ⟨w', H', J'.os, J'.bare, J'.base, J'.hok, rv, q⟩
  refine wpAny_call (codeAny_mono rc fun r s' hq => ?_)
  match r, hq with
  | .error e, hq => exact tk e s' (XE.of_call I1 hW hq)
  | .ok (.ret u), hq => exact I1.after hq
  | .ok .next, hq => exact hq.elim
  | .ok .brk, hq => exact hq.elim
  | .ok .cont, hq => exact hq.elim
end
section
variable {X : Cx}
theorem pe_underC {T : List (Addr × Str)} {x p : Str} {P : List Str} {g : Addr} {k : Nat} {st : Stmt} {fd : FuncData} {params : Arguments} {body : Expr} {scope : Scope} {t : XK → TE} {te0 : TE} {e0 : Expr} {q pos lpos : Pos} {C fe fx : Addr} {fde fdx : FuncData} {spe spx : Sp} {W : WX}
    (hg : Gl X x) (hm : X.mg x = some (.ref g)) (hk : PySem.W.keepIn X.K (.ref g) = true) (F : Fun X.K x x st g fd) (hb : L2.Binds X.K fd ["manager", "action"] []) (Sg : FnScope nsU ["manager", "action"] (defScope st)) (hst : WithDef st) (hlo : (defScope st).names.lookup (Str.ofString "one") = some NameKind.local) (hl0 : Vis (defScope st) "manager") (hl1 : Vis (defScope st) "action")
    (Fe : FnOk X.prog X.w X.K X.mg X.base CX0 (k + 2) fe fde ["self"] spe) (be : L2.Binds X.K fde ["self"] []) (Fx : FnOk X.prog X.w X.K X.mg X.base CX0 (k + 2) fx fdx psX spx) (FxM : FnM false X.prog X.w X.K X.mg X.base (k + 2) fx fdx psX spx) (bx : L2.Binds X.K fdx psX [])
    (hE : PySem.W.findIn X.K (.ref C) "__enter__" = some (some (.ref fe))) (hEf : PySem.W.isFn X.K (.ref fe) = true) (hX : PySem.W.findIn X.K (.ref C) "__exit__" = some (some (.ref fx))) (hXf : PySem.W.isFn X.K (.ref fx) = true)
    (hmo : ∀ vs H (Q Q' : VK) E, (∀ v H', Q v H' → Q' v H') → spe vs H Q E → spe vs H Q' E) (tk : Takes X W) (h0 : PE X e0 te0) (hlam : PE X (.Lambda params body scope lpos) (tLamE T (LamAt1 X params body scope p))) (hr : Room (k + 3) X.A) (L : LamC X.N X.env.scope scope p)
    (hbody : ∀ (A : Around) (outer : List Env) (s : Shared) (H : Hp) (E : XK) (f c' : Addr), (A.deeper (lamEnvC X p scope s.heap.objs.size f c')).guards = X.A.guards → Room k (A.deeper (lamEnvC X p scope s.heap.objs.size f c')) → PE (lamCxC X p P A outer s H E scope f c') body (t E))
    (hdb : (x == ("__debug__" : Str)) = false := by decide) (he : starEach (e0 :: [.Lambda params body scope lpos]) X.env = (false, eval e0 X.env) :: starEach [.Lambda params body scope lpos] X.env := by rfl) (hpl : (backTo pos (starEach [.Lambda params body scope lpos] X.env)).any (·.1) = false := by rfl) :
    PE X (.Call (.Name x q) [e0, .Lambda params body scope lpos] [] pos) (tUnder T C spe spx (X.env.qual ++ "<lambda>") P.length W te0 t) := by
  refine ⟨fun pins s σ H Q I h => ?_⟩
  obtain ⟨oc, od, kV, doc0, pm0, an, cdv, ct, osl, rfl, lk, hcg⟩ := F.ex
  refine wpAny_Call_Name_kw (ld_glob I hg hm ?_ hdb)
  refine PySem.W.callWith_K (h₀ := X.base) I.ok.mod.kin hk ?_ he hpl
  rw [he]
  show wpAny _ _ (spliced ((false, eval e0 X.env) :: backTo pos (starEach [.Lambda params body scope lpos] X.env))) _ _ s
  refine Calls.spliced_cons (thn (h0.run pins s σ H _ I h) fun u0 s1 hh => ?_)
  obtain ⟨v0, H1, I1, r0, hT, h1⟩ := hh
  show wpAny _ _ (spliced ((false, eval (.Lambda params body scope lpos) X.env) :: backTo pos (starEach [] X.env))) _ _ s1
  refine Calls.spliced_cons (thn (hlam.run pins s1 σ H1 (fun v H2 => ∃ f c', v = .ref f ∧ ExtN H1 H2 ∧ Tabs T H2 ∧ LamAt1 X params body scope p H2 f c') I1 ⟨hT, fun f c' H2 e t m => ⟨f, c', rfl, e, t, m⟩⟩) fun u1 s2 hh => ?_)
  obtain ⟨v1, H2, I2, r1, f, c', ev1, e2, t2, M⟩ := hh
  subst ev1
  obtain rfl : u1 = Value.ref f := r1
  refine Calls.spliced_nil ⟨I2.kIn, ?_⟩
  obtain ⟨a, dx, fs, ev0, ea, hq0⟩ := h1 c' H2 e2 t2 M.code
  subst ev0
  obtain rfl : u0 = Value.ref a := r0
  obtain ⟨q1, q2, q3, q4, q5, q6, q7, hbd⟩ := hst
  have rc : codeAny (model X.prog X.w) X.A (.call (.ref g) ⟨[.ref a, .ref f], []⟩) (CR (L2.CX X.prog X.w) X.stack X.prog X.w H2 s2 Q (fun cls d H' => W cls d σ H')) s2 := by
    refine run_ofS (N := nsU) (ps := ["manager", "action"]) (us := [.ref a, .ref f]) (vs := [.ref a, .ref f]) lk hcg Sg hr I2.env0 (hb s2 [.ref a, .ref f] I2.kIn rfl) (.cons rfl (.cons rfl .nil)) rfl fun hr' => ?_
    rw [hbd]
    refine ⟨_, pss_one (ps_with (C := C) (i := 2) (k := k + 2) (tc := tVar 0) (Wout := fun cls d _ H' => W cls d σ H') (te := fun W' => fun σZ HZ Q => σZ[1]? = some (some (.ref f)) ∧ HZ c' = some (CodeO c' (X.env.qual ++ "<lambda>")) ∧ ∃ v, σZ[2]? = some (some v) ∧ ∃ E : XK, (∀ cls d H', E cls d H' → W' cls d σZ H') ∧ t E (slP σ v P.length) HZ Q)
      rfl rfl rfl (takes_of rfl rfl rfl rfl) (fun pn xe => pg_name (i := 2) (by show nsU.Nodup; decide) rfl (.inl hlo) (.inr hlo)) (pe_var (i := 0) rfl hl0) Fe be Fx FxM bx hr' hE hEf hX hXf (fun W' pn xe tk' _ => ?_)), ?_⟩
    · exact pe_act1C (CXg := L2.CX X.prog X.w) (Ng := nsU) (qg := x) (sg := defScope st) (g := g) (k := k) (i := 1) (j := 2) (tb := t) (A2 := X.A) (outer2 := X.stack) (s3 := s2) (H3 := H2) I2 L M (fun _ _ u => u) tk' (hr'.mono (by omega)) (fun A outer s H E hg2 hr2 => hbody A outer s H E f c' hg2 hr2) rfl hl1 rfl (.inl hlo)
    · refine ⟨_, rfl, a, dx, fs, rfl, ea, ?_⟩
      refine hmo _ _ _ _ _ (fun v H3 z => ?_) hq0
      exact ⟨rfl, z.1, v, rfl, eU spx a σ W, fun _ _ _ q => q, z.2⟩
  refine wpAny_call (codeAny_mono rc fun r s' hq => ?_)
  match r, hq with
  | .error e, hq => exact tk e s' (XE.of_call I2 (fun _ _ _ z => z) hq)
  | .ok (.ret u), hq => exact I2.after hq
  | .ok .next, hq => exact hq.elim
  | .ok .brk, hq => exact hq.elim
  | .ok .cont, hq => exact hq.elim
end
end Wn
/-! calls by names alone -/
namespace Wn
open PySem PySem.Spec PyProof.Rows L2 LamX L2H
/-- the values of the names, in the parameters' order -/
def pmU (ix : List Nat) (ws : List Value) : List Value := ix.map fun i => ws.getD i .none
def pmV (ix : List Nat) (zs : List V) : List V := ix.map fun i => zs.getD i .non
theorem vals_at {zs : List V} {ws : List Value} (r : Vals zs ws) : ∀ i, RelV (zs.getD i .non) (ws.getD i .none) := by
  induction r with
  | nil =>
    intro i
    rfl
  | cons h t ih =>
    intro i
    cases i with
    | zero => exact h
    | succ i => exact ih i
theorem vals_pm {zs : List V} {ws : List Value} (r : Vals zs ws) : ∀ ix : List Nat, Vals (pmV ix zs) (pmU ix ws)
  | [] => .nil
  | i :: ix => .cons (vals_at r i) (vals_pm r ix)
/-- how such a call binds: the positional values first -/
theorem kb_of {K : PySem.W.Frag} {x qual : Str} {st : Stmt} {f : Addr} {fd : FuncData} {ps ks : List Str} {n : Nat} (ix : List Nat) (F : Fun K x qual st f fd)
    (h : ∀ (kV doc pm : Value) (an : Option Addr) (cdv ct : Value) (us ws : List Value), us.length = n → ws.length = ks.length → bindArgs (PySem.W.fnOf x qual (defArgs st) (defBody st) (defScope st) .none kV doc pm an cdv ct) ⟨us, ks.zip ws⟩ = pure (ps.zip (us ++ pmU ix ws))) :
    KBn K fd ps n ks (fun us ws => us ++ pmU ix ws) (fun vs zs => vs ++ pmV ix zs) := by
  obtain ⟨oc, od, kV, doc, pm, an, cdv, ct, osl, rfl, lk, hcd⟩ := F.ex
  exact ⟨fun s us ws _ l1 l2 => .of_eq (h kV doc pm an cdv ct us ws l1 l2), fun r1 r2 => r1.append (vals_pm r2 ix)⟩
def tCallN0 (m : Nat) (sp : Sp) (gV : List V → List V → List V) (E : XK) (tk : TA) : TE := fun σ H Q => tk σ H fun zs H2 => zs.length = m ∧ sp (gV [] zs) H2 Q E
section
variable {X : Cx} {CX : CXT} {k : Nat} {f C g' : Addr} {fd : FuncData} {ps ks : List Str} {sp : Sp} {E : XK} {x : Str} {p pos : Pos} {kws : List Keyword} {tk : TA} {g : List Value → List Value → List Value} {gV : List V → List V → List V}
/-- f(k = v, ..) -/
theorem pe_callN0 (F : FnOk X.prog X.w X.K X.mg X.base CX k f fd ps sp) (hr : Room k X.A) (hg : Gl X x) (hm : X.mg x = some (.ref f)) (hk : PySem.W.keepIn X.K (.ref f) = true) (hb : KBn X.K fd ps 0 ks g gV) (hx : Passes CX X E)
    (hkw : PK X kws tk) (hall : (backToKw pos (keywordEach kws X.env)).all (·.1.isSome) = true := by rfl) (hks : (backToKw pos (keywordEach kws X.env)).filterMap (·.1) = ks := by rfl)
    (hdb : (x == ("__debug__" : Str)) = false := by decide) (hpl : ((backTo pos (starEach [] X.env)).any (·.1) || (backToKw pos (keywordEach kws X.env)).any (·.1.isNone)) = false := by rfl) :
    PE X (.Call (.Name x p) [] kws pos) (tCallN0 ks.length sp gV E tk) := by
  refine ⟨fun pins s σ H Q I h => ?_⟩
  refine wpAny_Call_Name_kw (ld_glob I hg hm ?_ hdb)
  refine PySem.W.callWith_KW0 (first := []) (h₀ := X.base) I.ok.mod.kin hk hall ?_ hpl
  refine thn (hkw.run pos pins s σ H _ I h) fun ws s2 ⟨zs, H2, I2, rz, l2, q2⟩ => ⟨I2.kIn, ?_⟩
  rw [hks]
  exact run_fnN (us := []) (vs := []) F hr hb hx I2 .nil rz rfl l2 q2
/-- o(k = v, ..), o an instance -/
def tCallIN (C : Addr) (sp : Sp) (gV : List V → List V → List V) (m : Nat) (tf : TE) (tk : TA) : TE := fun σ H Q => tf σ H fun y H1 => ∃ a, y = V.ref a ∧ tk σ H1 fun zs H2 => zs.length = m ∧ (∃ dx fs, H2 a = some (.ins C dx fs)) ∧ sp (gV [.ref a] zs) H2 Q E0
theorem callO_withK {M : Model} {A : Around} {E : Value → Shared → Prop} {s : Shared} {a : Addr} {pos : Pos} {env : Env} {kws : List Keyword} {Q : Value → Shared → Prop} (hall : (backToKw pos (keywordEach kws env)).all (·.1.isSome) = true)
    (h : wpAny M A (evalAll ((backToKw pos (keywordEach kws env)).map (·.2))) (fun ks s₁ => (∃ C ox od, PySem.W.InstAt s₁.heap a ox C od ∧ ox.data = .plain) ∧ wpAny M A (call (.ref a) ([] ++ []) (((backToKw pos (keywordEach kws env)).filterMap (·.1)).zip ks)) Q E s₁) E s)
    (hplain : ((backTo pos (starEach [] env)).any (·.1) || (backToKw pos (keywordEach kws env)).any (·.1.isNone)) = false) : wpAny M A (callWith pos (.ref a) [] (backTo pos (starEach [] env)) (backToKw pos (keywordEach kws env))) Q E s := by
  unfold callWith
  refine wpAny_bind (wpAny_holding (wpAny_mono (PyProof.Rows.evalArgs_kw2_nil (Q := fun z s₁ => (∃ C ox od, PySem.W.InstAt s₁.heap a ox C od ∧ ox.data = .plain) ∧ wpAny M A (call (.ref a) ([] ++ z.pos) z.kw) Q E s₁) hall h) (fun z s₁ h₁ => wpAny_bind (wpAny_standAt ?_)) fun _ _ y => y))
  obtain ⟨⟨C, ox, od, J, hd⟩, h₁⟩ := h₁
  have L := PySem.W.kco_keeper (M := M) J hd
  simp only [hplain]
  refine wpAny_bind (L.here ?_)
  have tail : ∀ {t : Sem Value}, wpAny M A t Q E s₁ → wpAny M A (t >>= fun r => holding [r] point >>= fun _ => pure r) Q E s₁ :=
    fun ht => wpAny_bind (wpAny_mono ht (fun r s₂ hr => wpAny_bind (wpAny_holding (wpAny_point (wpAny_pure hr)))) fun _ _ y => y)
  exact tail (wpAny_operateT h₁)
theorem pe_callIN {fe : Expr} {tf : TE} (hf : PE X fe tf) (c : StX.CallO X.K C g') (F : FnOk X.prog X.w X.K X.mg X.base CX0 k g' fd ps sp) (hr : Room k X.A) (hb : KBn X.K fd ps 1 ks g gV) (hkw : PK X kws tk)
    (hall : (backToKw pos (keywordEach kws X.env)).all (·.1.isSome) = true := by rfl) (hks : (backToKw pos (keywordEach kws X.env)).filterMap (·.1) = ks := by rfl)
    (hpl : ((backTo pos (starEach [] X.env)).any (·.1) || (backToKw pos (keywordEach kws X.env)).any (·.1.isNone)) = false := by rfl)
    (ht : eval (.Call fe [] kws pos) X.env = (do callWith pos (← eval fe X.env) [] (backTo pos (starEach [] X.env)) (backToKw pos (keywordEach kws X.env))) := by rfl) : PE X (.Call fe [] kws pos) (tCallIN C sp gV ks.length tf tk) := by
  refine ⟨fun pins s σ H Q I h => ?_⟩
  rw [ht]
  refine wpAny_bind (thn (hf.run pins s σ H _ I h) fun u s1 ⟨y, H1, I1, ry, a, ey, q⟩ => ?_)
  subst ey
  obtain rfl : u = Value.ref a := ry
  refine callO_withK hall (thn (hkw.run pos pins s1 σ H1 _ I1 q) fun ws s2 ⟨zs, H2, I2, rz, l2, ⟨dx, fs, ea⟩, q2⟩ => ?_) hpl
  obtain ⟨mA, O, _⟩ := ins_get I2.hok ea
  obtain ⟨od, J, _⟩ := O.look
  refine ⟨⟨C, _, od, J, rfl⟩, ?_⟩
  rw [hks]
  have r2 := hb.rel (vs := [V.ref a]) (us := [Value.ref a]) (.cons rfl .nil) rz
  refine wpAny_call (PySem.W.kco_code I2.kIn J rfl c.at_ c.fn c.fi (codeAny_mono (F.run X.A X.stack s2 H2 ⟨[.ref a], ks.zip ws⟩ (g [.ref a] ws) (gV [.ref a] zs) Q E0 hr I2.env0 (hb.to s2 [.ref a] ws I2.kIn rfl (rz.length.symm.trans l2)) r2 q2) fun z s' hq => ?_))
  match z, hq with
  | .error e, hq => exact (show False from hq).elim
  | .ok (.ret u), hq => exact I2.after hq
  | .ok .next, hq => exact hq.elim
  | .ok .brk, hq => exact hq.elim
  | .ok .cont, hq => exact hq.elim
end

/-! ### under(action=lambda p: body, manager=e) -/
theorem LamAt1.ext {X : Cx} {params : Arguments} {body : Expr} {scope : Scope} {p : Str} {H H' : Hp} {f c' : Addr} (M : LamAt1 X params body scope p H f c') (e : ExtN H H') : LamAt1 X params body scope p H' f c' := by
  obtain ⟨doc, pm, ctv, h1, h2, h3⟩ := M.ex
  exact ⟨doc, pm, ctv, e _ _ h1 (fun _ z => by cases z), e _ _ h2 codeO_ne, h3⟩
def uQ (LA : Hp → Addr → Addr → Prop) (C : Addr) (spe spx : Sp) (q : Str) (n : Nat) (W : WX) (t : XK → TE) (σ : L2.St) (Q : VK) : List V → Hp → Prop := fun zs H2 => ∃ f c' a dx fs, zs = [.ref f, .ref a] ∧ LA H2 f c' ∧ H2 a = some (.ins C dx fs) ∧
  spe [.ref a] H2 (fun v H3 => H3 c' = some (CodeO c' q) ∧ t (eU spx a σ W) (slP σ v n) H3 fun r H4 => spx [.ref a, .non, .non, .non] H4 (fun _ H5 => Q r H5) E0) E0
def tUnderK (T : List (Addr × Str)) (LA : Hp → Addr → Addr → Prop) (C : Addr) (spe spx : Sp) (q : Str) (n : Nat) (W : WX) (te0 : TE) (t : XK → TE) : TE := fun σ H Q => Tabs T H ∧ ∀ f c' H1, ExtN H H1 → Tabs T H1 → LA H1 f c' → te0 σ H1 fun x H2 => uQ LA C spe spx q n W t σ Q [.ref f, x] H2
section
variable {X : Cx}
theorem pe_underK {T : List (Addr × Str)} {x p : Str} {P : List Str} {g : Addr} {k : Nat} {st : Stmt} {fd : FuncData} {params : Arguments} {body : Expr} {scope : Scope} {t : XK → TE} {te0 : TE} {e0 : Expr} {q pos lpos kp1 kp2 : Pos} {C fe fx : Addr} {fde fdx : FuncData} {spe spx : Sp} {W : WX}
    (hg : Gl X x) (hm : X.mg x = some (.ref g)) (hk : PySem.W.keepIn X.K (.ref g) = true) (F : Fun X.K x x st g fd) (hb : KBn X.K fd ["manager", "action"] 0 ["action", "manager"] (fun us ws => us ++ pmU [1, 0] ws) (fun vs zs => vs ++ pmV [1, 0] zs)) (Sg : FnScope nsU ["manager", "action"] (defScope st)) (hst : WithDef st) (hlo : (defScope st).names.lookup (Str.ofString "one") = some NameKind.local) (hl0 : Vis (defScope st) "manager") (hl1 : Vis (defScope st) "action")
    (Fe : FnOk X.prog X.w X.K X.mg X.base CX0 (k + 2) fe fde ["self"] spe) (be : L2.Binds X.K fde ["self"] []) (Fx : FnOk X.prog X.w X.K X.mg X.base CX0 (k + 2) fx fdx psX spx) (FxM : FnM false X.prog X.w X.K X.mg X.base (k + 2) fx fdx psX spx) (bx : L2.Binds X.K fdx psX [])
    (hE : PySem.W.findIn X.K (.ref C) "__enter__" = some (some (.ref fe))) (hEf : PySem.W.isFn X.K (.ref fe) = true) (hX : PySem.W.findIn X.K (.ref C) "__exit__" = some (some (.ref fx))) (hXf : PySem.W.isFn X.K (.ref fx) = true)
    (hmo : ∀ vs H (Q Q' : VK) E, (∀ v H', Q v H' → Q' v H') → spe vs H Q E → spe vs H Q' E) (tk : Takes X W) (h0 : PE X e0 te0) (hlam : PE X (.Lambda params body scope lpos) (tLamE T (LamAt1 X params body scope p))) (hr : Room (k + 3) X.A) (L : LamD X.N X.env.scope scope) (hP : ∀ x ∈ p :: P, scope.names.lookup x = some .local)
    (hbody : ∀ (A : Around) (outer : List Env) (s : Shared) (H : Hp) (E : XK) (f c' : Addr), (A.deeper (lamEnv X scope s.heap.objs.size f c')).guards = X.A.guards → Room k (A.deeper (lamEnv X scope s.heap.objs.size f c')) → PE (lamCxP X (p :: P) A outer s H E scope f c') body (t E))
    (hdb : (x == ("__debug__" : Str)) = false := by decide)
    (hall : (backToKw pos (keywordEach [⟨some "action", .Lambda params body scope lpos, kp1⟩, ⟨some "manager", e0, kp2⟩] X.env)).all (·.1.isSome) = true := by rfl) (hks : (backToKw pos (keywordEach [⟨some "action", .Lambda params body scope lpos, kp1⟩, ⟨some "manager", e0, kp2⟩] X.env)).filterMap (·.1) = (["action", "manager"] : List Str) := by rfl)
    (hpl : ((backTo pos (starEach [] X.env)).any (·.1) || (backToKw pos (keywordEach [⟨some "action", .Lambda params body scope lpos, kp1⟩, ⟨some "manager", e0, kp2⟩] X.env)).any (·.1.isNone)) = false := by rfl) :
    PE X (.Call (.Name x q) [] [⟨some "action", .Lambda params body scope lpos, kp1⟩, ⟨some "manager", e0, kp2⟩] pos) (tUnderK T (LamAt1 X params body scope p) C spe spx (X.env.qual ++ "<lambda>") P.length W te0 t) := by
  refine ⟨fun pins s σ H Q I h => ?_⟩
  obtain ⟨oc, od, kV, doc0, pm0, an, cdv, ct, osl, rfl, lk, hcg⟩ := F.ex
  refine wpAny_Call_Name_kw (ld_glob I hg hm ?_ hdb)
  refine PySem.W.callWith_KW0 (first := []) (h₀ := X.base) I.ok.mod.kin hk hall ?_ hpl
  have hkw := pk_cons (nm := some "action") (kpos := kp1) hlam (pk_cons (nm := some "manager") (kpos := kp2) h0 pk_nil)
  refine thn (hkw.run pos pins s σ H (uQ (LamAt1 X params body scope p) C spe spx (X.env.qual ++ "<lambda>") P.length W t σ Q) I ⟨h.1, fun f c' H1 e t m => h.2 f c' H1 e t m⟩) fun ws s2 ⟨zs, H2, I2, rz, hq⟩ => ⟨I2.kIn, ?_⟩
  obtain ⟨f, c', a, dx, fs, rfl, M, ea, hq0⟩ := hq
  obtain ⟨u1, u2, rfl, r1, r2⟩ := vals2 rz
  obtain rfl : u1 = Value.ref f := r1
  obtain rfl : u2 = Value.ref a := r2
  rw [hks]
  obtain ⟨q1, q2, q3, q4, q5, q6, q7, hbd⟩ := hst
  have rc : codeAny (model X.prog X.w) X.A (.call (.ref g) ⟨[], [("action", .ref f), ("manager", .ref a)]⟩) (CR (L2.CX X.prog X.w) X.stack X.prog X.w H2 s2 Q (fun cls d H' => W cls d σ H')) s2 := by
    refine run_ofS (N := nsU) (ps := ["manager", "action"]) (us := [.ref a, .ref f]) (vs := [.ref a, .ref f]) lk hcg Sg hr I2.env0 (hb.to s2 [] [.ref f, .ref a] I2.kIn rfl rfl) (.cons rfl (.cons rfl .nil)) rfl fun hr' => ?_
    rw [hbd]
    refine ⟨_, pss_one (ps_with (C := C) (i := 2) (k := k + 2) (tc := tVar 0) (Wout := fun cls d _ H' => W cls d σ H') (te := fun W' => fun σZ HZ Q => σZ[1]? = some (some (.ref f)) ∧ HZ c' = some (CodeO c' (X.env.qual ++ "<lambda>")) ∧ ∃ v, σZ[2]? = some (some v) ∧ ∃ E : XK, (∀ cls d H', E cls d H' → W' cls d σZ H') ∧ t E (slP σ v P.length) HZ Q)
      rfl rfl rfl (takes_of rfl rfl rfl rfl) (fun pn xe => pg_name (i := 2) (by show nsU.Nodup; decide) rfl (.inl hlo) (.inr hlo)) (pe_var (i := 0) rfl hl0) Fe be Fx FxM bx hr' hE hEf hX hXf (fun W' pn xe tk' _ => ?_)), ?_⟩
    · exact pe_act1 (CXg := L2.CX X.prog X.w) (Ng := nsU) (qg := x) (sg := defScope st) (g := g) (k := k) (i := 1) (j := 2) (tb := t) (A2 := X.A) (outer2 := X.stack) (s3 := s2) (H3 := H2) I2 L hP M (fun _ _ u => u) tk' (hr'.mono (by omega)) (fun A outer s H E hg2 hr2 => hbody A outer s H E f c' hg2 hr2) rfl hl1 rfl (.inl hlo)
    · refine ⟨_, rfl, a, dx, fs, rfl, ea, ?_⟩
      refine hmo _ _ _ _ _ (fun v H3 z => ?_) hq0
      exact ⟨rfl, z.1, v, rfl, eU spx a σ W, fun _ _ _ q => q, z.2⟩
  refine wpAny_call (codeAny_mono rc fun r s' hq => ?_)
  match r, hq with
  | .error e, hq => exact tk e s' (XE.of_call I2 (fun _ _ _ z => z) hq)
  | .ok (.ret u), hq => exact I2.after hq
  | .ok .next, hq => exact hq.elim
  | .ok .brk, hq => exact hq.elim
  | .ok .cont, hq => exact hq.elim
end
end Wn
/-! data at any depth, dicts among it -/
namespace Wn
open PySem PySem.Spec PyProof.Rows L2
def kD : Key → PyData
  | .inl i => .int i
  | .inr x => .str x
mutual
inductive Dz (K : PySem.W.Frag) (H : Hp) : V → PyData → Prop
  | non : Dz K H .non .none
  | bl (b : Bool) : Dz K H (.bl b) (.bool b)
  | int (i : Int) : Dz K H (.int i) (.int i)
  | str (x : Str) : Dz K H (.str x) (.str x)
  | lst {a : Addr} {xs : List V} {ds : List PyData} : SqL K H a xs → DzAll K H xs ds → Dz K H (.ref a) (.list ds)
  | tup {a : Addr} {xs : List V} {ds : List PyData} : SqT K H a xs → DzAll K H xs ds → Dz K H (.ref a) (.tuple ds)
  | dct {a : Addr} {kvs : List (Key × V)} {ps : List (PyData × PyData)} : H a = some (.dK kvs) → ps.map (·.1) = kvs.map (fun p => kD p.1) → DzAll K H (kvs.map (·.2)) (ps.map (·.2)) → Dz K H (.ref a) (.dict ps)
inductive DzAll (K : PySem.W.Frag) (H : Hp) : List V → List PyData → Prop
  | nil : DzAll K H [] []
  | cons {v : V} {vs : List V} {d : PyData} {ds : List PyData} : Dz K H v d → DzAll K H vs ds → DzAll K H (v :: vs) (d :: ds)
end
mutual
theorem Dz.gr {K : PySem.W.Frag} {H H' : Hp} (g : Gr [] H H') : ∀ {v : V} {d : PyData}, Dz K H v d → Dz K H' v d
  | _, _, .non => .non
  | _, _, .bl b => .bl b
  | _, _, .int i => .int i
  | _, _, .str x => .str x
  | _, _, .lst h1 h2 => .lst ((Kp.of g).sqL h1) (DzAll.gr g h2)
  | _, _, .tup h1 h2 => .tup ((Kp.of g).sqT h1) (DzAll.gr g h2)
  | _, _, .dct h1 h2 h3 => .dct (g _ _ (by simp) h1) h2 (DzAll.gr g h3)
theorem DzAll.gr {K : PySem.W.Frag} {H H' : Hp} (g : Gr [] H H') : ∀ {vs : List V} {ds : List PyData}, DzAll K H vs ds → DzAll K H' vs ds
  | _, _, .nil => .nil
  | _, _, .cons h1 h2 => .cons (Dz.gr g h1) (DzAll.gr g h2)
end
mutual
theorem Dz.of {K : PySem.W.Frag} {H : Hp} : ∀ {v : V} {d : PyData}, Dp K H v d → Dz K H v d
  | _, _, .non => .non
  | _, _, .bl b => .bl b
  | _, _, .int i => .int i
  | _, _, .str x => .str x
  | _, _, .lst h1 h2 => .lst h1 (DzAll.of h2)
  | _, _, .tup h1 h2 => .tup h1 (DzAll.of h2)
theorem DzAll.of {K : PySem.W.Frag} {H : Hp} : ∀ {vs : List V} {ds : List PyData}, DpAll K H vs ds → DzAll K H vs ds
  | _, _, .nil => .nil
  | _, _, .cons h1 h2 => .cons (Dz.of h1) (DzAll.of h2)
end
mutual
theorem Dz.dp {K : PySem.W.Frag} {H : Hp} : ∀ {v : V} {d : PyData}, d.hasDict = false → Dz K H v d → Dp K H v d
  | _, _, _, .non => .non
  | _, _, _, .bl b => .bl b
  | _, _, _, .int i => .int i
  | _, _, _, .str x => .str x
  | _, _, n, .lst h1 h2 => .lst h1 (DzAll.dp (by simpa [PyData.hasDict] using n) h2)
  | _, _, n, .tup h1 h2 => .tup h1 (DzAll.dp (by simpa [PyData.hasDict] using n) h2)
  | _, _, n, .dct _ _ _ => by simp [PyData.hasDict] at n
theorem DzAll.dp {K : PySem.W.Frag} {H : Hp} : ∀ {vs : List V} {ds : List PyData}, PyData.hasDictAll ds = false → DzAll K H vs ds → DpAll K H vs ds
  | _, _, _, .nil => .nil
  | _, _, n, .cons h1 h2 => by
    simp only [PyData.hasDictAll, Bool.or_eq_false_iff] at n
    exact .cons (Dz.dp n.1 h1) (DzAll.dp n.2 h2)
end
theorem dz_lst {K : PySem.W.Frag} {H : Hp} {a : Addr} {xs : List V} {ds : List PyData} (h : H a = some (.lst xs)) (h2 : DzAll K H xs ds) : Dz K H (.ref a) (.list ds) := .lst (sq_lst h) h2
theorem dz_tup {K : PySem.W.Frag} {H : Hp} {a : Addr} {xs : List V} {ds : List PyData} (h : H a = some (.tup xs)) (h2 : DzAll K H xs ds) : Dz K H (.ref a) (.tuple ds) := .tup (sq_tup h) h2
theorem dzAll_len {K : PySem.W.Frag} {H : Hp} : ∀ {vs : List V} {ds : List PyData}, DzAll K H vs ds → vs.length = ds.length
  | _, _, .nil => rfl
  | _, _, .cons _ t => congrArg (· + 1) (dzAll_len t)
theorem dzAll_append {K : PySem.W.Frag} {H : Hp} : ∀ {vs ws : List V} {ds es : List PyData}, DzAll K H vs ds → DzAll K H ws es → DzAll K H (vs ++ ws) (ds ++ es)
  | _, _, _, _, .nil, b => b
  | _, _, _, _, .cons h t, b => .cons h (dzAll_append t b)
theorem dz_bool {K : PySem.W.Frag} {H : Hp} {v : V} {b : Bool} (h : Dz K H v (.bool b)) : v = .bl b := by cases h; rfl
theorem dz_int {K : PySem.W.Frag} {H : Hp} {v : V} {b : Int} (h : Dz K H v (.int b)) : v = .int b := by cases h; rfl
theorem dz_str {K : PySem.W.Frag} {H : Hp} {v : V} {b : Str} (h : Dz K H v (.str b)) : v = .str b := by cases h; rfl
/-! what the heap reads of it -/
theorem pairs_keys {P : Program} {w : World} {h : Heap} : ∀ {es : List DictEntry} {kvs : List (Key × Value)}, Pairs (mixKind P w) es kvs → ∃ as, ReadsAll h (es.map (·.key)) (kvs.map fun p => kD p.1) as
  | _, _, .nil => ⟨_, .nil⟩
  | _, _, .cons hk _ t => by
    obtain ⟨as, r⟩ := pairs_keys t
    rename_i e kv es kvs _
    rcases keyIs_shape (show keyIs kv.1 e.key = true from hk) with ⟨i, t, e1, e2⟩ | ⟨x, t, e1, e2⟩
    · refine ⟨[] ++ as, ?_⟩
      show ReadsAll h (e.key :: es.map (·.key)) (kD kv.1 :: kvs.map fun p => kD p.1) _
      rw [e1, e2]
      exact .cons (.int i t) r
    · refine ⟨[] ++ as, ?_⟩
      show ReadsAll h (e.key :: es.map (·.key)) (kD kv.1 :: kvs.map fun p => kD p.1) _
      rw [e1, e2]
      exact .cons (.str x t) r
theorem pairs_vals {P : Program} {w : World} : ∀ {es : List DictEntry} {kvs : List (Key × Value)}, Pairs (mixKind P w) es kvs → es.map (·.val) = kvs.map (·.2)
  | _, _, .nil => rfl
  | _, _, .cons _ hv t => by
    rw [List.map_cons, List.map_cons, hv, pairs_vals t]
theorem kv_keys {κ : Type} : ∀ {a : List (κ × V)} {b : List (κ × Value)}, KV a b → a.map (·.1) = b.map (·.1) ∧ Vals (a.map (·.2)) (b.map (·.2))
  | _, _, .nil => ⟨rfl, .nil⟩
  | _, _, .cons r t => by
    obtain ⟨h1, h2⟩ := kv_keys t
    exact ⟨by rw [List.map_cons, List.map_cons, r.1, h1], .cons r.2 h2⟩
section
variable {X : Cx} {pins : List (Addr × Obj)} {σ : L2.St} {H : Hp} {s : Shared}
theorem dct_at (I : Inv X pins σ H s) {a : Addr} {kvs : List (Key × V)} (h : H a = some (.dK kvs)) : (a == sysModules) = false ∧ ∃ (vs : List (Key × Value)) (o : Obj) (es : Array DictEntry) (ep : Nat),
    kvs.map (·.1) = vs.map (·.1) ∧ Vals (kvs.map (·.2)) (vs.map (·.2)) ∧ s.heap.get? a = some o ∧ o.cls = .type "dict" ∧ o.data = .dict es ep ∧ Pairs (mixKind X.prog X.w) es.toList vs := by
  obtain ⟨_, z, vs, kv, o, es, ep, h1, h2, h3, _, h5, _⟩ := dk_of I.hok h
  obtain ⟨k1, k2⟩ := kv_keys kv
  exact ⟨z, vs, o, es, ep, k1, k2, h1, h2.1, h3, h5⟩
mutual
theorem Dz.reads (I : Inv X pins σ H s) : ∀ (d : PyData) (v : V) (u : Value), Dz X.K H v d → RelV v u → ∃ as, Reads s.heap u d as
  | .none, _, _, h, r => by
    cases h
    cases r
    exact ⟨_, Reads.none⟩
  | .bool b, _, _, h, r => by
    cases h
    cases r
    exact ⟨_, Reads.bool b⟩
  | .int i, _, _, h, r => by
    cases h
    obtain ⟨t, rfl⟩ := r
    exact ⟨_, Reads.int i t⟩
  | .str x, _, _, h, r => by
    cases h
    obtain ⟨t, rfl⟩ := r
    exact ⟨_, Reads.str x t⟩
  | .list ds, _, _, h, r => by
    cases h with
    | lst hs ha =>
      cases r
      obtain ⟨its, rv, ⟨o, n, ho, hc, _, hd⟩, _⟩ := I.list hs
      obtain ⟨as, hr⟩ := Dz.readsAll I ds _ its ha rv
      exact ⟨_, Reads.list ho hc hd hr⟩
  | .tuple ds, _, _, h, r => by
    cases h with
    | tup hs ha =>
      cases r
      obtain ⟨its, rv, ⟨o, ho, hc, n, hd⟩, _⟩ := I.tuple hs
      obtain ⟨as, hr⟩ := Dz.readsAll I ds _ its ha rv
      exact ⟨_, Reads.tuple ho hc hd hr⟩
  | .dict ps, _, _, h, r => by
    cases h with
    | dct h1 h2 h3 =>
      cases r
      obtain ⟨_, vs, o, es, ep, k1, k2, h4, h5, h6, h7⟩ := dct_at I h1
      obtain ⟨as, r1⟩ := pairs_keys (h := s.heap) h7
      obtain ⟨bs, r2⟩ := Dz.readsKv I ps _ _ h3 k2
      rw [← pairs_vals h7] at r2
      have ek : ps.map (·.1) = vs.map fun p => kD p.1 := by
        rw [h2, show (fun p : Key × V => kD p.1) = kD ∘ (·.1) from rfl, ← List.map_map, k1, List.map_map]
        rfl
      rw [← ek] at r1
      exact ⟨_, Reads.dict h4 h5 h6 r1 r2⟩
theorem Dz.readsAll (I : Inv X pins σ H s) : ∀ (ds : List PyData) (vs : List V) (us : List Value), DzAll X.K H vs ds → Vals vs us → ∃ as, ReadsAll s.heap us ds as
  | [], _, _, h, r => by
    cases h
    cases r
    exact ⟨_, ReadsAll.nil⟩
  | d :: ds, _, _, h, r => by
    cases h with
    | cons h1 h2 =>
      cases r with
      | cons r1 r2 =>
        obtain ⟨as, q1⟩ := Dz.reads I d _ _ h1 r1
        obtain ⟨bs, q2⟩ := Dz.readsAll I ds _ _ h2 r2
        exact ⟨_, ReadsAll.cons q1 q2⟩
theorem Dz.readsKv (I : Inv X pins σ H s) : ∀ (ps : List (PyData × PyData)) (vs : List V) (us : List Value), DzAll X.K H vs (ps.map (·.2)) → Vals vs us → ∃ as, ReadsAll s.heap us (ps.map (·.2)) as
  | [], _, _, h, r => by
    cases h
    cases r
    exact ⟨_, ReadsAll.nil⟩
  | (k, d) :: ds, _, _, h, r => by
    cases h with
    | cons h1 h2 =>
      cases r with
      | cons r1 r2 =>
        obtain ⟨as, q1⟩ := Dz.reads I d _ _ h1 r1
        obtain ⟨bs, q2⟩ := Dz.readsKv I ds _ _ h2 r2
        exact ⟨_, ReadsAll.cons q1 q2⟩
end
/-! what repr shows of it -/
def ShK (P : Program) (w : World) (h : Heap) (u : Value) (d : PyData) : Prop := ∃ bs, ReadAtMost h d.depth bs ∧ ReprK P w bs h d.depth u d.shown
theorem keys_show {P : Program} {w : World} {h : Heap} : ∀ {es : List DictEntry} {kvs : List (Key × Value)} {ks : List PyData}, Pairs (mixKind P w) es kvs → ks = kvs.map (fun p => kD p.1) → PyData.showableAll ks = true → (∀ t ∈ PyData.shownAll ks, t.length ≤ sizeLine) →
    ReprAllK P w [] h 0 (es.map (·.key)) (PyData.shownAll ks)
  | _, _, _, .nil, e, _, _ => by
    subst e
    exact .nil
  | _, _, _, .cons hk _ t, e, hs, hz => by
    rename_i e0 kv es kvs _
    subst e
    have hs' : (kD kv.1).showable = true ∧ PyData.showableAll (kvs.map fun p => kD p.1) = true := by simpa [PyData.showableAll] using hs
    have ih := keys_show (h := h) t rfl hs'.2 (fun t ht => hz t (by
      show t ∈ PyData.shown (kD kv.1) :: PyData.shownAll (kvs.map fun p => kD p.1)
      exact List.mem_cons_of_mem _ ht))
    have hz0 := hz (PyData.shown (kD kv.1)) (by
      show _ ∈ PyData.shown (kD kv.1) :: PyData.shownAll (kvs.map fun p => kD p.1)
      exact List.mem_cons_self ..)
    show ReprAllK P w [] h 0 (e0.key :: es.map (·.key)) (PyData.shown (kD kv.1) :: PyData.shownAll (kvs.map fun p => kD p.1))
    refine .cons ?_ ih
    rcases keyIs_shape (show keyIs kv.1 e0.key = true from hk) with ⟨i, t, e1, e2⟩ | ⟨x, t, e1, e2⟩
    · rw [e2]
      rw [e1] at hs' ⊢
      exact .of_is (ReprIs.int t (by simpa [kD, PyData.showable] using hs'.1)) _ _ _
    · rw [e2]
      rw [e1] at hz0 ⊢
      exact .of_is (ReprIs.str x t hz0) _ _ _
mutual
theorem Dz.show_ (I : Inv X pins σ H s) : ∀ (d : PyData) (v : V) (u : Value), Dz X.K H v d → RelV v u → d.showable = true → d.shown.length ≤ sizeLine → ShK X.prog X.w s.heap u d
  | .none, _, _, h, r, _, _ => by
    cases h
    cases r
    exact ⟨[], (fun _ h => nomatch h), .of_is ReprIs.none _ _ _⟩
  | .bool b, _, _, h, r, _, _ => by
    cases h
    cases r
    exact ⟨[], (fun _ h => nomatch h), .of_is (ReprIs.bool b) _ _ _⟩
  | .int i, _, _, h, r, hs, _ => by
    cases h
    obtain ⟨t, rfl⟩ := r
    exact ⟨[], (fun _ h => nomatch h), .of_is (ReprIs.int t (by simpa [PyData.showable] using hs)) _ _ _⟩
  | .str x, _, _, h, r, _, hz => by
    cases h
    obtain ⟨t, rfl⟩ := r
    exact ⟨[], (fun _ h => nomatch h), .of_is (ReprIs.str x t hz) _ _ _⟩
  | .list ds, _, _, h, r, hs, hz => by
    cases h with
    | lst hq ha =>
      cases r
      obtain ⟨its, rv, ⟨o, n, ho, hc, _, hd⟩, _⟩ := I.list hq
      obtain ⟨as, hr⟩ := Dz.readsAll I ds _ its ha rv
      have hz' : (listText (PyData.shownAll ds)).length ≤ sizeLine := hz
      obtain ⟨bs, hb, hk⟩ := Dz.showAll I ds _ its ha rv (by simpa [PyData.showable] using hs) (fun t ht => Nat.le_trans (listText_mem_le ht) hz')
      have rd := Reads.list ho hc hd hr
      have hna := not_mem_of_deeper rd (by simp only [PyData.depth]; omega) hb
      refine ⟨_, ReadAtMost.cons rd (by simp only [PyData.depth]; omega) hb, ?_⟩
      simp only [PyData.depth, PyData.shown]
      cases its with
      | nil =>
        cases hr
        simp only [PyData.shownAll, listText_nil]
        exact ReprK.listEmpty ho hc hd
      | cons x l => exact ReprK.list ho hc hd hna (by simpa using hk.length_eq) (fun i y e => hk.item i y (by simpa using e))
  | .tuple ds, _, _, h, r, hs, hz => by
    cases h with
    | tup hq ha =>
      cases r
      obtain ⟨its, rv, ⟨o, ho, hc, n, hd⟩, _⟩ := I.tuple hq
      obtain ⟨as, hr⟩ := Dz.readsAll I ds _ its ha rv
      have hz' : (tupleText (PyData.shownAll ds)).length ≤ sizeLine := hz
      obtain ⟨bs, hb, hk⟩ := Dz.showAll I ds _ its ha rv (by simpa [PyData.showable] using hs) (fun t ht => Nat.le_trans (tupleText_mem_le ht) hz')
      have rd := Reads.tuple ho hc hd hr
      have hna := not_mem_of_deeper rd (by simp only [PyData.depth]; omega) hb
      refine ⟨_, ReadAtMost.cons rd (by simp only [PyData.depth]; omega) hb, ?_⟩
      simp only [PyData.depth, PyData.shown]
      exact ReprK.tuple ho hc hd hna hk
  | .dict ps, v, u, h, r, hs, hz => by
    have hh := h
    have hr0 := r
    cases h with
    | dct h1 h2 h3 =>
      cases r
      obtain ⟨hsys, vs, o, es, ep, k1, k2, h4, h5, h6, h7⟩ := dct_at I h1
      have hz' : (dictText (PyData.shownKv ps)).length ≤ sizeLine := hz
      obtain ⟨hs1, hs2⟩ := PyData.showableKv_split ps (by simpa [PyData.showable] using hs)
      have ek : ps.map (·.1) = vs.map fun p => kD p.1 := by
        rw [h2, show (fun p : Key × V => kD p.1) = kD ∘ (·.1) from rfl, ← List.map_map, k1, List.map_map]
        rfl
      have kk := keys_show (h := s.heap) h7 ek hs1 (fun t ht => let ⟨p, hp, hl⟩ := PyData.shownKv_key_le ps t ht; Nat.le_trans hl (Nat.le_trans (dictText_mem_le hp) hz'))
      obtain ⟨b2, hb2, hk2⟩ := Dz.showKv I ps _ _ h3 k2 hs2 (fun t ht => let ⟨p, hp, hl⟩ := PyData.shownKv_val_le ps t ht; Nat.le_trans hl (Nat.le_trans (dictText_mem_le hp) hz'))
      rw [← pairs_vals h7] at hk2
      obtain ⟨as, rd⟩ := Dz.reads I (.dict ps) _ _ hh hr0
      have hb : ReadAtMost s.heap (PyData.depthKv ps) b2 := hb2.mono (PyData.depthAll_vals_le ps)
      have hna := not_mem_of_deeper rd (by simp only [PyData.depth]; omega) hb
      refine ⟨_, ReadAtMost.cons rd (by simp only [PyData.depth]; omega) hb, ?_⟩
      simp only [PyData.depth, PyData.shown, PyData.shownKv_eq]
      exact ReprK.dict h4 h5 h6 hsys hna (ReprEntriesK.of_two es.toList _ _ (kk.more_le (fun b hb => by simp at hb) (Nat.zero_le _)) (hk2.more_le (fun b hb => hb) (PyData.depthAll_vals_le ps)))
theorem Dz.showAll (I : Inv X pins σ H s) : ∀ (ds : List PyData) (vs : List V) (us : List Value), DzAll X.K H vs ds → Vals vs us → PyData.showableAll ds = true → (∀ t ∈ PyData.shownAll ds, t.length ≤ sizeLine) →
    ∃ bs, ReadAtMost s.heap (PyData.depthAll ds) bs ∧ ReprAllK X.prog X.w bs s.heap (PyData.depthAll ds) us (PyData.shownAll ds)
  | [], _, _, h, r, _, _ => by
    cases h
    cases r
    exact ⟨[], (fun _ h => nomatch h), .nil⟩
  | d :: ds, _, _, h, r, hs, hz => by
    cases h with
    | cons h1 h2 =>
      cases r with
      | cons r1 r2 =>
        have hs' : d.showable = true ∧ PyData.showableAll ds = true := by simpa [PyData.showableAll] using hs
        obtain ⟨b1, hb1, k1⟩ := Dz.show_ I d _ _ h1 r1 hs'.1 (hz _ (by simp only [PyData.shownAll]; exact List.mem_cons_self ..))
        obtain ⟨b2, hb2, k2⟩ := Dz.showAll I ds _ _ h2 r2 hs'.2 (fun t ht => hz t (by simp only [PyData.shownAll]; exact List.mem_cons_of_mem _ ht))
        refine ⟨b1 ++ b2, (hb1.mono (by simp only [PyData.depthAll]; exact Nat.le_max_left _ _)).append (hb2.mono (by simp only [PyData.depthAll]; exact Nat.le_max_right _ _)), ?_⟩
        simp only [PyData.depthAll, PyData.shownAll]
        exact .cons ((k1.more fun b hb => List.mem_append_left _ hb).level_le (Nat.le_max_left _ _)) (k2.more_le (fun b hb => List.mem_append_right _ hb) (Nat.le_max_right _ _))
theorem Dz.showKv (I : Inv X pins σ H s) : ∀ (ps : List (PyData × PyData)) (vs : List V) (us : List Value), DzAll X.K H vs (ps.map (·.2)) → Vals vs us → PyData.showableAll (ps.map (·.2)) = true → (∀ t ∈ PyData.shownAll (ps.map (·.2)), t.length ≤ sizeLine) →
    ∃ bs, ReadAtMost s.heap (PyData.depthAll (ps.map (·.2))) bs ∧ ReprAllK X.prog X.w bs s.heap (PyData.depthAll (ps.map (·.2))) us (PyData.shownAll (ps.map (·.2)))
  | [], _, _, h, r, _, _ => by
    cases h
    cases r
    exact ⟨[], (fun _ h => nomatch h), .nil⟩
  | (k, d) :: ds, _, _, h, r, hs, hz => by
    cases h with
    | cons h1 h2 =>
      cases r with
      | cons r1 r2 =>
        have hs' : d.showable = true ∧ PyData.showableAll (ds.map (·.2)) = true := by simpa [PyData.showableAll] using hs
        obtain ⟨b1, hb1, k1⟩ := Dz.show_ I d _ _ h1 r1 hs'.1 (hz _ (by simp only [List.map_cons, PyData.shownAll]; exact List.mem_cons_self ..))
        obtain ⟨b2, hb2, k2⟩ := Dz.showKv I ds _ _ h2 r2 hs'.2 (fun t ht => hz t (by simp only [List.map_cons, PyData.shownAll]; exact List.mem_cons_of_mem _ ht))
        refine ⟨b1 ++ b2, (hb1.mono (by simp only [List.map_cons, PyData.depthAll]; exact Nat.le_max_left _ _)).append (hb2.mono (by simp only [List.map_cons, PyData.depthAll]; exact Nat.le_max_right _ _)), ?_⟩
        simp only [List.map_cons, PyData.depthAll, PyData.shownAll]
        exact .cons ((k1.more fun b hb => List.mem_append_left _ hb).level_le (Nat.le_max_left _ _)) (k2.more_le (fun b hb => List.mem_append_right _ hb) (Nat.le_max_right _ _))
end
end
/-- data that repr takes -/
def FitZ (d : PyData) : Prop := d.showable = true ∧ d.depth ≤ 100 ∧ d.shown.length ≤ sizeLine
theorem fitZ_of {d : PyData} (h : Fits d) : FitZ d := by
  have hl := h.len
  obtain ⟨B, D, W, sm, _, hD, _⟩ := h
  exact ⟨sm.show_, Nat.le_trans sm.dep hD, hl⟩
def rReprZ (K : PySem.W.Frag) : List V → Hp → VK → Prop := fun xs H Q => ∃ (x : V) (d : PyData), xs = [x] ∧ Dz K H x d ∧ FitZ d ∧ Q (.str d.shown) H
theorem call_reprZ {X : Cx} (hg : X.A.guards = some []) (hu : X.A.units + 200 < cLine) : CallR X (.builtin "repr") (rReprZ X.K) := by
  intro pins s σ H xs us Q I r h
  obtain ⟨x, d, rfl, hd, ⟨hs, hD, hl⟩, q⟩ := h
  obtain ⟨u, rfl, rx⟩ := vals1 r
  have fin : ∀ tk' tk, EP X pins σ Q (.str d.shown tk) { s with toks := tk' } := fun tk' tk => ⟨.str _, H, I.tok _, ⟨_, rfl⟩, q⟩
  have finH : ∀ h' u tk, (∀ b o, s.heap.get? b = some o → h'.get? b = some o) → EP X pins σ Q (.str d.shown u) { s with heap := h', toks := tk } := fun h' u tk k => ⟨.str _, H, I.un (Un.kept k) (I.hok.kept k), ⟨_, rfl⟩, q⟩
  have hd0 := hd
  cases hd with
  | non =>
    obtain rfl : u = Value.none := rx
    exact PySem.P.repr_of_none (fin _ _)
  | bl b =>
    obtain rfl : u = Value.bool b := rx
    exact PySem.P.repr_of_bool (fin _ _)
  | int i =>
    obtain ⟨t, rfl⟩ := rx
    exact PySem.P.repr_of_int (of_decide_eq_true hs) (fin _ _)
  | str y =>
    obtain ⟨t, rfl⟩ := rx
    exact PySem.P.repr_of_str (fin _ _) hl
  | lst hq ha =>
    rename_i a xs ds
    obtain rfl : u = Value.ref a := rx
    obtain ⟨its, rv, ⟨o, n, ho, hc, _, hda⟩, _⟩ := I.list hq
    obtain ⟨as, hr⟩ := Dz.readsAll I ds _ its ha rv
    have hz' : (listText (PyData.shownAll ds)).length ≤ sizeLine := hl
    obtain ⟨bs, hb, hk⟩ := Dz.showAll I ds _ its ha rv (by simpa [PyData.showable] using hs) (fun t ht => Nat.le_trans (listText_mem_le ht) hz')
    have rd := Reads.list ho hc hda hr
    have hna := not_mem_of_deeper rd (by simp only [PyData.depth]; omega) hb
    simp only [PyData.depth] at hD
    refine PySem.call_repr_slot (by omega) ⟨o, ho, hc⟩ F.slot_list_repr.toG ?_
    cases its with
    | nil =>
      cases hr
      simp only [PyData.shown, PyData.shownAll, listText_nil] at finH
      exact call_list_repr_empty ⟨o, ho, hc⟩ ho hda ⟨_, _, rfl, finH s.heap _ _ fun _ _ e => e⟩
    | cons x l =>
      exact call_list_reprK ho hc hda hna (by simpa using hk.length_eq) (fun i y e => hk.item i y (by simpa using e)) hg (fun b _ => Clear.nil b) (by show X.A.units + 1 + (PyData.depthAll ds + 1) < cLine; omega) (fun _ _ e => e) (fun h' u tk k => ⟨_, _, rfl, finH h' u tk k⟩) hz'
  | tup hq ha =>
    rename_i a xs ds
    obtain rfl : u = Value.ref a := rx
    obtain ⟨its, rv, ⟨o, ho, hc, n, hda⟩, _⟩ := I.tuple hq
    obtain ⟨as, hr⟩ := Dz.readsAll I ds _ its ha rv
    have hz' : (tupleText (PyData.shownAll ds)).length ≤ sizeLine := hl
    obtain ⟨bs, hb, hk⟩ := Dz.showAll I ds _ its ha rv (by simpa [PyData.showable] using hs) (fun t ht => Nat.le_trans (tupleText_mem_le ht) hz')
    have rd := Reads.tuple ho hc hda hr
    have hna := not_mem_of_deeper rd (by simp only [PyData.depth]; omega) hb
    simp only [PyData.depth] at hD
    refine PySem.call_repr_slot (by omega) ⟨o, ho, hc⟩ F.slot_tuple_repr ?_
    exact call_tuple_reprK ho hc hda hna hk hg (fun b _ => Clear.nil b) (by show X.A.units + 1 + (PyData.depthAll ds + 1) < cLine; omega) (fun _ _ e => e) (fun h' u tk k => ⟨_, _, rfl, finH h' u tk k⟩) hz'
  | dct h1 h2 h3 =>
    rename_i a kvs ps
    obtain rfl : u = Value.ref a := rx
    obtain ⟨hsys, vs, o, es, ep, k1, k2, h4, h5, h6, h7⟩ := dct_at I h1
    have hz' : (dictText (PyData.shownKv ps)).length ≤ sizeLine := hl
    obtain ⟨hs1, hs2⟩ := PyData.showableKv_split ps (by simpa [PyData.showable] using hs)
    have ek : ps.map (·.1) = vs.map fun p => kD p.1 := by
      rw [h2, show (fun p : Key × V => kD p.1) = kD ∘ (·.1) from rfl, ← List.map_map, k1, List.map_map]
      rfl
    have kk := keys_show (h := s.heap) h7 ek hs1 (fun t ht => let ⟨p, hp, hl⟩ := PyData.shownKv_key_le ps t ht; Nat.le_trans hl (Nat.le_trans (dictText_mem_le hp) hz'))
    obtain ⟨b2, hb2, hk2⟩ := Dz.showKv I ps _ _ h3 k2 hs2 (fun t ht => let ⟨p, hp, hl⟩ := PyData.shownKv_val_le ps t ht; Nat.le_trans hl (Nat.le_trans (dictText_mem_le hp) hz'))
    rw [← pairs_vals h7] at hk2
    obtain ⟨as, rd⟩ := Dz.reads I (.dict ps) _ _ hd0 rfl
    have hb : ReadAtMost s.heap (PyData.depthKv ps) b2 := hb2.mono (PyData.depthAll_vals_le ps)
    have hna := not_mem_of_deeper rd (by simp only [PyData.depth]; omega) hb
    simp only [PyData.depth] at hD
    simp only [PyData.shown, PyData.shownKv_eq] at finH
    refine PySem.call_repr_slot (by omega) ⟨o, h4, h5⟩ F.slot_dict_repr ?_
    exact call_dict_reprK h4 h5 h6 hsys hna (ReprEntriesK.of_two es.toList _ _ (kk.more_le (fun b hb => by simp at hb) (Nat.zero_le _)) (hk2.more_le (fun b hb => hb) (PyData.depthAll_vals_le ps))) hg (fun b _ => Clear.nil b) (by show X.A.units + 1 + (PyData.depthKv ps + 1) < cLine; omega) (fun _ _ e => e) (fun h' u tk k => ⟨_, _, rfl, finH h' u tk k⟩) (by rw [← PyData.shownKv_eq]; exact hz')
end Wn
/-! what comes of a lambda that is called in a try: its value itself, or an error's word and field -/
namespace Wn
open PySem PySem.Spec PyProof.Rows L2 LamX
def TTh (es : List (Addr × Str × (V → HO))) : (XK → Hp → VK → Prop) → Hp → VK → Prop := fun tl H Q =>
  ∀ (H2 : Hp) (Qn : VK) (E : XK), Gr [] H H2 → (∀ v H3, Q v H3 → Qn v H3) →
    (∀ (C d : Addr) (f : Str) (mk : V → HO) (v : V) (H3 : Hp), (C, f, mk) ∈ es → H3 d = some (.xd [(f, v)]) → (∀ t H4, Gr [] H3 H4 → H4 t = some (mk v) → Q (.ref t) H4) → E (.ref C) (some d) H3) → tl E H2 Qn
section
variable {K : PySem.W.Frag} {T : List (Addr × Str)} {σ : L2.St} {H : Hp} {es : List (Addr × Str × (V → HO))} {t : XK → TE} {d : PyData}
theorem et_hV (h : ∀ (E : XK) (H1 : Hp), ExtN H H1 → ∀ Q : VK, (∀ v H2, Gr [] H1 H2 → Dp K H2 v d → Q v H2) → t E σ H1 Q) : EvT K T (tLam T (TTh es) t) σ H d := fun H1 g0 t1 Q q =>
  ⟨t1, fun H2 g2 t2 H3 Qn E g3 kn _ => h E H3 ((g0.trans g2).trans (extOf g3)) Qn fun v H4 g4 a => kn v H4 (q v H4 (g2.trans (extOf (g3.trans g4))) (tabsGr t2 (g3.trans g4)) a)⟩
theorem et_hX {C : Addr} {f w : Str} {mk : V → HO} (hm : (C, f, mk) ∈ es) (hk : ∀ v, mk v = .tup [.str w, v])
    (h : ∀ (E : XK) (H1 : Hp), ExtN H H1 → ∀ (Q : VK), (∀ (dd : Addr) (v : V) H2, Gr [] H1 H2 → H2 dd = some (.xd [(f, v)]) → Dp K H2 v d → E (.ref C) (some dd) H2) → t E σ H1 Q) : EvT K T (tLam T (TTh es) t) σ H (.tuple [.str w, d]) := fun H1 g0 t1 Q q =>
  ⟨t1, fun H2 g2 t2 H3 Qn E g3 kn ke => h E H3 ((g0.trans g2).trans (extOf g3)) Qn fun dd v H4 g4 hd a => ke C dd f mk v H4 hm hd fun t' H5 g5 h5 =>
    q _ _ (g2.trans (extOf ((g3.trans g4).trans g5))) (tabsGr t2 ((g3.trans g4).trans g5)) (dp_tup (by rw [h5, hk]) (.cons (.str _) (.cons (Dp.kp (Kp.of g5) a) .nil)))⟩
theorem et_hXl {C : Addr} {f w : Str} {mk : V → HO} (hm : (C, f, mk) ∈ es) (hk : ∀ v, mk v = .lst [.str w, v])
    (h : ∀ (E : XK) (H1 : Hp), ExtN H H1 → ∀ (Q : VK), (∀ (dd : Addr) (v : V) H2, Gr [] H1 H2 → H2 dd = some (.xd [(f, v)]) → Dp K H2 v d → E (.ref C) (some dd) H2) → t E σ H1 Q) : EvT K T (tLam T (TTh es) t) σ H (.list [.str w, d]) := fun H1 g0 t1 Q q =>
  ⟨t1, fun H2 g2 t2 H3 Qn E g3 kn ke => h E H3 ((g0.trans g2).trans (extOf g3)) Qn fun dd v H4 g4 hd a => ke C dd f mk v H4 hm hd fun t' H5 g5 h5 =>
    q _ _ (g2.trans (extOf ((g3.trans g4).trans g5))) (tabsGr t2 ((g3.trans g4).trans g5)) (dp_lst (by rw [h5, hk]) (.cons (.str _) (.cons (Dp.kp (Kp.of g5) a) .nil)))⟩
/-- data beside no lambda -/
theorem et_ew {te : TE} (h : ∀ H, EvW K [] te σ H d) : EvT K T te σ H d := et_of fun H => (h H).evd
theorem et_ewV {te : TE} (h : ∀ H', ExtN H H' → EvW K [] te σ H' d) : EvT K T te σ H d := fun H1 g t1 Q q => h H1 g H1 (Gr.refl _ _) (fun a m => by simp at m) Q fun v H2 g2 e => q v H2 (extOf g2) (tabsGr t1 g2) (Dp.kp hid_out e)
theorem dpA_rep {H : Hp} {vs : List V} {ds : List PyData} (a : DpAll K H vs ds) : ∀ k : Nat, DpAll K H (List.replicate k vs).flatten (List.replicate k ds).flatten
  | 0 => .nil
  | k + 1 => by
    rw [List.replicate_succ, List.replicate_succ, List.flatten_cons, List.flatten_cons]
    exact dpAll_append a (dpA_rep a k)
theorem etl_rep {te ti : TE} {ds : List PyData} {k : Nat} (h : EvTL K T te σ H ds) (hi : EvT K T ti σ H (.int (k : Nat))) (hk : k ≤ 1000 := by exact Nat.le_of_ble_eq_true rfl) (hz : ds.length ≤ 1000 := by exact Nat.le_of_ble_eq_true rfl) : EvTL K T (tOp rRep te ti) σ H (List.replicate k ds).flatten := fun H1 g t1 Q q =>
  h H1 g t1 _ fun p xs H2 g2 t2 e2 a2 => hi H2 (g.trans g2) t2 _ fun v H3 g3 t3 e3 => by
    obtain rfl := dp_int e3
    have hl := dpAll_len a2
    have hm : xs.length * k ≤ 1000 * 1000 := Nat.mul_le_mul (by omega) hk
    refine ⟨p, (k : Int), xs, rfl, rfl, ExtN.lst g3 e2, by omega, by omega, ?_, fun r nr => ?_⟩
    · rw [Int.toNat_natCast]
      exact Nat.le_trans hm (by decide)
    · rw [Int.toNat_natCast]
      have gr := Gr.new (W := []) (o := .lst (List.replicate k xs).flatten) nr
      exact q r _ _ ((g2.trans g3).trans (extOf gr)) (tabsGr t3 gr) upd_same (dpA_rep (DpAll.kp (kpExt (g3.trans (extOf gr))) a2) k)
end
end Wn
/-! rules over data with dicts -/
namespace Wn
open PySem PySem.Spec PyProof.Rows L2 LamX
def rNotInT (K : PySem.W.Frag) : R2 := fun x y H Q => ∃ d ds, Dp K H x d ∧ Dp K H y (.tuple ds) ∧ SeqAt.shaped d = true ∧ SeqAt.shaped (.list ds) = true ∧ Q (.bl (!ds.any fun z => PyData.eqv z d)) H
theorem op_notInT {X : Cx} (hu : X.A.units + 200 < cLine) : OpR X (compareOp .NotIn) (rNotInT X.K) := by
  intro pins s σ H x y v u Q I rx ry h
  obtain ⟨d, ds, hd, he, sd, se, q⟩ := h
  obtain ⟨as, r1⟩ := Dp.reads I d x v hd rx
  obtain ⟨bs, r2⟩ := Dp.reads I (.tuple ds) y u he ry
  exact SeqAt.notIn_tuple_reads r2 r1 (SeqAt.canLay_of_shaped se) (SeqAt.canLay_of_shaped sd) (room_in_shaped sd (by omega)) ⟨.bl _, H, I, rfl, q⟩
theorem op_inDL {X : Cx} (hu : X.A.units + 200 < cLine) : OpR X (compareOp .In) (rInD X.K) := op_inD (by omega)
/-- a tuple of any things == () -/
def rEqT0 (K : PySem.W.Frag) : R2 := fun x y H Q => ∃ (a b : Addr) (xs : List V), x = .ref a ∧ y = .ref b ∧ SqT K H a xs ∧ SqT K H b [] ∧ Q (.bl xs.isEmpty) H
theorem op_eqT0 {X : Cx} (hu : X.A.units + 200 < cLine) : OpR X (compareOp .Eq) (rEqT0 X.K) := by
  intro pins s σ H x y v u Q I rx ry h
  obtain ⟨a, b, xs, rfl, rfl, ha, hb, q⟩ := h
  cases rx
  cases ry
  obtain ⟨its, rv, ⟨o, ho, hc, n, hd⟩, _⟩ := I.tuple ha
  obtain ⟨its2, rv2, ⟨o2, ho2, hc2, n2, hd2⟩, _⟩ := I.tuple hb
  cases rv2
  have hl : s.heap.IsTuple a its.toArray := ⟨_, ho, hc, _, hd⟩
  have hl' : s.heap.IsTuple b (([] : List Value).toArray) := ⟨_, ho2, hc2, _, hd2⟩
  have r := SeqAt.RcAt.tuples (A := X.A) (e := fun _ => true) hl hl' (by omega) (fun j _ j2 => absurd j2 (by simp))
  refine r X.prog X.w _ _ ⟨.bl xs.isEmpty, H, I, ?_, q⟩
  have hlen := rv.length
  cases its with
  | nil =>
    cases xs with
    | nil => rfl
    | cons y ys => cases rv
  | cons z zs =>
    cases xs with
    | nil => cases rv
    | cons y ys => rfl
/-! what type a thing is of -/
def tyD : PyData → String
  | .none => "NoneType"
  | .bool _ => "bool"
  | .int _ => "int"
  | .str _ => "str"
  | .list _ => "list"
  | .tuple _ => "tuple"
  | .dict _ => "dict"
theorem sqT_ty {K : PySem.W.Frag} {H : Hp} {a : Addr} {xs : List V} (h : SqT K H a xs) : TyX K H (.ref a) (.type "tuple") := by
  rcases h with (h | ⟨o, h⟩) | ⟨o, its, n, h, c, _⟩
  · exact .base (.tup h)
  · exact .fTuple h
  · exact .kTuple h c
theorem sqL_ty {K : PySem.W.Frag} {H : Hp} {a : Addr} {xs : List V} (h : SqL K H a xs) : TyX K H (.ref a) (.type "list") := by
  rcases h with (h | ⟨o, h⟩) | ⟨o, its, n, h, c, _⟩
  · exact .base (.lst h)
  · exact .base (.frz h)
  · exact .kList h c
theorem dz_ty {K : PySem.W.Frag} {H : Hp} {v : V} {d : PyData} (h : Dz K H v d) : TyX K H v (.type (tyD d)) ∧ tyD d ∈ tyNames := by
  cases h with
  | non => exact ⟨.base .non, by show "NoneType" ∈ tyNames; decide⟩
  | bl b => exact ⟨.base (.bl b), by show "bool" ∈ tyNames; decide⟩
  | int i => exact ⟨.base (.int i), by show "int" ∈ tyNames; decide⟩
  | str x => exact ⟨.base (.str x), by show "str" ∈ tyNames; decide⟩
  | lst s a => exact ⟨sqL_ty s, by show "list" ∈ tyNames; decide⟩
  | tup s a => exact ⟨sqT_ty s, by show "tuple" ∈ tyNames; decide⟩
  | dct h1 h2 h3 => exact ⟨.base (.dK h1), by show "dict" ∈ tyNames; decide⟩
def isI : PyData → Bool
  | .int _ => true
  | _ => false
def isW (lo hi : Int) : PyData → Bool
  | .int i => decide (lo ≤ i) && decide (i ≤ hi)
  | _ => false
theorem rIs_dz {K : PySem.W.Frag} {H : Hp} {v : V} {d : PyData} {n : String} {Q : VK} (h : Dz K H v d) (hn : n ∈ qyNames) (q : Q (.bl (isB (tyD d) n)) H) : rIs K [v, .ty n] H Q :=
  ⟨v, n, rfl, tyD d, ⟨(dz_ty h).1, (dz_ty h).2, hn⟩, q⟩
theorem tyD_nn {d : PyData} (h1 : isB (tyD d) "int" = true) (h2 : isB (tyD d) "bool" = false) : ∃ i, d = .int i := by
  cases d with
  | int i => exact ⟨i, rfl⟩
  | none => cases h1
  | bool b => cases h2
  | str x => cases h1
  | list x => cases h1
  | tuple x => cases h1
  | dict x => cases h1
theorem isI_of {d : PyData} : isI d = (isB (tyD d) "int" && !isB (tyD d) "bool") := by cases d <;> rfl
theorem isTup_of {d : PyData} (h : isB (tyD d) "tuple" = true) : ∃ ds, d = .tuple ds := by
  cases d with
  | tuple ds => exact ⟨ds, rfl⟩
  | none => cases h
  | bool b => cases h
  | str x => cases h
  | list x => cases h
  | int x => cases h
  | dict x => cases h
theorem isStr_of {d : PyData} (h : isB (tyD d) "str" = true) : ∃ x, d = .str x := by
  cases d with
  | str ds => exact ⟨ds, rfl⟩
  | none => cases h
  | bool b => cases h
  | tuple x => cases h
  | list x => cases h
  | int x => cases h
  | dict x => cases h
theorem dzAll_at {K : PySem.W.Frag} {H : Hp} : ∀ {vs : List V} {ds : List PyData} {i : Nat} {d : PyData}, DzAll K H vs ds → ds[i]? = some d → ∃ v, vs[i]? = some v ∧ Dz K H v d
  | _, _, _, _, .nil, h => by simp at h
  | _, _, 0, _, .cons a _, h => ⟨_, rfl, by
    have : _ = _ := Option.some.inj h
    rw [← this]
    exact a⟩
  | _, _, i + 1, _, .cons _ t, h => by
    obtain ⟨v, h1, h2⟩ := dzAll_at (i := i) t (by simpa using h)
    exact ⟨v, by simpa using h1, h2⟩
theorem dzAll_atV {K : PySem.W.Frag} {H : Hp} {vs : List V} {ds : List PyData} {i : Nat} {v : V} (h : DzAll K H vs ds) (e : vs[i]? = some v) : ∃ d, ds[i]? = some d ∧ Dz K H v d := by
  have hl := dzAll_len h
  have hi : i < ds.length := by
    have := (List.getElem?_eq_some_iff.mp e).1
    omega
  obtain ⟨v2, h1, h2⟩ := dzAll_at h (List.getElem?_eq_getElem hi)
  rw [e] at h1
  cases h1
  exact ⟨_, List.getElem?_eq_getElem hi, h2⟩
theorem dzAll_take {K : PySem.W.Frag} {H : Hp} : ∀ {vs : List V} {ds : List PyData} (j : Nat), DzAll K H vs ds → DzAll K H (vs.take j) (ds.take j)
  | _, _, 0, _ => by
    rw [List.take_zero, List.take_zero]
    exact .nil
  | _, _, j + 1, .nil => .nil
  | _, _, j + 1, .cons a b => .cons a (dzAll_take j b)
theorem dzAll_drop {K : PySem.W.Frag} {H : Hp} : ∀ {vs : List V} {ds : List PyData} (j : Nat), DzAll K H vs ds → DzAll K H (vs.drop j) (ds.drop j)
  | _, _, 0, h => h
  | _, _, j + 1, .nil => .nil
  | _, _, j + 1, .cons a b => dzAll_drop j b
theorem dzAll_ints {K : PySem.W.Frag} {H : Hp} : ∀ {vs : List V} {ns : List Int}, DzAll K H vs (ns.map PyData.int) → vs = ns.map V.int
  | _, [], h => by cases h; rfl
  | _, n :: ns, h => by
    cases h with
    | cons a b => rw [dz_int a, dzAll_ints b]; rfl
theorem allI_ints : ∀ {ds : List PyData}, (∀ d ∈ ds, isI d = true) → ∃ ns : List Int, ds = ns.map PyData.int
  | [], _ => ⟨[], rfl⟩
  | d :: ds, h => by
    obtain ⟨ns, e⟩ := allI_ints fun x hx => h x (List.mem_cons_of_mem _ hx)
    have hd := h d (List.mem_cons_self ..)
    cases d with
    | int i => exact ⟨i :: ns, by rw [e]; rfl⟩
    | none => cases hd
    | bool b => cases hd
    | str x => cases hd
    | list x => cases hd
    | tuple x => cases hd
    | dict x => cases hd
/-! the heap without a part of it -/
theorem hid_gr {W : List Addr} {H H' : Hp} (g : Gr W H H') : Gr [] (hid W H) (hid W H') := fun a o _ e => hid_get (g a _ (hid_inv e).1 (hid_inv e).2) (hid_inv e).1
theorem hid_grO {W : List Addr} {H : Hp} : Gr [] (hid W H) H := fun a o _ e => (hid_inv e).2
theorem Dz.inh {K : PySem.W.Frag} {W : List Addr} {H H' : Hp} {v : V} {d : PyData} (g : Gr W H H') (h : Dz K (hid W H) v d) : Dz K (hid W H') v d := Dz.gr (hid_gr g) h
theorem DzAll.inh {K : PySem.W.Frag} {W : List Addr} {H H' : Hp} {v : List V} {d : List PyData} (g : Gr W H H') (h : DzAll K (hid W H) v d) : DzAll K (hid W H') v d := DzAll.gr (hid_gr g) h
theorem Dz.out {K : PySem.W.Frag} {W : List Addr} {H : Hp} {v : V} {d : PyData} (h : Dz K (hid W H) v d) : Dz K H v d := Dz.gr hid_grO h
theorem DzAll.out {K : PySem.W.Frag} {W : List Addr} {H : Hp} {v : List V} {d : List PyData} (h : DzAll K (hid W H) v d) : DzAll K H v d := DzAll.gr hid_grO h
mutual
theorem Dz.ext {K : PySem.W.Frag} {H H' : Hp} (g : ExtN H H') : ∀ {v : V} {d : PyData}, Dz K H v d → Dz K H' v d
  | _, _, .non => .non
  | _, _, .bl b => .bl b
  | _, _, .int i => .int i
  | _, _, .str x => .str x
  | _, _, .lst h1 h2 => .lst ((kpExt g).sqL h1) (DzAll.ext g h2)
  | _, _, .tup h1 h2 => .tup ((kpExt g).sqT h1) (DzAll.ext g h2)
  | _, _, .dct h1 h2 h3 => .dct (g _ _ h1 (fun _ z => by cases z)) h2 (DzAll.ext g h3)
theorem DzAll.ext {K : PySem.W.Frag} {H H' : Hp} (g : ExtN H H') : ∀ {vs : List V} {ds : List PyData}, DzAll K H vs ds → DzAll K H' vs ds
  | _, _, .nil => .nil
  | _, _, .cons h1 h2 => .cons (Dz.ext g h1) (DzAll.ext g h2)
end
/-! what repr takes, by size -/
structure Sz (d : PyData) (B D W : Nat) : Prop where
  show_ : d.showable = true
  leaf : d.leavesShort B = true
  dep : d.depth ≤ D
  wei : d.bulk ≤ W
theorem Sz.all : ∀ {xs : List PyData} {B D W : Nat}, (∀ x ∈ xs, Sz x B D W) → PyData.showableAll xs = true ∧ PyData.leavesShortAll B xs = true ∧ PyData.depthAll xs ≤ D ∧ PyData.bulkAll xs ≤ xs.length * (W + 1)
  | [], _, _, _, _ => ⟨rfl, rfl, Nat.zero_le _, Nat.zero_le _⟩
  | x :: xs, B, D, W, h => by
    obtain ⟨h1, h2, h4, h5⟩ := Sz.all (xs := xs) fun y hy => h y (List.mem_cons_of_mem _ hy)
    have hx := h x (List.mem_cons_self ..)
    refine ⟨?_, ?_, ?_, ?_⟩
    · show (x.showable && PyData.showableAll xs) = true
      rw [hx.show_, h1]
      rfl
    · show (x.leavesShort B && PyData.leavesShortAll B xs) = true
      rw [hx.leaf, h2]
      rfl
    · show max x.depth (PyData.depthAll xs) ≤ D
      exact Nat.max_le.mpr ⟨hx.dep, h4⟩
    · show x.bulk + 1 + PyData.bulkAll xs ≤ (xs.length + 1) * (W + 1)
      rw [Nat.succ_mul]
      have := hx.wei
      omega
theorem Sz.lst {xs : List PyData} {B D W : Nat} (n : Nat) (h : ∀ x ∈ xs, Sz x B D W) (hn : xs.length ≤ n) : Sz (.list xs) B (D + 1) (n * (W + 1)) := by
  obtain ⟨h1, h2, h4, h5⟩ := Sz.all h
  exact ⟨h1, h2, Nat.succ_le_succ h4, Nat.le_trans h5 (Nat.mul_le_mul_right _ hn)⟩
theorem Sz.tup {xs : List PyData} {B D W : Nat} (n : Nat) (h : ∀ x ∈ xs, Sz x B D W) (hn : xs.length ≤ n) : Sz (.tuple xs) B (D + 1) (n * (W + 1)) := by
  obtain ⟨h1, h2, h4, h5⟩ := Sz.all h
  exact ⟨h1, h2, Nat.succ_le_succ h4, Nat.le_trans h5 (Nat.mul_le_mul_right _ hn)⟩
theorem Sz.mono {d : PyData} {B D W D' W' : Nat} (h : Sz d B D W) (h1 : D ≤ D') (h2 : W ≤ W') : Sz d B D' W' := ⟨h.show_, h.leaf, Nat.le_trans h.dep h1, Nat.le_trans h.wei h2⟩
theorem Sz.int {i : Int} {k W : Nat} (hk : k ≤ 500) (h : i.natAbs < 10 ^ k) : Sz (.int i) (k + 2) 0 W := by
  refine ⟨?_, ?_, Nat.le_refl _, Nat.zero_le _⟩
  · refine decide_eq_true ?_
    have h2 : i.natAbs < 2 ^ 1900 := Nat.lt_of_lt_of_le h (Nat.le_trans (Nat.pow_le_pow_right (by decide) hk) (by decide +kernel))
    rcases Nat.eq_zero_or_pos i.natAbs with z | z
    · rw [z, Nat.log2_zero]
      decide
    · exact Nat.lt_of_lt_of_le ((Nat.log2_lt (by omega)).mpr h2) (by decide)
  · refine decide_eq_true ?_
    show (Str.ofString (toString i)).length ≤ k + 2
    rw [PySem.ofString_length]
    rcases Nat.eq_zero_or_pos k with z | z
    · subst z
      have : i = 0 := by
        rw [Nat.pow_zero] at h
        omega
      subst this
      decide
    · exact Nat.le_succ_of_le (int_text_length_le10 z h)
theorem Sz.fit {d : PyData} {B D W : Nat} (h : Sz d B D W) (h0 : 8 ≤ B := by decide) (h1 : D ≤ 100 := by decide) (h2 : (B + 2) * W + B ≤ 16777216 := by decide) : FitZ d := by
  refine ⟨h.show_, Nat.le_trans h.dep h1, ?_⟩
  have h3 := PyData.shown_le_bulk B h0 d h.leaf
  have h4 : (B + 2) * d.bulk ≤ (B + 2) * W := Nat.mul_le_mul_left _ h.wei
  rw [sizeLine_eq]
  omega
end Wn
/-! expressions that give data with dicts, beside what grows -/
namespace Wn
open PySem PySem.Spec PyProof.Rows L2 LamX
theorem dz_vnL {K : PySem.W.Frag} {H : Hp} {t : Addr} {xs : List Nat} (h : H t = some (.lst (vn xs))) : Dz K H (.ref t) (.list ((ni xs).map PyData.int)) := dz_lst h (by rw [vn_ni]; exact DzAll.of (dpAll_ints _))
theorem dz_vnT {K : PySem.W.Frag} {H : Hp} {t : Addr} {xs : List Nat} (h : H t = some (.tup (vn xs))) : Dz K H (.ref t) (di xs) := dz_tup h (by rw [vn_ni]; exact DzAll.of (dpAll_ints _))
theorem dzAll_rev {K : PySem.W.Frag} {H : Hp} : ∀ {vs : List V} {ds : List PyData}, DzAll K H vs ds → DzAll K H vs.reverse ds.reverse
  | _, _, .nil => .nil
  | _, _, .cons a b => by
    rw [List.reverse_cons, List.reverse_cons]
    exact dzAll_append (dzAll_rev b) (.cons a .nil)
section
variable {K : PySem.W.Frag} {σ : L2.St} {H : Hp} {W : List Addr}
def EzW (K : PySem.W.Frag) (W : List Addr) (te : TE) (σ : L2.St) (H : Hp) (d : PyData) : Prop := ∀ H1, Gr W H H1 → Wst W H1 → ∀ Q : VK, (∀ v H2, Gr [] H1 H2 → Dz K (hid W H2) v d → Q v H2) → te σ H1 Q
def EszW (K : PySem.W.Frag) (W : List Addr) (ta : TA) (σ : L2.St) (H : Hp) (ds : List PyData) : Prop := ∀ H1, Gr W H H1 → Wst W H1 → ∀ Q : List V → Hp → Prop, (∀ vs H2, Gr [] H1 H2 → DzAll K (hid W H2) vs ds → Q vs H2) → ta σ H1 Q
theorem ez_var {i : Nat} {v : V} {d : PyData} (e : σ[i]? = some (some v)) (h : Dz K (hid W H) v d) : EzW K W (tVar i) σ H d := fun H1 g _ Q q => ⟨v, e, q v H1 (Gr.refl _ _) (Dz.gr (hid_gr g) h)⟩
theorem ez_int {i : Int} : EzW K W (tC (.int i)) σ H (.int i) := fun H1 _ _ Q q => q _ H1 (Gr.refl _ _) (.int i)
theorem ez_bl {i : Bool} : EzW K W (tC (.bl i)) σ H (.bool i) := fun H1 _ _ Q q => q _ H1 (Gr.refl _ _) (.bl i)
theorem ez_str {i : Str} : EzW K W (tC (.str i)) σ H (.str i) := fun H1 _ _ Q q => q _ H1 (Gr.refl _ _) (.str i)
theorem ez_non : EzW K W (tC .non) σ H .none := fun H1 _ _ Q q => q _ H1 (Gr.refl _ _) .non
theorem ezs_nil : EszW K W tNil σ H [] := fun H1 _ _ Q q => q _ H1 (Gr.refl _ _) .nil
theorem ezs_cons {te : TE} {ta : TA} {d : PyData} {ds : List PyData} (h : EzW K W te σ H d) (r : EszW K W ta σ H ds) : EszW K W (tCons te ta) σ H (d :: ds) := fun H1 g s Q q =>
  h H1 g s _ fun v H2 g2 dv => r H2 (g.trans (gr0 g2)) (s.gr g2) _ fun vs H3 g3 dvs => q _ H3 (g2.trans g3) (.cons (Dz.gr (hid_gr (gr0 g3)) dv) dvs)
theorem ez_tup {ta : TA} {ds : List PyData} (h : EszW K W ta σ H ds) (hz : ds.length ≤ 1000 := by exact Nat.le_of_ble_eq_true rfl) : EzW K W (tTup ta) σ H (.tuple ds) := fun H1 g s Q q =>
  h H1 g s _ fun vs H2 g2 a => ⟨by rw [dzAll_len a]; exact Nat.le_of_lt (small1000 hz), fun p np => q _ _ (g2.trans (Gr.new np)) (dz_tup (hid_get upd_same ((s.gr g2).ne np)) (DzAll.gr (hid_gr (Gr.new np)) a))⟩
theorem ez_lst {ta : TA} {ds : List PyData} (h : EszW K W ta σ H ds) (hz : ds.length ≤ 1000 := by exact Nat.le_of_ble_eq_true rfl) : EzW K W (tLst ta) σ H (.list ds) := fun H1 g s Q q =>
  h H1 g s _ fun vs H2 g2 a => ⟨by rw [dzAll_len a]; exact Nat.le_of_lt (small1000 hz), fun p np => q _ _ (g2.trans (Gr.new np)) (dz_lst (hid_get upd_same ((s.gr g2).ne np)) (DzAll.gr (hid_gr (Gr.new np)) a))⟩
theorem ezl_d {te : TE} {xs : List Nat} (h : ElW W te σ H xs) : EzW K W te σ H (lstD xs) := fun H1 g s Q q => h H1 g s _ fun p H2 g2 n e => q _ H2 g2 (dz_vnL (hid_get e n))
theorem ez_tupOf {te : TE} {xs : List Nat} (h : ElW W te σ H xs) : EzW K W (tCB (rTpO K) (tCons te tNil)) σ H (di xs) := fun H1 g s Q q =>
  h H1 g s _ fun p H2 g2 n e => ⟨p, vn xs, rfl, .inl ⟨sq_lst e, fun t nt => q _ _ (g2.trans (Gr.new nt)) (dz_vnT (hid_get upd_same ((s.gr g2).ne nt)))⟩⟩
theorem ez_listOf {te : TE} {ds : List PyData} (h : EzW K W te σ H (.tuple ds)) : EzW K W (tCB (rLsO K) (tCons te tNil)) σ H (.list ds) := fun H1 g s Q q =>
  h H1 g s _ fun v H2 g2 e => by
    cases e with
    | tup s' a' => exact ⟨_, _, rfl, .inr (hid_out.sqT s'), fun l nl => q _ _ (g2.trans (Gr.new nl)) (dz_lst (hid_get upd_same ((s.gr g2).ne nl)) (DzAll.gr (hid_gr (Gr.new nl)) a'))⟩
theorem ez_slT {te : TE} {ds : List PyData} {j : Nat} (h : EzW K W te σ H (.tuple ds)) (hj : j ≤ ds.length) : EzW K W (tSl (rSlA K) te tNoPart (tPart (tC (.int (j : Nat))))) σ H (.tuple (ds.take j)) := fun H1 g s Q q =>
  h H1 g s _ fun v H2 g2 e => by
    cases e with
    | @tup a ys _ s' t =>
      have hl := dzAll_len t
      refine ⟨(j : Int), rfl, a, ys, rfl, hid_out.sqT s', fun z => ?_, fun _ p np => ?_⟩
      · have e1 := z.2
        rw [HT.sIx_nat] at e1
        have e2 : ds.take j = ds := List.take_of_length_le (by omega)
        refine q _ H2 g2 ?_
        rw [e2]
        exact .tup s' t
      · refine q _ _ (g2.trans (Gr.new np)) (dz_tup (hid_get upd_same ((s.gr g2).ne np)) ?_)
        rw [cut_lo (by omega)]
        exact DzAll.gr (hid_gr (Gr.new np)) (dzAll_take j t)
theorem ez_catT {ta tb : TE} {ds es : List PyData} (h1 : EzW K W ta σ H (.tuple ds)) (h2 : EzW K W tb σ H (.tuple es)) (hz : ds.length + es.length ≤ 6000) : EzW K W (tOp (rCatA K) ta tb) σ H (.tuple (ds ++ es)) := fun H1 g s Q q =>
  h1 H1 g s _ fun v H2 g2 e2 => h2 H2 (g.trans (gr0 g2)) (s.gr g2) _ fun v3 H3 g3 e3 => by
    have e2 := Dz.gr (hid_gr (gr0 g3)) e2
    cases e2 with
    | @tup a xs _ s1 t1 =>
      cases e3 with
      | @tup b ys _ s2 t2 =>
        have l1 := dzAll_len t1
        have l2 := dzAll_len t2
        refine ⟨a, b, xs, ys, rfl, rfl, hid_out.sqT s1, hid_out.sqT s2, Nat.le_trans (show _ ≤ 6000 by omega) (by decide), fun z => ?_, fun _ z => ?_, fun _ _ p np => ?_⟩
        · subst z
          cases t1
          exact q _ H3 (g2.trans g3) (.tup s2 t2)
        · subst z
          cases t2
          rw [List.append_nil] at q
          exact q _ H3 (g2.trans g3) (.tup s1 t1)
        · exact q _ _ ((g2.trans g3).trans (Gr.new np)) (dz_tup (hid_get upd_same (((s.gr g2).gr g3).ne np)) (DzAll.gr (hid_gr (Gr.new np)) (dzAll_append t1 t2)))
theorem EzW.on {te : TE} {d : PyData} {H' : Hp} (h : EzW K W te σ H d) (g : Gr W H H') : EzW K W te σ H' d := fun H1 g1 s Q q => h H1 (g.trans g1) s Q q
theorem ez_i0 {g : Int → Int → Int} {ta tb : TE} {i j : Int} (h1 : EzW K W ta σ H (.int i)) (h2 : EzW K W tb σ H (.int j)) : EzW K W (tOp (rI0 fun i j => .int (g i j)) ta tb) σ H (.int (g i j)) := fun H1 gr s Q q =>
  h1 H1 gr s _ fun v H2 g2 e => h2 H2 (gr.trans (gr0 g2)) (s.gr g2) _ fun w H3 g3 e3 => by
    obtain rfl := dz_int e
    obtain rfl := dz_int e3
    exact ⟨i, j, rfl, rfl, q _ H3 (g2.trans g3) (.int _)⟩
theorem ez_iC {C : Int → Int → Prop} {g : Int → Int → Int} {ta tb : TE} {i j : Int} (h1 : EzW K W ta σ H (.int i)) (h2 : EzW K W tb σ H (.int j)) (hc : C i j) : EzW K W (tOp (rI C fun i j => .int (g i j)) ta tb) σ H (.int (g i j)) := fun H1 gr s Q q =>
  h1 H1 gr s _ fun v H2 g2 e => h2 H2 (gr.trans (gr0 g2)) (s.gr g2) _ fun w H3 g3 e3 => by
    obtain rfl := dz_int e
    obtain rfl := dz_int e3
    exact ⟨i, j, rfl, rfl, hc, q _ H3 (g2.trans g3) (.int _)⟩
theorem ez_neg {g : Int → Int} {ta : TE} {i : Int} (h1 : EzW K W ta σ H (.int i)) : EzW K W (tUn (rU fun i => .int (g i)) ta) σ H (.int (g i)) := fun H1 gr s Q q =>
  h1 H1 gr s _ fun v H2 g2 e => by
    obtain rfl := dz_int e
    exact ⟨i, rfl, q _ H2 g2 (.int _)⟩
theorem ez_to {te : TE} {d e : PyData} (h : EzW K W te σ H d) (z : d = e) : EzW K W te σ H e := z ▸ h
theorem ez_take {te tp : TE} {ds : List PyData} {j : Nat} (h : EzW K W te σ H (.tuple ds)) (hp : EzW K W tp σ H (.int (j : Nat))) : EzW K W (tSl (rSlA K) te tNoPart (tPart tp)) σ H (.tuple (ds.take j)) := fun H1 g s Q q =>
  h H1 g s _ fun v H2 g2 e => hp H2 (g.trans (gr0 g2)) (s.gr g2) _ fun vj H3 g3 ej => by
    obtain rfl := dz_int ej
    have e := Dz.gr (hid_gr (gr0 g3)) e
    cases e with
    | @tup a ys _ s' t =>
      have hl := dzAll_len t
      refine ⟨(j : Int), rfl, a, ys, rfl, hid_out.sqT s', fun z => ?_, fun _ p np => ?_⟩
      · have e1 := z.2
        rw [HT.sIx_nat] at e1
        have e2 : ds.take j = ds := List.take_of_length_le (by omega)
        refine q _ H3 (g2.trans g3) ?_
        rw [e2]
        exact .tup s' t
      · refine q _ _ ((g2.trans g3).trans (Gr.new np)) (dz_tup (hid_get upd_same (((s.gr g2).gr g3).ne np)) ?_)
        rw [cut_lo']
        exact DzAll.gr (hid_gr (Gr.new np)) (dzAll_take j t)
theorem ez_drop {te tp : TE} {ds : List PyData} {j : Nat} (h : EzW K W te σ H (.tuple ds)) (hp : EzW K W tp σ H (.int (j : Nat))) : EzW K W (tSl (rSlA K) te (tPart tp) tNoPart) σ H (.tuple (ds.drop j)) := fun H1 g s Q q =>
  h H1 g s _ fun v H2 g2 e => hp H2 (g.trans (gr0 g2)) (s.gr g2) _ fun vj H3 g3 ej => by
    obtain rfl := dz_int ej
    have e := Dz.gr (hid_gr (gr0 g3)) e
    cases e with
    | @tup a ys _ s' t =>
      have hl := dzAll_len t
      refine ⟨(j : Int), rfl, a, ys, rfl, hid_out.sqT s', fun z => ?_, fun _ p np => ?_⟩
      · have e1 := z.1
        rw [HT.sIx_nat] at e1
        refine q _ H3 (g2.trans g3) ?_
        have e2 : ds.drop j = ds := by
          rcases Nat.eq_zero_or_pos j with z | z
          · subst z
            rfl
          · have : ds.length = 0 := by omega
            rw [List.length_eq_zero_iff.mp this]
            cases j <;> rfl
        rw [e2]
        exact .tup s' t
      · refine q _ _ ((g2.trans g3).trans (Gr.new np)) (dz_tup (hid_get upd_same (((s.gr g2).gr g3).ne np)) ?_)
        rw [cut_hi']
        exact DzAll.gr (hid_gr (Gr.new np)) (dzAll_drop j t)
theorem ez_rev {te : TE} {ds : List PyData} (h : EzW K W te σ H (.tuple ds)) : EzW K W (tStL (rRvT K) te (tUn (rU fun i => V.int (-i)) (tC (.int 1)))) σ H (.tuple ds.reverse) := fun H1 g s Q q =>
  h H1 g s _ fun v H2 g2 e => by
    cases e with
    | @tup a ys _ s' t =>
      exact ⟨1, rfl, a, ys, rfl, rfl, hid_out.sqT s', fun p np => q _ _ (g2.trans (Gr.new np)) (dz_tup (hid_get upd_same ((s.gr g2).ne np)) (DzAll.gr (hid_gr (Gr.new np)) (dzAll_rev t)))⟩
theorem ez_ixT {te ti : TE} {ds : List PyData} {d : PyData} {j : Nat} (h : EzW K W te σ H (.tuple ds)) (hi : EzW K W ti σ H (.int (j : Nat))) (hj : ds[j]? = some d) : EzW K W (tOp (rIxT K) te ti) σ H d := fun H1 g s Q q =>
  h H1 g s _ fun v H2 g2 e => hi H2 (g.trans (gr0 g2)) (s.gr g2) _ fun vi H3 g3 ei => by
    obtain rfl := dz_int ei
    have e := Dz.gr (hid_gr (gr0 g3)) e
    cases e with
    | @tup a ys _ s' t =>
      obtain ⟨y, hy, dy⟩ := dzAll_at t hj
      exact ⟨a, ys, (j : Int), y, rfl, rfl, hid_out.sqT s', atI_nat hy, q _ H3 (g2.trans g3) dy⟩
theorem ez_ixL {te ti : TE} {ds : List PyData} {d : PyData} {j : Nat} (h : EzW K W te σ H (.list ds)) (hi : EzW K W ti σ H (.int (j : Nat))) (hj : ds[j]? = some d) : EzW K W (tOp (rIxL K) te ti) σ H d := fun H1 g s Q q =>
  h H1 g s _ fun v H2 g2 e => hi H2 (g.trans (gr0 g2)) (s.gr g2) _ fun vi H3 g3 ei => by
    obtain rfl := dz_int ei
    have e := Dz.gr (hid_gr (gr0 g3)) e
    cases e with
    | @lst a ys _ s' t =>
      obtain ⟨y, hy, dy⟩ := dzAll_at t hj
      exact ⟨a, ys, (j : Int), y, rfl, rfl, hid_out.sqL s', atI_nat hy, q _ H3 (g2.trans g3) dy⟩
theorem ez_lenT {te : TE} {ds : List PyData} (h : EzW K W te σ H (.tuple ds)) : EzW K W (tCB (rLn K) (tCons te tNil)) σ H (.int (ds.length : Nat)) := fun H1 g s Q q =>
  h H1 g s _ fun v H2 g2 e => by
    cases e with
    | @tup a ys _ s' t => exact ⟨a, ys, rfl, .inr (hid_out.sqT s'), by rw [dzAll_len t]; exact q _ H2 g2 (.int _)⟩
theorem ez_lenL {te : TE} {ds : List PyData} (h : EzW K W te σ H (.list ds)) : EzW K W (tCB (rLn K) (tCons te tNil)) σ H (.int (ds.length : Nat)) := fun H1 g s Q q =>
  h H1 g s _ fun v H2 g2 e => by
    cases e with
    | @lst a ys _ s' t => exact ⟨a, ys, rfl, .inl (hid_out.sqL s'), by rw [dzAll_len t]; exact q _ H2 g2 (.int _)⟩
theorem ez_dct : EzW K W tDNewK σ H (.dict []) := fun H1 g s Q q => fun p np => q _ _ (Gr.new np) (.dct (kvs := []) (hid_get upd_same (s.ne np)) rfl .nil)
end
end Wn
namespace Wn
open PySem PySem.Spec PyProof.Rows L2
local macro_rules | `(tactic| walk_at "vc") => `(tactic| simp only [cxK, cxK2, start1, start2, start3, tRet, tRetN, tSeq, tNext, tIfS, tAsg, gName, tDrop, tVar, tC, tOp, tUn, tTest, tB, tNot, tAnd, tOr, tAndV, tOrV, tNotV, tIf, tCons, tNil, tCB, tCall, tChain, tAug, ipI, rI, rI0, rU, rIs, rGcd, rEq, rNe, scal,
  List.getElem?_cons_zero, List.getElem?_cons_succ, List.set_cons_zero, List.set_cons_succ, Option.some.injEq, List.cons.injEq, V.int.injEq, V.bl.injEq, V.ref.injEq, V.str.injEq, and_true, true_and, exists_eq_left, exists_eq_left', exists_and_left, exists_and_right, List.append_nil, List.nil_append, List.cons_append, exists_eq_right, exists_eq_right', and_assoc, exists_const, V.ty.injEq, ↓reduceIte, Bool.false_eq_true, Bool.not_true, Bool.not_false, decide_eq_true_eq])
structure Txt (K : PySem.W.Frag) (mg : Str → Option Value) where
  d_is_integer : Dn K mg "is_integer" s_is_integer ["value"]
  d_is_within : Dn K mg "is_within" s_is_within ["value", "low", "high"]
  d_need_base : Dn K mg "need_base" s_need_base ["value"]
  d_need_denominator : Dn K mg "need_denominator" s_need_denominator ["value"]
  d_pure_part : Dn K mg "pure_part" s_pure_part ["base", "denominator"]
  d_period : Dn K mg "period" s_period ["base", "denominator"]
  d_head_size : Dn K mg "head_size" s_head_size ["base", "denominator"]
  d_power : Dn K mg "power" s_power ["number", "exponent"]
  d_power_rest : Dn K mg "power_rest" s_power_rest ["number", "exponent", "divisor"]
  d_prime_powers : Dn K mg "prime_powers" s_prime_powers ["number"]
  d_spaced : Dn K mg "spaced" s_spaced ["base", "fraction", "size", "count"]
  d_is_balanced_with : Dn K mg "is_balanced_with" s_is_balanced_with ["base", "denominator", "size", "cut"]
  d_is_fact : Dn K mg "is_fact" s_is_fact ["value"]
  d_need_facts : Dn K mg "need_facts" s_need_facts ["value"]
  d_residue_count : Dn K mg "residue_count" s_residue_count ["denominator"]
  d_holds : Dn K mg "holds" s_holds ["base", "denominator", "size", "fact"]
  d_satisfy : Dn K mg "satisfy" s_satisfy ["base", "denominator", "facts"]
  d_is_satisfied : Dn K mg "is_satisfied" s_is_satisfied ["base", "denominator", "facts"]
  d_denominators_by : Dn K mg "denominators_by" s_denominators_by ["base", "facts", "most"]
  d_bases_by : Dn K mg "bases_by" s_bases_by ["denominator", "facts", "most"]
  d_law_begun : Dn K mg "_law_begun" s_law_begun ["script", "k"]
  d_law_draw : Dn K mg "_law_draw" s_law_draw ["m", "limit"]
  d_law_of : Dn K mg "_law_of" s_law_of ["m", "some"]
  d_law_divisor : Dn K mg "_law_divisor" s_law_divisor ["one", "two"]
  d_law_powers : Dn K mg "_law_powers" s_law_powers ["b", "n"]
  d_law_period : Dn K mg "_law_period" s_law_period ["b", "n"]
  d_law_units : Dn K mg "_law_units" s_law_units ["n"]
  d_law_raised : Dn K mg "_law_raised" s_law_raised ["b", "times", "n"]
  d_law_is_so : Dn K mg "_law_is_so" s_law_is_so ["b", "n", "fact"]
  d_law_are_so : Dn K mg "_law_are_so" s_law_are_so ["b", "n", "facts_so"]
  d_law_fact : Dn K mg "_law_fact" s_law_fact ["m", "b", "n"]
  d_law_right : Dn K mg "_law_right" s_law_right ["m"]
  d_law_hand_right : Dn K mg "_law_hand_right" s_law_hand_right []
  d_law : Dn K mg "law" s_law ["script"]
  nolim : PySem.W.nsIn K cStatics "sys.int_max_str_digits" = some none
  b_isinstance : mg "isinstance" = none
  b_int : mg "int" = none
  b_bool : mg "bool" = none
  b_str : mg "str" = none
  b_len : mg "len" = none
  b_range : mg "range" = none
  b_tuple : mg "tuple" = none
  b_sum : mg "sum" = none
  b_max : mg "max" = none
  b_min : mg "min" = none
  b_repr : mg "repr" = none
  b_enumerate : mg "enumerate" = none
  b_all : mg "all" = none
  b_zip : mg "zip" = none
  b_gcd : mg "gcd" = some (.builtin "math.gcd")
  w_RANGES : Addr
  g_RANGES : mg "RANGES" = some (.ref w_RANGES)
  t_MOST_BASE : Tok
  c_MOST_BASE : mg "MOST_BASE" = some (.int 1000 t_MOST_BASE)
  t_MOST_DENOMINATOR : Tok
  c_MOST_DENOMINATOR : mg "MOST_DENOMINATOR" = some (.int 5000 t_MOST_DENOMINATOR)
  t_MOST_FACTS : Tok
  c_MOST_FACTS : mg "MOST_FACTS" = some (.int 10 t_MOST_FACTS)
  t_GREATEST_BOUND : Tok
  c_GREATEST_BOUND : mg "GREATEST_BOUND" = some (.int 1000 t_GREATEST_BOUND)
section
variable {P : Program} {w : World} {K : PySem.W.Frag} {mg : Str → Option Value} {base : Heap}

def BN (b n : Nat) : Prop := 2 ≤ b ∧ b ≤ 1000 ∧ 1 ≤ n ∧ n ≤ 5000
def sp_is_integer : Sp := fun vs H Q _ => ∃ i : Int, vs = [.int i] ∧ Q (.bl true) H
def sp_is_within : Sp := fun vs H Q _ => ∃ i lo hi : Int, vs = [.int i, .int lo, .int hi] ∧ (lo ≤ i ∧ i ≤ hi) ∧ Q (.bl true) H
def sp_need_base : Sp := fun vs H Q _ => ∃ i : Int, vs = [.int i] ∧ (2 ≤ i ∧ i ≤ 1000) ∧ Q (.int i) H
def sp_need_denominator : Sp := fun vs H Q _ => ∃ i : Int, vs = [.int i] ∧ (1 ≤ i ∧ i ≤ 5000) ∧ Q (.int i) H
def sp_need_fraction : Sp := fun vs H Q _ => ∃ (a : Addr) (x n : Nat), vs = [.ref a] ∧ H a = some (.tup [.int x, .int n]) ∧ (x < n ∧ n ≤ 5000 ∧ Nat.gcd x n = 1) ∧ Q (.ref a) H
def sp_pure_part : Sp := fun vs H Q _ => ∃ b n : Nat, vs = [.int b, .int n] ∧ BN b n ∧ ∀ p : Nat, IsPure b n p → Q (.int p) H
def sp_period : Sp := fun vs H Q _ => ∃ b n : Nat, vs = [.int b, .int n] ∧ BN b n ∧ ∀ p d : Nat, IsPure b n p → IsPer b p d → Q (.int d) H
def sp_head_size : Sp := fun vs H Q _ => ∃ b n : Nat, vs = [.int b, .int n] ∧ BN b n ∧ ∀ p q h : Nat, IsPure b n p → n = p * q → IsHead b q h → Q (.int h) H
theorem ok_is_integer (T : Txt K mg) : FnOk P w K mg base CX0 1 T.d_is_integer.f T.d_is_integer.fd ["value"] sp_is_integer := by
  refine T.d_is_integer.F.ok sc_is_integer (fun vs H Q E h => ?_) (fun cdv A outer s H vs Q E hr h => ?_)
  · obtain ⟨i, rfl, _⟩ := h; rfl
  · have hu := hu_of hr
    refine ⟨_, (pss_one (ps_ret (pe_and (pe_callB (r := rIs K) call_is (by rfl) T.b_isinstance (by decide +kernel) (pa_cons (pv 0) (pa_cons (pe_bltn (v := .ty "int") (by rfl) T.b_int (by decide +kernel) rfl) pa_nil))) (pe_one (pe_not (pe_callB (r := rIs K) call_is (by rfl) T.b_isinstance (by decide +kernel) (pa_cons (pv 0) (pa_cons (pe_bltn (v := .ty "bool") (by rfl) T.b_bool (by decide +kernel) rfl) pa_nil)))))))), ?_⟩
    obtain ⟨i, rfl, q⟩ := h
    walk_at "vc"
    refine ⟨"int", ty_int, by decide, by decide, iteT ⟨"int", ty_int, by decide, by decide, q⟩⟩
theorem ok_is_within (T : Txt K mg) : FnOk P w K mg base CX0 2 T.d_is_within.f T.d_is_within.fd ["value", "low", "high"] sp_is_within := by
  refine T.d_is_within.F.ok sc_is_within (fun vs H Q E h => ?_) (fun cdv A outer s H vs Q E hr h => ?_)
  · obtain ⟨i, lo, hi, rfl, _⟩ := h; rfl
  · have hu := hu_of hr
    refine ⟨_, (pss_one (ps_ret (pe_and (pe_call (ok_is_integer T) (hr.mono (by decide)) (by rfl) T.d_is_integer.m T.d_is_integer.F.kp T.d_is_integer.b .nil pass0 (pa_cons (pv 0) pa_nil)) (pe_one (pe_chain op_le op_le (pv 1) (pv 0) (pv 2)))))), ?_⟩
    obtain ⟨i, lo, hi, rfl, ⟨h1, h2⟩, q⟩ := h
    refine ⟨_, rfl, i, rfl, true, rfl, iteT ?_⟩
    walk_at "vc"
    rw [if_pos h1, decide_eq_true h2]
    exact q
theorem ok_need_base (T : Txt K mg) : FnOk P w K mg base CX0 3 T.d_need_base.f T.d_need_base.fd ["value"] sp_need_base := by
  refine T.d_need_base.F.ok sc_need_base (fun vs H Q E h => ?_) (fun cdv A outer s H vs Q E hr h => ?_)
  · obtain ⟨i, rfl, _⟩ := h; rfl
  · have hu := hu_of hr
    refine ⟨_, (pss_cons (ps_if (pt_not (pt_val (pe_call (ok_is_within T) (hr.mono (by decide)) (by rfl) T.d_is_within.m T.d_is_within.F.kp T.d_is_within.b .nil pass0 (pa_cons (pv 0) (pa_cons pe_int (pa_cons (pe_glob (v := .int 1000) (by rfl) T.c_MOST_BASE ⟨_, rfl⟩) pa_nil)))))) (pss_one ps_never) pss_nil)
      (pss_one (ps_ret (pv 0)))), ?_⟩
    obtain ⟨i, rfl, ⟨h1, h2⟩, q⟩ := h
    refine ⟨_, rfl, i, _, _, rfl, ⟨h1, h2⟩, true, rfl, iteF ?_⟩
    exact ⟨_, rfl, q⟩
theorem ok_need_denominator (T : Txt K mg) : FnOk P w K mg base CX0 3 T.d_need_denominator.f T.d_need_denominator.fd ["value"] sp_need_denominator := by
  refine T.d_need_denominator.F.ok sc_need_denominator (fun vs H Q E h => ?_) (fun cdv A outer s H vs Q E hr h => ?_)
  · obtain ⟨i, rfl, _⟩ := h; rfl
  · have hu := hu_of hr
    refine ⟨_, (pss_cons (ps_if (pt_not (pt_val (pe_call (ok_is_within T) (hr.mono (by decide)) (by rfl) T.d_is_within.m T.d_is_within.F.kp T.d_is_within.b .nil pass0 (pa_cons (pv 0) (pa_cons pe_int (pa_cons (pe_glob (v := .int 5000) (by rfl) T.c_MOST_DENOMINATOR ⟨_, rfl⟩) pa_nil)))))) (pss_one ps_never) pss_nil)
      (pss_one (ps_ret (pv 0)))), ?_⟩
    obtain ⟨i, rfl, ⟨h1, h2⟩, q⟩ := h
    refine ⟨_, rfl, i, _, _, rfl, ⟨h1, h2⟩, true, rfl, iteF ?_⟩
    exact ⟨_, rfl, q⟩
theorem ok_pure_part (T : Txt K mg) : FnOk P w K mg base CX0 4 T.d_pure_part.f T.d_pure_part.fd ["base", "denominator"] sp_pure_part := by
  refine T.d_pure_part.F.ok sc_pure_part (fun vs H Q E h => ?_) (fun cdv A outer s H vs Q E hr h => ?_)
  · obtain ⟨b, n, rfl, _⟩ := h; rfl
  · have hu := hu_of hr
    refine ⟨_, (pss_cons (ps_expr (pe_call (ok_need_base T) (hr.mono (by decide)) (by rfl) T.d_need_base.m T.d_need_base.F.kp T.d_need_base.b .nil pass0 (pa_cons (pv 0) pa_nil)))
      (pss_cons (ps_expr (pe_call (ok_need_denominator T) (hr.mono (by decide)) (by rfl) T.d_need_denominator.m T.d_need_denominator.F.kp T.d_need_denominator.b .nil pass0 (pa_cons (pv 1) pa_nil)))
      (pss_cons (ps_set (i := 2) sc_pure_part.nd rfl (by first | exact .inl rfl | exact .inr rfl) (pv 1))
      (pss_cons (ps_set (i := 3) sc_pure_part.nd rfl (by first | exact .inl rfl | exact .inr rfl) (pe_callBfun cr_gcd (by rfl) T.b_gcd (pa_cons (pv 0) (pa_cons (pv 2) pa_nil))))
      (pss_cons (ps_while PassesOwn.never (pt_cmpR op_gt (pv 3) pe_int (nomark _)) (pss_cons (ps_set (i := 2) sc_pure_part.nd rfl (by first | exact .inl rfl | exact .inr rfl) (pe_op op_fdiv (pv 2) (pv 3)))
      (pss_one (ps_set (i := 3) sc_pure_part.nd rfl (by first | exact .inl rfl | exact .inr rfl) (pe_callBfun cr_gcd (by rfl) T.b_gcd (pa_cons (pv 0) (pa_cons (pv 2) pa_nil)))))))
      (pss_one (ps_ret (pv 2)))))))), ?_⟩
    obtain ⟨b, n, rfl, ⟨hb1, hb2, hn1, hn2⟩, q⟩ := h
    refine ⟨_, rfl, b, rfl, ⟨by omega, by omega⟩, ?_⟩
    refine ⟨_, rfl, n, rfl, ⟨by omega, by omega⟩, ?_⟩
    refine ⟨_, rfl, _, rfl, _, rfl, b, n, rfl, ?_⟩
    refine ⟨fun m σ H' => H' = H ∧ ∃ p r k : Nat, m = p ∧ σ = [some (.int b), some (.int n), some (.int p), some (.int (Nat.gcd b p : Nat))] ∧ 1 ≤ p ∧ n = p * r ∧ r ∣ b ^ k, ⟨n, rfl, n, 1, 0, rfl, rfl, hn1, by simp, by simp⟩, ?_⟩
    rintro m σ H' ⟨rfl, p, r, k, rfl, rfl, hp, hn, hr'⟩
    have hpn : m ≤ 5000 := by
      have : m ∣ n := ⟨r, hn⟩
      have := Nat.le_of_dvd hn1 this
      omega
    have hgm : Nat.gcd b m ≤ m := Nat.gcd_le_right b hp
    have hg1 : 1 ≤ Nat.gcd b m := Nat.gcd_pos_of_pos_right b hp
    refine ⟨_, rfl, _, 1, rfl, rfl, _, rfl, ?_⟩
    by_cases hc : (1 : Int) < ((Nat.gcd b m : Nat) : Int)
    · rw [decide_eq_true hc]
      refine iteT ⟨fun σ' H2 => H2 = H' ∧ ∃ p r k : Nat, p < m ∧ σ' = [some (.int b), some (.int n), some (.int p), some (.int (Nat.gcd b p : Nat))] ∧ 1 ≤ p ∧ n = p * r ∧ r ∣ b ^ k, ?_, ?_⟩
      · rintro σ' H2 ⟨rfl, p, r, k, h1, h2, h3, h4, h5⟩
        exact ⟨p, h1, rfl, p, r, k, rfl, h2, h3, h4, h5⟩
      · refine ⟨_, rfl, _, rfl, m, Nat.gcd b m, rfl, rfl, ⟨by omega, by omega⟩, ?_⟩
        dsimp only
        rw [← Int.natCast_ediv]
        refine ⟨_, rfl, _, rfl, b, ((m / Nat.gcd b m : Nat) : Int), rfl, ?_⟩
        obtain ⟨c, hc'⟩ := Nat.gcd_dvd_right b m
        have hq : m / Nat.gcd b m = c := by
          rw [Nat.div_eq_iff_eq_mul_right hg1 (Nat.gcd_dvd_right b m)]
          exact hc'
        have hc1 : 1 ≤ c := by
          rcases Nat.eq_zero_or_pos c with z | z
          · rw [z] at hc'
            omega
          · exact z
        have hcl : c < m := by
          have hg2 : 2 ≤ Nat.gcd b m := by omega
          have : 2 * c ≤ Nat.gcd b m * c := Nat.mul_le_mul_right c hg2
          omega
        refine ⟨rfl, c, Nat.gcd b m * r, k + 1, hcl, ?_, hc1, ?_, ?_⟩
        · rw [hq]
          rfl
        · rw [hn]
          conv => lhs; rw [hc']
          rw [Nat.mul_comm (Nat.gcd b m) c, Nat.mul_assoc]
        · rw [Nat.pow_succ, Nat.mul_comm (b ^ k) b]
          exact Nat.mul_dvd_mul (Nat.gcd_dvd_left b m) hr'
    · rw [decide_eq_false hc]
      refine iteF ⟨_, rfl, ?_⟩
      exact q m ⟨by omega, r, k, hn, hr'⟩
theorem ok_period (T : Txt K mg) : FnOk P w K mg base CX0 5 T.d_period.f T.d_period.fd ["base", "denominator"] sp_period := by
  refine T.d_period.F.ok sc_period (fun vs H Q E h => ?_) (fun cdv A outer s H vs Q E hr h => ?_)
  · obtain ⟨b, n, rfl, _⟩ := h; rfl
  · have hu := hu_of hr
    refine ⟨_, (pss_cons (ps_set (i := 2) sc_period.nd rfl (by first | exact .inl rfl | exact .inr rfl) (pe_call (ok_pure_part T) (hr.mono (by decide)) (by rfl) T.d_pure_part.m T.d_pure_part.F.kp T.d_pure_part.b .nil pass0 (pa_cons (pv 0) (pa_cons (pv 1) pa_nil))))
      (pss_cons (ps_set (i := 3) sc_period.nd rfl (by first | exact .inl rfl | exact .inr rfl) (pe_op op_mod pe_int (pv 2)))
      (pss_cons (ps_set (i := 4) sc_period.nd rfl (by first | exact .inl rfl | exact .inr rfl) (pe_op op_mod (pv 0) (pv 2)))
      (pss_cons (ps_set (i := 5) sc_period.nd rfl (by first | exact .inl rfl | exact .inr rfl) pe_int)
      (pss_cons (ps_while PassesOwn.never (pt_cmpR op_ne (pv 4) (pv 3) (nomark _)) (pss_cons (ps_set (i := 4) sc_period.nd rfl (by first | exact .inl rfl | exact .inr rfl) (pe_op op_mod (pe_op op_mul (pv 4) (pv 0)) (pv 2)))
      (pss_one (ps_aug (i := 5) sc_period.nd rfl (by first | exact .inl rfl | exact .inr rfl) pe_int ip_add))))
      (pss_one (ps_ret (pv 5)))))))), ?_⟩
    obtain ⟨b, n, rfl, hbn, q⟩ := h
    have hbn' := id hbn
    obtain ⟨hb1, hb2, hn1, hn2⟩ := hbn
    refine ⟨_, rfl, _, rfl, b, n, rfl, hbn', fun p hp => ?_⟩
    obtain ⟨g0, r0, k0, e0, d0⟩ := id hp
    have hp1 : 1 ≤ p := by
      rcases Nat.eq_zero_or_pos p with z | z
      · rw [z] at e0
        omega
      · exact z
    have hpn : p ≤ 5000 := by
      have : p ∣ n := ⟨r0, e0⟩
      have := Nat.le_of_dvd hn1 this
      omega
    obtain ⟨d, hdp, hd⟩ := per_exists hp1 g0
    refine ⟨_, rfl, 1, p, rfl, rfl, (show (0 : Int) < (p : Int) by omega), ?_⟩
    refine ⟨_, rfl, _, rfl, b, p, rfl, rfl, (show (0 : Int) < (p : Int) by omega), ?_⟩
    have e1 : (1 : Int) % (p : Int) = ((1 % p : Nat) : Int) := by rw [Int.natCast_emod]; rfl
    have e2 : (b : Int) % (p : Int) = ((b ^ 1 % p : Nat) : Int) := by rw [Int.natCast_emod, Nat.pow_one]
    refine ⟨fun m σ H' => H' = H ∧ ∃ k : Nat, m = d - k ∧ σ = [some (.int b), some (.int n), some (.int p), some (.int (1 % p : Nat)), some (.int (b ^ k % p : Nat)), some (.int k)] ∧ 1 ≤ k ∧ k ≤ d, ⟨d - 1, rfl, 1, rfl, ?_, Nat.le_refl _, hd.1⟩, ?_⟩
    · rw [← e1, ← e2]
      rfl
    rintro m σ H' ⟨rfl, k, rfl, rfl, hk1, hk2⟩
    refine ⟨_, rfl, _, rfl, rfl, _, rfl, ?_⟩
    by_cases hc : b ^ k % p = 1 % p
    · have hkd : k = d := by
        apply Nat.le_antisymm hk2
        apply Nat.le_of_not_lt
        intro l
        exact hd.2.2 k hk1 l hc
      rw [decide_eq_true (show V.int ((b ^ k % p : Nat) : Int) = V.int ((1 % p : Nat) : Int) by rw [hc])]
      refine iteF ⟨_, rfl, ?_⟩
      rw [hkd]
      exact q p d hp hd
    · rw [decide_eq_false (show ¬ V.int ((b ^ k % p : Nat) : Int) = V.int ((1 % p : Nat) : Int) from fun z => hc (by have := V.int.inj z; omega))]
      have hkd : k < d := by
        rcases Nat.lt_or_eq_of_le hk2 with l | l
        · exact l
        · subst l
          exact absurd hd.2.1 hc
      refine iteT ⟨fun σ' H2 => H2 = H' ∧ σ' = [some (.int b), some (.int n), some (.int p), some (.int (1 % p : Nat)), some (.int (b ^ (k + 1) % p : Nat)), some (.int (k + 1 : Nat))], ?_, ?_⟩
      · rintro σ' H2 ⟨rfl, rfl⟩
        exact ⟨d - (k + 1), by omega, rfl, k + 1, rfl, rfl, by omega, hkd⟩
      · have hlt : b ^ k % p < p := Nat.mod_lt _ hp1
        refine ⟨_, rfl, _, rfl, _, b, rfl, rfl, .inl ⟨by omega, by omega⟩, _, rfl, _, p, rfl, rfl, (show (0 : Int) < (p : Int) by omega), ?_⟩
        dsimp only
        rw [icm, pow_mod_step]
        exact ⟨_, rfl, _, _, rfl, rfl, rfl, rfl⟩
theorem ok_head_size (T : Txt K mg) : FnOk P w K mg base CX0 5 T.d_head_size.f T.d_head_size.fd ["base", "denominator"] sp_head_size := by
  refine T.d_head_size.F.ok sc_head_size (fun vs H Q E h => ?_) (fun cdv A outer s H vs Q E hr h => ?_)
  · obtain ⟨b, n, rfl, _⟩ := h; rfl
  · have hu := hu_of hr
    refine ⟨_, (pss_cons (ps_set (i := 2) sc_head_size.nd rfl (by first | exact .inl rfl | exact .inr rfl) (pe_op op_fdiv (pv 1) (pe_call (ok_pure_part T) (hr.mono (by decide)) (by rfl) T.d_pure_part.m T.d_pure_part.F.kp T.d_pure_part.b .nil pass0 (pa_cons (pv 0) (pa_cons (pv 1) pa_nil)))))
      (pss_cons (ps_set (i := 3) sc_head_size.nd rfl (by first | exact .inl rfl | exact .inr rfl) (pe_op op_mod pe_int (pv 2)))
      (pss_cons (ps_set (i := 4) sc_head_size.nd rfl (by first | exact .inl rfl | exact .inr rfl) pe_int)
      (pss_cons (ps_while PassesOwn.never (pt_cmpR op_ne (pv 3) pe_int (nomark _)) (pss_cons (ps_set (i := 3) sc_head_size.nd rfl (by first | exact .inl rfl | exact .inr rfl) (pe_op op_mod (pe_op op_mul (pv 3) (pv 0)) (pv 2)))
      (pss_one (ps_aug (i := 4) sc_head_size.nd rfl (by first | exact .inl rfl | exact .inr rfl) pe_int ip_add))))
      (pss_one (ps_ret (pv 4))))))), ?_⟩
    obtain ⟨b, n, rfl, hbn, q⟩ := h
    have hbn' := id hbn
    obtain ⟨hb1, hb2, hn1, hn2⟩ := hbn
    refine ⟨_, rfl, _, rfl, _, rfl, b, n, rfl, hbn', fun p hp => ?_⟩
    obtain ⟨g0, r, k0, e0, d0⟩ := id hp
    have hp1 : 1 ≤ p := by
      rcases Nat.eq_zero_or_pos p with z | z
      · rw [z] at e0
        omega
      · exact z
    have hr1 : 1 ≤ r := by
      rcases Nat.eq_zero_or_pos r with z | z
      · rw [z] at e0
        omega
      · exact z
    have hpn : p ≤ 5000 := by
      have : p ∣ n := ⟨r, e0⟩
      have := Nat.le_of_dvd hn1 this
      omega
    have hrn : r ≤ 5000 := by
      have : r ∣ n := ⟨p, by rw [e0, Nat.mul_comm]⟩
      have := Nat.le_of_dvd hn1 this
      omega
    obtain ⟨d, hdk, hd⟩ := head_exists d0
    have hdr : d ≤ r := head_le hr1 hd
    refine ⟨n, p, rfl, rfl, ⟨by omega, by omega⟩, ?_⟩
    have e3 : (n : Int) / (p : Int) = ((r : Nat) : Int) := by
      rw [← Int.natCast_ediv, e0, Nat.mul_div_cancel_left r hp1]
    dsimp only
    rw [e3]
    refine ⟨_, rfl, 1, r, rfl, rfl, (show (0 : Int) < (r : Int) by omega), ?_⟩
    have e1 : (1 : Int) % (r : Int) = ((b ^ 0 % r : Nat) : Int) := by rw [Int.natCast_emod, Nat.pow_zero]; rfl
    refine ⟨fun m σ H' => H' = H ∧ ∃ k : Nat, m = d - k ∧ σ = [some (.int b), some (.int n), some (.int r), some (.int (b ^ k % r : Nat)), some (.int k)] ∧ k ≤ d, ⟨d, rfl, 0, rfl, ?_, Nat.zero_le _⟩, ?_⟩
    · rw [← e1]
      rfl
    rintro m σ H' ⟨rfl, k, rfl, rfl, hk2⟩
    refine ⟨_, rfl, rfl, _, rfl, ?_⟩
    by_cases hc : b ^ k % r = 0
    · have hkd : k = d := by
        apply Nat.le_antisymm hk2
        apply Nat.le_of_not_lt
        intro l
        exact hd.2 k l hc
      rw [decide_eq_true (show V.int ((b ^ k % r : Nat) : Int) = V.int 0 by rw [hc]; rfl)]
      refine iteF ⟨_, rfl, ?_⟩
      rw [hkd]
      exact q p r d hp e0 hd
    · rw [decide_eq_false (show ¬ V.int ((b ^ k % r : Nat) : Int) = V.int 0 from fun z => hc (by have := V.int.inj z; omega))]
      have hkd : k < d := by
        rcases Nat.lt_or_eq_of_le hk2 with l | l
        · exact l
        · subst l
          exact absurd hd.1 hc
      refine iteT ⟨fun σ' H2 => H2 = H' ∧ σ' = [some (.int b), some (.int n), some (.int r), some (.int (b ^ (k + 1) % r : Nat)), some (.int (k + 1 : Nat))], ?_, ?_⟩
      · rintro σ' H2 ⟨rfl, rfl⟩
        exact ⟨d - (k + 1), by omega, rfl, k + 1, rfl, rfl, hkd⟩
      · have hlt : b ^ k % r < r := Nat.mod_lt _ hr1
        refine ⟨_, rfl, _, rfl, _, b, rfl, rfl, .inl ⟨by omega, by omega⟩, _, rfl, _, r, rfl, rfl, (show (0 : Int) < (r : Int) by omega), ?_⟩
        dsimp only
        rw [icm, pow_mod_step]
        exact ⟨_, rfl, _, _, rfl, rfl, rfl, rfl⟩

/-- the digits of a division that has come to x: so many of them -/
def dgs (b n x c : Nat) : List V := (List.range c).map fun i => V.int ((rem b n x i * b / n : Nat) : Int)
def sp_divided : Sp := fun vs H Q _ => ∃ b x n c : Nat, vs = [.int b, .int x, .int n, .int c] ∧ (BN b n ∧ x < n ∧ c ≤ 10000) ∧ ∀ t H', Gr [] H H' → H' t = some (.tup (dgs b n x c)) → Q (.ref t) H'

def dgf (b n x lo c : Nat) : List V := (List.range c).map fun i => V.int ((rem b n x (lo + i) * b / n : Nat) : Int)
structure Exp (H : Hp) (r : Addr) (b x n h L : Nat) : Prop where
  at_ : ∃ a c, H r = some (.tup [.ref a, .ref c]) ∧ H a = some (.tup (dgf b n x 0 h)) ∧ H c = some (.tup (dgf b n x h L))
def sp_expansion : Sp := fun vs H Q _ => ∃ (b x n : Nat) (a : Addr), vs = [.int b, .ref a] ∧ H a = some (.tup [.int x, .int n]) ∧ (BN b n ∧ x < n ∧ Nat.gcd x n = 1) ∧
  ∀ p q h L t H', IsPure b n p → n = p * q → IsHead b q h → IsPer b p L → Gr [] H H' → Exp H' t b x n h L → Q (.ref t) H'

/-! the state of the draws of the second half -/
def mkv (c : Addr) (l sd s : Int) : List (Key × V) := [(Sum.inr "left", .int l), (Sum.inr "seed", .int sd), (Sum.inr "cells", .ref c), (Sum.inr "spot", .int s)]
theorem k_ld : ¬ (("left" : Str) = "seed") := by decide +kernel
theorem k_dl : ¬ (("seed" : Str) = "left") := by decide +kernel
theorem k_lc : ¬ (("left" : Str) = "cells") := by decide +kernel
theorem k_cl : ¬ (("cells" : Str) = "left") := by decide +kernel
theorem k_ls : ¬ (("left" : Str) = "spot") := by decide +kernel
theorem k_sl : ¬ (("spot" : Str) = "left") := by decide +kernel
theorem k_dc : ¬ (("seed" : Str) = "cells") := by decide +kernel
theorem k_cd : ¬ (("cells" : Str) = "seed") := by decide +kernel
theorem k_ds : ¬ (("seed" : Str) = "spot") := by decide +kernel
theorem k_sd : ¬ (("spot" : Str) = "seed") := by decide +kernel
theorem k_cs : ¬ (("cells" : Str) = "spot") := by decide +kernel
theorem k_sc : ¬ (("spot" : Str) = "cells") := by decide +kernel
theorem mv_l (c : Addr) (l sd s : Int) : valV (mkv c l sd s) (Sum.inr "left" : Key) = some (.int l) := by
  unfold mkv
  rw [valV_pos rfl]
theorem mv_d (c : Addr) (l sd s : Int) : valV (mkv c l sd s) (Sum.inr "seed" : Key) = some (.int sd) := by
  unfold mkv
  rw [valV_neg (by intro z; exact k_ld (Sum.inr.inj z)), valV_pos rfl]
theorem mv_c (c : Addr) (l sd s : Int) : valV (mkv c l sd s) (Sum.inr "cells" : Key) = some (.ref c) := by
  unfold mkv
  rw [valV_neg (by intro z; exact k_lc (Sum.inr.inj z)), valV_neg (by intro z; exact k_dc (Sum.inr.inj z)), valV_pos rfl]
theorem mv_s (c : Addr) (l sd s : Int) : valV (mkv c l sd s) (Sum.inr "spot" : Key) = some (.int s) := by
  unfold mkv
  rw [valV_neg (by intro z; exact k_ls (Sum.inr.inj z)), valV_neg (by intro z; exact k_ds (Sum.inr.inj z)), valV_neg (by intro z; exact k_cs (Sum.inr.inj z)), valV_pos rfl]
theorem mp_l (c : Addr) (l sd s l' : Int) : putK (mkv c l sd s) (Sum.inr "left" : Key) (.int l') = mkv c l' sd s := by
  unfold mkv putK
  simp [k_dl, k_cl, k_sl]
theorem mp_s (c : Addr) (l sd s s' : Int) : putK (mkv c l sd s) (Sum.inr "spot" : Key) (.int s') = mkv c l sd s' := by
  unfold mkv putK
  simp [k_ls, k_ds, k_cs, putK]
theorem mm (c : Addr) (l sd s : Int) : mergeK [] (mkv c l sd s) = mkv c l sd s := by
  unfold mkv mergeK putK
  simp [k_ld, k_lc, k_ls, k_dc, k_ds, k_cs, mergeK, putK]
theorem dg_c {H : Hp} {d c : Addr} {l sd s : Int} (h : H d = some (.dK (mkv c l sd s))) : DGet H d (.str "cells") (some (.ref c)) := by
  rw [← mv_c c l sd s]
  exact DGet.k (k := Sum.inr "cells") h
theorem dg_l {H : Hp} {d c : Addr} {l sd s : Int} (h : H d = some (.dK (mkv c l sd s))) : DGet H d (.str "left") (some (.int l)) := by
  rw [← mv_l c l sd s]
  exact DGet.k (k := Sum.inr "left") h
theorem dg_d {H : Hp} {d c : Addr} {l sd s : Int} (h : H d = some (.dK (mkv c l sd s))) : DGet H d (.str "seed") (some (.int sd)) := by
  rw [← mv_d c l sd s]
  exact DGet.k (k := Sum.inr "seed") h
theorem dg_s {H : Hp} {d c : Addr} {l sd s : Int} (h : H d = some (.dK (mkv c l sd s))) : DGet H d (.str "spot") (some (.int s)) := by
  rw [← mv_s c l sd s]
  exact DGet.k (k := Sum.inr "spot") h
theorem dp_l {H : Hp} {d c : Addr} {l sd s l' : Int} (h : H d = some (.dK (mkv c l sd s))) : DPut H d (.str "left") (.int l') (upd H d (.dK (mkv c l' sd s))) := by
  rw [← mp_l c l sd s l']
  exact DPut.k (k := Sum.inr "left") h (by show 4 < sizeLine; decide)
theorem dp_s {H : Hp} {d c : Addr} {l sd s s' : Int} (h : H d = some (.dK (mkv c l sd s))) : DPut H d (.str "spot") (.int s') (upd H d (.dK (mkv c l sd s'))) := by
  rw [← mp_s c l sd s s']
  exact DPut.k (k := Sum.inr "spot") h (by show 4 < sizeLine; decide)
def MOk (H : Hp) (d : Addr) (n : Nat) : Prop := ∃ (c : Addr) (xs : List Int) (l sd s : Int), H d = some (.dK (mkv c l sd s)) ∧ H c = some (.lst (xs.map V.int)) ∧ xs ≠ [] ∧ (0 ≤ sd ∧ sd < 2147483647) ∧ 0 ≤ s ∧ s ≤ (n : Int)
theorem MOk.gr {H H' : Hp} {d : Addr} {n : Nat} (h : MOk H d n) (g : Gr [] H H') : MOk H' d n := by
  obtain ⟨c, xs, l, sd, s, h1, h2, h3⟩ := h
  exact ⟨c, xs, l, sd, s, g d _ (by simp) h1, g c _ (by simp) h2, h3⟩
theorem MOk.mono {H : Hp} {d : Addr} {n n' : Nat} (h : MOk H d n) (g : n ≤ n') : MOk H d n' := by
  obtain ⟨c, xs, l, sd, s, h1, h2, h3, h4, h5, h6⟩ := h
  exact ⟨c, xs, l, sd, s, h1, h2, h3, h4, h5, by omega⟩
theorem MOk.ne {H : Hp} {d a : Addr} {n : Nat} {o : HO} (h : MOk H d n) (e : H a = some o) (k : ∀ kvs, o ≠ .dK kvs) : a ∉ [d] := by
  obtain ⟨c, xs, l, sd, s, h1, _⟩ := h
  intro z
  rw [List.mem_singleton] at z
  subst z
  rw [h1] at e
  exact k _ (Option.some.inj e).symm
theorem MOk.lst {H H' : Hp} {d a : Addr} {n : Nat} {xs : List V} (h : MOk H d n) (g : Gr [d] H H') (e : H a = some (.lst xs)) : H' a = some (.lst xs) := g a _ (h.ne e (fun _ z => by cases z)) e
theorem MOk.tup {H H' : Hp} {d a : Addr} {n : Nat} {xs : List V} (h : MOk H d n) (g : Gr [d] H H') (e : H a = some (.tup xs)) : H' a = some (.tup xs) := g a _ (h.ne e (fun _ z => by cases z)) e
def Lim (n : Nat) : Prop := (n : Int).natAbs.log2 < 9000
set_option exponentiation.threshold 10000 in
theorem lim_le {n : Nat} (h : n ≤ 1000000000) : Lim n := by
  unfold Lim
  rw [Int.natAbs_natCast]
  exact PySem.Flt.log2_lt_of (by decide) (Nat.lt_of_le_of_lt h (Nat.lt_of_lt_of_le (show (1000000000 : Nat) < 2 ^ 30 by decide) (Nat.pow_le_pow_right (by decide) (by decide))))
def sp_law_draw : Sp := fun vs H Q _ => ∃ (d : Addr) (lim n : Nat), vs = [.ref d, .int lim] ∧ MOk H d n ∧ (1 ≤ lim ∧ Lim lim ∧ n ≤ 1000000000) ∧
  ∀ (r : Nat) H', r < lim → Gr [d] H H' → MOk H' d (n + 1) → Q (.int r) H'
theorem imod_nat (x : Int) (lim : Nat) (h : 1 ≤ lim) : ∃ r : Nat, x % (lim : Int) = (r : Int) ∧ r < lim := by
  have h1 := Int.emod_nonneg x (show (lim : Int) ≠ 0 by omega)
  have h2 := Int.emod_lt_of_pos x (show (0 : Int) < (lim : Int) by omega)
  exact ⟨(x % (lim : Int)).toNat, by omega, by omega⟩
theorem sqBound {z : Int} (h0 : 0 ≤ z) (h1 : z ≤ 1000000000) : -(2 ^ 64) < 40503 * z ∧ 40503 * z < 2 ^ 64 := by omega
theorem ok_law_draw (T : Txt K mg) : FnOk P w K mg base CX0 1 T.d_law_draw.f T.d_law_draw.fd ["m", "limit"] sp_law_draw := by
  refine T.d_law_draw.F.ok sc_law_draw (fun vs H Q E h => ?_) (fun cdv A outer s H vs Q E hr h => ?_)
  · obtain ⟨d, lim, n, rfl, _⟩ := h; rfl
  · have hu := hu_of hr
    refine ⟨_, (pss_cons (ps_if (pt_cmpR op_gt (pe_dget hu (pv 0) pe_str (fun _ _ => rfl)) pe_int (nomark _)) (pss_cons (ps_set (i := 2) sc_law_draw.nd rfl (by first | exact .inl rfl | exact .inr rfl) (pe_op op_mod (pe_callTy call_int1 (by rfl) T.b_int (by decide +kernel) (pa_cons (pe_dget hu (pv 0) pe_str (fun _ _ => rfl)) pa_nil)) (pv 1)))
      (pss_cons (ps_dput hu (pv 0) pe_str (pe_op op_fdivW (pe_dget hu (pv 0) pe_str (fun _ _ => rfl)) (pv 1)) rfl)
      (pss_one (ps_ret (pv 2))))) pss_nil)
      (pss_cons (ps_set (i := 3) sc_law_draw.nd rfl (by first | exact .inl rfl | exact .inr rfl) (pe_dget hu (pv 0) pe_str (fun _ _ => rfl)))
      (pss_cons (ps_dput hu (pv 0) pe_str (pe_op op_add (pv 3) pe_int) rfl)
      (pss_cons (ps_par (i := 4) (j := 5) (by rfl) sc_law_draw.nd rfl rfl (by decide) rfl rfl (pa_cons (pe_dget hu (pv 0) pe_str (fun _ _ => rfl)) (pa_cons (pe_op op_add (pe_dget hu (pv 0) pe_str (fun _ _ => rfl)) (pe_op op_mul (pe_op op_mul pe_int (pv 3)) (pv 3))) pa_nil)) (by rfl))
      (pss_cons (ps_set (i := 6) sc_law_draw.nd rfl (by first | exact .inl rfl | exact .inr rfl) (pe_ix (r := rIxL K) ix_list (pv 4) (pe_op op_mod (pe_callTy call_int1 (by rfl) T.b_int (by decide +kernel) (pa_cons (pv 3) pa_nil)) (pe_callB (r := rLn K) call_ln (by rfl) T.b_len PySem.boot_len (pa_cons (pv 4) pa_nil))) (fun _ _ => rfl)))
      (pss_cons (ps_set (i := 7) sc_law_draw.nd rfl (by first | exact .inl rfl | exact .inr rfl) (pe_op op_mod (pe_callTy call_int1 (by rfl) T.b_int (by decide +kernel) (pa_cons (pe_op op_add (pe_op op_mul (pv 6) (pe_op op_add (pe_op op_mul pe_int (pv 3)) pe_int)) (pv 5)) pa_nil)) pe_int))
      (pss_cons (ps_set (i := 7) sc_law_draw.nd rfl (by first | exact .inl rfl | exact .inr rfl) (pe_op op_mod (pe_callTy call_int1 (by rfl) T.b_int (by decide +kernel) (pa_cons (pe_op op_add (pe_op op_add (pe_op op_mul (pv 7) (pv 7)) (pe_op op_mul pe_int (pv 3))) (pe_dget hu (pv 0) pe_str (fun _ _ => rfl))) pa_nil)) pe_int))
      (pss_one (ps_ret (pe_op op_mod (pe_op op_fdiv (pe_op op_mod (pe_callTy call_int1 (by rfl) T.b_int (by decide +kernel) (pa_cons (pe_op op_add (pe_op op_mul (pv 7) pe_int) (pv 3)) pa_nil)) pe_int) pe_int) (pv 1))))))))))), ?_⟩
    obtain ⟨d, lim, n, rfl, ⟨c, xs, l, sd, z, hd, hc, hx, ⟨hs0, hs1⟩, hz0, hzn⟩, ⟨h1, h2, h3⟩, q⟩ := h
    have hdc : d ≠ c := ne_of hd hc (by intro q; cases q)
    refine ⟨_, rfl, d, _, rfl, dg_l hd, l, 0, rfl, rfl, _, rfl, ?_⟩
    have hl0 : (0 : Int) < (lim : Int) := by omega
    by_cases hl : (0 : Int) < l
    · rw [decide_eq_true hl]
      refine iteT ⟨_, rfl, d, _, rfl, dg_l hd, .inl ⟨l, rfl, _, rfl, l, lim, rfl, rfl, hl0, ?_⟩⟩
      obtain ⟨r, er, hr1⟩ := imod_nat l lim h1
      dsimp only
      rw [er]
      refine ⟨_, rfl, d, _, rfl, dg_l hd, _, rfl, l, lim, rfl, rfl, ⟨hl0, h2⟩, _, rfl, d, _, rfl, dp_l hd, _, rfl, ?_⟩
      refine q r _ hr1 (Gr.wr (by simp)) ⟨c, xs, l / lim, sd, z, upd_same, ?_, hx, ⟨hs0, hs1⟩, hz0, by omega⟩
      rw [upd_ne hdc.symm]
      exact hc
    · rw [decide_eq_false hl]
      refine iteF ?_
      refine ⟨_, rfl, d, _, rfl, dg_s hd, ?_⟩
      refine ⟨_, rfl, _, _, rfl, rfl, _, rfl, d, _, rfl, dp_s hd, ?_⟩
      have hd' : (upd H d (.dK (mkv c l sd (z + 1)))) d = some (.dK (mkv c l sd (z + 1))) := upd_same
      have hc' : (upd H d (.dK (mkv c l sd (z + 1)))) c = some (.lst (xs.map V.int)) := by
        rw [upd_ne hdc.symm]
        exact hc
      have hxl : 1 ≤ xs.length := by
        cases xs with
        | nil => exact absurd rfl hx
        | cons x r => simp
      refine ⟨_, rfl, d, _, rfl, dg_c hd', _, rfl, d, _, rfl, dg_d hd', _, rfl, _, _, rfl, rfl, .inl ⟨by decide, by decide⟩, _, rfl, _, _, rfl, rfl, .inr ⟨by omega, by omega⟩, _, _, rfl, rfl, _, _, rfl, ?_⟩
      have hxi : ∃ i : Int, i = z := ⟨z, rfl⟩
      refine ⟨_, rfl, _, rfl, .inl ⟨z, rfl, _, rfl, c, _, rfl, .inl (sq_lst hc'), _, _, rfl, rfl, ?_, ?_⟩⟩
      · rw [List.length_map]
        omega
      rw [List.length_map]
      obtain ⟨j, ej, hj⟩ := imod_nat z xs.length hxl
      dsimp only
      refine ⟨c, _, _, .int xs[j], rfl, rfl, sq_lst hc', ?_, ?_⟩
      · rw [ej]
        refine atI_nat ?_
        rw [List.getElem?_map, List.getElem?_eq_getElem hj]
        rfl
      refine ⟨_, rfl, _, rfl, _, _, rfl, rfl, .inl ⟨by decide, by decide⟩, _, _, rfl, rfl, _, _, rfl, rfl, .inr ⟨by omega, by omega⟩, _, rfl, _, _, rfl, rfl, .inl ⟨_, rfl, _, _, rfl, rfl, (by show (0 : Int) < 2147483647; decide), ?_⟩⟩
      obtain ⟨u, eu, hu1⟩ := imod_nat (xs[j] * (2 * z + 3) + (sd + 40503 * z * z)) 2147483647 (by decide)
      have eu' : (xs[j] * (2 * z + 3) + (sd + 40503 * z * z)) % 2147483647 = (u : Int) := eu
      dsimp only
      rw [eu']
      refine ⟨_, rfl, _, rfl, _, _, rfl, rfl, .inl ⟨by omega, by omega⟩, _, rfl, _, _, rfl, rfl, .inl ⟨by decide, by decide⟩, _, _, rfl, rfl, _, rfl, d, _, rfl, dg_d hd', _, _, rfl, rfl, .inl ⟨_, rfl, _, _, rfl, rfl, (by show (0 : Int) < 2147483629; decide), ?_⟩⟩
      refine ⟨_, rfl, _, _, rfl, rfl, .inr ⟨by decide, by decide⟩, _, rfl, _, _, rfl, rfl, .inl ⟨_, rfl, _, _, rfl, rfl, (by show (0 : Int) < 2147483647; decide), _, _, rfl, rfl, ⟨by decide, by decide⟩, _, rfl, _, _, rfl, rfl, hl0, ?_⟩⟩
      dsimp only
      obtain ⟨r, er, hr1⟩ := imod_nat _ lim h1
      rw [er]
      exact q r _ hr1 (Gr.wr (by simp)) ⟨c, xs, l, sd, z + 1, hd', hc', hx, ⟨hs0, hs1⟩, by omega, by omega⟩

def sp_law_of (K : PySem.W.Frag) : Sp := fun vs H Q _ => ∃ (d a : Addr) (n : Nat) (xs : List V), vs = [.ref d, .ref a] ∧ MOk H d n ∧ H a = some (.lst xs) ∧ (xs ≠ [] ∧ xs.length ≤ 100000 ∧ n ≤ 1000000000) ∧
  ∀ v H', v ∈ xs → Gr [d] H H' → MOk H' d (n + 1) → Q v H'
theorem ok_law_of (T : Txt K mg) : FnOk P w K mg base CX0 2 T.d_law_of.f T.d_law_of.fd ["m", "some"] (sp_law_of K) := by
  refine T.d_law_of.F.ok sc_law_of (fun vs H Q E h => ?_) (fun cdv A outer s H vs Q E hr h => ?_)
  · obtain ⟨d, a, n, xs, rfl, _⟩ := h; rfl
  · have hu := hu_of hr
    refine ⟨_, (pss_one (ps_ret (pe_ix (r := rIxL K) ix_list (pv 1) (pe_call (ok_law_draw T) (hr.mono (by decide)) (by rfl) T.d_law_draw.m T.d_law_draw.F.kp T.d_law_draw.b .nil pass0 (pa_cons (pv 0) (pa_cons (pe_callB (r := rLn K) call_ln (by rfl) T.b_len PySem.boot_len (pa_cons (pv 1) pa_nil)) pa_nil))) (fun _ _ => rfl)))), ?_⟩
    obtain ⟨d, a, n, xs, rfl, M, ha, ⟨h1, h2, h3⟩, q⟩ := h
    have hl : 1 ≤ xs.length := by
      cases xs with
      | nil => exact absurd rfl h1
      | cons x r => simp
    refine ⟨_, rfl, _, rfl, _, rfl, a, _, rfl, .inl (sq_lst ha), ?_⟩
    refine ⟨d, xs.length, n, rfl, M, ⟨hl, lim_le (by omega), h3⟩, fun r H' hr g M' => ?_⟩
    have ha' := M.lst g ha
    exact ⟨a, xs, r, xs[r], rfl, rfl, sq_lst ha', atI_nat (by rw [List.getElem?_eq_getElem hr]), q _ _ (List.getElem_mem _) g M'⟩

def sp_law_divisor : Sp := fun vs H Q _ => ∃ a c : Nat, vs = [.int a, .int c] ∧ Q (.int (Nat.gcd a c : Nat)) H
theorem ok_law_divisor (T : Txt K mg) : FnOk P w K mg base CX0 1 T.d_law_divisor.f T.d_law_divisor.fd ["one", "two"] sp_law_divisor := by
  refine T.d_law_divisor.F.ok sc_law_divisor (fun vs H Q E h => ?_) (fun cdv A outer s H vs Q E hr h => ?_)
  · obtain ⟨a, c, rfl, _⟩ := h; rfl
  · have hu := hu_of hr
    refine ⟨_, (pss_cons (ps_while PassesOwn.never (pt_cmpR op_ne (pv 1) pe_int (nomark _)) (pss_one (ps_par (i := 0) (j := 1) (by rfl) sc_law_divisor.nd rfl rfl (by decide) rfl rfl (pa_cons (pv 1) (pa_cons (pe_op op_mod (pe_callTy call_int1 (by rfl) T.b_int (by decide +kernel) (pa_cons (pv 0) pa_nil)) (pe_callTy call_int1 (by rfl) T.b_int (by decide +kernel) (pa_cons (pv 1) pa_nil))) pa_nil)) (by rfl))))
      (pss_one (ps_ret (pv 0)))), ?_⟩
    obtain ⟨a, c, rfl, q⟩ := h
    refine ⟨fun m σ H' => H' = H ∧ ∃ u : Nat, σ = [some (.int u), some (.int m)] ∧ Nat.gcd u m = Nat.gcd a c, ⟨c, rfl, a, rfl, rfl⟩, ?_⟩
    rintro m σ H' ⟨rfl, u, rfl, e⟩
    refine ⟨_, rfl, rfl, _, rfl, ?_⟩
    by_cases hc : m = 0
    · refine iteFb (by rw [hc]; rfl) ⟨_, rfl, ?_⟩
      subst hc
      rw [← e, Nat.gcd_zero_right] at q
      exact q
    · refine iteTb (by rw [Bool.not_eq_true']; exact decide_eq_false fun z => hc (by have := V.int.inj z; omega)) ⟨fun σ' H2 => H2 = H' ∧ σ' = [some (.int m), some (.int (u % m : Nat))], ?_, ?_⟩
      · rintro σ' H2 ⟨rfl, rfl⟩
        refine ⟨u % m, Nat.mod_lt _ (by omega), rfl, m, rfl, ?_⟩
        rw [← e, Nat.gcd_comm m, ← Nat.gcd_rec, Nat.gcd_comm]
      · refine ⟨_, rfl, _, rfl, .inl ⟨_, rfl, _, rfl, .inl ⟨_, rfl, _, _, rfl, rfl, (show (0 : Int) < (m : Int) by omega), ?_⟩⟩⟩
        exact ⟨_, _, rfl, rfl, by dsimp only; rw [← Int.natCast_emod]; rfl⟩

theorem rl_succ (b n x i : Nat) : rl b n x (i + 1) = rl b n x i ++ [rem b n x i] := by
  unfold rl
  rw [List.range_succ, List.map_append]
  rfl
theorem rl_get {b n x i L : Nat} (h : i < L) : (vn (rl b n x L))[i]? = some (.int (rem b n x i : Nat)) := by
  unfold vn rl
  rw [List.map_map, List.getElem?_map, List.getElem?_range h]
  rfl
theorem flat_vn : ∀ xs : List Nat, (vn xs).all flatV = true
  | [] => rfl
  | x :: r => by
    show (true && (vn r).all flatV) = true
    rw [flat_vn r]
    rfl
def sp_law_powers (K : PySem.W.Frag) : Sp := fun vs H Q _ => ∃ (b n : Nat), vs = [.int b, .int n] ∧ (b ≤ 5000 ∧ 1 ≤ n ∧ n ≤ 5000) ∧
  ∀ (t l : Addr) H' (p q h L : Nat), Par b n p q h L → Gr [] H H' → H' t = some (.tup [.ref l, .int (h : Nat)]) → H' l = some (.lst (vn (rl b n 1 (h + L)))) → Q (.ref t) H'
theorem ok_law_powers (T : Txt K mg) : FnOk P w K mg base CX0 1 T.d_law_powers.f T.d_law_powers.fd ["b", "n"] (sp_law_powers K) := by
  refine T.d_law_powers.F.ok sc_law_powers (fun vs H Q E h => ?_) (fun cdv A outer s H vs Q E hr h => ?_)
  · obtain ⟨b, n, rfl, _⟩ := h; rfl
  · have hu := hu_of hr
    refine ⟨_, (pss_cons (ps_par (i := 2) (j := 3) (by rfl) sc_law_powers.nd rfl rfl (by decide) rfl rfl (pa_cons (pe_lst pa_nil) (pa_cons (pe_op op_mod pe_int (pv 1)) pa_nil)) (by rfl))
      (pss_cons (ps_while PassesOwn.never (pt_cmpR (r := rIn K true) op_notIn_seq (pv 3) (pv 2) rfl) (pss_cons (ps_expr (pe_bm PySem.F.plainAttrs_list PySem.F.slot_list_append PySem.F.type_list_append mt_append (pv 2) (pa_cons (pv 3) pa_nil)))
      (pss_one (ps_set (i := 3) sc_law_powers.nd rfl (by first | exact .inl rfl | exact .inr rfl) (pe_op op_mod (pe_callTy call_int1 (by rfl) T.b_int (by decide +kernel) (pa_cons (pe_op op_mul (pv 3) (pv 0)) pa_nil)) (pv 1))))))
      (pss_one (ps_ret (pe_tup (pa_cons (pv 2) (pa_cons (pe_bm (r := rIndex K) PySem.F.plainAttrs_list PySem.F.slot_list_index PySem.F.type_list_index mt_index (pv 2) (pa_cons (pv 3) pa_nil)) pa_nil))))))), ?_⟩
    obtain ⟨b, n, rfl, ⟨hb, hn1, hn⟩, q⟩ := h
    have g1 : Nat.gcd 1 n = 1 := Nat.gcd_one_left n
    refine ⟨Nat.zero_le _, fun l nl => ?_⟩
    refine ⟨_, rfl, _, n, rfl, rfl, (show (0 : Int) < (n : Int) by omega), ?_⟩
    refine ⟨_, _, rfl, ?_⟩
    have e0 : (1 : Int) % (n : Int) = ((rem b n 1 0 : Nat) : Int) := by
      unfold rem
      rw [Nat.pow_zero, Nat.mul_one]
      exact (Int.natCast_emod 1 n).symm
    dsimp only
    rw [e0]
    have nlH := nl
    refine ⟨fun m σ H' => ∃ i : Nat, m = n - i ∧ i ≤ n ∧ Gr [] H H' ∧ H' l = some (.lst (vn (rl b n 1 i))) ∧ σ = [some (.int b), some (.int n), some (.ref l), some (.int (rem b n 1 i : Nat))] ∧ (∀ u v, u < v → v < i → rem b n 1 u ≠ rem b n 1 v),
      ⟨n, 0, rfl, Nat.zero_le _, Gr.new nl, upd_same, rfl, fun u v _ z => absurd z (Nat.not_lt_zero _)⟩, ?_⟩
    rintro m σ H' ⟨i, rfl, hi, G, hL, rfl, hd⟩
    refine ⟨_, rfl, _, rfl, l, _, rfl, .inl (sq_lst hL), rfl, flat_vn _, _, rfl, ?_⟩
    by_cases hc : ∃ j, j < i ∧ rem b n 1 j = rem b n 1 i
    · obtain ⟨j, hj, ej⟩ := hc
      refine iteFb (by show (!inV (V.int ((rem b n 1 i : Nat) : Int)) (vn (rl b n 1 i))) = false; rw [inV_ni, decide_eq_true (mem_rl.mpr ⟨j, hj, ej⟩)]; rfl) ?_
      obtain ⟨p, q0, h, L, P⟩ := par_exists (b := b) hn1
      obtain ⟨ei, eh⟩ := ring_end P hn1 g1 hd hj ej
      refine ⟨_, rfl, _, rfl, .inl ⟨rfl, _, sq_lst hL⟩, _, rfl, l, _, _, j, .int (rem b n 1 j : Nat), rfl, rfl, sq_lst hL, rfl, flat_vn _, rl_get hj, ?_, ?_, by show 2 ≤ sizeLine; decide, fun t nt => ?_⟩
      · show (((rem b n 1 j : Nat) : Int) == ((rem b n 1 i : Nat) : Int)) = true
        rw [ej, beq_self_eq_true]
      · intro u z' hu hz
        rw [rl_get (by omega)] at hz
        cases hz
        show (((rem b n 1 u : Nat) : Int) == ((rem b n 1 i : Nat) : Int)) = false
        rw [beq_eq_false_iff_ne]
        intro z
        exact hd u j hu hj (by rw [ej]; omega)
      · refine q t l _ p q0 h L P (G.trans (Gr.new nt)) ?_ ?_
        · rw [upd_same, eh]
        · rw [upd_ne (ne_of_none hL nt), hL, ei]
    · have hno : ∀ j, j < i → rem b n 1 j ≠ rem b n 1 i := fun j hj ej => hc ⟨j, hj, ej⟩
      refine iteTb (by show (!inV (V.int ((rem b n 1 i : Nat) : Int)) (vn (rl b n 1 i))) = true; rw [inV_ni, decide_eq_false (fun z => by obtain ⟨j, hj, ej⟩ := mem_rl.mp z; exact hno j hj ej)]; rfl) ?_
      have hlt : rem b n 1 i < n := rem_lt hn1
      have hin : i + 1 ≤ n := by
        have := nodup_le n ((List.range (i + 1)).map fun u => rem b n 1 u) (by
          rw [List.nodup_iff_pairwise_ne, List.pairwise_map, List.pairwise_iff_getElem]
          intro u v hu hv huv
          rw [List.getElem_range, List.getElem_range]
          rw [List.length_range] at hv
          rcases Nat.lt_or_eq_of_le (show v ≤ i by omega) with z | z
          · exact hd u v huv z
          · rw [z]
            exact hno u (by omega)) (fun y hy => by
          obtain ⟨u, _, rfl⟩ := List.mem_map.mp hy
          exact rem_lt hn1)
        rw [List.length_map, List.length_range] at this
        exact this
      refine ⟨fun σ' H2 => Gr [] H H2 ∧ H2 l = some (.lst (vn (rl b n 1 (i + 1)))) ∧ σ' = [some (.int b), some (.int n), some (.ref l), some (.int (rem b n 1 (i + 1) : Nat))], ?_, ?_⟩
      · rintro σ' H2 ⟨G2, L2, rfl⟩
        refine ⟨n - (i + 1), by omega, i + 1, rfl, hin, G2, L2, rfl, fun u v huv hv => ?_⟩
        rcases Nat.lt_or_eq_of_le (show v ≤ i by omega) with z | z
        · exact hd u v huv z
        · rw [z]
          exact hno u (by omega)
      · have small : ∀ {k : Nat}, k ≤ 5000 → k < sizeLine := fun h => Nat.lt_of_lt_of_le (show _ < 6000 by omega) (by decide)
        refine ⟨_, rfl, .inl ⟨rfl, _, sq_lst hL⟩, _, rfl, l, _, _, rfl, rfl, hL, by rw [vn_len, rl_len]; exact small (by omega), ?_⟩
        rw [vn_snoc, ← rl_succ]
        refine ⟨_, rfl, _, rfl, _, b, rfl, rfl, .inl ⟨by omega, by omega⟩, .inl ⟨_, rfl, _, rfl, _, n, rfl, rfl, (show (0 : Int) < (n : Int) by omega), ?_⟩⟩
        dsimp only
        rw [icm, rem_succ]
        refine ⟨fun c o _ ec => ?_, upd_same, rfl⟩
        rw [upd_ne (ne_of_none ec nlH)]
        exact G c o (by simp) ec

def sp_law_period : Sp := fun vs H Q _ => ∃ (b n : Nat), vs = [.int b, .int n] ∧ (b ≤ 5000 ∧ 1 ≤ n ∧ n ≤ 5000) ∧
  ∀ (t : Addr) H' (p q h L : Nat), Par b n p q h L → Gr [] H H' → H' t = some (.tup [.int (L : Nat), .int (h : Nat)]) → Q (.ref t) H'
theorem ok_law_period (T : Txt K mg) : FnOk P w K mg base CX0 2 T.d_law_period.f T.d_law_period.fd ["b", "n"] sp_law_period := by
  refine T.d_law_period.F.ok sc_law_period (fun vs H Q E h => ?_) (fun cdv A outer s H vs Q E hr h => ?_)
  · obtain ⟨b, n, rfl, _⟩ := h; rfl
  · have hu := hu_of hr
    refine ⟨_, (pss_cons (ps_asg (pe_call (ok_law_powers T) (hr.mono (by decide)) (by rfl) T.d_law_powers.m T.d_law_powers.F.kp T.d_law_powers.b .nil pass0 (pa_cons (pv 0) (pa_cons (pv 1) pa_nil))) (pg_tup (by rfl) (pgs_cons (pg_name (i := 2) sc_law_period.nd rfl (by first | exact .inl rfl | exact .inr rfl)) (pgs_cons (pg_name (i := 3) sc_law_period.nd rfl (by first | exact .inl rfl | exact .inr rfl)) pgs_nil))))
      (pss_one (ps_ret (pe_tup (pa_cons (pe_op op_sub (pe_callB (r := rLn K) call_ln (by rfl) T.b_len PySem.boot_len (pa_cons (pv 2) pa_nil)) (pv 3)) (pa_cons (pv 3) pa_nil)))))), ?_⟩
    obtain ⟨b, n, rfl, hh, q⟩ := h
    refine ⟨_, rfl, _, rfl, b, n, rfl, hh, fun t l H1 p q0 h L P g1 ht hl => ?_⟩
    refine ⟨t, _, rfl, sq_tup ht, rfl, _, _, rfl, _, _, rfl, rfl, ?_⟩
    refine ⟨_, rfl, l, _, rfl, .inl (sq_lst hl), _, rfl, _, _, rfl, rfl, _, rfl, by show 2 ≤ sizeLine; decide, fun t2 n2 => ?_⟩
    refine q t2 _ p q0 h L P (g1.trans (Gr.new n2)) ?_
    rw [upd_same, vn_len, rl_len]
    dsimp only
    rw [show ((h + L : Nat) : Int) - (h : Int) = (L : Int) by omega]

def sp_law_units : Sp := fun vs H Q _ => ∃ (n : Nat), vs = [.int n] ∧ n ≤ 5000 ∧ ∀ (a : Addr) H', Gr [] H H' → H' a = some (.lst (vn (copL n))) → Q (.ref a) H'
theorem cop_step {n k : Nat} : ((List.range (k + 1)).filter fun x => decide (Nat.gcd x n = 1)) = ((List.range k).filter fun x => decide (Nat.gcd x n = 1)) ++ (if Nat.gcd k n = 1 then [k] else []) := by
  rw [List.range_succ, List.filter_append]
  by_cases h : Nat.gcd k n = 1
  · rw [if_pos h, List.filter_cons_of_pos (p := fun x => decide (Nat.gcd x n = 1)) (decide_eq_true h)]
    rfl
  · rw [if_neg h, List.filter_cons_of_neg (p := fun x => decide (Nat.gcd x n = 1)) (by rw [decide_eq_true_eq]; exact h)]
    rfl
theorem ok_law_units (T : Txt K mg) : FnOk P w K mg base CX0 2 T.d_law_units.f T.d_law_units.fd ["n"] sp_law_units := by
  refine T.d_law_units.F.ok sc_law_units (fun vs H Q E h => ?_) (fun cdv A outer s H vs Q E hr h => ?_)
  · obtain ⟨n, rfl, _⟩ := h; rfl
  · have hu := hu_of hr
    refine ⟨_, (pss_one (ps_ret (pe_lc (own := [("k", 1)]) (g := gName 1) (tt := _) rfl sc_law_units.nd (pi_range1 (by rfl) T.b_range (pa_cons (pv 0) pa_nil)) (blkOk_by (own := [("k", 1)]) (N := ["n", "k"]) (sc := defScope s_law_units) (by decide +kernel)) (fun _ _ _ _ _ => (pg_name (i := 1) sc_law_units.nd rfl (by first | exact .inl rfl | exact .inr rfl))) (fun _ _ _ _ _ => (pts_one (pt_cmpR op_eq (pe_call (ok_law_divisor T) (hr.mono (by decide)) (by rfl) T.d_law_divisor.m T.d_law_divisor.F.kp T.d_law_divisor.b .nil pass0 (pa_cons (pv 1) (pa_cons (pv 0) pa_nil))) pe_int (nomark _)))) (fun _ _ _ _ _ => (pv 1))))), ?_⟩
    obtain ⟨n, rfl, hn, q⟩ := h
    have small : ∀ {k : Nat}, k ≤ 5000 → k < sizeLine := fun h => Nat.lt_of_lt_of_le (show _ < 6000 by omega) (by decide)
    refine ⟨_, rfl, (n : Int), rfl, by omega, by omega, fun D nD => ?_⟩
    refine lc_range (lo := 0) (n := ((n : Int) - 0).toNat) (fun i H' => Gr [] H H' ∧ H' D = some (.lst (vn ((List.range i).filter fun x => decide (Nat.gcd x n = 1))))) ⟨Gr.new nD, upd_same⟩ ?_ ?_
    · rintro i H' hi ⟨G, hD⟩
      have ei : (0 : Int) + (i : Int) = ((i : Nat) : Int) := by omega
      have hin : i < n := by omega
      rw [ei]
      refine ⟨rfl, ?_⟩
      refine ⟨_, rfl, _, rfl, i, n, rfl, rfl, _, rfl, ?_⟩
      by_cases hg : Nat.gcd i n = 1
      · refine iteTb (by rw [hg]; rfl) ⟨_, rfl, _, hD, small (by rw [vn_len]; exact Nat.le_trans (List.length_filter_le _ _) (by rw [List.length_range]; omega)), fun c u _ e => ?_, ?_⟩
        · rw [upd_ne (ne_of_none e nD)]
          exact G c u (by simp) e
        · rw [upd_same, vn_snoc, cop_step, if_pos hg]
      · refine iteFb (decide_eq_false fun z => hg (by have := V.int.inj z; omega)) ⟨G, ?_⟩
        rw [hD, cop_step, if_neg hg, List.append_nil]
    rintro H' ⟨G, hD⟩
    exact q D H' G (by rw [hD, show ((n : Int) - 0).toNat = n by omega]; rfl)

def sp_law_begun (K : PySem.W.Frag) : Sp := fun vs H Q _ => ∃ (a : Addr) (ns : List Int) (k : Nat), vs = [.ref a, .int k] ∧ SqL K H a (ns.map V.int) ∧ ns.length ≤ 63 ∧ k ≤ 1000 ∧ ∀ d H', H d = none → Gr [] H H' → MOk H' d 0 → Q (.ref d) H'
theorem eqv_nil (ys : List Int) : PyData.eqv (.list (ys.map PyData.int)) (.list []) = ys.isEmpty := by
  cases ys with
  | nil => rfl
  | cons y r => rfl
theorem lay_ints : ∀ ys : List Int, PyData.canLayAll0 (ys.map PyData.int) = true ∧ PyData.depthAll (ys.map PyData.int) = 0
  | [] => ⟨rfl, rfl⟩
  | y :: r => by
    obtain ⟨h1, h2⟩ := lay_ints r
    refine ⟨?_, ?_⟩
    · show (true && PyData.canLayAll0 (r.map PyData.int)) = true
      rw [h1]
      rfl
    · show max 0 (PyData.depthAll (r.map PyData.int)) = 0
      rw [h2]
      rfl
theorem shaped_ints (ys : List Int) : SeqAt.shaped (.list (ys.map PyData.int)) = true := by
  obtain ⟨h1, h2⟩ := lay_ints ys
  exact Fits.shaped h1 (by show PyData.depthAll _ + 1 ≤ 64; rw [h2]; decide)
theorem get_ints {ns : List Int} {i : Nat} {x : V} (h : (ns.map V.int)[i]? = some x) : ∃ n, x = .int n ∧ ns[i]? = some n ∧ i < ns.length := by
  rw [List.getElem?_map] at h
  cases e : ns[i]? with
  | none =>
    rw [e] at h
    cases h
  | some n =>
    rw [e] at h
    exact ⟨n, (Option.some.inj h).symm, rfl, (List.getElem?_eq_some_iff.mp e).1⟩
theorem cut_ints (ns : List Int) (lo hi : Option Int) : ∃ ys : List Int, cutV (ns.map V.int) lo hi = ys.map V.int ∧ ys.length ≤ ns.length := by
  unfold cutV
  rw [← List.map_drop, ← List.map_take]
  exact ⟨_, rfl, by rw [List.length_take, List.length_drop]; omega⟩
theorem ok_law_begun (T : Txt K mg) : FnOk P w K mg base CX0 1 T.d_law_begun.f T.d_law_begun.fd ["script", "k"] (sp_law_begun K) := by
  refine T.d_law_begun.F.ok sc_law_begun (fun vs H Q E h => ?_) (fun cdv A outer s H vs Q E hr h => ?_)
  · obtain ⟨a, ns, k, rfl, _⟩ := h; rfl
  · have hu := hu_of hr
    refine ⟨_, (pss_cons (ps_set (i := 2) sc_law_begun.nd rfl (by first | exact .inl rfl | exact .inr rfl) (pe_op op_cat (pe_slice (r := rSlL K) sl_list (pv 0) (po_some (pv 1)) po_none) (pe_slice (r := rSlL K) sl_list (pv 0) po_none (po_some (pv 1)))))
      (pss_cons (ps_setLc (i := 3) (own := [("cell", 4)]) (g := gName 4) (tt := _) rfl sc_law_begun.nd rfl rfl (sw_true rfl rfl rfl (by decide +kernel)) (pi_list (pv 2)) (blkOk_by (own := [("cell", 4)]) (N := ["script", "k", "cells", "great", "cell", "seed"]) (sc := defScope s_law_begun) (by decide +kernel)) (fun _ _ _ _ _ => (pg_name (i := 4) sc_law_begun.nd rfl (by first | exact .inl rfl | exact .inr rfl))) (fun _ _ _ _ _ => (pts_one (pt_cmpR op_ge (pv 4) (pe_op op_pow pe_int pe_int) (nomark _)))) (fun _ _ _ _ _ => (pv 4)))
      (pss_cons (ps_set (i := 5) sc_law_begun.nd rfl (by first | exact .inl rfl | exact .inr rfl) (pe_op op_add pe_int (pv 1)))
      (pss_cons (ps_for PassesOwn.never rfl (pi_list (pv 2)) (pg_name (i := 4) sc_law_begun.nd rfl (by first | exact .inl rfl | exact .inr rfl)) (pss_one (ps_set (i := 5) sc_law_begun.nd rfl (by first | exact .inl rfl | exact .inr rfl) (pe_op op_mod (pe_callTy call_int1 (by rfl) T.b_int (by decide +kernel) (pa_cons (pe_op op_add (pe_op op_mul (pv 5) pe_int) (pv 4)) pa_nil)) pe_int))))
      (pss_one (ps_ret (pe_disp (pps_cons pe_str (pe_ifExp (pt_cmpR (r := rNeD K) (op_neD hr.units) (pv 3) (pe_lst pa_nil) (nomark _)) (pe_ix (r := rIxL K) ix_list (pv 3) pe_int (fun _ _ => rfl)) pe_int) (pps_cons pe_str (pv 5) (pps_cons pe_str (pe_op op_cat (pv 2) (pe_lst (pa_cons (pe_op op_add (pe_op op_mul pe_int (pv 1)) pe_int) pa_nil))) (pps_cons pe_str pe_int pps_nil)))) (by rfl) (by rfl) (fun z => by cases z) (by decide)))))))), ?_⟩
    obtain ⟨a, ns, k, rfl, hS, hn, hk, q⟩ := h
    have sz : ∀ {k : Nat}, k ≤ 1000 → k < sizeLine := fun h => small1000 h
    refine ⟨_, rfl, _, rfl, (k : Int), rfl, ?_⟩
    dsimp only [tNoPart]
    refine ⟨a, _, rfl, hS, fun p1 n1 => ?_⟩
    obtain ⟨y1, e1, l1⟩ := cut_ints ns (some (k : Int)) none
    rw [e1]
    have g1 : Gr [] H (upd H p1 (.lst (y1.map V.int))) := Gr.new n1
    have h1 : (upd H p1 (.lst (y1.map V.int))) p1 = some (.lst (y1.map V.int)) := upd_same
    generalize upd H p1 (.lst (y1.map V.int)) = H1 at g1 h1 ⊢
    refine ⟨_, rfl, _, rfl, (k : Int), rfl, a, _, rfl, (Kp.of g1).sqL hS, fun p2 n2 => ?_⟩
    obtain ⟨y2, e2, l2⟩ := cut_ints ns none (some (k : Int))
    rw [e2]
    have g2 : Gr [] H1 (upd H1 p2 (.lst (y2.map V.int))) := Gr.new n2
    have h2 : (upd H1 p2 (.lst (y2.map V.int))) p2 = some (.lst (y2.map V.int)) := upd_same
    generalize upd H1 p2 (.lst (y2.map V.int)) = H2 at g2 h2 ⊢
    refine ⟨p1, p2, _, _, rfl, rfl, g2 p1 _ (by simp) h1, h2, by rw [List.length_map, List.length_map]; exact Nat.le_of_lt (sz (by omega)), fun p3 n3 => ?_⟩
    dsimp only
    rw [← List.map_append]
    have g3 : Gr [] H2 (upd H2 p3 (.lst ((y1 ++ y2).map V.int))) := Gr.new n3
    have h3 : (upd H2 p3 (.lst ((y1 ++ y2).map V.int))) p3 = some (.lst ((y1 ++ y2).map V.int)) := upd_same
    generalize upd H2 p3 (.lst ((y1 ++ y2).map V.int)) = H3 at g3 h3 ⊢
    have G3 := (g1.trans g2).trans g3
    clear g1 g2 g3 h1 h2 e1 e2
    obtain ⟨xs, ex⟩ : ∃ xs, xs = y1 ++ y2 := ⟨_, rfl⟩
    have hxl : xs.length ≤ 126 := by
      rw [ex, List.length_append]
      omega
    rw [← ex] at h3
    clear ex
    refine ⟨_, rfl, p3, rfl, ⟨_, sq_lst h3⟩, fun D nD => ?_⟩
    have hDp : D ≠ p3 := fun e => by
      rw [e, h3] at nD
      cases nD
    refine lc_list (K := K) (a := p3) (xs := xs.map V.int) (fun i H' => Gr [] H3 H' ∧ ∃ ys : List Int, ys.length ≤ i ∧ H' D = some (.lst (ys.map V.int))) ⟨Gr.new nD, [], Nat.le_refl _, upd_same⟩ (fun i H' _ z => (Kp.of z.1).sqL (sq_lst h3)) ?_ ?_
    · rintro i y H' hy ⟨G, ys, hl, hD⟩
      obtain ⟨n, rfl, hn', hi⟩ := get_ints hy
      refine ⟨rfl, ?_⟩
      refine ⟨_, rfl, _, _, rfl, rfl, ⟨by decide, by decide, by decide⟩, _, _, rfl, rfl, _, rfl, ?_⟩
      have ex : ∀ {o : HO}, Gr [] H3 (upd H' D o) := fun {o} c u _ e => by
        rw [upd_ne (ne_of_none e nD)]
        exact G c u (by simp) e
      refine ite2 (fun _ => ?_) (fun _ => ?_)
      · refine ⟨_, rfl, _, hD, by rw [List.length_map]; exact sz (by omega), ex, ys ++ [n], by rw [List.length_append]; simp; omega, ?_⟩
        rw [upd_same, List.map_append]
        rfl
      · exact ⟨G, ys, by omega, hD⟩
    rintro H4 ⟨g4, ys, hl, hD⟩
    have h4 := g4 p3 _ (by simp) h3
    rw [List.length_map] at hl
    refine ⟨_, rfl, _, _, rfl, rfl, ?_⟩
    refine ⟨_, rfl, p3, rfl, ⟨_, sq_lst h4⟩, ?_⟩
    refine for_list (K := K) (a := p3) (xs := xs.map V.int) (fun i σ H' => H' = H4 ∧ ∃ (sd : Int) (v : Option V), (0 ≤ sd ∧ sd < 2147483647) ∧ σ = [some (.ref a), some (.int k), some (.ref p3), some (.ref D), v, some (.int sd)]) ⟨rfl, 131 + (k : Int), none, ⟨by omega, by omega⟩, rfl⟩ (fun i σ H' _ z => by rw [z.1]; exact sq_lst h4) ?_ ?_
    · rintro i y σ H' hy ⟨rfl, sd, v, ⟨s0, s1⟩, rfl⟩
      obtain ⟨n, rfl, _, _⟩ := get_ints hy
      refine ⟨_, rfl, _, _, rfl, rfl, .inr ⟨by decide, by decide⟩, _, rfl, _, _, rfl, rfl, .inl ⟨_, rfl, _, _, rfl, rfl, (by show (0 : Int) < 2147483647; decide), ?_⟩⟩
      exact ⟨rfl, _, _, ⟨Int.emod_nonneg _ (by decide), Int.emod_lt_of_pos _ (by decide)⟩, rfl⟩
    rintro σ H' ⟨rfl, sd, v, hs, rfl⟩
    intro p np
    have gp : Gr [] H' (upd H' p (.dK [])) := Gr.new np
    have hp : (upd H' p (.dK [])) p = some (.dK []) := upd_same
    have hD5 := gp D _ (by simp) hD
    have h5 := gp p3 _ (by simp) h4
    have np0 := np
    generalize hH5 : upd H' p (.dK []) = H5 at gp hp hD5 h5 ⊢
    have G4 : ∀ (H7 : Hp) (p6 : Addr) (l0 : Int), Gr [] H5 H7 → H7 p6 = some (.lst ((xs ++ [43 * (k : Int) + 7]).map V.int)) → Q (.ref p) (upd H7 p (.dK (mergeK [] (mkv p6 l0 sd 0)))) := fun H7 p6 l0 g7 h6 => by
      rw [mm]
      have hp7 := g7 p _ (by simp) hp
      have hne : p6 ≠ p := by
        intro e
        rw [e, hp7] at h6
        cases h6
      refine q p _ (by
        cases z : H p with
        | none => rfl
        | some o =>
          have := g4 p o (by simp) (G3 p o (by simp) z)
          rw [np] at this
          cases this) (fun c u _ e => ?_) ⟨p6, xs ++ [43 * (k : Int) + 7], l0, sd, 0, upd_same, ?_, by simp, hs, Int.le_refl _, Int.le_refl _⟩
      · have e1 := g4 c u (by simp) (G3 c u (by simp) e)
        rw [upd_ne (ne_of_none e1 np)]
        exact g7 c u (by simp) (gp c u (by simp) e1)
      · rw [upd_ne hne]
        exact h6
    refine ⟨_, rfl, Nat.zero_le _, fun q0 nq => ?_⟩
    have hq := (Gr.new (W := []) (o := .lst []) nq)
    refine ⟨.list (ys.map PyData.int), .list [], dp_lst (hq D _ (by simp) hD5) (dpAll_ints ys), dp_lst upd_same .nil, shaped_ints ys, rfl, _, rfl, ?_⟩
    rw [eqv_nil]
    have gq : Gr [] H5 (upd H5 q0 (.lst [])) := hq
    have h6 := hq p3 _ (by simp) h5
    have hD6 := hq D _ (by simp) hD5
    generalize upd H5 q0 (.lst []) = H6 at gq h6 hD6 ⊢
    cases ys with
    | nil =>
      refine iteF ?_
      refine ⟨_, rfl, _, rfl, _, rfl, _, _, rfl, rfl, .inl ⟨by decide, by decide⟩, _, _, rfl, rfl, by show 1 ≤ sizeLine; decide, fun p7 n7 => ?_⟩
      have k1 := (Gr.new (W := []) (o := .lst [V.int (43 * (k : Int) + 7)]) n7) p3 _ (by simp) h6
      refine ⟨p3, p7, _, _, rfl, rfl, k1, upd_same, by rw [List.length_map]; exact Nat.le_of_lt (sz (by show xs.length + 1 ≤ 1000; omega)), fun p8 n8 => ?_⟩
      have g8 := (gq.trans (Gr.new (W := []) (o := .lst [V.int (43 * (k : Int) + 7)]) n7)).trans (Gr.new (W := []) (o := .lst (xs.map V.int ++ [V.int (43 * (k : Int) + 7)])) n8)
      refine ⟨g8 p _ (by simp) hp, mkv p8 0 sd 0, rfl, by show 4 ≤ 15; decide, G4 _ p8 0 g8 ?_⟩
      rw [upd_same, List.map_append]
      rfl
    | cons y r =>
      refine iteT ⟨_, rfl, D, _, 0, .int y, rfl, rfl, sq_lst hD6, atI_nat (j := 0) rfl, ?_⟩
      refine ⟨_, rfl, _, rfl, _, rfl, _, _, rfl, rfl, .inl ⟨by decide, by decide⟩, _, _, rfl, rfl, by show 1 ≤ sizeLine; decide, fun p7 n7 => ?_⟩
      have k1 := (Gr.new (W := []) (o := .lst [V.int (43 * (k : Int) + 7)]) n7) p3 _ (by simp) h6
      refine ⟨p3, p7, _, _, rfl, rfl, k1, upd_same, by rw [List.length_map]; exact Nat.le_of_lt (sz (by show xs.length + 1 ≤ 1000; omega)), fun p8 n8 => ?_⟩
      have g8 := (gq.trans (Gr.new (W := []) (o := .lst [V.int (43 * (k : Int) + 7)]) n7)).trans (Gr.new (W := []) (o := .lst (xs.map V.int ++ [V.int (43 * (k : Int) + 7)])) n8)
      refine ⟨g8 p _ (by simp) hp, mkv p8 y sd 0, rfl, by show 4 ≤ 15; decide, G4 _ p8 y g8 ?_⟩
      rw [upd_same, List.map_append]
      rfl

end
end Wn
namespace Wn
open PySem PySem.Spec PyProof.Rows L2
local macro_rules | `(tactic| walk_at "vc") => `(tactic| simp only [cxK, cxK2, start1, start2, start3, tRet, tRetN, tSeq, tNext, tIfS, tAsg, gName, tDrop, tVar, tC, tOp, tUn, tTest, tB, tNot, tAnd, tOr, tAndV, tOrV, tNotV, tIf, tCons, tNil, tCB, tCall, tChain, tAug, ipI, rI, rI0, rU, rIs, rGcd, rEq, rNe, scal,
  List.getElem?_cons_zero, List.getElem?_cons_succ, List.set_cons_zero, List.set_cons_succ, Option.some.injEq, List.cons.injEq, V.int.injEq, V.bl.injEq, V.ref.injEq, V.str.injEq, and_true, true_and, exists_eq_left, exists_eq_left', exists_and_left, exists_and_right, List.append_nil, List.nil_append, List.cons_append, exists_eq_right, exists_eq_right', and_assoc, exists_const, V.ty.injEq, ↓reduceIte, Bool.false_eq_true, Bool.not_true, Bool.not_false, decide_eq_true_eq])

section
variable {P : Program} {w : World} {K : PySem.W.Frag} {mg : Str → Option Value} {base : Heap}
theorem sq_step (r s l n : Nat) : (r * s ^ l) % n = if l % 2 = 1 then ((r * s % n) * (s * s % n) ^ (l / 2)) % n else (r * (s * s % n) ^ (l / 2)) % n := by
  have e : ∀ a, (a * (s * s % n) ^ (l / 2)) % n = (a * (s * s) ^ (l / 2)) % n := fun a => by
    rw [Nat.mul_mod, ← Nat.pow_mod, ← Nat.mul_mod]
  split
  · rename_i h
    have hl : l = 2 * (l / 2) + 1 := by omega
    rw [e, Nat.mod_mul_mod]
    conv => lhs; rw [hl]
    rw [Nat.pow_succ, Nat.pow_mul, Nat.pow_two, Nat.mul_comm ((s * s) ^ (l / 2)) s, Nat.mul_assoc]
  · rename_i h
    have hl : l = 2 * (l / 2) := by omega
    rw [e]
    conv => lhs; rw [hl]
    rw [Nat.pow_mul, Nat.pow_two]
def sp_power_rest : Sp := fun vs H Q _ => ∃ b e n : Nat, vs = [.int b, .int e, .int n] ∧ (1 ≤ n ∧ n ≤ 5000) ∧ Q (.int (b ^ e % n : Nat)) H
theorem ok_power_rest (T : Txt K mg) : FnOk P w K mg base CX0 1 T.d_power_rest.f T.d_power_rest.fd ["number", "exponent", "divisor"] sp_power_rest := by
  refine T.d_power_rest.F.ok sc_power_rest (fun vs H Q E h => ?_) (fun cdv A outer s H vs Q E hr h => ?_)
  · obtain ⟨b, e, n, rfl, _⟩ := h; rfl
  · have hu := hu_of hr
    refine ⟨_, (pss_cons (ps_set (i := 3) sc_power_rest.nd rfl (by first | exact .inl rfl | exact .inr rfl) (pe_op op_mod pe_int (pv 2)))
      (pss_cons (ps_set (i := 4) sc_power_rest.nd rfl (by first | exact .inl rfl | exact .inr rfl) (pe_op op_mod (pv 0) (pv 2)))
      (pss_cons (ps_set (i := 5) sc_power_rest.nd rfl (by first | exact .inl rfl | exact .inr rfl) (pv 1))
      (pss_cons (ps_while PassesOwn.never (pt_cmpR op_gt (pv 5) pe_int (nomark _)) (pss_cons (ps_if (pt_cmpR op_eq (pe_op op_mod (pv 5) pe_int) pe_int (nomark _)) (pss_one (ps_set (i := 3) sc_power_rest.nd rfl (by first | exact .inl rfl | exact .inr rfl) (pe_op op_mod (pe_op op_mul (pv 3) (pv 4)) (pv 2)))) pss_nil)
      (pss_cons (ps_set (i := 4) sc_power_rest.nd rfl (by first | exact .inl rfl | exact .inr rfl) (pe_op op_mod (pe_op op_mul (pv 4) (pv 4)) (pv 2)))
      (pss_one (ps_set (i := 5) sc_power_rest.nd rfl (by first | exact .inl rfl | exact .inr rfl) (pe_op op_fdiv (pv 5) pe_int))))))
      (pss_one (ps_ret (pv 3))))))), ?_⟩
    obtain ⟨b, e, n, rfl, ⟨hn1, hn2⟩, q⟩ := h
    have hn0 : (0 : Int) < (n : Int) := by omega
    have e1 : (1 : Int) % (n : Int) = ((1 % n : Nat) : Int) := by rw [Int.natCast_emod]; rfl
    refine ⟨_, rfl, 1, n, rfl, rfl, hn0, ?_⟩
    refine ⟨_, rfl, _, rfl, b, n, rfl, rfl, hn0, ?_⟩
    refine ⟨_, rfl, ?_⟩
    refine ⟨fun m σ H' => H' = H ∧ ∃ r s : Nat, r < n ∧ s < n ∧ r * s ^ m % n = b ^ e % n ∧ σ = [some (.int b), some (.int e), some (.int n), some (.int r), some (.int s), some (.int m)], ⟨e, rfl, 1 % n, b % n, Nat.mod_lt _ hn1, Nat.mod_lt _ hn1, ?_, ?_⟩, ?_⟩
    · rw [Nat.mod_mul_mod, Nat.one_mul, ← Nat.pow_mod]
    · rw [← e1, Int.natCast_emod]
      rfl
    rintro m σ H' ⟨rfl, r, s, hr1, hs1, hrs, rfl⟩
    refine ⟨_, rfl, _, _, rfl, rfl, _, rfl, ?_⟩
    by_cases hc : (0 : Int) < (m : Int)
    · rw [decide_eq_true hc]
      have st := sq_step r s m n
      have e2 : (m : Int) % 2 = ((m % 2 : Nat) : Int) := by omega
      have e3 : (m : Int) / 2 = ((m / 2 : Nat) : Int) := by omega
      refine iteT ⟨fun σ' H2 => H2 = H' ∧ ∃ r s : Nat, r < n ∧ s < n ∧ r * s ^ (m / 2) % n = b ^ e % n ∧ σ' = [some (.int b), some (.int e), some (.int n), some (.int r), some (.int s), some (.int (m / 2 : Nat))], ?_, ?_⟩
      · rintro σ' H2 ⟨rfl, r', s', h1, h2, h3, rfl⟩
        exact ⟨m / 2, by omega, rfl, r', s', h1, h2, h3, rfl⟩
      · refine ⟨_, rfl, _, _, rfl, rfl, (by show (0 : Int) < 2; decide), rfl, _, rfl, ?_⟩
        by_cases ho : m % 2 = 1
        · rw [decide_eq_true (show V.int ((m : Int) % 2) = V.int 1 by rw [e2, ho]; rfl)]
          rw [if_pos ho] at st
          refine iteT ⟨_, rfl, _, rfl, _, _, rfl, rfl, .inl ⟨by omega, by omega⟩, _, rfl, _, _, rfl, rfl, hn0, ?_⟩
          refine ⟨_, rfl, _, rfl, _, _, rfl, rfl, .inl ⟨by omega, by omega⟩, _, rfl, _, _, rfl, rfl, hn0, ?_⟩
          refine ⟨_, rfl, _, _, rfl, rfl, ⟨by decide, by decide⟩, rfl, r * s % n, s * s % n, Nat.mod_lt _ hn1, Nat.mod_lt _ hn1, st.symm.trans hrs, ?_⟩
          dsimp only
          rw [icm, icm, e3]
          rfl
        · rw [decide_eq_false (show ¬ V.int ((m : Int) % 2) = V.int 1 from fun z => ho (by have := V.int.inj z; omega))]
          rw [if_neg ho] at st
          refine iteF ?_
          refine ⟨_, rfl, _, rfl, _, _, rfl, rfl, .inl ⟨by omega, by omega⟩, _, rfl, _, _, rfl, rfl, hn0, ?_⟩
          refine ⟨_, rfl, _, _, rfl, rfl, ⟨by decide, by decide⟩, rfl, r, s * s % n, hr1, Nat.mod_lt _ hn1, st.symm.trans hrs, ?_⟩
          dsimp only
          rw [icm, e3]
          rfl
    · rw [decide_eq_false hc]
      refine iteF ⟨_, rfl, ?_⟩
      have z : m = 0 := by omega
      subst z
      rw [Nat.pow_zero, Nat.mul_one, Nat.mod_eq_of_lt hr1] at hrs
      rw [← hrs] at q
      exact q


inductive Prs (H : Hp) : List Addr → List (Nat × Nat) → Prop
  | nil : Prs H [] []
  | cons {p : Addr} {ps : List Addr} {r : Nat × Nat} {rs : List (Nat × Nat)} : H p = some (.tup [.int (r.1 : Nat), .int (r.2 : Nat)]) → Prs H ps rs → Prs H (p :: ps) (r :: rs)
theorem Prs.imp {H H' : Hp} {ps : List Addr} {rs : List (Nat × Nat)} (h : Prs H ps rs) (k : ∀ {p : Addr} {r : Nat × Nat}, H p = some (.tup [.int (r.1 : Nat), .int (r.2 : Nat)]) → H' p = some (.tup [.int (r.1 : Nat), .int (r.2 : Nat)])) : Prs H' ps rs := by
  induction h with
  | nil => exact .nil
  | cons a _ ih => exact .cons (k a) ih
theorem Prs.len {H : Hp} {ps : List Addr} {rs : List (Nat × Nat)} (h : Prs H ps rs) : ps.length = rs.length := by
  induction h with
  | nil => rfl
  | cons a _ ih => exact congrArg (· + 1) ih
theorem Prs.snoc {H : Hp} {ps : List Addr} {rs : List (Nat × Nat)} {p : Addr} {r : Nat × Nat} (h : Prs H ps rs) (e : H p = some (.tup [.int (r.1 : Nat), .int (r.2 : Nat)])) : Prs H (ps ++ [p]) (rs ++ [r]) := by
  induction h with
  | nil => exact .cons e .nil
  | cons a _ ih => exact .cons a ih
theorem Prs.at_ {H : Hp} {ps : List Addr} {rs : List (Nat × Nat)} (h : Prs H ps rs) {i : Nat} {v : V} (e : (ps.map V.ref)[i]? = some v) : ∃ (p : Addr) (hi : i < rs.length), v = .ref p ∧ H p = some (.tup [.int ((rs[i]).1 : Nat), .int ((rs[i]).2 : Nat)]) := by
  induction h generalizing i with
  | nil => simp at e
  | @cons p ps r rs a _ ih =>
    cases i with
    | zero =>
      have : V.ref p = v := by simpa using e
      exact ⟨p, by simp, this.symm, a⟩
    | succ i =>
      obtain ⟨p2, hi, h1, h2⟩ := ih (i := i) (by simpa using e)
      exact ⟨p2, by simpa using hi, h1, h2⟩
def sp_prime_powers : Sp := fun vs H Q _ => ∃ n : Nat, vs = [.int n] ∧ (1 ≤ n ∧ n ≤ 20000) ∧ ∀ (l : Addr) (ps : List Addr) H', Gr [] H H' → H' l = some (.lst (ps.map V.ref)) → Prs H' ps (ppL n) → Q (.ref l) H'
theorem ok_prime_powers (T : Txt K mg) : FnOk P w K mg base CX0 1 T.d_prime_powers.f T.d_prime_powers.fd ["number"] sp_prime_powers := by
  refine T.d_prime_powers.F.ok sc_prime_powers (fun vs H Q E h => ?_) (fun cdv A outer s H vs Q E hr h => ?_)
  · obtain ⟨n, rfl, _⟩ := h; rfl
  · have hu := hu_of hr
    refine ⟨_, (pss_cons (ps_set (i := 1) sc_prime_powers.nd rfl (by first | exact .inl rfl | exact .inr rfl) (pe_lst pa_nil))
      (pss_cons (ps_set (i := 2) sc_prime_powers.nd rfl (by first | exact .inl rfl | exact .inr rfl) (pv 0))
      (pss_cons (ps_set (i := 3) sc_prime_powers.nd rfl (by first | exact .inl rfl | exact .inr rfl) pe_int)
      (pss_cons (ps_while PassesOwn.never (pt_cmpR op_gt (pv 2) pe_int (nomark _)) (pss_cons (ps_if (pt_cmpR op_gt (pe_op op_mul (pv 3) (pv 3)) (pv 2) (nomark _)) (pss_one (ps_set (i := 3) sc_prime_powers.nd rfl (by first | exact .inl rfl | exact .inr rfl) (pv 2))) pss_nil)
      (pss_cons (ps_set (i := 4) sc_prime_powers.nd rfl (by first | exact .inl rfl | exact .inr rfl) pe_int)
      (pss_cons (ps_while PassesOwn.never (pt_cmpR op_eq (pe_op op_mod (pv 2) (pv 3)) pe_int (nomark _)) (pss_cons (ps_set (i := 2) sc_prime_powers.nd rfl (by first | exact .inl rfl | exact .inr rfl) (pe_op op_fdiv (pv 2) (pv 3)))
      (pss_one (ps_aug (i := 4) sc_prime_powers.nd rfl (by first | exact .inl rfl | exact .inr rfl) pe_int ip_add))))
      (pss_cons (ps_if (pt_cmpR op_gt (pv 4) pe_int (nomark _)) (pss_one (ps_expr (pe_bm PySem.F.plainAttrs_list PySem.F.slot_list_append PySem.F.type_list_append mt_append (pv 1) (pa_cons (pe_tup (pa_cons (pv 3) (pa_cons (pv 4) pa_nil))) pa_nil)))) pss_nil)
      (pss_one (ps_aug (i := 3) sc_prime_powers.nd rfl (by first | exact .inl rfl | exact .inr rfl) pe_int ip_add)))))))
      (pss_one (ps_ret (pv 1))))))), ?_⟩
    obtain ⟨n, rfl, ⟨hn1, hn2⟩, q⟩ := h
    refine ⟨Nat.zero_le _, fun l nl => ?_⟩
    have hl0 : (upd H l (.lst [])) l = some (.lst (([] : List Addr).map V.ref)) := upd_same
    have g0 : Gr [] H (upd H l (.lst [])) := Gr.new nl
    generalize upd H l (.lst []) = H0 at hl0 g0 ⊢
    refine ⟨_, rfl, ?_⟩
    refine ⟨fun m σ H' => ∃ (left k : Nat) (ps : List Addr), (m = if left ≤ 1 then 0 else left - k + 1) ∧ H' = H' ∧ Gr [] H H' ∧ H' l = some (.lst (ps.map V.ref)) ∧ Prs H' ps (ppU n k) ∧ Left n left k ∧ 2 ≤ k ∧ k ≤ n + 1 ∧ ∃ v, σ = [some (.int n), some (.ref l), some (.int left), some (.int k), v], ⟨_, n, 2, [], rfl, rfl, g0, hl0, ?_, Left.start hn1, Nat.le_refl _, by omega, none, rfl⟩, ?_⟩
    · rw [show ppU n 2 = [] from by
        unfold ppU
        rw [show List.range 2 = [0, 1] from rfl]
        have f0 : fpp n 0 = none := by
          unfold fpp
          rw [if_neg]
          rintro ⟨_, h⟩
          cases h
        have f1 : fpp n 1 = none := by
          unfold fpp
          rw [if_neg]
          rintro ⟨_, h⟩
          cases h
        simp [f0, f1]]
      exact .nil
    rintro m σ H' ⟨left, k, ps, hm, _, G, hL, hP, L, hk2, hkn, v, rfl⟩
    have hln : left ≤ n := Nat.le_of_dvd hn1 L.dv
    refine ⟨_, rfl, _, 1, rfl, rfl, _, rfl, ?_⟩
    by_cases hl : 1 < left
    · have hge := L.ge hl
      rw [if_neg (by omega)] at hm
      refine iteTb (decide_eq_true (show (1 : Int) < (left : Int) by omega)) ?_
      refine ⟨fun σ' H2 => ∃ (left2 k2 : Nat) (ps : List Addr), H2 = H2 ∧ (if left2 ≤ 1 then 0 else left2 - k2 + 1) = (if left2 ≤ 1 then 0 else left2 - k2 + 1) ∧ Gr [] H H2 ∧ H2 l = some (.lst (ps.map V.ref)) ∧ Prs H2 ps (ppU n k2) ∧ Left n left2 k2 ∧ (2 ≤ k2 ∧ k2 ≤ n + 1) ∧ (if left2 ≤ 1 then 0 else left2 - k2 + 1) < m ∧ ∃ v, σ' = [some (.int n), some (.ref l), some (.int left2), some (.int k2), v], ?_, ?_⟩
      · rintro σ' H2 ⟨left2, k2, ps2, _, _, a1, a2, a3, a4, ⟨a5, a6⟩, a7, v, rfl⟩
        exact ⟨_, a7, left2, k2, ps2, rfl, rfl, a1, a2, a3, a4, a5, a6, v, rfl⟩
      refine ⟨_, rfl, _, rfl, _, _, rfl, rfl, .inl ⟨by omega, by omega⟩, _, rfl, _, _, rfl, rfl, _, rfl, ?_⟩
      dsimp only
      rw [← Int.natCast_mul]
      by_cases hj : left < k * k
      · refine iteTb (decide_eq_true (by omega)) ⟨_, rfl, ?_⟩
        have HK : 2 ≤ left ∧ left ≤ left ∧ Left n left left ∧ ppU n left = ppU n k := by
          obtain ⟨j1, j2, j3⟩ := L.jump hk2 hl hj
          exact ⟨by omega, Nat.le_refl _, j2, ppU_skip hge j3⟩
        have K2 : 2 ≤ left := HK.1
        have KL : left ≤ left := HK.2.1
        have LL : Left n left left := HK.2.2.1
        have PU : ppU n left = ppU n k := HK.2.2.2
        refine ⟨fun m2 σ2 H2 => H2 = H' ∧ ∃ r e : Nat, m2 = r ∧ σ2 = [some (.int n), some (.ref l), some (.int r), some (.int (left : Nat)), some (.int e)] ∧ left = r * left ^ e ∧ 1 ≤ r, ⟨left, rfl, left, 0, rfl, rfl, by rw [Nat.pow_zero, Nat.mul_one], LL.pos⟩, ?_⟩
        rintro m2 σ2 H2 ⟨rfl, r, e, rfl, rfl, hre, hr1⟩
        have hrl : m2 ≤ left := by
          have : m2 ∣ left := ⟨_, hre⟩
          exact Nat.le_of_dvd LL.pos this
        refine ⟨_, rfl, _, rfl, _, _, rfl, rfl, (show (0 : Int) < ((left : Nat) : Int) by omega), rfl, _, rfl, ?_⟩
        by_cases hd : m2 % left = 0
        · refine iteTb (decide_eq_true (show V.int (((m2 : Nat) : Int) % ((left : Nat) : Int)) = V.int 0 by rw [← Int.natCast_emod, hd]; rfl)) ?_
          obtain ⟨c, hc⟩ := Nat.dvd_of_mod_eq_zero hd
          have hc1 : 1 ≤ c := Nat.pos_of_ne_zero fun z => by rw [hc, z] at hr1; omega
          have hc2 : c < m2 := by
            have : 2 * c ≤ left * c := Nat.mul_le_mul_right _ K2
            omega
          refine ⟨fun σ3 H3 => H3 = H2 ∧ σ3 = [some (.int n), some (.ref l), some (.int c), some (.int (left : Nat)), some (.int (e + 1 : Nat))], ?_, ?_⟩
          · rintro σ3 H3 ⟨rfl, rfl⟩
            refine ⟨c, hc2, rfl, c, e + 1, rfl, rfl, ?_, hc1⟩
            refine hre.trans ?_
            rw [hc, Nat.pow_succ, Nat.mul_comm left c, Nat.mul_assoc, Nat.mul_comm left]
          · refine ⟨_, rfl, _, rfl, _, _, rfl, rfl, ⟨by omega, by omega⟩, ?_⟩
            refine ⟨_, rfl, _, _, rfl, rfl, rfl, ?_⟩
            dsimp only
            rw [← Int.natCast_ediv, show m2 / left = c by rw [hc, Nat.mul_div_cancel_left _ (by omega)]]
            rfl
        · refine iteFb (decide_eq_false (show ¬ V.int (((m2 : Nat) : Int) % ((left : Nat) : Int)) = V.int 0 from fun z => hd (by rw [← Int.natCast_emod] at z; have := V.int.inj z; omega))) ?_
          have hnd : ¬ left ∣ m2 := fun z => hd (Nat.mod_eq_zero_of_dvd z)
          obtain ⟨LN, FP⟩ := LL.next hn1 K2 hre hnd
          have US : ppU n (left + 1) = ppU n k ++ (if e = 0 then [] else [(left, e)]) := by
            by_cases z : e = 0
            · rw [ppU_succ, PU, FP, if_pos z, if_pos z]
            · rw [ppU_succ, PU, FP, if_neg z, if_neg z]
          have meas : ∀ {x : Nat}, (if m2 ≤ 1 then 0 else m2 - (left + 1) + 1) = x → x < left - k + 1 := fun {x} h => by
            rw [← h]
            split
            · omega
            · have := LN.ge (by omega)
              omega
          refine ⟨_, rfl, _, _, rfl, rfl, _, rfl, ?_⟩
          by_cases he : e = 0
          · refine iteFb (decide_eq_false (by omega)) ?_
            rw [if_pos he, List.append_nil] at US
            refine ⟨_, rfl, _, _, rfl, rfl, ?_⟩
            exact ⟨m2, left + 1, ps, rfl, rfl, G, hL, by rw [US]; exact hP, LN, ⟨by omega, by omega⟩, by rw [hm]; exact meas rfl, some (.int e), rfl⟩
          · refine iteTb (decide_eq_true (by omega)) ?_
            rw [if_neg he] at US
            refine ⟨_, rfl, .inl ⟨rfl, _, sq_lst hL⟩, _, rfl, _, rfl, by show 2 ≤ sizeLine; decide, fun t nt => ?_⟩
            have gt := Gr.new (W := []) (o := .tup [.int (left : Nat), .int (e : Nat)]) nt
            have et : (upd H2 t (.tup [.int (left : Nat), .int (e : Nat)])) t = some (.tup [.int (left : Nat), .int (e : Nat)]) := upd_same
            have hL2 := gt l _ (by simp) hL
            have hP2 := hP.imp fun h => gt _ _ (by simp) h
            generalize upd H2 t (.tup [.int (left : Nat), .int (e : Nat)]) = H4 at gt et hL2 hP2 ⊢
            refine ⟨l, _, _, rfl, rfl, hL2, ?_, ?_⟩
            · have := hP.len
              have := ppU_len (n := n) k
              rw [List.length_map]
              exact Nat.lt_of_lt_of_le (show ps.length < 30000 by omega) (by decide)
            refine ⟨_, rfl, _, _, rfl, rfl, ?_⟩
            refine ⟨m2, left + 1, ps ++ [t], rfl, rfl, ?_, by rw [upd_same, List.map_append]; rfl, ?_, LN, ⟨by omega, by omega⟩, by rw [hm]; exact meas rfl, some (.int e), rfl⟩
            · intro u o _ eo
              rw [upd_ne (ne_of_none eo nl)]
              exact gt u o (by simp) (G u o (by simp) eo)
            · rw [US]
              refine (hP2.imp fun h => ?_).snoc ?_
              · rw [upd_ne (ne_of h hL2 (by intro z; cases z))]
                exact h
              · rw [upd_ne (ne_of et hL2 (by intro z; cases z))]
                exact et
      · refine iteFb (decide_eq_false (by omega)) ?_
        have HK : 2 ≤ k ∧ k ≤ left ∧ Left n left k ∧ ppU n k = ppU n k := ⟨hk2, hge, L, rfl⟩
        have K2 : 2 ≤ k := HK.1
        have KL : k ≤ left := HK.2.1
        have LL : Left n left k := HK.2.2.1
        have PU : ppU n k = ppU n k := HK.2.2.2
        refine ⟨fun m2 σ2 H2 => H2 = H' ∧ ∃ r e : Nat, m2 = r ∧ σ2 = [some (.int n), some (.ref l), some (.int r), some (.int (k : Nat)), some (.int e)] ∧ left = r * k ^ e ∧ 1 ≤ r, ⟨left, rfl, left, 0, rfl, rfl, by rw [Nat.pow_zero, Nat.mul_one], LL.pos⟩, ?_⟩
        rintro m2 σ2 H2 ⟨rfl, r, e, rfl, rfl, hre, hr1⟩
        have hrl : m2 ≤ left := by
          have : m2 ∣ left := ⟨_, hre⟩
          exact Nat.le_of_dvd LL.pos this
        refine ⟨_, rfl, _, rfl, _, _, rfl, rfl, (show (0 : Int) < ((k : Nat) : Int) by omega), rfl, _, rfl, ?_⟩
        by_cases hd : m2 % k = 0
        · refine iteTb (decide_eq_true (show V.int (((m2 : Nat) : Int) % ((k : Nat) : Int)) = V.int 0 by rw [← Int.natCast_emod, hd]; rfl)) ?_
          obtain ⟨c, hc⟩ := Nat.dvd_of_mod_eq_zero hd
          have hc1 : 1 ≤ c := Nat.pos_of_ne_zero fun z => by rw [hc, z] at hr1; omega
          have hc2 : c < m2 := by
            have : 2 * c ≤ k * c := Nat.mul_le_mul_right _ K2
            omega
          refine ⟨fun σ3 H3 => H3 = H2 ∧ σ3 = [some (.int n), some (.ref l), some (.int c), some (.int (k : Nat)), some (.int (e + 1 : Nat))], ?_, ?_⟩
          · rintro σ3 H3 ⟨rfl, rfl⟩
            refine ⟨c, hc2, rfl, c, e + 1, rfl, rfl, ?_, hc1⟩
            refine hre.trans ?_
            rw [hc, Nat.pow_succ, Nat.mul_comm k c, Nat.mul_assoc, Nat.mul_comm k]
          · refine ⟨_, rfl, _, rfl, _, _, rfl, rfl, ⟨by omega, by omega⟩, ?_⟩
            refine ⟨_, rfl, _, _, rfl, rfl, rfl, ?_⟩
            dsimp only
            rw [← Int.natCast_ediv, show m2 / k = c by rw [hc, Nat.mul_div_cancel_left _ (by omega)]]
            rfl
        · refine iteFb (decide_eq_false (show ¬ V.int (((m2 : Nat) : Int) % ((k : Nat) : Int)) = V.int 0 from fun z => hd (by rw [← Int.natCast_emod] at z; have := V.int.inj z; omega))) ?_
          have hnd : ¬ k ∣ m2 := fun z => hd (Nat.mod_eq_zero_of_dvd z)
          obtain ⟨LN, FP⟩ := LL.next hn1 K2 hre hnd
          have US : ppU n (k + 1) = ppU n k ++ (if e = 0 then [] else [(k, e)]) := by
            by_cases z : e = 0
            · rw [ppU_succ, PU, FP, if_pos z, if_pos z]
            · rw [ppU_succ, PU, FP, if_neg z, if_neg z]
          have meas : ∀ {x : Nat}, (if m2 ≤ 1 then 0 else m2 - (k + 1) + 1) = x → x < left - k + 1 := fun {x} h => by
            rw [← h]
            split
            · omega
            · have := LN.ge (by omega)
              omega
          refine ⟨_, rfl, _, _, rfl, rfl, _, rfl, ?_⟩
          by_cases he : e = 0
          · refine iteFb (decide_eq_false (by omega)) ?_
            rw [if_pos he, List.append_nil] at US
            refine ⟨_, rfl, _, _, rfl, rfl, ?_⟩
            exact ⟨m2, k + 1, ps, rfl, rfl, G, hL, by rw [US]; exact hP, LN, ⟨by omega, by omega⟩, by rw [hm]; exact meas rfl, some (.int e), rfl⟩
          · refine iteTb (decide_eq_true (by omega)) ?_
            rw [if_neg he] at US
            refine ⟨_, rfl, .inl ⟨rfl, _, sq_lst hL⟩, _, rfl, _, rfl, by show 2 ≤ sizeLine; decide, fun t nt => ?_⟩
            have gt := Gr.new (W := []) (o := .tup [.int (k : Nat), .int (e : Nat)]) nt
            have et : (upd H2 t (.tup [.int (k : Nat), .int (e : Nat)])) t = some (.tup [.int (k : Nat), .int (e : Nat)]) := upd_same
            have hL2 := gt l _ (by simp) hL
            have hP2 := hP.imp fun h => gt _ _ (by simp) h
            generalize upd H2 t (.tup [.int (k : Nat), .int (e : Nat)]) = H4 at gt et hL2 hP2 ⊢
            refine ⟨l, _, _, rfl, rfl, hL2, ?_, ?_⟩
            · have := hP.len
              have := ppU_len (n := n) k
              rw [List.length_map]
              exact Nat.lt_of_lt_of_le (show ps.length < 30000 by omega) (by decide)
            refine ⟨_, rfl, _, _, rfl, rfl, ?_⟩
            refine ⟨m2, k + 1, ps ++ [t], rfl, rfl, ?_, by rw [upd_same, List.map_append]; rfl, ?_, LN, ⟨by omega, by omega⟩, by rw [hm]; exact meas rfl, some (.int e), rfl⟩
            · intro u o _ eo
              rw [upd_ne (ne_of_none eo nl)]
              exact gt u o (by simp) (G u o (by simp) eo)
            · rw [US]
              refine (hP2.imp fun h => ?_).snoc ?_
              · rw [upd_ne (ne_of h hL2 (by intro z; cases z))]
                exact h
              · rw [upd_ne (ne_of et hL2 (by intro z; cases z))]
                exact et
    · have e1 : left = 1 := by have := L.pos; omega
      subst e1
      refine iteFb (decide_eq_false (show ¬ (1 : Int) < ((1 : Nat) : Int) by omega)) ⟨_, rfl, q l ps H' G hL ?_⟩
      have : ppL n = ppU n k := ppU_skip hkn fun p h1 h2 => by
        unfold fpp
        rw [if_neg]
        rintro ⟨h3, h4⟩
        have := (L.same p 1 h1 h4).mpr (by rw [Nat.pow_one]; exact Nat.dvd_of_mod_eq_zero h3)
        rw [Nat.pow_one] at this
        have := Nat.le_of_dvd (by decide) this
        have := (isP_iff.mp h4).1
        omega
      rw [this]
      exact hP

def sp_law_raised : Sp := fun vs H Q _ => ∃ b e n : Nat, vs = [.int b, .int e, .int n] ∧ (1 ≤ n ∧ n ≤ 5000) ∧ Q (.int (b ^ e % n : Nat)) H
theorem ok_law_raised (T : Txt K mg) : FnOk P w K mg base CX0 1 T.d_law_raised.f T.d_law_raised.fd ["b", "times", "n"] sp_law_raised := by
  refine T.d_law_raised.F.ok sc_law_raised (fun vs H Q E h => ?_) (fun cdv A outer s H vs Q E hr h => ?_)
  · obtain ⟨b, e, n, rfl, _⟩ := h; rfl
  · have hu := hu_of hr
    refine ⟨_, (pss_cons (ps_par3 (i := 3) (j := 4) (l := 5) (by rfl) sc_law_raised.nd rfl rfl rfl (by decide) (by decide) (by decide) rfl rfl rfl (pa_cons (pe_op op_mod pe_int (pv 2)) (pa_cons (pe_op op_mod (pe_callTy call_int1 (by rfl) T.b_int (by decide +kernel) (pa_cons (pv 0) pa_nil)) (pv 2)) (pa_cons (pv 1) pa_nil))) (by rfl))
      (pss_cons (ps_while PassesOwn.never (pt_cmpR op_gt (pv 5) pe_int (nomark _)) (pss_cons (ps_if (pt_cmpR op_eq (pe_op op_mod (pe_callTy call_int1 (by rfl) T.b_int (by decide +kernel) (pa_cons (pv 5) pa_nil)) pe_int) pe_int (nomark _)) (pss_one (ps_set (i := 3) sc_law_raised.nd rfl (by first | exact .inl rfl | exact .inr rfl) (pe_op op_mod (pe_callTy call_int1 (by rfl) T.b_int (by decide +kernel) (pa_cons (pe_op op_mul (pv 3) (pv 4)) pa_nil)) (pv 2)))) pss_nil)
      (pss_cons (ps_set (i := 4) sc_law_raised.nd rfl (by first | exact .inl rfl | exact .inr rfl) (pe_op op_mod (pe_callTy call_int1 (by rfl) T.b_int (by decide +kernel) (pa_cons (pe_op op_mul (pv 4) (pv 4)) pa_nil)) (pv 2)))
      (pss_one (ps_set (i := 5) sc_law_raised.nd rfl (by first | exact .inl rfl | exact .inr rfl) (pe_op op_fdiv (pv 5) pe_int))))))
      (pss_one (ps_ret (pv 3))))), ?_⟩
    obtain ⟨b, e, n, rfl, ⟨hn1, hn2⟩, q⟩ := h
    have hn0 : (0 : Int) < (n : Int) := by omega
    have e1 : (1 : Int) % (n : Int) = ((1 % n : Nat) : Int) := by rw [Int.natCast_emod]; rfl
    refine ⟨_, rfl, 1, n, rfl, rfl, hn0, ?_⟩
    refine ⟨_, rfl, .inl ⟨_, rfl, _, rfl, b, n, rfl, rfl, hn0, _, rfl, ?_⟩⟩
    refine ⟨_, _, _, rfl, ?_⟩
    refine ⟨fun m σ H' => H' = H ∧ ∃ r s : Nat, r < n ∧ s < n ∧ r * s ^ m % n = b ^ e % n ∧ σ = [some (.int b), some (.int e), some (.int n), some (.int r), some (.int s), some (.int m)], ⟨e, rfl, 1 % n, b % n, Nat.mod_lt _ hn1, Nat.mod_lt _ hn1, ?_, ?_⟩, ?_⟩
    · rw [Nat.mod_mul_mod, Nat.one_mul, ← Nat.pow_mod]
    · rw [← e1, Int.natCast_emod]
      rfl
    rintro m σ H' ⟨rfl, r, s, hr1, hs1, hrs, rfl⟩
    refine ⟨_, rfl, _, _, rfl, rfl, _, rfl, ?_⟩
    by_cases hc : (0 : Int) < (m : Int)
    · rw [decide_eq_true hc]
      have st := sq_step r s m n
      have e2 : (m : Int) % 2 = ((m % 2 : Nat) : Int) := by omega
      have e3 : (m : Int) / 2 = ((m / 2 : Nat) : Int) := by omega
      refine iteT ⟨fun σ' H2 => H2 = H' ∧ ∃ r s : Nat, r < n ∧ s < n ∧ r * s ^ (m / 2) % n = b ^ e % n ∧ σ' = [some (.int b), some (.int e), some (.int n), some (.int r), some (.int s), some (.int (m / 2 : Nat))], ?_, ?_⟩
      · rintro σ' H2 ⟨rfl, r', s', h1, h2, h3, rfl⟩
        exact ⟨m / 2, by omega, rfl, r', s', h1, h2, h3, rfl⟩
      · refine ⟨_, rfl, .inl ⟨_, rfl, _, _, rfl, rfl, (by show (0 : Int) < 2; decide), rfl, _, rfl, ?_⟩⟩
        by_cases ho : m % 2 = 1
        · rw [decide_eq_true (show V.int ((m : Int) % 2) = V.int 1 by rw [e2, ho]; rfl)]
          rw [if_pos ho] at st
          refine iteT ⟨_, rfl, _, rfl, _, _, rfl, rfl, .inl ⟨by omega, by omega⟩, .inl ⟨_, rfl, _, rfl, _, _, rfl, rfl, hn0, ?_⟩⟩
          refine ⟨_, rfl, _, rfl, _, _, rfl, rfl, .inl ⟨by omega, by omega⟩, .inl ⟨_, rfl, _, rfl, _, _, rfl, rfl, hn0, ?_⟩⟩
          refine ⟨_, rfl, _, _, rfl, rfl, ⟨by decide, by decide⟩, rfl, r * s % n, s * s % n, Nat.mod_lt _ hn1, Nat.mod_lt _ hn1, st.symm.trans hrs, ?_⟩
          dsimp only
          rw [icm, icm, e3]
          rfl
        · rw [decide_eq_false (show ¬ V.int ((m : Int) % 2) = V.int 1 from fun z => ho (by have := V.int.inj z; omega))]
          rw [if_neg ho] at st
          refine iteF ?_
          refine ⟨_, rfl, _, rfl, _, _, rfl, rfl, .inl ⟨by omega, by omega⟩, .inl ⟨_, rfl, _, rfl, _, _, rfl, rfl, hn0, ?_⟩⟩
          refine ⟨_, rfl, _, _, rfl, rfl, ⟨by decide, by decide⟩, rfl, r, s * s % n, hr1, Nat.mod_lt _ hn1, st.symm.trans hrs, ?_⟩
          dsimp only
          rw [icm, e3]
          rfl
    · rw [decide_eq_false hc]
      refine iteF ⟨_, rfl, ?_⟩
      have z : m = 0 := by omega
      subst z
      rw [Nat.pow_zero, Nat.mul_one, Nat.mod_eq_of_lt hr1] at hrs
      rw [hrs]
      exact q

theorem small5 {k : Nat} (h : k ≤ 5000) : k < sizeLine := Nat.lt_of_lt_of_le (show _ < 6000 by omega) (by decide)
theorem prime_in : ∀ k, 2 ≤ k → ∃ q, isP q = true ∧ q ∣ k := by
  intro k
  induction k using Nat.strongRecOn with
  | _ k ih =>
    intro hk
    by_cases h : isP k = true
    · exact ⟨k, h, Nat.dvd_refl k⟩
    · have : ∃ q, 2 ≤ q ∧ q < k ∧ q ∣ k := by
        refine Classical.byContradiction fun z => h (isP_iff.mpr ⟨hk, fun q h1 h2 h3 => z ⟨q, h1, h2, h3⟩⟩)
      obtain ⟨q, h1, h2, h3⟩ := this
      obtain ⟨r, hr, hd⟩ := ih q h2 h1
      exact ⟨r, hr, Nat.dvd_trans hd h3⟩
def prL (b p L : Nat) : List (Nat × Nat) := (ppL L).map fun r => (r.1, b ^ (L / r.1) % p)
def prD (rs : List (Nat × Nat)) : PyData := .tuple (rs.map fun r => .tuple [.int (r.1 : Nat), .int (r.2 : Nat)])
def shortB (p : Nat) (rs : List (Nat × Nat)) : Bool := rs.all fun r => decide (r.2 ≠ 1 % p)
theorem per_iff {b p L : Nat} (hL : 1 ≤ L) (hp : 1 ≤ p) (g : Nat.gcd b p = 1) : (b ^ L % p = 1 % p ∧ shortB p (prL b p L) = true) ↔ IsPer b p L := by
  unfold shortB prL
  rw [List.all_map, List.all_eq_true]
  constructor
  · rintro ⟨h1, h2⟩
    obtain ⟨d, hd, hP⟩ := per_exists hp g
    obtain ⟨k, hk⟩ := (hP.iff L).mp h1
    by_cases h : d = L
    · rw [← h]
      exact hP
    · exfalso
      have hd1 := hP.1
      have hk2 : 2 ≤ k := by
        rcases Nat.lt_or_ge k 2 with z | z
        · have : k = 0 ∨ k = 1 := by omega
          rcases this with rfl | rfl
          · omega
          · exact absurd (by rw [hk, Nat.mul_one]) h
        · exact z
      obtain ⟨q, hq, c, hc⟩ := prime_in k hk2
      have hq2 := (isP_iff.mp hq).1
      have hql : q ∣ L := ⟨d * c, by rw [hk, hc, Nat.mul_left_comm]⟩
      have hm := mem_ppL hL hq hql
      have h3 := of_decide_eq_true (h2 _ hm)
      refine h3 ?_
      show b ^ (L / q) % p = 1 % p
      have e : L / q = d * c := by
        rw [hk, hc, Nat.mul_left_comm]
        exact Nat.mul_div_cancel_left _ (by omega)
      rw [e]
      exact hP.mul c
  · intro hP
    refine ⟨hP.2.1, fun r hr => decide_eq_true ?_⟩
    obtain ⟨r1, r2, _⟩ := ppL_mem hr
    have r3 := (isP_iff.mp r1).1
    obtain ⟨k, hk⟩ := r2
    have e : L / r.1 = k := by
      rw [hk]
      exact Nat.mul_div_cancel_left _ (by omega)
    have hk1 : 1 ≤ k := by
      rcases Nat.eq_zero_or_pos k with z | z
      · rw [z, Nat.mul_zero] at hk
        omega
      · exact z
    show b ^ (L / r.1) % p ≠ 1 % p
    rw [e]
    refine hP.2.2 k hk1 ?_
    have : 2 * k ≤ r.1 * k := Nat.mul_le_mul_right _ r3
    omega
theorem per_le {b n L : Nat} (hn : 1 ≤ n) (g : Nat.gcd b n = 1) (h : IsPer b n L) : L ≤ n := by
  obtain ⟨d, hd, hd'⟩ := per_exists hn g
  rw [h.uniq hd']
  exact hd
theorem prL_len {b p L : Nat} (hL : L ≤ 5000) : (prL b p L).length ≤ 5001 := by
  unfold prL
  rw [List.length_map]
  exact Nat.le_trans (ppU_len _) (by omega)
theorem prs_dp {K : PySem.W.Frag} {H : Hp} : ∀ {ps : List Addr} {rs : List (Nat × Nat)}, Prs H ps rs → DpAll K H (ps.map V.ref) (rs.map fun r => PyData.tuple [.int (r.1 : Nat), .int (r.2 : Nat)])
  | _, _, .nil => .nil
  | _, _, .cons a b => .cons (dp_tup a (.cons (.int _) (.cons (.int _) .nil))) (prs_dp b)
def sp_need_length : Sp := fun vs H Q _ => ∃ s : Int, vs = [.int s] ∧ (1 ≤ s ∧ s ≤ 5000) ∧ Q (.int s) H
def sp_prime_rests : Sp := fun vs H Q _ => ∃ b p L : Nat, vs = [.int b, .int p, .int L] ∧ (1 ≤ p ∧ p ≤ 5000) ∧ (1 ≤ L ∧ L ≤ 5000) ∧ ∀ (t : Addr) (ps : List Addr) H', Gr [] H H' → H' t = some (.tup (ps.map V.ref)) → Prs H' ps (prL b p L) → Q (.ref t) H'
def sp_is_repeated : Sp := fun vs H Q _ => ∃ b p L : Nat, vs = [.int b, .int p, .int L] ∧ (1 ≤ p ∧ p ≤ 5000) ∧ Q (.bl (decide (b ^ L % p = 1 % p))) H
def sp_is_shortest (K : PySem.W.Frag) : Sp := fun vs H Q _ => ∃ (p : Nat) (t : Addr) (xs : List V) (rs : List (Nat × Nat)), vs = [.int p, .ref t] ∧ 1 ≤ p ∧ rs.length ≤ 6000 ∧ SqT K H t xs ∧ DpAll K H xs (rs.map fun r => PyData.tuple [.int (r.1 : Nat), .int (r.2 : Nat)]) ∧ ∀ H', Gr [] H H' → Q (.bl (shortB p rs)) H'
def sp_has_period : Sp := fun vs H Q _ => ∃ b p L : Nat, vs = [.int b, .int p, .int L] ∧ (1 ≤ p ∧ p ≤ 5000) ∧ (1 ≤ L ∧ L ≤ 5000) ∧ Nat.gcd b p = 1 ∧ ∀ H', Gr [] H H' → ∀ B : Bool, (B = true ↔ IsPer b p L) → Q (.bl B) H'

end
end Wn
namespace Wn
open PySem PySem.Spec PyProof.Rows L2
local macro_rules | `(tactic| walk_at "vc") => `(tactic| simp only [cxK, cxK2, start1, start2, start3, tRet, tRetN, tSeq, tNext, tIfS, tAsg, gName, tDrop, tVar, tC, tOp, tUn, tTest, tB, tNot, tAnd, tOr, tAndV, tOrV, tNotV, tIf, tCons, tNil, tCB, tCall, tChain, tAug, ipI, rI, rI0, rU, rIs, rGcd, rEq, rNe, scal,
  List.getElem?_cons_zero, List.getElem?_cons_succ, List.set_cons_zero, List.set_cons_succ, Option.some.injEq, List.cons.injEq, V.int.injEq, V.bl.injEq, V.ref.injEq, V.str.injEq, and_true, true_and, exists_eq_left, exists_eq_left', exists_and_left, exists_and_right, List.append_nil, List.nil_append, List.cons_append, exists_eq_right, exists_eq_right', and_assoc, exists_const, V.ty.injEq, ↓reduceIte, Bool.false_eq_true, Bool.not_true, Bool.not_false, decide_eq_true_eq])

section
variable {P : Program} {w : World} {K : PySem.W.Frag} {mg : Str → Option Value} {base : Heap}
def sp_prime_powers_24 : Sp := fun vs H Q _ => ∃ n : Nat, vs = [.int n] ∧ (1 ≤ n ∧ n ≤ 5000) ∧ ∀ (l : Addr) (ps : List Addr) H', Gr [] H H' → H' l = some (.lst (ps.map V.ref)) → Prs H' ps (ppL n) → Q (.ref l) H'
theorem ok_prime_powers_24 (T : Txt K mg) : FnOk P w K mg base CX0 1 T.d_prime_powers.f T.d_prime_powers.fd ["number"] sp_prime_powers_24 := by
  refine T.d_prime_powers.F.ok sc_prime_powers (fun vs H Q E h => ?_) (fun cdv A outer s H vs Q E hr h => ?_)
  · obtain ⟨n, rfl, _⟩ := h; rfl
  · have hu := hu_of hr
    refine ⟨_, (pss_cons (ps_set (i := 1) sc_prime_powers.nd rfl (by first | exact .inl rfl | exact .inr rfl) (pe_lst pa_nil))
      (pss_cons (ps_set (i := 2) sc_prime_powers.nd rfl (by first | exact .inl rfl | exact .inr rfl) (pv 0))
      (pss_cons (ps_set (i := 3) sc_prime_powers.nd rfl (by first | exact .inl rfl | exact .inr rfl) pe_int)
      (pss_cons (ps_while PassesOwn.never (pt_cmpR op_gt (pv 2) pe_int (nomark _)) (pss_cons (ps_if (pt_cmpR op_gt (pe_op op_mul (pv 3) (pv 3)) (pv 2) (nomark _)) (pss_one (ps_set (i := 3) sc_prime_powers.nd rfl (by first | exact .inl rfl | exact .inr rfl) (pv 2))) pss_nil)
      (pss_cons (ps_set (i := 4) sc_prime_powers.nd rfl (by first | exact .inl rfl | exact .inr rfl) pe_int)
      (pss_cons (ps_while PassesOwn.never (pt_cmpR op_eq (pe_op op_mod (pv 2) (pv 3)) pe_int (nomark _)) (pss_cons (ps_set (i := 2) sc_prime_powers.nd rfl (by first | exact .inl rfl | exact .inr rfl) (pe_op op_fdiv (pv 2) (pv 3)))
      (pss_one (ps_aug (i := 4) sc_prime_powers.nd rfl (by first | exact .inl rfl | exact .inr rfl) pe_int ip_add))))
      (pss_cons (ps_if (pt_cmpR op_gt (pv 4) pe_int (nomark _)) (pss_one (ps_expr (pe_bm PySem.F.plainAttrs_list PySem.F.slot_list_append PySem.F.type_list_append mt_append (pv 1) (pa_cons (pe_tup (pa_cons (pv 3) (pa_cons (pv 4) pa_nil))) pa_nil)))) pss_nil)
      (pss_one (ps_aug (i := 3) sc_prime_powers.nd rfl (by first | exact .inl rfl | exact .inr rfl) pe_int ip_add)))))))
      (pss_one (ps_ret (pv 1))))))), ?_⟩
    obtain ⟨n, rfl, ⟨hn1, hn2⟩, q⟩ := h
    refine ⟨Nat.zero_le _, fun l nl => ?_⟩
    have hl0 : (upd H l (.lst [])) l = some (.lst (([] : List Addr).map V.ref)) := upd_same
    have g0 : Gr [] H (upd H l (.lst [])) := Gr.new nl
    generalize upd H l (.lst []) = H0 at hl0 g0 ⊢
    refine ⟨_, rfl, ?_⟩
    refine ⟨fun m σ H' => ∃ (left k : Nat) (ps : List Addr), (m = if left ≤ 1 then 0 else left - k + 1) ∧ H' = H' ∧ Gr [] H H' ∧ H' l = some (.lst (ps.map V.ref)) ∧ Prs H' ps (ppU n k) ∧ Left n left k ∧ 2 ≤ k ∧ k ≤ n + 1 ∧ ∃ v, σ = [some (.int n), some (.ref l), some (.int left), some (.int k), v], ⟨_, n, 2, [], rfl, rfl, g0, hl0, ?_, Left.start hn1, Nat.le_refl _, by omega, none, rfl⟩, ?_⟩
    · rw [show ppU n 2 = [] from by
        unfold ppU
        rw [show List.range 2 = [0, 1] from rfl]
        have f0 : fpp n 0 = none := by
          unfold fpp
          rw [if_neg]
          rintro ⟨_, h⟩
          cases h
        have f1 : fpp n 1 = none := by
          unfold fpp
          rw [if_neg]
          rintro ⟨_, h⟩
          cases h
        simp [f0, f1]]
      exact .nil
    rintro m σ H' ⟨left, k, ps, hm, _, G, hL, hP, L, hk2, hkn, v, rfl⟩
    have hln : left ≤ n := Nat.le_of_dvd hn1 L.dv
    refine ⟨_, rfl, _, 1, rfl, rfl, _, rfl, ?_⟩
    by_cases hl : 1 < left
    · have hge := L.ge hl
      rw [if_neg (by omega)] at hm
      refine iteTb (decide_eq_true (show (1 : Int) < (left : Int) by omega)) ?_
      refine ⟨fun σ' H2 => ∃ (left2 k2 : Nat) (ps : List Addr), H2 = H2 ∧ (if left2 ≤ 1 then 0 else left2 - k2 + 1) = (if left2 ≤ 1 then 0 else left2 - k2 + 1) ∧ Gr [] H H2 ∧ H2 l = some (.lst (ps.map V.ref)) ∧ Prs H2 ps (ppU n k2) ∧ Left n left2 k2 ∧ (2 ≤ k2 ∧ k2 ≤ n + 1) ∧ (if left2 ≤ 1 then 0 else left2 - k2 + 1) < m ∧ ∃ v, σ' = [some (.int n), some (.ref l), some (.int left2), some (.int k2), v], ?_, ?_⟩
      · rintro σ' H2 ⟨left2, k2, ps2, _, _, a1, a2, a3, a4, ⟨a5, a6⟩, a7, v, rfl⟩
        exact ⟨_, a7, left2, k2, ps2, rfl, rfl, a1, a2, a3, a4, a5, a6, v, rfl⟩
      refine ⟨_, rfl, _, rfl, _, _, rfl, rfl, .inl ⟨by omega, by omega⟩, _, rfl, _, _, rfl, rfl, _, rfl, ?_⟩
      dsimp only
      rw [← Int.natCast_mul]
      by_cases hj : left < k * k
      · refine iteTb (decide_eq_true (by omega)) ⟨_, rfl, ?_⟩
        have HK : 2 ≤ left ∧ left ≤ left ∧ Left n left left ∧ ppU n left = ppU n k := by
          obtain ⟨j1, j2, j3⟩ := L.jump hk2 hl hj
          exact ⟨by omega, Nat.le_refl _, j2, ppU_skip hge j3⟩
        have K2 : 2 ≤ left := HK.1
        have KL : left ≤ left := HK.2.1
        have LL : Left n left left := HK.2.2.1
        have PU : ppU n left = ppU n k := HK.2.2.2
        refine ⟨fun m2 σ2 H2 => H2 = H' ∧ ∃ r e : Nat, m2 = r ∧ σ2 = [some (.int n), some (.ref l), some (.int r), some (.int (left : Nat)), some (.int e)] ∧ left = r * left ^ e ∧ 1 ≤ r, ⟨left, rfl, left, 0, rfl, rfl, by rw [Nat.pow_zero, Nat.mul_one], LL.pos⟩, ?_⟩
        rintro m2 σ2 H2 ⟨rfl, r, e, rfl, rfl, hre, hr1⟩
        have hrl : m2 ≤ left := by
          have : m2 ∣ left := ⟨_, hre⟩
          exact Nat.le_of_dvd LL.pos this
        refine ⟨_, rfl, _, rfl, _, _, rfl, rfl, (show (0 : Int) < ((left : Nat) : Int) by omega), rfl, _, rfl, ?_⟩
        by_cases hd : m2 % left = 0
        · refine iteTb (decide_eq_true (show V.int (((m2 : Nat) : Int) % ((left : Nat) : Int)) = V.int 0 by rw [← Int.natCast_emod, hd]; rfl)) ?_
          obtain ⟨c, hc⟩ := Nat.dvd_of_mod_eq_zero hd
          have hc1 : 1 ≤ c := Nat.pos_of_ne_zero fun z => by rw [hc, z] at hr1; omega
          have hc2 : c < m2 := by
            have : 2 * c ≤ left * c := Nat.mul_le_mul_right _ K2
            omega
          refine ⟨fun σ3 H3 => H3 = H2 ∧ σ3 = [some (.int n), some (.ref l), some (.int c), some (.int (left : Nat)), some (.int (e + 1 : Nat))], ?_, ?_⟩
          · rintro σ3 H3 ⟨rfl, rfl⟩
            refine ⟨c, hc2, rfl, c, e + 1, rfl, rfl, ?_, hc1⟩
            refine hre.trans ?_
            rw [hc, Nat.pow_succ, Nat.mul_comm left c, Nat.mul_assoc, Nat.mul_comm left]
          · refine ⟨_, rfl, _, rfl, _, _, rfl, rfl, ⟨by omega, by omega⟩, ?_⟩
            refine ⟨_, rfl, _, _, rfl, rfl, rfl, ?_⟩
            dsimp only
            rw [← Int.natCast_ediv, show m2 / left = c by rw [hc, Nat.mul_div_cancel_left _ (by omega)]]
            rfl
        · refine iteFb (decide_eq_false (show ¬ V.int (((m2 : Nat) : Int) % ((left : Nat) : Int)) = V.int 0 from fun z => hd (by rw [← Int.natCast_emod] at z; have := V.int.inj z; omega))) ?_
          have hnd : ¬ left ∣ m2 := fun z => hd (Nat.mod_eq_zero_of_dvd z)
          obtain ⟨LN, FP⟩ := LL.next hn1 K2 hre hnd
          have US : ppU n (left + 1) = ppU n k ++ (if e = 0 then [] else [(left, e)]) := by
            by_cases z : e = 0
            · rw [ppU_succ, PU, FP, if_pos z, if_pos z]
            · rw [ppU_succ, PU, FP, if_neg z, if_neg z]
          have meas : ∀ {x : Nat}, (if m2 ≤ 1 then 0 else m2 - (left + 1) + 1) = x → x < left - k + 1 := fun {x} h => by
            rw [← h]
            split
            · omega
            · have := LN.ge (by omega)
              omega
          refine ⟨_, rfl, _, _, rfl, rfl, _, rfl, ?_⟩
          by_cases he : e = 0
          · refine iteFb (decide_eq_false (by omega)) ?_
            rw [if_pos he, List.append_nil] at US
            refine ⟨_, rfl, _, _, rfl, rfl, ?_⟩
            exact ⟨m2, left + 1, ps, rfl, rfl, G, hL, by rw [US]; exact hP, LN, ⟨by omega, by omega⟩, by rw [hm]; exact meas rfl, some (.int e), rfl⟩
          · refine iteTb (decide_eq_true (by omega)) ?_
            rw [if_neg he] at US
            refine ⟨_, rfl, .inl ⟨rfl, _, sq_lst hL⟩, _, rfl, _, rfl, by show 2 ≤ sizeLine; decide, fun t nt => ?_⟩
            have gt := Gr.new (W := []) (o := .tup [.int (left : Nat), .int (e : Nat)]) nt
            have et : (upd H2 t (.tup [.int (left : Nat), .int (e : Nat)])) t = some (.tup [.int (left : Nat), .int (e : Nat)]) := upd_same
            have hL2 := gt l _ (by simp) hL
            have hP2 := hP.imp fun h => gt _ _ (by simp) h
            generalize upd H2 t (.tup [.int (left : Nat), .int (e : Nat)]) = H4 at gt et hL2 hP2 ⊢
            refine ⟨l, _, _, rfl, rfl, hL2, ?_, ?_⟩
            · have := hP.len
              have := ppU_len (n := n) k
              rw [List.length_map]
              exact Nat.lt_of_lt_of_le (show ps.length < 6000 by omega) (by decide)
            refine ⟨_, rfl, _, _, rfl, rfl, ?_⟩
            refine ⟨m2, left + 1, ps ++ [t], rfl, rfl, ?_, by rw [upd_same, List.map_append]; rfl, ?_, LN, ⟨by omega, by omega⟩, by rw [hm]; exact meas rfl, some (.int e), rfl⟩
            · intro u o _ eo
              rw [upd_ne (ne_of_none eo nl)]
              exact gt u o (by simp) (G u o (by simp) eo)
            · rw [US]
              refine (hP2.imp fun h => ?_).snoc ?_
              · rw [upd_ne (ne_of h hL2 (by intro z; cases z))]
                exact h
              · rw [upd_ne (ne_of et hL2 (by intro z; cases z))]
                exact et
      · refine iteFb (decide_eq_false (by omega)) ?_
        have HK : 2 ≤ k ∧ k ≤ left ∧ Left n left k ∧ ppU n k = ppU n k := ⟨hk2, hge, L, rfl⟩
        have K2 : 2 ≤ k := HK.1
        have KL : k ≤ left := HK.2.1
        have LL : Left n left k := HK.2.2.1
        have PU : ppU n k = ppU n k := HK.2.2.2
        refine ⟨fun m2 σ2 H2 => H2 = H' ∧ ∃ r e : Nat, m2 = r ∧ σ2 = [some (.int n), some (.ref l), some (.int r), some (.int (k : Nat)), some (.int e)] ∧ left = r * k ^ e ∧ 1 ≤ r, ⟨left, rfl, left, 0, rfl, rfl, by rw [Nat.pow_zero, Nat.mul_one], LL.pos⟩, ?_⟩
        rintro m2 σ2 H2 ⟨rfl, r, e, rfl, rfl, hre, hr1⟩
        have hrl : m2 ≤ left := by
          have : m2 ∣ left := ⟨_, hre⟩
          exact Nat.le_of_dvd LL.pos this
        refine ⟨_, rfl, _, rfl, _, _, rfl, rfl, (show (0 : Int) < ((k : Nat) : Int) by omega), rfl, _, rfl, ?_⟩
        by_cases hd : m2 % k = 0
        · refine iteTb (decide_eq_true (show V.int (((m2 : Nat) : Int) % ((k : Nat) : Int)) = V.int 0 by rw [← Int.natCast_emod, hd]; rfl)) ?_
          obtain ⟨c, hc⟩ := Nat.dvd_of_mod_eq_zero hd
          have hc1 : 1 ≤ c := Nat.pos_of_ne_zero fun z => by rw [hc, z] at hr1; omega
          have hc2 : c < m2 := by
            have : 2 * c ≤ k * c := Nat.mul_le_mul_right _ K2
            omega
          refine ⟨fun σ3 H3 => H3 = H2 ∧ σ3 = [some (.int n), some (.ref l), some (.int c), some (.int (k : Nat)), some (.int (e + 1 : Nat))], ?_, ?_⟩
          · rintro σ3 H3 ⟨rfl, rfl⟩
            refine ⟨c, hc2, rfl, c, e + 1, rfl, rfl, ?_, hc1⟩
            refine hre.trans ?_
            rw [hc, Nat.pow_succ, Nat.mul_comm k c, Nat.mul_assoc, Nat.mul_comm k]
          · refine ⟨_, rfl, _, rfl, _, _, rfl, rfl, ⟨by omega, by omega⟩, ?_⟩
            refine ⟨_, rfl, _, _, rfl, rfl, rfl, ?_⟩
            dsimp only
            rw [← Int.natCast_ediv, show m2 / k = c by rw [hc, Nat.mul_div_cancel_left _ (by omega)]]
            rfl
        · refine iteFb (decide_eq_false (show ¬ V.int (((m2 : Nat) : Int) % ((k : Nat) : Int)) = V.int 0 from fun z => hd (by rw [← Int.natCast_emod] at z; have := V.int.inj z; omega))) ?_
          have hnd : ¬ k ∣ m2 := fun z => hd (Nat.mod_eq_zero_of_dvd z)
          obtain ⟨LN, FP⟩ := LL.next hn1 K2 hre hnd
          have US : ppU n (k + 1) = ppU n k ++ (if e = 0 then [] else [(k, e)]) := by
            by_cases z : e = 0
            · rw [ppU_succ, PU, FP, if_pos z, if_pos z]
            · rw [ppU_succ, PU, FP, if_neg z, if_neg z]
          have meas : ∀ {x : Nat}, (if m2 ≤ 1 then 0 else m2 - (k + 1) + 1) = x → x < left - k + 1 := fun {x} h => by
            rw [← h]
            split
            · omega
            · have := LN.ge (by omega)
              omega
          refine ⟨_, rfl, _, _, rfl, rfl, _, rfl, ?_⟩
          by_cases he : e = 0
          · refine iteFb (decide_eq_false (by omega)) ?_
            rw [if_pos he, List.append_nil] at US
            refine ⟨_, rfl, _, _, rfl, rfl, ?_⟩
            exact ⟨m2, k + 1, ps, rfl, rfl, G, hL, by rw [US]; exact hP, LN, ⟨by omega, by omega⟩, by rw [hm]; exact meas rfl, some (.int e), rfl⟩
          · refine iteTb (decide_eq_true (by omega)) ?_
            rw [if_neg he] at US
            refine ⟨_, rfl, .inl ⟨rfl, _, sq_lst hL⟩, _, rfl, _, rfl, by show 2 ≤ sizeLine; decide, fun t nt => ?_⟩
            have gt := Gr.new (W := []) (o := .tup [.int (k : Nat), .int (e : Nat)]) nt
            have et : (upd H2 t (.tup [.int (k : Nat), .int (e : Nat)])) t = some (.tup [.int (k : Nat), .int (e : Nat)]) := upd_same
            have hL2 := gt l _ (by simp) hL
            have hP2 := hP.imp fun h => gt _ _ (by simp) h
            generalize upd H2 t (.tup [.int (k : Nat), .int (e : Nat)]) = H4 at gt et hL2 hP2 ⊢
            refine ⟨l, _, _, rfl, rfl, hL2, ?_, ?_⟩
            · have := hP.len
              have := ppU_len (n := n) k
              rw [List.length_map]
              exact Nat.lt_of_lt_of_le (show ps.length < 6000 by omega) (by decide)
            refine ⟨_, rfl, _, _, rfl, rfl, ?_⟩
            refine ⟨m2, k + 1, ps ++ [t], rfl, rfl, ?_, by rw [upd_same, List.map_append]; rfl, ?_, LN, ⟨by omega, by omega⟩, by rw [hm]; exact meas rfl, some (.int e), rfl⟩
            · intro u o _ eo
              rw [upd_ne (ne_of_none eo nl)]
              exact gt u o (by simp) (G u o (by simp) eo)
            · rw [US]
              refine (hP2.imp fun h => ?_).snoc ?_
              · rw [upd_ne (ne_of h hL2 (by intro z; cases z))]
                exact h
              · rw [upd_ne (ne_of et hL2 (by intro z; cases z))]
                exact et
    · have e1 : left = 1 := by have := L.pos; omega
      subst e1
      refine iteFb (decide_eq_false (show ¬ (1 : Int) < ((1 : Nat) : Int) by omega)) ⟨_, rfl, q l ps H' G hL ?_⟩
      have : ppL n = ppU n k := ppU_skip hkn fun p h1 h2 => by
        unfold fpp
        rw [if_neg]
        rintro ⟨h3, h4⟩
        have := (L.same p 1 h1 h4).mpr (by rw [Nat.pow_one]; exact Nat.dvd_of_mod_eq_zero h3)
        rw [Nat.pow_one] at this
        have := Nat.le_of_dvd (by decide) this
        have := (isP_iff.mp h4).1
        omega
      rw [this]
      exact hP

theorem filt_yesG {α : Type} {xs : List α} {g : α → Bool} {i : Nat} (hi : i < xs.length) (h : g xs[i] = true) : (xs.take (i + 1)).filter g = (xs.take i).filter g ++ [xs[i]] := by
  rw [List.take_succ_eq_append_getElem hi, List.filter_append, List.filter_cons_of_pos (by simpa using h)]
  rfl
theorem filt_noG {α : Type} {xs : List α} {g : α → Bool} {i : Nat} (hi : i < xs.length) (h : g xs[i] = false) : (xs.take (i + 1)).filter g = (xs.take i).filter g := by
  rw [List.take_succ_eq_append_getElem hi, List.filter_append, List.filter_cons_of_neg (by simpa using h)]
  simp

def FR (b x n : Nat) : Prop := BN b n ∧ x < n ∧ Nat.gcd x n = 1
def sp_remainder_at : Sp := fun vs H Q _ => ∃ (b x n k : Nat) (a : Addr), vs = [.int b, .ref a, .int k] ∧ H a = some (.tup [.int x, .int n]) ∧ FR b x n ∧ k ≤ 10 ^ 30 ∧ Q (.int (rem b n x k : Nat)) H
def sp_digit_at : Sp := fun vs H Q _ => ∃ (b x n k : Nat) (a : Addr), vs = [.int b, .ref a, .int k] ∧ H a = some (.tup [.int x, .int n]) ∧ FR b x n ∧ k ≤ 10 ^ 30 ∧ Q (.int (rem b n x k * b / n : Nat)) H

def sp_digits_from : Sp := fun vs H Q _ => ∃ (b x n k c : Nat) (a : Addr), vs = [.int b, .ref a, .int k, .int c] ∧ H a = some (.tup [.int x, .int n]) ∧ FR b x n ∧ (k ≤ 10 ^ 30 ∧ c ≤ 400) ∧
  ∀ t H', Gr [] H H' → H' t = some (.tup (dgf b n x k c)) → Q (.ref t) H'
theorem rem_add (b n x i j : Nat) : rem b n (rem b n x i) j = rem b n x (i + j) := by
  unfold rem
  rw [Nat.mod_mul_mod, Nat.mul_assoc, ← Nat.pow_add]
theorem dgs_dgf (b n x k c : Nat) : dgs b n (rem b n x k) c = dgf b n x k c := by
  unfold dgs dgf
  simp only [rem_add]
def sp_need_pure : Sp := fun vs H Q _ => ∃ b n : Nat, vs = [.int b, .int n] ∧ BN b n ∧ Nat.gcd b n = 1 ∧ Q (.int n) H
def spc (b n x s c : Nat) : List Nat := (List.range c).map fun i => rem b n x (s * i)
theorem spc_len (b n x s c : Nat) : (spc b n x s c).length = c := by simp [spc]
def sp_spaced : Sp := fun vs H Q _ => ∃ (b x n s c : Nat) (a : Addr), vs = [.int b, .ref a, .int s, .int c] ∧ H a = some (.tup [.int x, .int n]) ∧ (1 ≤ n ∧ n ≤ 5000 ∧ x < n ∧ c ≤ 5000) ∧
  ∀ t H', Gr [] H H' → H' t = some (.tup (vn (spc b n x s c))) → Q (.ref t) H'
theorem ok_spaced (T : Txt K mg) : FnOk P w K mg base CX0 2 T.d_spaced.f T.d_spaced.fd ["base", "fraction", "size", "count"] sp_spaced := by
  refine T.d_spaced.F.ok sc_spaced (fun vs H Q E h => ?_) (fun cdv A outer s H vs Q E hr h => ?_)
  · obtain ⟨b, x, n, s, c, a, rfl, _⟩ := h; rfl
  · have hu := hu_of hr
    refine ⟨_, (pss_cons (ps_asg (pv 1) (pg_tup (by rfl) (pgs_cons (pg_name (i := 4) sc_spaced.nd rfl (by first | exact .inl rfl | exact .inr rfl)) (pgs_cons (pg_name (i := 5) sc_spaced.nd rfl (by first | exact .inl rfl | exact .inr rfl)) pgs_nil))))
      (pss_cons (ps_set (i := 6) sc_spaced.nd rfl (by first | exact .inl rfl | exact .inr rfl) (pe_call (ok_power_rest T) (hr.mono (by decide)) (by rfl) T.d_power_rest.m T.d_power_rest.F.kp T.d_power_rest.b .nil pass0 (pa_cons (pv 0) (pa_cons (pv 2) (pa_cons (pv 5) pa_nil)))))
      (pss_cons (ps_set (i := 7) sc_spaced.nd rfl (by first | exact .inl rfl | exact .inr rfl) (pe_lst pa_nil))
      (pss_cons (ps_set (i := 8) sc_spaced.nd rfl (by first | exact .inl rfl | exact .inr rfl) (pv 4))
      (pss_cons (ps_for PassesOwn.never rfl (pi_range1 (by rfl) T.b_range (pa_cons (pv 3) pa_nil)) (pg_name (i := 9) sc_spaced.nd rfl (by first | exact .inl rfl | exact .inr rfl)) (pss_cons (ps_expr (pe_bm PySem.F.plainAttrs_list PySem.F.slot_list_append PySem.F.type_list_append mt_append (pv 7) (pa_cons (pv 8) pa_nil)))
      (pss_one (ps_set (i := 8) sc_spaced.nd rfl (by first | exact .inl rfl | exact .inr rfl) (pe_op op_mod (pe_op op_mul (pv 8) (pv 6)) (pv 5))))))
      (pss_one (ps_ret (pe_callTy (r := rTpO K) call_tpO (by rfl) T.b_tuple (by decide +kernel) (pa_cons (pv 7) pa_nil))))))))), ?_⟩
    obtain ⟨b, x, n, s, c, a, rfl, ha, ⟨hn1, hn2, hx, hc⟩, q⟩ := h
    refine ⟨_, rfl, a, _, rfl, sq_tup ha, rfl, _, _, rfl, _, _, rfl, rfl, ?_⟩
    refine ⟨_, rfl, _, rfl, _, rfl, b, s, n, rfl, ⟨hn1, hn2⟩, ?_⟩
    refine ⟨Nat.zero_le _, fun l nl => ?_⟩
    refine ⟨_, rfl, ?_⟩
    refine ⟨_, rfl, (c : Int), rfl, by omega, by omega, ?_⟩
    have hl : b ^ s % n < n := Nat.mod_lt _ hn1
    refine for_range (lo := 0) (n := (c : Int).toNat) (fun i σ H' => Gr [] H H' ∧ H' l = some (.lst (vn (spc b n x s i))) ∧ ∃ v, σ = [some (.int b), some (.ref a), some (.int s), some (.int c), some (.int x), some (.int n), some (.int (b ^ s % n : Nat)), some (.ref l), some (.int (rem b n x (s * i) : Nat)), v]) ⟨Gr.new nl, upd_same, none, ?_⟩ ?_ ?_
    · rw [Nat.mul_zero, rem_zero hx]
      rfl
    · rintro i σ H' hi ⟨G, hL, v, rfl⟩
      have hr1 := rem_lt (b := b) (n := n) (x := x) (i := s * i) hn1
      refine ⟨_, rfl, .inl ⟨rfl, _, sq_lst hL⟩, _, rfl, l, _, _, rfl, rfl, hL, by rw [vn_len, spc_len]; exact small5 (by omega), ?_⟩
      refine ⟨_, rfl, _, rfl, _, _, rfl, rfl, .inl ⟨by omega, by omega⟩, _, rfl, _, n, rfl, rfl, (show (0 : Int) < (n : Int) by omega), ?_⟩
      dsimp only
      rw [icm, show rem b n x (s * i) * (b ^ s % n) % n = rem b n x (s * (i + 1)) by unfold rem; rw [Nat.mul_mod_mod, Nat.mod_mul_mod, Nat.mul_assoc, ← Nat.pow_add, Nat.mul_succ]]
      refine ⟨fun u o _ e => ?_, ?_, _, rfl⟩
      · rw [upd_ne (ne_of_none e nl)]
        exact G u o (by simp) e
      · rw [upd_same, vn_snoc]
        unfold spc
        rw [List.range_succ, List.map_append]
        rfl
    rintro σ H2 ⟨G, hL, v, rfl⟩
    rw [Int.toNat_natCast] at hL
    refine ⟨_, rfl, l, _, rfl, .inl ⟨sq_lst hL, fun t nt => ?_⟩⟩
    exact q t _ (G.trans (Gr.new nt)) upd_same

def sp_is_balanced_with : Sp := fun vs H Q _ => ∃ b n s c : Nat, vs = [.int b, .int n, .int s, .int c] ∧ (2 ≤ n ∧ n ≤ 5000 ∧ c ≤ 5000) ∧ ∀ H', Gr [] H H' → Q (.bl (bal b n s c)) H'
theorem ok_is_balanced_with (T : Txt K mg) : FnOk P w K mg base CX0 3 T.d_is_balanced_with.f T.d_is_balanced_with.fd ["base", "denominator", "size", "cut"] sp_is_balanced_with := by
  refine T.d_is_balanced_with.F.ok sc_is_balanced_with (fun vs H Q E h => ?_) (fun cdv A outer s H vs Q E hr h => ?_)
  · obtain ⟨b, n, s, c, rfl, _⟩ := h; rfl
  · have hu := hu_of hr
    refine ⟨_, (pss_one (ps_ret (pe_cmpR op_eq (pe_op op_mod (pe_callB (r := rSumT K) (cr_sumT rfl) (by rfl) T.b_sum (by decide +kernel) (pa_cons (pe_call (ok_spaced T) (hr.mono (by decide)) (by rfl) T.d_spaced.m T.d_spaced.F.kp T.d_spaced.b .nil pass0 (pa_cons (pv 0) (pa_cons (pe_tup (pa_cons pe_int (pa_cons (pv 1) pa_nil))) (pa_cons (pv 2) (pa_cons (pv 3) pa_nil))))) pa_nil)) (pv 1)) pe_int (nomark _)))), ?_⟩
    obtain ⟨b, n, s, c, rfl, ⟨hn1, hn2, hc⟩, q⟩ := h
    refine ⟨_, rfl, _, rfl, by show 2 ≤ sizeLine; decide, fun p np => ?_⟩
    refine ⟨_, rfl, _, rfl, b, 1, n, s, c, p, rfl, upd_same, ⟨by omega, hn2, by omega, hc⟩, fun t H1 g1 h1 => ?_⟩
    refine ⟨t, ni (spc b n 1 s c), rfl, by rw [← vn_ni]; exact sq_tup h1, ?_⟩
    refine ⟨_, rfl, _, n, rfl, rfl, (show (0 : Int) < (n : Int) by omega), ?_⟩
    dsimp only
    rw [ni_sum]
    have e : decide (V.int ((((spc b n 1 s c).sum : Nat) : Int) % (n : Int)) = V.int 0) = bal b n s c := by
      unfold bal
      rw [← Int.natCast_emod]
      show _ = decide ((spc b n 1 s c).sum % n = 0)
      by_cases z : (spc b n 1 s c).sum % n = 0
      · rw [decide_eq_true z, z]
        rfl
      · rw [decide_eq_false z, decide_eq_false (fun y => z (by have := V.int.inj y; omega))]
    have fin := q _ ((Gr.new np).trans g1)
    rw [← e] at fin
    exact ⟨rfl, fin⟩

def PF (b x n : Nat) : Prop := BN b n ∧ x < n ∧ Nat.gcd x n = 1 ∧ Nat.gcd b n = 1
def sp_need_pure_fraction : Sp := fun vs H Q _ => ∃ (b x n : Nat) (a : Addr), vs = [.int b, .ref a] ∧ H a = some (.tup [.int x, .int n]) ∧ PF b x n ∧ Q (.ref a) H
def sp_piece_size : Sp := fun vs H Q _ => ∃ b n L c : Nat, vs = [.int b, .int n, .int c] ∧ BN b n ∧ Nat.gcd b n = 1 ∧ IsPer b n L ∧ (2 ≤ c ∧ c ∣ L) ∧ Q (.int (L / c : Nat)) H
def sp_number_of : Sp := fun vs H Q _ => ∃ (b : Nat) (t : Addr) (ds : List Nat), vs = [.int b, .ref t] ∧ H t = some (.tup (vn ds)) ∧ b ≤ 1000 ∧ Q (.int (wrt b ds : Nat)) H
theorem wrt_step {b : Nat} {ds : List Nat} {i : Nat} (hi : i < ds.length) : wrt b (ds.take (i + 1)) = wrt b (ds.take i) * b + ds[i] := by
  rw [List.take_succ_eq_append_getElem hi, wrt_snoc]
theorem dgf_vn (b n x lo c : Nat) : dgf b n x lo c = vn (dg b n x lo c) := by
  unfold dgf vn dg
  rw [List.map_map]
  rfl
theorem dg_cut {b n x L lo hi : Nat} (h1 : lo ≤ hi) (h2 : hi ≤ L) : cutV (vn (dg b n x 0 L)) (some (lo : Int)) (some (hi : Int)) = vn (dg b n x lo (hi - lo)) := by
  unfold cutV
  rw [HT.sIx_nat, HT.sIx_nat, vn_len, dg_len, Nat.min_eq_left h2, Nat.min_eq_left (Nat.le_trans h1 h2)]
  unfold vn dg
  rw [← List.map_drop, ← List.map_take, ← List.map_drop, ← List.map_take]
  rw [List.map_map, List.map_map]
  apply List.ext_getElem
  · simp
    omega
  · intro i i1 i2
    simp
theorem par_pure {b n p q h L : Nat} (hn : 1 ≤ n) (hg : Nat.gcd b n = 1) (P : Par b n p q h L) : p = n ∧ h = 0 := by
  have ep := P.hp.uniq (IsPure.self hg)
  subst ep
  have eq1 : q = 1 := by
    have := P.e
    have : p * 1 = p * q := by omega
    exact (Nat.eq_of_mul_eq_mul_left (by omega) this).symm
  subst eq1
  exact ⟨rfl, P.hh.uniq ⟨Nat.mod_one _, fun j hj => absurd hj (Nat.not_lt_zero _)⟩⟩
def CT (b n L k c : Nat) : Prop := IsPer b n L ∧ 2 ≤ c ∧ 1 ≤ k ∧ L = k * c
theorem CT.d {b n L k c : Nat} (h : CT b n L k c) : c ∣ L ∧ L / c = k := by
  obtain ⟨h1, h2, h3, h4⟩ := h
  exact ⟨⟨k, by rw [h4, Nat.mul_comm]⟩, by rw [h4]; exact Nat.mul_div_cancel _ (by omega)⟩
def sp_pieces : Sp := fun vs H Q _ => ∃ (b x n L k c : Nat) (a : Addr), vs = [.int b, .ref a, .int c] ∧ H a = some (.tup [.int x, .int n]) ∧ PF b x n ∧ CT b n L k c ∧
  ∀ t H', Gr [] H H' → H' t = some (.tup (vn (pcs b n x k c))) → Q (.ref t) H'
def qv (b n x k c : Nat) : V := if restSum b n x k c % n = 0 then .int (restSum b n x k c / n : Nat) else .non
def sp_quotient : Sp := fun vs H Q _ => ∃ (b x n L k c : Nat) (a : Addr), vs = [.int b, .ref a, .int c] ∧ H a = some (.tup [.int x, .int n]) ∧ PF b x n ∧ CT b n L k c ∧
  ∀ H', Gr [] H H' → Q (qv b n x k c) H'
def shw (b n k c : Nat) (r : Nat × Nat) : Bool := decide (b ^ k % r.1 = 1) && decide (restSum b n 1 k c % r.1 ^ r.2 ≠ 0)
def sp_power : Sp := fun vs H Q _ => ∃ b k : Nat, vs = [.int b, .int k] ∧ (b ≤ 10000 ∧ k ≤ 100000) ∧ Q (.int (b ^ k : Nat)) H
theorem ok_power (T : Txt K mg) : FnOk P w K mg base CX0 1 T.d_power.f T.d_power.fd ["number", "exponent"] sp_power := by
  refine T.d_power.F.ok sc_power (fun vs H Q E h => ?_) (fun cdv A outer s H vs Q E hr h => ?_)
  · obtain ⟨b, k, rfl, _⟩ := h; rfl
  · have hu := hu_of hr
    refine ⟨_, (pss_cons (ps_set (i := 2) sc_power.nd rfl (by first | exact .inl rfl | exact .inr rfl) pe_int)
      (pss_cons (ps_for PassesOwn.never rfl (pi_range1 (by rfl) T.b_range (pa_cons (pv 1) pa_nil)) (pg_name (i := 3) sc_power.nd rfl (by first | exact .inl rfl | exact .inr rfl)) (pss_one (ps_set (i := 2) sc_power.nd rfl (by first | exact .inl rfl | exact .inr rfl) (pe_op op_mul (pv 2) (pv 0)))))
      (pss_one (ps_ret (pv 2))))), ?_⟩
    obtain ⟨b, k, rfl, ⟨hb, hk⟩, q⟩ := h
    refine ⟨_, rfl, (k : Int), rfl, by omega, by omega, ?_⟩
    refine for_range (lo := 0) (n := ((k : Int)).toNat) (fun i σ H' => H' = H ∧ ∃ v, σ = [some (.int b), some (.int k), some (.int (b ^ i : Nat)), v]) ⟨rfl, none, ?_⟩ ?_ ?_
    · rfl
    · rintro i σ H' hi ⟨rfl, v, rfl⟩
      refine ⟨_, rfl, _, rfl, _, _, rfl, rfl, .inr ⟨by omega, by omega⟩, rfl, some (.int (0 + (i : Int))), ?_⟩
      dsimp only
      rw [Nat.pow_succ, Int.natCast_mul]
      rfl
    rintro σ H' ⟨rfl, v, rfl⟩
    rw [Int.toNat_natCast]
    exact ⟨_, rfl, q⟩

def sp_shows_imbalance : Sp := fun vs H Q _ => ∃ (b n k c p e : Nat) (a : Addr), vs = [.int b, .int n, .int k, .int c, .ref a] ∧ H a = some (.tup [.int p, .int e]) ∧ (2 ≤ n ∧ n ≤ 5000 ∧ c ≤ 5000) ∧ (2 ≤ p ∧ p ≤ 5000 ∧ e ≤ 10000) ∧ ∀ H', Gr [] H H' → Q (.bl (shw b n k c (p, e))) H'
theorem mem_ppU {n k : Nat} {r : Nat × Nat} (h : r ∈ ppU n k) : isP r.1 = true ∧ n % r.1 = 0 ∧ r.2 = vl r.1 n ∧ r.1 < k := by
  unfold ppU at h
  obtain ⟨p, hp, e⟩ := List.mem_filterMap.mp h
  unfold fpp at e
  split at e
  · rename_i z
    cases e
    exact ⟨z.2, z.1, rfl, List.mem_range.mp hp⟩
  · cases e
theorem vl_le {p n : Nat} (hp : 2 ≤ p) (hn : 1 ≤ n) : vl p n ≤ n := by
  have h1 := (vl_spec hp hn).1
  have h2 := Nat.le_of_dvd hn h1
  have h3 : vl p n < 2 ^ vl p n := Nat.lt_two_pow_self
  have h4 := Nat.pow_le_pow_left hp (vl p n)
  omega
def sp_balance_paper : Sp := fun vs H Q _ => ∃ b n L k c : Nat, vs = [.int b, .int n, .int c] ∧ BN b n ∧ Nat.gcd b n = 1 ∧ 2 ≤ n ∧ CT b n L k c ∧
  (bal b n k c = true → ∀ t s H', Gr [] H H' → H' t = some (.tup [.str "balanced", .ref s]) → H' s = some (.tup (vn (spc b n 1 k c))) → Q (.ref t) H') ∧
  (bal b n k c = false → ∃ r rs, (ppL n).filter (shw b n k c) = r :: rs ∧ ∀ t H', Gr [] H H' → H' t = some (.tup [.str "unbalanced", .int (r.1 : Nat), .int (r.2 : Nat)]) → Q (.ref t) H')
def sp_law_power : Sp := fun vs H Q _ => ∃ b k : Nat, vs = [.int b, .int k] ∧ (b ≤ 1000 ∧ k ≤ 100000) ∧ Q (.int (b ^ k : Nat)) H

def DG (b : Nat) (ds : List Nat) : Prop := (2 ≤ b ∧ b ≤ 1000) ∧ (∀ d ∈ ds, d < b) ∧ (1 ≤ ds.length ∧ ds.length ≤ 400)
def sp_value_of : Sp := fun vs H Q _ => ∃ (a : Addr) (b : Nat) (ds : List Nat), vs = [.int b, .ref a] ∧ H a = some (.tup (vn ds)) ∧ DG b ds ∧ ∀ H', Gr [] H H' → Q (.int (wrt b ds : Nat)) H'
theorem pow_bits {b k : Nat} (hb : b ≤ 1000) : b ^ k < 2 ^ (10 * k + 1) := by
  refine Nat.lt_of_le_of_lt (Nat.pow_le_pow_left (show b ≤ 2 ^ 10 by omega) k) ?_
  rw [← Nat.pow_mul]
  exact Nat.pow_lt_pow_right (by decide) (by omega)
theorem wrt_bits {b : Nat} {ds : List Nat} (hb : b ≤ 1000) (h : ∀ d ∈ ds, d < b) : wrt b ds < 2 ^ (10 * ds.length + 1) := Nat.lt_trans (wrt_lt h) (pow_bits hb)
theorem catA_of {K : PySem.W.Frag} {H : Hp} {p1 p2 : Addr} {xs ys : List V} {Q : VK} (h1 : H p1 = some (.tup xs)) (h2 : H p2 = some (.tup ys)) (hz : xs.length + ys.length ≤ 6000) (q : ∀ p H', Gr [] H H' → H' p = some (.tup (xs ++ ys)) → Q (.ref p) H') : rCatA K (.ref p1) (.ref p2) H Q :=
  ⟨p1, p2, xs, ys, rfl, rfl, sq_tup h1, sq_tup h2, Nat.le_trans hz (by decide), fun z => q p2 H (Gr.refl _ _) (by rw [z]; exact h2), fun _ z => q p1 H (Gr.refl _ _) (by rw [z, List.append_nil]; exact h1), fun _ _ p np => q p _ (Gr.new np) upd_same⟩
theorem ok_power_45 (T : Txt K mg) : FnOk P w K mg base CX0 1 T.d_power.f T.d_power.fd ["number", "exponent"] sp_law_power := by
  refine T.d_power.F.ok sc_power (fun vs H Q E h => ?_) (fun cdv A outer s H vs Q E hr h => ?_)
  · obtain ⟨b, k, rfl, _⟩ := h; rfl
  · have hu := hu_of hr
    refine ⟨_, (pss_cons (ps_set (i := 2) sc_power.nd rfl (by first | exact .inl rfl | exact .inr rfl) pe_int)
      (pss_cons (ps_for PassesOwn.never rfl (pi_range1 (by rfl) T.b_range (pa_cons (pv 1) pa_nil)) (pg_name (i := 3) sc_power.nd rfl (by first | exact .inl rfl | exact .inr rfl)) (pss_one (ps_set (i := 2) sc_power.nd rfl (by first | exact .inl rfl | exact .inr rfl) (pe_op op_mul (pv 2) (pv 0)))))
      (pss_one (ps_ret (pv 2))))), ?_⟩
    obtain ⟨b, k, rfl, ⟨hb, hk⟩, q⟩ := h
    refine ⟨_, rfl, (k : Int), rfl, by omega, by omega, ?_⟩
    refine for_range (lo := 0) (n := ((k : Int)).toNat) (fun i σ H' => H' = H ∧ ∃ v, σ = [some (.int b), some (.int k), some (.int (b ^ i : Nat)), v]) ⟨rfl, none, ?_⟩ ?_ ?_
    · rfl
    · rintro i σ H' hi ⟨rfl, v, rfl⟩
      refine ⟨_, rfl, _, rfl, _, _, rfl, rfl, .inr ⟨by omega, by omega⟩, rfl, some (.int (0 + (i : Int))), ?_⟩
      dsimp only
      rw [Nat.pow_succ, Int.natCast_mul]
      rfl
    rintro σ H' ⟨rfl, v, rfl⟩
    rw [Int.toNat_natCast]
    exact ⟨_, rfl, q⟩

def bsm (u : Nat) (w : Int) (x m : Nat) : Int := ((List.range m).map fun i => w ^ i * ((x / u ^ i % u : Nat) : Int)).sum
theorem bsm_succ (u : Nat) (w : Int) (x m : Nat) : bsm u w x (m + 1) = bsm u w x m + w ^ m * ((x / u ^ m % u : Nat) : Int) := by
  unfold bsm
  rw [List.range_succ, List.map_append, List.sum_append]
  simp
theorem div_pow_zero {u x m m' : Nat} (h : x / u ^ m = 0) (l : m ≤ m') : x / u ^ m' = 0 := by
  obtain ⟨d, rfl⟩ := Nat.le.dest l
  rw [Nat.pow_add, ← Nat.div_div_eq_div_mul, h, Nat.zero_div]
theorem bsm_stop {u x : Nat} {w : Int} {m : Nat} (h : x / u ^ m = 0) : ∀ d, bsm u w x (m + d) = bsm u w x m
  | 0 => rfl
  | d + 1 => by
    rw [← Nat.add_assoc, bsm_succ, bsm_stop h d, div_pow_zero h (Nat.le_add_right m d), Nat.zero_mod]
    simp
theorem bsm_uniq {u x : Nat} {w : Int} {m m' : Nat} (h : x / u ^ m = 0) (h' : x / u ^ m' = 0) : bsm u w x m = bsm u w x m' := by
  rcases Nat.le_total m m' with l | l
  · obtain ⟨d, rfl⟩ := Nat.le.dest l
    exact (bsm_stop h d).symm
  · obtain ⟨d, rfl⟩ := Nat.le.dest l
    exact bsm_stop h' d
theorem bsm_mod {u x n : Nat} {w : Int} (h : (n : Int) ∣ w - (u : Int)) : ∀ m, (n : Int) ∣ bsm u w x m + w ^ m * ((x / u ^ m : Nat) : Int) - (x : Int)
  | 0 => by
    rw [Nat.pow_zero, Nat.div_one]
    simp [bsm]
  | m + 1 => by
    have ih := bsm_mod (x := x) h m
    have e : x / u ^ (m + 1) = x / u ^ m / u := by rw [Nat.pow_succ, Nat.div_div_eq_div_mul]
    have dm := Nat.div_add_mod (x / u ^ m) u
    rw [bsm_succ, e]
    generalize x / u ^ m = y at ih dm ⊢
    generalize hq : y / u = q at dm ⊢
    generalize hr : y % u = r at dm ⊢
    rw [← dm, Int.natCast_add, Int.natCast_mul] at ih
    generalize bsm u w x m = S at ih ⊢
    rw [Int.pow_succ]
    generalize w ^ m = W at ih ⊢
    obtain ⟨c, hc⟩ := h
    obtain ⟨e2, he2⟩ := ih
    refine ⟨e2 + W * (q : Int) * c, ?_⟩
    have hw : w = (u : Int) + n * c := by omega
    rw [Int.mul_add, ← he2]
    have : (n : Int) * (W * q * c) = W * q * (w - u) := by rw [hc, Int.mul_left_comm]
    rw [this]
    have e5 : W * (q : Int) * (w - (u : Int)) = W * w * (q : Int) - W * ((u : Int) * (q : Int)) := by
      rw [Int.mul_sub, Int.mul_assoc W w q, Int.mul_comm w q, ← Int.mul_assoc, ← Int.mul_assoc W (u : Int) q, Int.mul_assoc W q (u : Int), Int.mul_comm (q : Int) (u : Int), ← Int.mul_assoc]
    rw [e5, Int.mul_add]
    omega
theorem small_cnt {x i : Nat} (b : Nat) (hb : 2 ≤ b) (hx : x ≤ 10 ^ 60) (h : x / b ^ i ≠ 0) : i < 200 := by
  rcases Nat.lt_or_ge i 200 with z | z
  · exact z
  · exfalso
    refine h (Nat.div_eq_of_lt ?_)
    have h1 : 2 ^ 200 ≤ b ^ i := Nat.le_trans (Nat.pow_le_pow_left hb 200) (Nat.pow_le_pow_right (by omega) z)
    exact Nat.lt_of_le_of_lt hx (Nat.lt_of_lt_of_le (show (10 : Nat) ^ 60 < 2 ^ 200 by decide) h1)
theorem pow_natAbs {w : Int} {i : Nat} (hw : -1000 ≤ w ∧ w ≤ 1000) (hi : i ≤ 200) : (w ^ i).natAbs < 2 ^ 2001 := by
  rw [Int.natAbs_pow]
  have h1 : w.natAbs ≤ 2 ^ 10 := by
    have : w.natAbs ≤ 1000 := by omega
    exact Nat.le_trans this (by decide)
  refine Nat.lt_of_le_of_lt (Nat.pow_le_pow_left h1 i) ?_
  rw [← Nat.pow_mul]
  exact Nat.pow_lt_pow_right (by decide) (by omega)
def sp_block_sum : Sp := fun vs H Q _ => ∃ (b s x : Nat) (w : Int), vs = [.int b, .int s, .int w, .int x] ∧ (2 ≤ b ∧ b ≤ 1000) ∧ (1 ≤ s ∧ s ≤ 400) ∧ (-1000 ≤ w ∧ w ≤ 1000) ∧ x ≤ 10 ^ 60 ∧ ∀ m, x / (b ^ s) ^ m = 0 → Q (.int (bsm (b ^ s) w x m)) H
def sp_keeps : Sp := fun vs H Q _ => ∃ (b n s : Nat) (w : Int), vs = [.int b, .int n, .int s, .int w] ∧ BN b n ∧ (1 ≤ s ∧ s ≤ 400) ∧ (-1000 ≤ w ∧ w ≤ 1000) ∧ Q (.bl (decide (((b ^ s % n : Nat) : Int) = w % (n : Int)))) H
def sp_leaves : Sp := fun vs H Q _ => ∃ (b n s : Nat) (w : Int), vs = [.int b, .int n, .int s, .int w] ∧ BN b n ∧ Q (.bl (decide (((b ^ s % n : Nat) : Int) = w % (n : Int)))) H
def sp_need_size : Sp := fun vs H Q _ => ∃ s : Int, vs = [.int s] ∧ (1 ≤ s ∧ s ≤ 400) ∧ Q .non H
def sp_need_weight : Sp := fun vs H Q _ => ∃ s : Int, vs = [.int s] ∧ (-1000 ≤ s ∧ s ≤ 1000) ∧ Q .non H

end
end Wn
namespace Wn
open PySem PySem.Spec PyProof.Rows L2
local macro_rules | `(tactic| walk_at "vc") => `(tactic| simp only [cxK, cxK2, start1, start2, start3, tRet, tRetN, tSeq, tNext, tIfS, tAsg, gName, tDrop, tVar, tC, tOp, tUn, tTest, tB, tNot, tAnd, tOr, tAndV, tOrV, tNotV, tIf, tCons, tNil, tCB, tCall, tChain, tAug, ipI, rI, rI0, rU, rIs, rGcd, rEq, rNe, scal,
  List.getElem?_cons_zero, List.getElem?_cons_succ, List.set_cons_zero, List.set_cons_succ, Option.some.injEq, List.cons.injEq, V.int.injEq, V.bl.injEq, V.ref.injEq, V.str.injEq, and_true, true_and, exists_eq_left, exists_eq_left', exists_and_left, exists_and_right, List.append_nil, List.nil_append, List.cons_append, exists_eq_right, exists_eq_right', and_assoc, exists_const, V.ty.injEq, ↓reduceIte, Bool.false_eq_true, Bool.not_true, Bool.not_false, decide_eq_true_eq])

section
variable {P : Program} {w : World} {K : PySem.W.Frag} {mg : Str → Option Value} {base : Heap}
def sp_spaced_46 : Sp := fun vs H Q _ => ∃ (b x n s c : Nat) (a : Addr), vs = [.int b, .ref a, .int s, .int c] ∧ H a = some (.tup [.int x, .int n]) ∧ (1 ≤ n ∧ n ≤ 5000 ∧ x < n ∧ c ≤ 5000) ∧
  ∀ t ob H', Gr [] H H' → ob.dict = none → H' t = some (.frz ob (.tup (vn (spc b n x s c)))) → Q (.ref t) H'
theorem ok_spaced_46 (T : Txt K mg) : FnOk P w K mg base CX0 2 T.d_spaced.f T.d_spaced.fd ["base", "fraction", "size", "count"] sp_spaced_46 := by
  refine T.d_spaced.F.ok sc_spaced (fun vs H Q E h => ?_) (fun cdv A outer s H vs Q E hr h => ?_)
  · obtain ⟨b, x, n, s, c, a, rfl, _⟩ := h; rfl
  · have hu := hu_of hr
    refine ⟨_, (pss_cons (ps_asg (pv 1) (pg_tup (by rfl) (pgs_cons (pg_name (i := 4) sc_spaced.nd rfl (by first | exact .inl rfl | exact .inr rfl)) (pgs_cons (pg_name (i := 5) sc_spaced.nd rfl (by first | exact .inl rfl | exact .inr rfl)) pgs_nil))))
      (pss_cons (ps_set (i := 6) sc_spaced.nd rfl (by first | exact .inl rfl | exact .inr rfl) (pe_call (ok_power_rest T) (hr.mono (by decide)) (by rfl) T.d_power_rest.m T.d_power_rest.F.kp T.d_power_rest.b .nil pass0 (pa_cons (pv 0) (pa_cons (pv 2) (pa_cons (pv 5) pa_nil)))))
      (pss_cons (ps_set (i := 7) sc_spaced.nd rfl (by first | exact .inl rfl | exact .inr rfl) (pe_lst pa_nil))
      (pss_cons (ps_set (i := 8) sc_spaced.nd rfl (by first | exact .inl rfl | exact .inr rfl) (pv 4))
      (pss_cons (ps_for PassesOwn.never rfl (pi_range1 (by rfl) T.b_range (pa_cons (pv 3) pa_nil)) (pg_name (i := 9) sc_spaced.nd rfl (by first | exact .inl rfl | exact .inr rfl)) (pss_cons (ps_expr (pe_bm PySem.F.plainAttrs_list PySem.F.slot_list_append PySem.F.type_list_append mt_append (pv 7) (pa_cons (pv 8) pa_nil)))
      (pss_one (ps_set (i := 8) sc_spaced.nd rfl (by first | exact .inl rfl | exact .inr rfl) (pe_op op_mod (pe_op op_mul (pv 8) (pv 6)) (pv 5))))))
      (pss_one (ps_ret (pe_callTy (r := rTpF K) call_tpF (by rfl) T.b_tuple (by decide +kernel) (pa_cons (pv 7) pa_nil))))))))), ?_⟩
    obtain ⟨b, x, n, s, c, a, rfl, ha, ⟨hn1, hn2, hx, hc⟩, q⟩ := h
    refine ⟨_, rfl, a, _, rfl, sq_tup ha, rfl, _, _, rfl, _, _, rfl, rfl, ?_⟩
    refine ⟨_, rfl, _, rfl, _, rfl, b, s, n, rfl, ⟨hn1, hn2⟩, ?_⟩
    refine ⟨Nat.zero_le _, fun l nl => ?_⟩
    refine ⟨_, rfl, ?_⟩
    refine ⟨_, rfl, (c : Int), rfl, by omega, by omega, ?_⟩
    have hl : b ^ s % n < n := Nat.mod_lt _ hn1
    refine for_range (lo := 0) (n := (c : Int).toNat) (fun i σ H' => Gr [] H H' ∧ H' l = some (.lst (vn (spc b n x s i))) ∧ ∃ v, σ = [some (.int b), some (.ref a), some (.int s), some (.int c), some (.int x), some (.int n), some (.int (b ^ s % n : Nat)), some (.ref l), some (.int (rem b n x (s * i) : Nat)), v]) ⟨Gr.new nl, upd_same, none, ?_⟩ ?_ ?_
    · rw [Nat.mul_zero, rem_zero hx]
      rfl
    · rintro i σ H' hi ⟨G, hL, v, rfl⟩
      have hr1 := rem_lt (b := b) (n := n) (x := x) (i := s * i) hn1
      refine ⟨_, rfl, .inl ⟨rfl, _, sq_lst hL⟩, _, rfl, l, _, _, rfl, rfl, hL, by rw [vn_len, spc_len]; exact small5 (by omega), ?_⟩
      refine ⟨_, rfl, _, rfl, _, _, rfl, rfl, .inl ⟨by omega, by omega⟩, _, rfl, _, n, rfl, rfl, (show (0 : Int) < (n : Int) by omega), ?_⟩
      dsimp only
      rw [icm, show rem b n x (s * i) * (b ^ s % n) % n = rem b n x (s * (i + 1)) by unfold rem; rw [Nat.mul_mod_mod, Nat.mod_mul_mod, Nat.mul_assoc, ← Nat.pow_add, Nat.mul_succ]]
      refine ⟨fun u o _ e => ?_, ?_, _, rfl⟩
      · rw [upd_ne (ne_of_none e nl)]
        exact G u o (by simp) e
      · rw [upd_same, vn_snoc]
        unfold spc
        rw [List.range_succ, List.map_append]
        rfl
    rintro σ H2 ⟨G, hL, v, rfl⟩
    rw [Int.toNat_natCast] at hL
    refine ⟨_, rfl, l, _, rfl, sq_lst hL, fun t ob hob nt => ?_⟩
    exact q t ob _ (G.trans (Gr.new nt)) hob upd_same

theorem parF_ex (b n : Nat) (hn : 1 ≤ n) : ∃ hL : Nat × Nat, ∃ p q, Par b n p q hL.1 hL.2 := by
  obtain ⟨p, q, h, L, P⟩ := par_exists (b := b) hn
  exact ⟨(h, L), p, q, P⟩
noncomputable def hLF (b n : Nat) : Nat × Nat := Classical.epsilon fun hL : Nat × Nat => ∃ p q, Par b n p q hL.1 hL.2
theorem hLF_is (b n : Nat) (hn : 1 ≤ n) : ∃ p q, Par b n p q (hLF b n).1 (hLF b n).2 := Classical.epsilon_spec (p := fun hL : Nat × Nat => ∃ p q, Par b n p q hL.1 hL.2) (parF_ex b n hn)
theorem hLF_eq {b n p q h L : Nat} (hn : 1 ≤ n) (P : Par b n p q h L) : hLF b n = (h, L) := by
  obtain ⟨p', q', P'⟩ := hLF_is b n hn
  have ep : p' = p := P'.hp.uniq P.hp
  subst ep
  have eq : q' = q := Nat.eq_of_mul_eq_mul_left (P.p1 hn) (P'.e.symm.trans P.e)
  subst eq
  exact Prod.ext (P'.hh.uniq P.hh) (P'.hL.uniq P.hL)
def rows (b n c : Nat) : List Nat := (List.range c).map fun i => b ^ (i + 1) % n
theorem rows_len (b n c : Nat) : (rows b n c).length = c := by simp [rows]
theorem rows_lt {b n c k : Nat} (hn : 1 ≤ n) (h : k ∈ rows b n c) : k < n := by
  obtain ⟨i, _, rfl⟩ := List.mem_map.mp h
  exact Nat.mod_lt _ hn
noncomputable def rowE (b n : Nat) : List Nat := rows b n ((hLF b n).1 + (hLF b n).2)
theorem hL_le {b n p q h L : Nat} (hn : 1 ≤ n) (P : Par b n p q h L) : h + L ≤ n := by
  have F := fun {u v : Nat} (l : u < v) => rem_eq (x := 1) (Nat.gcd_one_left n) P.e P.hp.1 (P.gq hn) P.hh P.hL l
  have := nodup_le n ((List.range (h + L)).map fun u => rem b n 1 u) (by
    rw [List.nodup_iff_pairwise_ne, List.pairwise_map, List.pairwise_iff_getElem]
    intro u v hu hv huv
    rw [List.getElem_range, List.getElem_range]
    rw [List.length_range] at hv
    intro z
    obtain ⟨h1, h2⟩ := (F huv).mp z
    have := Nat.le_of_dvd (by omega) h2
    omega) (fun y hy => by
    obtain ⟨u, _, rfl⟩ := List.mem_map.mp hy
    exact rem_lt hn)
  rwa [List.length_map, List.length_range] at this
theorem rowE_len {b n : Nat} (hn : 1 ≤ n) : 1 ≤ (rowE b n).length ∧ (rowE b n).length ≤ n := by
  obtain ⟨p, q, P⟩ := hLF_is b n hn
  have h1 := hL_le hn P
  have h3 := P.hL.1
  unfold rowE
  rw [rows_len]
  omega
theorem rows_rl (b n c : Nat) : rows b n (c + 1) = (rl b n 1 (c + 1)).drop 1 ++ [rem b n 1 c * b % n] := by
  have e : rl b n 1 (c + 1) = [1 % n] ++ rows b n c := by
    unfold rl rows
    rw [List.range_succ_eq_map, List.map_cons, List.map_map]
    unfold rem
    rw [Nat.pow_zero, Nat.mul_one]
    refine congrArg (_ :: ·) (List.map_congr_left fun i _ => ?_)
    show 1 * b ^ (i + 1) % n = _
    rw [Nat.one_mul]
  rw [e, rem_succ]
  show rows b n (c + 1) = rows b n c ++ [rem b n 1 (c + 1)]
  unfold rows rem
  rw [List.range_succ, List.map_append, Nat.one_mul]
  rfl
/-- the remainder of a weight -/
def wt (w : Int) (n : Nat) : Nat := (w % (n : Int)).toNat
theorem wt_eq {w : Int} {n : Nat} (hn : 1 ≤ n) : w % (n : Int) = ((wt w n : Nat) : Int) := by
  unfold wt
  have := Int.emod_nonneg w (show (n : Int) ≠ 0 by omega)
  omega
noncomputable def fstE (b n : Nat) (w : Int) : Option Nat := if wt w n ∈ rowE b n then some ((rowE b n).idxOf (wt w n) + 1) else none
def BNW (b n : Nat) (w : Int) : Prop := BN b n ∧ -1000 ≤ w ∧ w ≤ 1000
def optD : Option Nat → PyData
  | none => .none
  | some k => .int (k : Nat)
def optV : Option Nat → V
  | none => .non
  | some k => .int (k : Nat)
noncomputable def expD (b n : Nat) (w : Int) : PyData := match fstE b n w with
  | none => .none
  | some k => .tuple [.int (k : Nat), .int (if (hLF b n).1 ≤ k then (hLF b n).2 else 0 : Nat)]
noncomputable def papD (b n : Nat) (w : Int) : PyData := match fstE b n w with
  | none => .tuple [.str "never", di (rowE b n)]
  | some k => .tuple [.str "exponent", .int (k : Nat)]
theorem fstE_le {b n k : Nat} {w : Int} (hn : 1 ≤ n) (h : fstE b n w = some k) : 1 ≤ k ∧ k ≤ n := by
  unfold fstE at h
  split at h
  · rename_i hm
    cases h
    have := List.idxOf_lt_length_iff.mpr hm
    have := (rowE_len (b := b) hn).2
    omega
  · cases h
theorem sqF {K : PySem.W.Frag} {H : Hp} {t : Addr} {ob : Obj} {xs : List V} (h : H t = some (.frz ob (.tup xs))) : SqT K H t xs := .inl (.inr ⟨ob, h⟩)
theorem dp_vnF {K : PySem.W.Frag} {H : Hp} {t : Addr} {ob : Obj} {xs : List Nat} (h : H t = some (.frz ob (.tup (vn xs)))) : Dp K H (.ref t) (di xs) := by
  rw [vn_ni] at h
  exact .tup (sqF h) (dpAll_ints _)
def sp_leaves_46 : Sp := fun vs H Q _ => ∃ (b n s : Nat) (w : Int), vs = [.int b, .int n, .int s, .int w] ∧ BN b n ∧ Q (.bl (decide (b ^ s % n = wt w n))) H
def sp_power_rests : Sp := fun vs H Q _ => ∃ (b n : Nat), vs = [.int b, .int n] ∧ BN b n ∧ ∀ t ob H', Gr [] H H' → ob.dict = none → H' t = some (.frz ob (.tup (vn (rowE b n)))) → Q (.ref t) H'
def sp_least_exponent : Sp := fun vs H Q _ => ∃ (b n : Nat) (w : Int), vs = [.int b, .int n, .int w] ∧ BNW b n w ∧ ∀ H', Gr [] H H' → Q (optV (fstE b n w)) H'
def sp_exponents (K : PySem.W.Frag) : Sp := fun vs H Q _ => ∃ (b n : Nat) (w : Int), vs = [.int b, .int n, .int w] ∧ BNW b n w ∧ ∀ v H', Gr [] H H' → Dp K H' v (expD b n w) → Q v H'
def sp_exponent_paper (K : PySem.W.Frag) : Sp := fun vs H Q _ => ∃ (b n : Nat) (w : Int), vs = [.int b, .int n, .int w] ∧ BNW b n w ∧ ∀ v H', Gr [] H H' → Dp K H' v (papD b n w) → Q v H'
theorem allI : ∀ {ds : List PyData}, ds.all isI = true → ∃ zs : List Int, ds = zs.map PyData.int
  | [], _ => ⟨[], rfl⟩
  | .int i :: r, h => by
    rw [List.all_cons, Bool.and_eq_true] at h
    obtain ⟨zs, e⟩ := allI h.2
    exact ⟨i :: zs, by rw [e]; rfl⟩
theorem dpAll_int {K : PySem.W.Frag} {H : Hp} : ∀ {vs : List V} {zs : List Int}, DpAll K H vs (zs.map PyData.int) → vs = zs.map V.int
  | _, [], .nil => rfl
  | _, z :: zs, .cons a b => by
    rw [dp_int a, dpAll_int b]
    rfl
theorem eqv_ints : ∀ (zs ys : List Int), PyData.eqv (.tuple (zs.map PyData.int)) (.tuple (ys.map PyData.int)) = decide (zs = ys)
  | [], [] => rfl
  | [], y :: ys => rfl
  | z :: zs, [] => rfl
  | z :: zs, y :: ys => by
    have ih := eqv_ints zs ys
    have e : PyData.eqv (.tuple ((z :: zs).map PyData.int)) (.tuple ((y :: ys).map PyData.int)) = ((z == y) && PyData.eqv (.tuple (zs.map PyData.int)) (.tuple (ys.map PyData.int))) := rfl
    rw [e, ih]
    by_cases h : z = y
    · subst h
      rw [beq_self_eq_true, Bool.true_and]
      by_cases h2 : zs = ys
      · rw [h2, decide_eq_true rfl, decide_eq_true rfl]
      · rw [decide_eq_false h2, decide_eq_false fun q => h2 (by injection q)]
    · rw [beq_eq_false_iff_ne.mpr h, Bool.false_and, decide_eq_false fun q => h (by injection q)]
/-- is it the tuple of these numbers -/
def isRow (row : List Nat) : PyData → Bool
  | .tuple ds => ds.all isI && PyData.eqv (.tuple ds) (di row)
  | _ => false
def sp_proves_never (K : PySem.W.Frag) : Sp := fun vs H Q _ => ∃ (b n : Nat) (w : Int) (v : V) (d : PyData), vs = [.int b, .int n, .int w, v] ∧ BN b n ∧ Dp K H v d ∧ SeqAt.shaped d = true ∧ SeqAt.shaped (di (rowE b n)) = true ∧
  (∀ xs ds, d = .tuple ds → xs = ds.length → xs ≤ 6000) ∧ ∀ H', Gr [] H H' → Q (.bl (isRow (rowE b n) d && decide (wt w n ∉ rowE b n))) H'

end
end Wn
namespace Wn
open PySem PySem.Spec PyProof.Rows L2
local macro_rules | `(tactic| walk_at "vc") => `(tactic| simp only [cxK, cxK2, start1, start2, start3, tRet, tRetN, tSeq, tNext, tIfS, tAsg, gName, tDrop, tVar, tC, tOp, tUn, tTest, tB, tNot, tAnd, tOr, tAndV, tOrV, tNotV, tIf, tCons, tNil, tCB, tCall, tChain, tAug, ipI, rI, rI0, rU, rIs, rGcd, rEq, rNe, scal,
  List.getElem?_cons_zero, List.getElem?_cons_succ, List.set_cons_zero, List.set_cons_succ, Option.some.injEq, List.cons.injEq, V.int.injEq, V.bl.injEq, V.ref.injEq, V.str.injEq, and_true, true_and, exists_eq_left, exists_eq_left', exists_and_left, exists_and_right, List.append_nil, List.nil_append, List.cons_append, exists_eq_right, exists_eq_right', and_assoc, exists_const, V.ty.injEq, ↓reduceIte, Bool.false_eq_true, Bool.not_true, Bool.not_false, decide_eq_true_eq])

section
variable {P : Program} {w : World} {K : PySem.W.Frag} {mg : Str → Option Value} {base : Heap}
theorem tseq_in {t u : TS} {D : Ends} {σ : L2.St} {H : Hp} (h : t { D with nx := u D } σ H) : tSeq t u D σ H := h
theorem tifs_in {c : TT} {t u : TS} {D : Ends} {σ : L2.St} {H : Hp} (h : c σ H fun b H1 => if b = true then t D σ H1 else u D σ H1) : tIfS c t u D σ H := h
theorem tor_in {t u : TT} {σ : L2.St} {H : Hp} {Q : Bool → Hp → Prop} (h : t σ H fun c H1 => if c = true then Q true H1 else u σ H1 Q) : tOr t u σ H Q := h
theorem ttest_in {t : TE} {σ : L2.St} {H : Hp} {Q : Bool → Hp → Prop} (h : t σ H fun x H' => ∃ k, x = .bl k ∧ Q k H') : tTest t σ H Q := h
theorem top_in {r : R2} {ta tb : TE} {σ : L2.St} {H : Hp} {Q : VK} (h : ta σ H fun x H1 => tb σ H1 fun y H2 => r x y H2 Q) : tOp r ta tb σ H Q := h
theorem gname_in {i : Nat} {x : V} {σ : L2.St} {H : Hp} {k : L2.St → Hp → Prop} (h : k (σ.set i (some x)) H) : gName i x σ H k := h
theorem tasg_in {te : TE} {g : TG} {D : Ends} {σ : L2.St} {H : Hp} (h : te σ H fun x H1 => g x σ H1 D.nx) : tAsg te g D σ H := h
theorem tcb_in {r : List V → Hp → VK → Prop} {t : L2.TA} {σ : L2.St} {H : Hp} {Q : VK} (h : t σ H fun vs H1 => r vs H1 Q) : tCB r t σ H Q := h
theorem tcons_in {t : TE} {ts : L2.TA} {σ : L2.St} {H : Hp} {Q : List V → Hp → Prop} (h : t σ H fun x H1 => ts σ H1 fun xs H2 => Q (x :: xs) H2) : tCons t ts σ H Q := h
theorem tlst_in {t : L2.TA} {σ : L2.St} {H : Hp} {Q : VK} (h : t σ H fun xs H1 => xs.length ≤ sizeLine ∧ ∀ p, H1 p = none → Q (.ref p) (upd H1 p (.lst xs))) : tLst t σ H Q := h
theorem tdrop_in {te : TE} {D : Ends} {σ : L2.St} {H : Hp} (h : te σ H fun _ H1 => D.nx σ H1) : tDrop te D σ H := h
inductive Fct where
  | per (k : Int)
  | hd (k : Int)
  | wh (k : Int)
  | ba (d : Int) (x : Bool)
  | po (k r : Int)
def FV : Fct → List V
  | .per k => [.str "period", .int k]
  | .hd k => [.str "head", .int k]
  | .wh k => [.str "wheels", .int k]
  | .ba d x => [.str "balanced", .int d, .bl x]
  | .po k r => [.str "power", .int k, .int r]
def FD : Fct → PyData
  | .per k => .tuple [.str "period", .int k]
  | .hd k => .tuple [.str "head", .int k]
  | .wh k => .tuple [.str "wheels", .int k]
  | .ba d x => .tuple [.str "balanced", .int d, .bool x]
  | .po k r => .tuple [.str "power", .int k, .int r]
def FOk : Fct → Prop
  | .per k => 1 ≤ k ∧ k ≤ 5000
  | .hd k => 0 ≤ k ∧ k ≤ 20
  | .wh k => 1 ≤ k ∧ k ≤ 5000
  | .ba d _ => 2 ≤ d ∧ d ≤ 5000
  | .po k r => (0 ≤ k ∧ k ≤ 1000000000000000000000000000000) ∧ 0 ≤ r ∧ r ≤ 4999
def isWh : Fct → Bool
  | .wh _ => true
  | _ => false
theorem FV_dp {H : Hp} {a : Addr} {f : Fct} (h : SqT K H a (FV f)) : Dp K H (.ref a) (FD f) := by
  cases f with
  | per k => exact .tup h (.cons (.str _) (.cons (.int _) .nil))
  | hd k => exact .tup h (.cons (.str _) (.cons (.int _) .nil))
  | wh k => exact .tup h (.cons (.str _) (.cons (.int _) .nil))
  | ba d x => exact .tup h (.cons (.str _) (.cons (.int _) (.cons (.bl _) .nil)))
  | po k r => exact .tup h (.cons (.str _) (.cons (.int _) (.cons (.int _) .nil)))
/-- facts that lie at addresses -/
inductive Fcs (K : PySem.W.Frag) (H : Hp) : List Addr → List Fct → Prop
  | nil : Fcs K H [] []
  | cons {p : Addr} {ps : List Addr} {f : Fct} {fs : List Fct} : SqT K H p (FV f) → Fcs K H ps fs → Fcs K H (p :: ps) (f :: fs)
theorem Fcs.imp {H H' : Hp} {ps : List Addr} {fs : List Fct} (h : Fcs K H ps fs) (k : ∀ {p : Addr} {f : Fct}, SqT K H p (FV f) → SqT K H' p (FV f)) : Fcs K H' ps fs := by
  induction h with
  | nil => exact .nil
  | cons a _ ih => exact .cons (k a) ih
theorem Fcs.gr {H H' : Hp} {ps : List Addr} {fs : List Fct} (h : Fcs K H ps fs) (g : Gr [] H H') : Fcs K H' ps fs := h.imp fun e => (Kp.of g).sqT e
theorem Fcs.len {H : Hp} {ps : List Addr} {fs : List Fct} (h : Fcs K H ps fs) : ps.length = fs.length := by
  induction h with
  | nil => rfl
  | cons a _ ih => exact congrArg (· + 1) ih
theorem Fcs.snoc {H : Hp} {ps : List Addr} {fs : List Fct} {p : Addr} {f : Fct} (h : Fcs K H ps fs) (e : SqT K H p (FV f)) : Fcs K H (ps ++ [p]) (fs ++ [f]) := by
  induction h with
  | nil => exact .cons e .nil
  | cons a _ ih => exact .cons a ih
theorem Fcs.at_ {H : Hp} {ps : List Addr} {fs : List Fct} (h : Fcs K H ps fs) {i : Nat} {v : V} (e : (ps.map V.ref)[i]? = some v) : ∃ (p : Addr) (hi : i < fs.length), v = .ref p ∧ SqT K H p (FV fs[i]) := by
  induction h generalizing i with
  | nil => simp at e
  | @cons p ps f fs a _ ih =>
    cases i with
    | zero =>
      have : V.ref p = v := by simpa using e
      exact ⟨p, by simp, this.symm, a⟩
    | succ i =>
      obtain ⟨p2, hi, h1, h2⟩ := ih (i := i) (by simpa using e)
      exact ⟨p2, by simpa using hi, h1, h2⟩
theorem Fcs.dpa {H : Hp} {ps : List Addr} {fs : List Fct} (h : Fcs K H ps fs) : DpAll K H (ps.map V.ref) (fs.map FD) := by
  induction h with
  | nil => exact .nil
  | cons a _ ih => exact .cons (FV_dp a) ih
/-- FACTS -/
def FQ (K : PySem.W.Frag) (H : Hp) (a : Addr) (fs : List Fct) : Prop := (∃ ps : List Addr, SqT K H a (ps.map V.ref) ∧ Fcs K H ps fs) ∧ (1 ≤ fs.length ∧ fs.length ≤ 10) ∧ ∀ f ∈ fs, FOk f
theorem FQ.gr {H H' : Hp} {a : Addr} {fs : List Fct} (h : FQ K H a fs) (g : Gr [] H H') : FQ K H' a fs := by
  obtain ⟨⟨ps, h1, h2⟩, h3⟩ := h
  exact ⟨⟨ps, (Kp.of g).sqT h1, h2.gr g⟩, h3⟩
theorem FQ.dp {H : Hp} {a : Addr} {fs : List Fct} (h : FQ K H a fs) : Dp K H (.ref a) (.tuple (fs.map FD)) := by
  obtain ⟨⟨ps, h1, h2⟩, _⟩ := h
  exact .tup h1 h2.dpa
def soP (b n h L : Nat) : Fct → Bool
  | .per k => decide ((L : Int) = k)
  | .hd k => decide ((h : Int) = k)
  | .wh w => decide (Nat.gcd b n = 1) && decide (((copL n).length : Int) = w * (L : Int))
  | .ba d x => decide (Nat.gcd b n = 1) && (decide ((L : Int) % d = 0) && decide (bal b n (L / d.toNat) d.toNat = x))
  | .po k r => decide (((b ^ k.toNat % n : Nat) : Int) = r)
/-- whether a base and a denominator satisfy a fact, facts -/
noncomputable def so (b n : Nat) (f : Fct) : Bool := soP b n (hLF b n).1 (hLF b n).2 f
noncomputable def soA (b n : Nat) (fs : List Fct) : Bool := fs.all fun f => so b n f
theorem so_eq {b n p q h L : Nat} (hn : 1 ≤ n) (P : Par b n p q h L) (f : Fct) : so b n f = soP b n h L f := by
  unfold so
  rw [hLF_eq hn P]
def sp_is_fact (K : PySem.W.Frag) : Sp := fun vs H Q _ => ∃ (p : Addr) (f : Fct), vs = [.ref p] ∧ SqT K H p (FV f) ∧ FOk f ∧ ∀ H', Gr [] H H' → Q (.bl true) H'
def sp_need_facts (K : PySem.W.Frag) : Sp := fun vs H Q _ => ∃ (a : Addr) (fs : List Fct), vs = [.ref a] ∧ FQ K H a fs ∧ ∀ H', Gr [] H H' → Q (.ref a) H'
def WhOk (fs : List Fct) (n : Nat) : Prop := (∃ f ∈ fs, isWh f = true) → n ≤ 100
def phiC (n : Nat) : Nat := (ppL n).foldl (fun c r => c * (r.1 - 1) * r.1 ^ (r.2 - 1)) 1
theorem phi_ok : ∀ n < 101, 1 ≤ n → phiC n = (copL n).length := by decide +kernel
def sp_residue_count : Sp := fun vs H Q _ => ∃ n : Nat, vs = [.int n] ∧ (1 ≤ n ∧ n ≤ 100) ∧ ∀ H', Gr [] H H' → Q (.int (phiC n : Nat)) H'
def sp_holds (K : PySem.W.Frag) : Sp := fun vs H Q _ => ∃ (b n p q h L : Nat) (a : Addr) (f : Fct), vs = [.int b, .int n, .int L, .ref a] ∧ SqT K H a (FV f) ∧ FOk f ∧ BN b n ∧ Par b n p q h L ∧ (isWh f = true → n ≤ 100) ∧ ∀ H', Gr [] H H' → Q (.bl (soP b n h L f)) H'
def sp_satisfy (K : PySem.W.Frag) : Sp := fun vs H Q _ => ∃ (b n : Nat) (a : Addr) (fs : List Fct), vs = [.int b, .int n, .ref a] ∧ BN b n ∧ FQ K H a fs ∧ WhOk fs n ∧ ∀ H', Gr [] H H' → Q (.bl (soA b n fs)) H'
noncomputable def dbF (b : Nat) (fs : List Fct) (m : Nat) : List Nat := ((List.range m).map (1 + ·)).filter fun n => soA b n fs
noncomputable def bbF (n : Nat) (fs : List Fct) (m : Nat) : List Nat := ((List.range m).map (2 + ·)).filter fun b => soA b n fs
def sp_denominators_by (K : PySem.W.Frag) : Sp := fun vs H Q _ => ∃ (b m : Nat) (a : Addr) (fs : List Fct), vs = [.int b, .ref a, .int m] ∧ (2 ≤ b ∧ b ≤ 1000) ∧ FQ K H a fs ∧ (1 ≤ m ∧ m ≤ 1000) ∧ WhOk fs m ∧ ∀ t H', Gr [] H H' → H' t = some (.tup (vn (dbF b fs m))) → Q (.ref t) H'
def sp_bases_by (K : PySem.W.Frag) : Sp := fun vs H Q _ => ∃ (n m : Nat) (a : Addr) (fs : List Fct), vs = [.int n, .ref a, .int m] ∧ (1 ≤ n ∧ n ≤ 5000) ∧ FQ K H a fs ∧ (2 ≤ m ∧ m ≤ 1000) ∧ WhOk fs n ∧ ∀ t H', Gr [] H H' → H' t = some (.tup (vn (bbF n fs (m - 1)))) → Q (.ref t) H'
def rgV (K : PySem.W.Frag) (a : Addr) : List (Str × V) := [("period", .ref (kAt K a "period")), ("head", .ref (kAt K a "head")), ("wheels", .ref (kAt K a "wheels")), ("power", .ref (kAt K a "power"))]
structure WDs (T : Txt K mg) (w : World) : Prop where
  rg : WDict K w T.w_RANGES (rgV K T.w_RANGES)
  per : ∀ H, SqT K H (kAt K T.w_RANGES "period") [.ref (tAtK K (kAt K T.w_RANGES "period") 0)]
  per0 : ∀ H, SqT K H (tAtK K (kAt K T.w_RANGES "period") 0) [.int 1, .int 5000]
  hd : ∀ H, SqT K H (kAt K T.w_RANGES "head") [.ref (tAtK K (kAt K T.w_RANGES "head") 0)]
  hd0 : ∀ H, SqT K H (tAtK K (kAt K T.w_RANGES "head") 0) [.int 0, .int 20]
  wh : ∀ H, SqT K H (kAt K T.w_RANGES "wheels") [.ref (tAtK K (kAt K T.w_RANGES "wheels") 0)]
  wh0 : ∀ H, SqT K H (tAtK K (kAt K T.w_RANGES "wheels") 0) [.int 1, .int 5000]
  po : ∀ H, SqT K H (kAt K T.w_RANGES "power") [.ref (tAtK K (kAt K T.w_RANGES "power") 0), .ref (tAtK K (kAt K T.w_RANGES "power") 1)]
  po0 : ∀ H, SqT K H (tAtK K (kAt K T.w_RANGES "power") 0) [.int 0, .int 1000000000000000000000000000000]
  po1 : ∀ H, SqT K H (tAtK K (kAt K T.w_RANGES "power") 1) [.int 0, .int 4999]
theorem WDs.one {T : Txt K mg} (W : WDs T w) {f : Fct} (h : FOk f) : (∃ d x, f = .ba d x) ∨ (∃ k r, f = .po k r) ∨ ∃ (z : Str) (k : Int) (a a0 : Addr) (lo hi : Int), FV f = [.str z, .int k] ∧ z ≠ "balanced" ∧ KVal K T.w_RANGES z (some (.ref a)) ∧ (∀ H, SqT K H a [.ref a0]) ∧ (∀ H, SqT K H a0 [.int lo, .int hi]) ∧ lo ≤ k ∧ k ≤ hi := by
  cases f with
  | per k => exact .inr (.inr ⟨_, _, _, _, _, _, rfl, by decide, W.rg.val _, W.per, W.per0, h.1, h.2⟩)
  | hd k => exact .inr (.inr ⟨_, _, _, _, _, _, rfl, by decide, W.rg.val _, W.hd, W.hd0, h.1, h.2⟩)
  | wh k => exact .inr (.inr ⟨_, _, _, _, _, _, rfl, by decide, W.rg.val _, W.wh, W.wh0, h.1, h.2⟩)
  | ba d x => exact .inl ⟨d, x, rfl⟩
  | po k r => exact .inr (.inl ⟨k, r, rfl⟩)
theorem ba_ne : ("power" : Str) ≠ "balanced" := by decide
theorem ok_is_fact (T : Txt K mg) (Wd : WDs T w) : FnOk P w K mg base CX0 3 T.d_is_fact.f T.d_is_fact.fd ["value"] (sp_is_fact K) := by
  refine T.d_is_fact.F.ok sc_is_fact (fun vs H Q E h => ?_) (fun cdv A outer s H vs Q E hr h => ?_)
  · obtain ⟨p, f, rfl, _⟩ := h; rfl
  · have hu := hu_of hr
    refine ⟨_, (pss_cons (ps_if (PW.pt (pw_or (pt_not (pt_val (pe_callB (r := rIs K) call_is (by rfl) T.b_isinstance (by decide +kernel) (pa_cons (pv 0) (pa_cons (pe_bltn (v := .ty "tuple") (by rfl) T.b_tuple (by decide +kernel) rfl) pa_nil))))) (pw_or (pt_cmpR op_eq (pe_callB (r := rLn K) call_ln (by rfl) T.b_len PySem.boot_len (pa_cons (pv 0) pa_nil)) pe_int (nomark _)) (pw_or1 (pt_not (pt_val (pe_callB (r := rIs K) call_is (by rfl) T.b_isinstance (by decide +kernel) (pa_cons (pe_ix (r := rIxT K) ix_tup (pv 0) pe_int (fun _ _ => rfl)) (pa_cons (pe_bltn (v := .ty "str") (by rfl) T.b_str (by decide +kernel) rfl) pa_nil))))))))) (pss_one (ps_ret pe_bl)) pss_nil)
      (pss_cons (ps_if (pt_cmpR op_eq (pe_ix (r := rIxT K) ix_tup (pv 0) pe_int (fun _ _ => rfl)) pe_str (nomark _)) (pss_one (ps_ret (pe_and (pe_cmpR op_eq (pe_callB (r := rLn K) call_ln (by rfl) T.b_len PySem.boot_len (pa_cons (pv 0) pa_nil)) pe_int (nomark _)) (pe_and (pe_call (ok_is_within T) (hr.mono (by decide)) (by rfl) T.d_is_within.m T.d_is_within.F.kp T.d_is_within.b .nil pass0 (pa_cons (pe_ix (r := rIxT K) ix_tup (pv 0) pe_int (fun _ _ => rfl)) (pa_cons pe_int (pa_cons (pe_glob (v := .int 5000) (by rfl) T.c_MOST_DENOMINATOR ⟨_, rfl⟩) pa_nil)))) (pe_one (pe_callB (r := rIs K) call_is (by rfl) T.b_isinstance (by decide +kernel) (pa_cons (pe_ix (r := rIxT K) ix_tup (pv 0) pe_int (fun _ _ => rfl)) (pa_cons (pe_bltn (v := .ty "bool") (by rfl) T.b_bool (by decide +kernel) rfl) pa_nil)))))))) pss_nil)
      (pss_cons (ps_set (i := 1) sc_is_fact.nd rfl (by first | exact .inl rfl | exact .inr rfl) (pe_kget2 (pe_glob (v := .ref T.w_RANGES) (by rfl) T.g_RANGES rfl) (pe_ix (r := rIxT K) ix_tup (pv 0) pe_int (fun _ _ => rfl)) (pe_tup pa_nil) ⟨by rfl, by rfl, by rfl, by rfl⟩))
      (pss_cons (ps_if (PW.pt (pw_or (pt_cmpR op_eq (pe_callB (r := rLn K) call_ln (by rfl) T.b_len PySem.boot_len (pa_cons (pv 1) pa_nil)) pe_int (nomark _)) (pw_or1 (pt_cmpR op_ne (pe_callB (r := rLn K) call_ln (by rfl) T.b_len PySem.boot_len (pa_cons (pv 0) pa_nil)) (pe_op op_add (pe_callB (r := rLn K) call_ln (by rfl) T.b_len PySem.boot_len (pa_cons (pv 1) pa_nil)) pe_int) (nomark _))))) (pss_one (ps_ret pe_bl)) pss_nil)
      (pss_one (ps_ret (pe_callB (r := rAll K) (cr_all rfl) (by rfl) T.b_all (by decide +kernel) (pa_cons (pe_lc (own := [("number", 2), ("low", 3), ("high", 4)]) (g := gTup K 2 (gCons (gName 2) (gCons (gTup K 2 (gCons (gName 3) (gCons (gName 4) gNil))) gNil))) (tt := tYes) rfl sc_is_fact.nd (pi_zipM (by rfl) T.b_zip (pa_cons (pe_slice (r := rSlA K) sl_tupA (pv 0) (po_some pe_int) po_none) (pa_cons (pv 1) pa_nil))) (blkOk_by (own := [("number", 2), ("low", 3), ("high", 4)]) (N := ["value", "ranges", "number", "low", "high"]) (sc := defScope s_is_fact) (by decide +kernel)) (fun _ _ _ _ _ => (pg_tup (by rfl) (pgs_cons (pg_name (i := 2) sc_is_fact.nd rfl (by first | exact .inl rfl | exact .inr rfl)) (pgs_cons (pg_tup (by rfl) (pgs_cons (pg_name (i := 3) sc_is_fact.nd rfl (by first | exact .inl rfl | exact .inr rfl)) (pgs_cons (pg_name (i := 4) sc_is_fact.nd rfl (by first | exact .inl rfl | exact .inr rfl)) pgs_nil))) pgs_nil)))) (fun _ _ _ _ _ => pts_nil) (fun _ _ _ _ _ => (pe_call (ok_is_within T) (hr.mono (by decide)) (by rfl) T.d_is_within.m T.d_is_within.F.kp T.d_is_within.b .nil pass0 (pa_cons (pv 2) (pa_cons (pv 3) (pa_cons (pv 4) pa_nil)))))) pa_nil)))))))), ?_⟩
    obtain ⟨p, f, rfl, hp, hf, q⟩ := h
    rcases Wd.one hf with ⟨d, x, rfl⟩ | ⟨k, r, rfl⟩ | ⟨z, k, ra, ra0, lo, hi, e, hz, kv, sa, sa0, hlo, hhi⟩
    · have sp := hp
      refine ⟨_, rfl, _, "tuple", rfl, "tuple", ⟨sqT_ty sp, by decide, by decide⟩, true, rfl, ?_⟩
      refine iteF ?_
      refine tor_in ⟨_, rfl, p, _, rfl, .inr sp, rfl, _, rfl, ?_⟩
      refine iteFb (by rfl) ?_
      refine ⟨_, rfl, p, _, (0 : Int), .str "balanced", rfl, rfl, sp, rfl, _, "str", rfl, "str", ⟨.base (by constructor), by decide, by decide⟩, true, rfl, ?_⟩
      refine iteF ?_
      dsimp only [tNext]
      refine tseq_in (tifs_in ⟨_, rfl, p, _, (0 : Int), .str "balanced", rfl, rfl, sp, rfl, rfl, _, rfl, iteTb (by decide +kernel) ?_⟩)
      refine ⟨_, rfl, p, _, rfl, .inr sp, rfl, _, rfl, ?_⟩
      refine iteTb (by rfl) ?_
      refine ⟨_, rfl, p, _, (1 : Int), .int d, rfl, rfl, sp, rfl, d, 2, 5000, rfl, ⟨hf.1, hf.2⟩, _, rfl, iteT ?_⟩
      refine ⟨_, rfl, p, _, (2 : Int), .bl x, rfl, rfl, sp, rfl, _, "bool", rfl, "bool", ⟨.base (by constructor), by decide, by decide⟩, ?_⟩
      exact q H (Gr.refl _ _)
    · have hz := ba_ne
      obtain ⟨z, ez⟩ : ∃ z : Str, z = "power" := ⟨_, rfl⟩
      have hp : SqT K H p [.str z, .int k, .int r] := by rw [ez]; exact hp
      rw [← ez] at hz
      have kv : KVal K T.w_RANGES z (some (.ref (kAt K T.w_RANGES "power"))) := by rw [ez]; exact Wd.rg.val _
      have sa := Wd.po
      obtain ⟨ra, er⟩ : ∃ ra, ra = kAt K T.w_RANGES "power" := ⟨_, rfl⟩
      rw [← er] at kv sa
      have sp := hp
      refine ⟨_, rfl, _, "tuple", rfl, "tuple", ⟨sqT_ty sp, by decide, by decide⟩, true, rfl, ?_⟩
      refine iteF ?_
      refine tor_in ⟨_, rfl, p, _, rfl, .inr sp, rfl, _, rfl, ?_⟩
      refine iteFb (by rfl) ?_
      refine ⟨_, rfl, p, _, (0 : Int), .str z, rfl, rfl, sp, rfl, _, "str", rfl, "str", ⟨.base (by constructor), by decide, by decide⟩, true, rfl, ?_⟩
      refine iteF ?_
      dsimp only [tNext]
      refine tseq_in (tifs_in ⟨_, rfl, p, _, (0 : Int), .str z, rfl, rfl, sp, rfl, rfl, _, rfl, iteFb (decide_eq_false (fun e => hz (V.str.inj e))) ?_⟩)
      dsimp only [tNext]
      refine tseq_in (tasg_in ⟨_, rfl, Wd.rg.kd, _, rfl, p, _, (0 : Int), .str z, rfl, rfl, sp, rfl, by show 0 ≤ sizeLine; decide, fun e0 ne0 => ⟨z, _, rfl, kv, ?_⟩⟩)
      have ge := Gr.new (W := []) (o := .tup []) ne0
      have hp2 := (Kp.of ge).sqT hp
      generalize upd H e0 (.tup []) = H2 at ge hp2 ⊢
      have sp2 := hp2
      refine gname_in ?_
      dsimp only
      refine tseq_in (tifs_in (tor_in ⟨_, rfl, ra, _, rfl, .inr (sa _), rfl, _, rfl, iteFb (by rfl) ?_⟩))
      refine ⟨_, rfl, p, _, rfl, .inr sp2, _, rfl, ra, _, rfl, .inr (sa _), _, _, rfl, rfl, rfl, _, rfl, iteFb (by rfl) ?_⟩
      dsimp only [tNext]
      refine ⟨_, rfl, (1 : Int), rfl, ?_⟩
      dsimp only [tNoPart]
      refine ⟨p, _, rfl, sp2, fun z => absurd z.1 (show ¬ (HT.sIx 3 0 (some 1) = 0) by decide +kernel), fun _ p1 np1 => ?_⟩
      have g3 : Gr [] H2 (upd H2 p1 (.tup [.int k, .int r])) := Gr.new np1
      have hp1 : (upd H2 p1 (.tup [.int k, .int r])) p1 = some (.tup [.int k, .int r]) := upd_same
      change tCons (tVar 1) tNil _ (upd H2 p1 (.tup [.int k, .int r])) _
      generalize upd H2 p1 (.tup [.int k, .int r]) = H3 at g3 hp1 ⊢
      refine ⟨_, rfl, true, true, p1, ra, [.int k, .int r], [.ref (tAtK K ra 0), .ref (tAtK K ra 1)], rfl, sq_tup hp1, sa _, fun D nD => ?_⟩
      refine lc_zipM (K := K) (t := true) (u := true) (a := p1) (b := ra) (xs := [.int k, .int r]) (ys := [.ref (tAtK K ra 0), .ref (tAtK K ra 1)]) rfl (fun i H' => Gr [] H3 H' ∧ ∃ bs : List Bool, H' D = some (.lst (bs.map V.bl)) ∧ bs.length ≤ i ∧ bs.all id = true) ⟨Gr.new nD, [], upd_same, Nat.le_refl _, rfl⟩ (fun i H' z => ⟨sq_tup (z.1 p1 _ (by simp) hp1), sa _⟩) ?_ ?_
      · rintro i x y pp H' hx hy ⟨G, bs, hD, hl, hall⟩ npp
        obtain ⟨k', r', lo', hi', rfl, rfl, sr, hlo', hhi', hi5⟩ : ∃ (k' : Int) (r' : Addr) (lo' hi' : Int), x = .int k' ∧ y = .ref r' ∧ (∀ H, SqT K H r' [.int lo', .int hi']) ∧ lo' ≤ k' ∧ k' ≤ hi' ∧ i ≤ 5 := by
          match i, hx, hy with
          | 0, hx, hy => cases hx; cases hy; exact ⟨_, _, _, _, rfl, rfl, (er ▸ Wd.po0), hf.1.1, hf.1.2, by decide⟩
          | 1, hx, hy => cases hx; cases hy; exact ⟨_, _, _, _, rfl, rfl, (er ▸ Wd.po1), hf.2.1, hf.2.2, by decide⟩
        have g5 : Gr [] H' (upd H' pp (.tup [.int k', .ref r'])) := Gr.new npp
        have hpp : (upd H' pp (.tup [.int k', .ref r'])) pp = some (.tup [.int k', .ref r']) := upd_same
        have hD5 := g5 D _ (by simp) hD
        generalize upd H' pp (.tup [.int k', .ref r']) = H5 at g5 hpp hD5 ⊢
        refine ⟨pp, _, rfl, sq_tup hpp, rfl, _, _, rfl, _, _, rfl, ⟨r', _, rfl, sr _, rfl, _, _, rfl, _, _, rfl, rfl, rfl, ?_⟩⟩
        refine ⟨rfl, ?_⟩
        dsimp only [tYes]
        refine iteT ?_
        refine ⟨_, rfl, _, rfl, _, rfl, k', lo', hi', rfl, ⟨hlo', hhi'⟩, ?_⟩
        refine ⟨_, hD5, small5 (by rw [List.length_map]; omega), fun c u _ e => ?_, bs ++ [true], ?_, by rw [List.length_append]; exact Nat.add_le_add_right hl 1, by rw [List.all_append, hall]; rfl⟩
        · rw [upd_ne (ne_of_none e nD)]
          exact g5 c u (by simp) (G c u (by simp) e)
        · rw [upd_same, List.map_append]
          rfl
      rintro H4 ⟨g4, bs, hD, hl, hall⟩
      refine ⟨D, bs, rfl, sq_lst hD, ?_⟩
      rw [hall]
      exact q H4 ((ge.trans g3).trans g4)
    · rw [e] at hp
      have sp := hp
      refine ⟨_, rfl, _, "tuple", rfl, "tuple", ⟨sqT_ty sp, by decide, by decide⟩, true, rfl, ?_⟩
      refine iteF ?_
      refine tor_in ⟨_, rfl, p, _, rfl, .inr sp, rfl, _, rfl, ?_⟩
      refine iteFb (by rfl) ?_
      refine ⟨_, rfl, p, _, (0 : Int), .str z, rfl, rfl, sp, rfl, _, "str", rfl, "str", ⟨.base (by constructor), by decide, by decide⟩, true, rfl, ?_⟩
      refine iteF ?_
      dsimp only [tNext]
      refine tseq_in (tifs_in ⟨_, rfl, p, _, (0 : Int), .str z, rfl, rfl, sp, rfl, rfl, _, rfl, iteFb (decide_eq_false (fun e => hz (V.str.inj e))) ?_⟩)
      dsimp only [tNext]
      refine tseq_in (tasg_in ⟨_, rfl, Wd.rg.kd, _, rfl, p, _, (0 : Int), .str z, rfl, rfl, sp, rfl, by show 0 ≤ sizeLine; decide, fun e0 ne0 => ⟨z, _, rfl, kv, ?_⟩⟩)
      have ge := Gr.new (W := []) (o := .tup []) ne0
      have hp2 := (Kp.of ge).sqT hp
      generalize upd H e0 (.tup []) = H2 at ge hp2 ⊢
      have sp2 := hp2
      refine gname_in ?_
      dsimp only
      refine tseq_in (tifs_in (tor_in ⟨_, rfl, ra, _, rfl, .inr (sa _), rfl, _, rfl, iteFb (by rfl) ?_⟩))
      refine ⟨_, rfl, p, _, rfl, .inr sp2, _, rfl, ra, _, rfl, .inr (sa _), _, _, rfl, rfl, rfl, _, rfl, iteFb (by rfl) ?_⟩
      dsimp only [tNext]
      refine ⟨_, rfl, (1 : Int), rfl, ?_⟩
      dsimp only [tNoPart]
      refine ⟨p, _, rfl, sp2, fun z => absurd z.1 (show ¬ (HT.sIx 2 0 (some 1) = 0) by decide +kernel), fun _ p1 np1 => ?_⟩
      have g3 : Gr [] H2 (upd H2 p1 (.tup [.int k])) := Gr.new np1
      have hp1 : (upd H2 p1 (.tup [.int k])) p1 = some (.tup [.int k]) := upd_same
      change tCons (tVar 1) tNil _ (upd H2 p1 (.tup [.int k])) _
      generalize upd H2 p1 (.tup [.int k]) = H3 at g3 hp1 ⊢
      refine ⟨_, rfl, true, true, p1, ra, [.int k], [.ref ra0], rfl, sq_tup hp1, sa _, fun D nD => ?_⟩
      refine lc_zipM (K := K) (t := true) (u := true) (a := p1) (b := ra) (xs := [.int k]) (ys := [.ref ra0]) rfl (fun i H' => Gr [] H3 H' ∧ ∃ bs : List Bool, H' D = some (.lst (bs.map V.bl)) ∧ bs.length ≤ i ∧ bs.all id = true) ⟨Gr.new nD, [], upd_same, Nat.le_refl _, rfl⟩ (fun i H' z => ⟨sq_tup (z.1 p1 _ (by simp) hp1), sa _⟩) ?_ ?_
      · rintro i x y pp H' hx hy ⟨G, bs, hD, hl, hall⟩ npp
        obtain ⟨k', r', lo', hi', rfl, rfl, sr, hlo', hhi', hi5⟩ : ∃ (k' : Int) (r' : Addr) (lo' hi' : Int), x = .int k' ∧ y = .ref r' ∧ (∀ H, SqT K H r' [.int lo', .int hi']) ∧ lo' ≤ k' ∧ k' ≤ hi' ∧ i ≤ 5 := by
          match i, hx, hy with
          | 0, hx, hy => cases hx; cases hy; exact ⟨_, _, _, _, rfl, rfl, sa0, hlo, hhi, by decide⟩
        have g5 : Gr [] H' (upd H' pp (.tup [.int k', .ref r'])) := Gr.new npp
        have hpp : (upd H' pp (.tup [.int k', .ref r'])) pp = some (.tup [.int k', .ref r']) := upd_same
        have hD5 := g5 D _ (by simp) hD
        generalize upd H' pp (.tup [.int k', .ref r']) = H5 at g5 hpp hD5 ⊢
        refine ⟨pp, _, rfl, sq_tup hpp, rfl, _, _, rfl, _, _, rfl, ⟨r', _, rfl, sr _, rfl, _, _, rfl, _, _, rfl, rfl, rfl, ?_⟩⟩
        refine ⟨rfl, ?_⟩
        dsimp only [tYes]
        refine iteT ?_
        refine ⟨_, rfl, _, rfl, _, rfl, k', lo', hi', rfl, ⟨hlo', hhi'⟩, ?_⟩
        refine ⟨_, hD5, small5 (by rw [List.length_map]; omega), fun c u _ e => ?_, bs ++ [true], ?_, by rw [List.length_append]; exact Nat.add_le_add_right hl 1, by rw [List.all_append, hall]; rfl⟩
        · rw [upd_ne (ne_of_none e nD)]
          exact g5 c u (by simp) (G c u (by simp) e)
        · rw [upd_same, List.map_append]
          rfl
      rintro H4 ⟨g4, bs, hD, hl, hall⟩
      refine ⟨D, bs, rfl, sq_lst hD, ?_⟩
      rw [hall]
      exact q H4 ((ge.trans g3).trans g4)

end
end Wn
namespace Wn
open PySem PySem.Spec PyProof.Rows L2
local macro_rules | `(tactic| walk_at "vc") => `(tactic| simp only [cxK, cxK2, start1, start2, start3, tRet, tRetN, tSeq, tNext, tIfS, tAsg, gName, tDrop, tVar, tC, tOp, tUn, tTest, tB, tNot, tAnd, tOr, tAndV, tOrV, tNotV, tIf, tCons, tNil, tCB, tCall, tChain, tAug, ipI, rI, rI0, rU, rIs, rGcd, rEq, rNe, scal,
  List.getElem?_cons_zero, List.getElem?_cons_succ, List.set_cons_zero, List.set_cons_succ, Option.some.injEq, List.cons.injEq, V.int.injEq, V.bl.injEq, V.ref.injEq, V.str.injEq, and_true, true_and, exists_eq_left, exists_eq_left', exists_and_left, exists_and_right, List.append_nil, List.nil_append, List.cons_append, exists_eq_right, exists_eq_right', and_assoc, exists_const, V.ty.injEq, ↓reduceIte, Bool.false_eq_true, Bool.not_true, Bool.not_false, decide_eq_true_eq])

section
variable {P : Program} {w : World} {K : PySem.W.Frag} {mg : Str → Option Value} {base : Heap}
def phiK (n k : Nat) : Nat := ((ppL n).take k).foldl (fun c r => c * (r.1 - 1) * r.1 ^ (r.2 - 1)) 1
theorem phiK_all {n : Nat} : phiK n (ppL n).length = phiC n := by
  unfold phiK phiC
  rw [List.take_of_length_le (Nat.le_refl _)]
theorem phiK_succ {n k : Nat} (h : k < (ppL n).length) : phiK n (k + 1) = phiK n k * ((ppL n)[k].1 - 1) * (ppL n)[k].1 ^ ((ppL n)[k].2 - 1) := by
  unfold phiK
  rw [List.take_succ_eq_append_getElem h, List.foldl_append]
  rfl
theorem phi_all : ∀ n ∈ (List.range 100).map (1 + ·), ∀ k ∈ List.range (ppL n).length, phiK n k ≤ 100 := by decide +kernel
theorem phi_rs : ∀ n ∈ (List.range 100).map (1 + ·), ∀ r ∈ ppL n, (1 ≤ r.1 ∧ r.1 ≤ 100) ∧ (1 ≤ r.2 ∧ r.2 ≤ 10) ∧ r.1 ^ (r.2 - 1) ≤ 100 := by decide +kernel
theorem phi_bd {n k : Nat} (h1 : 1 ≤ n) (h2 : n ≤ 100) (hk : k < (ppL n).length) : phiK n k ≤ 100 ∧ (1 ≤ (ppL n)[k].1 ∧ (ppL n)[k].1 ≤ 100) ∧ (1 ≤ (ppL n)[k].2 ∧ (ppL n)[k].2 ≤ 10) ∧ (ppL n)[k].1 ^ ((ppL n)[k].2 - 1) ≤ 100 ∧ True := by
  have hm : n ∈ (List.range 100).map (1 + ·) := List.mem_map.mpr ⟨n - 1, List.mem_range.mpr (by omega), by omega⟩
  obtain ⟨c, d, e⟩ := phi_rs n hm _ (List.getElem_mem hk)
  exact ⟨phi_all n hm k (List.mem_range.mpr hk), c, d, e, trivial⟩
theorem decV {i j : Int} : decide (V.int i = V.int j) = decide (i = j) := decide_eq_decide.mpr ⟨fun z => V.int.inj z, fun z => by rw [z]⟩
theorem decB {i j : Bool} : decide (V.bl i = V.bl j) = decide (i = j) := decide_eq_decide.mpr ⟨fun z => V.bl.inj z, fun z => by rw [z]⟩
theorem pure_pos {b n p : Nat} (hn : 1 ≤ n) (h : IsPure b n p) : 1 ≤ p ∧ p ≤ n := by
  obtain ⟨_, qq, k, e, _⟩ := h
  refine ⟨?_, Nat.le_of_dvd hn ⟨qq, e⟩⟩
  rcases Nat.eq_zero_or_pos p with z | z
  · rw [z, Nat.zero_mul] at e
    omega
  · exact z
theorem ok_residue_count (T : Txt K mg) : FnOk P w K mg base CX0 3 T.d_residue_count.f T.d_residue_count.fd ["denominator"] sp_residue_count := by
  refine T.d_residue_count.F.ok sc_residue_count (fun vs H Q E h => ?_) (fun cdv A outer s H vs Q E hr h => ?_)
  · obtain ⟨n, rfl, _⟩ := h; rfl
  · have hu := hu_of hr
    refine ⟨_, (pss_cons (ps_set (i := 1) sc_residue_count.nd rfl (by first | exact .inl rfl | exact .inr rfl) pe_int)
      (pss_cons (ps_for PassesOwn.never rfl (pi_list (pe_call (ok_prime_powers T) (hr.mono (by decide)) (by rfl) T.d_prime_powers.m T.d_prime_powers.F.kp T.d_prime_powers.b .nil pass0 (pa_cons (pv 0) pa_nil))) (pg_tup (by rfl) (pgs_cons (pg_name (i := 2) sc_residue_count.nd rfl (by first | exact .inl rfl | exact .inr rfl)) (pgs_cons (pg_name (i := 3) sc_residue_count.nd rfl (by first | exact .inl rfl | exact .inr rfl)) pgs_nil))) (pss_one (ps_set (i := 1) sc_residue_count.nd rfl (by first | exact .inl rfl | exact .inr rfl) (pe_op op_mul (pe_op op_mul (pv 1) (pe_op op_sub (pv 2) pe_int)) (pe_call (ok_power T) (hr.mono (by decide)) (by rfl) T.d_power.m T.d_power.F.kp T.d_power.b .nil pass0 (pa_cons (pv 2) (pa_cons (pe_op op_sub (pv 3) pe_int) pa_nil)))))))
      (pss_one (ps_ret (pv 1))))), ?_⟩
    obtain ⟨n, rfl, hn, q⟩ := h
    refine tseq_in (tasg_in (gname_in ?_))
    dsimp only
    refine tseq_in ⟨_, rfl, n, rfl, ⟨hn.1, by omega⟩, fun l ps H1 g1 hl P => ⟨l, rfl, ⟨_, sq_lst hl⟩, ?_⟩⟩
    have hlen := P.len
    refine for_list (K := K) (a := l) (xs := ps.map V.ref) (fun i σ H' => H' = H1 ∧ ∃ v2 v3, σ = [some (.int n), some (.int (phiK n i : Nat)), v2, v3]) ⟨rfl, none, none, rfl⟩ (fun i σ H' _ z => by rw [z.1]; exact sq_lst hl) ?_ ?_
    · rintro i v σ H' hv ⟨rfl, v2, v3, rfl⟩
      obtain ⟨t, hi, rfl, ht⟩ := P.at_ hv
      obtain ⟨b1, b2, b3, b4, b5⟩ := phi_bd hn.1 hn.2 hi
      rw [phiK_succ hi]
      generalize (ppL n)[i] = r at ht b1 b2 b3 b4 b5 ⊢
      generalize phiK n i = c at b1 ⊢
      obtain ⟨p, e⟩ := r
      refine ⟨t, _, rfl, sq_tup ht, rfl, _, _, rfl, _, _, rfl, rfl, ?_⟩
      dsimp only
      obtain ⟨p, rfl⟩ : ∃ p', p = p' + 1 := ⟨p - 1, by have := b2.1; dsimp only at this; omega⟩
      obtain ⟨e, rfl⟩ : ∃ e', e = e' + 1 := ⟨e - 1, by have := b3.1; dsimp only at this; omega⟩
      dsimp only at b2 b3 b4 ⊢
      simp only [Nat.add_sub_cancel] at b4 ⊢
      have e1 : ((p + 1 : Nat) : Int) - 1 = ((p : Nat) : Int) := by omega
      have e2 : ((e + 1 : Nat) : Int) - 1 = ((e : Nat) : Int) := by omega
      refine tasg_in (top_in (top_in ⟨_, rfl, _, rfl, _, _, rfl, rfl, ?_⟩))
      refine ⟨_, _, rfl, rfl, .inl ⟨by omega, by omega⟩, ?_⟩
      refine ⟨_, rfl, _, rfl, _, _, rfl, rfl, p + 1, e, congrArg (fun z => [V.int ((p + 1 : Nat) : Int), V.int z]) e2, ⟨by omega, by omega⟩, ?_⟩
      have e3 : (c : Int) * (((p + 1 : Nat) : Int) - 1) = ((c * p : Nat) : Int) := by rw [e1, Int.natCast_mul]
      have b6 : c * p ≤ 100 * 100 := Nat.mul_le_mul b1 (by omega)
      dsimp only
      rw [e3]
      refine ⟨_, _, rfl, rfl, .inl ⟨by omega, by omega⟩, ?_⟩
      refine gname_in ?_
      dsimp only
      rw [← Int.natCast_mul]
      exact ⟨rfl, _, _, rfl⟩
    rintro σ H2 ⟨rfl, v2, v3, rfl⟩
    rw [List.length_map, hlen, phiK_all]
    exact ⟨_, rfl, q _ g1⟩
theorem ok_need_facts (T : Txt K mg) (Wd : WDs T w) : FnOk P w K mg base CX0 4 T.d_need_facts.f T.d_need_facts.fd ["value"] (sp_need_facts K) := by
  refine T.d_need_facts.F.ok sc_need_facts (fun vs H Q E h => ?_) (fun cdv A outer s H vs Q E hr h => ?_)
  · obtain ⟨a, fs, rfl, _⟩ := h; rfl
  · have hu := hu_of hr
    refine ⟨_, (pss_cons (ps_if (PW.pt (pw_or (pt_not (pt_val (pe_callB (r := rIs K) call_is (by rfl) T.b_isinstance (by decide +kernel) (pa_cons (pv 0) (pa_cons (pe_bltn (v := .ty "tuple") (by rfl) T.b_tuple (by decide +kernel) rfl) pa_nil))))) (pw_or1 (pt_not (pt_chain op_le op_le pe_int (pe_callB (r := rLn K) call_ln (by rfl) T.b_len PySem.boot_len (pa_cons (pv 0) pa_nil)) (pe_glob (v := .int 10) (by rfl) T.c_MOST_FACTS ⟨_, rfl⟩)))))) (pss_one ps_never) pss_nil)
      (pss_cons (ps_for PassesOwn.never rfl (pi_enumT (by rfl) T.b_enumerate (pa_cons (pv 0) pa_nil)) (pg_tup (by rfl) (pgs_cons (pg_name (i := 1) sc_need_facts.nd rfl (by first | exact .inl rfl | exact .inr rfl)) (pgs_cons (pg_name (i := 2) sc_need_facts.nd rfl (by first | exact .inl rfl | exact .inr rfl)) pgs_nil))) (pss_one (ps_if (pt_not (pt_val (pe_call (ok_is_fact T Wd) (hr.mono (by decide)) (by rfl) T.d_is_fact.m T.d_is_fact.F.kp T.d_is_fact.b .nil pass0 (pa_cons (pv 2) pa_nil)))) (pss_one ps_never) pss_nil)))
      (pss_one (ps_ret (pv 0))))), ?_⟩
    obtain ⟨a, fs, rfl, hF, q⟩ := h
    obtain ⟨⟨ps, h1, hP⟩, ⟨hl1, hl2⟩, hok⟩ := id hF
    have sp := h1
    have hlen := hP.len
    refine ⟨_, rfl, _, "tuple", rfl, "tuple", ⟨sqT_ty sp, by decide, by decide⟩, true, rfl, ?_⟩
    refine iteF ?_
    walk_at "vc"
    refine ⟨a, _, rfl, .inr sp, _, rfl, ?_⟩
    rw [if_pos (show (1 : Int) ≤ (((ps.map V.ref).length : Nat) : Int) by rw [List.length_map]; omega)]
    refine ⟨_, rfl, iteFb (by rw [decide_eq_true (show (((ps.map V.ref).length : Nat) : Int) ≤ 10 by rw [List.length_map]; omega)]; rfl) ?_⟩
    refine ⟨_, rfl, a, _, rfl, sp, ?_⟩
    refine for_enumT (K := K) (a := a) (xs := ps.map V.ref) (fun i σ H' => Gr [] H H' ∧ ∃ v w, σ = [some (.ref a), v, w]) ⟨Gr.refl _ _, none, none, rfl⟩ (fun i σ H' _ z => (Kp.of z.1).sqT h1) ?_ ?_
    · rintro i x T0 σ H' hx nT ⟨G, v, w, rfl⟩
      obtain ⟨u, hi, rfl, hu⟩ := hP.at_ hx
      have g2 : Gr [] H' (upd H' T0 (.tup [.int (i : Nat), .ref u])) := Gr.new nT
      have e2 : (upd H' T0 (.tup [.int (i : Nat), .ref u])) T0 = some (.tup [.int (i : Nat), .ref u]) := upd_same
      have G2 := G.trans g2
      generalize (upd H' T0 (.tup [.int (i : Nat), .ref u])) = H2 at g2 e2 G2 ⊢
      refine ⟨T0, _, rfl, sq_tup e2, rfl, _, _, rfl, _, _, rfl, rfl, ?_⟩
      refine ⟨_, rfl, u, _, rfl, (Kp.of G2).sqT hu, hok _ (List.getElem_mem hi), fun H3 g3 => ⟨true, rfl, iteF ⟨G2.trans g3, _, _, rfl⟩⟩⟩
    rintro σ H2 ⟨g2, v, w, rfl⟩
    exact ⟨_, rfl, q H2 g2⟩
theorem ok_holds (T : Txt K mg) : FnOk P w K mg base CX0 6 T.d_holds.f T.d_holds.fd ["base", "denominator", "size", "fact"] (sp_holds K) := by
  refine T.d_holds.F.ok sc_holds (fun vs H Q E h => ?_) (fun cdv A outer s H vs Q E hr h => ?_)
  · obtain ⟨b, n, p, q1, h, L, a, f, rfl, _⟩ := h; rfl
  · have hu := hu_of hr
    refine ⟨_, (pss_cons (ps_if (pt_cmpR op_eq (pe_ix (r := rIxT K) ix_tup (pv 3) pe_int (fun _ _ => rfl)) pe_str (nomark _)) (pss_one (ps_ret (pe_cmpR op_eq (pv 2) (pe_ix (r := rIxT K) ix_tup (pv 3) pe_int (fun _ _ => rfl)) (nomark _)))) pss_nil)
      (pss_cons (ps_if (pt_cmpR op_eq (pe_ix (r := rIxT K) ix_tup (pv 3) pe_int (fun _ _ => rfl)) pe_str (nomark _)) (pss_one (ps_ret (pe_cmpR op_eq (pe_call (ok_head_size T) (hr.mono (by decide)) (by rfl) T.d_head_size.m T.d_head_size.F.kp T.d_head_size.b .nil pass0 (pa_cons (pv 0) (pa_cons (pv 1) pa_nil))) (pe_ix (r := rIxT K) ix_tup (pv 3) pe_int (fun _ _ => rfl)) (nomark _)))) pss_nil)
      (pss_cons (ps_if (pt_cmpR op_eq (pe_ix (r := rIxT K) ix_tup (pv 3) pe_int (fun _ _ => rfl)) pe_str (nomark _)) (pss_one (ps_ret (pe_cmpR op_eq (pe_call (ok_power_rest T) (hr.mono (by decide)) (by rfl) T.d_power_rest.m T.d_power_rest.F.kp T.d_power_rest.b .nil pass0 (pa_cons (pv 0) (pa_cons (pe_ix (r := rIxT K) ix_tup (pv 3) pe_int (fun _ _ => rfl)) (pa_cons (pv 1) pa_nil)))) (pe_ix (r := rIxT K) ix_tup (pv 3) pe_int (fun _ _ => rfl)) (nomark _)))) pss_nil)
      (pss_cons (ps_if (pt_cmpR op_ne (pe_callBfun cr_gcd (by rfl) T.b_gcd (pa_cons (pv 0) (pa_cons (pv 1) pa_nil))) pe_int (nomark _)) (pss_one (ps_ret pe_bl)) pss_nil)
      (pss_cons (ps_if (pt_cmpR op_eq (pe_ix (r := rIxT K) ix_tup (pv 3) pe_int (fun _ _ => rfl)) pe_str (nomark _)) (pss_one (ps_ret (pe_cmpR op_eq (pe_call (ok_residue_count T) (hr.mono (by decide)) (by rfl) T.d_residue_count.m T.d_residue_count.F.kp T.d_residue_count.b .nil pass0 (pa_cons (pv 1) pa_nil)) (pe_op op_mul (pe_ix (r := rIxT K) ix_tup (pv 3) pe_int (fun _ _ => rfl)) (pv 2)) (nomark _)))) pss_nil)
      (pss_cons (ps_if (pt_cmpR op_ne (pe_op op_mod (pv 2) (pe_ix (r := rIxT K) ix_tup (pv 3) pe_int (fun _ _ => rfl))) pe_int (nomark _)) (pss_one (ps_ret pe_bl)) pss_nil)
      (pss_one (ps_ret (pe_cmpR op_eq (pe_call (ok_is_balanced_with T) (hr.mono (by decide)) (by rfl) T.d_is_balanced_with.m T.d_is_balanced_with.F.kp T.d_is_balanced_with.b .nil pass0 (pa_cons (pv 0) (pa_cons (pv 1) (pa_cons (pe_op op_fdiv (pv 2) (pe_ix (r := rIxT K) ix_tup (pv 3) pe_int (fun _ _ => rfl))) (pa_cons (pe_ix (r := rIxT K) ix_tup (pv 3) pe_int (fun _ _ => rfl)) pa_nil))))) (pe_ix (r := rIxT K) ix_tup (pv 3) pe_int (fun _ _ => rfl)) (nomark _)))))))))), ?_⟩
    obtain ⟨b, n, p, q1, h, L, a, f, rfl, ha, hf, hbn, P, hw, q⟩ := h
    obtain ⟨hb1, hb2, hn1, hn2⟩ := id hbn
    have sa := ha
    have hpp := pure_pos hn1 P.hp
    have hLn : L ≤ n := Nat.le_trans (per_le hpp.1 P.hp.1 P.hL) hpp.2
    cases f with
    | per k =>
      refine tseq_in (tifs_in ⟨_, rfl, a, _, (0 : Int), .str "period", rfl, rfl, sa, rfl, rfl, _, rfl, iteTb (by decide +kernel) ?_⟩)
      refine ⟨_, rfl, _, rfl, a, _, (1 : Int), .int k, rfl, rfl, sa, rfl, rfl, ?_⟩
      rw [decV]
      exact q H (Gr.refl _ _)
    | hd k =>
      refine tseq_in (tifs_in ⟨_, rfl, a, _, (0 : Int), .str "head", rfl, rfl, sa, rfl, rfl, _, rfl, iteFb (by decide +kernel) ?_⟩)
      dsimp only [tNext]
      refine tseq_in (tifs_in ⟨_, rfl, a, _, (0 : Int), .str "head", rfl, rfl, sa, rfl, rfl, _, rfl, iteTb (by decide +kernel) ?_⟩)
      refine ⟨_, rfl, _, rfl, b, n, rfl, hbn, fun p' q' h' u1 u2 u3 => ?_⟩
      refine ⟨_, rfl, a, _, (1 : Int), .int k, rfl, rfl, sa, rfl, rfl, ?_⟩
      have e1 := u1.uniq P.hp
      subst e1
      have e2 : q' = q1 := Nat.eq_of_mul_eq_mul_left (by omega) (u2.symm.trans P.e)
      subst e2
      have e3 := u3.uniq P.hh
      subst e3
      rw [decV]
      exact q H (Gr.refl _ _)
    | po k r =>
      refine tseq_in (tifs_in ⟨_, rfl, a, _, (0 : Int), .str "power", rfl, rfl, sa, rfl, rfl, _, rfl, iteFb (by decide +kernel) ?_⟩)
      dsimp only [tNext]
      refine tseq_in (tifs_in ⟨_, rfl, a, _, (0 : Int), .str "power", rfl, rfl, sa, rfl, rfl, _, rfl, iteFb (by decide +kernel) ?_⟩)
      dsimp only [tNext]
      refine tseq_in (tifs_in ⟨_, rfl, a, _, (0 : Int), .str "power", rfl, rfl, sa, rfl, rfl, _, rfl, iteTb (by decide +kernel) ?_⟩)
      obtain ⟨e, rfl⟩ : ∃ e : Nat, k = (e : Int) := ⟨k.toNat, by have := hf.1.1; omega⟩
      refine ⟨_, rfl, _, rfl, a, _, (1 : Int), .int (e : Nat), rfl, rfl, sa, rfl, _, rfl, b, e, n, rfl, ⟨hn1, hn2⟩, ?_⟩
      refine ⟨_, rfl, a, _, (2 : Int), .int r, rfl, rfl, sa, rfl, rfl, ?_⟩
      rw [decV]
      exact q H (Gr.refl _ _)
    | wh w =>
      refine tseq_in (tifs_in ⟨_, rfl, a, _, (0 : Int), .str "wheels", rfl, rfl, sa, rfl, rfl, _, rfl, iteFb (by decide +kernel) ?_⟩)
      dsimp only [tNext]
      refine tseq_in (tifs_in ⟨_, rfl, a, _, (0 : Int), .str "wheels", rfl, rfl, sa, rfl, rfl, _, rfl, iteFb (by decide +kernel) ?_⟩)
      dsimp only [tNext]
      refine tseq_in (tifs_in ⟨_, rfl, a, _, (0 : Int), .str "wheels", rfl, rfl, sa, rfl, rfl, _, rfl, iteFb (by decide +kernel) ?_⟩)
      dsimp only [tNext]
      refine tseq_in (tifs_in ⟨_, rfl, _, rfl, (b : Int), (n : Int), rfl, rfl, _, rfl, ?_⟩)
      have hgd : (!decide (V.int ((Nat.gcd (b : Int).natAbs (n : Int).natAbs : Nat) : Int) = V.int 1)) = !decide (Nat.gcd b n = 1) := by
        rw [decV, Int.natAbs_natCast, Int.natAbs_natCast]
        congr 1
        exact decide_eq_decide.mpr ⟨fun z => by omega, fun z => by rw [z]; rfl⟩
      have q' := q
      show (if (!decide (V.int ((Nat.gcd (b : Int).natAbs (n : Int).natAbs : Nat) : Int) = V.int 1)) = true then _ else _)
      rw [hgd]
      by_cases hg : Nat.gcd b n = 1
      · rw [decide_eq_true hg]
        refine iteF ?_
        dsimp only [tNext]
        refine tseq_in (tifs_in ⟨_, rfl, a, _, (0 : Int), .str "wheels", rfl, rfl, sa, rfl, rfl, _, rfl, iteTb (by decide +kernel) ?_⟩)
        refine ⟨_, rfl, n, rfl, ⟨hn1, hw rfl⟩, fun H1 g1 => ?_⟩
        refine ⟨_, rfl, a, _, (1 : Int), .int w, rfl, rfl, ((Kp.of g1).sqT ha), rfl, _, rfl, _, _, rfl, rfl, .inr ⟨by omega, by omega⟩, rfl, ?_⟩
        rw [decV, phi_ok n (by have := hw rfl; omega) hn1]
        have e : soP b n h L (.wh w) = decide (((copL n).length : Int) = w * (L : Int)) := by
          show (decide (Nat.gcd b n = 1) && decide _) = _
          rw [decide_eq_true hg]
          rfl
        rw [← e]
        exact q H1 g1
      · rw [decide_eq_false hg]
        refine iteT ?_
        have e : soP b n h L (.wh w) = false := by
          show (decide (Nat.gcd b n = 1) && _) = false
          rw [decide_eq_false hg]
          rfl
        rw [← e]
        exact q H (Gr.refl _ _)
    | ba d x =>
      refine tseq_in (tifs_in ⟨_, rfl, a, _, (0 : Int), .str "balanced", rfl, rfl, sa, rfl, rfl, _, rfl, iteFb (by decide +kernel) ?_⟩)
      dsimp only [tNext]
      refine tseq_in (tifs_in ⟨_, rfl, a, _, (0 : Int), .str "balanced", rfl, rfl, sa, rfl, rfl, _, rfl, iteFb (by decide +kernel) ?_⟩)
      dsimp only [tNext]
      refine tseq_in (tifs_in ⟨_, rfl, a, _, (0 : Int), .str "balanced", rfl, rfl, sa, rfl, rfl, _, rfl, iteFb (by decide +kernel) ?_⟩)
      dsimp only [tNext]
      refine tseq_in (tifs_in ⟨_, rfl, _, rfl, (b : Int), (n : Int), rfl, rfl, _, rfl, ?_⟩)
      have hgd : (!decide (V.int ((Nat.gcd (b : Int).natAbs (n : Int).natAbs : Nat) : Int) = V.int 1)) = !decide (Nat.gcd b n = 1) := by
        rw [decV, Int.natAbs_natCast, Int.natAbs_natCast]
        congr 1
        exact decide_eq_decide.mpr ⟨fun z => by omega, fun z => by rw [z]; rfl⟩
      show (if (!decide (V.int ((Nat.gcd (b : Int).natAbs (n : Int).natAbs : Nat) : Int) = V.int 1)) = true then _ else _)
      rw [hgd]
      by_cases hg : Nat.gcd b n = 1
      · rw [decide_eq_true hg]
        refine iteF ?_
        dsimp only [tNext]
        refine tseq_in (tifs_in ⟨_, rfl, a, _, (0 : Int), .str "balanced", rfl, rfl, sa, rfl, rfl, _, rfl, iteFb (by decide +kernel) ?_⟩)
        dsimp only [tNext]
        obtain ⟨dn, rfl⟩ : ∃ dn : Nat, d = (dn : Int) := ⟨d.toNat, by have := hf.1; omega⟩
        have hd2 : 2 ≤ dn := by have := hf.1; omega
        have hd5 : dn ≤ 5000 := by have := hf.2; omega
        refine tseq_in (tifs_in ⟨_, rfl, _, rfl, a, _, (1 : Int), .int (dn : Nat), rfl, rfl, sa, rfl, _, _, rfl, rfl, by omega, rfl, _, rfl, ?_⟩)
        by_cases hm : (L : Int) % (dn : Int) = 0
        · refine iteFb (by rw [decV, decide_eq_true hm]; rfl) ?_
          dsimp only [tNext]
          have hL1 := P.hL.1
          have hn2' : 2 ≤ n := by
            rcases Nat.lt_or_ge n 2 with z | z
            · have hL : L = 1 := by omega
              rw [hL] at hm
              have : ((1 : Nat) : Int) % (dn : Int) = 1 := Int.emod_eq_of_lt (by decide) (by omega)
              omega
            · exact z
          refine ⟨_, rfl, _, rfl, _, rfl, _, rfl, a, _, (1 : Int), .int (dn : Nat), rfl, rfl, sa, rfl, _, _, rfl, rfl, ⟨by omega, by omega⟩, _, rfl, a, _, (1 : Int), .int (dn : Nat), rfl, rfl, sa, rfl, b, n, L / dn, dn, rfl, ⟨hn2', hn2, hd5⟩, fun H1 g1 => ?_⟩
          refine ⟨_, rfl, a, _, (2 : Int), .bl x, rfl, rfl, ((Kp.of g1).sqT ha), rfl, rfl, ?_⟩
          rw [decB]
          have e : soP b n h L (.ba (dn : Nat) x) = decide (bal b n (L / dn) dn = x) := by
            show (decide (Nat.gcd b n = 1) && (decide ((L : Int) % (dn : Int) = 0) && decide (bal b n (L / dn) dn = x))) = _
            rw [decide_eq_true hg, decide_eq_true hm]
            rfl
          rw [← e]
          exact q H1 g1
        · refine iteTb (by rw [decV, decide_eq_false hm]; rfl) ?_
          have e : soP b n h L (.ba (dn : Nat) x) = false := by
            show (decide (Nat.gcd b n = 1) && (decide ((L : Int) % (dn : Int) = 0) && decide (bal b n (L / dn) dn = x))) = _
            rw [decide_eq_false hm, Bool.false_and, Bool.and_false]
          rw [← e]
          exact q H (Gr.refl _ _)
      · rw [decide_eq_false hg]
        refine iteT ?_
        have e : soP b n h L (.ba d x) = false := by
          show (decide (Nat.gcd b n = 1) && _) = false
          rw [decide_eq_false hg]
          rfl
        rw [← e]
        exact q H (Gr.refl _ _)

end
end Wn
namespace Wn
open PySem PySem.Spec PyProof.Rows L2
local macro_rules | `(tactic| walk_at "vc") => `(tactic| simp only [cxK, cxK2, start1, start2, start3, tRet, tRetN, tSeq, tNext, tIfS, tAsg, gName, tDrop, tVar, tC, tOp, tUn, tTest, tB, tNot, tAnd, tOr, tAndV, tOrV, tNotV, tIf, tCons, tNil, tCB, tCall, tChain, tAug, ipI, rI, rI0, rU, rIs, rGcd, rEq, rNe, scal,
  List.getElem?_cons_zero, List.getElem?_cons_succ, List.set_cons_zero, List.set_cons_succ, Option.some.injEq, List.cons.injEq, V.int.injEq, V.bl.injEq, V.ref.injEq, V.str.injEq, and_true, true_and, exists_eq_left, exists_eq_left', exists_and_left, exists_and_right, List.append_nil, List.nil_append, List.cons_append, exists_eq_right, exists_eq_right', and_assoc, exists_const, V.ty.injEq, ↓reduceIte, Bool.false_eq_true, Bool.not_true, Bool.not_false, decide_eq_true_eq])

section
variable {P : Program} {w : World} {K : PySem.W.Frag} {mg : Str → Option Value} {base : Heap}
theorem fil_yes {xs : List Nat} {p : Nat → Bool} {x : Nat} (h : p x = true) : (xs ++ [x]).filter p = xs.filter p ++ [x] := by
  rw [List.filter_append, List.filter_cons_of_pos h]
  rfl
theorem fil_no {xs : List Nat} {p : Nat → Bool} {x : Nat} (h : p x = false) : (xs ++ [x]).filter p = xs.filter p := by
  rw [List.filter_append, List.filter_cons_of_neg (by rw [h]; decide)]
  exact List.append_nil _
theorem db_succ (b : Nat) (fs : List Fct) (i : Nat) : dbF b fs (i + 1) = if soA b (1 + i) fs = true then dbF b fs i ++ [1 + i] else dbF b fs i := by
  unfold dbF
  rw [List.range_succ, List.map_append]
  by_cases hg : soA b (1 + i) fs = true
  · rw [if_pos hg]
    exact fil_yes hg
  · rw [if_neg hg]
    exact fil_no (by simpa using hg)
theorem db_len (b : Nat) (fs : List Fct) (i : Nat) : (dbF b fs i).length ≤ i := by
  unfold dbF
  refine Nat.le_trans (List.length_filter_le _ _) ?_
  rw [List.length_map, List.length_range]
  exact Nat.le_refl _
theorem db_lt {b : Nat} {fs : List Fct} {i k : Nat} (h : k ∈ dbF b fs i) : k ≤ i + 1 := by
  unfold dbF at h
  obtain ⟨h, _⟩ := List.mem_filter.mp h
  obtain ⟨j, hj, rfl⟩ := List.mem_map.mp h
  rw [List.mem_range] at hj
  omega
theorem bb_succ (n : Nat) (fs : List Fct) (i : Nat) : bbF n fs (i + 1) = if soA (2 + i) n fs = true then bbF n fs i ++ [2 + i] else bbF n fs i := by
  unfold bbF
  rw [List.range_succ, List.map_append]
  by_cases hg : soA (2 + i) n fs = true
  · rw [if_pos hg]
    exact fil_yes hg
  · rw [if_neg hg]
    exact fil_no (by simpa using hg)
theorem bb_len (n : Nat) (fs : List Fct) (i : Nat) : (bbF n fs i).length ≤ i := by
  unfold bbF
  refine Nat.le_trans (List.length_filter_le _ _) ?_
  rw [List.length_map, List.length_range]
  exact Nat.le_refl _
theorem bb_lt {n : Nat} {fs : List Fct} {i k : Nat} (h : k ∈ bbF n fs i) : k ≤ i + 1 := by
  unfold bbF at h
  obtain ⟨h, _⟩ := List.mem_filter.mp h
  obtain ⟨j, hj, rfl⟩ := List.mem_map.mp h
  rw [List.mem_range] at hj
  omega
theorem ok_satisfy (T : Txt K mg) : FnOk P w K mg base CX0 7 T.d_satisfy.f T.d_satisfy.fd ["base", "denominator", "facts"] (sp_satisfy K) := by
  refine T.d_satisfy.F.ok sc_satisfy (fun vs H Q E h => ?_) (fun cdv A outer s H vs Q E hr h => ?_)
  · obtain ⟨b, n, a, fs, rfl, _⟩ := h; rfl
  · have hu := hu_of hr
    refine ⟨_, (pss_cons (ps_set (i := 3) sc_satisfy.nd rfl (by first | exact .inl rfl | exact .inr rfl) (pe_call (ok_period T) (hr.mono (by decide)) (by rfl) T.d_period.m T.d_period.F.kp T.d_period.b .nil pass0 (pa_cons (pv 0) (pa_cons (pv 1) pa_nil))))
      (pss_cons (ps_for PassesOwn.never rfl (pi_tup (pv 2)) (pg_name (i := 4) sc_satisfy.nd rfl (by first | exact .inl rfl | exact .inr rfl)) (pss_one (ps_if (pt_not (pt_val (pe_call (ok_holds T) (hr.mono (by decide)) (by rfl) T.d_holds.m T.d_holds.F.kp T.d_holds.b .nil pass0 (pa_cons (pv 0) (pa_cons (pv 1) (pa_cons (pv 3) (pa_cons (pv 4) pa_nil))))))) (pss_one (ps_ret pe_bl)) pss_nil)))
      (pss_one (ps_ret pe_bl)))), ?_⟩
    obtain ⟨b, n, a, fs, rfl, hbn, hF, hw, q⟩ := h
    obtain ⟨⟨ps, h1, hP⟩, ⟨hl1, hl2⟩, hok⟩ := id hF
    have hlen := hP.len
    have hn1 := hbn.2.2.1
    obtain ⟨p, q1, h, L, P⟩ := par_exists (b := b) (n := n) hn1
    have hso : ∀ f, so b n f = soP b n h L f := so_eq hn1 P
    refine ⟨_, rfl, _, rfl, b, n, rfl, hbn, fun p' d' u1 u2 => ?_⟩
    have e1 := u1.uniq P.hp
    subst e1
    have e2 := u2.uniq P.hL
    subst e2
    refine ⟨_, rfl, a, rfl, ⟨_, h1⟩, ?_⟩
    refine for_tup (K := K) (a := a) (xs := ps.map V.ref) (fun i σ H' => Gr [] H H' ∧ (∀ f ∈ fs.take i, so b n f = true) ∧ ∃ v, σ = [some (.int b), some (.int n), some (.ref a), some (.int d'), v]) ⟨Gr.refl _ _, fun f hf => by simp at hf, none, rfl⟩ (fun i σ H' _ z => (Kp.of z.1).sqT h1) ?_ ?_
    · rintro i x σ H' hx ⟨G, kk, v, rfl⟩
      obtain ⟨u, hi, rfl, hu⟩ := hP.at_ hx
      have hm := List.getElem_mem hi
      refine ⟨_, rfl, _, rfl, _, rfl, _, rfl, b, n, p', q1, h, d', u, _, rfl, (Kp.of G).sqT hu, hok _ hm, hbn, P, fun z => hw ⟨_, hm, z⟩, fun H2 g2 => ⟨_, rfl, ?_⟩⟩
      rw [← hso]
      cases e : so b n fs[i] with
      | true =>
        refine iteF ⟨G.trans g2, fun f hf => ?_, _, rfl⟩
        rw [List.take_succ_eq_append_getElem hi, List.mem_append, List.mem_singleton] at hf
        rcases hf with hf | hf
        · exact kk f hf
        · rw [hf]; exact e
      | false =>
        refine iteT ?_
        have e3 : soA b n fs = false := by
          unfold soA
          rw [List.all_eq_false]
          exact ⟨_, hm, by rw [e]; exact Bool.false_ne_true⟩
        rw [← e3]
        exact q H2 (G.trans g2)
    rintro σ H2 ⟨g2, kk, v, rfl⟩
    have e3 : soA b n fs = true := by
      unfold soA
      rw [List.all_eq_true]
      intro f hf
      refine kk f ?_
      rw [List.length_map, hlen, List.take_of_length_le (Nat.le_refl _)]
      exact hf
    rw [← e3]
    exact q H2 g2
theorem ok_is_satisfied (T : Txt K mg) (Wd : WDs T w) : FnOk P w K mg base CX0 8 T.d_is_satisfied.f T.d_is_satisfied.fd ["base", "denominator", "facts"] (sp_satisfy K) := by
  refine T.d_is_satisfied.F.ok sc_is_satisfied (fun vs H Q E h => ?_) (fun cdv A outer s H vs Q E hr h => ?_)
  · obtain ⟨b, n, a, fs, rfl, _⟩ := h; rfl
  · have hu := hu_of hr
    refine ⟨_, (pss_cons (ps_expr (pe_call (ok_need_base T) (hr.mono (by decide)) (by rfl) T.d_need_base.m T.d_need_base.F.kp T.d_need_base.b .nil pass0 (pa_cons (pv 0) pa_nil)))
      (pss_cons (ps_expr (pe_call (ok_need_denominator T) (hr.mono (by decide)) (by rfl) T.d_need_denominator.m T.d_need_denominator.F.kp T.d_need_denominator.b .nil pass0 (pa_cons (pv 1) pa_nil)))
      (pss_cons (ps_expr (pe_call (ok_need_facts T Wd) (hr.mono (by decide)) (by rfl) T.d_need_facts.m T.d_need_facts.F.kp T.d_need_facts.b .nil pass0 (pa_cons (pv 2) pa_nil)))
      (pss_one (ps_ret (pe_call (ok_satisfy T) (hr.mono (by decide)) (by rfl) T.d_satisfy.m T.d_satisfy.F.kp T.d_satisfy.b .nil pass0 (pa_cons (pv 0) (pa_cons (pv 1) (pa_cons (pv 2) pa_nil))))))))), ?_⟩
    obtain ⟨b, n, a, fs, rfl, hbn, hf, hw, q⟩ := h
    obtain ⟨hb1, hb2, hn1, hn2⟩ := id hbn
    refine ⟨_, rfl, b, rfl, ⟨by omega, by omega⟩, ?_⟩
    refine ⟨_, rfl, n, rfl, ⟨by omega, by omega⟩, ?_⟩
    refine ⟨_, rfl, a, fs, rfl, hf, fun H1 g1 => ?_⟩
    exact ⟨_, rfl, _, rfl, _, rfl, b, n, a, fs, rfl, hbn, hf.gr g1, hw, fun H2 g2 => q H2 (g1.trans g2)⟩
theorem ok_denominators_by (T : Txt K mg) (Wd : WDs T w) : FnOk P w K mg base CX0 8 T.d_denominators_by.f T.d_denominators_by.fd ["base", "facts", "most"] (sp_denominators_by K) := by
  refine T.d_denominators_by.F.ok sc_denominators_by (fun vs H Q E h => ?_) (fun cdv A outer s H vs Q E hr h => ?_)
  · obtain ⟨b, m, a, fs, rfl, _⟩ := h; rfl
  · have hu := hu_of hr
    refine ⟨_, (pss_cons (ps_expr (pe_call (ok_need_base T) (hr.mono (by decide)) (by rfl) T.d_need_base.m T.d_need_base.F.kp T.d_need_base.b .nil pass0 (pa_cons (pv 0) pa_nil)))
      (pss_cons (ps_expr (pe_call (ok_need_facts T Wd) (hr.mono (by decide)) (by rfl) T.d_need_facts.m T.d_need_facts.F.kp T.d_need_facts.b .nil pass0 (pa_cons (pv 1) pa_nil)))
      (pss_cons (ps_if (pt_not (pt_val (pe_call (ok_is_within T) (hr.mono (by decide)) (by rfl) T.d_is_within.m T.d_is_within.F.kp T.d_is_within.b .nil pass0 (pa_cons (pv 2) (pa_cons pe_int (pa_cons (pe_glob (v := .int 1000) (by rfl) T.c_GREATEST_BOUND ⟨_, rfl⟩) pa_nil)))))) (pss_one ps_never) pss_nil)
      (pss_one (ps_ret (pe_callTy (r := rTpO K) call_tpO (by rfl) T.b_tuple (by decide +kernel) (pa_cons (pe_lc (own := [("denominator", 3)]) (g := gName 3) (tt := _) rfl sc_denominators_by.nd (pi_range2 (by rfl) T.b_range (pa_cons pe_int (pa_cons (pe_op op_add (pv 2) pe_int) pa_nil))) (blkOk_by (own := [("denominator", 3)]) (N := ["base", "facts", "most", "denominator"]) (sc := defScope s_denominators_by) (by decide +kernel)) (fun _ _ _ _ _ => (pg_name (i := 3) sc_denominators_by.nd rfl (by first | exact .inl rfl | exact .inr rfl))) (fun _ _ _ _ _ => (pts_one (pt_val (pe_call (ok_satisfy T) (hr.mono (by decide)) (by rfl) T.d_satisfy.m T.d_satisfy.F.kp T.d_satisfy.b .nil pass0 (pa_cons (pv 0) (pa_cons (pv 3) (pa_cons (pv 1) pa_nil))))))) (fun _ _ _ _ _ => (pv 3))) pa_nil))))))), ?_⟩
    obtain ⟨b, m, a, fs, rfl, hb, hf, hm, hw, q⟩ := h
    refine ⟨_, rfl, b, rfl, ⟨by omega, by omega⟩, ?_⟩
    refine ⟨_, rfl, a, fs, rfl, hf, fun H1 g1 => ?_⟩
    have hf1 := hf.gr g1
    refine ⟨_, rfl, m, _, _, rfl, ⟨by omega, by omega⟩, true, rfl, iteF ?_⟩
    dsimp only [tNext]
    refine ⟨_, rfl, _, _, rfl, rfl, 1, ((m + 1 : Nat) : Int), by rw [Int.natCast_add]; rfl, ⟨by decide, by decide, by omega, by omega⟩, fun D nD => ?_⟩
    refine lc_range (lo := 1) (n := (((m + 1 : Nat) : Int) - 1).toNat) (fun i H' => Gr [] H1 H' ∧ H' D = some (.lst (vn (dbF b fs i)))) ⟨Gr.new nD, upd_same⟩ ?_ ?_
    · rintro i H' hi ⟨G, hD⟩
      have ei : (1 : Int) + (i : Int) = ((1 + i : Nat) : Int) := by omega
      have him : i < m := by omega
      rw [ei]
      have st := db_succ b fs i
      have hpl : (dbF b fs i).length ≤ 5000 := Nat.le_trans (db_len b fs i) (by omega)
      refine ⟨rfl, ?_⟩
      refine ⟨_, rfl, _, rfl, _, rfl, b, 1 + i, a, fs, rfl, ⟨by omega, by omega, by omega, by omega⟩, hf1.gr G, fun z => by have := hw z; omega, fun H3 g3 => ⟨_, rfl, ?_⟩⟩
      have hD3 := g3 D _ (by simp) hD
      have G3 := G.trans g3
      cases hg : soA b (1 + i) fs with
      | true =>
        refine iteTb rfl ⟨_, rfl, _, hD3, small5 (by rw [vn_len]; exact hpl), fun c u _ e => ?_, ?_⟩
        · rw [upd_ne (ne_of_none e nD)]
          exact G3 c u (by simp) e
        · rw [upd_same, vn_snoc, st, if_pos hg]
      | false =>
        refine iteFb rfl ⟨G3, ?_⟩
        rw [hD3, st, if_neg (by rw [hg]; exact Bool.false_ne_true)]
    rintro H2 ⟨g2, hD⟩
    rw [show (((m + 1 : Nat) : Int) - 1).toNat = m by omega] at hD
    refine ⟨D, _, rfl, .inl ⟨sq_lst hD, fun t nt => ?_⟩⟩
    exact q t _ ((g1.trans g2).trans (Gr.new nt)) upd_same
theorem ok_bases_by (T : Txt K mg) (Wd : WDs T w) : FnOk P w K mg base CX0 8 T.d_bases_by.f T.d_bases_by.fd ["denominator", "facts", "most"] (sp_bases_by K) := by
  refine T.d_bases_by.F.ok sc_bases_by (fun vs H Q E h => ?_) (fun cdv A outer s H vs Q E hr h => ?_)
  · obtain ⟨n, m, a, fs, rfl, _⟩ := h; rfl
  · have hu := hu_of hr
    refine ⟨_, (pss_cons (ps_expr (pe_call (ok_need_denominator T) (hr.mono (by decide)) (by rfl) T.d_need_denominator.m T.d_need_denominator.F.kp T.d_need_denominator.b .nil pass0 (pa_cons (pv 0) pa_nil)))
      (pss_cons (ps_expr (pe_call (ok_need_facts T Wd) (hr.mono (by decide)) (by rfl) T.d_need_facts.m T.d_need_facts.F.kp T.d_need_facts.b .nil pass0 (pa_cons (pv 1) pa_nil)))
      (pss_cons (ps_if (pt_not (pt_val (pe_call (ok_is_within T) (hr.mono (by decide)) (by rfl) T.d_is_within.m T.d_is_within.F.kp T.d_is_within.b .nil pass0 (pa_cons (pv 2) (pa_cons pe_int (pa_cons (pe_glob (v := .int 1000) (by rfl) T.c_MOST_BASE ⟨_, rfl⟩) pa_nil)))))) (pss_one ps_never) pss_nil)
      (pss_one (ps_ret (pe_callTy (r := rTpO K) call_tpO (by rfl) T.b_tuple (by decide +kernel) (pa_cons (pe_lc (own := [("base", 3)]) (g := gName 3) (tt := _) rfl sc_bases_by.nd (pi_range2 (by rfl) T.b_range (pa_cons pe_int (pa_cons (pe_op op_add (pv 2) pe_int) pa_nil))) (blkOk_by (own := [("base", 3)]) (N := ["denominator", "facts", "most", "base"]) (sc := defScope s_bases_by) (by decide +kernel)) (fun _ _ _ _ _ => (pg_name (i := 3) sc_bases_by.nd rfl (by first | exact .inl rfl | exact .inr rfl))) (fun _ _ _ _ _ => (pts_one (pt_val (pe_call (ok_satisfy T) (hr.mono (by decide)) (by rfl) T.d_satisfy.m T.d_satisfy.F.kp T.d_satisfy.b .nil pass0 (pa_cons (pv 3) (pa_cons (pv 0) (pa_cons (pv 1) pa_nil))))))) (fun _ _ _ _ _ => (pv 3))) pa_nil))))))), ?_⟩
    obtain ⟨n, m, a, fs, rfl, hn, hf, hm, hw, q⟩ := h
    refine ⟨_, rfl, n, rfl, ⟨by omega, by omega⟩, ?_⟩
    refine ⟨_, rfl, a, fs, rfl, hf, fun H1 g1 => ?_⟩
    have hf1 := hf.gr g1
    refine ⟨_, rfl, m, _, _, rfl, ⟨by omega, by omega⟩, true, rfl, iteF ?_⟩
    dsimp only [tNext]
    refine ⟨_, rfl, _, _, rfl, rfl, 2, ((m + 1 : Nat) : Int), by rw [Int.natCast_add]; rfl, ⟨by decide, by decide, by omega, by omega⟩, fun D nD => ?_⟩
    refine lc_range (lo := 2) (n := (((m + 1 : Nat) : Int) - 2).toNat) (fun i H' => Gr [] H1 H' ∧ H' D = some (.lst (vn (bbF n fs i)))) ⟨Gr.new nD, upd_same⟩ ?_ ?_
    · rintro i H' hi ⟨G, hD⟩
      have ei : (2 : Int) + (i : Int) = ((2 + i : Nat) : Int) := by omega
      have him : i < (m - 1) := by omega
      rw [ei]
      have st := bb_succ n fs i
      have hpl : (bbF n fs i).length ≤ 5000 := Nat.le_trans (bb_len n fs i) (by omega)
      refine ⟨rfl, ?_⟩
      refine ⟨_, rfl, _, rfl, _, rfl, 2 + i, n, a, fs, rfl, ⟨by omega, by omega, by omega, by omega⟩, hf1.gr G, hw, fun H3 g3 => ⟨_, rfl, ?_⟩⟩
      have hD3 := g3 D _ (by simp) hD
      have G3 := G.trans g3
      cases hg : soA (2 + i) n fs with
      | true =>
        refine iteTb rfl ⟨_, rfl, _, hD3, small5 (by rw [vn_len]; exact hpl), fun c u _ e => ?_, ?_⟩
        · rw [upd_ne (ne_of_none e nD)]
          exact G3 c u (by simp) e
        · rw [upd_same, vn_snoc, st, if_pos hg]
      | false =>
        refine iteFb rfl ⟨G3, ?_⟩
        rw [hD3, st, if_neg (by rw [hg]; exact Bool.false_ne_true)]
    rintro H2 ⟨g2, hD⟩
    rw [show (((m + 1 : Nat) : Int) - 2).toNat = (m - 1) by omega] at hD
    refine ⟨D, _, rfl, .inl ⟨sq_lst hD, fun t nt => ?_⟩⟩
    exact q t _ ((g1.trans g2).trans (Gr.new nt)) upd_same

end
end Wn
namespace Wn
open PySem PySem.Spec PyProof.Rows L2
local macro_rules | `(tactic| walk_at "vc") => `(tactic| simp only [cxK, cxK2, start1, start2, start3, tRet, tRetN, tSeq, tNext, tIfS, tAsg, gName, tDrop, tVar, tC, tOp, tUn, tTest, tB, tNot, tAnd, tOr, tAndV, tOrV, tNotV, tIf, tCons, tNil, tCB, tCall, tChain, tAug, ipI, rI, rI0, rU, rIs, rGcd, rEq, rNe, scal,
  List.getElem?_cons_zero, List.getElem?_cons_succ, List.set_cons_zero, List.set_cons_succ, Option.some.injEq, List.cons.injEq, V.int.injEq, V.bl.injEq, V.ref.injEq, V.str.injEq, and_true, true_and, exists_eq_left, exists_eq_left', exists_and_left, exists_and_right, List.append_nil, List.nil_append, List.cons_append, exists_eq_right, exists_eq_right', and_assoc, exists_const, V.ty.injEq, ↓reduceIte, Bool.false_eq_true, Bool.not_true, Bool.not_false, decide_eq_true_eq])

section
variable {P : Program} {w : World} {K : PySem.W.Frag} {mg : Str → Option Value} {base : Heap}
def sp_law_is_so (K : PySem.W.Frag) : Sp := fun vs H Q _ => ∃ (b n : Nat) (a : Addr) (f : Fct), vs = [.int b, .int n, .ref a] ∧ SqT K H a (FV f) ∧ FOk f ∧ (b ≤ 5000 ∧ 1 ≤ n ∧ n ≤ 5000) ∧ ∀ H', Gr [] H H' → Q (.bl (so b n f)) H'
def sp_law_are_so (K : PySem.W.Frag) : Sp := fun vs H Q _ => ∃ (b n : Nat) (a : Addr) (fs : List Fct), vs = [.int b, .int n, .ref a] ∧ FQ K H a fs ∧ (b ≤ 5000 ∧ 1 ≤ n ∧ n ≤ 5000) ∧ ∀ H', Gr [] H H' → Q (.bl (soA b n fs)) H'
theorem ok_law_is_so (T : Txt K mg) : FnOk P w K mg base CX0 4 T.d_law_is_so.f T.d_law_is_so.fd ["b", "n", "fact"] (sp_law_is_so K) := by
  refine T.d_law_is_so.F.ok sc_law_is_so (fun vs H Q E h => ?_) (fun cdv A outer s H vs Q E hr h => ?_)
  · obtain ⟨b, n, a, f, rfl, _⟩ := h; rfl
  · have hu := hu_of hr
    refine ⟨_, (pss_cons (ps_asg (pe_call (ok_law_period T) (hr.mono (by decide)) (by rfl) T.d_law_period.m T.d_law_period.F.kp T.d_law_period.b .nil pass0 (pa_cons (pv 0) (pa_cons (pv 1) pa_nil))) (pg_tup (by rfl) (pgs_cons (pg_name (i := 3) sc_law_is_so.nd rfl (by first | exact .inl rfl | exact .inr rfl)) (pgs_cons (pg_name (i := 4) sc_law_is_so.nd rfl (by first | exact .inl rfl | exact .inr rfl)) pgs_nil))))
      (pss_cons (ps_if (pt_cmpR op_eq (pe_ix (r := rIxT K) ix_tup (pv 2) pe_int (fun _ _ => rfl)) pe_str (nomark _)) (pss_one (ps_ret (pe_cmpR op_eq (pv 3) (pe_ix (r := rIxT K) ix_tup (pv 2) pe_int (fun _ _ => rfl)) (nomark _)))) pss_nil)
      (pss_cons (ps_if (pt_cmpR op_eq (pe_ix (r := rIxT K) ix_tup (pv 2) pe_int (fun _ _ => rfl)) pe_str (nomark _)) (pss_one (ps_ret (pe_cmpR op_eq (pv 4) (pe_ix (r := rIxT K) ix_tup (pv 2) pe_int (fun _ _ => rfl)) (nomark _)))) pss_nil)
      (pss_cons (ps_if (pt_cmpR op_eq (pe_ix (r := rIxT K) ix_tup (pv 2) pe_int (fun _ _ => rfl)) pe_str (nomark _)) (pss_one (ps_ret (pe_cmpR op_eq (pe_call (ok_law_raised T) (hr.mono (by decide)) (by rfl) T.d_law_raised.m T.d_law_raised.F.kp T.d_law_raised.b .nil pass0 (pa_cons (pv 0) (pa_cons (pe_ix (r := rIxT K) ix_tup (pv 2) pe_int (fun _ _ => rfl)) (pa_cons (pv 1) pa_nil)))) (pe_ix (r := rIxT K) ix_tup (pv 2) pe_int (fun _ _ => rfl)) (nomark _)))) pss_nil)
      (pss_cons (ps_if (pt_cmpR op_ne (pe_call (ok_law_divisor T) (hr.mono (by decide)) (by rfl) T.d_law_divisor.m T.d_law_divisor.F.kp T.d_law_divisor.b .nil pass0 (pa_cons (pv 1) (pa_cons (pv 0) pa_nil))) pe_int (nomark _)) (pss_one (ps_ret pe_bl)) pss_nil)
      (pss_cons (ps_if (pt_cmpR op_eq (pe_ix (r := rIxT K) ix_tup (pv 2) pe_int (fun _ _ => rfl)) pe_str (nomark _)) (pss_one (ps_ret (pe_cmpR op_eq (pe_callB (r := rLn K) call_ln (by rfl) T.b_len PySem.boot_len (pa_cons (pe_call (ok_law_units T) (hr.mono (by decide)) (by rfl) T.d_law_units.m T.d_law_units.F.kp T.d_law_units.b .nil pass0 (pa_cons (pv 1) pa_nil)) pa_nil)) (pe_op op_mul (pe_ix (r := rIxT K) ix_tup (pv 2) pe_int (fun _ _ => rfl)) (pv 3)) (nomark _)))) pss_nil)
      (pss_cons (ps_if (PW.pt (pw_or (pt_cmpR op_eq (pv 1) pe_int (nomark _)) (pw_or (pt_cmpR op_gt (pe_ix (r := rIxT K) ix_tup (pv 2) pe_int (fun _ _ => rfl)) (pv 3) (nomark _)) (pw_or1 (pt_cmpR op_ne (pe_op op_mod (pe_callTy call_int1 (by rfl) T.b_int (by decide +kernel) (pa_cons (pv 3) pa_nil)) (pe_ix (r := rIxT K) ix_tup (pv 2) pe_int (fun _ _ => rfl))) pe_int (nomark _)))))) (pss_one (ps_ret pe_bl)) pss_nil)
      (pss_cons (ps_par3 (i := 5) (j := 6) (l := 7) (by rfl) sc_law_is_so.nd rfl rfl rfl (by decide) (by decide) (by decide) rfl rfl rfl (pa_cons (pe_call (ok_law_raised T) (hr.mono (by decide)) (by rfl) T.d_law_raised.m T.d_law_raised.F.kp T.d_law_raised.b .nil pass0 (pa_cons (pv 0) (pa_cons (pe_op op_fdiv (pv 3) (pe_ix (r := rIxT K) ix_tup (pv 2) pe_int (fun _ _ => rfl))) (pa_cons (pv 1) pa_nil)))) (pa_cons pe_int (pa_cons pe_int pa_nil))) (by rfl))
      (pss_cons (ps_for PassesOwn.never rfl (pi_range1 (by rfl) T.b_range (pa_cons (pe_ix (r := rIxT K) ix_tup (pv 2) pe_int (fun _ _ => rfl)) pa_nil)) (pg_name (i := 8) sc_law_is_so.nd rfl (by first | exact .inl rfl | exact .inr rfl)) (pss_one (ps_par (i := 6) (j := 7) (by rfl) sc_law_is_so.nd rfl rfl (by decide) rfl rfl (pa_cons (pe_op op_add (pv 6) (pv 7)) (pa_cons (pe_op op_mod (pe_callTy call_int1 (by rfl) T.b_int (by decide +kernel) (pa_cons (pe_op op_mul (pv 7) (pv 5)) pa_nil)) (pv 1)) pa_nil)) (by rfl))))
      (pss_one (ps_ret (pe_cmpR op_eq (pe_cmpR op_eq (pe_op op_mod (pe_callTy call_int1 (by rfl) T.b_int (by decide +kernel) (pa_cons (pv 6) pa_nil)) (pv 1)) pe_int (nomark _)) (pe_ix (r := rIxT K) ix_tup (pv 2) pe_int (fun _ _ => rfl)) (nomark _))))))))))))), ?_⟩
    obtain ⟨b, n, a, f, rfl, ha, hf, ⟨hb5, hn1, hn5⟩, q⟩ := h
    refine tseq_in ⟨_, rfl, _, rfl, b, n, rfl, ⟨hb5, hn1, hn5⟩, fun t H1 p q1 h L P g1 ht => ?_⟩
    rw [so_eq hn1 P] at q
    have hpp := pure_pos hn1 P.hp
    have hLn : L ≤ n := Nat.le_trans (per_le hpp.1 P.hp.1 P.hL) hpp.2
    refine ⟨t, _, rfl, sq_tup ht, rfl, _, _, rfl, _, _, rfl, rfl, ?_⟩
    dsimp only
    have ha1 := (Kp.of g1).sqT ha
    have sa := ha1
    cases f with
    | per k =>
      refine tseq_in (tifs_in ⟨_, rfl, a, _, (0 : Int), .str "period", rfl, rfl, sa, rfl, rfl, _, rfl, iteTb (by decide +kernel) ?_⟩)
      refine ⟨_, rfl, _, rfl, a, _, (1 : Int), .int k, rfl, rfl, sa, rfl, rfl, ?_⟩
      rw [decV]
      exact q H1 g1
    | hd k =>
      refine tseq_in (tifs_in ⟨_, rfl, a, _, (0 : Int), .str "head", rfl, rfl, sa, rfl, rfl, _, rfl, iteFb (by decide +kernel) ?_⟩)
      dsimp only [tNext]
      refine tseq_in (tifs_in ⟨_, rfl, a, _, (0 : Int), .str "head", rfl, rfl, sa, rfl, rfl, _, rfl, iteTb (by decide +kernel) ?_⟩)
      refine ⟨_, rfl, _, rfl, a, _, (1 : Int), .int k, rfl, rfl, sa, rfl, rfl, ?_⟩
      rw [decV]
      exact q H1 g1
    | po k r =>
      refine tseq_in (tifs_in ⟨_, rfl, a, _, (0 : Int), .str "power", rfl, rfl, sa, rfl, rfl, _, rfl, iteFb (by decide +kernel) ?_⟩)
      dsimp only [tNext]
      refine tseq_in (tifs_in ⟨_, rfl, a, _, (0 : Int), .str "power", rfl, rfl, sa, rfl, rfl, _, rfl, iteFb (by decide +kernel) ?_⟩)
      dsimp only [tNext]
      refine tseq_in (tifs_in ⟨_, rfl, a, _, (0 : Int), .str "power", rfl, rfl, sa, rfl, rfl, _, rfl, iteTb (by decide +kernel) ?_⟩)
      obtain ⟨e, rfl⟩ : ∃ e : Nat, k = (e : Int) := ⟨k.toNat, by have := hf.1.1; omega⟩
      refine ⟨_, rfl, _, rfl, a, _, (1 : Int), .int (e : Nat), rfl, rfl, sa, rfl, _, rfl, b, e, n, rfl, ⟨hn1, hn5⟩, ?_⟩
      refine ⟨_, rfl, a, _, (2 : Int), .int r, rfl, rfl, sa, rfl, rfl, ?_⟩
      rw [decV]
      exact q H1 g1
    | wh w =>
      refine tseq_in (tifs_in ⟨_, rfl, a, _, (0 : Int), .str "wheels", rfl, rfl, sa, rfl, rfl, _, rfl, iteFb (by decide +kernel) ?_⟩)
      dsimp only [tNext]
      refine tseq_in (tifs_in ⟨_, rfl, a, _, (0 : Int), .str "wheels", rfl, rfl, sa, rfl, rfl, _, rfl, iteFb (by decide +kernel) ?_⟩)
      dsimp only [tNext]
      refine tseq_in (tifs_in ⟨_, rfl, a, _, (0 : Int), .str "wheels", rfl, rfl, sa, rfl, rfl, _, rfl, iteFb (by decide +kernel) ?_⟩)
      dsimp only [tNext]
      refine tseq_in (tifs_in ⟨_, rfl, _, rfl, n, b, rfl, rfl, _, rfl, ?_⟩)
      rw [decV, show decide (((Nat.gcd n b : Nat) : Int) = 1) = decide (Nat.gcd b n = 1) from decide_eq_decide.mpr (by rw [Nat.gcd_comm]; exact ⟨fun z => by omega, fun z => by rw [z]; rfl⟩)]
      by_cases hg : Nat.gcd b n = 1
      · rw [decide_eq_true hg]
        refine iteF ?_
        dsimp only [tNext]
        refine tseq_in (tifs_in ⟨_, rfl, a, _, (0 : Int), .str "wheels", rfl, rfl, sa, rfl, rfl, _, rfl, iteTb (by decide +kernel) ?_⟩)
        refine ⟨_, rfl, n, rfl, hn5, fun l H2 g2 hl => ⟨l, _, rfl, .inl (sq_lst hl), ?_⟩⟩
        refine ⟨_, rfl, a, _, (1 : Int), .int w, rfl, rfl, ((Kp.of g2).sqT ha1), rfl, _, rfl, _, _, rfl, rfl, .inr ⟨by omega, by omega⟩, rfl, ?_⟩
        rw [decV, vn_len]
        have e : soP b n h L (.wh w) = decide (((copL n).length : Int) = w * (L : Int)) := by
          show (decide (Nat.gcd b n = 1) && decide _) = _
          rw [decide_eq_true hg]
          rfl
        rw [← e]
        exact q H2 (g1.trans g2)
      · rw [decide_eq_false hg]
        refine iteT ?_
        have e : soP b n h L (.wh w) = false := by
          show (decide (Nat.gcd b n = 1) && _) = false
          rw [decide_eq_false hg]
          rfl
        rw [← e]
        exact q H1 g1
    | ba d x =>
      refine tseq_in (tifs_in ⟨_, rfl, a, _, (0 : Int), .str "balanced", rfl, rfl, sa, rfl, rfl, _, rfl, iteFb (by decide +kernel) ?_⟩)
      dsimp only [tNext]
      refine tseq_in (tifs_in ⟨_, rfl, a, _, (0 : Int), .str "balanced", rfl, rfl, sa, rfl, rfl, _, rfl, iteFb (by decide +kernel) ?_⟩)
      dsimp only [tNext]
      refine tseq_in (tifs_in ⟨_, rfl, a, _, (0 : Int), .str "balanced", rfl, rfl, sa, rfl, rfl, _, rfl, iteFb (by decide +kernel) ?_⟩)
      dsimp only [tNext]
      refine tseq_in (tifs_in ⟨_, rfl, _, rfl, n, b, rfl, rfl, _, rfl, ?_⟩)
      rw [decV, show decide (((Nat.gcd n b : Nat) : Int) = 1) = decide (Nat.gcd b n = 1) from decide_eq_decide.mpr (by rw [Nat.gcd_comm]; exact ⟨fun z => by omega, fun z => by rw [z]; rfl⟩)]
      by_cases hg : Nat.gcd b n = 1
      · rw [decide_eq_true hg]
        refine iteF ?_
        dsimp only [tNext]
        refine tseq_in (tifs_in ⟨_, rfl, a, _, (0 : Int), .str "balanced", rfl, rfl, sa, rfl, rfl, _, rfl, iteFb (by decide +kernel) ?_⟩)
        dsimp only [tNext]
        obtain ⟨dn, rfl⟩ : ∃ dn : Nat, d = (dn : Int) := ⟨d.toNat, by have := hf.1; omega⟩
        have hd2 : 2 ≤ dn := by have := hf.1; omega
        have hd5 : dn ≤ 5000 := by have := hf.2; omega
        have hL1 := P.hL.1
        have qF : ¬ (L : Int) % (dn : Int) = 0 → Q (.bl false) H1 := fun hm => by
          have e : soP b n h L (.ba (dn : Nat) x) = false := by
            show (decide (Nat.gcd b n = 1) && (decide ((L : Int) % (dn : Int) = 0) && decide (bal b n (L / dn) dn = x))) = _
            rw [decide_eq_false hm, Bool.false_and, Bool.and_false]
          rw [← e]
          exact q H1 g1
        have hlt : L < dn → ¬ (L : Int) % (dn : Int) = 0 := fun z => by
          rw [Int.emod_eq_of_lt (by omega) (by omega)]
          omega
        refine tseq_in (tifs_in (tor_in ⟨_, rfl, rfl, _, rfl, ?_⟩))
        rw [decV]
        by_cases c1 : n = 1
        · refine iteTb (decide_eq_true (by omega)) (iteT ?_)
          exact qF (hlt (by omega))
        refine iteFb (decide_eq_false (by omega)) ?_
        refine tor_in ⟨_, rfl, a, _, (1 : Int), .int (dn : Nat), rfl, rfl, sa, rfl, _, rfl, _, _, rfl, rfl, _, rfl, ?_⟩
        by_cases c2 : L < dn
        · refine iteTb (decide_eq_true (by omega)) (iteT ?_)
          exact qF (hlt c2)
        refine iteFb (decide_eq_false (by omega)) ?_
        refine ⟨_, rfl, .inl ⟨_, rfl, _, rfl, a, _, (1 : Int), .int (dn : Nat), rfl, rfl, sa, rfl, _, _, rfl, rfl, (show (0 : Int) < (dn : Int) by omega), rfl, _, rfl, ?_⟩⟩
        rw [decV]
        by_cases hm : (L : Int) % (dn : Int) = 0
        · rw [decide_eq_true hm]
          refine iteF ?_
          dsimp only [tNext]
          refine tseq_in ⟨_, rfl, _, rfl, _, rfl, a, _, (1 : Int), .int (dn : Nat), rfl, rfl, sa, rfl, _, _, rfl, rfl, ⟨by omega, by omega⟩, _, rfl, b, L / dn, n, rfl, ⟨hn1, hn5⟩, ?_⟩
          refine ⟨_, _, _, rfl, ?_⟩
          dsimp only
          have hst : b ^ (L / dn) % n < n := Nat.mod_lt _ (by omega)
          refine tseq_in ⟨_, rfl, a, _, (1 : Int), .int (dn : Nat), rfl, rfl, sa, rfl, (dn : Int), rfl, by omega, by omega, ?_⟩
          refine for_range (D := ⟨_, Q, fun _ _ => False, fun _ _ => False⟩) (lo := 0) (n := ((dn : Int) - 0).toNat) (fun i σ H' => H' = H1 ∧ ∃ (tt pw : Nat) (v8 : Option V), i ≤ dn ∧ tt % n = geo (b ^ (L / dn)) i % n ∧ pw % n = (b ^ (L / dn)) ^ i % n ∧ pw ≤ 5000 ∧ tt ≤ 5000 * i ∧ σ = [some (.int b), some (.int n), some (.ref a), some (.int L), some (.int h), some (.int (b ^ (L / dn) % n : Nat)), some (.int tt), some (.int pw), v8]) ⟨rfl, 0, 1, none, Nat.zero_le _, rfl, rfl, by decide, by decide, rfl⟩ ?_ ?_
          · rintro i σ H' hi ⟨rfl, tt, pw, v8, hid, h1, h2, h3, h4, rfl⟩
            have hin : i < dn := by omega
            have hps : pw * (b ^ (L / dn) % n) % n < n := Nat.mod_lt _ (by omega)
            refine gname_in ?_
            dsimp only
            refine ⟨_, rfl, _, rfl, _, _, rfl, rfl, ?_⟩
            refine ⟨_, rfl, _, rfl, _, _, rfl, rfl, .inl ⟨by omega, by omega⟩, .inl ⟨_, rfl, _, rfl, _, (n : Int), rfl, rfl, (show (0 : Int) < (n : Int) by omega), ?_⟩⟩
            refine ⟨_, _, rfl, ?_⟩
            refine ⟨rfl, tt + pw, pw * (b ^ (L / dn) % n) % n, _, hin, ?_, ?_, by omega, by omega, rfl⟩
            · show (tt + pw) % n = (geo (b ^ (L / dn)) i + (b ^ (L / dn)) ^ i) % n
              rw [Nat.add_mod, h1, h2, ← Nat.add_mod]
            · rw [Nat.mod_mod, Nat.mul_mod, h2, Nat.mod_mod, ← Nat.mul_mod, Nat.pow_succ]
          rintro σ H2 ⟨rfl, tt, pw, v8, hid, h1, h2, h3, h4, rfl⟩
          rw [show ((dn : Int) - 0).toNat = dn by omega] at h1 h2 h4
          refine ⟨_, rfl, .inl ⟨_, rfl, _, rfl, _, (n : Int), rfl, rfl, (show (0 : Int) < (n : Int) by omega), rfl, _, rfl, a, _, (2 : Int), .bl x, rfl, rfl, sa, rfl, rfl, ?_⟩⟩
          rw [decB, decV]
          have eb : decide ((tt : Int) % (n : Int) = 0) = bal b n (L / dn) dn := by
            rw [Bool.eq_iff_iff, decide_eq_true_iff, bal_iff, Nat.dvd_iff_mod_eq_zero, ← h1]
            omega
          rw [eb]
          have e : soP b n h L (.ba (dn : Nat) x) = decide (bal b n (L / dn) dn = x) := by
            show (decide (Nat.gcd b n = 1) && (decide ((L : Int) % (dn : Int) = 0) && decide (bal b n (L / dn) dn = x))) = _
            rw [decide_eq_true hg, decide_eq_true hm]
            rfl
          rw [← e]
          exact q _ g1
        · rw [decide_eq_false hm]
          refine iteT ?_
          exact qF hm
      · rw [decide_eq_false hg]
        refine iteT ?_
        have e : soP b n h L (.ba d x) = false := by
          show (decide (Nat.gcd b n = 1) && _) = false
          rw [decide_eq_false hg]
          rfl
        rw [← e]
        exact q H1 g1

end
end Wn
namespace Wn
open PySem PySem.Spec PyProof.Rows L2
local macro_rules | `(tactic| walk_at "vc") => `(tactic| simp only [cxK, cxK2, start1, start2, start3, tRet, tRetN, tSeq, tNext, tIfS, tAsg, gName, tDrop, tVar, tC, tOp, tUn, tTest, tB, tNot, tAnd, tOr, tAndV, tOrV, tNotV, tIf, tCons, tNil, tCB, tCall, tChain, tAug, ipI, rI, rI0, rU, rIs, rGcd, rEq, rNe, scal,
  List.getElem?_cons_zero, List.getElem?_cons_succ, List.set_cons_zero, List.set_cons_succ, Option.some.injEq, List.cons.injEq, V.int.injEq, V.bl.injEq, V.ref.injEq, V.str.injEq, and_true, true_and, exists_eq_left, exists_eq_left', exists_and_left, exists_and_right, List.append_nil, List.nil_append, List.cons_append, exists_eq_right, exists_eq_right', and_assoc, exists_const, V.ty.injEq, ↓reduceIte, Bool.false_eq_true, Bool.not_true, Bool.not_false, decide_eq_true_eq])

section
variable {P : Program} {w : World} {K : PySem.W.Frag} {mg : Str → Option Value} {base : Heap}
def sp_law_fact : Sp := fun vs H Q _ => ∃ (d : Addr) (b n k : Nat), vs = [.ref d, .int b, .int n] ∧ MOk H d k ∧ k ≤ 900000000 ∧ (2 ≤ b ∧ b ≤ 1000) ∧ (1 ≤ n ∧ n ≤ 80) ∧
  ∀ (p : Addr) (f : Fct) H', Gr [d] H H' → MOk H' d (k + 4) → H' p = some (.tup (FV f)) → FOk f → Q (.ref p) H'
theorem pow7 : ∀ q ∈ List.range 81, ∀ r ∈ List.range q, r ^ 80 % q = 0 → r ^ 7 % q = 0 := by decide +kernel
theorem hd_small {b n p q h L : Nat} (hn : 1 ≤ n ∧ n ≤ 80) (P : Par b n p q h L) : h ≤ 7 := by
  have hpp := pure_pos hn.1 P.hp
  have hhL := hL_le hn.1 P
  have hq0 : 1 ≤ q := by
    rcases Nat.eq_zero_or_pos q with z | z
    · have := P.e
      rw [z, Nat.mul_zero] at this
      omega
    · exact z
  have hq : q ≤ 80 := by
    have e := P.e
    have : 1 * q ≤ p * q := Nat.mul_le_mul_right q hpp.1
    omega
  rcases Nat.lt_or_ge 7 h with z | z
  · have h1 := P.hh.2 7 z
    have h2 := P.hh.1
    have h3 : (b % q) ^ 80 % q = 0 := by
      rw [← Nat.pow_mod, show (80 : Nat) = h + (80 - h) by omega, Nat.pow_add, Nat.mul_mod, h2, Nat.zero_mul, Nat.zero_mod]
    have h4 := pow7 q (List.mem_range.mpr (by omega)) (b % q) (List.mem_range.mpr (Nat.mod_lt _ hq0)) h3
    rw [← Nat.pow_mod] at h4
    exact absurd h4 h1
  · exact z
theorem more_of {r : Nat} (hr : r < 4) : ∃ m : Nat, m ≤ 1 ∧ [V.int 0, .int 0, .int 0, .int 1][r]? = some (.int (m : Nat)) := by
  match r, hr with
  | 0, _ => exact ⟨0, by decide, rfl⟩
  | 1, _ => exact ⟨0, by decide, rfl⟩
  | 2, _ => exact ⟨0, by decide, rfl⟩
  | 3, _ => exact ⟨1, by decide, rfl⟩
theorem ba_of {v : V} {L : Nat} (hL : L ≤ 80) (h : v ∈ [V.int 2, .int 3, .int 2, .int (if (L : Int) > 2 then (L : Int) else 2)]) : ∃ d : Nat, v = .int (d : Nat) ∧ 2 ≤ d ∧ d ≤ 80 := by
  simp only [List.mem_cons, List.not_mem_nil, or_false] at h
  rcases h with e | e | e | e
  · exact ⟨2, e, by decide, by decide⟩
  · exact ⟨3, e, by decide, by decide⟩
  · exact ⟨2, e, by decide, by decide⟩
  · by_cases z : (L : Int) > 2
    · rw [if_pos z] at e
      exact ⟨L, e, by omega, hL⟩
    · rw [if_neg z] at e
      exact ⟨2, e, by decide, by decide⟩
theorem po_of {v : V} {Z : Nat} (hZ : 5 ≤ Z) (h : v ∈ [V.int 5, .int 60, .int (Z : Nat)]) (h60 : 60 ≤ Z) : ∃ d : Nat, v = .int (d : Nat) ∧ 1 ≤ d ∧ d ≤ Z := by
  simp only [List.mem_cons, List.not_mem_nil, or_false] at h
  rcases h with e | e | e
  · exact ⟨5, e, by decide, hZ⟩
  · exact ⟨60, e, by decide, h60⟩
  · exact ⟨Z, e, by omega, Nat.le_refl _⟩
theorem MOk.keep {H H' : Hp} {d p : Addr} {n : Nat} {o : HO} (h : MOk H d n) (hp : H p = some o) (ho : ∀ kvs, o ≠ .dK kvs) (g : Gr [d] H H') : H' p = some o := by
  obtain ⟨c, xs, l, sd, s, h1, _⟩ := h
  refine g p _ (fun z => ?_) hp
  rw [List.mem_singleton] at z
  rw [z, h1] at hp
  exact ho _ (Option.some.inj hp).symm
theorem lim30 {n : Nat} (h : n ≤ 1000000000000000000000000000000) : Lim n := by
  unfold Lim
  rw [Int.natAbs_natCast]
  exact PySem.Flt.log2_lt_of (by decide) (Nat.lt_of_le_of_lt h (Nat.lt_of_lt_of_le (show (1000000000000000000000000000000 : Nat) < 2 ^ 100 by decide) (Nat.pow_le_pow_right (by decide) (by decide))))
theorem ten30 : (10 : Int) ^ (30 : Int).toNat = ((1000000000000000000000000000000 : Nat) : Int) := by decide +kernel
theorem ok_law_are_so (T : Txt K mg) : FnOk P w K mg base CX0 5 T.d_law_are_so.f T.d_law_are_so.fd ["b", "n", "facts_so"] (sp_law_are_so K) := by
  refine T.d_law_are_so.F.ok sc_law_are_so (fun vs H Q E h => ?_) (fun cdv A outer s H vs Q E hr h => ?_)
  · obtain ⟨b, n, a, fs, rfl, _⟩ := h; rfl
  · have hu := hu_of hr
    refine ⟨_, (pss_cons (ps_for PassesOwn.never rfl (pi_tup (pv 2)) (pg_name (i := 3) sc_law_are_so.nd rfl (by first | exact .inl rfl | exact .inr rfl)) (pss_one (ps_if (pt_not (pt_val (pe_call (ok_law_is_so T) (hr.mono (by decide)) (by rfl) T.d_law_is_so.m T.d_law_is_so.F.kp T.d_law_is_so.b .nil pass0 (pa_cons (pv 0) (pa_cons (pv 1) (pa_cons (pv 3) pa_nil)))))) (pss_one (ps_ret pe_bl)) pss_nil)))
      (pss_one (ps_ret pe_bl))), ?_⟩
    obtain ⟨b, n, a, fs, rfl, hF, ⟨hb5, hn1, hn5⟩, q⟩ := h
    obtain ⟨⟨ps, h1, hP⟩, ⟨hl1, hl2⟩, hok⟩ := id hF
    have hlen := hP.len
    refine ⟨_, rfl, a, rfl, ⟨_, h1⟩, ?_⟩
    refine for_tup (K := K) (a := a) (xs := ps.map V.ref) (fun i σ H' => Gr [] H H' ∧ (∀ f ∈ fs.take i, so b n f = true) ∧ ∃ v, σ = [some (.int b), some (.int n), some (.ref a), v]) ⟨Gr.refl _ _, fun f hf => by simp at hf, none, rfl⟩ (fun i σ H' _ z => (Kp.of z.1).sqT h1) ?_ ?_
    · rintro i x σ H' hx ⟨G, kk, v, rfl⟩
      obtain ⟨u, hi, rfl, hu⟩ := hP.at_ hx
      have hm := List.getElem_mem hi
      refine ⟨_, rfl, _, rfl, _, rfl, b, n, u, _, rfl, (Kp.of G).sqT hu, hok _ hm, ⟨hb5, hn1, hn5⟩, fun H2 g2 => ⟨_, rfl, ?_⟩⟩
      cases e : so b n fs[i] with
      | true =>
        refine iteF ⟨G.trans g2, fun f hf => ?_, _, rfl⟩
        rw [List.take_succ_eq_append_getElem hi, List.mem_append, List.mem_singleton] at hf
        rcases hf with hf | hf
        · exact kk f hf
        · rw [hf]; exact e
      | false =>
        refine iteT ?_
        have e3 : soA b n fs = false := by
          unfold soA
          rw [List.all_eq_false]
          exact ⟨_, hm, by rw [e]; exact Bool.false_ne_true⟩
        rw [← e3]
        exact q H2 (G.trans g2)
    rintro σ H2 ⟨g2, kk, v, rfl⟩
    have e3 : soA b n fs = true := by
      unfold soA
      rw [List.all_eq_true]
      intro f hf
      refine kk f ?_
      rw [List.length_map, hlen, List.take_of_length_le (Nat.le_refl _)]
      exact hf
    rw [← e3]
    exact q H2 g2
theorem ok_law_fact (T : Txt K mg) : FnOk P w K mg base CX0 4 T.d_law_fact.f T.d_law_fact.fd ["m", "b", "n"] sp_law_fact := by
  refine T.d_law_fact.F.ok sc_law_fact (fun vs H Q E h => ?_) (fun cdv A outer s H vs Q E hr h => ?_)
  · obtain ⟨d, b, n, k, rfl, _⟩ := h; rfl
  · have hu := hu_of hr
    refine ⟨_, (pss_cons (ps_asg (pe_call (ok_law_period T) (hr.mono (by decide)) (by rfl) T.d_law_period.m T.d_law_period.F.kp T.d_law_period.b .nil pass0 (pa_cons (pv 1) (pa_cons (pv 2) pa_nil))) (pg_tup (by rfl) (pgs_cons (pg_name (i := 3) sc_law_fact.nd rfl (by first | exact .inl rfl | exact .inr rfl)) (pgs_cons (pg_name (i := 4) sc_law_fact.nd rfl (by first | exact .inl rfl | exact .inr rfl)) pgs_nil))))
      (pss_cons (ps_par (i := 5) (j := 6) (by rfl) sc_law_fact.nd rfl rfl (by decide) rfl rfl (pa_cons (pe_ix (r := rIxL K) ix_list (pe_lst (pa_cons pe_int (pa_cons pe_int (pa_cons pe_int (pa_cons pe_int pa_nil))))) (pe_call (ok_law_draw T) (hr.mono (by decide)) (by rfl) T.d_law_draw.m T.d_law_draw.F.kp T.d_law_draw.b .nil pass0 (pa_cons (pv 0) (pa_cons pe_int pa_nil))) (fun _ _ => rfl)) (pa_cons (pe_call (ok_law_draw T) (hr.mono (by decide)) (by rfl) T.d_law_draw.m T.d_law_draw.F.kp T.d_law_draw.b .nil pass0 (pa_cons (pv 0) (pa_cons pe_int pa_nil))) pa_nil)) (by rfl))
      (pss_cons (ps_if (pt_cmpR op_eq (pv 6) pe_int (nomark _)) (pss_one (ps_ret (pe_tup (pa_cons pe_str (pa_cons (pe_op op_add (pv 3) (pv 5)) pa_nil))))) pss_nil)
      (pss_cons (ps_if (pt_cmpR op_eq (pv 6) pe_int (nomark _)) (pss_one (ps_ret (pe_tup (pa_cons pe_str (pa_cons (pe_op op_add (pv 4) (pv 5)) pa_nil))))) pss_nil)
      (pss_cons (ps_if (pt_cmpR op_eq (pv 6) pe_int (nomark _)) (pss_one (ps_ret (pe_tup (pa_cons pe_str (pa_cons (pe_op op_add (pe_callB (call_max2 rfl) (by rfl) T.b_max (by decide +kernel) (pa_cons pe_int (pa_cons (pe_op op_fdiv (pe_callB (r := rLn K) call_ln (by rfl) T.b_len PySem.boot_len (pa_cons (pe_call (ok_law_units T) (hr.mono (by decide)) (by rfl) T.d_law_units.m T.d_law_units.F.kp T.d_law_units.b .nil pass0 (pa_cons (pv 2) pa_nil)) pa_nil)) (pv 3)) pa_nil))) (pv 5)) pa_nil))))) pss_nil)
      (pss_cons (ps_if (pt_cmpR op_eq (pv 6) pe_int (nomark _)) (pss_one (ps_ret (pe_tup (pa_cons pe_str (pa_cons (pe_call (ok_law_of T) (hr.mono (by decide)) (by rfl) T.d_law_of.m T.d_law_of.F.kp T.d_law_of.b .nil pass0 (pa_cons (pv 0) (pa_cons (pe_lst (pa_cons pe_int (pa_cons pe_int (pa_cons pe_int (pa_cons (pe_callB (call_max2 rfl) (by rfl) T.b_max (by decide +kernel) (pa_cons pe_int (pa_cons (pv 3) pa_nil))) pa_nil))))) pa_nil))) (pa_cons (pe_cmpR op_gt (pe_call (ok_law_draw T) (hr.mono (by decide)) (by rfl) T.d_law_draw.m T.d_law_draw.F.kp T.d_law_draw.b .nil pass0 (pa_cons (pv 0) (pa_cons pe_int pa_nil))) pe_int (nomark _)) pa_nil)))))) pss_nil)
      (pss_cons (ps_set (i := 7) sc_law_fact.nd rfl (by first | exact .inl rfl | exact .inr rfl) (pe_call (ok_law_draw T) (hr.mono (by decide)) (by rfl) T.d_law_draw.m T.d_law_draw.F.kp T.d_law_draw.b .nil pass0 (pa_cons (pv 0) (pa_cons (pe_call (ok_law_of T) (hr.mono (by decide)) (by rfl) T.d_law_of.m T.d_law_of.F.kp T.d_law_of.b .nil pass0 (pa_cons (pv 0) (pa_cons (pe_lst (pa_cons pe_int (pa_cons pe_int (pa_cons (pe_op op_pow pe_int pe_int) pa_nil)))) pa_nil))) pa_nil))))
      (pss_one (ps_ret (pe_tup (pa_cons pe_str (pa_cons (pv 7) (pa_cons (pe_op op_add (pe_call (ok_law_raised T) (hr.mono (by decide)) (by rfl) T.d_law_raised.m T.d_law_raised.F.kp T.d_law_raised.b .nil pass0 (pa_cons (pv 1) (pa_cons (pv 7) (pa_cons (pv 2) pa_nil)))) (pv 5)) pa_nil))))))))))))), ?_⟩
    obtain ⟨d, b, n, k, rfl, M, hk, ⟨hb1, hb2⟩, ⟨hn1, hn2⟩, q⟩ := h
    refine tseq_in ⟨_, rfl, _, rfl, b, n, rfl, ⟨by omega, hn1, by omega⟩, fun t H1 p q1 h L P g1 ht => ?_⟩
    have hpp := pure_pos hn1 P.hp
    have hLn : L ≤ n := Nat.le_trans (per_le hpp.1 P.hp.1 P.hL) hpp.2
    have hL1 := P.hL.1
    refine ⟨t, _, rfl, sq_tup ht, rfl, _, _, rfl, _, _, rfl, rfl, ?_⟩
    dsimp only
    have M1 := M.gr g1
    clear ht
    refine tseq_in ⟨by show 4 ≤ sizeLine; decide, fun l nl => ⟨_, rfl, d, 4, k, rfl, M1.gr (Gr.new nl), ⟨by decide, lim_le (by decide), by omega⟩, fun r H2 hr g2 M2 => ?_⟩⟩
    obtain ⟨m, hm, em⟩ := more_of hr
    have hl2 := (M1.gr (Gr.new nl)).keep (upd_same : (upd H1 l (.lst [.int 0, .int 0, .int 0, .int 1])) l = some (.lst [.int 0, .int 0, .int 0, .int 1])) (fun kvs z => by cases z) g2
    refine ⟨l, _, (r : Int), .int (m : Nat), rfl, rfl, sq_lst hl2, atI_nat em, ?_⟩
    refine ⟨_, rfl, d, 5, k + 1, rfl, M2, ⟨by decide, lim_le (by decide), by omega⟩, fun r2 H3 hr2 g3 M3 => ⟨_, _, rfl, ?_⟩⟩
    dsimp only
    have gA : Gr [d] H H3 := ((gr0 g1).trans (Gr.new nl)).trans (g2.trans g3)
    have hh7 := hd_small ⟨hn1, hn2⟩ P
    clear g1 g2 g3 hl2 em M1 M2 M
    refine tseq_in (tifs_in ⟨_, rfl, rfl, _, rfl, ?_⟩)
    rw [decV]
    by_cases c0 : r2 = 0
    · refine iteTb (decide_eq_true (by omega)) ?_
      refine ⟨_, rfl, _, rfl, _, _, rfl, rfl, by show 2 ≤ sizeLine; decide, fun pp npp => ?_⟩
      exact q pp (.per ((L : Int) + (m : Int))) _ (gA.trans (Gr.new npp)) ((M3.gr (Gr.new npp)).mono (by omega)) upd_same ⟨by omega, by omega⟩
    refine iteFb (decide_eq_false (by omega)) ?_
    dsimp only [tNext]
    refine tseq_in (tifs_in ⟨_, rfl, rfl, _, rfl, ?_⟩)
    rw [decV]
    by_cases c1 : r2 = 1
    · refine iteTb (decide_eq_true (by omega)) ?_
      refine ⟨_, rfl, _, rfl, _, _, rfl, rfl, by show 2 ≤ sizeLine; decide, fun pp npp => ?_⟩
      exact q pp (.hd ((h : Int) + (m : Int))) _ (gA.trans (Gr.new npp)) ((M3.gr (Gr.new npp)).mono (by omega)) upd_same ⟨by omega, by omega⟩
    refine iteFb (decide_eq_false (by omega)) ?_
    dsimp only [tNext]
    refine tseq_in (tifs_in ⟨_, rfl, rfl, _, rfl, ?_⟩)
    rw [decV]
    by_cases c2 : r2 = 2
    · refine iteTb (decide_eq_true (by omega)) ?_
      refine ⟨_, rfl, n, rfl, by omega, fun l2 H4 g4 hl2 => ?_⟩
      have hcl : (copL n).length ≤ n := cop_len n
      refine ⟨l2, _, rfl, .inl (sq_lst hl2), _, rfl, _, _, rfl, rfl, ⟨by omega, by omega⟩, _, _, rfl, _, rfl, _, _, rfl, rfl, by show 2 ≤ sizeLine; decide, fun pp npp => ?_⟩
      refine q pp (.wh ((if ((vn (copL n)).length : Int) / (L : Int) > 1 then ((vn (copL n)).length : Int) / (L : Int) else 1) + (m : Int))) _ (gA.trans (gr0 (g4.trans (Gr.new npp)))) (((M3.gr g4).gr (Gr.new npp)).mono (by omega)) upd_same ?_
      have hdiv : ((vn (copL n)).length : Int) / (L : Int) ≤ 80 := by
        rw [vn_len]
        exact Int.le_trans (Int.ediv_le_self _ (by omega)) (by omega)
      show 1 ≤ _ ∧ _ ≤ 5000
      split <;> omega
    refine iteFb (decide_eq_false (by omega)) ?_
    dsimp only [tNext]
    refine tseq_in (tifs_in ⟨_, rfl, rfl, _, rfl, ?_⟩)
    rw [decV]
    by_cases c3 : r2 = 3
    · refine iteTb (decide_eq_true (by omega)) ?_
      refine ⟨_, rfl, _, rfl, _, _, rfl, by show 4 ≤ sizeLine; decide, fun l4 nl4 => ⟨d, l4, k + 2, _, rfl, M3.gr (Gr.new nl4), upd_same, ⟨by simp, by show 4 ≤ 100000; decide, by omega⟩, fun v H4 hv g4 M4 => ?_⟩⟩
      obtain ⟨dd, rfl, hd1, hd2⟩ := ba_of (by omega) hv
      refine ⟨_, rfl, d, 4, k + 3, rfl, M4, ⟨by decide, lim_le (by decide), by omega⟩, fun r3 H5 hr3 g5 M5 => ⟨_, _, rfl, rfl, by show 3 ≤ sizeLine; decide, fun pp npp => ?_⟩⟩
      exact q pp (.ba (dd : Nat) (decide ((0 : Int) < (r3 : Int)))) _ ((gA.trans (Gr.new nl4)).trans (g4.trans (g5.trans (Gr.new npp)))) ((M5.gr (Gr.new npp)).mono (by omega)) upd_same ⟨by omega, by omega⟩
    refine iteFb (decide_eq_false (by omega)) ?_
    dsimp only [tNext]
    refine tseq_in (tasg_in ⟨_, rfl, _, rfl, _, _, rfl, rfl, ⟨by decide, by decide, by decide⟩, by show 3 ≤ sizeLine; decide, fun l5 nl5 => ⟨d, l5, k + 2, _, rfl, M3.gr (Gr.new nl5), upd_same, ⟨by simp, by show 3 ≤ 100000; decide, by omega⟩, fun v H4 hv g4 M4 => ?_⟩⟩)
    have hv2 : v ∈ [V.int 5, .int 60, .int ((1000000000000000000000000000000 : Nat) : Int)] := by
      rw [← ten30]
      exact hv
    obtain ⟨lim, rfl, hl1, hl2⟩ := po_of (by decide) hv2 (by decide)
    refine ⟨d, lim, k + 3, rfl, M4, ⟨by omega, lim30 hl2, by omega⟩, fun r3 H5 hr3 g5 M5 => ?_⟩
    refine gname_in ?_
    dsimp only
    have hmod := Nat.mod_lt (b ^ r3) (show 0 < n by omega)
    refine ⟨_, rfl, _, rfl, _, rfl, _, rfl, b, r3, n, rfl, ⟨hn1, by omega⟩, _, rfl, _, _, rfl, rfl, by show 3 ≤ sizeLine; decide, fun pp npp => ?_⟩
    exact q pp (.po (r3 : Nat) (((b ^ r3 % n : Nat) : Int) + (m : Int))) _ ((gA.trans (Gr.new nl5)).trans (g4.trans (g5.trans (Gr.new npp)))) ((M5.gr (Gr.new npp)).mono (by omega)) upd_same ⟨⟨by omega, by omega⟩, by omega, by omega⟩

end
end Wn
namespace Wn
open PySem PySem.Spec PyProof.Rows L2
local macro_rules | `(tactic| walk_at "vc") => `(tactic| simp only [cxK, cxK2, start1, start2, start3, tRet, tRetN, tSeq, tNext, tIfS, tAsg, gName, tDrop, tVar, tC, tOp, tUn, tTest, tB, tNot, tAnd, tOr, tAndV, tOrV, tNotV, tIf, tCons, tNil, tCB, tCall, tChain, tAug, ipI, rI, rI0, rU, rIs, rGcd, rEq, rNe, scal,
  List.getElem?_cons_zero, List.getElem?_cons_succ, List.set_cons_zero, List.set_cons_succ, Option.some.injEq, List.cons.injEq, V.int.injEq, V.bl.injEq, V.ref.injEq, V.str.injEq, and_true, true_and, exists_eq_left, exists_eq_left', exists_and_left, exists_and_right, List.append_nil, List.nil_append, List.cons_append, exists_eq_right, exists_eq_right', and_assoc, exists_const, V.ty.injEq, ↓reduceIte, Bool.false_eq_true, Bool.not_true, Bool.not_false, decide_eq_true_eq])

section
variable {P : Program} {w : World} {K : PySem.W.Frag} {mg : Str → Option Value} {base : Heap}
def parB (b n p q h L : Nat) : Bool := decide (n = p * q) && Nat.gcd b p == 1 && b ^ 20 % q == 0 && b ^ h % q == 0 && ((List.range h).all fun j => b ^ j % q != 0) && decide (1 ≤ L) && b ^ L % p == 1 % p && ((List.range L).all fun j => j == 0 || b ^ j % p != 1 % p)
theorem par_of {b n p q h L : Nat} (z : parB b n p q h L = true) : Par b n p q h L := by
  unfold parB at z
  simp only [Bool.and_eq_true, decide_eq_true_eq, beq_iff_eq] at z
  obtain ⟨⟨⟨⟨⟨⟨⟨h1, h2⟩, h3⟩, h4⟩, h5⟩, h6⟩, h7⟩, h8⟩ := z
  refine ⟨⟨h2, q, 20, h1, Nat.dvd_of_mod_eq_zero h3⟩, h1, ⟨h4, fun j hj => ?_⟩, ⟨h6, h7, fun j hj1 hj2 => ?_⟩⟩
  · have := List.all_eq_true.mp h5 j (List.mem_range.mpr hj)
    simpa using this
  · have := List.all_eq_true.mp h8 j (List.mem_range.mpr hj2)
    simp only [Bool.or_eq_true, beq_iff_eq, bne_iff_ne] at this
    exact this.resolve_left (by omega)
/-! by hand: what is so of small numbers -/
def qC (b n : Nat) : Nat := Nat.gcd (b ^ 13) n
def pC (b n : Nat) : Nat := n / qC b n
def hC (b n : Nat) : Nat := ((List.range 14).find? fun j => b ^ j % qC b n == 0).getD 0
def LC (b n : Nat) : Nat := ordN (pC b n) b
def parOk (b n : Nat) : Bool := parB b n (pC b n) (qC b n) (hC b n) (LC b n)
def soC (b n : Nat) (f : Fct) : Bool := soP b n (hC b n) (LC b n) f
theorem so_C {b n : Nat} (hn : 1 ≤ n) (h : parOk b n = true) (f : Fct) : so b n f = soC b n f := so_eq hn (par_of h) f
theorem soA_C {b n : Nat} (hn : 1 ≤ n) (h : parOk b n = true) (fs : List Fct) : soA b n fs = fs.all (soC b n) := by
  unfold soA
  have e : (fun f => so b n f) = soC b n := funext fun f => so_C hn h f
  rw [e]
theorem fil_congr {xs : List Nat} {p q : Nat → Bool} (h : ∀ x ∈ xs, p x = q x) : xs.filter p = xs.filter q := List.filter_congr h
theorem db_C {b m : Nat} {fs : List Fct} {g : Nat → Bool} (h : ∀ n ∈ (List.range m).map (1 + ·), soA b n fs = g n) : dbF b fs m = ((List.range m).map (1 + ·)).filter g := fil_congr h
theorem bb_C {n m : Nat} {fs : List Fct} {g : Nat → Bool} (h : ∀ b ∈ (List.range m).map (2 + ·), soA b n fs = g b) : bbF n fs m = ((List.range m).map (2 + ·)).filter g := fil_congr h
theorem mem1 {n m : Nat} (h : n ∈ (List.range m).map (1 + ·)) : 1 ≤ n ∧ n ≤ m := by
  obtain ⟨j, hj, rfl⟩ := List.mem_map.mp h
  have := List.mem_range.mp hj
  omega
/-- all up to a bound, computed -/
theorem db_of {b m : Nat} {fs : List Fct} {due : List Nat} (h : ((List.range m).map (1 + ·)).all (fun n => parOk b n) = true) (e : ((List.range m).map (1 + ·)).filter (fun n => fs.all (soC b n)) = due) : dbF b fs m = due := by
  rw [← e]
  exact db_C fun n hn => soA_C (mem1 hn).1 (List.all_eq_true.mp h n hn) fs
theorem bb_of {n m : Nat} {fs : List Fct} {due : List Nat} (hn : 1 ≤ n) (h : ((List.range m).map (2 + ·)).all (fun b => parOk b n) = true) (e : ((List.range m).map (2 + ·)).filter (fun b => fs.all (soC b n)) = due) : bbF n fs m = due := by
  rw [← e]
  exact bb_C fun b hb => soA_C hn (List.all_eq_true.mp h b hb) fs
theorem ok100 : ((List.range 100).map (1 + ·)).all (fun n => parOk 10 n) = true := by decide +kernel
theorem ok_le {m : Nat} (h : m ≤ 100) : ((List.range m).map (1 + ·)).all (fun n => parOk 10 n) = true := by
  rw [List.all_eq_true]
  intro n hn
  obtain ⟨h1, h2⟩ := mem1 hn
  exact List.all_eq_true.mp ok100 n (List.mem_map.mpr ⟨n - 1, List.mem_range.mpr (by omega), by omega⟩)
theorem db100 {m : Nat} {fs : List Fct} {due : List Nat} (h : m ≤ 100) (e : ((List.range m).map (1 + ·)).filter (fun n => fs.all (soC 10 n)) = due) : dbF 10 fs m = due := db_of (ok_le h) e
theorem row1 : dbF 10 [.per 6] 100 = [7, 13, 14, 21, 26, 28, 35, 39, 42, 52, 56, 63, 65, 70, 77, 78, 84, 91] := db100 (by decide) (by decide +kernel)
theorem row2 : dbF 10 [.per 6, .wh 2] 100 = [13, 21] := db100 (by decide) (by decide +kernel)
theorem row3 : dbF 10 [.hd 3] 50 = [8, 24, 40] := db100 (by decide) (by decide +kernel)
theorem row4 : dbF 10 [.wh 1] 20 = [1, 7, 17, 19] := db100 (by decide) (by decide +kernel)
theorem row5 : dbF 10 [.ba 2 true, .per 6] 100 = [7, 13, 77, 91] := db100 (by decide) (by decide +kernel)
theorem row8 : dbF 10 [.po 2 4] 100 = [6, 8, 12, 16, 24, 32, 48, 96] := db100 (by decide) (by decide +kernel)
theorem row9 : dbF 10 [.ba 3 false] 60 = [27] := db100 (by decide) (by decide +kernel)
theorem row7 : dbF 10 [.po 3 1000] 1000 = [] := (db_C (g := fun n => decide (((10 ^ 3 % n : Nat) : Int) = 1000)) (fun n _ => by
  show (so 10 n (.po 3 1000) && true) = _
  rw [Bool.and_true]
  rfl)).trans (by decide +kernel)
theorem one_head {n : Nat} (hn : 1 ≤ n) : soA 10 n [.per 1, .hd 0] = decide (10 % n = 1 % n) := by
  obtain ⟨p, q, h, L, P⟩ := par_exists (b := 10) (n := n) hn
  show (so 10 n (.per 1) && (so 10 n (.hd 0) && true)) = _
  rw [so_eq hn P, so_eq hn P, Bool.and_true]
  show (decide ((L : Int) = 1) && decide ((h : Int) = 0)) = _
  have hpp := pure_pos hn P.hp
  by_cases c : 10 % n = 1 % n
  · rw [decide_eq_true c]
    have hg : Nat.gcd 10 n = 1 := by
      have e : Nat.gcd 10 n = Nat.gcd (10 % n) n := by rw [Nat.gcd_comm, Nat.gcd_rec]
      rw [e, c, ← Nat.gcd_rec, Nat.gcd_comm]
      exact Nat.gcd_one_left n
    have ep : p = n := P.hp.uniq (IsPure.self hg)
    have eq : q = 1 := by
      have := P.e
      rw [ep] at this
      exact Nat.eq_of_mul_eq_mul_left (show 0 < n by omega) (by rw [Nat.mul_one]; exact this.symm)
    have eh : h = 0 := P.hh.uniq ⟨by rw [eq, Nat.mod_one], fun j hj => absurd hj (Nat.not_lt_zero _)⟩
    have eL : L = 1 := by
      refine P.hL.uniq ⟨by decide, ?_, fun j h1 h2 => by omega⟩
      rw [ep, Nat.pow_one]
      exact c
    rw [eh, eL]
    rfl
  · rw [decide_eq_false c]
    by_cases c1 : L = 1
    · by_cases c2 : h = 0
      · exfalso
        have h1 := P.hh.1
        rw [c2, Nat.pow_zero] at h1
        have eq : q = 1 := by
          rcases Nat.lt_or_ge q 2 with z | z
          · rcases Nat.eq_zero_or_pos q with y | y
            · have := P.e
              rw [y, Nat.mul_zero] at this
              omega
            · omega
          · rw [Nat.mod_eq_of_lt (by omega)] at h1
            omega
        have ep : n = p := by have := P.e; rw [eq, Nat.mul_one] at this; exact this
        have h2 := P.hL.2.1
        rw [c1, Nat.pow_one, ← ep] at h2
        exact c h2
      · rw [decide_eq_false (show ¬ (h : Int) = 0 by omega), Bool.and_false]
    · rw [decide_eq_false (show ¬ (L : Int) = 1 by omega)]
      rfl
theorem row6 : dbF 10 [.per 1, .hd 0] 1000 = [1, 3, 9] := (db_C (g := fun n => decide (10 % n = 1 % n)) (fun n hn => one_head (mem1 hn).1)).trans (by decide +kernel)
theorem bas1 : bbF 7 [.per 6] 19 = [3, 5, 10, 12, 17, 19] := bb_of (by decide) (by decide +kernel) (by decide +kernel)
theorem bas2 : bbF 7 [.hd 1] 29 = [7, 14, 21, 28] := bb_of (by decide) (by decide +kernel) (by decide +kernel)
theorem bas3 : bbF 1 [.wh 1, .per 1] 4 = [2, 3, 4, 5] := bb_of (by decide) (by decide +kernel) (by decide +kernel)
theorem bas4 : bbF 4999 [.po 1 1000] 999 = [1000] := (bb_C (g := fun b => decide (((b ^ 1 % 4999 : Nat) : Int) = 1000)) (fun b _ => by
  show (so b 4999 (.po 1 1000) && true) = _
  rw [Bool.and_true]
  rfl)).trans (by decide +kernel)
/-- one fact, two facts in a new tuple -/
theorem FQ.mk1 {H : Hp} {t p : Addr} {f : Fct} (nt : H t = none) (hp : SqT K H p (FV f)) (hf : FOk f) : FQ K (upd H t (.tup [.ref p])) t [f] :=
  ⟨⟨[p], sq_tup upd_same, .cons ((Kp.of (Gr.new nt)).sqT hp) .nil⟩, ⟨by show 1 ≤ 1; decide, by show 1 ≤ 10; decide⟩, fun x hx => by rw [List.mem_singleton.mp hx]; exact hf⟩
theorem FQ.mk2 {H : Hp} {t p q : Addr} {f g : Fct} (nt : H t = none) (hp : SqT K H p (FV f)) (hq : SqT K H q (FV g)) (hf : FOk f) (hg : FOk g) : FQ K (upd H t (.tup [.ref p, .ref q])) t [f, g] :=
  ⟨⟨[p, q], sq_tup upd_same, .cons ((Kp.of (Gr.new nt)).sqT hp) (.cons ((Kp.of (Gr.new nt)).sqT hq) .nil)⟩, ⟨by show 1 ≤ 2; decide, by show 2 ≤ 10; decide⟩, fun x hx => by
    simp only [List.mem_cons, List.not_mem_nil, or_false] at hx
    rcases hx with rfl | rfl
    · exact hf
    · exact hg⟩
theorem dpF {H : Hp} {v : V} {f : Fct} (h : Dp K H v (FD f)) : ∃ p, v = .ref p ∧ SqT K H p (FV f) := by
  have two : ∀ {z : Str} {k : Int} {v : V}, Dp K H v (.tuple [.str z, .int k]) → ∃ p, v = .ref p ∧ SqT K H p [.str z, .int k] := fun {z k v} h => by
    cases h with
    | tup s a =>
      cases a with
      | cons a1 a2 =>
        cases a2 with
        | cons a3 a4 =>
          cases a1
          cases a3
          cases a4
          exact ⟨_, rfl, s⟩
  cases f with
  | per k => exact two h
  | hd k => exact two h
  | wh k => exact two h
  | ba d x =>
    have h : Dp K H v (.tuple [.str "balanced", .int d, .bool x]) := h
    cases h with
    | tup s a =>
      cases a with
      | cons a1 a2 =>
        cases a2 with
        | cons a3 a4 =>
          cases a4 with
          | cons a5 a6 =>
            cases a1
            cases a3
            cases a5
            cases a6
            exact ⟨_, rfl, s⟩
  | po k r =>
    have h : Dp K H v (.tuple [.str "power", .int k, .int r]) := h
    cases h with
    | tup s a =>
      cases a with
      | cons a1 a2 =>
        cases a2 with
        | cons a3 a4 =>
          cases a4 with
          | cons a5 a6 =>
            cases a1
            cases a3
            cases a5
            cases a6
            exact ⟨_, rfl, s⟩
theorem dpFs {H : Hp} : ∀ {vs : List V} {fs : List Fct}, DpAll K H vs (fs.map FD) → ∃ ps, vs = ps.map V.ref ∧ Fcs K H ps fs
  | _, [], h => by
    have h : DpAll K H _ [] := h
    cases h
    exact ⟨[], rfl, .nil⟩
  | _, f :: fs, h => by
    have h : DpAll K H _ (FD f :: fs.map FD) := h
    cases h with
    | cons a b =>
      obtain ⟨p, rfl, s⟩ := dpF a
      obtain ⟨ps, rfl, c⟩ := dpFs b
      exact ⟨p :: ps, rfl, .cons s c⟩
theorem FQ.of {H : Hp} {v : V} {fs : List Fct} (h : Dp K H v (.tuple (fs.map FD))) (hl : 1 ≤ fs.length ∧ fs.length ≤ 10) (hf : ∀ f ∈ fs, FOk f) : ∃ a, v = .ref a ∧ FQ K H a fs := by
  cases h with
  | tup s a =>
    obtain ⟨ps, rfl, c⟩ := dpFs a
    exact ⟨_, rfl, ⟨ps, s, c⟩, hl, hf⟩
/-- the rows -/
structure RowH where
  fs : List Fct
  w : Nat
  due : List Nat
def rowD (r : RowH) : PyData := .tuple [.tuple (r.fs.map FD), .int (r.w : Nat), di r.due]
structure RowOk (r : RowH) : Prop where
  e : dbF 10 r.fs r.w = r.due
  l : 1 ≤ r.fs.length ∧ r.fs.length ≤ 10
  f : ∀ f ∈ r.fs, FOk f
  w : 1 ≤ r.w ∧ r.w ≤ 1000
  h : WhOk r.fs r.w
  d : ∀ k ∈ r.due, k < 8192
  n : r.due.length ≤ 100
def rowsH : List RowH := [⟨[.per 6], 100, [7, 13, 14, 21, 26, 28, 35, 39, 42, 52, 56, 63, 65, 70, 77, 78, 84, 91]⟩, ⟨[.per 6, .wh 2], 100, [13, 21]⟩, ⟨[.hd 3], 50, [8, 24, 40]⟩, ⟨[.wh 1], 20, [1, 7, 17, 19]⟩, ⟨[.ba 2 true, .per 6], 100, [7, 13, 77, 91]⟩,
  ⟨[.per 1, .hd 0], 1000, [1, 3, 9]⟩, ⟨[.po 3 1000], 1000, []⟩, ⟨[.po 2 4], 100, [6, 8, 12, 16, 24, 32, 48, 96]⟩, ⟨[.ba 3 false], 60, [27]⟩]
theorem wh_le {fs : List Fct} {n : Nat} (h : n ≤ 100) : WhOk fs n := fun _ => h
theorem wh_no {fs : List Fct} {n : Nat} (h : fs.all (fun f => !isWh f) = true) : WhOk fs n := fun ⟨f, hf, z⟩ => by
  have := List.all_eq_true.mp h f hf
  rw [z] at this
  cases this
theorem f1 {f : Fct} (h : FOk f) : ∀ x ∈ [f], FOk x := fun x hx => by rw [List.mem_singleton.mp hx]; exact h
theorem f2 {f g : Fct} (h : FOk f) (h2 : FOk g) : ∀ x ∈ [f, g], FOk x := fun x hx => by
  simp only [List.mem_cons, List.not_mem_nil, or_false] at hx
  rcases hx with rfl | rfl
  · exact h
  · exact h2
theorem rows_ok : ∀ r ∈ rowsH, RowOk r := fun r hr => by
  simp only [rowsH, List.mem_cons, List.not_mem_nil, or_false] at hr
  have c : ∀ {a b : Int}, a ≤ b → a ≤ b := fun h => h
  rcases hr with rfl | rfl | rfl | rfl | rfl | rfl | rfl | rfl | rfl
  · exact ⟨row1, by decide, f1 ⟨by decide, by decide⟩, by decide, wh_le (by decide), by decide, by decide⟩
  · exact ⟨row2, by decide, f2 ⟨by decide, by decide⟩ ⟨by decide, by decide⟩, by decide, wh_le (by decide), by decide, by decide⟩
  · exact ⟨row3, by decide, f1 ⟨by decide, by decide⟩, by decide, wh_le (by decide), by decide, by decide⟩
  · exact ⟨row4, by decide, f1 ⟨by decide, by decide⟩, by decide, wh_le (by decide), by decide, by decide⟩
  · exact ⟨row5, by decide, f2 ⟨by decide, by decide⟩ ⟨by decide, by decide⟩, by decide, wh_le (by decide), by decide, by decide⟩
  · exact ⟨row6, by decide, f2 ⟨by decide, by decide⟩ ⟨by decide, by decide⟩, by decide, wh_no rfl, by decide, by decide⟩
  · exact ⟨row7, by decide, f1 ⟨⟨by decide, by decide⟩, by decide, by decide⟩, by decide, wh_no rfl, by decide, by decide⟩
  · exact ⟨row8, by decide, f1 ⟨⟨by decide, by decide⟩, by decide, by decide⟩, by decide, wh_le (by decide), by decide, by decide⟩
  · exact ⟨row9, by decide, f1 ⟨by decide, by decide⟩, by decide, wh_le (by decide), by decide, by decide⟩
/-- a power far out -/
theorem far7 {k : Nat} (h : k % 6 = 4) : 10 ^ k % 7 = 4 := by
  have e : k = 6 * (k / 6) + 4 := by omega
  rw [e, Nat.pow_add, Nat.pow_mul, Nat.mul_mod, Nat.pow_mod]
  have : (10 ^ 6 % 7) ^ (k / 6) % 7 = 1 := by
    show 1 ^ (k / 6) % 7 = 1
    rw [Nat.one_pow]
  rw [this]
theorem so_far {k : Nat} (h : k % 6 = 4) : soA 10 7 [.po (k : Nat) 4] = true := by
  show (so 10 7 (.po (k : Nat) 4) && true) = true
  rw [Bool.and_true]
  show decide (((10 ^ ((k : Nat) : Int).toNat % 7 : Nat) : Int) = 4) = true
  rw [Int.toNat_natCast, far7 h]
  rfl
theorem so_4999 : soA 10 4999 [.hd 0, .po 0 1] = true := by
  obtain ⟨p, q, h, L, P⟩ := par_exists (b := 10) (n := 4999) (by decide)
  show (so 10 4999 (.hd 0) && (so 10 4999 (.po 0 1) && true)) = true
  rw [so_eq (by decide) P, so_eq (by decide) P]
  have ep : p = 4999 := P.hp.uniq (IsPure.self (by decide))
  have eq : q = 1 := by
    have := P.e
    rw [ep] at this
    omega
  have eh : h = 0 := P.hh.uniq ⟨by rw [eq, Nat.mod_one], fun j hj => absurd hj (Nat.not_lt_zero _)⟩
  rw [eh]
  show (decide (((0 : Nat) : Int) = 0) && (decide (((10 ^ (0 : Int).toNat % 4999 : Nat) : Int) = 1) && true)) = true
  decide +kernel
theorem so_1 : soA 10 1 [.ba 2 false] = false := (soA_C (by decide) (by decide +kernel) _).trans (by decide +kernel)
theorem so_1p : soA 10 1 [.po 0 0] = true := (soA_C (by decide) (by decide +kernel) _).trans (by decide +kernel)

end
end Wn
namespace Wn
open PySem PySem.Spec PyProof.Rows L2
local macro_rules | `(tactic| walk_at "vc") => `(tactic| simp only [cxK, cxK2, start1, start2, start3, tRet, tRetN, tSeq, tNext, tIfS, tAsg, gName, tDrop, tVar, tC, tOp, tUn, tTest, tB, tNot, tAnd, tOr, tAndV, tOrV, tNotV, tIf, tCons, tNil, tCB, tCall, tChain, tAug, ipI, rI, rI0, rU, rIs, rGcd, rEq, rNe, scal,
  List.getElem?_cons_zero, List.getElem?_cons_succ, List.set_cons_zero, List.set_cons_succ, Option.some.injEq, List.cons.injEq, V.int.injEq, V.bl.injEq, V.ref.injEq, V.str.injEq, and_true, true_and, exists_eq_left, exists_eq_left', exists_and_left, exists_and_right, List.append_nil, List.nil_append, List.cons_append, exists_eq_right, exists_eq_right', and_assoc, exists_const, V.ty.injEq, ↓reduceIte, Bool.false_eq_true, Bool.not_true, Bool.not_false, decide_eq_true_eq])

section
variable {P : Program} {w : World} {K : PySem.W.Frag} {mg : Str → Option Value} {base : Heap}
theorem sqT_gr1 {H H' : Hp} {p a : Addr} {zs xs : List V} (hp : H p = some (.lst zs)) (g : Gr [p] H H') (s : SqT K H a xs) : SqT K H' a xs := by
  rcases s with (e | ⟨o', e⟩) | z
  · exact .inl (.inl (g _ _ (fun m => ne_of e hp (fun z => by cases z) (List.mem_singleton.mp m)) e))
  · exact .inl (.inr ⟨o', g _ _ (fun m => ne_of e hp (fun z => by cases z) (List.mem_singleton.mp m)) e⟩)
  · exact .inr z
theorem MOk.grR {H H' : Hp} {S d : Addr} {n : Nat} {ps : List Addr} (h : MOk H d n) (hS : H S = some (.lst (ps.map V.ref))) (g : Gr [S] H H') : MOk H' d n := by
  obtain ⟨c, xs, l, sd, s, h1, h2, h3, h4⟩ := h
  have k : ∀ {u : Addr} {o : HO}, H u = some o → u ≠ S → H' u = some o := fun {u o} e n => g u _ (fun z => n (List.mem_singleton.mp z)) e
  refine ⟨c, xs, l, sd, s, k h1 (fun z => by rw [z, hS] at h1; cases h1), k h2 (fun z => ?_), h3, h4⟩
  rw [z, hS] at h2
  have e : ps.map V.ref = xs.map V.int := by
    injection h2 with h2
    injection h2
  cases xs with
  | nil => exact h3 rfl
  | cons x r => cases ps with
    | nil => cases e
    | cons p r2 => cases e
theorem MOk.isDx {H : Hp} {d : Addr} {n : Nat} (h : MOk H d n) : ∃ kvs, H d = some (.dK kvs) := by
  obtain ⟨c, xs, l, sd, s, h1, _⟩ := h
  exact ⟨_, h1⟩
theorem sm303 {b : Bool} : Sm (.bool b) 303 0 101 := ⟨rfl, by cases b <;> decide +kernel, rfl, rfl, Nat.zero_le _, Nat.zero_le _⟩
theorem smS {z : Str} (h : ((PyData.str z).showable && (PyData.str z).leavesShort 303 && !(PyData.str z).hasDict && (PyData.str z).canLay0) = true) (hz : z.cps.size ≤ 101) : Sm (.str z) 303 0 101 := by
  simp only [Bool.and_eq_true, Bool.not_eq_true'] at h
  obtain ⟨⟨⟨h1, h2⟩, h3⟩, h4⟩ := h
  exact ⟨h1, h2, h3, h4, Nat.le_refl _, hz⟩
theorem smI1 {i : Int} (h : i.natAbs < 2 ^ 101) : Sm (.int i) 303 0 101 := Sm.intB (by decide) h (by decide)
theorem smF {f : Fct} (h : FOk f) : Sm (FD f) 303 1 306 := by
  have two : ∀ {z : Str} {k : Int}, ((PyData.str z).showable && (PyData.str z).leavesShort 303 && !(PyData.str z).hasDict && (PyData.str z).canLay0) = true → z.cps.size ≤ 101 → k.natAbs < 2 ^ 101 → Sm (.tuple [.str z, .int k]) 303 1 306 := fun {z k} h1 h2 h3 =>
    (Sm.tup (D := 0) (W := 101) 2 (fun x hx => by
      simp only [List.mem_cons, List.not_mem_nil, or_false] at hx
      rcases hx with rfl | rfl
      · exact smS h1 h2
      · exact smI1 h3) (Nat.le_refl _)).mono (by decide) (by decide)
  cases f with
  | per k => exact two (by decide +kernel) (by decide +kernel) (by have := h.1; have := h.2; omega)
  | hd k => exact two (by decide +kernel) (by decide +kernel) (by have := h.1; have := h.2; omega)
  | wh k => exact two (by decide +kernel) (by decide +kernel) (by have := h.1; have := h.2; omega)
  | ba d x => exact (Sm.tup (D := 0) (W := 101) 3 (fun y hy => by
      simp only [List.mem_cons, List.not_mem_nil, or_false] at hy
      rcases hy with rfl | rfl | rfl
      · exact smS (by decide +kernel) (by decide +kernel)
      · exact smI1 (by have := h.1; have := h.2; omega)
      · exact sm303) (Nat.le_refl _)).mono (by decide) (by decide)
  | po k r => exact (Sm.tup (D := 0) (W := 101) 3 (fun y hy => by
      simp only [List.mem_cons, List.not_mem_nil, or_false] at hy
      rcases hy with rfl | rfl | rfl
      · exact smS (by decide +kernel) (by decide +kernel)
      · exact smI1 (by have := h.1.1; have := h.1.2; omega)
      · exact smI1 (by have := h.2.1; have := h.2.2; omega)) (Nat.le_refl _)).mono (by decide) (by decide)
theorem fitsF {fs : List Fct} (h : ∀ f ∈ fs, FOk f) (hl : fs.length ≤ 10) : Fits (.tuple (fs.map FD)) := (Sm.tup (B := 303) (D := 1) (W := 306) 10 (fun x hx => by
  obtain ⟨f, hf, rfl⟩ := List.mem_map.mp hx
  exact smF (h f hf)) (by rw [List.length_map]; exact hl)).fitsB
noncomputable def tD (b n : Nat) (fs : List Fct) (w v : Nat) : PyData := .list [.bool (soA b n fs), di (dbF b fs w), di (bbF n fs (v - 1))]
theorem fitsT {b n w v : Nat} {fs : List Fct} (hw : w ≤ 1000) (hv : v ≤ 1000) : Fits (tD b n fs w v) := (Sm.lst (B := 13) (D := 1) (W := 14000) 3 (fun x hx => by
  simp only [List.mem_cons, List.not_mem_nil, or_false] at hx
  rcases hx with rfl | rfl | rfl
  · exact ⟨rfl, by cases soA b n fs <;> decide +kernel, rfl, rfl, Nat.zero_le _, Nat.zero_le _⟩
  · exact (sm_ni (m := 1000) (fun k hk => by have := db_lt hk; omega) (Nat.le_trans (db_len _ _ _) hw)).mono (by decide) (by decide)
  · exact (sm_ni (m := 1000) (fun k hk => by have := bb_lt hk; omega) (Nat.le_trans (bb_len _ _ _) (by omega))).mono (by decide) (by decide)) (Nat.le_refl _)).fits
theorem b_of {v : V} {r : Nat} (hr : r < 60) (h : v ∈ [V.int 2, .int 3, .int 10, .int 10, .int ((2 : Int) + (r : Nat))]) : ∃ b : Nat, v = .int (b : Nat) ∧ 2 ≤ b ∧ b ≤ 61 := by
  simp only [List.mem_cons, List.not_mem_nil, or_false] at h
  rcases h with e | e | e | e | e
  · exact ⟨2, e, by decide, by decide⟩
  · exact ⟨3, e, by decide, by decide⟩
  · exact ⟨10, e, by decide, by decide⟩
  · exact ⟨10, e, by decide, by decide⟩
  · exact ⟨2 + r, e, by omega, by omega⟩
def sp_law_right : Sp := fun vs H Q _ => ∃ (d : Addr) (k : Nat), vs = [.ref d] ∧ MOk H d k ∧ k ≤ 800000000 ∧ ∀ H', Gr [d] H H' → Q (.bl true) H'
theorem FQ.keep {H H' : Hp} {d a : Addr} {n : Nat} {fs : List Fct} (h : FQ K H a fs) (M : MOk H d n) (g : Gr [d] H H') : FQ K H' a fs := by
  obtain ⟨⟨ps, h1, h2⟩, h3⟩ := h
  exact ⟨⟨ps, (Kp.ofM g M.isDx).sqT h1, h2.imp fun e => (Kp.ofM g M.isDx).sqT e⟩, h3⟩
theorem ne_self (z : Str) : (!decide (V.str z = V.str z)) = false := by rw [decide_eq_true rfl]; rfl
theorem gr_none2 {H H' : Hp} {u : Addr} (g : Gr [] H H') (n : H' u = none) : H u = none := by
  cases e : H u with
  | none => rfl
  | some o =>
    have := g u o (by simp) e
    rw [n] at this
    cases this
theorem okG_law_right (T : Txt K mg) (Wd : WDs T w) : FnG P w K mg base CX0 9 T.d_law_right.f T.d_law_right.fd ["m"] sp_law_right := by
  refine fnG0 T.d_law_right.F sc_law_right (fun vs H Q E h => ?_) (fun cdv A outer s H vs Q E hgd hr h => ?_)
  · obtain ⟨d, k, rfl, _⟩ := h; rfl
  · have hu := hu_of hr
    refine ⟨_, (pss_cons (ps_asg (pe_tup (pa_cons (pe_call (ok_law_of T) (hr.mono (by decide)) (by rfl) T.d_law_of.m T.d_law_of.F.kp T.d_law_of.b .nil pass0 (pa_cons (pv 0) (pa_cons (pe_lst (pa_cons pe_int (pa_cons pe_int (pa_cons pe_int (pa_cons pe_int (pa_cons (pe_op op_add pe_int (pe_call (ok_law_draw T) (hr.mono (by decide)) (by rfl) T.d_law_draw.m T.d_law_draw.F.kp T.d_law_draw.b .nil pass0 (pa_cons (pv 0) (pa_cons pe_int pa_nil)))) pa_nil)))))) pa_nil))) (pa_cons (pe_op op_add pe_int (pe_call (ok_law_draw T) (hr.mono (by decide)) (by rfl) T.d_law_draw.m T.d_law_draw.F.kp T.d_law_draw.b .nil pass0 (pa_cons (pv 0) (pa_cons pe_int pa_nil)))) pa_nil))) (pg_tup (by rfl) (pgs_cons (pg_name (i := 1) sc_law_right.nd rfl (by first | exact .inl rfl | exact .inr rfl)) (pgs_cons (pg_name (i := 2) sc_law_right.nd rfl (by first | exact .inl rfl | exact .inr rfl)) pgs_nil))))
      (pss_cons (ps_set (i := 3) sc_law_right.nd rfl (by first | exact .inl rfl | exact .inr rfl) (pe_callTy (r := rTpO K) call_tpO (by rfl) T.b_tuple (by decide +kernel) (pa_cons (pe_lc (own := [("turn", 4)]) (g := gName 4) (tt := tYes) rfl sc_law_right.nd (pi_range1 (by rfl) T.b_range (pa_cons (pe_op op_add pe_int (pe_call (ok_law_draw T) (hr.mono (by decide)) (by rfl) T.d_law_draw.m T.d_law_draw.F.kp T.d_law_draw.b .nil pass0 (pa_cons (pv 0) (pa_cons pe_int pa_nil)))) pa_nil)) (blkOk_by (own := [("turn", 4)]) (N := ["m", "b", "n", "facts_so", "turn", "kept_so", "wide", "far", "due", "k", "again", "told"]) (sc := defScope s_law_right) (by decide +kernel)) (fun _ _ _ _ _ => (pg_name (i := 4) sc_law_right.nd rfl (by first | exact .inl rfl | exact .inr rfl))) (fun _ _ _ _ _ => pts_nil) (fun _ _ _ _ _ => (pe_call (ok_law_fact T) (hr.mono (by decide)) (by rfl) T.d_law_fact.m T.d_law_fact.F.kp T.d_law_fact.b .nil pass0 (pa_cons (pv 0) (pa_cons (pv 1) (pa_cons (pv 2) pa_nil)))))) pa_nil)))
      (pss_cons (ps_par3 (i := 5) (j := 6) (l := 7) (by rfl) sc_law_right.nd rfl rfl rfl (by decide) (by decide) (by decide) rfl rfl rfl (pa_cons (pe_callB (r := rRepr K) (call_repr hgd (gu_of hr)) (by rfl) T.b_repr (by decide +kernel) (pa_cons (pv 3) pa_nil)) (pa_cons (pe_op op_add pe_int (pe_call (ok_law_draw T) (hr.mono (by decide)) (by rfl) T.d_law_draw.m T.d_law_draw.F.kp T.d_law_draw.b .nil pass0 (pa_cons (pv 0) (pa_cons pe_int pa_nil)))) (pa_cons (pe_op op_add pe_int (pe_call (ok_law_draw T) (hr.mono (by decide)) (by rfl) T.d_law_draw.m T.d_law_draw.F.kp T.d_law_draw.b .nil pass0 (pa_cons (pv 0) (pa_cons pe_int pa_nil)))) pa_nil))) (by rfl))
      (pss_cons (ps_set (i := 8) sc_law_right.nd rfl (by first | exact .inl rfl | exact .inr rfl) (pe_lst (pa_cons (pe_call (ok_law_are_so T) (hr.mono (by decide)) (by rfl) T.d_law_are_so.m T.d_law_are_so.F.kp T.d_law_are_so.b .nil pass0 (pa_cons (pv 1) (pa_cons (pv 2) (pa_cons (pv 3) pa_nil)))) (pa_cons (pe_callTy (r := rTpO K) call_tpO (by rfl) T.b_tuple (by decide +kernel) (pa_cons (pe_lc (own := [("k", 9)]) (g := gName 9) (tt := _) rfl sc_law_right.nd (pi_range2 (by rfl) T.b_range (pa_cons pe_int (pa_cons (pe_op op_add (pv 6) pe_int) pa_nil))) (blkOk_by (own := [("k", 9)]) (N := ["m", "b", "n", "facts_so", "turn", "kept_so", "wide", "far", "due", "k", "again", "told"]) (sc := defScope s_law_right) (by decide +kernel)) (fun _ _ _ _ _ => (pg_name (i := 9) sc_law_right.nd rfl (by first | exact .inl rfl | exact .inr rfl))) (fun _ _ _ _ _ => (pts_one (pt_val (pe_call (ok_law_are_so T) (hr.mono (by decide)) (by rfl) T.d_law_are_so.m T.d_law_are_so.F.kp T.d_law_are_so.b .nil pass0 (pa_cons (pv 1) (pa_cons (pv 9) (pa_cons (pv 3) pa_nil))))))) (fun _ _ _ _ _ => (pv 9))) pa_nil)) pa_nil))))
      (pss_cons (ps_expr (pe_bm PySem.F.plainAttrs_list PySem.F.slot_list_append PySem.F.type_list_append mt_append (pv 8) (pa_cons (pe_callTy (r := rTpO K) call_tpO (by rfl) T.b_tuple (by decide +kernel) (pa_cons (pe_lc (own := [("k", 9)]) (g := gName 9) (tt := _) rfl sc_law_right.nd (pi_range2 (by rfl) T.b_range (pa_cons pe_int (pa_cons (pe_op op_add (pv 7) pe_int) pa_nil))) (blkOk_by (own := [("k", 9)]) (N := ["m", "b", "n", "facts_so", "turn", "kept_so", "wide", "far", "due", "k", "again", "told"]) (sc := defScope s_law_right) (by decide +kernel)) (fun _ _ _ _ _ => (pg_name (i := 9) sc_law_right.nd rfl (by first | exact .inl rfl | exact .inr rfl))) (fun _ _ _ _ _ => (pts_one (pt_val (pe_call (ok_law_are_so T) (hr.mono (by decide)) (by rfl) T.d_law_are_so.m T.d_law_are_so.F.kp T.d_law_are_so.b .nil pass0 (pa_cons (pv 9) (pa_cons (pv 2) (pa_cons (pv 3) pa_nil))))))) (fun _ _ _ _ _ => (pv 9))) pa_nil)) pa_nil)))
      (pss_cons (ps_for PassesOwn.never rfl (pi_range1 (by rfl) T.b_range (pa_cons pe_int pa_nil)) (pg_name (i := 10) sc_law_right.nd rfl (by first | exact .inl rfl | exact .inr rfl)) (pss_cons (ps_set (i := 11) sc_law_right.nd rfl (by first | exact .inl rfl | exact .inr rfl) (pe_lst (pa_cons (pe_call (ok_is_satisfied T Wd) (hr.mono (by decide)) (by rfl) T.d_is_satisfied.m T.d_is_satisfied.F.kp T.d_is_satisfied.b .nil pass0 (pa_cons (pv 1) (pa_cons (pv 2) (pa_cons (pv 3) pa_nil)))) (pa_cons (pe_call (ok_denominators_by T Wd) (hr.mono (by decide)) (by rfl) T.d_denominators_by.m T.d_denominators_by.F.kp T.d_denominators_by.b .nil pass0 (pa_cons (pv 1) (pa_cons (pv 3) (pa_cons (pv 6) pa_nil)))) (pa_cons (pe_call (ok_bases_by T Wd) (hr.mono (by decide)) (by rfl) T.d_bases_by.m T.d_bases_by.F.kp T.d_bases_by.b .nil pass0 (pa_cons (pv 2) (pa_cons (pv 3) (pa_cons (pv 7) pa_nil)))) pa_nil)))))
      (pss_one (ps_if (pt_cmpR op_ne (pe_callB (r := rRepr K) (call_repr hgd (gu_of hr)) (by rfl) T.b_repr (by decide +kernel) (pa_cons (pv 11) pa_nil)) (pe_callB (r := rRepr K) (call_repr hgd (gu_of hr)) (by rfl) T.b_repr (by decide +kernel) (pa_cons (pv 8) pa_nil)) (nomark _)) (pss_one (ps_ret pe_bl)) pss_nil))))
      (pss_one (ps_ret (pe_and (pe_cmpR op_eq (pe_callB (r := rRepr K) (call_repr hgd (gu_of hr)) (by rfl) T.b_repr (by decide +kernel) (pa_cons (pe_call (ok_need_facts T Wd) (hr.mono (by decide)) (by rfl) T.d_need_facts.m T.d_need_facts.F.kp T.d_need_facts.b .nil pass0 (pa_cons (pv 3) pa_nil)) pa_nil)) (pv 5) (nomark _)) (pe_one (pe_cmpR op_eq (pe_callB (r := rRepr K) (call_repr hgd (gu_of hr)) (by rfl) T.b_repr (by decide +kernel) (pa_cons (pv 3) pa_nil)) (pv 5) (nomark _)))))))))))), ?_⟩
    obtain ⟨d, k0, rfl, M, hk, q⟩ := h
    refine tseq_in ⟨_, rfl, _, rfl, d, 60, k0, rfl, M, ⟨by decide, lim_le (by decide), by omega⟩, fun r0 H2 hr0 g2 M2 => ?_⟩
    refine ⟨_, _, rfl, rfl, by show 5 ≤ sizeLine; decide, fun l nl => ?_⟩
    refine ⟨d, l, k0 + 1, _, rfl, M2.gr (Gr.new nl), upd_same, ⟨by simp, by show 5 ≤ 100000; decide, by omega⟩, fun v H3 hv g3 M3 => ?_⟩
    obtain ⟨b, rfl, hb1, hb2⟩ := b_of hr0 hv
    refine ⟨_, rfl, d, 80, k0 + 2, rfl, M3, ⟨by decide, lim_le (by decide), by omega⟩, fun r1 H4 hr1 g4 M4 => ?_⟩
    refine ⟨_, _, rfl, rfl, by show 2 ≤ sizeLine; decide, fun pb npb => ⟨pb, _, rfl, sq_tup upd_same, rfl, _, _, rfl, _, _, rfl, rfl, ?_⟩⟩
    have g05 : Gr [d] H (upd H4 pb (.tup [.int (b : Nat), .int ((1 : Int) + (r1 : Int))])) := (g2.trans (Gr.new nl)).trans (g3.trans (g4.trans (Gr.new npb)))
    have M5 := M4.gr (Gr.new (o := .tup [.int (b : Nat), .int ((1 : Int) + (r1 : Int))]) npb)
    dsimp only
    generalize upd H4 pb (.tup [.int (b : Nat), .int ((1 : Int) + (r1 : Int))]) = H5 at g05 M5 ⊢
    rw [show (1 : Int) + (r1 : Int) = ((1 + r1 : Nat) : Int) by omega]
    have hnn : 1 ≤ 1 + r1 ∧ 1 + r1 ≤ 80 := by omega
    generalize 1 + r1 = n at hnn
    clear g2 g3 g4 npb nl hv M M2 M3 M4
    refine tseq_in (tasg_in ⟨_, rfl, d, 3, k0 + 3, rfl, M5, ⟨by decide, lim_le (by decide), by omega⟩, fun r2 H6 hr2 g6 M6 => ⟨_, _, rfl, rfl, (1 : Int) + (r2 : Int), rfl, by omega, by omega, fun D nD => ?_⟩⟩)
    have hdD : D ≠ d := fun z => by
      obtain ⟨kvs, e⟩ := M6.isDx
      rw [z, e] at nD
      cases nD
    refine lc_range (lo := 0) (n := ((1 : Int) + (r2 : Int) - 0).toNat) (fun i H' => Gr [d] H6 H' ∧ MOk H' d (k0 + 4 + 4 * i) ∧ ∃ ps fs, H' D = some (.lst (ps.map V.ref)) ∧ Fcs K H' ps fs ∧ fs.length = i ∧ ∀ f ∈ fs, FOk f) ⟨Gr.new nD, M6.gr (Gr.new nD), [], [], upd_same, .nil, rfl, fun f hf => by cases hf⟩ ?_ ?_
    · rintro i H' hi ⟨G, MI, ps, fs, hD, hF, hl, hok⟩
      refine ⟨rfl, ?_⟩
      dsimp only [tYes]
      refine iteT ?_
      refine ⟨_, rfl, _, rfl, _, rfl, d, b, n, k0 + 4 + 4 * i, rfl, MI, by omega, ⟨by omega, by omega⟩, hnn, fun p f H7 g7 M7 hp hf => ?_⟩
      have hD7 := MI.keep hD (fun kvs z => by cases z) g7
      have hF7 := hF.imp fun e => (Kp.ofM g7 MI.isDx).sqT e
      have gD : Gr [D] H7 (upd H7 D (.lst (ps.map V.ref ++ [.ref p]))) := Gr.wr (by simp)
      have kT : ∀ {u : Addr} {f : Fct}, SqT K H7 u (FV f) → SqT K (upd H7 D (.lst (ps.map V.ref ++ [.ref p]))) u (FV f) := fun {u f} e => sqT_gr1 hD7 gD e
      refine ⟨_, hD7, small5 (by rw [List.length_map, hF.len]; omega), fun u o hu e => ?_, ?_, ps ++ [p], fs ++ [f], ?_, (hF7.imp kT).snoc (kT (sq_tup hp)), by rw [List.length_append, hl]; rfl, fun x hx => ?_⟩
      · rw [upd_ne (fun z => by rw [z, nD] at e; cases e)]
        exact g7 u o hu (G u o hu e)
      · exact (M7.grR hD7 gD).mono (by omega)
      · rw [upd_same, List.map_append]
        rfl
      · rcases List.mem_append.mp hx with z | z
        · exact hok x z
        · rw [List.mem_singleton.mp z]
          exact hf
    rintro H7 ⟨g7, M7, ps, fs, hD, hF, hl, hok⟩
    rw [show ((1 : Int) + (r2 : Int) - 0).toNat = 1 + r2 by omega] at hl M7
    refine ⟨D, _, rfl, .inl ⟨sq_lst hD, fun a na => ?_⟩⟩
    have g8 : Gr [] H7 (upd H7 a (.tup (ps.map V.ref))) := Gr.new na
    have ha : (upd H7 a (.tup (ps.map V.ref))) a = some (.tup (ps.map V.ref)) := upd_same
    have g08 := (g05.trans g6).trans (g7.trans (gr0 g8))
    have M8 := (M7.gr g8).mono (show k0 + 4 + 4 * (1 + r2) ≤ k0 + 16 by omega)
    have hQ : FQ K (upd H7 a (.tup (ps.map V.ref))) a fs := ⟨⟨ps, sq_tup ha, hF.gr g8⟩, ⟨by omega, by omega⟩, hok⟩
    refine gname_in ?_
    dsimp only
    generalize upd H7 a (.tup (ps.map V.ref)) = H8 at g08 M8 hQ ⊢
    clear g8 ha g7 g6 g05 hD hF M5 M6 M7 nD na
    have hfit := fitsF hQ.2.2 hQ.2.1.2
    refine tseq_in ⟨_, rfl, _, _, rfl, hQ.dp, hfit, _, rfl, d, 80, k0 + 16, rfl, M8, ⟨by decide, lim_le (by decide), by omega⟩, fun r3 H9 hr3 g9 M9 => ?_⟩
    have hQ9 := hQ.keep M8 g9
    refine ⟨_, _, rfl, rfl, _, rfl, d, 60, k0 + 16 + 1, rfl, M9, ⟨by decide, lim_le (by decide), by omega⟩, fun r4 H10 hr4 g10 M10 => ⟨_, _, rfl, rfl, _, _, _, rfl, ?_⟩⟩
    have hQ10 := hQ9.keep M9 g10
    have g010 := g08.trans (g9.trans g10)
    dsimp only
    rw [show (1 : Int) + (r3 : Int) = ((1 + r3 : Nat) : Int) by omega, show (2 : Int) + (r4 : Int) = ((2 + r4 : Nat) : Int) by omega]
    have hw1 : 1 ≤ 1 + r3 ∧ 1 + r3 ≤ 80 := by omega
    have hv1 : 2 ≤ 2 + r4 ∧ 2 + r4 ≤ 61 := by omega
    generalize 1 + r3 = wd at hw1 ⊢
    generalize 2 + r4 = vd at hv1 ⊢
    clear g9 g10 hQ9 hQ M8 M9 M10 g08
    refine tseq_in (tasg_in ⟨_, rfl, _, rfl, _, rfl, b, n, a, fs, rfl, hQ10, ⟨by omega, by omega, by omega⟩, fun H11 g11 => ?_⟩)
    have hQ11 := hQ10.gr g11
    refine ⟨_, rfl, _, _, rfl, rfl, 1, ((wd + 1 : Nat) : Int), by rw [Int.natCast_add]; rfl, ⟨by decide, by decide, by omega, by omega⟩, fun D nD => ?_⟩
    refine lc_range (lo := 1) (n := (((wd + 1 : Nat) : Int) - 1).toNat) (fun i H' => Gr [] H11 H' ∧ H' D = some (.lst (vn (dbF b fs i)))) ⟨Gr.new nD, upd_same⟩ ?_ ?_
    · rintro i H' hi ⟨G, hD⟩
      have ei : (1 : Int) + (i : Int) = ((1 + i : Nat) : Int) := by omega
      have him : i < wd := by omega
      rw [ei]
      have st := db_succ b fs i
      have hpl : (dbF b fs i).length ≤ 5000 := Nat.le_trans (db_len b fs i) (by omega)
      refine ⟨rfl, ?_⟩
      refine ⟨_, rfl, _, rfl, _, rfl, b, 1 + i, a, fs, rfl, hQ11.gr G, ⟨by omega, by omega, by omega⟩, fun H3 g3 => ⟨_, rfl, ?_⟩⟩
      have hD3 := g3 D _ (by simp) hD
      have G3 := G.trans g3
      cases hg : soA b (1 + i) fs with
      | true =>
        refine iteTb rfl ⟨_, rfl, _, hD3, small5 (by rw [vn_len]; exact hpl), fun c u _ e => ?_, ?_⟩
        · rw [upd_ne (ne_of_none e nD)]
          exact G3 c u (by simp) e
        · rw [upd_same, vn_snoc, st, if_pos hg]
      | false =>
        refine iteFb rfl ⟨G3, ?_⟩
        rw [hD3, st, if_neg (by rw [hg]; exact Bool.false_ne_true)]
    rintro H12 ⟨g12, hD⟩
    rw [show (((wd + 1 : Nat) : Int) - 1).toNat = wd by omega] at hD
    refine ⟨D, _, rfl, .inl ⟨sq_lst hD, fun t1 nt1 => ⟨by show 2 ≤ sizeLine; decide, fun pl npl => ?_⟩⟩⟩
    refine gname_in ?_
    dsimp only
    have gt1 : Gr [] H12 (upd H12 t1 (.tup (vn (dbF b fs wd)))) := Gr.new nt1
    have gpl := Gr.new (W := []) (o := .lst [.bl (soA b n fs), .ref t1]) npl
    have ht1 := gpl t1 _ (by simp) (upd_same : (upd H12 t1 (.tup (vn (dbF b fs wd)))) t1 = some (.tup (vn (dbF b fs wd))))
    have hpl : (upd (upd H12 t1 (.tup (vn (dbF b fs wd)))) pl (.lst [.bl (soA b n fs), .ref t1])) pl = some (.lst [.bl (soA b n fs), .ref t1]) := upd_same
    have g13 := ((g11.trans g12).trans gt1).trans gpl
    have n10 : H10 pl = none := gr_none2 ((g11.trans g12).trans gt1) npl
    clear gt1 gpl
    generalize (upd (upd H12 t1 (.tup (vn (dbF b fs wd)))) pl (.lst [.bl (soA b n fs), .ref t1])) = H13 at ht1 hpl g13 ⊢
    have hQ13 := hQ10.gr g13
    clear hD nt1 npl g12 hQ11 g11
    refine tseq_in ⟨_, rfl, .inl ⟨rfl, _, sq_lst hpl⟩, ?_⟩
    refine ⟨_, rfl, _, _, rfl, rfl, 2, ((vd + 1 : Nat) : Int), by rw [Int.natCast_add]; rfl, ⟨by decide, by decide, by omega, by omega⟩, fun D nD => ?_⟩
    refine lc_range (lo := 2) (n := (((vd + 1 : Nat) : Int) - 2).toNat) (fun i H' => Gr [] H13 H' ∧ H' D = some (.lst (vn (bbF n fs i)))) ⟨Gr.new nD, upd_same⟩ ?_ ?_
    · rintro i H' hi ⟨G, hD⟩
      have ei : (2 : Int) + (i : Int) = ((2 + i : Nat) : Int) := by omega
      have him : i < (vd - 1) := by omega
      rw [ei]
      have st := bb_succ n fs i
      have hpl : (bbF n fs i).length ≤ 5000 := Nat.le_trans (bb_len n fs i) (by omega)
      refine ⟨rfl, ?_⟩
      refine ⟨_, rfl, _, rfl, _, rfl, 2 + i, n, a, fs, rfl, hQ13.gr G, ⟨by omega, by omega, by omega⟩, fun H3 g3 => ⟨_, rfl, ?_⟩⟩
      have hD3 := g3 D _ (by simp) hD
      have G3 := G.trans g3
      cases hg : soA (2 + i) n fs with
      | true =>
        refine iteTb rfl ⟨_, rfl, _, hD3, small5 (by rw [vn_len]; exact hpl), fun c u _ e => ?_, ?_⟩
        · rw [upd_ne (ne_of_none e nD)]
          exact G3 c u (by simp) e
        · rw [upd_same, vn_snoc, st, if_pos hg]
      | false =>
        refine iteFb rfl ⟨G3, ?_⟩
        rw [hD3, st, if_neg (by rw [hg]; exact Bool.false_ne_true)]
    rintro H14 ⟨g14, hD⟩
    rw [show (((vd + 1 : Nat) : Int) - 2).toNat = vd - 1 by omega] at hD
    refine ⟨D, _, rfl, .inl ⟨sq_lst hD, fun t2 nt2 => ?_⟩⟩
    have gt2 : Gr [] H14 (upd H14 t2 (.tup (vn (bbF n fs (vd - 1))))) := Gr.new nt2
    have ht2 : (upd H14 t2 (.tup (vn (bbF n fs (vd - 1))))) t2 = some (.tup (vn (bbF n fs (vd - 1)))) := upd_same
    have g15 := g14.trans gt2
    have hpl15 := g15 pl _ (by simp) hpl
    have ht115 := g15 t1 _ (by simp) ht1
    have hQ15 := hQ13.gr g15
    clear g14 gt2 hD nt2 hQ13
    change tNil _ (upd H14 t2 (.tup (vn (bbF n fs (vd - 1))))) _
    generalize (upd H14 t2 (.tup (vn (bbF n fs (vd - 1))))) = H15 at ht2 g15 hpl15 ht115 hQ15 ⊢
    refine ⟨pl, _, _, rfl, rfl, hpl15, by show 2 < sizeLine; decide, ?_⟩
    have kT : ∀ {u : Addr} {xs : List V}, H15 u = some (.tup xs) → (upd H15 pl (.lst ([.bl (soA b n fs), .ref t1] ++ [.ref t2]))) u = some (.tup xs) := fun {u xs} e => by
      rw [upd_ne (ne_of e hpl15 (fun z => by cases z))]
      exact e
    have hpl16 : (upd H15 pl (.lst ([.bl (soA b n fs), .ref t1] ++ [.ref t2]))) pl = some (.lst [.bl (soA b n fs), .ref t1, .ref t2]) := upd_same
    have gW : Gr [pl] H15 (upd H15 pl (.lst ([.bl (soA b n fs), .ref t1] ++ [.ref t2]))) := Gr.wr (by simp)
    have hQ16 : FQ K (upd H15 pl (.lst ([.bl (soA b n fs), .ref t1] ++ [.ref t2]))) a fs := by
      obtain ⟨⟨ps, h1, h2⟩, h3⟩ := hQ15
      exact ⟨⟨ps, sqT_gr1 hpl15 gW h1, h2.imp fun e => sqT_gr1 hpl15 gW e⟩, h3⟩
    have d16 : Dp K (upd H15 pl (.lst ([.bl (soA b n fs), .ref t1] ++ [.ref t2]))) (.ref pl) (tD b n fs wd vd) := dp_lst hpl16 (.cons (.bl _) (.cons (dp_vnT (kT ht115)) (.cons (dp_vnT (kT ht2)) .nil)))
    have g16 : Gr [] H10 (upd H15 pl (.lst ([.bl (soA b n fs), .ref t1] ++ [.ref t2]))) := fun u o _ e => by
      rw [upd_ne (ne_of_none e n10)]
      exact g15 u o (by simp) (g13 u o (by simp) e)
    generalize (upd H15 pl (.lst ([.bl (soA b n fs), .ref t1] ++ [.ref t2]))) = H16 at hQ16 d16 g16 ⊢
    have g016 := g010.trans (gr0 g16)
    clear kT hpl16 g15 g13 hpl15 ht115 ht2 ht1 hpl hQ15 n10 g010 g16 hQ10
    have hwh : WhOk fs n := fun _ => by omega
    have hwd : WhOk fs wd := fun _ => by omega
    have hft : Fits (tD b n fs wd vd) := fitsT (by omega) (by omega)
    refine tseq_in ⟨(2 : Int), rfl, by decide, by decide, ?_⟩
    try dsimp only
    refine for_range (D := ⟨_, Q, fun _ _ => False, fun _ _ => False⟩) (lo := 0) (n := ((2 : Int)).toNat) (fun j σ H' => Gr [] H16 H' ∧ ∃ v4 v9 v10 v11, σ = [some (.ref d), some (.int b), some (.int n), some (.ref a), v4, some (.str (PyData.shown (.tuple (fs.map FD)))), some (.int wd), some (.int vd), some (.ref pl), v9, v10, v11]) ⟨Gr.refl _ _, _, _, _, _, rfl⟩ ?_ ?_
    · rintro j σ HA hj ⟨GA, v4, v9, v10, v11, rfl⟩
      have hQA := hQ16.gr GA
      refine gname_in ?_
      dsimp only
      refine tseq_in (tasg_in ⟨_, rfl, _, rfl, _, rfl, b, n, a, fs, rfl, ⟨by omega, by omega, by omega, by omega⟩, hQA, hwh, fun Ha ga => ⟨_, rfl, _, rfl, _, rfl, b, wd, a, fs, rfl, ⟨by omega, by omega⟩, hQA.gr ga, ⟨by omega, by omega⟩, hwd, fun s1 Hb gb hs1 => ⟨_, rfl, _, rfl, _, rfl, n, vd, a, fs, rfl, ⟨by omega, by omega⟩, hQA.gr (ga.trans gb), ⟨by omega, by omega⟩, hwh, fun s2 Hc gc hs2 => ⟨by show 3 ≤ sizeLine; decide, fun p3 np3 => ?_⟩⟩⟩⟩)
      have g3 := Gr.new (W := []) (o := .lst [.bl (soA b n fs), .ref s1, .ref s2]) np3
      have dd : Dp K (upd Hc p3 (.lst [.bl (soA b n fs), .ref s1, .ref s2])) (.ref p3) (tD b n fs wd vd) := dp_lst upd_same (.cons (.bl _) (.cons (dp_vnT (g3 s1 _ (by simp) (gc s1 _ (by simp) hs1))) (.cons (dp_vnT (g3 s2 _ (by simp) hs2)) .nil)))
      have gB := GA.trans (((ga.trans gb).trans gc).trans g3)
      refine gname_in ?_
      dsimp only
      generalize (upd Hc p3 (.lst [.bl (soA b n fs), .ref s1, .ref s2])) = Hd at dd gB ⊢
      refine tifs_in ⟨_, rfl, _, _, rfl, dd, hft, _, rfl, _, _, rfl, Dp.kp (Kp.of gB) d16, hft, rfl, _, rfl, iteFb (ne_self _) ?_⟩
      exact ⟨gB, _, _, _, _, rfl⟩
    rintro σ HA ⟨GA, v4, v9, v10, v11, rfl⟩
    have hQA := hQ16.gr GA
    refine ⟨_, rfl, a, fs, rfl, hQA, fun He ge => ⟨_, _, rfl, (hQA.gr ge).dp, hfit, _, rfl, rfl, _, rfl, iteTb (decide_eq_true rfl) ?_⟩⟩
    refine ⟨_, rfl, _, _, rfl, (hQA.gr ge).dp, hfit, _, rfl, rfl, ?_⟩
    rw [decide_eq_true rfl]
    exact q He (g016.trans (gr0 (GA.trans ge)))

end
end Wn
namespace Wn
open PySem PySem.Spec PyProof.Rows L2
local macro_rules | `(tactic| walk_at "vc") => `(tactic| simp only [cxK, cxK2, start1, start2, start3, tRet, tRetN, tSeq, tNext, tIfS, tAsg, gName, tDrop, tVar, tC, tOp, tUn, tTest, tB, tNot, tAnd, tOr, tAndV, tOrV, tNotV, tIf, tCons, tNil, tCB, tCall, tChain, tAug, ipI, rI, rI0, rU, rIs, rGcd, rEq, rNe, scal,
  List.getElem?_cons_zero, List.getElem?_cons_succ, List.set_cons_zero, List.set_cons_succ, Option.some.injEq, List.cons.injEq, V.int.injEq, V.bl.injEq, V.ref.injEq, V.str.injEq, and_true, true_and, exists_eq_left, exists_eq_left', exists_and_left, exists_and_right, List.append_nil, List.nil_append, List.cons_append, exists_eq_right, exists_eq_right', and_assoc, exists_const, V.ty.injEq, ↓reduceIte, Bool.false_eq_true, Bool.not_true, Bool.not_false, decide_eq_true_eq])

section
variable {P : Program} {w : World} {K : PySem.W.Frag} {mg : Str → Option Value} {base : Heap}
def sp_hand : Sp := fun vs H Q _ => vs = [] ∧ ∀ H', Gr [] H H' → Q (.bl true) H'
theorem fitB4 : Fits (.list [.bool true, .bool true, .bool false, .bool true]) := (Sm.lst (B := 13) (D := 0) (W := 60) 4 (fun x hx => by
  simp only [List.mem_cons, List.not_mem_nil, or_false] at hx
  rcases hx with rfl | rfl | rfl | rfl <;> exact ⟨rfl, by decide +kernel, rfl, rfl, Nat.zero_le _, Nat.zero_le _⟩) (by decide)).fits
theorem Sm.shaped2 {d : PyData} {B W : Nat} (h : Sm d B 1 W) : SeqAt.shaped d = true := h.shaped (by decide)
theorem okG_law_hand_right (T : Txt K mg) (Wd : WDs T w) : FnG P w K mg base CX0 9 T.d_law_hand_right.f T.d_law_hand_right.fd [] sp_hand := by
  refine fnG0 T.d_law_hand_right.F sc_law_hand_right (fun vs H Q E h => ?_) (fun cdv A outer s H vs Q E hgd hr h => ?_)
  · obtain ⟨rfl, _⟩ := h; rfl
  · have hu := hu_of hr
    refine ⟨_, (pss_cons (ps_set (i := 0) sc_law_hand_right.nd rfl (by first | exact .inl rfl | exact .inr rfl) (pe_tup (pa_cons pe_str (pa_cons pe_int pa_nil))))
      (pss_cons (ps_set (i := 1) sc_law_hand_right.nd rfl (by first | exact .inl rfl | exact .inr rfl) (pe_lst (pa_cons (pe_tup (pa_cons (pe_tup (pa_cons (pv 0) pa_nil)) (pa_cons pe_int (pa_cons (pe_tup (pa_cons pe_int (pa_cons pe_int (pa_cons pe_int (pa_cons pe_int (pa_cons pe_int (pa_cons pe_int (pa_cons pe_int (pa_cons pe_int (pa_cons pe_int (pa_cons pe_int (pa_cons pe_int (pa_cons pe_int (pa_cons pe_int (pa_cons pe_int (pa_cons pe_int (pa_cons pe_int (pa_cons pe_int (pa_cons pe_int pa_nil))))))))))))))))))) pa_nil)))) pa_nil)))
      (pss_cons (ps_set (i := 1) sc_law_hand_right.nd rfl (by first | exact .inl rfl | exact .inr rfl) (pe_op op_cat (pv 1) (pe_lst (pa_cons (pe_tup (pa_cons (pe_tup (pa_cons (pv 0) (pa_cons (pe_tup (pa_cons pe_str (pa_cons pe_int pa_nil))) pa_nil))) (pa_cons pe_int (pa_cons (pe_tup (pa_cons pe_int (pa_cons pe_int pa_nil))) pa_nil)))) (pa_cons (pe_tup (pa_cons (pe_tup (pa_cons (pe_tup (pa_cons pe_str (pa_cons pe_int pa_nil))) pa_nil)) (pa_cons pe_int (pa_cons (pe_tup (pa_cons pe_int (pa_cons pe_int (pa_cons pe_int pa_nil)))) pa_nil)))) pa_nil)))))
      (pss_cons (ps_set (i := 1) sc_law_hand_right.nd rfl (by first | exact .inl rfl | exact .inr rfl) (pe_op op_cat (pv 1) (pe_lst (pa_cons (pe_tup (pa_cons (pe_tup (pa_cons (pe_tup (pa_cons pe_str (pa_cons pe_int pa_nil))) pa_nil)) (pa_cons pe_int (pa_cons (pe_tup (pa_cons pe_int (pa_cons pe_int (pa_cons pe_int (pa_cons pe_int pa_nil))))) pa_nil)))) (pa_cons (pe_tup (pa_cons (pe_tup (pa_cons (pe_tup (pa_cons pe_str (pa_cons pe_int (pa_cons pe_bl pa_nil)))) (pa_cons (pv 0) pa_nil))) (pa_cons pe_int (pa_cons (pe_tup (pa_cons pe_int (pa_cons pe_int (pa_cons pe_int (pa_cons pe_int pa_nil))))) pa_nil)))) pa_nil)))))
      (pss_cons (ps_set (i := 1) sc_law_hand_right.nd rfl (by first | exact .inl rfl | exact .inr rfl) (pe_op op_cat (pv 1) (pe_lst (pa_cons (pe_tup (pa_cons (pe_tup (pa_cons (pe_tup (pa_cons pe_str (pa_cons pe_int pa_nil))) (pa_cons (pe_tup (pa_cons pe_str (pa_cons pe_int pa_nil))) pa_nil))) (pa_cons pe_int (pa_cons (pe_tup (pa_cons pe_int (pa_cons pe_int (pa_cons pe_int pa_nil)))) pa_nil)))) (pa_cons (pe_tup (pa_cons (pe_tup (pa_cons (pe_tup (pa_cons pe_str (pa_cons pe_int (pa_cons pe_int pa_nil)))) pa_nil)) (pa_cons pe_int (pa_cons (pe_tup pa_nil) pa_nil)))) pa_nil)))))
      (pss_cons (ps_set (i := 1) sc_law_hand_right.nd rfl (by first | exact .inl rfl | exact .inr rfl) (pe_op op_cat (pv 1) (pe_lst (pa_cons (pe_tup (pa_cons (pe_tup (pa_cons (pe_tup (pa_cons pe_str (pa_cons pe_int (pa_cons pe_int pa_nil)))) pa_nil)) (pa_cons pe_int (pa_cons (pe_tup (pa_cons pe_int (pa_cons pe_int (pa_cons pe_int (pa_cons pe_int (pa_cons pe_int (pa_cons pe_int (pa_cons pe_int (pa_cons pe_int pa_nil))))))))) pa_nil)))) (pa_cons (pe_tup (pa_cons (pe_tup (pa_cons (pe_tup (pa_cons pe_str (pa_cons pe_int (pa_cons pe_bl pa_nil)))) pa_nil)) (pa_cons pe_int (pa_cons (pe_tup (pa_cons pe_int pa_nil)) pa_nil)))) pa_nil)))))
      (pss_cons (ps_for PassesOwn.never rfl (pi_list (pv 1)) (pg_tup (by rfl) (pgs_cons (pg_name (i := 2) sc_law_hand_right.nd rfl (by first | exact .inl rfl | exact .inr rfl)) (pgs_cons (pg_name (i := 3) sc_law_hand_right.nd rfl (by first | exact .inl rfl | exact .inr rfl)) (pgs_cons (pg_name (i := 4) sc_law_hand_right.nd rfl (by first | exact .inl rfl | exact .inr rfl)) pgs_nil)))) (pss_one (ps_if (pt_cmpR (r := rNeD K) (op_neD hr.units) (pe_call (ok_denominators_by T Wd) (hr.mono (by decide)) (by rfl) T.d_denominators_by.m T.d_denominators_by.F.kp T.d_denominators_by.b .nil pass0 (pa_cons pe_int (pa_cons (pv 2) (pa_cons (pv 3) pa_nil)))) (pv 4) (nomark _)) (pss_one (ps_ret pe_bl)) pss_nil)))
      (pss_cons (ps_set (i := 5) sc_law_hand_right.nd rfl (by first | exact .inl rfl | exact .inr rfl) (pe_lst (pa_cons (pe_call (ok_bases_by T Wd) (hr.mono (by decide)) (by rfl) T.d_bases_by.m T.d_bases_by.F.kp T.d_bases_by.b .nil pass0 (pa_cons pe_int (pa_cons (pe_tup (pa_cons (pv 0) pa_nil)) (pa_cons pe_int pa_nil)))) (pa_cons (pe_call (ok_bases_by T Wd) (hr.mono (by decide)) (by rfl) T.d_bases_by.m T.d_bases_by.F.kp T.d_bases_by.b .nil pass0 (pa_cons pe_int (pa_cons (pe_tup (pa_cons (pe_tup (pa_cons pe_str (pa_cons pe_int pa_nil))) pa_nil)) (pa_cons pe_int pa_nil)))) (pa_cons (pe_call (ok_bases_by T Wd) (hr.mono (by decide)) (by rfl) T.d_bases_by.m T.d_bases_by.F.kp T.d_bases_by.b .nil pass0 (pa_cons pe_int (pa_cons (pe_tup (pa_cons (pe_tup (pa_cons pe_str (pa_cons pe_int pa_nil))) (pa_cons (pe_tup (pa_cons pe_str (pa_cons pe_int pa_nil))) pa_nil))) (pa_cons pe_int pa_nil)))) pa_nil)))))
      (pss_cons (ps_if (pt_cmpR (r := rNeD K) (op_neD hr.units) (pv 5) (pe_lst (pa_cons (pe_tup (pa_cons pe_int (pa_cons pe_int (pa_cons pe_int (pa_cons pe_int (pa_cons pe_int (pa_cons pe_int pa_nil))))))) (pa_cons (pe_tup (pa_cons pe_int (pa_cons pe_int (pa_cons pe_int (pa_cons pe_int pa_nil))))) (pa_cons (pe_tup (pa_cons pe_int (pa_cons pe_int (pa_cons pe_int (pa_cons pe_int pa_nil))))) pa_nil)))) (nomark _)) (pss_one (ps_ret pe_bl)) pss_nil)
      (pss_cons (ps_if (pt_cmpR (r := rNeD K) (op_neD hr.units) (pe_call (ok_bases_by T Wd) (hr.mono (by decide)) (by rfl) T.d_bases_by.m T.d_bases_by.F.kp T.d_bases_by.b .nil pass0 (pa_cons pe_int (pa_cons (pe_tup (pa_cons (pe_tup (pa_cons pe_str (pa_cons pe_int (pa_cons pe_int pa_nil)))) pa_nil)) (pa_cons pe_int pa_nil)))) (pe_tup (pa_cons pe_int pa_nil)) (nomark _)) (pss_one (ps_ret pe_bl)) pss_nil)
      (pss_cons (ps_set (i := 5) sc_law_hand_right.nd rfl (by first | exact .inl rfl | exact .inr rfl) (pe_lst (pa_cons (pe_call (ok_is_satisfied T Wd) (hr.mono (by decide)) (by rfl) T.d_is_satisfied.m T.d_is_satisfied.F.kp T.d_is_satisfied.b .nil pass0 (pa_cons pe_int (pa_cons pe_int (pa_cons (pe_tup (pa_cons (pe_tup (pa_cons pe_str (pa_cons (pe_op op_pow pe_int pe_int) (pa_cons pe_int pa_nil)))) pa_nil)) pa_nil)))) (pa_cons (pe_call (ok_is_satisfied T Wd) (hr.mono (by decide)) (by rfl) T.d_is_satisfied.m T.d_is_satisfied.F.kp T.d_is_satisfied.b .nil pass0 (pa_cons pe_int (pa_cons pe_int (pa_cons (pe_tup (pa_cons (pe_tup (pa_cons pe_str (pa_cons pe_int pa_nil))) (pa_cons (pe_tup (pa_cons pe_str (pa_cons pe_int (pa_cons pe_int pa_nil)))) pa_nil))) pa_nil)))) pa_nil))))
      (pss_cons (ps_set (i := 5) sc_law_hand_right.nd rfl (by first | exact .inl rfl | exact .inr rfl) (pe_op op_cat (pv 5) (pe_lst (pa_cons (pe_call (ok_is_satisfied T Wd) (hr.mono (by decide)) (by rfl) T.d_is_satisfied.m T.d_is_satisfied.F.kp T.d_is_satisfied.b .nil pass0 (pa_cons pe_int (pa_cons pe_int (pa_cons (pe_tup (pa_cons (pe_tup (pa_cons pe_str (pa_cons pe_int (pa_cons pe_bl pa_nil)))) pa_nil)) pa_nil)))) (pa_cons (pe_call (ok_is_satisfied T Wd) (hr.mono (by decide)) (by rfl) T.d_is_satisfied.m T.d_is_satisfied.F.kp T.d_is_satisfied.b .nil pass0 (pa_cons pe_int (pa_cons pe_int (pa_cons (pe_tup (pa_cons (pe_tup (pa_cons pe_str (pa_cons pe_int (pa_cons pe_int pa_nil)))) pa_nil)) pa_nil)))) pa_nil)))))
      (pss_one (ps_ret (pe_cmpR op_eq (pe_callB (r := rRepr K) (call_repr hgd (gu_of hr)) (by rfl) T.b_repr (by decide +kernel) (pa_cons (pv 5) pa_nil)) (pe_callB (r := rRepr K) (call_repr hgd (gu_of hr)) (by rfl) T.b_repr (by decide +kernel) (pa_cons (pe_lst (pa_cons pe_bl (pa_cons pe_bl (pa_cons pe_bl (pa_cons pe_bl pa_nil))))) pa_nil)) (nomark _)))))))))))))))), ?_⟩
    obtain ⟨rfl, q⟩ := h
    unfold tSeq
    refine tasg_in ⟨by show 2 ≤ sizeLine; decide, fun s6 n6 => gname_in ?_⟩
    have G : Gr [] H (upd H s6 (.tup [.str "period", .int 6])) := Gr.new n6
    have h6 : (upd H s6 (.tup [.str "period", .int 6])) s6 = some (.tup (FV (.per 6))) := upd_same
    have d6 := FV_dp (K := K) (f := .per 6) (sq_tup h6)
    try dsimp only
    change tAsg _ _ _ _ (upd H s6 (.tup [.str "period", .int 6]))
    generalize (upd H s6 (.tup [.str "period", .int 6])) = H0 at G h6 d6 ⊢
    refine st_asgL (K := K) (el_lst (es_cons (ev_tup (es_cons (ev_tup (es_cons (ev_var rfl d6)
      es_nil))
      (es_cons (ev_int (i := (100 : Int)))
      (es_cons (ev_tup (es_cons (ev_int (i := (7 : Int)))
      (es_cons (ev_int (i := (13 : Int)))
      (es_cons (ev_int (i := (14 : Int)))
      (es_cons (ev_int (i := (21 : Int)))
      (es_cons (ev_int (i := (26 : Int)))
      (es_cons (ev_int (i := (28 : Int)))
      (es_cons (ev_int (i := (35 : Int)))
      (es_cons (ev_int (i := (39 : Int)))
      (es_cons (ev_int (i := (42 : Int)))
      (es_cons (ev_int (i := (52 : Int)))
      (es_cons (ev_int (i := (56 : Int)))
      (es_cons (ev_int (i := (63 : Int)))
      (es_cons (ev_int (i := (65 : Int)))
      (es_cons (ev_int (i := (70 : Int)))
      (es_cons (ev_int (i := (77 : Int)))
      (es_cons (ev_int (i := (78 : Int)))
      (es_cons (ev_int (i := (84 : Int)))
      (es_cons (ev_int (i := (91 : Int)))
      es_nil)))))))))))))))))))
      es_nil))))
      es_nil)) fun p0 xs0 Hx0 g0 hp0 ha0 => ?_
    replace h6 := g0 _ _ (by simp) h6
    replace d6 := Dp.kp (Kp.of g0) d6
    replace G := G.trans g0
    try dsimp only
    refine st_asgL (K := K) (el_cat (ev_varL rfl hp0 ha0) (el_lst (es_cons (ev_tup (es_cons (ev_tup (es_cons (ev_var rfl d6)
      (es_cons (ev_tup (es_cons (ev_str (i := Str.ofString "wheels"))
      (es_cons (ev_int (i := (2 : Int)))
      es_nil)))
      es_nil)))
      (es_cons (ev_int (i := (100 : Int)))
      (es_cons (ev_tup (es_cons (ev_int (i := (13 : Int)))
      (es_cons (ev_int (i := (21 : Int)))
      es_nil)))
      es_nil))))
      (es_cons (ev_tup (es_cons (ev_tup (es_cons (ev_tup (es_cons (ev_str (i := Str.ofString "head"))
      (es_cons (ev_int (i := (3 : Int)))
      es_nil)))
      es_nil))
      (es_cons (ev_int (i := (50 : Int)))
      (es_cons (ev_tup (es_cons (ev_int (i := (8 : Int)))
      (es_cons (ev_int (i := (24 : Int)))
      (es_cons (ev_int (i := (40 : Int)))
      es_nil))))
      es_nil))))
      es_nil)))) fun p1 xs1 Hx1 g1 hp1 ha1 => ?_
    replace h6 := g1 _ _ (by simp) h6
    replace d6 := Dp.kp (Kp.of g1) d6
    replace G := G.trans g1
    try dsimp only
    refine st_asgL (K := K) (el_cat (ev_varL rfl hp1 ha1) (el_lst (es_cons (ev_tup (es_cons (ev_tup (es_cons (ev_tup (es_cons (ev_str (i := Str.ofString "wheels"))
      (es_cons (ev_int (i := (1 : Int)))
      es_nil)))
      es_nil))
      (es_cons (ev_int (i := (20 : Int)))
      (es_cons (ev_tup (es_cons (ev_int (i := (1 : Int)))
      (es_cons (ev_int (i := (7 : Int)))
      (es_cons (ev_int (i := (17 : Int)))
      (es_cons (ev_int (i := (19 : Int)))
      es_nil)))))
      es_nil))))
      (es_cons (ev_tup (es_cons (ev_tup (es_cons (ev_tup (es_cons (ev_str (i := Str.ofString "balanced"))
      (es_cons (ev_int (i := (2 : Int)))
      (es_cons (ev_bl (i := true))
      es_nil))))
      (es_cons (ev_var rfl d6)
      es_nil)))
      (es_cons (ev_int (i := (100 : Int)))
      (es_cons (ev_tup (es_cons (ev_int (i := (7 : Int)))
      (es_cons (ev_int (i := (13 : Int)))
      (es_cons (ev_int (i := (77 : Int)))
      (es_cons (ev_int (i := (91 : Int)))
      es_nil)))))
      es_nil))))
      es_nil)))) fun p2 xs2 Hx2 g2 hp2 ha2 => ?_
    replace h6 := g2 _ _ (by simp) h6
    replace d6 := Dp.kp (Kp.of g2) d6
    replace G := G.trans g2
    try dsimp only
    refine st_asgL (K := K) (el_cat (ev_varL rfl hp2 ha2) (el_lst (es_cons (ev_tup (es_cons (ev_tup (es_cons (ev_tup (es_cons (ev_str (i := Str.ofString "period"))
      (es_cons (ev_int (i := (1 : Int)))
      es_nil)))
      (es_cons (ev_tup (es_cons (ev_str (i := Str.ofString "head"))
      (es_cons (ev_int (i := (0 : Int)))
      es_nil)))
      es_nil)))
      (es_cons (ev_int (i := (1000 : Int)))
      (es_cons (ev_tup (es_cons (ev_int (i := (1 : Int)))
      (es_cons (ev_int (i := (3 : Int)))
      (es_cons (ev_int (i := (9 : Int)))
      es_nil))))
      es_nil))))
      (es_cons (ev_tup (es_cons (ev_tup (es_cons (ev_tup (es_cons (ev_str (i := Str.ofString "power"))
      (es_cons (ev_int (i := (3 : Int)))
      (es_cons (ev_int (i := (1000 : Int)))
      es_nil))))
      es_nil))
      (es_cons (ev_int (i := (1000 : Int)))
      (es_cons (ev_tup es_nil)
      es_nil))))
      es_nil)))) fun p3 xs3 Hx3 g3 hp3 ha3 => ?_
    replace h6 := g3 _ _ (by simp) h6
    replace d6 := Dp.kp (Kp.of g3) d6
    replace G := G.trans g3
    try dsimp only
    refine st_asgL (K := K) (el_cat (ev_varL rfl hp3 ha3) (el_lst (es_cons (ev_tup (es_cons (ev_tup (es_cons (ev_tup (es_cons (ev_str (i := Str.ofString "power"))
      (es_cons (ev_int (i := (2 : Int)))
      (es_cons (ev_int (i := (4 : Int)))
      es_nil))))
      es_nil))
      (es_cons (ev_int (i := (100 : Int)))
      (es_cons (ev_tup (es_cons (ev_int (i := (6 : Int)))
      (es_cons (ev_int (i := (8 : Int)))
      (es_cons (ev_int (i := (12 : Int)))
      (es_cons (ev_int (i := (16 : Int)))
      (es_cons (ev_int (i := (24 : Int)))
      (es_cons (ev_int (i := (32 : Int)))
      (es_cons (ev_int (i := (48 : Int)))
      (es_cons (ev_int (i := (96 : Int)))
      es_nil)))))))))
      es_nil))))
      (es_cons (ev_tup (es_cons (ev_tup (es_cons (ev_tup (es_cons (ev_str (i := Str.ofString "balanced"))
      (es_cons (ev_int (i := (3 : Int)))
      (es_cons (ev_bl (i := false))
      es_nil))))
      es_nil))
      (es_cons (ev_int (i := (60 : Int)))
      (es_cons (ev_tup (es_cons (ev_int (i := (27 : Int)))
      es_nil))
      es_nil))))
      es_nil)))) fun p4 xs4 Hx4 g4 hp4 ha4 => ?_
    replace h6 := g4 _ _ (by simp) h6
    replace d6 := Dp.kp (Kp.of g4) d6
    replace G := G.trans g4
    try dsimp only
    have hR : DpAll K Hx4 xs4 (rowsH.map rowD) := ha4
    clear ha0 ha1 ha2 ha3 ha4 hp0 hp1 hp2 hp3 g0 g1 g2 g3 g4
    refine ⟨_, rfl, p4, rfl, ⟨_, sq_lst hp4⟩, ?_⟩
    refine for_list (K := K) (a := p4) (xs := xs4) (fun i σ H' => Gr [] Hx4 H' ∧ ∃ v2 v3 v4 v5, σ = [some (.ref s6), some (.ref p4), v2, v3, v4, v5]) ⟨Gr.refl _ _, none, none, none, none, rfl⟩ (fun i σ H' _ z => sq_lst (z.1 p4 _ (by simp) hp4)) ?_ ?_
    · rintro i x σ H' hx ⟨GA, v2, v3, v4, v5, rfl⟩
      obtain ⟨dd, hdd, dx⟩ := dpA_at hR hx
      rw [List.getElem?_map] at hdd
      obtain ⟨r, hr, rfl⟩ := Option.map_eq_some_iff.mp hdd
      have ro := rows_ok r (List.mem_of_getElem? hr)
      have dx := Dp.kp (Kp.of GA) dx
      unfold rowD at dx
      cases dx with
      | @tup ra ws _ rs ra2 =>
        cases ra2 with
        | @cons w1 _ ws1 _ e1 r1 =>
          cases r1 with
          | @cons w2 _ ws2 _ e2 r2 =>
            cases r2 with
            | @cons w3 _ ws3 _ e3 r3 =>
              cases r3
              cases e2
              obtain ⟨a, rfl, hQ⟩ := FQ.of e1 ro.l ro.f
              refine ⟨ra, _, rfl, rs, rfl, _, _, rfl, _, _, rfl, _, _, rfl, rfl, ?_⟩
              try dsimp only
              refine tifs_in (tt_of (K := K) (ev_ne (show EvD K _ _ _ (di r.due) from fun H1 g Q qq => ⟨_, rfl, _, rfl, 10, r.w, a, r.fs, rfl, ⟨by decide, by decide⟩, hQ.gr g, ro.w, ro.h, fun t H2 g2 ht => qq _ H2 g2 (dp_vnT (by rw [← ro.e]; exact ht))⟩) (ev_var rfl e3) (sm_ni ro.d ro.n).shaped2 (sm_ni ro.d ro.n).shaped2) (Gr.refl _ _) fun H2 g2 => iteFb (by rw [(sm_ni ro.d ro.n).eqv]; rfl) ?_)
              exact ⟨GA.trans g2, _, _, _, _, rfl⟩
    rintro σ HA ⟨GA, v2, v3, v4, v5, rfl⟩
    replace h6 := GA _ _ (by simp) h6
    replace G := G.trans GA
    obtain ⟨k30, hk, hk6, hkb⟩ : ∃ k : Nat, (10 : Int) ^ (30 : Int).toNat = (k : Int) ∧ k % 6 = 4 ∧ k ≤ 1000000000000000000000000000000 := ⟨1000000000000000000000000000000, ten30, by decide, by decide⟩
    try dsimp only
    refine st_asgL (K := K) (el_lst (es_cons (show EvD K _ _ _ (di [3, 5, 10, 12, 17, 19]) from fun H1 g Q qq => ⟨_, rfl, by show 1 ≤ sizeLine; decide, fun t nt => ⟨7, 20, t, [.per 6], rfl, ⟨by decide, by decide⟩, FQ.mk1 nt (f := .per 6) (sq_tup (g _ _ (by simp) h6)) ⟨by decide, by decide⟩, ⟨by decide, by decide⟩, wh_le (by decide), fun t2 H2 g2 ht => qq _ H2 ((Gr.new nt).trans g2) (dp_vnT (bas1 ▸ ht))⟩⟩)
      (es_cons (show EvD K _ _ _ (di [7, 14, 21, 28]) from fun H1 g Q qq => ⟨by show 2 ≤ sizeLine; decide, fun p np => ⟨by show 1 ≤ sizeLine; decide, fun t nt => ⟨7, 30, t, [.hd 1], rfl, ⟨by decide, by decide⟩, FQ.mk1 nt (f := .hd 1) (sq_tup upd_same) ⟨by decide, by decide⟩, ⟨by decide, by decide⟩, wh_le (by decide), fun t2 H2 g2 ht => qq _ H2 (((Gr.new np).trans (Gr.new nt)).trans g2) (dp_vnT (bas2 ▸ ht))⟩⟩⟩)
      (es_cons (show EvD K _ _ _ (di [2, 3, 4, 5]) from fun H1 g Q qq => ⟨by show 2 ≤ sizeLine; decide, fun p np => ⟨by show 2 ≤ sizeLine; decide, fun p2 np2 => ⟨by show 2 ≤ sizeLine; decide, fun t nt => ⟨1, 5, t, [.wh 1, .per 1], rfl, ⟨by decide, by decide⟩, FQ.mk2 nt (f := .wh 1) (g := .per 1) (sq_tup ((Gr.new (W := []) np2) p _ (by simp) upd_same)) (sq_tup upd_same) ⟨by decide, by decide⟩ ⟨by decide, by decide⟩, ⟨by decide, by decide⟩, wh_le (by decide), fun t2 H2 g2 ht => qq _ H2 ((((Gr.new np).trans (Gr.new np2)).trans (Gr.new nt)).trans g2) (dp_vnT (bas3 ▸ ht))⟩⟩⟩⟩)
      es_nil)))) fun pa xa Ha ga hpa haa => ?_
    replace G := G.trans ga
    try dsimp only
    refine tifs_in (tt_of (K := K) (ev_ne (ev_varL rfl hpa haa).d (ev_lst (es_cons (ev_tup (es_cons (ev_int (i := (3 : Int)))
      (es_cons (ev_int (i := (5 : Int)))
      (es_cons (ev_int (i := (10 : Int)))
      (es_cons (ev_int (i := (12 : Int)))
      (es_cons (ev_int (i := (17 : Int)))
      (es_cons (ev_int (i := (19 : Int)))
      es_nil)))))))
      (es_cons (ev_tup (es_cons (ev_int (i := (7 : Int)))
      (es_cons (ev_int (i := (14 : Int)))
      (es_cons (ev_int (i := (21 : Int)))
      (es_cons (ev_int (i := (28 : Int)))
      es_nil)))))
      (es_cons (ev_tup (es_cons (ev_int (i := (2 : Int)))
      (es_cons (ev_int (i := (3 : Int)))
      (es_cons (ev_int (i := (4 : Int)))
      (es_cons (ev_int (i := (5 : Int)))
      es_nil)))))
      es_nil)))) (by decide +kernel) (by decide +kernel)) (Gr.refl _ _) fun Hb gb => iteFb (by decide +kernel) ?_)
    replace G := G.trans gb
    dsimp only [tNext]
    refine tifs_in (tt_of (K := K) (ev_ne (show EvD K _ _ _ (di [1000]) from fun H1 g Q qq => ⟨by show 3 ≤ sizeLine; decide, fun p np => ⟨by show 1 ≤ sizeLine; decide, fun t nt => ⟨4999, 1000, t, [.po 1 1000], rfl, ⟨by decide, by decide⟩, FQ.mk1 nt (f := .po 1 1000) (sq_tup upd_same) ⟨⟨by decide, by decide⟩, by decide, by decide⟩, ⟨by decide, by decide⟩, wh_no rfl, fun t2 H2 g2 ht => qq _ H2 (((Gr.new np).trans (Gr.new nt)).trans g2) (dp_vnT (bas4 ▸ ht))⟩⟩⟩) (ev_tup (es_cons (ev_int (i := (1000 : Int)))
      es_nil)) (by decide +kernel) (by decide +kernel)) (Gr.refl _ _) fun Hc gc => iteFb (by decide +kernel) ?_)
    replace G := G.trans gc
    dsimp only [tNext]
    refine st_asgL (K := K) (el_lst (es_cons (show EvD K _ _ _ (.bool true) from fun H1 g Q qq => ⟨_, _, rfl, rfl, ⟨by decide, by decide, by decide⟩, by show 3 ≤ sizeLine; decide, fun p np => ⟨by show 1 ≤ sizeLine; decide, fun t nt => ⟨10, 7, t, [.po (k30 : Nat) 4], rfl, ⟨by decide, by decide, by decide, by decide⟩, FQ.mk1 nt (f := .po (k30 : Nat) 4) (sq_tup (by rw [upd_same]; exact congrArg (fun z => some (HO.tup [.str "power", .int z, .int 4])) hk)) ⟨⟨by omega, by omega⟩, by decide, by decide⟩, wh_no rfl, fun H2 g2 => by rw [so_far hk6]; exact qq _ H2 (((Gr.new np).trans (Gr.new nt)).trans g2) (.bl true)⟩⟩⟩)
      (es_cons (show EvD K _ _ _ (.bool true) from fun H1 g Q qq => ⟨by show 2 ≤ sizeLine; decide, fun p np => ⟨by show 3 ≤ sizeLine; decide, fun p2 np2 => ⟨by show 2 ≤ sizeLine; decide, fun t nt => ⟨10, 4999, t, [.hd 0, .po 0 1], rfl, ⟨by decide, by decide, by decide, by decide⟩, FQ.mk2 nt (f := .hd 0) (g := .po 0 1) (sq_tup ((Gr.new (W := []) np2) p _ (by simp) upd_same)) (sq_tup upd_same) ⟨by decide, by decide⟩ ⟨⟨by decide, by decide⟩, by decide, by decide⟩, wh_no rfl, fun H2 g2 => by rw [so_4999]; exact qq _ H2 ((((Gr.new np).trans (Gr.new np2)).trans (Gr.new nt)).trans g2) (.bl true)⟩⟩⟩⟩)
      es_nil))) fun pd xd Hd gd hpd had => ?_
    replace G := G.trans gd
    try dsimp only
    refine st_asgL (K := K) (el_cat (ev_varL rfl hpd had) (el_lst (es_cons (show EvD K _ _ _ (.bool false) from fun H1 g Q qq => ⟨by show 3 ≤ sizeLine; decide, fun p np => ⟨by show 1 ≤ sizeLine; decide, fun t nt => ⟨10, 1, t, [.ba 2 false], rfl, ⟨by decide, by decide, by decide, by decide⟩, FQ.mk1 nt (f := .ba 2 false) (sq_tup upd_same) ⟨by decide, by decide⟩, wh_no rfl, fun H2 g2 => by rw [so_1]; exact qq _ H2 (((Gr.new np).trans (Gr.new nt)).trans g2) (.bl false)⟩⟩⟩)
      (es_cons (show EvD K _ _ _ (.bool true) from fun H1 g Q qq => ⟨by show 3 ≤ sizeLine; decide, fun p np => ⟨by show 1 ≤ sizeLine; decide, fun t nt => ⟨10, 1, t, [.po 0 0], rfl, ⟨by decide, by decide, by decide, by decide⟩, FQ.mk1 nt (f := .po 0 0) (sq_tup upd_same) ⟨⟨by decide, by decide⟩, by decide, by decide⟩, wh_no rfl, fun H2 g2 => by rw [so_1p]; exact qq _ H2 (((Gr.new np).trans (Gr.new nt)).trans g2) (.bl true)⟩⟩⟩)
      es_nil)))) fun pe xe He ge hpe hae => ?_
    replace G := G.trans ge
    try dsimp only
    refine ⟨_, rfl, _, _, rfl, dp_lst hpe hae, fitB4, by show 4 ≤ sizeLine; decide, fun pf npf => ⟨_, .list [.bool true, .bool true, .bool false, .bool true], rfl, dp_lst upd_same (.cons (.bl _) (.cons (.bl _) (.cons (.bl _) (.cons (.bl _) .nil)))), fitB4, rfl, ?_⟩⟩
    have eB : ([.bool true, .bool true] ++ [.bool false, .bool true] : List PyData) = [.bool true, .bool true, .bool false, .bool true] := rfl
    rw [eB, decide_eq_true rfl]
    exact q _ (G.trans (Gr.new npf))

end
end Wn
namespace Wn
open PySem PySem.Spec PyProof.Rows L2
local macro_rules | `(tactic| walk_at "vc") => `(tactic| simp only [cxK, cxK2, start1, start2, start3, tRet, tRetN, tSeq, tNext, tIfS, tAsg, gName, tDrop, tVar, tC, tOp, tUn, tTest, tB, tNot, tAnd, tOr, tAndV, tOrV, tNotV, tIf, tCons, tNil, tCB, tCall, tChain, tAug, ipI, rI, rI0, rU, rIs, rGcd, rEq, rNe, scal,
  List.getElem?_cons_zero, List.getElem?_cons_succ, List.set_cons_zero, List.set_cons_succ, Option.some.injEq, List.cons.injEq, V.int.injEq, V.bl.injEq, V.ref.injEq, V.str.injEq, and_true, true_and, exists_eq_left, exists_eq_left', exists_and_left, exists_and_right, List.append_nil, List.nil_append, List.cons_append, exists_eq_right, exists_eq_right', and_assoc, exists_const, V.ty.injEq, ↓reduceIte, Bool.false_eq_true, Bool.not_true, Bool.not_false, decide_eq_true_eq])

section
variable {P : Program} {w : World} {K : PySem.W.Frag} {mg : Str → Option Value} {base : Heap}
def sp_law (K : PySem.W.Frag) : Sp := fun vs H Q _ => ∃ (a : Addr) (ns : List Int), vs = [.ref a] ∧ SqL K H a (ns.map V.int) ∧ ns.length ≤ 63 ∧ ∀ H', Q (.bl true) H'
theorem okG_law (T : Txt K mg) (Wd : WDs T w) : FnG P w K mg base CX0 10 T.d_law.f T.d_law.fd ["script"] (sp_law K) := by
  refine fnG0 T.d_law.F sc_law (fun vs H Q E h => ?_) (fun cdv A outer s H vs Q E hgd hr h => ?_)
  · obtain ⟨a, ns, rfl, _⟩ := h; rfl
  · have hu := hu_of hr
    refine ⟨_, (pss_cons (ps_for PassesOwn.never rfl (pi_range1 (by rfl) T.b_range (pa_cons (pe_op op_add pe_int (pe_callB (call_min2 rfl) (by rfl) T.b_min (by decide +kernel) (pa_cons (pe_callB (r := rLn K) call_ln (by rfl) T.b_len PySem.boot_len (pa_cons (pv 0) pa_nil)) (pa_cons pe_int pa_nil)))) pa_nil)) (pg_name (i := 1) sc_law.nd rfl (by first | exact .inl rfl | exact .inr rfl)) (pss_one (ps_if (pt_not (pt_val (pe_callG hgd (okG_law_right T Wd) (hr.mono (by decide)) (by rfl) T.d_law_right.m T.d_law_right.F.kp T.d_law_right.b .nil pass0 (pa_cons (pe_call (ok_law_begun T) (hr.mono (by decide)) (by rfl) T.d_law_begun.m T.d_law_begun.F.kp T.d_law_begun.b .nil pass0 (pa_cons (pv 0) (pa_cons (pv 1) pa_nil))) pa_nil)))) (pss_one (ps_ret pe_bl)) pss_nil)))
      (pss_one (ps_ret (pe_callG0 hgd (okG_law_hand_right T Wd) (hr.mono (by decide)) (by rfl) T.d_law_hand_right.m T.d_law_hand_right.F.kp T.d_law_hand_right.b .nil pass0)))), ?_⟩
    obtain ⟨a, ns, rfl, hS, hn, q⟩ := h
    refine ⟨_, rfl, a, _, rfl, .inl hS, _, _, rfl, ?_⟩
    rw [List.length_map]
    obtain ⟨N, eN, hN⟩ : ∃ N : Nat, (2 : Int) + (if (4 : Int) < (ns.length : Int) then (4 : Int) else (ns.length : Int)) = (N : Int) ∧ N ≤ 6 := by
      split
      · exact ⟨6, rfl, by decide⟩
      · exact ⟨2 + ns.length, by omega, by omega⟩
    refine ⟨_, _, rfl, rfl, ?_⟩
    refine ⟨(N : Int), congrArg (fun z => [V.int z]) eN, by omega, by omega, ?_⟩
    refine for_range (D := ⟨_, Q, fun _ _ => False, fun _ _ => False⟩) (lo := 0) (n := ((N : Int) - 0).toNat) (fun i σ H' => Gr [] H H' ∧ ∃ v1, σ = [some (.ref a), v1]) ⟨Gr.refl _ _, none, rfl⟩ ?_ ?_
    · rintro i σ H' hi ⟨G, v1, rfl⟩
      have ei : (0 : Int) + (i : Int) = ((i : Nat) : Int) := by omega
      rw [ei]
      refine gname_in ?_
      try dsimp only
      refine ⟨_, rfl, _, rfl, a, ns, i, rfl, (Kp.of G).sqL hS, hn, by omega, fun d H1 nd g1 M1 => ?_⟩
      refine ⟨d, 0, rfl, M1, by decide, fun H2 g2 => ⟨true, rfl, iteF ?_⟩⟩
      exact ⟨G.trans (fresh_keep nd g1 g2), _, rfl⟩
    rintro σ H2 ⟨g2, v1, rfl⟩
    exact ⟨rfl, fun H3 g3 => q H3⟩

end
end Wn
namespace Wn
open PySem PySem.Spec PyProof.Rows L2
theorem all_mkH {l : PySem.W.OpenLaw} {w : World} {K : PySem.W.Frag} {h : Heap} {mg : Str → Option Value} {fa : Addr} (X : K.In h) (G : h.Ns mainGlobals mg) (hfa : mg "law" = some (.ref fa)) (c : SaysW asksH w K) :
    ∃ (fd : FuncData) (sp : Sp), (∀ (s : Shared) (v : Value), BindsTo s fd ⟨[v], []⟩ [("script", v)]) ∧
      (∀ (H : Hp) (a : Addr) (ns : List Int), ns.length ≤ 63 → Only H → SqL K H a (ns.map V.int) → sp [.ref a] H (fun v _ => v = .bl true) fun _ _ _ => False) ∧
      ∀ base : Heap, K.In base → base.Ns mainGlobals mg → FnG l.prog w K mg base CX0 10 fa fd ["script"] sp := by
  have a_is_integer : PySem.W.nsIn K mainGlobals "is_integer" = some (some (.ref (He.ga K "is_integer"))) := of_decide_eq_true (c.b 0)
  obtain ⟨fd_is_integer, FD_is_integer⟩ := c.def_ 0
  have a_is_within : PySem.W.nsIn K mainGlobals "is_within" = some (some (.ref (He.ga K "is_within"))) := of_decide_eq_true (c.b 1)
  obtain ⟨fd_is_within, FD_is_within⟩ := c.def_ 1
  have a_need_base : PySem.W.nsIn K mainGlobals "need_base" = some (some (.ref (He.ga K "need_base"))) := of_decide_eq_true (c.b 2)
  obtain ⟨fd_need_base, FD_need_base⟩ := c.def_ 2
  have a_need_denominator : PySem.W.nsIn K mainGlobals "need_denominator" = some (some (.ref (He.ga K "need_denominator"))) := of_decide_eq_true (c.b 3)
  obtain ⟨fd_need_denominator, FD_need_denominator⟩ := c.def_ 3
  have a_pure_part : PySem.W.nsIn K mainGlobals "pure_part" = some (some (.ref (He.ga K "pure_part"))) := of_decide_eq_true (c.b 4)
  obtain ⟨fd_pure_part, FD_pure_part⟩ := c.def_ 4
  have a_period : PySem.W.nsIn K mainGlobals "period" = some (some (.ref (He.ga K "period"))) := of_decide_eq_true (c.b 5)
  obtain ⟨fd_period, FD_period⟩ := c.def_ 5
  have a_head_size : PySem.W.nsIn K mainGlobals "head_size" = some (some (.ref (He.ga K "head_size"))) := of_decide_eq_true (c.b 6)
  obtain ⟨fd_head_size, FD_head_size⟩ := c.def_ 6
  have a_power : PySem.W.nsIn K mainGlobals "power" = some (some (.ref (He.ga K "power"))) := of_decide_eq_true (c.b 7)
  obtain ⟨fd_power, FD_power⟩ := c.def_ 7
  have a_power_rest : PySem.W.nsIn K mainGlobals "power_rest" = some (some (.ref (He.ga K "power_rest"))) := of_decide_eq_true (c.b 8)
  obtain ⟨fd_power_rest, FD_power_rest⟩ := c.def_ 8
  have a_prime_powers : PySem.W.nsIn K mainGlobals "prime_powers" = some (some (.ref (He.ga K "prime_powers"))) := of_decide_eq_true (c.b 9)
  obtain ⟨fd_prime_powers, FD_prime_powers⟩ := c.def_ 9
  have a_spaced : PySem.W.nsIn K mainGlobals "spaced" = some (some (.ref (He.ga K "spaced"))) := of_decide_eq_true (c.b 10)
  obtain ⟨fd_spaced, FD_spaced⟩ := c.def_ 10
  have a_is_balanced_with : PySem.W.nsIn K mainGlobals "is_balanced_with" = some (some (.ref (He.ga K "is_balanced_with"))) := of_decide_eq_true (c.b 11)
  obtain ⟨fd_is_balanced_with, FD_is_balanced_with⟩ := c.def_ 11
  have a_is_fact : PySem.W.nsIn K mainGlobals "is_fact" = some (some (.ref (He.ga K "is_fact"))) := of_decide_eq_true (c.b 12)
  obtain ⟨fd_is_fact, FD_is_fact⟩ := c.def_ 12
  have a_need_facts : PySem.W.nsIn K mainGlobals "need_facts" = some (some (.ref (He.ga K "need_facts"))) := of_decide_eq_true (c.b 13)
  obtain ⟨fd_need_facts, FD_need_facts⟩ := c.def_ 13
  have a_residue_count : PySem.W.nsIn K mainGlobals "residue_count" = some (some (.ref (He.ga K "residue_count"))) := of_decide_eq_true (c.b 14)
  obtain ⟨fd_residue_count, FD_residue_count⟩ := c.def_ 14
  have a_holds : PySem.W.nsIn K mainGlobals "holds" = some (some (.ref (He.ga K "holds"))) := of_decide_eq_true (c.b 15)
  obtain ⟨fd_holds, FD_holds⟩ := c.def_ 15
  have a_satisfy : PySem.W.nsIn K mainGlobals "satisfy" = some (some (.ref (He.ga K "satisfy"))) := of_decide_eq_true (c.b 16)
  obtain ⟨fd_satisfy, FD_satisfy⟩ := c.def_ 16
  have a_is_satisfied : PySem.W.nsIn K mainGlobals "is_satisfied" = some (some (.ref (He.ga K "is_satisfied"))) := of_decide_eq_true (c.b 17)
  obtain ⟨fd_is_satisfied, FD_is_satisfied⟩ := c.def_ 17
  have a_denominators_by : PySem.W.nsIn K mainGlobals "denominators_by" = some (some (.ref (He.ga K "denominators_by"))) := of_decide_eq_true (c.b 18)
  obtain ⟨fd_denominators_by, FD_denominators_by⟩ := c.def_ 18
  have a_bases_by : PySem.W.nsIn K mainGlobals "bases_by" = some (some (.ref (He.ga K "bases_by"))) := of_decide_eq_true (c.b 19)
  obtain ⟨fd_bases_by, FD_bases_by⟩ := c.def_ 19
  have a_law_begun : PySem.W.nsIn K mainGlobals "_law_begun" = some (some (.ref (He.ga K "_law_begun"))) := of_decide_eq_true (c.b 20)
  obtain ⟨fd_law_begun, FD_law_begun⟩ := c.def_ 20
  have a_law_draw : PySem.W.nsIn K mainGlobals "_law_draw" = some (some (.ref (He.ga K "_law_draw"))) := of_decide_eq_true (c.b 21)
  obtain ⟨fd_law_draw, FD_law_draw⟩ := c.def_ 21
  have a_law_of : PySem.W.nsIn K mainGlobals "_law_of" = some (some (.ref (He.ga K "_law_of"))) := of_decide_eq_true (c.b 22)
  obtain ⟨fd_law_of, FD_law_of⟩ := c.def_ 22
  have a_law_divisor : PySem.W.nsIn K mainGlobals "_law_divisor" = some (some (.ref (He.ga K "_law_divisor"))) := of_decide_eq_true (c.b 23)
  obtain ⟨fd_law_divisor, FD_law_divisor⟩ := c.def_ 23
  have a_law_powers : PySem.W.nsIn K mainGlobals "_law_powers" = some (some (.ref (He.ga K "_law_powers"))) := of_decide_eq_true (c.b 24)
  obtain ⟨fd_law_powers, FD_law_powers⟩ := c.def_ 24
  have a_law_period : PySem.W.nsIn K mainGlobals "_law_period" = some (some (.ref (He.ga K "_law_period"))) := of_decide_eq_true (c.b 25)
  obtain ⟨fd_law_period, FD_law_period⟩ := c.def_ 25
  have a_law_units : PySem.W.nsIn K mainGlobals "_law_units" = some (some (.ref (He.ga K "_law_units"))) := of_decide_eq_true (c.b 26)
  obtain ⟨fd_law_units, FD_law_units⟩ := c.def_ 26
  have a_law_raised : PySem.W.nsIn K mainGlobals "_law_raised" = some (some (.ref (He.ga K "_law_raised"))) := of_decide_eq_true (c.b 27)
  obtain ⟨fd_law_raised, FD_law_raised⟩ := c.def_ 27
  have a_law_is_so : PySem.W.nsIn K mainGlobals "_law_is_so" = some (some (.ref (He.ga K "_law_is_so"))) := of_decide_eq_true (c.b 28)
  obtain ⟨fd_law_is_so, FD_law_is_so⟩ := c.def_ 28
  have a_law_are_so : PySem.W.nsIn K mainGlobals "_law_are_so" = some (some (.ref (He.ga K "_law_are_so"))) := of_decide_eq_true (c.b 29)
  obtain ⟨fd_law_are_so, FD_law_are_so⟩ := c.def_ 29
  have a_law_fact : PySem.W.nsIn K mainGlobals "_law_fact" = some (some (.ref (He.ga K "_law_fact"))) := of_decide_eq_true (c.b 30)
  obtain ⟨fd_law_fact, FD_law_fact⟩ := c.def_ 30
  have a_law_right : PySem.W.nsIn K mainGlobals "_law_right" = some (some (.ref (He.ga K "_law_right"))) := of_decide_eq_true (c.b 31)
  obtain ⟨fd_law_right, FD_law_right⟩ := c.def_ 31
  have a_law_hand_right : PySem.W.nsIn K mainGlobals "_law_hand_right" = some (some (.ref (He.ga K "_law_hand_right"))) := of_decide_eq_true (c.b 32)
  obtain ⟨fd_law_hand_right, FD_law_hand_right⟩ := c.def_ 32
  have a_law : PySem.W.nsIn K mainGlobals "law" = some (some (.ref (He.ga K "law"))) := of_decide_eq_true (c.b 33)
  obtain ⟨fd_law, FD_law⟩ := c.def_ 33
  have znl : PySem.W.nsIn K cStatics "sys.int_max_str_digits" = some none := of_decide_eq_true (c.b 34)
  have zb_isinstance : PySem.W.nsIn K mainGlobals "isinstance" = some none := of_decide_eq_true (c.b 35)
  have zb_int : PySem.W.nsIn K mainGlobals "int" = some none := of_decide_eq_true (c.b 36)
  have zb_bool : PySem.W.nsIn K mainGlobals "bool" = some none := of_decide_eq_true (c.b 37)
  have zb_str : PySem.W.nsIn K mainGlobals "str" = some none := of_decide_eq_true (c.b 38)
  have zb_len : PySem.W.nsIn K mainGlobals "len" = some none := of_decide_eq_true (c.b 39)
  have zb_range : PySem.W.nsIn K mainGlobals "range" = some none := of_decide_eq_true (c.b 40)
  have zb_tuple : PySem.W.nsIn K mainGlobals "tuple" = some none := of_decide_eq_true (c.b 41)
  have zb_sum : PySem.W.nsIn K mainGlobals "sum" = some none := of_decide_eq_true (c.b 42)
  have zb_max : PySem.W.nsIn K mainGlobals "max" = some none := of_decide_eq_true (c.b 43)
  have zb_min : PySem.W.nsIn K mainGlobals "min" = some none := of_decide_eq_true (c.b 44)
  have zb_repr : PySem.W.nsIn K mainGlobals "repr" = some none := of_decide_eq_true (c.b 45)
  have zb_enumerate : PySem.W.nsIn K mainGlobals "enumerate" = some none := of_decide_eq_true (c.b 46)
  have zb_all : PySem.W.nsIn K mainGlobals "all" = some none := of_decide_eq_true (c.b 47)
  have zb_zip : PySem.W.nsIn K mainGlobals "zip" = some none := of_decide_eq_true (c.b 48)
  have zb_gcd : PySem.W.nsIn K mainGlobals "gcd" = some (some (.builtin "math.gcd")) := of_decide_eq_true (c.b 49)
  have gw_RANGES : PySem.W.nsIn K mainGlobals "RANGES" = some (some (.ref (He.ga K "RANGES"))) := of_decide_eq_true (c.b 50)
  have wr_RANGES : rowsB K (He.ga K "RANGES") [V.ref (kAt K (He.ga K "RANGES") "period"), V.ref (kAt K (He.ga K "RANGES") "head"), V.ref (kAt K (He.ga K "RANGES") "wheels"), V.ref (kAt K (He.ga K "RANGES") "power")] = true := c.b 51
  have sq_period : ∀ H, SqT K H (kAt K (He.ga K "RANGES") "period") [V.ref (tAtK K (kAt K (He.ga K "RANGES") "period") 0)] := seqB_ok (c.b 52)
  have sq0_period : ∀ H, SqT K H (tAtK K (kAt K (He.ga K "RANGES") "period") 0) [V.int 1, V.int 5000] := seqB_ok (c.b 53)
  have sq_head : ∀ H, SqT K H (kAt K (He.ga K "RANGES") "head") [V.ref (tAtK K (kAt K (He.ga K "RANGES") "head") 0)] := seqB_ok (c.b 54)
  have sq0_head : ∀ H, SqT K H (tAtK K (kAt K (He.ga K "RANGES") "head") 0) [V.int 0, V.int 20] := seqB_ok (c.b 55)
  have sq_wheels : ∀ H, SqT K H (kAt K (He.ga K "RANGES") "wheels") [V.ref (tAtK K (kAt K (He.ga K "RANGES") "wheels") 0)] := seqB_ok (c.b 56)
  have sq0_wheels : ∀ H, SqT K H (tAtK K (kAt K (He.ga K "RANGES") "wheels") 0) [V.int 1, V.int 5000] := seqB_ok (c.b 57)
  have sq_power : ∀ H, SqT K H (kAt K (He.ga K "RANGES") "power") [V.ref (tAtK K (kAt K (He.ga K "RANGES") "power") 0), V.ref (tAtK K (kAt K (He.ga K "RANGES") "power") 1)] := seqB_ok (c.b 58)
  have sq0_power : ∀ H, SqT K H (tAtK K (kAt K (He.ga K "RANGES") "power") 0) [V.int 0, V.int 1000000000000000000000000000000] := seqB_ok (c.b 59)
  have sq1_power : ∀ H, SqT K H (tAtK K (kAt K (He.ga K "RANGES") "power") 1) [V.int 0, V.int 4999] := seqB_ok (c.b 60)
  obtain ⟨t_MOST_BASE, zc_MOST_BASE⟩ := intB_ok (K := K) (x := "MOST_BASE") (i := 1000) (c.b 61)
  obtain ⟨t_MOST_DENOMINATOR, zc_MOST_DENOMINATOR⟩ := intB_ok (K := K) (x := "MOST_DENOMINATOR") (i := 5000) (c.b 62)
  obtain ⟨t_MOST_FACTS, zc_MOST_FACTS⟩ := intB_ok (K := K) (x := "MOST_FACTS") (i := 10) (c.b 63)
  obtain ⟨t_GREATEST_BOUND, zc_GREATEST_BOUND⟩ := intB_ok (K := K) (x := "GREATEST_BOUND") (i := 1000) (c.b 64)
  have wd_RANGES : WDict K w (He.ga K "RANGES") [("period", .ref (kAt K (He.ga K "RANGES") "period")), ("head", .ref (kAt K (He.ga K "RANGES") "head")), ("wheels", .ref (kAt K (He.ga K "RANGES") "wheels")), ("power", .ref (kAt K (He.ga K "RANGES") "power"))] := ⟨by
    obtain ⟨es, n, h1, h2, h3, h4⟩ := dic_ok (vs := ([("period", .ref (kAt K (He.ga K "RANGES") "period")), ("head", .ref (kAt K (He.ga K "RANGES") "head")), ("wheels", .ref (kAt K (He.ga K "RANGES") "wheels")), ("power", .ref (kAt K (He.ga K "RANGES") "power"))] : List (Str × V)).map (·.2)) (ks := ([("period", .ref (kAt K (He.ga K "RANGES") "period")), ("head", .ref (kAt K (He.ga K "RANGES") "head")), ("wheels", .ref (kAt K (He.ga K "RANGES") "wheels")), ("power", .ref (kAt K (He.ga K "RANGES") "power"))] : List (Str × V)).map (·.1)) (c.tab 0) wr_RANGES
    exact ⟨es, n, h1, h2, dic_rows h3 h4⟩⟩
  obtain ⟨T, hTT⟩ : ∃ T : Txt K mg, T = {
    d_is_integer := Dn.ofF FD_is_integer (fun _ _ _ _ _ _ us hl => match us, hl with | [_], _ => rfl) (PySem.W.mg_of X G a_is_integer)
    d_is_within := Dn.ofF FD_is_within (fun _ _ _ _ _ _ us hl => match us, hl with | [_, _, _], _ => rfl) (PySem.W.mg_of X G a_is_within)
    d_need_base := Dn.ofF FD_need_base (fun _ _ _ _ _ _ us hl => match us, hl with | [_], _ => rfl) (PySem.W.mg_of X G a_need_base)
    d_need_denominator := Dn.ofF FD_need_denominator (fun _ _ _ _ _ _ us hl => match us, hl with | [_], _ => rfl) (PySem.W.mg_of X G a_need_denominator)
    d_pure_part := Dn.ofF FD_pure_part (fun _ _ _ _ _ _ us hl => match us, hl with | [_, _], _ => rfl) (PySem.W.mg_of X G a_pure_part)
    d_period := Dn.ofF FD_period (fun _ _ _ _ _ _ us hl => match us, hl with | [_, _], _ => rfl) (PySem.W.mg_of X G a_period)
    d_head_size := Dn.ofF FD_head_size (fun _ _ _ _ _ _ us hl => match us, hl with | [_, _], _ => rfl) (PySem.W.mg_of X G a_head_size)
    d_power := Dn.ofF FD_power (fun _ _ _ _ _ _ us hl => match us, hl with | [_, _], _ => rfl) (PySem.W.mg_of X G a_power)
    d_power_rest := Dn.ofF FD_power_rest (fun _ _ _ _ _ _ us hl => match us, hl with | [_, _, _], _ => rfl) (PySem.W.mg_of X G a_power_rest)
    d_prime_powers := Dn.ofF FD_prime_powers (fun _ _ _ _ _ _ us hl => match us, hl with | [_], _ => rfl) (PySem.W.mg_of X G a_prime_powers)
    d_spaced := Dn.ofF FD_spaced (fun _ _ _ _ _ _ us hl => match us, hl with | [_, _, _, _], _ => rfl) (PySem.W.mg_of X G a_spaced)
    d_is_balanced_with := Dn.ofF FD_is_balanced_with (fun _ _ _ _ _ _ us hl => match us, hl with | [_, _, _, _], _ => rfl) (PySem.W.mg_of X G a_is_balanced_with)
    d_is_fact := Dn.ofF FD_is_fact (fun _ _ _ _ _ _ us hl => match us, hl with | [_], _ => rfl) (PySem.W.mg_of X G a_is_fact)
    d_need_facts := Dn.ofF FD_need_facts (fun _ _ _ _ _ _ us hl => match us, hl with | [_], _ => rfl) (PySem.W.mg_of X G a_need_facts)
    d_residue_count := Dn.ofF FD_residue_count (fun _ _ _ _ _ _ us hl => match us, hl with | [_], _ => rfl) (PySem.W.mg_of X G a_residue_count)
    d_holds := Dn.ofF FD_holds (fun _ _ _ _ _ _ us hl => match us, hl with | [_, _, _, _], _ => rfl) (PySem.W.mg_of X G a_holds)
    d_satisfy := Dn.ofF FD_satisfy (fun _ _ _ _ _ _ us hl => match us, hl with | [_, _, _], _ => rfl) (PySem.W.mg_of X G a_satisfy)
    d_is_satisfied := Dn.ofF FD_is_satisfied (fun _ _ _ _ _ _ us hl => match us, hl with | [_, _, _], _ => rfl) (PySem.W.mg_of X G a_is_satisfied)
    d_denominators_by := Dn.ofF FD_denominators_by (fun _ _ _ _ _ _ us hl => match us, hl with | [_, _, _], _ => rfl) (PySem.W.mg_of X G a_denominators_by)
    d_bases_by := Dn.ofF FD_bases_by (fun _ _ _ _ _ _ us hl => match us, hl with | [_, _, _], _ => rfl) (PySem.W.mg_of X G a_bases_by)
    d_law_begun := Dn.ofF FD_law_begun (fun _ _ _ _ _ _ us hl => match us, hl with | [_, _], _ => rfl) (PySem.W.mg_of X G a_law_begun)
    d_law_draw := Dn.ofF FD_law_draw (fun _ _ _ _ _ _ us hl => match us, hl with | [_, _], _ => rfl) (PySem.W.mg_of X G a_law_draw)
    d_law_of := Dn.ofF FD_law_of (fun _ _ _ _ _ _ us hl => match us, hl with | [_, _], _ => rfl) (PySem.W.mg_of X G a_law_of)
    d_law_divisor := Dn.ofF FD_law_divisor (fun _ _ _ _ _ _ us hl => match us, hl with | [_, _], _ => rfl) (PySem.W.mg_of X G a_law_divisor)
    d_law_powers := Dn.ofF FD_law_powers (fun _ _ _ _ _ _ us hl => match us, hl with | [_, _], _ => rfl) (PySem.W.mg_of X G a_law_powers)
    d_law_period := Dn.ofF FD_law_period (fun _ _ _ _ _ _ us hl => match us, hl with | [_, _], _ => rfl) (PySem.W.mg_of X G a_law_period)
    d_law_units := Dn.ofF FD_law_units (fun _ _ _ _ _ _ us hl => match us, hl with | [_], _ => rfl) (PySem.W.mg_of X G a_law_units)
    d_law_raised := Dn.ofF FD_law_raised (fun _ _ _ _ _ _ us hl => match us, hl with | [_, _, _], _ => rfl) (PySem.W.mg_of X G a_law_raised)
    d_law_is_so := Dn.ofF FD_law_is_so (fun _ _ _ _ _ _ us hl => match us, hl with | [_, _, _], _ => rfl) (PySem.W.mg_of X G a_law_is_so)
    d_law_are_so := Dn.ofF FD_law_are_so (fun _ _ _ _ _ _ us hl => match us, hl with | [_, _, _], _ => rfl) (PySem.W.mg_of X G a_law_are_so)
    d_law_fact := Dn.ofF FD_law_fact (fun _ _ _ _ _ _ us hl => match us, hl with | [_, _, _], _ => rfl) (PySem.W.mg_of X G a_law_fact)
    d_law_right := Dn.ofF FD_law_right (fun _ _ _ _ _ _ us hl => match us, hl with | [_], _ => rfl) (PySem.W.mg_of X G a_law_right)
    d_law_hand_right := Dn.ofF FD_law_hand_right (fun _ _ _ _ _ _ us hl => match us, hl with | [], _ => rfl) (PySem.W.mg_of X G a_law_hand_right)
    d_law := Dn.ofF FD_law (fun _ _ _ _ _ _ us hl => match us, hl with | [_], _ => rfl) (PySem.W.mg_of X G a_law)
    nolim := znl
    b_isinstance := PySem.W.mg_none_of X G zb_isinstance
    b_int := PySem.W.mg_none_of X G zb_int
    b_bool := PySem.W.mg_none_of X G zb_bool
    b_str := PySem.W.mg_none_of X G zb_str
    b_len := PySem.W.mg_none_of X G zb_len
    b_range := PySem.W.mg_none_of X G zb_range
    b_tuple := PySem.W.mg_none_of X G zb_tuple
    b_sum := PySem.W.mg_none_of X G zb_sum
    b_max := PySem.W.mg_none_of X G zb_max
    b_min := PySem.W.mg_none_of X G zb_min
    b_repr := PySem.W.mg_none_of X G zb_repr
    b_enumerate := PySem.W.mg_none_of X G zb_enumerate
    b_all := PySem.W.mg_none_of X G zb_all
    b_zip := PySem.W.mg_none_of X G zb_zip
    b_gcd := PySem.W.mg_of X G zb_gcd
    w_RANGES := (He.ga K "RANGES")
    g_RANGES := PySem.W.mg_of X G gw_RANGES
    t_MOST_BASE := t_MOST_BASE
    c_MOST_BASE := PySem.W.mg_of X G zc_MOST_BASE
    t_MOST_DENOMINATOR := t_MOST_DENOMINATOR
    c_MOST_DENOMINATOR := PySem.W.mg_of X G zc_MOST_DENOMINATOR
    t_MOST_FACTS := t_MOST_FACTS
    c_MOST_FACTS := PySem.W.mg_of X G zc_MOST_FACTS
    t_GREATEST_BOUND := t_GREATEST_BOUND
    c_GREATEST_BOUND := PySem.W.mg_of X G zc_GREATEST_BOUND
  } := ⟨{
    d_is_integer := Dn.ofF FD_is_integer (fun _ _ _ _ _ _ us hl => match us, hl with | [_], _ => rfl) (PySem.W.mg_of X G a_is_integer)
    d_is_within := Dn.ofF FD_is_within (fun _ _ _ _ _ _ us hl => match us, hl with | [_, _, _], _ => rfl) (PySem.W.mg_of X G a_is_within)
    d_need_base := Dn.ofF FD_need_base (fun _ _ _ _ _ _ us hl => match us, hl with | [_], _ => rfl) (PySem.W.mg_of X G a_need_base)
    d_need_denominator := Dn.ofF FD_need_denominator (fun _ _ _ _ _ _ us hl => match us, hl with | [_], _ => rfl) (PySem.W.mg_of X G a_need_denominator)
    d_pure_part := Dn.ofF FD_pure_part (fun _ _ _ _ _ _ us hl => match us, hl with | [_, _], _ => rfl) (PySem.W.mg_of X G a_pure_part)
    d_period := Dn.ofF FD_period (fun _ _ _ _ _ _ us hl => match us, hl with | [_, _], _ => rfl) (PySem.W.mg_of X G a_period)
    d_head_size := Dn.ofF FD_head_size (fun _ _ _ _ _ _ us hl => match us, hl with | [_, _], _ => rfl) (PySem.W.mg_of X G a_head_size)
    d_power := Dn.ofF FD_power (fun _ _ _ _ _ _ us hl => match us, hl with | [_, _], _ => rfl) (PySem.W.mg_of X G a_power)
    d_power_rest := Dn.ofF FD_power_rest (fun _ _ _ _ _ _ us hl => match us, hl with | [_, _, _], _ => rfl) (PySem.W.mg_of X G a_power_rest)
    d_prime_powers := Dn.ofF FD_prime_powers (fun _ _ _ _ _ _ us hl => match us, hl with | [_], _ => rfl) (PySem.W.mg_of X G a_prime_powers)
    d_spaced := Dn.ofF FD_spaced (fun _ _ _ _ _ _ us hl => match us, hl with | [_, _, _, _], _ => rfl) (PySem.W.mg_of X G a_spaced)
    d_is_balanced_with := Dn.ofF FD_is_balanced_with (fun _ _ _ _ _ _ us hl => match us, hl with | [_, _, _, _], _ => rfl) (PySem.W.mg_of X G a_is_balanced_with)
    d_is_fact := Dn.ofF FD_is_fact (fun _ _ _ _ _ _ us hl => match us, hl with | [_], _ => rfl) (PySem.W.mg_of X G a_is_fact)
    d_need_facts := Dn.ofF FD_need_facts (fun _ _ _ _ _ _ us hl => match us, hl with | [_], _ => rfl) (PySem.W.mg_of X G a_need_facts)
    d_residue_count := Dn.ofF FD_residue_count (fun _ _ _ _ _ _ us hl => match us, hl with | [_], _ => rfl) (PySem.W.mg_of X G a_residue_count)
    d_holds := Dn.ofF FD_holds (fun _ _ _ _ _ _ us hl => match us, hl with | [_, _, _, _], _ => rfl) (PySem.W.mg_of X G a_holds)
    d_satisfy := Dn.ofF FD_satisfy (fun _ _ _ _ _ _ us hl => match us, hl with | [_, _, _], _ => rfl) (PySem.W.mg_of X G a_satisfy)
    d_is_satisfied := Dn.ofF FD_is_satisfied (fun _ _ _ _ _ _ us hl => match us, hl with | [_, _, _], _ => rfl) (PySem.W.mg_of X G a_is_satisfied)
    d_denominators_by := Dn.ofF FD_denominators_by (fun _ _ _ _ _ _ us hl => match us, hl with | [_, _, _], _ => rfl) (PySem.W.mg_of X G a_denominators_by)
    d_bases_by := Dn.ofF FD_bases_by (fun _ _ _ _ _ _ us hl => match us, hl with | [_, _, _], _ => rfl) (PySem.W.mg_of X G a_bases_by)
    d_law_begun := Dn.ofF FD_law_begun (fun _ _ _ _ _ _ us hl => match us, hl with | [_, _], _ => rfl) (PySem.W.mg_of X G a_law_begun)
    d_law_draw := Dn.ofF FD_law_draw (fun _ _ _ _ _ _ us hl => match us, hl with | [_, _], _ => rfl) (PySem.W.mg_of X G a_law_draw)
    d_law_of := Dn.ofF FD_law_of (fun _ _ _ _ _ _ us hl => match us, hl with | [_, _], _ => rfl) (PySem.W.mg_of X G a_law_of)
    d_law_divisor := Dn.ofF FD_law_divisor (fun _ _ _ _ _ _ us hl => match us, hl with | [_, _], _ => rfl) (PySem.W.mg_of X G a_law_divisor)
    d_law_powers := Dn.ofF FD_law_powers (fun _ _ _ _ _ _ us hl => match us, hl with | [_, _], _ => rfl) (PySem.W.mg_of X G a_law_powers)
    d_law_period := Dn.ofF FD_law_period (fun _ _ _ _ _ _ us hl => match us, hl with | [_, _], _ => rfl) (PySem.W.mg_of X G a_law_period)
    d_law_units := Dn.ofF FD_law_units (fun _ _ _ _ _ _ us hl => match us, hl with | [_], _ => rfl) (PySem.W.mg_of X G a_law_units)
    d_law_raised := Dn.ofF FD_law_raised (fun _ _ _ _ _ _ us hl => match us, hl with | [_, _, _], _ => rfl) (PySem.W.mg_of X G a_law_raised)
    d_law_is_so := Dn.ofF FD_law_is_so (fun _ _ _ _ _ _ us hl => match us, hl with | [_, _, _], _ => rfl) (PySem.W.mg_of X G a_law_is_so)
    d_law_are_so := Dn.ofF FD_law_are_so (fun _ _ _ _ _ _ us hl => match us, hl with | [_, _, _], _ => rfl) (PySem.W.mg_of X G a_law_are_so)
    d_law_fact := Dn.ofF FD_law_fact (fun _ _ _ _ _ _ us hl => match us, hl with | [_, _, _], _ => rfl) (PySem.W.mg_of X G a_law_fact)
    d_law_right := Dn.ofF FD_law_right (fun _ _ _ _ _ _ us hl => match us, hl with | [_], _ => rfl) (PySem.W.mg_of X G a_law_right)
    d_law_hand_right := Dn.ofF FD_law_hand_right (fun _ _ _ _ _ _ us hl => match us, hl with | [], _ => rfl) (PySem.W.mg_of X G a_law_hand_right)
    d_law := Dn.ofF FD_law (fun _ _ _ _ _ _ us hl => match us, hl with | [_], _ => rfl) (PySem.W.mg_of X G a_law)
    nolim := znl
    b_isinstance := PySem.W.mg_none_of X G zb_isinstance
    b_int := PySem.W.mg_none_of X G zb_int
    b_bool := PySem.W.mg_none_of X G zb_bool
    b_str := PySem.W.mg_none_of X G zb_str
    b_len := PySem.W.mg_none_of X G zb_len
    b_range := PySem.W.mg_none_of X G zb_range
    b_tuple := PySem.W.mg_none_of X G zb_tuple
    b_sum := PySem.W.mg_none_of X G zb_sum
    b_max := PySem.W.mg_none_of X G zb_max
    b_min := PySem.W.mg_none_of X G zb_min
    b_repr := PySem.W.mg_none_of X G zb_repr
    b_enumerate := PySem.W.mg_none_of X G zb_enumerate
    b_all := PySem.W.mg_none_of X G zb_all
    b_zip := PySem.W.mg_none_of X G zb_zip
    b_gcd := PySem.W.mg_of X G zb_gcd
    w_RANGES := (He.ga K "RANGES")
    g_RANGES := PySem.W.mg_of X G gw_RANGES
    t_MOST_BASE := t_MOST_BASE
    c_MOST_BASE := PySem.W.mg_of X G zc_MOST_BASE
    t_MOST_DENOMINATOR := t_MOST_DENOMINATOR
    c_MOST_DENOMINATOR := PySem.W.mg_of X G zc_MOST_DENOMINATOR
    t_MOST_FACTS := t_MOST_FACTS
    c_MOST_FACTS := PySem.W.mg_of X G zc_MOST_FACTS
    t_GREATEST_BOUND := t_GREATEST_BOUND
    c_GREATEST_BOUND := PySem.W.mg_of X G zc_GREATEST_BOUND
  }, rfl⟩
  have e := hfa.symm.trans T.d_law.m
  cases e
  exact ⟨T.d_law.fd, (sp_law K), fun s v => .of_eq (T.d_law.e [v] rfl), fun _ a ns hl _ hS => ⟨a, ns, rfl, hS, hl, fun _ => rfl⟩, fun base _ _ => okG_law T (by subst hTT; exact ⟨wd_RANGES, sq_period, sq0_period, sq_head, sq0_head, sq_wheels, sq0_wheels, sq_power, sq0_power, sq1_power⟩)⟩
end Wn
open PySem PySem.W PySem.Calls PyProof.Rows
theorem PySem.Challenge.cw_wheelnines_k47_whole_facts_holds : PySem.Challenge.rw_wheelnines_k47_whole_facts.Holds := by
  w_on; o_law
  refine Wn.head_imp (r := Wn.RH) (q := Wn.qH) (H := Wn.hkH) (ob := Wn.obH) (M1 := 3000) (M2 := 9000) (loose := Wn.namesH) (d := HandSHeadRun.topDef Wn.RH.prog 49) (kwd := []) Wn.obH_eq
    Wn.runH (by kernel_rfl) (by kernel_rfl) (by kernel_rfl) (by rfl) (by first | assumption | decide +kernel) (by decide +kernel) ⟨rfl, rfl, rfl, rfl, rfl, by decide +kernel⟩ ?hw ?hc
  case hw => w_witness2
  case hc =>
    refine Wn.walkGH (l := PySem.Challenge.rw_wheelnines_k47_whole_facts) (n := 63) (k := 10) (x := "script") (C := fun w K => Wn.SaysW Wn.asksH w K) rfl (by decide) (by kernel_rfl) ⟨rfl, by decide, by decide⟩ (fun w h Y => Y) ?F
    intro w mg fa h K KX c G hmg0
    have hmg : mg ("law" : PySem.Str) = some (.ref fa) := by
      have e : (HandSHeadRun.topDef Wn.RH.prog 49).name = ("law" : PySem.Str) := by kernel_rfl
      rw [← e]
      exact hmg0
    exact Wn.all_mkH (l := PySem.Challenge.rw_wheelnines_k47_whole_facts) KX G hmg c
