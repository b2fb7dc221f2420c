
/-
  DERIVED. PLAIN MATHEMATICS: two rows of tokens of which one stands within the other: what is read of the one is read of the other.
-/
import Derived.Test.YtmgaeapckfdbpaaDoorM04
namespace Go.Proofs.YtmgaeapckfdbpaaDoor
set_option linter.unusedVariables false
set_option linter.unusedSimpArgs false

/-- two inputs: the tokens of the first one stand in the second one too, s further behind, their places sh further behind -/
structure Rel (I J : Inp) (s sh : Nat) : Prop where
  pk : ∀ n, n < I.L.length → J.pk (n + s) = ⟨(I.pk n).kind, (I.pk n).place + sh, (I.pk n).text, (I.pk n).n⟩
  kind : ∀ n, n < I.L.length → (I.pk n).kind ≠ 0
  place : ∀ n, n < I.L.length → (I.pk n).place ≤ I.len
  len : I.L.length + s ≤ J.L.length

theorem Inp.pk_end (I : Inp) (n : Nat) (h : ¬ n < I.L.length) : I.pk n = ⟨0, I.len, [], 0⟩ := by
  unfold Inp.pk peekT; rw [dif_neg h]
theorem Rel.le {I J : Inp} {s sh : Nat} (R : Rel I J s sh) (n : Nat) : (I.pk n).place ≤ I.len := by
  by_cases h : n < I.L.length
  · exact R.place n h
  · rw [I.pk_end n h]; exact Nat.le_refl _

/-- what is read of the first one is read of the second one too, as far as nothing behind its last token was looked at -/
structure Agr (I : Inp) (s sh : Nat) {α : Type} (φ : α → α) (n : Nat) (x y : Res α) : Prop where
  ok : ∀ v m, x = .ok v m → n ≤ m ∧ (m < I.L.length → y = .ok (φ v) (m + s))
  err : ∀ c a, x = .err c a → 4 ≤ c ∧ a ≤ I.len ∧ (c = 4 ∨ c = 6 → n < I.L.length ∧ y = .err c (a + sh))
/-- .. up to its last token itself -/
structure AgrS (I : Inp) (s sh : Nat) {α : Type} (φ : α → α) (n : Nat) (x y : Res α) : Prop where
  ok : ∀ v m, x = .ok v m → n < m ∧ (m ≤ I.L.length → y = .ok (φ v) (m + s))
  err : ∀ c a, x = .err c a → 4 ≤ c ∧ a ≤ I.len ∧ (c = 4 ∨ c = 6 → n < I.L.length ∧ y = .err c (a + sh))


theorem AgrS.agr {I : Inp} {s sh : Nat} {α : Type} {φ : α → α} {n : Nat} {x y : Res α} (h : AgrS I s sh φ n x y) : Agr I s sh φ n x y :=
  ⟨fun v m e => ⟨by have := (h.ok v m e).1; omega, fun hm => (h.ok v m e).2 (by omega)⟩, h.err⟩
theorem Agr.lower {I : Inp} {s sh : Nat} {α : Type} {φ : α → α} {n k : Nat} {x y : Res α} (h : Agr I s sh φ n x y) (hk : k ≤ n) : Agr I s sh φ k x y :=
  ⟨fun v m e => ⟨by have := (h.ok v m e).1; omega, (h.ok v m e).2⟩, fun c a e => ⟨(h.err c a e).1, (h.err c a e).2.1, fun hc => ⟨by have := ((h.err c a e).2.2 hc).1; omega, ((h.err c a e).2.2 hc).2⟩⟩⟩
theorem AgrS.lower {I : Inp} {s sh : Nat} {α : Type} {φ : α → α} {n k : Nat} {x y : Res α} (h : AgrS I s sh φ n x y) (hk : k ≤ n) : AgrS I s sh φ k x y :=
  ⟨fun v m e => ⟨by have := (h.ok v m e).1; omega, (h.ok v m e).2⟩, fun c a e => ⟨(h.err c a e).1, (h.err c a e).2.1, fun hc => ⟨by have := ((h.err c a e).2.2 hc).1; omega, ((h.err c a e).2.2 hc).2⟩⟩⟩

theorem Agr.ret {I : Inp} {s sh : Nat} {α : Type} {φ : α → α} (v : α) (n m : Nat) (h : n ≤ m) (v' : α) (hv : m < I.L.length → v' = φ v) : Agr I s sh φ n (.ok v m) (.ok v' (m + s)) :=
  ⟨fun v1 m1 e => by cases e; exact ⟨h, fun hm => by rw [hv hm]⟩, fun c a e => by cases e⟩
theorem AgrS.ret {I : Inp} {s sh : Nat} {α : Type} {φ : α → α} (v : α) (n m : Nat) (h : n < m) (v' : α) (hv : m ≤ I.L.length → v' = φ v) : AgrS I s sh φ n (.ok v m) (.ok v' (m + s)) :=
  ⟨fun v1 m1 e => by cases e; exact ⟨h, fun hm => by rw [hv hm]⟩, fun c a e => by cases e⟩

theorem Agr.bind {I : Inp} {s sh : Nat} {α β : Type} {φ : α → α} {ψ : β → β} {n : Nat} {x y : Res α} {f g : α → Nat → Res β} (h : Agr I s sh φ n x y)
    (hf : ∀ v m, n ≤ m → Agr I s sh ψ m (f v m) (g (φ v) (m + s))) : Agr I s sh ψ n (x.bind f) (y.bind g) := by
  cases x with
  | ok v m =>
    obtain ⟨h1, h2⟩ := h.ok v m rfl
    have hv := hf v m h1
    refine ⟨fun v1 m1 e => ?_, fun c a e => ?_⟩
    · obtain ⟨k1, k2⟩ := hv.ok v1 m1 e
      refine ⟨by omega, fun hm => ?_⟩
      rw [h2 (by omega)]
      exact k2 hm
    · obtain ⟨k1, k2, k3⟩ := hv.err c a e
      refine ⟨k1, k2, fun hc => ?_⟩
      obtain ⟨k4, k5⟩ := k3 hc
      refine ⟨by omega, ?_⟩
      rw [h2 k4]
      exact k5
  | err c a =>
    refine ⟨fun v1 m1 e => (by cases e), fun c1 a1 e => ?_⟩
    have e' : Res.err (α := α) c a = .err c1 a1 := by cases e; rfl
    obtain ⟨k1, k2, k3⟩ := h.err c1 a1 e'
    refine ⟨k1, k2, fun hc => ?_⟩
    obtain ⟨k4, k5⟩ := k3 hc
    exact ⟨k4, by rw [k5]; rfl⟩
theorem Agr.bindS {I : Inp} {s sh : Nat} {α β : Type} {φ : α → α} {ψ : β → β} {n : Nat} {x y : Res α} {f g : α → Nat → Res β} (h : Agr I s sh φ n x y)
    (hf : ∀ v m, n ≤ m → AgrS I s sh ψ m (f v m) (g (φ v) (m + s))) : AgrS I s sh ψ n (x.bind f) (y.bind g) := by
  cases x with
  | ok v m =>
    obtain ⟨h1, h2⟩ := h.ok v m rfl
    have hv := hf v m h1
    refine ⟨fun v1 m1 e => ?_, fun c a e => ?_⟩
    · obtain ⟨k1, k2⟩ := hv.ok v1 m1 e
      refine ⟨by omega, fun hm => ?_⟩
      rw [h2 (by omega)]
      exact k2 hm
    · obtain ⟨k1, k2, k3⟩ := hv.err c a e
      refine ⟨k1, k2, fun hc => ?_⟩
      obtain ⟨k4, k5⟩ := k3 hc
      refine ⟨by omega, ?_⟩
      rw [h2 k4]
      exact k5
  | err c a =>
    refine ⟨fun v1 m1 e => (by cases e), fun c1 a1 e => ?_⟩
    have e' : Res.err (α := α) c a = .err c1 a1 := by cases e; rfl
    obtain ⟨k1, k2, k3⟩ := h.err c1 a1 e'
    refine ⟨k1, k2, fun hc => ?_⟩
    obtain ⟨k4, k5⟩ := k3 hc
    exact ⟨k4, by rw [k5]; rfl⟩
/-- a strict one, then nothing more is read -/
theorem AgrS.map {I : Inp} {s sh : Nat} {α β : Type} {φ : α → α} {ψ : β → β} {n : Nat} {x y : Res α} {f g : α → β} (h : AgrS I s sh φ n x y)
    (hf : ∀ v, g (φ v) = ψ (f v)) : AgrS I s sh ψ n (x.bind fun v m => .ok (f v) m) (y.bind fun v m => .ok (g v) m) := by
  cases x with
  | ok v m =>
    obtain ⟨h1, h2⟩ := h.ok v m rfl
    refine ⟨fun v1 m1 e => ?_, fun c a e => by cases e⟩
    cases e
    exact ⟨h1, fun hm => by rw [h2 hm]; show Res.ok (g (φ v)) _ = _; rw [hf]⟩
  | err c a =>
    refine ⟨fun v1 m1 e => (by cases e), fun c1 a1 e => ?_⟩
    have e' : Res.err (α := α) c a = .err c1 a1 := by cases e; rfl
    obtain ⟨k1, k2, k3⟩ := h.err c1 a1 e'
    refine ⟨k1, k2, fun hc => ?_⟩
    obtain ⟨k4, k5⟩ := k3 hc
    exact ⟨k4, by rw [k5]; rfl⟩

theorem Agr.ite {I : Inp} {s sh : Nat} {α : Type} {φ : α → α} {n : Nat} {p q : Prop} [Decidable p] [Decidable q] {x y x1 y1 : Res α} (hpq : n < I.L.length → (p ↔ q))
    (h1 : Agr I s sh φ n x y) (h2 : Agr I s sh φ n x1 y1) : Agr I s sh φ n (if p then x else x1) (if q then y else y1) := by
  by_cases hn : n < I.L.length
  · by_cases hp : p
    · rw [if_pos hp, if_pos ((hpq hn).1 hp)]; exact h1
    · rw [if_neg hp, if_neg (fun hq => hp ((hpq hn).2 hq))]; exact h2
  · have key : ∀ (z w t : Res α), Agr I s sh φ n z w → Agr I s sh φ n z t := by
      intro z w t h
      refine ⟨fun v m e => ⟨(h.ok v m e).1, fun hm => ?_⟩, fun c a e => ⟨(h.err c a e).1, (h.err c a e).2.1, fun hc => ?_⟩⟩
      · have := (h.ok v m e).1; omega
      · exact absurd ((h.err c a e).2.2 hc).1 hn
    by_cases hp : p
    · rw [if_pos hp]; exact key _ _ _ h1
    · rw [if_neg hp]; exact key _ _ _ h2
theorem AgrS.ite {I : Inp} {s sh : Nat} {α : Type} {φ : α → α} {n : Nat} {p q : Prop} [Decidable p] [Decidable q] {x y x1 y1 : Res α} (hpq : n < I.L.length → (p ↔ q))
    (h1 : AgrS I s sh φ n x y) (h2 : AgrS I s sh φ n x1 y1) : AgrS I s sh φ n (if p then x else x1) (if q then y else y1) := by
  by_cases hn : n < I.L.length
  · by_cases hp : p
    · rw [if_pos hp, if_pos ((hpq hn).1 hp)]; exact h1
    · rw [if_neg hp, if_neg (fun hq => hp ((hpq hn).2 hq))]; exact h2
  · have key : ∀ (z w t : Res α), AgrS I s sh φ n z w → AgrS I s sh φ n z t := by
      intro z w t h
      refine ⟨fun v m e => ⟨(h.ok v m e).1, fun hm => ?_⟩, fun c a e => ⟨(h.err c a e).1, (h.err c a e).2.1, fun hc => ?_⟩⟩
      · have := (h.ok v m e).1; omega
      · exact absurd ((h.err c a e).2.2 hc).1 hn
    by_cases hp : p
    · rw [if_pos hp]; exact key _ _ _ h1
    · rw [if_neg hp]; exact key _ _ _ h2
/-- the same, where the first way is taken only within the tokens -/
theorem AgrS.iteN {I : Inp} {s sh : Nat} {α : Type} {φ : α → α} {n : Nat} {p q : Prop} [Decidable p] [Decidable q] {x y x1 y1 : Res α} (hpq : n < I.L.length → (p ↔ q)) (hp0 : p → n < I.L.length)
    (h1 : n < I.L.length → AgrS I s sh φ n x y) (h2 : ¬ p → AgrS I s sh φ n x1 y1) : AgrS I s sh φ n (if p then x else x1) (if q then y else y1) := by
  by_cases hp : p
  · have hn := hp0 hp
    rw [if_pos hp, if_pos ((hpq hn).1 hp)]; exact h1 hn
  · have h2 := h2 hp
    by_cases hn : n < I.L.length
    · rw [if_neg hp, if_neg (fun hq => hp ((hpq hn).2 hq))]; exact h2
    · rw [if_neg hp]
      refine ⟨fun v m e => ⟨(h2.ok v m e).1, fun hm => ?_⟩, fun c a e => ⟨(h2.err c a e).1, (h2.err c a e).2.1, fun hc => ?_⟩⟩
      · have := (h2.ok v m e).1; omega
      · exact absurd ((h2.err c a e).2.2 hc).1 hn


theorem Rel.sees {I J : Inp} {s sh : Nat} (R : Rel I J s sh) {n : Nat} (h : n < I.L.length) (t : List UInt8) : Ps.sees J t (n + s) = Ps.sees I t n := by
  unfold Ps.sees; rw [R.pk n h]
theorem Rel.seesP {I J : Inp} {s sh : Nat} (R : Rel I J s sh) {n : Nat} (t : List UInt8) (h : n < I.L.length) : (Ps.sees I t n = true ↔ Ps.sees J t (n + s) = true) := by
  rw [R.sees h]
theorem Rel.kindP {I J : Inp} {s sh : Nat} (R : Rel I J s sh) {n : Nat} (c : Int) (h : n < I.L.length) : ((I.pk n).kind = c ↔ (J.pk (n + s)).kind = c) := by
  rw [R.pk n h]
theorem Rel.text {I J : Inp} {s sh : Nat} (R : Rel I J s sh) {n : Nat} (h : n < I.L.length) : (J.pk (n + s)).text = (I.pk n).text := by rw [R.pk n h]
theorem Rel.num {I J : Inp} {s sh : Nat} (R : Rel I J s sh) {n : Nat} (h : n < I.L.length) : (J.pk (n + s)).n = (I.pk n).n := by rw [R.pk n h]
theorem Rel.at_ {I J : Inp} {s sh : Nat} (R : Rel I J s sh) {n : Nat} (h : n < I.L.length) : (J.pk (n + s)).place = (I.pk n).place + sh := by rw [R.pk n h]
theorem sees_in {I : Inp} {n : Nat} {t : List UInt8} (ht : t ≠ []) (h : Ps.sees I t n = true) : n < I.L.length := by
  apply Classical.byContradiction
  intro hn
  unfold Ps.sees at h
  rw [I.pk_end n hn] at h
  apply ht
  simpa using h.symm

theorem agr_refuse {I J : Inp} {s sh : Nat} (R : Rel I J s sh) {α : Type} (φ : α → α) (n : Nat) : AgrS I s sh φ n (Ps.refuse I n) (Ps.refuse J (n + s)) := by
  refine ⟨fun v m e => by simp [Ps.refuse] at e, fun c a e => ?_⟩
  unfold Ps.refuse at e
  obtain ⟨rfl, rfl⟩ : Ps.refC I n = c ∧ (I.pk n).place = a := by injection e with e1 e2; exact ⟨e1, e2⟩
  refine ⟨by unfold Ps.refC; split <;> omega, R.le n, fun hc => ?_⟩
  have hn : n < I.L.length := by
    apply Classical.byContradiction
    intro hn
    have h0 : (I.pk n).kind = 0 := by rw [I.pk_end n hn]
    unfold Ps.refC at hc
    rw [if_pos h0] at hc
    omega
  refine ⟨hn, ?_⟩
  unfold Ps.refuse Ps.refC
  rw [R.pk n hn]
theorem agr_seven {I J : Inp} {s sh : Nat} (R : Rel I J s sh) {α : Type} (φ : α → α) (n j : Nat) (z : Res α) : AgrS I s sh φ n (.err 7 (I.pk j).place) z :=
  ⟨fun v m e => (by cases e), fun c a e => by cases e; exact ⟨by omega, R.le j, fun hc => by omega⟩⟩
theorem agr_need {I J : Inp} {s sh : Nat} (R : Rel I J s sh) (t : List UInt8) (n : Nat) : AgrS I s sh id n (Ps.need I t n) (Ps.need J t (n + s)) := by
  unfold Ps.need
  refine AgrS.ite (R.seesP t) ?_ (agr_refuse R _ n)
  rw [show n + s + 1 = n + 1 + s by omega]
  exact AgrS.ret _ _ _ (by omega) _ (fun _ => rfl)
theorem agr_name {I J : Inp} {s sh : Nat} (R : Rel I J s sh) (n : Nat) : AgrS I s sh id n (Ps.name I n) (Ps.name J (n + s)) := by
  unfold Ps.name
  refine AgrS.ite (R.kindP 2) ?_ (agr_refuse R _ n)
  rw [show n + s + 1 = n + 1 + s by omega]
  exact AgrS.ret _ _ _ (by omega) _ (fun h => by rw [R.text (by omega)]; rfl)
theorem agr_row {I J : Inp} {s sh : Nat} (R : Rel I J s sh) {α : Type} {φ : α → α} (r r' : Nat → Res α) (h : ∀ n, Agr I s sh φ n (r n) (r' (n + s))) : ∀ (f : Nat) (acc : List α) (n : Nat),
    Agr I s sh (List.map φ) n (Ps.row I r f acc n) (Ps.row J r' f (acc.map φ) (n + s)) := by
  intro f
  induction f with
  | zero => intro acc n; exact (agr_seven R _ _ _ _).agr
  | succ f ih =>
    intro acc n
    unfold Ps.row
    refine (h n).bind fun v m hm => ?_
    refine Agr.ite (R.seesP _) ?_ ?_
    · have := ih (acc ++ [v]) (m + 1)
      rw [List.map_append] at this
      rw [show m + s + 1 = m + 1 + s by omega]
      exact this.lower (by omega)
    · exact Agr.ret _ _ _ (Nat.le_refl _) _ (fun _ => by rw [List.map_append]; rfl)
theorem agr_term {I J : Inp} {s sh : Nat} (R : Rel I J s sh) (b b' : Bool) (n : Nat) (hb : n ≤ I.L.length → b' = b) : Agr I s sh id n (Ps.term I b n) (Ps.term J b' (n + s)) := by
  by_cases hn : n < I.L.length
  · rw [hb (by omega)]
    unfold Ps.term
    refine Agr.ite (R.kindP 3) ?_ ?_
    · rw [show n + s + 1 = n + 1 + s by omega, show n + s + 2 = n + 2 + s by omega]
      refine Agr.lower (n := n + 1) (Agr.ite (R.seesP _) ?_ ?_) (by omega)
      · refine Agr.lower (n := n + 2) ?_ (by omega)
        refine (agr_name R (n + 2)).agr.bind fun v m hm => ?_
        exact Agr.ret _ _ _ (by omega) _ (fun _ => by rw [R.num hn]; rfl)
      · exact Agr.ret _ _ _ (by omega) _ (fun _ => by rw [R.num hn]; rfl)
    · refine (agr_name R n).agr.bind fun v m hm => ?_
      exact Agr.ret _ _ _ (by omega) _ (fun _ => rfl)
  · have e : Ps.term I b n = .err 5 I.len := by
      unfold Ps.term Ps.name Ps.refuse Ps.refC
      rw [I.pk_end n hn]
      simp [Res.bind]
    rw [e]
    exact ⟨fun v m e => (by cases e), fun c a e => by cases e; exact ⟨by omega, Nat.le_refl _, fun hc => by omega⟩⟩
theorem agr_terms {I J : Inp} {s sh : Nat} (R : Rel I J s sh) : ∀ (f : Nat) (acc : List Tm) (n : Nat), Agr I s sh id n (Ps.terms I f acc n) (Ps.terms J f acc (n + s)) := by
  intro f
  induction f with
  | zero =>
    intro acc n
    unfold Ps.terms
    exact Agr.ite (fun h => by rw [R.sees h, R.sees h]) (agr_seven R _ _ _ _).agr (Agr.ret _ _ _ (Nat.le_refl _) _ (fun _ => rfl))
  | succ f ih =>
    intro acc n
    unfold Ps.terms
    refine Agr.ite (fun h => by rw [R.sees h, R.sees h]) ?_ (Agr.ret _ _ _ (Nat.le_refl _) _ (fun _ => rfl))
    rw [show n + s + 1 = n + 1 + s by omega]
    refine Agr.lower (n := n + 1) ?_ (by omega)
    refine (agr_term R _ _ _ (fun h => R.sees (by omega) _)).bind fun v m hm => ih _ _
theorem agr_size {I J : Inp} {s sh : Nat} (R : Rel I J s sh) (n : Nat) : Agr I s sh id n (Ps.size I n) (Ps.size J (n + s)) := by
  by_cases hn : n < I.L.length
  · unfold Ps.size
    rw [R.sees hn]
    have e : (if Ps.sees I [45] n = true then n + s + 1 else n + s) = (if Ps.sees I [45] n = true then n + 1 else n) + s := by split <;> omega
    rw [e]
    have hle : n ≤ (if Ps.sees I [45] n = true then n + 1 else n) := by split <;> omega
    generalize (if Ps.sees I [45] n = true then n + 1 else n) = k at *
    refine Agr.lower (n := k) ?_ hle
    refine (agr_term R _ _ _ (fun _ => rfl)).bind fun v m hm => agr_terms R _ _ _
  · have e : Ps.size I n = .err 5 I.len := by
      unfold Ps.size Ps.term Ps.name Ps.refuse Ps.refC Ps.sees
      simp [I.pk_end n hn, Res.bind]
    rw [e]
    exact ⟨fun v m e => (by cases e), fun c a e => by cases e; exact ⟨by omega, Nat.le_refl _, fun hc => by omega⟩⟩
theorem agr_declN {I J : Inp} {s sh : Nat} (R : Rel I J s sh) (t : ByteArray) (e : Int) (n : Nat) : Agr I s sh id n (Ps.declN I t e n) (Ps.declN J t e (n + s)) := by
  unfold Ps.declN
  refine Agr.ite (R.seesP _) ?_ (Agr.ret _ _ _ (Nat.le_refl _) _ (fun _ => rfl))
  rw [show n + s + 1 = n + 1 + s by omega]
  refine Agr.lower (n := n + 1) ?_ (by omega)
  refine (agr_size R _).bind fun v m hm => Agr.ret _ _ _ (Nat.le_refl _) _ (fun _ => rfl)
theorem agr_decl {I J : Inp} {s sh : Nat} (R : Rel I J s sh) (n : Nat) : Agr I s sh id n (Ps.decl I n) (Ps.decl J (n + s)) := by
  unfold Ps.decl
  refine (agr_name R n).agr.bind fun t m hm => (agr_need R _ m).agr.bind fun _ m2 hm2 => ?_
  rw [show m2 + s + 1 = m2 + 1 + s by omega]
  refine Agr.ite (R.seesP _) ((agr_declN R _ _ _).lower (by omega)) (Agr.ite (R.seesP _) ((agr_declN R _ _ _).lower (by omega)) (agr_refuse R _ _).agr)

theorem agr_more {I J : Inp} {s sh : Nat} (R : Rel I J s sh) (A A' : Nat → Res Ex) (h : ∀ n, Agr I s sh id n (A n) (A' (n + s))) (a c : Int) : ∀ (f g : Nat) (e : Ex) (n : Nat), f ≤ g → I.L.length ≤ n + f →
    Agr I s sh id n (Ps.more I A a c f e n) (Ps.more J A' a c g e (n + s)) := by
  intro f
  induction f with
  | zero =>
    intro g e n hg hn
    unfold Ps.more
    exact ⟨fun v m ev => by cases ev; exact ⟨Nat.le_refl _, fun hm => by omega⟩, fun c a ev => by cases ev⟩
  | succ f ih =>
    intro g e n hg hn
    obtain ⟨g, rfl⟩ : ∃ g', g = g' + 1 := ⟨g - 1, by omega⟩
    unfold Ps.more
    by_cases hl : n < I.L.length
    · rw [R.text hl]
      refine Agr.ite (fun _ => Iff.rfl) (Agr.ret _ _ _ (Nat.le_refl _) _ (fun _ => rfl)) ?_
      rw [show n + s + 1 = n + 1 + s by omega]
      refine Agr.lower (n := n + 1) ?_ (by omega)
      exact (h _).bind fun v m hm => ih g _ _ (by omega) (by omega)
    · have e0 : btw a c (I.pk n).text = btw a c [] := by rw [I.pk_end n hl]
      by_cases hz : btw a c (I.pk n).text = 0
      · rw [if_pos hz]
        exact ⟨fun v m ev => by cases ev; exact ⟨Nat.le_refl _, fun hm => by omega⟩, fun c a ev => by cases ev⟩
      · rw [if_neg hz]
        have hx : Agr I s sh id (n + 1) ((A (n + 1)).bind fun r n1 => Ps.more I A a c f (Ex.mk 5 (btw a c (I.pk n).text) 0 ⟨#[]⟩ [] [e, r]) n1) ((A' (n + 1 + s)).bind fun r n1 => Ps.more J A' a c g (Ex.mk 5 (btw a c (I.pk n).text) 0 ⟨#[]⟩ [] [e, r]) n1) :=
          (h _).bind fun v m hm => ih g _ _ (by omega) (by omega)
        refine ⟨fun v m ev => ⟨by have := (hx.ok v m ev).1; omega, fun hm => ?_⟩, fun c a ev => ⟨(hx.err c a ev).1, (hx.err c a ev).2.1, fun hc => ?_⟩⟩
        · have := (hx.ok v m ev).1; omega
        · have := ((hx.err c a ev).2.2 hc).1; omega
theorem agr_fromLeft {I J : Inp} {s sh : Nat} (R : Rel I J s sh) (A A' : Nat → Res Ex) (h : ∀ n, Agr I s sh id n (A n) (A' (n + s))) (a c : Int) (n : Nat) :
    Agr I s sh id n (Ps.fromLeft I A a c n) (Ps.fromLeft J A' a c (n + s)) := by
  unfold Ps.fromLeft
  have hl := R.len
  exact (h n).bind fun v m hm => agr_more R A A' h a c _ _ _ _ (by omega) (by omega)
theorem agr_cmp {I J : Inp} {s sh : Nat} (R : Rel I J s sh) (A A' : Nat → Res Ex) (h : ∀ n, Agr I s sh id n (A n) (A' (n + s))) (n : Nat) :
    Agr I s sh id n (Ps.cmp I A n) (Ps.cmp J A' (n + s)) := by
  unfold Ps.cmp
  refine (h n).bind fun v m hm => ?_
  have hx : ∀ (k k' : Int), (m < I.L.length → k' = k) → Agr I s sh id m ((A (m + 1)).bind fun r n2 => .ok (Ex.mk 5 k 0 ⟨#[]⟩ [] [v, r]) n2) ((A' (m + s + 1)).bind fun r n2 => .ok (Ex.mk 5 k' 0 ⟨#[]⟩ [] [v, r]) n2) := by
    intro k k' hk
    rw [show m + s + 1 = m + 1 + s by omega]
    refine Agr.lower (n := m + 1) ?_ (by omega)
    exact (h _).bind fun v m hm => Agr.ret _ _ _ (Nat.le_refl _) _ (fun hl => by rw [hk (by omega)]; rfl)
  refine Agr.ite (fun hl => by rw [R.text hl]) (Agr.ret _ _ _ (Nat.le_refl _) _ (fun _ => rfl)) (hx _ _ (fun hl => by rw [R.text hl]))
theorem agr_exprOf {I J : Inp} {s sh : Nat} (R : Rel I J s sh) (A A' : Nat → Res Ex) (h : ∀ n, Agr I s sh id n (A n) (A' (n + s))) (n : Nat) :
    Agr I s sh id n (Ps.exprOf I A n) (Ps.exprOf J A' (n + s)) := by
  unfold Ps.exprOf Ps.sum
  exact agr_fromLeft R _ _ (agr_fromLeft R _ _ (agr_cmp R _ _ (agr_fromLeft R _ _ (agr_fromLeft R _ _ h _ _) _ _)) _ _) _ _ n

/-- what may be opened: of both alike -/
def AgrO (I : Inp) (s sh : Nat) : Option (Nat → Res Ex) → Option (Nat → Res Ex) → Prop
  | none, none => True
  | some A, some A' => ∀ n, Agr I s sh id n (A n) (A' (n + s))
  | _, _ => False

theorem agr_opn {I J : Inp} {s sh : Nat} (R : Rel I J s sh) (O O' : Option (Nat → Res Ex)) (h : AgrO I s sh O O') (n : Nat) (hn : n < I.L.length) (k k' : (Nat → Res Ex) → Nat → Res Ex)
    (hk : ∀ A A', (∀ n, Agr I s sh id n (A n) (A' (n + s))) → ∀ n, Agr I s sh id n (k A n) (k' A' (n + s))) :
    Agr I s sh id n (Ps.opn I O n k) (Ps.opn J O' (n + s) k') := by
  unfold Ps.opn
  match O, O', h with
  | none, none, _ =>
    refine ⟨fun v m e => (by cases e), fun c a e => ?_⟩
    cases e
    exact ⟨by omega, R.le n, fun _ => ⟨hn, by show Res.err 6 (J.pk (n + s)).place = _; rw [R.at_ hn]⟩⟩
  | some A, some A', h =>
    show Agr I s sh id n (k A (n + 1)) (k' A' (n + s + 1))
    rw [show n + s + 1 = n + 1 + s by omega]
    exact (hk A A' h _).lower (by omega)
/-- a way that is taken just if something stands there -/
theorem agr_way {I J : Inp} {s sh : Nat} (R : Rel I J s sh) {n : Nat} {t : List UInt8} (ht : t ≠ []) {x y x1 y1 : Res Ex} (h1 : n < I.L.length → Agr I s sh id n x y) (h2 : Agr I s sh id n x1 y1) :
    Agr I s sh id n (if Ps.sees I t n = true then x else x1) (if Ps.sees J t (n + s) = true then y else y1) := by
  by_cases hn : n < I.L.length
  · rw [R.sees hn]
    split
    · exact h1 hn
    · exact h2
  · rw [if_neg (fun h => hn (sees_in ht h))]
    refine ⟨fun v m e => ⟨(h2.ok v m e).1, fun hm => ?_⟩, fun c a e => ⟨(h2.err c a e).1, (h2.err c a e).2.1, fun hc => ?_⟩⟩
    · have := (h2.ok v m e).1; omega
    · exact absurd ((h2.err c a e).2.2 hc).1 hn

theorem agr_wordAt {I J : Inp} {s sh : Nat} (R : Rel I J s sh) {n : Nat} (hn : n < I.L.length) : ∀ (l : List (List UInt8)) (k : Int), Ps.wordAt J (n + s) l k = Ps.wordAt I n l k
  | [], k => rfl
  | x :: xs, k => by unfold Ps.wordAt; rw [R.sees hn, agr_wordAt R hn xs]
theorem wordAt_end {I : Inp} {n : Nat} (hn : ¬ n < I.L.length) : ∀ (l : List (List UInt8)) (k : Int), (∀ x ∈ l, x ≠ []) → Ps.wordAt I n l k = none
  | [], k, _ => rfl
  | x :: xs, k, h => by
    unfold Ps.wordAt
    rw [if_neg (fun e => hn (sees_in (h x (by simp)) e))]
    exact wordAt_end hn xs _ (fun y hy => h y (by simp [hy]))
theorem agr_oper {I J : Inp} {s sh : Nat} (R : Rel I J s sh) (n : Nat) : Agr I s sh id n (Ps.oper I n) (Ps.oper J (n + s)) := by
  unfold Ps.oper
  by_cases hn : n < I.L.length
  · rw [agr_wordAt R hn]
    cases Ps.wordAt I n Ps.words 1 with
    | none => exact (agr_refuse R _ _).agr
    | some k =>
      show Agr I s sh id n (.ok k (n + 1)) (.ok k (n + s + 1))
      rw [show n + s + 1 = n + 1 + s by omega]
      exact Agr.ret _ _ _ (by omega) _ (fun _ => rfl)
  · rw [wordAt_end hn _ _ (by decide)]
    have h := (agr_refuse (α := Int) R id n).agr
    refine ⟨fun v m e => ⟨(h.ok v m e).1, fun hm => ?_⟩, fun c a e => ⟨(h.err c a e).1, (h.err c a e).2.1, fun hc => ?_⟩⟩
    · have := (h.ok v m e).1; omega
    · exact absurd ((h.err c a e).2.2 hc).1 hn
theorem agr_part {I J : Inp} {s sh : Nat} (R : Rel I J s sh) (E E' : Nat → Res Ex) (h : ∀ n, Agr I s sh id n (E n) (E' (n + s))) (p : Ps.Pt) (e : Ex) (n : Nat) :
    Agr I s sh id n (Ps.part I E p e n) (Ps.part J E' p e (n + s)) := by
  cases p with
  | part => exact (h n).bind fun v m hm => Agr.ret _ _ _ (Nat.le_refl _) _ (fun _ => rfl)
  | size => exact (agr_size R n).bind fun v m hm => Agr.ret _ _ _ (Nat.le_refl _) _ (fun _ => rfl)
  | oper => exact (agr_oper R n).bind fun v m hm => Agr.ret _ _ _ (Nat.le_refl _) _ (fun _ => rfl)
  | oneOrTwo =>
    refine (h n).bind fun v m hm => Agr.ite (R.seesP _) ?_ (Agr.ret _ _ _ (Nat.le_refl _) _ (fun _ => rfl))
    rw [show m + s + 1 = m + 1 + s by omega]
    refine Agr.lower (n := m + 1) ?_ (by omega)
    exact (h _).bind fun v m hm => Agr.ret _ _ _ (Nat.le_refl _) _ (fun _ => rfl)
theorem agr_parts {I J : Inp} {s sh : Nat} (R : Rel I J s sh) (E E' : Nat → Res Ex) (h : ∀ n, Agr I s sh id n (E n) (E' (n + s))) : ∀ (l : List Ps.Pt) (e : Ex) (n : Nat),
    Agr I s sh id n (Ps.parts I E l e n) (Ps.parts J E' l e (n + s))
  | [], e, n => Agr.ret _ _ _ (Nat.le_refl _) _ (fun _ => rfl)
  | p :: ps, e, n => by
    unfold Ps.parts
    exact (agr_need R _ n).agr.bind fun _ m hm => (agr_part R E E' h p e m).bind fun e1 m1 h1 => agr_parts R E E' h ps e1 m1
theorem agr_brackets {I J : Inp} {s sh : Nat} (R : Rel I J s sh) (E E' : Nat → Res Ex) (h : ∀ n, Agr I s sh id n (E n) (E' (n + s))) (p : Ps.Pt) (ps : List Ps.Pt) (e : Ex) (n : Nat) :
    Agr I s sh id n (Ps.brackets I E p ps e n) (Ps.brackets J E' p ps e (n + s)) := by
  unfold Ps.brackets
  exact (agr_need R _ n).agr.bind fun _ m hm => (agr_part R E E' h p e m).bind fun e1 m1 h1 => (agr_parts R E E' h ps e1 m1).bind fun e2 m2 h2 =>
    (agr_need R _ m2).agr.bind fun _ m3 h3 => Agr.ret _ _ _ (Nat.le_refl _) _ (fun _ => rfl)
theorem agr_form {I J : Inp} {s sh : Nat} (R : Rel I J s sh) (O O' : Option (Nat → Res Ex)) (h : AgrO I s sh O O') (n : Nat) : Agr I s sh id n (Ps.form I O n) (Ps.form J O' (n + s)) := by
  have go : ∀ (op k : Int) (p : Ps.Pt) (ps : List Ps.Pt), n < I.L.length →
      Agr I s sh id n (Ps.opn I O n fun A n1 => Ps.brackets I (Ps.exprOf I A) p ps (Ps.bare op k) n1) (Ps.opn J O' (n + s) fun A n1 => Ps.brackets J (Ps.exprOf J A) p ps (Ps.bare op k) n1) :=
    fun op k p ps hn => agr_opn R O O' h n hn _ _ fun A A' hA n => agr_brackets R _ _ (agr_exprOf R A A' hA) _ _ _ _
  unfold Ps.form
  repeat' (first | exact (agr_refuse R _ _).agr | exact go _ _ _ _ (by assumption) | refine agr_way R (by decide) (fun hn => ?_) ?_)
theorem agr_bracketed {I J : Inp} {s sh : Nat} (R : Rel I J s sh) (E E' : Nat → Res Ex) (h : ∀ n, Agr I s sh id n (E n) (E' (n + s))) (n : Nat) : Agr I s sh id n (Ps.bracketed I E n) (Ps.bracketed J E' (n + s)) := by
  unfold Ps.bracketed
  exact (h n).bind fun e m hm => (agr_need R _ m).agr.bind fun _ m3 h3 => Agr.ret _ _ _ (Nat.le_refl _) _ (fun _ => rfl)
theorem agr_choice {I J : Inp} {s sh : Nat} (R : Rel I J s sh) (E E' : Nat → Res Ex) (h : ∀ n, Agr I s sh id n (E n) (E' (n + s))) (n : Nat) : Agr I s sh id n (Ps.choice I E n) (Ps.choice J E' (n + s)) := by
  unfold Ps.choice
  exact (h n).bind fun e m hm => (agr_need R _ m).agr.bind fun _ m1 h1 => (h m1).bind fun e2 m2 h2 => (agr_need R _ m2).agr.bind fun _ m3 h3 => (h m3).bind fun e4 m4 h4 =>
    Agr.ret _ _ _ (Nat.le_refl _) _ (fun _ => rfl)
theorem agr_unit {I J : Inp} {s sh : Nat} (R : Rel I J s sh) (O O' : Option (Nat → Res Ex)) (h : AgrO I s sh O O') (n : Nat) : Agr I s sh id n (Ps.unit I O n) (Ps.unit J O' (n + s)) := by
  unfold Ps.unit
  rw [show n + s + 1 = n + 1 + s by omega]
  refine Agr.ite (R.kindP 3) (Agr.ret _ _ _ (by omega) _ (fun hl => by rw [R.num (by omega)]; rfl)) ?_
  refine Agr.ite (R.kindP 2) (Agr.ret _ _ _ (by omega) _ (fun hl => by rw [R.text (by omega)]; rfl)) ?_
  refine Agr.ite (R.seesP _) (Agr.ret _ _ _ (by omega) _ (fun hl => rfl)) ?_
  refine Agr.ite (R.seesP _) (Agr.ret _ _ _ (by omega) _ (fun hl => rfl)) ?_
  refine agr_way R (by decide) (fun hn => agr_opn R O O' h n hn _ _ fun A A' hA n => agr_bracketed R _ _ (agr_exprOf R A A' hA) _) ?_
  refine agr_way R (by decide) (fun hn => agr_opn R O O' h n hn _ _ fun A A' hA n => agr_choice R _ _ (agr_exprOf R A A' hA) _) ?_
  exact agr_form R O O' h n
theorem agr_index {I J : Inp} {s sh : Nat} (R : Rel I J s sh) (E E' : Nat → Res Ex) (h : ∀ n, Agr I s sh id n (E n) (E' (n + s))) (e : Ex) (n : Nat) : Agr I s sh id n (Ps.index I E e n) (Ps.index J E' e (n + s)) := by
  unfold Ps.index
  exact (h n).bind fun e m hm => (agr_need R _ m).agr.bind fun _ m1 h1 => (h m1).bind fun e2 m2 h2 => (agr_need R _ m2).agr.bind fun _ m3 h3 =>
    Agr.ret _ _ _ (Nat.le_refl _) _ (fun _ => rfl)
theorem agr_indices {I J : Inp} {s sh : Nat} (R : Rel I J s sh) (O O' : Option (Nat → Res Ex)) (h : AgrO I s sh O O') : ∀ (f g : Nat) (e : Ex) (n : Nat), f ≤ g → I.L.length ≤ n + f →
    Agr I s sh id n (Ps.indices I O f e n) (Ps.indices J O' g e (n + s)) := by
  intro f
  induction f with
  | zero =>
    intro g e n hg hn
    unfold Ps.indices
    exact ⟨fun v m ev => by cases ev; exact ⟨Nat.le_refl _, fun hm => by omega⟩, fun c a ev => by cases ev⟩
  | succ f ih =>
    intro g e n hg hn
    obtain ⟨g, rfl⟩ : ∃ g', g = g' + 1 := ⟨g - 1, by omega⟩
    unfold Ps.indices
    refine agr_way R (by decide) (fun hl => ?_) (Agr.ret _ _ _ (Nat.le_refl _) _ (fun _ => rfl))
    match O, O', h with
    | none, none, h =>
      refine ⟨fun v m e => (by cases e), fun c a e => ?_⟩
      cases e
      exact ⟨by omega, R.le n, fun _ => ⟨hl, by show Res.err 6 (J.pk (n + s)).place = _; rw [R.at_ hl]⟩⟩
    | some A, some A', h =>
      show Agr I s sh id n ((Ps.index I (Ps.exprOf I A) e (n + 1)).bind _) ((Ps.index J (Ps.exprOf J A') e (n + s + 1)).bind _)
      rw [show n + s + 1 = n + 1 + s by omega]
      refine Agr.lower (n := n + 1) ?_ (by omega)
      exact (agr_index R _ _ (agr_exprOf R A A' h) _ _).bind fun v m hm => ih g _ _ (by omega) (by omega)
theorem agr_signed {I : Inp} {s sh : Nat} (A A' : Nat → Res Ex) (h : ∀ n, Agr I s sh id n (A n) (A' (n + s))) (k : Int) (n : Nat) : Agr I s sh id n (Ps.signed A k n) (Ps.signed A' k (n + s)) := by
  unfold Ps.signed
  exact (h n).bind fun e m hm => Agr.ret _ _ _ (Nat.le_refl _) _ (fun _ => rfl)
theorem agr_aheadS {I J : Inp} {s sh : Nat} (R : Rel I J s sh) (O O' : Option (Nat → Res Ex)) (h : AgrO I s sh O O') (n : Nat) : Agr I s sh id n (Ps.aheadS I O n) (Ps.aheadS J O' (n + s)) := by
  unfold Ps.aheadS
  have hl := R.len
  refine agr_way R (by decide) (fun hn => agr_opn R O O' h n hn _ _ fun A A' hA n => agr_signed A A' hA _ _) ?_
  refine agr_way R (by decide) (fun hn => agr_opn R O O' h n hn _ _ fun A A' hA n => agr_signed A A' hA _ _) ?_
  exact (agr_unit R O O' h n).bind fun e m hm => agr_indices R O O' h _ _ _ _ (by omega) (by omega)
theorem agr_ahead {I J : Inp} {s sh : Nat} (R : Rel I J s sh) : ∀ (d : Nat) (n : Nat), Agr I s sh id n (Ps.ahead I d n) (Ps.ahead J d (n + s))
  | 0, n => agr_aheadS R none none trivial n
  | d + 1, n => agr_aheadS R (some _) (some _) (fun n => agr_ahead R d n) n
theorem agr_whole {I J : Inp} {s sh : Nat} (R : Rel I J s sh) (n : Nat) : Agr I s sh id n (Ps.whole I n) (Ps.whole J (n + s)) := by
  unfold Ps.whole Ps.expr
  refine (agr_exprOf R _ _ (agr_ahead R 60) n).bind fun e m hm => ?_
  split
  · rename_i h
    rw [if_pos (by exact h)]
    exact (agr_seven R _ _ _ _).agr
  · rename_i h
    rw [if_neg (by exact h)]
    exact Agr.ret _ _ _ (Nat.le_refl _) _ (fun _ => rfl)

/-- an equation, a node further behind -/
def Eqn.sh (d : Nat) (q : Eqn) : Eqn := { q with place := q.place + (d : Int) }
def Nd.sh (d : Nat) (x : Nd) : Nd := { x with place := x.place + (d : Int), eqs := x.eqs.map (Eqn.sh d) }

theorem map_id' {α : Type} (l : List α) : List.map id l = l := List.map_id l

theorem agr_row' {I J : Inp} {s sh : Nat} (R : Rel I J s sh) {α : Type} (r r' : Nat → Res α) (h : ∀ n, Agr I s sh id n (r n) (r' (n + s))) (f : Nat) (n : Nat) :
    Agr I s sh id n (Ps.row I r f [] n) (Ps.row J r' f [] (n + s)) := by
  have := agr_row R r r' h f [] n
  rw [show (List.map id : List α → List α) = id by funext l; exact List.map_id l] at this
  exact this
/-- things between two signs, if they are there -/
theorem agr_angled {I J : Inp} {s sh : Nat} (R : Rel I J s sh) {α : Type} (r r' : Nat → Res α) (h : ∀ n, Agr I s sh id n (r n) (r' (n + s))) (f : Nat) (t u : List UInt8) (n : Nat) :
    Agr I s sh id n (if Ps.sees I t n = true then (Ps.row I r f [] (n + 1)).bind fun z n3 => (Ps.need I u n3).bind fun _ n4 => .ok z n4 else .ok [] n)
      (if Ps.sees J t (n + s) = true then (Ps.row J r' f [] (n + s + 1)).bind fun z n3 => (Ps.need J u n3).bind fun _ n4 => .ok z n4 else .ok [] (n + s)) := by
  rw [show n + s + 1 = n + 1 + s by omega]
  refine Agr.ite (R.seesP _) (Agr.lower (n := n + 1) ?_ (by omega)) (Agr.ret _ _ _ (Nat.le_refl _) _ (fun _ => rfl))
  exact (agr_row' R r r' h _ _).bind fun v m hm => (agr_need R _ m).agr.bind fun _ m1 h1 => Agr.ret _ _ _ (Nat.le_refl _) _ (fun _ => rfl)
theorem agr_closed {I J : Inp} {s sh : Nat} (R : Rel I J s sh) {α : Type} (r r' : Nat → Res α) (h : ∀ n, Agr I s sh id n (r n) (r' (n + s))) (f : Nat) (t : List UInt8) (n : Nat) :
    Agr I s sh id n (if Ps.sees I t n = true then .ok [] (n + 1) else (Ps.row I r f [] n).bind fun z n3 => (Ps.need I t n3).bind fun _ n4 => .ok z n4)
      (if Ps.sees J t (n + s) = true then .ok [] (n + s + 1) else (Ps.row J r' f [] (n + s)).bind fun z n3 => (Ps.need J t n3).bind fun _ n4 => .ok z n4) := by
  rw [show n + s + 1 = n + 1 + s by omega]
  refine Agr.ite (R.seesP _) (Agr.ret _ _ _ (by omega) _ (fun _ => rfl)) ?_
  exact (agr_row' R r r' h _ _).bind fun v m hm => (agr_need R _ m).agr.bind fun _ m1 h1 => Agr.ret _ _ _ (Nat.le_refl _) _ (fun _ => rfl)
theorem agr_call {I J : Inp} {s sh : Nat} (R : Rel I J s sh) (p p' : Int) (l : List ByteArray) (n : Nat) (hp : n < I.L.length → p' = p + (sh : Int)) : Agr I s sh (Eqn.sh sh) n (Ps.call I p l n) (Ps.call J p' l (n + s)) := by
  unfold Ps.call
  refine (agr_need R _ n).agr.bind fun _ m1 h1 => (agr_name R m1).agr.bind fun t m2 h2 => (agr_angled R _ _ (agr_size R) _ _ _ m2).bind fun z m3 h3 =>
    (agr_need R _ m3).agr.bind fun _ m4 h4 => (agr_closed R _ _ (agr_whole R) _ _ m4).bind fun e m5 h5 => Agr.ret _ _ _ (Nat.le_refl _) _ (fun hl => ?_)
  rw [hp (by omega)]
  rfl
theorem agr_equation {I J : Inp} {s sh : Nat} (R : Rel I J s sh) (n : Nat) : Agr I s sh (Eqn.sh sh) n (Ps.equation I n) (Ps.equation J (n + s)) := by
  unfold Ps.equation
  refine (agr_row' R _ _ (fun n => (agr_name R n).agr) _ n).bind fun l m1 h1 => (agr_need R _ m1).agr.bind fun _ m2 h2 => ?_
  refine Agr.ite (fun hl => by rw [R.sees hl]; rfl) ?_ ?_
  · exact (agr_whole R m2).bind fun e m3 h3 => Agr.ret _ _ _ (Nat.le_refl _) _ (fun hl => by rw [R.at_ (by omega)]; rfl)
  · exact agr_call R _ _ _ _ (fun hl => by rw [R.at_ (by omega)]; push_cast; rfl)
/-- locals and equations further behind -/
def lsh (sh : Nat) (p : List De × List Eqn) : List De × List Eqn := (p.1, p.2.map (Eqn.sh sh))
theorem agr_line {I J : Inp} {s sh : Nat} (R : Rel I J s sh) (loc : List De) (eqs : List Eqn) (n : Nat) : AgrS I s sh (lsh sh) n (Ps.line I loc eqs n) (Ps.line J loc (eqs.map (Eqn.sh sh)) (n + s)) := by
  unfold Ps.line
  rw [show n + s + 1 = n + 1 + s by omega, List.length_map]
  refine Agr.bindS (φ := lsh sh) ?_ fun p m hm => (agr_need R _ m).map fun _ => rfl
  refine Agr.ite (R.seesP _) ?_ ?_
  · split
    · exact (agr_seven R _ _ _ _).agr
    · refine Agr.lower (n := n + 1) ?_ (by omega)
      exact (agr_decl R _).bind fun d m hm => Agr.ret _ _ _ (Nat.le_refl _) _ (fun _ => rfl)
  · refine Agr.ite (fun hl => by rw [R.kindP 2 hl]) (agr_seven R _ _ _ _).agr ?_
    exact (agr_equation R n).bind fun q m hm => Agr.ret _ _ _ (Nat.le_refl _) _ (fun _ => by simp [lsh])
theorem agr_lines {I J : Inp} {s sh : Nat} (R : Rel I J s sh) : ∀ (f g : Nat) (loc : List De) (eqs : List Eqn) (n : Nat), f ≤ g → I.L.length < n + f →
    AgrS I s sh (lsh sh) n (Ps.lines I f loc eqs n) (Ps.lines J g loc (eqs.map (Eqn.sh sh)) (n + s)) := by
  intro f
  induction f with
  | zero =>
    intro g loc eqs n hg hn
    unfold Ps.lines
    exact ⟨fun v m ev => by cases ev; exact ⟨by omega, fun hm => by omega⟩, fun c a ev => by cases ev⟩
  | succ f ih =>
    intro g loc eqs n hg hn
    obtain ⟨g, rfl⟩ : ∃ g', g = g' + 1 := ⟨g - 1, by omega⟩
    unfold Ps.lines
    rw [show n + s + 1 = n + 1 + s by omega]
    refine AgrS.ite (R.seesP _) (AgrS.ret _ _ _ (by omega) _ (fun _ => rfl)) ?_
    have hline := agr_line R loc eqs n
    cases hx : Ps.line I loc eqs n with
    | ok p m =>
      have h1 := hline.ok p m hx
      have ih1 := ih g p.1 p.2 m (by omega) (by omega)
      refine ⟨fun v m1 ev => ?_, fun c a ev => ?_⟩
      · obtain ⟨k1, k2⟩ := ih1.ok v m1 ev
        refine ⟨by omega, fun hm => ?_⟩
        rw [h1.2 (by omega)]
        exact k2 hm
      · obtain ⟨k1, k2, k3⟩ := ih1.err c a ev
        refine ⟨k1, k2, fun hc => ?_⟩
        obtain ⟨k4, k5⟩ := k3 hc
        refine ⟨by omega, ?_⟩
        rw [h1.2 (by omega)]
        exact k5
    | err c a =>
      refine ⟨fun v m1 ev => (by cases ev), fun c1 a1 ev => ?_⟩
      have ev : Res.err (α := List De × List Eqn) c a = .err c1 a1 := by cases ev; rfl
      obtain ⟨k1, k2, k3⟩ := hline.err c1 a1 (hx.trans ev)
      refine ⟨k1, k2, fun hc => ?_⟩
      obtain ⟨k4, k5⟩ := k3 hc
      exact ⟨k4, by rw [k5]; rfl⟩
theorem agr_node {I J : Inp} {s sh : Nat} (R : Rel I J s sh) (n : Nat) : AgrS I s sh (Nd.sh sh) n (Ps.node I n) (Ps.node J (n + s)) := by
  unfold Ps.node
  have hl := R.len
  refine (agr_need R _ n).agr.bindS fun _ m1 h1 => (agr_name R m1).agr.bindS fun t m2 h2 => (agr_angled R _ _ (fun n => (agr_name R n).agr) _ _ _ m2).bindS fun z m3 h3 =>
    (agr_need R _ m3).agr.bindS fun _ m4 h4 => (agr_closed R _ _ (agr_decl R) _ _ m4).bindS fun i m5 h5 => (agr_need R _ m5).agr.bindS fun _ m6 h6 => (agr_need R _ m6).agr.bindS fun _ m7 h7 =>
    (agr_row' R _ _ (agr_decl R) _ m7).bindS fun o m8 h8 => (agr_need R _ m8).agr.bindS fun _ m9 h9 => (agr_need R _ m9).agr.bindS fun _ m10 h10 => ?_
  have hL := agr_lines R (I.L.length - m10 + 1) (J.L.length - (m10 + s) + 1) [] [] m10 (by omega) (by omega)
  have key : ∀ (x y : Res (List De × List Eqn)), AgrS I s sh (lsh sh) m10 x y →
      AgrS I s sh (Nd.sh sh) m10 (x.bind fun p n15 => .ok ⟨t, (I.pk n).place, z, i, o, p.1, p.2⟩ n15) (y.bind fun p n15 => .ok ⟨id t, (J.pk (n + s)).place, id z, id i, id o, p.1, p.2⟩ n15) := by
    intro x y h
    cases x with
    | ok p m =>
      obtain ⟨q1, q2⟩ := h.ok p m rfl
      refine ⟨fun v m1 ev => ?_, fun c a ev => by cases ev⟩
      cases ev
      refine ⟨q1, fun hm => ?_⟩
      rw [q2 hm]
      show Res.ok _ _ = Res.ok _ _
      rw [R.at_ (by omega)]
      simp [Nd.sh, lsh]
    | err c a =>
      refine ⟨fun v m1 ev => (by cases ev), fun c1 a1 ev => ?_⟩
      have ev : Res.err (α := List De × List Eqn) c a = .err c1 a1 := by cases ev; rfl
      obtain ⟨k1, k2, k3⟩ := h.err c1 a1 ev
      refine ⟨k1, k2, fun hc => ?_⟩
      obtain ⟨k4, k5⟩ := k3 hc
      exact ⟨k4, by rw [k5]; rfl⟩
  exact key _ _ hL
end Go.Proofs.YtmgaeapckfdbpaaDoor
