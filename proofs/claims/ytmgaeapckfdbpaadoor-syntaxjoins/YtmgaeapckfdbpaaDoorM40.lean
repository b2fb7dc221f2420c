/-
  DERIVED. PLAIN MATHEMATICS: programs one behind the other are a program.
-/
import Derived.Test.YtmgaeapckfdbpaaDoorStop
import Derived.Test.YtmgaeapckfdbpaaDoorM04
import Derived.Test.YtmgaeapckfdbpaaDoorM11
namespace Go.Proofs.YtmgaeapckfdbpaaDoor
set_option linter.unusedVariables false

theorem Nd.sh_zero (x : Nd) : Nd.sh 0 x = x := by
  have h : ∀ l : List Eqn, l.map (Eqn.sh 0) = l := by
    intro l
    induction l with
    | nil => rfl
    | cons q l ih => rw [List.map_cons, ih]; simp [Eqn.sh]
  unfold Nd.sh
  rw [h]
  simp
theorem Nd.map_zero (l : List Nd) : l.map (Nd.sh 0) = l := by
  induction l with
  | nil => rfl
  | cons q l ih => rw [List.map_cons, ih, Nd.sh_zero]
theorem node_starts {I : Inp} {n : Nat} {v : Nd} {m : Nat} (h : Ps.node I n = .ok v m) : n < I.L.length ∧ Ps.sees I [110, 111, 100, 101] n = true := by
  unfold Ps.node at h
  obtain ⟨_, _, e, h⟩ := bind_ok h
  obtain ⟨q1, _, q3⟩ := need_was (by decide) e
  exact ⟨q1, q3⟩

theorem nodes_first {I J : Inp} (R : Rel I J 0 0) : ∀ (f : Nat) (acc : List Nd) (n : Nat) (v : List Nd) (m : Nat), n ≤ I.L.length → Ps.nodes I f acc n = .ok v m →
    ∃ w, v = acc ++ w ∧ w.length ≤ f ∧ ∀ acc', Ps.nodes J f acc' n = Ps.nodes J (f - w.length) (acc' ++ w) I.L.length := by
  intro f
  induction f with
  | zero =>
    intro acc n v m hn h
    unfold Ps.nodes at h
    split at h
    · rename_i hk
      cases h
      have : ¬ n < I.L.length := fun hl => R.kind n hl hk
      obtain rfl : n = I.L.length := by omega
      exact ⟨[], by simp, by simp, fun acc' => by simp⟩
    · split at h <;> cases h
  | succ f ih =>
    intro acc n v m hn h
    unfold Ps.nodes at h
    split at h
    · rename_i hk
      cases h
      have : ¬ n < I.L.length := fun hl => R.kind n hl hk
      obtain rfl : n = I.L.length := by omega
      exact ⟨[], by simp, by simp, fun acc' => by simp⟩
    · rename_i hk
      obtain ⟨x, n1, e1, e2⟩ := bind_ok h
      obtain ⟨q1, q2, q3⟩ := node_end R e1
      obtain ⟨p1, p2⟩ := node_starts e1
      have e3 : Ps.node J n = .ok (Nd.sh 0 x) n1 := ((agr_node R n).ok x n1 e1).2 q3
      rw [Nd.sh_zero] at e3
      obtain ⟨w, hw, hl, ha⟩ := ih _ _ _ _ q3 e2
      refine ⟨x :: w, by rw [hw]; simp, by simp; omega, fun acc' => ?_⟩
      have hkJ : (J.pk n).kind ≠ 0 := by
        have := (R.kindP (n := n) 0 p1)
        intro h0
        exact hk (this.2 h0)
      conv => lhs; unfold Ps.nodes
      rw [if_neg hkJ, e3]
      show Ps.nodes J f (acc' ++ [x]) n1 = _
      rw [ha]
      simp
theorem nodes_second {I J : Inp} {s sh : Nat} (R : Rel I J s sh) (hend : (J.pk (I.L.length + s)).kind = 0) : ∀ (f : Nat) (acc : List Nd) (n : Nat) (v : List Nd) (m : Nat), n ≤ I.L.length → Ps.nodes I f acc n = .ok v m →
    ∃ w, v = acc ++ w ∧ ∀ g acc', (w.length ≤ g → ∃ m2, Ps.nodes J g acc' (n + s) = .ok (acc' ++ w.map (Nd.sh sh)) m2) ∧ (g < w.length → ∃ a, Ps.nodes J g acc' (n + s) = .err 7 a) := by
  have last : ∀ (g : Nat) (acc' : List Nd), Ps.nodes J g acc' (I.L.length + s) = .ok acc' (I.L.length + s) := by
    intro g acc'
    cases g <;> (unfold Ps.nodes; rw [if_pos hend])
  intro f
  induction f with
  | zero =>
    intro acc n v m hn h
    unfold Ps.nodes at h
    split at h
    · rename_i hk
      cases h
      have : ¬ n < I.L.length := fun hl => R.kind n hl hk
      obtain rfl : n = I.L.length := by omega
      exact ⟨[], by simp, fun g acc' => ⟨fun _ => ⟨_, by rw [last]; simp; rfl⟩, fun hg => by simp at hg⟩⟩
    · split at h <;> cases h
  | succ f ih =>
    intro acc n v m hn h
    unfold Ps.nodes at h
    split at h
    · rename_i hk
      cases h
      have : ¬ n < I.L.length := fun hl => R.kind n hl hk
      obtain rfl : n = I.L.length := by omega
      exact ⟨[], by simp, fun g acc' => ⟨fun _ => ⟨_, by rw [last]; simp; rfl⟩, fun hg => by simp at hg⟩⟩
    · rename_i hk
      obtain ⟨x, n1, e1, e2⟩ := bind_ok h
      obtain ⟨q1, q2, q3⟩ := node_end R e1
      obtain ⟨p1, p2⟩ := node_starts e1
      have e3 : Ps.node J (n + s) = .ok (Nd.sh sh x) (n1 + s) := ((agr_node R n).ok x n1 e1).2 q3
      obtain ⟨w, hw, ha⟩ := ih _ _ _ _ q3 e2
      have hkJ : (J.pk (n + s)).kind ≠ 0 := by
        have := (R.kindP (n := n) 0 p1)
        intro h0
        exact hk (this.2 h0)
      refine ⟨x :: w, by rw [hw]; simp, fun g acc' => ?_⟩
      cases g with
      | zero =>
        refine ⟨fun h => by simp at h, fun _ => ⟨(J.pk (n + s)).place, ?_⟩⟩
        unfold Ps.nodes
        rw [if_neg hkJ, if_pos ((R.sees p1 _).trans p2)]
      | succ g =>
        have he : Ps.nodes J (g + 1) acc' (n + s) = Ps.nodes J g (acc' ++ [Nd.sh sh x]) (n1 + s) := by
          conv => lhs; unfold Ps.nodes
          rw [if_neg hkJ, e3]
          rfl
        rw [he]
        obtain ⟨a1, a2⟩ := ha g (acc' ++ [Nd.sh sh x])
        refine ⟨fun h => ?_, fun h => ?_⟩
        · obtain ⟨m2, e⟩ := a1 (by simp at h; omega)
          exact ⟨m2, by rw [e]; simp⟩
        · exact a2 (by simp at h; omega)
theorem program_nodes {I : Inp} (h : (I.pk 0).kind ≠ 0) : Ps.program I = Ps.nodes I 10 [] 0 := by
  unfold Ps.program
  conv => rhs; unfold Ps.nodes
  rw [if_neg h]
  rfl

/-- what goes wrong in the first goes wrong in both -/
theorem program_wrong {I J : Inp} {s sh : Nat} (R : Rel I J s sh) {c a : Nat} (hc : c = 4 ∨ c = 6) : ∀ (f : Nat) (acc acc' : List Nd) (n : Nat), Ps.nodes I f acc n = .err c a → Ps.nodes J f acc' (n + s) = .err c (a + sh) := by
  intro f
  induction f with
  | zero =>
    intro acc acc' n h
    unfold Ps.nodes at h ⊢
    split at h
    · cases h
    · rename_i hk
      split at h
      · cases h; omega
      · rename_i hs
        obtain ⟨_, _, k3⟩ := (agr_refuse (α := List Nd) R id n).err c a h
        obtain ⟨k4, k5⟩ := k3 hc
        rw [if_neg (fun h0 => hk ((R.kindP 0 k4).2 h0)), if_neg (by rw [R.sees k4]; exact hs)]
        exact k5
  | succ f ih =>
    intro acc acc' n h
    unfold Ps.nodes at h ⊢
    split at h
    · cases h
    · rename_i hk
      cases e : Ps.node I n with
      | ok x n1 =>
        rw [e] at h
        obtain ⟨p1, p2⟩ := node_starts e
        obtain ⟨q1, q2, q3⟩ := node_end R e
        rw [if_neg (fun h0 => hk ((R.kindP 0 p1).2 h0)), ((agr_node R n).ok x n1 e).2 q3]
        exact ih _ _ _ h
      | err c1 a1 =>
        rw [e] at h
        obtain ⟨_, _, k3⟩ := (agr_node R n).err c1 a1 e
        cases h
        obtain ⟨k4, k5⟩ := k3 hc
        rw [if_neg (fun h0 => hk ((R.kindP 0 k4).2 h0)), k5]
        rfl

theorem rel_first (a : List UInt8) (M : List Tk.Tok) (len : Nat) (h : (Tk.scan a).2.1 = 0) : Rel ⟨(Tk.scan a).1, a.length⟩ ⟨(Tk.scan a).1 ++ M, len⟩ 0 0 := by
  have hs := rel_self a h
  refine ⟨fun n hn => ?_, hs.kind, hs.place, by simp⟩
  have hn' : n < (Tk.scan a).1.length := hn
  rw [pk_get ⟨(Tk.scan a).1 ++ M, len⟩ (n + 0) (by simp; omega), pk_get _ _ hn]
  show ((Tk.scan a).1 ++ M)[n]'(by simp; omega) = _
  rw [List.getElem_append_left hn']
  rfl
theorem rel_second (b : List UInt8) (M : List Tk.Tok) (d len : Nat) (h : (Tk.scan b).2.1 = 0) : Rel ⟨(Tk.scan b).1, b.length⟩ ⟨M ++ (Tk.scan b).1.map (Tk.shift d), len⟩ M.length d := by
  have hs := rel_self b h
  refine ⟨fun n hn => ?_, hs.kind, hs.place, by simp; omega⟩
  have hn' : n < (Tk.scan b).1.length := hn
  rw [pk_get ⟨M ++ (Tk.scan b).1.map (Tk.shift d), len⟩ (n + M.length) (by simp; omega), pk_get _ _ hn]
  show (M ++ (Tk.scan b).1.map (Tk.shift d))[n + M.length]'_ = _
  rw [List.getElem_append_right (by omega)]
  simp [Tk.shift]

/-- what parseT makes of tokens without fault -/
theorem parseT_ok (t : List UInt8) (h : (Tk.scan t).2.1 = 0) : (∃ P m, Ps.program ⟨(Tk.scan t).1, t.length⟩ = .ok P m ∧ parseT t = (P, 0, 0)) ∨ (∃ c a, Ps.program ⟨(Tk.scan t).1, t.length⟩ = .err c a ∧ parseT t = ([], (c : Int), (a : Int)) ∧ 4 ≤ c) := by
  unfold parseT
  simp only []
  rw [if_pos h]
  cases e : Ps.program ⟨(Tk.scan t).1, t.length⟩ with
  | ok P m => left; exact ⟨P, m, rfl, rfl⟩
  | err c a => right; exact ⟨c, a, rfl, rfl, (program_err (rel_self t h) e).1⟩
theorem parseT_fault (t : List UInt8) (h : (Tk.scan t).2.1 ≠ 0) : parseT t = ([], (Tk.scan t).2.1, (Tk.scan t).2.2) := by
  unfold parseT
  simp only []
  rw [if_neg h]

/-- PROGRAMS ONE BEHIND THE OTHER: a fault in the first -/
theorem parse_join_wrong (a b : List UInt8) (h : a.length + b.length + 1 ≤ 12000) (hf : (parseT a).2.1 = 4 ∨ (parseT a).2.1 = 6) :
    (parseT (a ++ 10 :: b)).2 = (parseT a).2 ∨ (Tk.scan b).2.1 ≠ 0 := by
  by_cases hb : (Tk.scan b).2.1 = 0
  · left
    have hj := Tk.scan_join a b h
    by_cases ha : (Tk.scan a).2.1 = 0
    · rw [if_neg (by simpa using ha), if_neg (by simpa using hb)] at hj
      have hjc : (Tk.scan (a ++ 10 :: b)).2.1 = 0 := by rw [hj]
      rcases parseT_ok a ha with ⟨P, m, e, e2⟩ | ⟨c, p, e, e2, _⟩
      · rw [e2] at hf; simp at hf
      · rw [e2] at hf ⊢
        have hc : c = 4 ∨ c = 6 := by simp at hf; omega
        have R := rel_first a ((Tk.scan b).1.map (Tk.shift (a.length + 1))) (a ++ 10 :: b).length ha
        have hw : Ps.program ⟨(Tk.scan (a ++ 10 :: b)).1, (a ++ 10 :: b).length⟩ = .err c p := by
          rw [hj]
          show Ps.program ⟨(Tk.scan a).1 ++ (Tk.scan b).1.map (Tk.shift (a.length + 1)), (a ++ 10 :: b).length⟩ = _
          unfold Ps.program at e ⊢
          cases en : Ps.node ⟨(Tk.scan a).1, a.length⟩ 0 with
          | ok x n1 =>
            rw [en] at e
            obtain ⟨q1, q2, q3⟩ := node_end R en
            have e3 := ((agr_node R 0).ok x n1 en).2 q3
            rw [show (0 + 0 : Nat) = 0 from rfl] at e3
            rw [e3]
            exact program_wrong R hc 9 [x] [Nd.sh 0 x] n1 e
          | err c1 a1 =>
            rw [en] at e
            obtain ⟨_, _, k3⟩ := (agr_node R 0).err c1 a1 en
            have e' : Res.err (α := List Nd) c1 a1 = .err c p := e
            injection e' with e7 e8
            subst e7 e8
            have k5 := (k3 hc).2
            rw [show (0 + 0 : Nat) = 0 from rfl] at k5
            rw [k5]
            rfl
        rcases parseT_ok _ hjc with ⟨P, m, e5, e6⟩ | ⟨c2, p2, e5, e6, _⟩
        · rw [hw] at e5; cases e5
        · rw [hw] at e5
          injection e5 with e7 e8
          subst e7 e8
          rw [e6]
    · rw [if_pos ha] at hj
      have : (Tk.scan (a ++ 10 :: b)).2.1 ≠ 0 := by rw [hj]; exact ha
      rw [parseT_fault _ this, parseT_fault _ ha, hj]
  · right; exact hb

/-- .. no fault in either -/
theorem parse_join (a b : List UInt8) (h : a.length + b.length + 1 ≤ 12000) (hf : (parseT a).2.1 = 0) (hg : (parseT b).2.1 = 0) :
    (parseT b).1 ≠ [] ∧ (10 < (parseT a).1.length + (parseT b).1.length → (parseT (a ++ 10 :: b)).2.1 = 7) ∧
    ((parseT a).1.length + (parseT b).1.length ≤ 10 → parseT (a ++ 10 :: b) = ((parseT a).1 ++ (parseT b).1.map (Nd.sh (a.length + 1)), 0, 0)) := by
  have scan0 : ∀ t : List UInt8, (parseT t).2.1 = 0 → (Tk.scan t).2.1 = 0 := by
    intro t ht
    apply Classical.byContradiction
    intro hc
    rw [parseT_fault _ hc] at ht
    exact hc ht
  have ha := scan0 a hf
  have hb := scan0 b hg
  have hj := Tk.scan_join a b h
  rw [if_neg (by simpa using ha), if_neg (by simpa using hb)] at hj
  have hjc : (Tk.scan (a ++ 10 :: b)).2.1 = 0 := by rw [hj]
  rcases parseT_ok a ha with ⟨P, m, e, e2⟩ | ⟨c, p, e, e2, h4⟩
  rotate_left
  · rw [e2] at hf; simp at hf; omega
  rcases parseT_ok b hb with ⟨Q, mb, eb, eb2⟩ | ⟨c, p, e, e2, h4⟩
  rotate_left
  · rw [e2] at hg; simp at hg; omega
  rw [e2, eb2]
  show Q ≠ [] ∧ (10 < P.length + Q.length → _) ∧ (P.length + Q.length ≤ 10 → _)
  have R1 := rel_first a ((Tk.scan b).1.map (Tk.shift (a.length + 1))) (a ++ 10 :: b).length ha
  have R2 := rel_second b (Tk.scan a).1 (a.length + 1) (a ++ 10 :: b).length hb
  have hend : ((⟨(Tk.scan a).1 ++ (Tk.scan b).1.map (Tk.shift (a.length + 1)), (a ++ 10 :: b).length⟩ : Inp).pk ((⟨(Tk.scan b).1, b.length⟩ : Inp).L.length + (Tk.scan a).1.length)).kind = 0 := by
    rw [Inp.pk_end _ _ (by simp; omega)]
  have pos : ∀ (K : Inp) (v : List Nd) (m : Nat), Ps.program K = .ok v m → (K.pk 0).kind ≠ 0 ∨ ¬ 0 < K.L.length ∨ (K.pk 0).kind = 0 := by
    intro K v m _
    by_cases h0 : (K.pk 0).kind = 0
    · exact Or.inr (Or.inr h0)
    · exact Or.inl h0
  have first : ∀ (t : List UInt8) (ht : (Tk.scan t).2.1 = 0) (v : List Nd) (m : Nat), Ps.program ⟨(Tk.scan t).1, t.length⟩ = .ok v m → ((⟨(Tk.scan t).1, t.length⟩ : Inp).pk 0).kind ≠ 0 := by
    intro t ht v m hp
    unfold Ps.program at hp
    obtain ⟨x, n1, e1, _⟩ := bind_ok hp
    exact (rel_self t ht).kind 0 (node_starts e1).1
  have ka := first a ha P m e
  have kb := first b hb Q mb eb
  rw [program_nodes ka] at e
  rw [program_nodes kb] at eb
  obtain ⟨w1, hw1, hl1, hJ1⟩ := nodes_first R1 10 [] 0 P m (by simp) e
  obtain ⟨w2, hw2, hJ2⟩ := nodes_second R2 hend 10 [] 0 Q mb (by simp) eb
  simp only [List.nil_append] at hw1 hw2
  subst hw1 hw2
  have hQ : Q ≠ [] := by
    intro hz
    subst hz
    unfold Ps.nodes at eb
    rw [if_neg kb] at eb
    obtain ⟨x, n1, _, e5⟩ := bind_ok eb
    have := nodes_len _ _ _ _ _ _ e5
    simp at this
  have kJ : ((⟨(Tk.scan a).1 ++ (Tk.scan b).1.map (Tk.shift (a.length + 1)), (a ++ 10 :: b).length⟩ : Inp).pk 0).kind ≠ 0 := by
    have hin : 0 < (⟨(Tk.scan a).1, a.length⟩ : Inp).L.length := by
      apply Classical.byContradiction
      intro hz
      rw [Inp.pk_end _ _ hz] at ka
      exact ka rfl
    have := R1.kindP (n := 0) 0 hin
    intro h0
    exact ka (this.2 h0)
  have hprog : Ps.program ⟨(Tk.scan (a ++ 10 :: b)).1, (a ++ 10 :: b).length⟩ = Ps.nodes ⟨(Tk.scan a).1 ++ (Tk.scan b).1.map (Tk.shift (a.length + 1)), (a ++ 10 :: b).length⟩ (10 - P.length) P (0 + (Tk.scan a).1.length) := by
    rw [hj]
    show Ps.program ⟨(Tk.scan a).1 ++ (Tk.scan b).1.map (Tk.shift (a.length + 1)), (a ++ 10 :: b).length⟩ = _
    rw [program_nodes kJ, hJ1 [], Nat.zero_add]
    rfl
  obtain ⟨g1, g2⟩ := hJ2 (10 - P.length) P
  refine ⟨hQ, fun hgt => ?_, fun hle => ?_⟩
  · obtain ⟨at', ea⟩ := g2 (by omega)
    rw [ea] at hprog
    rcases parseT_ok _ hjc with ⟨P2, m2, e5, e6⟩ | ⟨c2, p2, e5, e6, _⟩
    · rw [hprog] at e5; cases e5
    · rw [hprog] at e5
      injection e5 with e7 e8
      subst e7 e8
      rw [e6]
      rfl
  · obtain ⟨m2, ea⟩ := g1 (by omega)
    rw [ea] at hprog
    rcases parseT_ok _ hjc with ⟨P2, m2, e5, e6⟩ | ⟨c2, p2, e5, e6, _⟩
    · rw [hprog] at e5
      injection e5 with e7 e8
      subst e7
      rw [e6]
    · rw [hprog] at e5; cases e5
end Go.Proofs.YtmgaeapckfdbpaaDoor


/-
  DERIVED. PLAIN MATHEMATICS: what Parse answers takes no more room than there is.
-/
namespace Go.Proofs.YtmgaeapckfdbpaaDoor
set_option linter.unusedVariables false

/-- what is read has this property -/
def Fits {α : Type} (p : α → Prop) (x : Res α) : Prop := ∀ v m, x = .ok v m → p v
theorem Fits.ok {α : Type} {p : α → Prop} {v : α} {m : Nat} (h : p v) : Fits p (.ok v m) := fun v' m' e => by injection e with e1 e2; subst e1; exact h
theorem Fits.err {α : Type} {p : α → Prop} {c a : Nat} : Fits p (.err c a) := fun v' m' e => by cases e
theorem Fits.refuse {α : Type} {p : α → Prop} {I : Inp} {n : Nat} : Fits p (Ps.refuse I n) := Fits.err
theorem Fits.bind {α β : Type} {q : α → Prop} {p : β → Prop} {x : Res α} {f : α → Nat → Res β} (hx : Fits q x) (hf : ∀ v m, q v → Fits p (f v m)) : Fits p (x.bind f) := by
  cases x with
  | ok v m => exact hf v m (hx v m rfl)
  | err c a => exact Fits.err
theorem Fits.any {α : Type} {x : Res α} : Fits (fun _ => True) x := fun _ _ _ => trivial
theorem Fits.ite {α : Type} {p : α → Prop} {c : Prop} [Decidable c] {x y : Res α} (h1 : c → Fits p x) (h2 : ¬ c → Fits p y) : Fits p (if c then x else y) := by
  split
  · exact h1 (by assumption)
  · exact h2 (by assumption)

theorem fit_row {α : Type} {p : α → Prop} (I : Inp) (r : Nat → Res α) (h : ∀ n, Fits p (r n)) : ∀ (f : Nat) (acc : List α) (n : Nat), (∀ x ∈ acc, p x) →
    Fits (fun l => l.length ≤ acc.length + f ∧ ∀ x ∈ l, p x) (Ps.row I r f acc n) := by
  intro f
  induction f with
  | zero => intro acc n ha; exact Fits.err
  | succ f ih =>
    intro acc n ha
    unfold Ps.row
    refine (h n).bind fun v m hv => ?_
    have ha2 : ∀ x ∈ acc ++ [v], p x := by
      intro x hx
      rcases List.mem_append.1 hx with hx | hx
      · exact ha x hx
      · simp at hx; subst hx; exact hv
    refine Fits.ite (fun _ => ?_) (fun _ => Fits.ok ⟨by simp, ha2⟩)
    intro l k e
    obtain ⟨h1, h2⟩ := ih (acc ++ [v]) (m + 1) ha2 l k e
    simp at h1
    exact ⟨by omega, h2⟩
theorem fit_terms (I : Inp) : ∀ (f : Nat) (acc : List Tm) (n : Nat), Fits (fun l => l.length ≤ acc.length + f) (Ps.terms I f acc n) := by
  intro f
  induction f with
  | zero =>
    intro acc n
    unfold Ps.terms
    exact Fits.ite (fun _ => Fits.err) (fun _ => Fits.ok (Nat.le_refl _))
  | succ f ih =>
    intro acc n
    unfold Ps.terms
    refine Fits.ite (fun _ => Fits.any.bind fun t m _ => ?_) (fun _ => Fits.ok (Nat.le_add_right _ _))
    intro l k e
    have := ih (acc ++ [t]) m l k e
    simp at this
    show l.length ≤ _
    omega
theorem fit_size (I : Inp) (n : Nat) : Fits (fun l => l.length ≤ 30) (Ps.size I n) := by
  unfold Ps.size
  refine Fits.any.bind fun t m _ => ?_
  intro l k e
  have := fit_terms I 29 [t] m l k e
  simpa using this
theorem fit_decl (I : Inp) (n : Nat) : Fits (fun d => d.n.length ≤ 30) (Ps.decl I n) := by
  have hN : ∀ s e n, Fits (fun d : De => d.n.length ≤ 30) (Ps.declN I s e n) := by
    intro s e n
    unfold Ps.declN
    exact Fits.ite (fun _ => (fit_size I _).bind fun z m hz => Fits.ok hz) (fun _ => Fits.ok (by simp))
  unfold Ps.decl
  exact Fits.any.bind fun s m _ => Fits.any.bind fun _ m2 _ => Fits.ite (fun _ => hN _ _ _) (fun _ => Fits.ite (fun _ => hN _ _ _) (fun _ => Fits.refuse))

/-- few sizes and parts, each of them fitting -/
def PX (j : Nat) (e : Ex) : Prop := (∀ s ∈ e.S, s.length ≤ 30) ∧ (∀ x ∈ e.L, FitX x) ∧ e.S.length ≤ j ∧ e.L.length ≤ 2 * j
theorem PX.fit {j : Nat} {e : Ex} (h : PX j e) (hj : j ≤ 100) : FitX e := by
  cases e with
  | mk o k n s S L =>
    obtain ⟨h1, h2, h3, h4⟩ := h
    simp only [Ex.S, Ex.L] at h1 h2 h3 h4
    refine FitX.mk ⟨by omega, fun i hi => ?_⟩ (by omega) (fun i hi => h2 _ (List.getElem_mem _))
    have := h1 _ (List.getElem_mem hi)
    omega
theorem fit_mk (o k n : Int) (s : ByteArray) (L : List Ex) (hl : L.length ≤ 20) (h : ∀ x ∈ L, FitX x) : FitX (.mk o k n s [] L) :=
  PX.fit (j := 20) (e := .mk o k n s [] L) ⟨by simp [Ex.S], by simpa [Ex.L] using h, by simp [Ex.S], by simp [Ex.L]; omega⟩ (by omega)
def FX (R : Nat → Res Ex) : Prop := ∀ n, Fits FitX (R n)

theorem fit_more (I : Inp) (R : Nat → Res Ex) (hR : FX R) (a c : Int) : ∀ (f : Nat) (e : Ex) (n : Nat), FitX e → Fits FitX (Ps.more I R a c f e n) := by
  intro f
  induction f with
  | zero => intro e n he; exact Fits.ok he
  | succ f ih =>
    intro e n he
    unfold Ps.more
    refine Fits.ite (fun _ => Fits.ok he) (fun _ => (hR _).bind fun r m hr => ih _ _ (fit_mk _ _ _ _ _ (by simp) ?_))
    intro x hx
    simp at hx
    rcases hx with rfl | rfl
    · exact he
    · exact hr
theorem fit_fromLeft (I : Inp) (R : Nat → Res Ex) (hR : FX R) (a c : Int) : FX (Ps.fromLeft I R a c) := fun n => by
  unfold Ps.fromLeft
  exact (hR n).bind fun e m he => fit_more I R hR a c _ _ _ he
theorem fit_cmp (I : Inp) (R : Nat → Res Ex) (hR : FX R) : FX (Ps.cmp I R) := fun n => by
  unfold Ps.cmp
  refine (hR n).bind fun e m he => Fits.ite (fun _ => Fits.ok he) (fun _ => (hR _).bind fun r m2 hr => Fits.ok (fit_mk _ _ _ _ _ (by simp) ?_))
  intro x hx
  simp at hx
  rcases hx with rfl | rfl
  · exact he
  · exact hr
theorem fit_exprOf (I : Inp) (A : Nat → Res Ex) (hA : FX A) : FX (Ps.exprOf I A) :=
  fit_fromLeft _ _ (fit_fromLeft _ _ (fit_cmp _ _ (fit_fromLeft _ _ (fit_fromLeft _ _ hA _ _) _ _)) _ _) _ _

theorem PX.addL {j : Nat} {e x : Ex} (h : PX j e) (hx : FitX x) : (∀ s ∈ (Ps.Ex.addL e x).S, s.length ≤ 30) ∧ (∀ y ∈ (Ps.Ex.addL e x).L, FitX y) ∧ (Ps.Ex.addL e x).S.length ≤ j ∧ (Ps.Ex.addL e x).L.length ≤ 2 * j + 1 := by
  obtain ⟨h1, h2, h3, h4⟩ := h
  refine ⟨h1, ?_, h3, ?_⟩
  · intro y hy
    have hy : y ∈ e.L ++ [x] := hy
    rcases List.mem_append.1 hy with hy | hy
    · exact h2 y hy
    · simp at hy; subst hy; exact hx
  · show (e.L ++ [x]).length ≤ _
    simp
    omega
theorem fit_part (I : Inp) (E : Nat → Res Ex) (hE : FX E) (p : Ps.Pt) (j : Nat) (e : Ex) (he : PX j e) (n : Nat) : Fits (PX (j + 1)) (Ps.part I E p e n) := by
  cases p with
  | part =>
    refine (hE n).bind fun x m hx => Fits.ok ?_
    obtain ⟨h1, h2, h3, h4⟩ := he.addL hx
    exact ⟨h1, h2, by omega, by omega⟩
  | size =>
    refine (fit_size I n).bind fun s m hs => Fits.ok ?_
    obtain ⟨h1, h2, h3, h4⟩ := he
    refine ⟨?_, h2, ?_, by show e.L.length ≤ _; omega⟩
    · intro y hy
      have hy : y ∈ e.S ++ [s] := hy
      rcases List.mem_append.1 hy with hy | hy
      · exact h1 y hy
      · simp at hy; subst hy; exact hs
    · show (e.S ++ [s]).length ≤ _
      simp
      omega
  | oper =>
    refine Fits.any.bind fun k m _ => Fits.ok ?_
    obtain ⟨h1, h2, h3, h4⟩ := he
    exact ⟨h1, h2, by show e.S.length ≤ _; omega, by show e.L.length ≤ _; omega⟩
  | oneOrTwo =>
    refine (hE n).bind fun x m hx => ?_
    obtain ⟨h1, h2, h3, h4⟩ := he.addL hx
    refine Fits.ite (fun _ => (hE _).bind fun y m2 hy => Fits.ok ?_) (fun _ => Fits.ok ⟨h1, h2, by omega, by omega⟩)
    refine ⟨h1, ?_, by show (Ps.Ex.addL e x).S.length ≤ _; omega, ?_⟩
    · intro z hz
      have hz : z ∈ (Ps.Ex.addL e x).L ++ [y] := hz
      rcases List.mem_append.1 hz with hz | hz
      · exact h2 z hz
      · simp at hz; subst hz; exact hy
    · show ((Ps.Ex.addL e x).L ++ [y]).length ≤ _
      simp
      omega
theorem fit_parts (I : Inp) (E : Nat → Res Ex) (hE : FX E) : ∀ (ps : List Ps.Pt) (j : Nat) (e : Ex) (he : PX j e) (n : Nat), Fits (PX (j + ps.length)) (Ps.parts I E ps e n)
  | [], j, e, he, n => Fits.ok he
  | p :: ps, j, e, he, n => by
    unfold Ps.parts
    refine Fits.any.bind fun _ m _ => (fit_part I E hE p j e he m).bind fun e1 m1 h1 => ?_
    have := fit_parts I E hE ps (j + 1) e1 h1 m1
    rw [show j + (p :: ps).length = j + 1 + ps.length by simp; omega]
    exact this
theorem fit_brackets (I : Inp) (E : Nat → Res Ex) (hE : FX E) (p : Ps.Pt) (ps : List Ps.Pt) (hps : ps.length ≤ 10) (op k : Int) (n : Nat) : Fits FitX (Ps.brackets I E p ps (Ps.bare op k) n) := by
  unfold Ps.brackets
  refine Fits.any.bind fun _ m _ => (fit_part I E hE p 0 _ ⟨by simp [Ps.bare, Ex.S], by simp [Ps.bare, Ex.L], by simp [Ps.bare, Ex.S], by simp [Ps.bare, Ex.L]⟩ m).bind fun e1 m1 h1 =>
    (fit_parts I E hE ps 1 e1 h1 m1).bind fun e2 m2 h2 => Fits.any.bind fun _ m3 _ => Fits.ok (h2.fit (by omega))
def FXO (J : Option (Nat → Res Ex)) : Prop := ∀ A, J = some A → FX A
theorem fit_opn (I : Inp) (J : Option (Nat → Res Ex)) (hJ : FXO J) (n : Nat) (k : (Nat → Res Ex) → Nat → Res Ex) (hk : ∀ A, FX A → FX (k A)) : Fits FitX (Ps.opn I J n k) := by
  unfold Ps.opn
  cases J with
  | none => exact Fits.err
  | some A => exact hk A (hJ A rfl) _
theorem fit_form (I : Inp) (J : Option (Nat → Res Ex)) (hJ : FXO J) : FX (Ps.form I J) := fun n => by
  have go : ∀ (op k : Int) (p : Ps.Pt) (ps : List Ps.Pt), ps.length ≤ 10 → Fits FitX (Ps.opn I J n fun A n1 => Ps.brackets I (Ps.exprOf I A) p ps (Ps.bare op k) n1) :=
    fun op k p ps h => fit_opn I J hJ n _ fun A hA n => fit_brackets I _ (fit_exprOf I A hA) p ps h op k n
  unfold Ps.form
  repeat' (first | exact Fits.refuse | exact go _ _ _ _ (by decide) | refine Fits.ite (fun _ => ?_) (fun _ => ?_))
theorem fit_bracketed (I : Inp) (E : Nat → Res Ex) (hE : FX E) : FX (Ps.bracketed I E) := fun n => by
  unfold Ps.bracketed
  exact (hE n).bind fun e m he => Fits.any.bind fun _ m2 _ => Fits.ok he
theorem fit_choice (I : Inp) (E : Nat → Res Ex) (hE : FX E) : FX (Ps.choice I E) := fun n => by
  unfold Ps.choice
  refine (hE n).bind fun t m ht => Fits.any.bind fun _ m2 _ => (hE _).bind fun y m3 hy => Fits.any.bind fun _ m4 _ => (hE _).bind fun z m5 hz => Fits.ok (fit_mk _ _ _ _ _ (by simp) ?_)
  intro x hx
  simp at hx
  rcases hx with rfl | rfl | rfl
  · exact ht
  · exact hy
  · exact hz
theorem fit_unit (I : Inp) (J : Option (Nat → Res Ex)) (hJ : FXO J) : FX (Ps.unit I J) := fun n => by
  unfold Ps.unit
  refine Fits.ite (fun _ => Fits.ok (fit_mk _ _ _ _ _ (by simp) (by simp))) fun _ => Fits.ite (fun _ => Fits.ok (fit_mk _ _ _ _ _ (by simp) (by simp))) fun _ => Fits.ite (fun _ => Fits.ok (fit_mk _ _ _ _ _ (by simp) (by simp))) fun _ => Fits.ite (fun _ => Fits.ok (fit_mk _ _ _ _ _ (by simp) (by simp))) fun _ =>
    Fits.ite (fun _ => fit_opn I J hJ n _ fun A hA => fit_bracketed I _ (fit_exprOf I A hA)) fun _ => Fits.ite (fun _ => fit_opn I J hJ n _ fun A hA => fit_choice I _ (fit_exprOf I A hA)) fun _ => fit_form I J hJ n
theorem fit_index (I : Inp) (E : Nat → Res Ex) (hE : FX E) (e : Ex) (he : FitX e) : FX (Ps.index I E e) := fun n => by
  unfold Ps.index
  refine (hE n).bind fun y m hy => Fits.any.bind fun _ m2 _ => (hE _).bind fun z m3 hz => Fits.any.bind fun _ m4 _ => Fits.ok (fit_mk _ _ _ _ _ (by simp) ?_)
  intro x hx
  simp at hx
  rcases hx with rfl | rfl | rfl
  · exact he
  · exact hy
  · exact hz
theorem fit_indices (I : Inp) (J : Option (Nat → Res Ex)) (hJ : FXO J) : ∀ (f : Nat) (e : Ex) (n : Nat), FitX e → Fits FitX (Ps.indices I J f e n) := by
  intro f
  induction f with
  | zero => intro e n he; exact Fits.ok he
  | succ f ih =>
    intro e n he
    unfold Ps.indices
    exact Fits.ite (fun _ => (fit_opn I J hJ n _ fun A hA => fit_index I _ (fit_exprOf I A hA) e he).bind fun e1 m h1 => ih _ _ h1) (fun _ => Fits.ok he)
theorem fit_signed (A : Nat → Res Ex) (hA : FX A) (k : Int) : FX (Ps.signed A k) := fun n => by
  unfold Ps.signed
  exact (hA n).bind fun e m he => Fits.ok (fit_mk _ _ _ _ _ (by simp) (by simpa using he))
theorem fit_aheadS (I : Inp) (J : Option (Nat → Res Ex)) (hJ : FXO J) : FX (Ps.aheadS I J) := fun n => by
  unfold Ps.aheadS
  exact Fits.ite (fun _ => fit_opn I J hJ n _ fun A hA => fit_signed A hA _) fun _ => Fits.ite (fun _ => fit_opn I J hJ n _ fun A hA => fit_signed A hA _) fun _ => (fit_unit I J hJ n).bind fun e m he => fit_indices I J hJ _ _ _ he
theorem fit_ahead (I : Inp) : ∀ d, FX (Ps.ahead I d)
  | 0 => fit_aheadS I none (fun A h => by cases h)
  | d + 1 => fit_aheadS I (some _) (fun A h => by cases h; exact fit_ahead I d)
theorem fit_whole (I : Inp) : FX (Ps.whole I) := fun n => by
  unfold Ps.whole Ps.expr
  exact (fit_exprOf I _ (fit_ahead I 60) n).bind fun e m he => Fits.ite (fun _ => Fits.err) (fun _ => Fits.ok he)

theorem fit_angled {α : Type} {p : α → Prop} (I : Inp) (r : Nat → Res α) (h : ∀ n, Fits p (r n)) (f : Nat) (t u : List UInt8) (n : Nat) :
    Fits (fun l => l.length ≤ f ∧ ∀ x ∈ l, p x) (if Ps.sees I t n = true then (Ps.row I r f [] (n + 1)).bind fun z n3 => (Ps.need I u n3).bind fun _ n4 => .ok z n4 else .ok [] n) := by
  refine Fits.ite (fun _ => (fit_row I r h f [] _ (by simp)).bind fun z m hz => Fits.any.bind fun _ m2 _ => Fits.ok ?_) (fun _ => Fits.ok (by simp))
  simpa using hz
theorem fit_closed {α : Type} {p : α → Prop} (I : Inp) (r : Nat → Res α) (h : ∀ n, Fits p (r n)) (f : Nat) (t : List UInt8) (n : Nat) :
    Fits (fun l => l.length ≤ f ∧ ∀ x ∈ l, p x) (if Ps.sees I t n = true then .ok [] (n + 1) else (Ps.row I r f [] n).bind fun z n3 => (Ps.need I t n3).bind fun _ n4 => .ok z n4) := by
  refine Fits.ite (fun _ => Fits.ok (by simp)) (fun _ => (fit_row I r h f [] _ (by simp)).bind fun z m hz => Fits.any.bind fun _ m2 _ => Fits.ok ?_)
  simpa using hz
theorem fit_call (I : Inp) (at0 : Int) (l : List ByteArray) (hl : l.length ≤ 30) (n : Nat) : Fits FitQ (Ps.call I at0 l n) := by
  unfold Ps.call
  refine Fits.any.bind fun _ m1 _ => Fits.any.bind fun s m2 _ => (fit_angled I _ (fit_size I) 3 _ _ m2).bind fun z m3 hz => Fits.any.bind fun _ m4 _ => (fit_closed I _ (fit_whole I) 30 _ m4).bind fun e m5 he => Fits.ok ?_
  refine ⟨by show l.length * 16 ≤ _; omega, ⟨by show z.length * 24 ≤ _; omega, fun i hi => ?_⟩, ⟨by show e.length * 88 ≤ _; omega, fun i hi => he.2 _ (List.getElem_mem _)⟩⟩
  have h9 : i < z.length := hi
  have := hz.2 z[i] (List.getElem_mem h9)
  show (z[i]).length * 24 ≤ _
  omega
theorem fit_equation (I : Inp) (n : Nat) : Fits FitQ (Ps.equation I n) := by
  unfold Ps.equation
  refine (fit_row (p := fun _ => True) I _ (fun _ => Fits.any) 30 [] n (by simp)).bind fun l m hl => Fits.any.bind fun _ m2 _ => ?_
  have hl : l.length ≤ 30 := by simpa using hl
  refine Fits.ite (fun _ => (fit_whole I _).bind fun e m3 he => Fits.ok ?_) (fun _ => fit_call I _ l hl _)
  exact ⟨by show l.length * 16 ≤ _; omega, ⟨by simp, fun i hi => by simp at hi⟩, ⟨by simp, fun i hi => by simp at hi; subst hi; exact he⟩⟩
theorem equation_name (I : Inp) (n : Nat) (v : Eqn) (m : Nat) (h : Ps.equation I n = .ok v m) : (I.pk n).kind = 2 := by
  apply Classical.byContradiction
  intro hk
  unfold Ps.equation Ps.row Ps.name at h
  rw [if_neg hk] at h
  cases h
/-- few locals and equations, each of them fitting -/
def PL (p : List De × List Eqn) : Prop := p.1.length ≤ 30 ∧ (∀ d ∈ p.1, d.n.length ≤ 30) ∧ p.2.length ≤ 60 ∧ ∀ q ∈ p.2, FitQ q
theorem fit_line (I : Inp) (loc : List De) (eqs : List Eqn) (h : PL (loc, eqs)) (n : Nat) : Fits PL (Ps.line I loc eqs n) := by
  obtain ⟨h1, h2, h3, h4⟩ := h
  unfold Ps.line
  refine Fits.bind (q := PL) ?_ fun p m hp => Fits.any.bind fun _ m2 _ => Fits.ok hp
  refine Fits.ite (fun _ => Fits.ite (fun _ => Fits.err) (fun hl => (fit_decl I _).bind fun d m hd => Fits.ok ?_)) (fun _ => Fits.ite (fun _ => Fits.err) (fun hl => ?_))
  · refine ⟨by simp at hl ⊢; omega, fun x hx => ?_, h3, h4⟩
    rcases List.mem_append.1 hx with hx | hx
    · exact h2 x hx
    · simp at hx; subst hx; exact hd
  · intro v m e
    obtain ⟨q, k, e1, e2⟩ : ∃ q k, Ps.equation I n = .ok q k ∧ Res.ok (loc, eqs ++ [q]) k = .ok v m := by
      cases hx : Ps.equation I n with
      | ok q k => rw [hx] at e; exact ⟨q, k, rfl, e⟩
      | err c a => rw [hx] at e; cases e
    injection e2 with e3 e4
    subst e3
    have hk := equation_name I n q k e1
    have hq := fit_equation I n q k e1
    have hlen : ¬ 60 ≤ eqs.length := fun h => hl ⟨hk, h⟩
    refine ⟨h1, h2, by simp; omega, fun x hx => ?_⟩
    rcases List.mem_append.1 hx with hx | hx
    · exact h4 x hx
    · simp at hx; subst hx; exact hq
theorem fit_lines (I : Inp) : ∀ (f : Nat) (loc : List De) (eqs : List Eqn) (n : Nat), PL (loc, eqs) → Fits PL (Ps.lines I f loc eqs n) := by
  intro f
  induction f with
  | zero => intro loc eqs n h; exact Fits.ok h
  | succ f ih =>
    intro loc eqs n h
    unfold Ps.lines
    exact Fits.ite (fun _ => Fits.ok h) (fun _ => (fit_line I loc eqs h n).bind fun p m hp => ih _ _ _ hp)
theorem fit_ds (l : List De) (hl : l.length ≤ 30) (h : ∀ d ∈ l, d.n.length ≤ 30) : FitD l := by
  refine ⟨by omega, fun i hi => ?_⟩
  have := h _ (List.getElem_mem hi)
  omega
theorem fit_node (I : Inp) (n : Nat) : Fits FitN (Ps.node I n) := by
  unfold Ps.node
  refine Fits.any.bind fun _ m1 _ => Fits.any.bind fun s m2 _ => (fit_angled (p := fun _ => True) I _ (fun _ => Fits.any) 3 _ _ m2).bind fun z m3 hz => Fits.any.bind fun _ m4 _ => (fit_closed I _ (fit_decl I) 30 _ m4).bind fun i m5 hi =>
    Fits.any.bind fun _ m6 _ => Fits.any.bind fun _ m7 _ => (fit_row I _ (fit_decl I) 30 [] m7 (by simp)).bind fun o m8 ho => Fits.any.bind fun _ m9 _ => Fits.any.bind fun _ m10 _ =>
    (fit_lines I _ [] [] m10 ⟨by simp, by simp, by simp, by simp⟩).bind fun p m11 hp => Fits.ok ?_
  obtain ⟨h1, h2, h3, h4⟩ := hp
  have ho1 : o.length ≤ 30 := by simpa using ho.1
  exact ⟨by show z.length * 16 ≤ _; omega, fit_ds i hi.1 hi.2, fit_ds o ho1 ho.2, fit_ds p.1 h1 h2, by show p.2.length * 96 ≤ _; omega, fun j hj => h4 _ (List.getElem_mem _)⟩
theorem fit_nodes (I : Inp) : ∀ (f : Nat) (acc : List Nd) (n : Nat), (∀ x ∈ acc, FitN x) → Fits (fun l => l.length ≤ acc.length + f ∧ ∀ x ∈ l, FitN x) (Ps.nodes I f acc n) := by
  intro f
  induction f with
  | zero =>
    intro acc n h
    unfold Ps.nodes
    exact Fits.ite (fun _ => Fits.ok ⟨Nat.le_refl _, h⟩) (fun _ => Fits.ite (fun _ => Fits.err) (fun _ => Fits.refuse))
  | succ f ih =>
    intro acc n h
    unfold Ps.nodes
    refine Fits.ite (fun _ => Fits.ok ⟨Nat.le_add_right _ _, h⟩) (fun _ => (fit_node I n).bind fun x m hx => ?_)
    intro l k e
    obtain ⟨h1, h2⟩ := ih (acc ++ [x]) m (by
      intro y hy
      rcases List.mem_append.1 hy with hy | hy
      · exact h y hy
      · simp at hy; subst hy; exact hx) l k e
    simp at h1
    exact ⟨by omega, h2⟩
/-- WHAT PARSE ANSWERS IS NOT MUCH: ten nodes, each of them fitting -/
theorem fit_parse (t : List UInt8) : (parseT t).1.length ≤ 10 ∧ ∀ x ∈ (parseT t).1, FitN x := by
  unfold parseT
  simp only []
  split
  · have h : Fits (fun l => l.length ≤ 10 ∧ ∀ x ∈ l, FitN x) (Ps.program ⟨(Tk.scan t).1, t.length⟩) := by
      unfold Ps.program
      refine (fit_node _ 0).bind fun x m hx => ?_
      intro l k e
      have := fit_nodes _ 9 [x] m (by simpa using hx) l k e
      simpa using this
    cases e : Ps.program ⟨(Tk.scan t).1, t.length⟩ with
    | ok l k => exact h l k e
    | err c a => exact ⟨by simp, by simp⟩
  · exact ⟨by simp, by simp⟩
theorem fitP_parse (t : List UInt8) : FitP (parseT t).1 := by
  obtain ⟨h1, h2⟩ := fit_parse t
  exact ⟨by omega, fun i hi => h2 _ (List.getElem_mem _)⟩
end Go.Proofs.YtmgaeapckfdbpaaDoor
