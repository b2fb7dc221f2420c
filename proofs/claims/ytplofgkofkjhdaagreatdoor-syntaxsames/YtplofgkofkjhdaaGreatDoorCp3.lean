/-
  DERIVED. THE WALK of the copy of declarations.
-/
import Derived.Test.YtplofgkofkjhdaaGreatDoorCp2
namespace Go.Proofs.YtplofgkofkjhdaaGreatDoor
open Go.RowKit Go.IntWalk
set_option linter.unusedVariables false
set_option linter.unusedSimpArgs false
set_option maxRecDepth 100000

def FitD (l : List De) : Prop := l.length * 48 ≤ 140737488355328 ∧ ∀ i (h : i < l.length), (l[i]).n.length * 24 ≤ 140737488355328
theorem HTerms.set {ok : Nat → Prop} {w : World} {v : Value} {l : List Tm} (h : HTerms ok w v l) {p : Addr} (hp : ¬ ok p.block) (u : Value) : HTerms ok (w.setCell p u) v l :=
  h.keep (by simp [World.setCell]) fun i hi hl => Below.heap_setCell _ _ _ _ (fun e => hp (e ▸ hi))

theorem owns_set {w : World} {base : Nat} {e : TypeId} {size : Nat} {v : Value} {n : Nat} {xs : List Value} (h : w.ownsRow base e size v n xs) {p : Addr} (hp : v.ownBlock ≠ some p.block) (u : Value) : (w.setCell p u).ownsRow base e size v n xs :=
  h.kept (row := some p.block) ⟨rfl, rfl, rfl, by simp [World.setCell], fun k _ hk => Below.heap_setCell _ _ _ _ (fun e => hk (by rw [e]))⟩ (.inr hp)

theorem size_set (w : World) (p : Addr) (u : Value) : (w.setCell p u).heap.size = w.heap.size := by simp [World.setCell]
theorem new3s (w : World) (p : Addr) (q a b c : Value) (t : TypeId) : ∀ j u, [a, b, c][j]? = some u → ((w.setCell p q).alloc (.cells #[a, b, c] t)).cell? ((⟨w.heap.size, 0, none⟩ : Addr).add j) = some u := by
  have := new3 (w.setCell p q) a b c t
  rw [size_set] at this
  exact this

set_option maxHeartbeats 8000000 in
theorem copyDecls_any {ok : Nat → Prop} {w : World} {v : Value} {l : List De} (hl : HDes ok w v l) (hM : FitD l) :
    Calls Tryz.prog 30 #[v] w fun e w' => ∃ a n c, e = .returned (.slice a n c) ∧ HDes (fun i => w.heap.size ≤ i) w' (.slice a n c) l ∧ Below w.heap.size w w' := by
  obtain ⟨i0, hi, hz0, hz1, hz2⟩ := info_parts Tryz.info99
  obtain ⟨i1, hi1, hy0, hy1, hy2⟩ := info_parts Tryz.info94
  obtain ⟨ao, cap, rfl, hc1, hc2, hat⟩ := hl.at
  unfold maxLen at hc2
  have HM := hide hM.2
  have hM1 := hM.1
  obtain ⟨n, hn⟩ : ∃ n, n = l.length := ⟨_, rfl⟩
  rw [← hn] at hc1 hM1 ⊢
  have HN := hide hn
  clear hn hM hl
  go_enter Tryz.func30, Tryz.ntmps30
  go_wp2
  go_loopg [3, 4] n (fun k v3 v wr => ∃ (i : Nat) (D : Nat → List Value), i ≤ n ∧ k = n - i ∧ v = .int .i64 (i : Nat) ∧ wr.ownsRow w.heap.size 94 3 v3 i (flat D i) ∧ Hid (∀ j (h : j < l.length), j < i → ∃ u, D j = [.string (l[j]).name, .int .u8 (l[j]).elem, u] ∧ HTerms (Off w.heap.size v3) wr u (l[j]).n) ∧ Below w.heap.size w wr)
  case atStart => exact ⟨0, fun _ => [], Nat.zero_le _, rfl, rfl, World.ownsRow_nil _ _ _ _, fun j _ h => absurd h (Nat.not_lt_zero _), Below.refl _ _⟩
  case round =>
    obtain ⟨i, D, hile, rfl, rfl, hown, H, hbr⟩ := hrel
    by_cases hlt : i < n
    · have hil : i < l.length := by have := HN.out; omega
      obtain ⟨b, o, au, nu, cu, rfl, hb, hc, hd, he, ht⟩ := hat i hil
      have e1 := (hbr.cell (p := ⟨b, o + i * 3, none⟩) hb).trans hc
      have e2 := (hbr.cell (p := ⟨b, o + i * 3 + 1, none⟩) hb).trans hd
      have e3 := (hbr.cell (p := ⟨b, o + i * 3 + 2, none⟩) hb).trans he
      obtain ⟨nm, hnm0⟩ : ∃ nm, nm = (l[i]).name := ⟨_, rfl⟩
      obtain ⟨el, hel0⟩ : ∃ el, el = (l[i]).elem := ⟨_, rfl⟩
      rw [← hnm0] at e1
      rw [← hel0] at e2
      have HNM := hide hnm0
      have HEL := hide hel0
      obtain ⟨W1, hW1⟩ : ∃ W, W = wr.alloc (.cells #[.string nm, .int .u8 el, .slice au nu cu] 94 (0, 0)) := ⟨_, rfl⟩
      have y1 : W1.heap.size = wr.heap.size + 1 := by rw [hW1]; simp
      have bW1 : Below wr.heap.size wr W1 := by rw [hW1]; exact (Below.refl _ wr).alloc (Nat.le_refl _) _
      have kW1 : W1.heap[wr.heap.size]? = some (.cells #[.string nm, .int .u8 el, .slice au nu cu] 94 (0, 0)) := by rw [hW1]; exact heap_new wr _
      obtain ⟨C, hS, hC⟩ := (ht.under hbr).under bW1
      have hTM := HM.out i hil
      obtain ⟨hCl, hone⟩ := terms_one hC
      have hnm : ((l[i]).n).length ≤ maxLen := by unfold maxLen; omega
      have HC := hide hC
      clear hat hc ht hC hd he hnm0 hel0
      obtain ⟨m, hm⟩ : ∃ m, m = ((l[i]).n).length := ⟨_, rfl⟩
      rw [← hm] at hS hCl hone hTM hnm
      have HMM := hide hm
      clear hm
      have zr := hbr.size
      have p2 := cell_of kW1 2
      simp at p2
      rw [hW1] at hS p2
      have hown1 := ownsRow_below hown bW1
      have hnob : u3.ownBlock ≠ some wr.heap.size := fun e => by
        have := World.ownsRow.lt hown _ e
        omega
      go_wp2_with (first
        | (at_builtin; refine wpList_copy rfl _ _ 90 99 2 24 i0 (.agg #[.int .i64 0, .string ⟨#[]⟩]) rfl Tryz.underlying90 hi hz0 hz1 hz2 rfl (by decide) rfl rfl hS hCl hone hTM hnm nils90 ?_; intro a3 c3 w3 hs3 b3; rw [← hW1] at hs3 b3; have k3 := (aside b3 (S := [])).keep kW1 (lt_of kW1) (by simp); have c30 := cell_of k3 0; have c31 := cell_of k3 1; have c32 := cell_of k3 2; have f32 := free_of k3 2; simp at c30 c31 c32; have zz3 := b3.size; have hown3 := (owns_set (p := ⟨wr.heap.size, 2, none⟩) (ownsRow_below hown1 b3) hnob (.slice a3 m c3)).alloc (.cells #[.string nm, .int .u8 el, .slice a3 m c3] 94 (0, 0)))
        | (at_builtin; refine wpList_push rfl _ _ 36 rfl w.heap.size 94 i1 (.agg #[.string ⟨#[]⟩, .int .u8 0, .slice none 0 0]) 3 48 Tryz.underlying36 hi1 hy0 hy1 hy2 rfl (by decide) _ _ _ rfl hown3 ⟨w3.heap.size, 0, none⟩ 1 1 [.string nm, .int .u8 el, .slice a3 m c3] rfl rfl (new3s _ _ _ _ _ _ _) (by intro u hu; simp at hu; rcases hu with rfl | rfl | rfl <;> rfl) (by unfold maxLen; omega) (by omega) (by simp [World.setCell]; omega) ?_; intro v4 w4 hown4 hgrow hmv))
      obtain ⟨W4, hW4⟩ : ∃ W, W = (w3.setCell ⟨wr.heap.size, 2, none⟩ (.slice a3 m c3)).alloc (.cells #[.string nm, .int .u8 el, .slice a3 m c3] 94 (0, 0)) := ⟨_, rfl⟩
      have y4 : W4.heap.size = w3.heap.size + 1 := by rw [hW4]; simp [World.setCell]
      rw [← hW4] at hown3 hgrow hmv
      have hmv' : Moved W4 u3 v4 := hmv
      have bW4 : Below wr.heap.size wr W4 := by
        rw [hW4]
        exact ((bW1.trans (b3.mono (by omega))).setCell (Nat.le_refl _) _).alloc (by rw [size_set]; omega) _
      have hgk := grown_keep (B := w.heap.size) (v := u3) hgrow
      have b4 := Below.push (B := w.heap.size) (hbr.trans (bW4.mono hbr.size)) (by omega) hown3 hgrow
      have hT3 : HTerms (fun k => W1.heap.size ≤ k) w3 (.slice a3 m c3) (l[i]).n := by
        have h9 := HMM.out
        subst h9
        exact ⟨C, hs3, HC.out⟩
      have hT4 : HTerms (fun k => W1.heap.size ≤ k) W4 (.slice a3 m c3) (l[i]).n := by
        rw [hW4]
        exact (hT3.set (p := ⟨wr.heap.size, 2, none⟩) (by simp; omega) _).under ((Below.refl _ _).alloc (Nat.le_refl _) _)
      have hown5 : w4.ownsRow w.heap.size 94 3 v4 (i + 1) (flat (fun q => if q = i then [.string nm, .int .u8 el, .slice a3 m c3] else D q) (i + 1)) := by
        have e : flat (fun q => if q = i then [Value.string nm, .int .u8 el, .slice a3 m c3] else D q) (i + 1) = flat D i ++ [.string nm, .int .u8 el, .slice a3 m c3] := by
          rw [flat, flat_congr (D := D) i (fun q hq => by rw [if_neg (by omega)])]
          simp
        rw [e]
        exact hown4
      have hnewT : HTerms (Off w.heap.size v4) w4 (.slice a3 m c3) (l[i]).n := by
        have g1 := hT4.wide (ok' := fun k => Off w.heap.size u3 k ∧ k < W4.heap.size) (fun k hk hl => ⟨Off.new hown (Nat.le_refl _) hbr.size (by omega), hl⟩)
        have g2 := g1.keep hgrow.size (fun k hk hl => hgk k hk.1 hl)
        exact g2.wide (fun k hk _ => Off.moved hmv' hk.1 hk.2)
      have holdT : Hid (∀ j (h : j < l.length), j < i → ∃ u, D j = [.string (l[j]).name, .int .u8 (l[j]).elem, u] ∧ HTerms (Off w.heap.size v4) w4 u (l[j]).n) := fun j hj hji => by
        obtain ⟨u, hu, hT⟩ := H.out j hj hji
        refine ⟨u, hu, ?_⟩
        have g1 := (hT.wide (ok' := fun k => Off w.heap.size u3 k ∧ k < wr.heap.size) (fun k hk hl => ⟨hk, hl⟩)).under bW4
        have g2 := g1.keep hgrow.size (fun k hk hl => hgk k hk.1 hl)
        exact g2.wide (fun k hk _ => Off.moved hmv' hk.1 (by omega))
      clear hown4 hgrow hmv hown3 hs3 hT3 H hgk hT4 c30 c31 c32 f32 k3 p2 hS hown1 kW1
      go_wp2
      go_roundg (n - (i + 1))
      case measure => omega
      case rel =>
        refine ⟨i + 1, _, by omega, rfl, by go_num, hown5, fun j hj hji => ?_, b4⟩
        by_cases e : j = i
        · subst e
          exact ⟨_, by simp [HNM.out, HEL.out], hnewT⟩
        · obtain ⟨u, hu, hT⟩ := holdT.out j hj (by omega)
          exact ⟨u, by simp [e, hu], hT⟩
    · have hie : i = n := by omega
      subst hie
      clear hat
      have h9 := HN.out
      have hs := owns_sl hown (fun j hj => by obtain ⟨u, hu, _⟩ := H.out j (by omega) hj; rw [hu]; rfl)
      have hs' := hs
      obtain ⟨a5, c5, rfl, _⟩ := hs'
      go_wp2
      go_ret
      refine ⟨_, _, _, rfl, ⟨D, ?_, fun j hj => ?_⟩, hbr⟩
      · rw [← HN.out]; exact hs
      · obtain ⟨u, hu, hT⟩ := H.out j hj (by rw [HN.out]; exact hj)
        exact ⟨u, hu, hT.wide (fun k hk _ => hk.1)⟩

end Go.Proofs.YtplofgkofkjhdaaGreatDoor
