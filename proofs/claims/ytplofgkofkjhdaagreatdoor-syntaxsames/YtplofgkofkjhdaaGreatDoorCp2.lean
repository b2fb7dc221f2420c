/-
  DERIVED. THE WALK of the copy of sizes.
-/
import Derived.Test.YtplofgkofkjhdaaGreatDoorCp1
namespace Go.Proofs.YtplofgkofkjhdaaGreatDoor
open Go.RowKit Go.IntWalk
set_option linter.unusedVariables false
set_option linter.unusedSimpArgs false
set_option maxRecDepth 100000

/-- the row that v is, or a new block -/
def Moved (W : World) (v v' : Value) : Prop := v'.ownBlock = v.ownBlock ∨ ∃ k, v'.ownBlock = some k ∧ W.heap.size ≤ k
/-- what lies from B on, but not in v's row -/
def Off (B : Nat) (v : Value) (k : Nat) : Prop := B ≤ k ∧ some k ≠ v.ownBlock
theorem Off.moved {B : Nat} {W : World} {v v' : Value} (h : Moved W v v') {k : Nat} (hk : Off B v k) (hl : k < W.heap.size) : Off B v' k := by
  refine ⟨hk.1, fun e => ?_⟩
  rcases h with h | ⟨q, hq, hz⟩
  · exact hk.2 (e.trans h)
  · rw [hq] at e
    injection e with e
    omega
theorem Off.new {B N : Nat} {w : World} {e : TypeId} {size : Nat} {v : Value} {n : Nat} {xs : List Value} (h : w.ownsRow B e size v n xs) (hN : w.heap.size ≤ N) (hB : B ≤ N) {k : Nat} (hk : N ≤ k) : Off B v k := by
  refine ⟨by omega, fun e => ?_⟩
  have := World.ownsRow.lt h k e.symm
  omega
theorem grown_keep {B : Nat} {W W' : World} {v : Value} (h : W.grownBy W' v.ownBlock) : ∀ k, Off B v k → k < W.heap.size → W'.heap[k]? = W.heap[k]? := fun k hk hl => h.block k hl hk.2
theorem Below.push {B : Nat} {w W W' : World} {v : Value} {e : TypeId} {size n : Nat} {xs : List Value} (hb : Below B w W) (hB : B ≤ W.heap.size) (ho : W.ownsRow B e size v n xs) (hg : W.grownBy W' v.ownBlock) : Below B w W' :=
  hb.grown hg hB (fun k hk => (World.ownsRow.lt ho k hk).1)

set_option maxHeartbeats 8000000 in
theorem copySizes_any {ok : Nat → Prop} {w : World} {v : Value} {l : List (List Tm)} (hl : HSizes ok w v l) (hM : FitS l) :
    Calls Tryz.prog 31 #[v] w fun e w' => ∃ a n c, e = .returned (.slice a n c) ∧ HSizes (fun i => w.heap.size ≤ i) w' (.slice a n c) l ∧ Below w.heap.size w w' := by
  obtain ⟨i0, hi, hz0, hz1, hz2⟩ := info_parts Tryz.info99
  obtain ⟨i1, hi1, hy0, hy1, hy2⟩ := info_parts Tryz.info90
  obtain ⟨ao, cap, rfl, hc1, hc2, hat⟩ := hl.at
  unfold maxLen at hc2
  have HM := hide hM.2
  have hM1 := hM.1
  obtain ⟨n, hn⟩ : ∃ n, n = l.length := ⟨_, rfl⟩
  rw [← hn] at hc1 hM1 ⊢
  have HN := hide hn
  clear hn hM hl
  go_enter Tryz.func31, Tryz.ntmps31
  go_wp2
  go_loopg [3, 4] n (fun k v3 v wr => ∃ (i : Nat) (D : Nat → List Value), i ≤ n ∧ k = n - i ∧ v = .int .i64 (i : Nat) ∧ wr.ownsRow w.heap.size 90 1 v3 i (flat D i) ∧ Hid (∀ j (h : j < l.length), j < i → ∃ u, D j = [u] ∧ HTerms (Off w.heap.size v3) wr u l[j]) ∧ Below w.heap.size w wr)
  case atStart => exact ⟨0, fun _ => [], Nat.zero_le _, rfl, rfl, World.ownsRow_nil _ _ _ _, fun j _ h => absurd h (Nat.not_lt_zero _), Below.refl _ _⟩
  case round =>
    obtain ⟨i, D, hile, rfl, rfl, hown, H, hbr⟩ := hrel
    by_cases hlt : i < n
    · have hil : i < l.length := by have := HN.out; omega
      obtain ⟨b, o, au, nu, cu, rfl, hb, hc, ht⟩ := hat i hil
      have e1 := (hbr.cell (p := ⟨b, o + i, none⟩) hb).trans hc
      obtain ⟨C, hS, hC⟩ := ht.under hbr
      have hTM := HM.out i hil
      obtain ⟨hCl, hone⟩ := terms_one hC
      have hnm : (l[i]).length ≤ maxLen := by unfold maxLen; omega
      have HC := hide hC
      clear hat hc ht hC
      obtain ⟨m, hm⟩ : ∃ m, m = (l[i]).length := ⟨_, rfl⟩
      rw [← hm] at hS hCl hone hTM hnm
      have HMM := hide hm
      clear hm
      have zr := hbr.size
      go_wp2_with (first
        | (at_builtin; refine wpList_copy rfl _ _ 90 99 2 24 i0 (.agg #[.int .i64 0, .string ⟨#[]⟩]) rfl Tryz.underlying90 hi hz0 hz1 hz2 rfl (by decide) rfl rfl hS hCl hone hTM hnm nils90 ?_; intro a3 c3 w3 hs3 b3; have hown3 := (ownsRow_below hown b3).alloc (.cells #[.slice a3 m c3] 90 (0, 0)); have zz3 := b3.size)
        | (at_builtin; refine wpList_push rfl _ _ 40 rfl w.heap.size 90 i1 (.slice none 0 0) 1 24 Tryz.underlying40 hi1 hy0 hy1 hy2 rfl (by decide) _ _ _ rfl hown3 ⟨w3.heap.size, 0, none⟩ 1 1 [.slice a3 m c3] rfl rfl (new1 _ _ _) (by intro u hu; simp at hu; subst hu; rfl) (by unfold maxLen; omega) (by omega) (by simp; omega) ?_; intro v4 w4 hown4 hgrow hmv))
      have hmv' : Moved (w3.alloc (.cells #[.slice a3 m c3] 90 (0, 0))) u3 v4 := hmv
      have bW : Below wr.heap.size wr (w3.alloc (.cells #[.slice a3 m c3] 90 (0, 0))) := b3.alloc b3.size _
      have hgk := grown_keep (B := w.heap.size) (v := u3) hgrow
      have b4 := Below.push (B := w.heap.size) (hbr.trans (bW.mono hbr.size)) (by simp; omega) hown3 hgrow
      have hT3 : HTerms (fun k => wr.heap.size ≤ k) w3 (.slice a3 m c3) l[i] := by
        have h9 := HMM.out
        subst h9
        exact ⟨C, hs3, HC.out⟩
      have hown5 : w4.ownsRow w.heap.size 90 1 v4 (i + 1) (flat (fun q => if q = i then [.slice a3 m c3] else D q) (i + 1)) := by
        have e : flat (fun q => if q = i then [Value.slice a3 m c3] else D q) (i + 1) = flat D i ++ [.slice a3 m c3] := by
          rw [flat, flat_congr (D := D) i (fun q hq => by rw [if_neg (by omega)])]
          simp
        rw [e]
        exact hown4
      have hnewT : HTerms (Off w.heap.size v4) w4 (.slice a3 m c3) l[i] := by
        have g1 := (hT3.wide (ok' := fun k => Off w.heap.size u3 k ∧ k < w3.heap.size) (fun k hk hl => ⟨Off.new hown (Nat.le_refl _) hbr.size hk, hl⟩)).under ((Below.refl _ w3).alloc (Nat.le_refl _) (.cells #[.slice a3 m c3] 90 (0, 0)))
        have g2 := g1.keep hgrow.size (fun k hk hl => hgk k hk.1 hl)
        exact g2.wide (fun k hk _ => Off.moved hmv' hk.1 (by simp; omega))
      have holdT : Hid (∀ j (h : j < l.length), j < i → ∃ u, D j = [u] ∧ HTerms (Off w.heap.size v4) w4 u l[j]) := fun j hj hji => by
        obtain ⟨u, hu, hT⟩ := H.out j hj hji
        refine ⟨u, hu, ?_⟩
        have g1 := (hT.wide (ok' := fun k => Off w.heap.size u3 k ∧ k < wr.heap.size) (fun k hk hl => ⟨hk, hl⟩)).under bW
        have g2 := g1.keep hgrow.size (fun k hk hl => hgk k hk.1 hl)
        exact g2.wide (fun k hk _ => Off.moved hmv' hk.1 (by simp; omega))
      clear hown4 hgrow hmv hown3 hs3 hT3 H hgk
      go_wp2
      go_roundg (n - (i + 1))
      case measure => omega
      case rel =>
        refine ⟨i + 1, _, by omega, rfl, by go_num, hown5, fun j hj hji => ?_, b4⟩
        by_cases e : j = i
        · subst e
          exact ⟨_, by simp, hnewT⟩
        · obtain ⟨u, hu, hT⟩ := holdT.out j hj (by omega)
          exact ⟨u, by simp [e, hu], hT⟩
    · have hie : i = n := by omega
      subst hie
      clear hat
      have h9 := HN.out
      have hs := owns_sl hown (fun j hj => by obtain ⟨u, hu, _⟩ := H.out j (by omega) hj; rw [hu]; rfl)
      have hs' := hs
      obtain ⟨a5, c5, rfl, _⟩ := hs'
      go_wp2
      go_ret
      refine ⟨_, _, _, rfl, ⟨D, ?_, fun j hj => ?_⟩, hbr⟩
      · rw [← HN.out]; exact hs
      · obtain ⟨u, hu, hT⟩ := H.out j hj (by rw [HN.out]; exact hj)
        exact ⟨u, hu, hT.wide (fun k hk _ => hk.1)⟩

end Go.Proofs.YtplofgkofkjhdaaGreatDoor
