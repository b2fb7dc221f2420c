import Derived.Test.YtkgbmgpdehmiiaaDoorY15
import Derived.Test.YtkgbmgpdehmiiaaDoorY11
import Derived.WalkKit
import Derived.WalkSpells
import Derived.IntWalk
import Derived.Deep.Cut
import Derived.Deep.LoopGhost
import Derived.Laws.Cover1
import Derived.Lib.Hide
import Derived.Laws.EntriesVeiled
set_option linter.unusedVariables false
set_option linter.unusedSimpArgs false
set_option maxHeartbeats 64000000
set_option maxRecDepth 100000
namespace Go.Proofs.YtkgbmgpdehmiiaaDoor
open Go.RowKit Go.IntWalk
set_option linter.unusedVariables false
set_option linter.unusedSimpArgs false
theorem Tryd.infoIL : (Tryd.prog.info? 22).map (fun i => (i.zero, i.size, i.bytes)) = some (some (.slice none 0 0), 1, 24) := by kernel_rfl
/-- rows of numbers in a row -/
def kIL : Kind (List Int) where
  ty := 22
  k := 1
  bytes := 24
  zero := .slice none 0 0
  E := fun ok w cs l => ∃ u, cs = [u] ∧ HInts ok w u l
  pos := by decide
  zs := rfl
  info := Tryd.infoIL
  len := by rintro _ _ _ _ ⟨u, rfl, _⟩; rfl
  one := by
    rintro _ _ _ _ ⟨u, rfl, h⟩ v hv
    simp at hv
    subst hv
    obtain ⟨ao, cap, rfl, _⟩ := h.at
    rfl
  keep := by rintro _ _ _ _ _ ⟨u, rfl, h⟩ hs hk; exact ⟨u, rfl, h.keep hs hk⟩
  wide := by rintro _ _ _ _ _ ⟨u, rfl, h⟩ hk; exact ⟨u, rfl, h.wide hk⟩
theorem HRow.ilAt {ok : Nat → Prop} {w : World} {v : Value} {l : List (List Int)} (h : HRow kIL ok w v l) :
    ∃ ao cap, v = .slice ao l.length cap ∧ l.length ≤ cap ∧ cap ≤ maxLen ∧ ∀ i (h : i < l.length), ∃ b o u, ao = some ⟨b, o, none⟩ ∧ b < w.heap.size ∧ w.cell? ⟨b, o + i, none⟩ = some u ∧ HInts ok w u l[i] := by
  obtain ⟨C, ⟨ao, cap, hv, h1, h2, h3⟩, hC⟩ := h
  refine ⟨ao, cap, hv, h1, h2, fun i hi => ?_⟩
  obtain ⟨b, o, ha, hob, hb, hc⟩ := h3 (by omega)
  obtain ⟨u, e, hu⟩ := hC i hi
  have := (hc i hi).2 0 (by decide)
  rw [e] at this
  exact ⟨b, o, u, ha, hb, by simpa [kIL] using this, hu⟩
set_option maxHeartbeats 8000000 in
theorem containsFuncG_any {ok : Nat → Prop} {w : World} {v : Value} {l : List Int} {N : Nat} {bs cs : Array Value} {p : Int → Bool} (eg : ∀ args w, (callFunc N args).run Tryd.prog w = .ok (.enter N args) w) (hl : HInts ok w v l) (hp : ∀ x ∈ l, ∀ W, Below w.heap.size w W → Calls Tryd.prog N (bs ++ #[.int .i64 x] ++ cs) W fun e W' => e = .returned (.bool (p x)) ∧ Below W.heap.size W W') :
    Calls Tryd.prog 46 #[v, .func (.func N) bs cs] w fun e w' => e = .returned (.bool (l.any p)) ∧ Below w.heap.size w w' := by
  have hc := indexFuncG_any eg hl hp
  have hi := Sk.idxI_neg p l 0
  obtain ⟨ao, cap, rfl, -⟩ := hl.at
  generalize Sk.idxI p 0 l = R at hc hi
  have HI := hide hi
  clear hi hl hp eg
  generalize l.any p = q at HI ⊢
  go_enter Tryd.func46, Tryd.ntmps46
  go_wp2_with fail
  refine hc.mono ?_
  rintro e w4 ⟨rfl, b4⟩
  have hq : (decide (0 ≤ R)) = q := by
    have := HI.out.1
    cases q <;> simp at this ⊢ <;> omega
  go_wp2
  go_ret
  exact ⟨by rw [← hq]; rfl, b4⟩
set_option maxHeartbeats 8000000 in
theorem indexFunc33_any {ok : Nat → Prop} {w : World} {v : Value} {l : List (List Int)} {N : Nat} {bs cs : Array Value} {p : List Int → Bool} (eg : ∀ args w, (callFunc N args).run Tryd.prog w = .ok (.enter N args) w) (hl : HRow kIL ok w v l) (hp : ∀ s ∈ l, ∀ (u : Value) W, Below w.heap.size w W → HInts ok W u s → Calls Tryd.prog N (bs ++ #[u] ++ cs) W fun e W' => e = .returned (.bool (p s)) ∧ Below W.heap.size W W') :
    Calls Tryd.prog 59 #[v, .func (.func N) bs cs] w fun e w' => e = .returned (.int .i64 (Cd.idx p 0 l)) ∧ Below w.heap.size w w' := by
  obtain ⟨ao, cap, rfl, hc1, hc2, -⟩ := hl.ilAt
  unfold maxLen at hc2
  obtain ⟨R, hR⟩ : ∃ R, R = Cd.idx p 0 l := ⟨_, rfl⟩
  rw [← hR]
  have HR := hide (show R = Cd.idx p 0 (l.drop 0) by rw [List.drop_zero]; exact hR)
  have HL := hide hl
  have HP := hide hp
  clear hR hl hp
  obtain ⟨n, hn⟩ : ∃ n, n = l.length := ⟨_, rfl⟩
  rw [← hn] at hc1 ⊢
  have HN := hide hn
  clear hn
  go_enter Tryd.func59, Tryd.ntmps59
  go_wp2_with fail
  go_loopg [8] n (fun k v wr => ∃ i, i ≤ n ∧ k = n - i ∧ v = .int .i64 (i : Nat) ∧ Hid (R = Cd.idx p i (l.drop i)) ∧ Below w.heap.size w wr)
  case atStart => exact ⟨0, Nat.zero_le _, rfl, rfl, HR, Below.refl _ _⟩
  case round =>
    clear HR
    obtain ⟨i, hi, rfl, rfl, H, hbr⟩ := hrel
    by_cases hlt : i < n
    case neg =>
      have hin : i = n := by omega
      subst hin
      have e1 : l.drop i = [] := List.drop_of_length_le (by have := HN.out; omega)
      have HZ := hide (show R = -1 by rw [H.out, e1]; rfl)
      clear e1
      go_wp2
      go_ret
      exact ⟨by rw [HZ.out]; rfl, hbr⟩
    case pos =>
      have hil : i < l.length := by have := HN.out; omega
      have hdr : l.drop i = l[i] :: l.drop (i + 1) := List.drop_eq_getElem_cons hil
      have hR1 := H.out
      rw [hdr] at hR1
      obtain ⟨ao', cap', eqs, -, -, hat2⟩ := (HL.out.keep hbr.size (fun i _ h => hbr.block i h)).ilAt
      injection eqs with q1 q2 q3
      subst q1
      obtain ⟨bb, o, u, rfl, hb, e0, hu⟩ := hat2 i hil
      obtain ⟨y, hy⟩ : ∃ y, y = l[i] := ⟨_, rfl⟩
      have hc := HP.out y (by rw [hy]; exact List.getElem_mem hil) u wr hbr (by rw [hy]; exact hu)
      rw [← hy] at hR1
      unfold Cd.idx at hR1
      generalize p y = q at hc hR1
      have HR1 := hide hR1
      clear hat2 q2 q3 hy hdr hR1 H hu
      go_wp2_with fail
      refine hc.mono ?_
      rintro e w4 ⟨rfl, b4⟩
      have B4 := hbr.trans (b4.mono hbr.size)
      clear hc
      cases q
      case false =>
        have HZ : Hid (R = Cd.idx p (i + 1) (l.drop (i + 1))) := hide (by rw [HR1.out]; simp)
        clear HR1
        go_wp2_with fail
        go_roundg (n - (i + 1))
        case measure => omega
        case rel => exact ⟨i + 1, by omega, rfl, by go_num, HZ, B4⟩
      case true =>
        have HZ : Hid (R = (i : Int)) := hide (by rw [HR1.out]; simp)
        clear HR1
        go_wp2
        go_ret
        exact ⟨by rw [HZ.out]; rfl, B4⟩
set_option maxHeartbeats 8000000 in
theorem containsFunc23_any {ok : Nat → Prop} {w : World} {v : Value} {l : List (List Int)} {N : Nat} {bs cs : Array Value} {p : List Int → Bool} (eg : ∀ args w, (callFunc N args).run Tryd.prog w = .ok (.enter N args) w) (hl : HRow kIL ok w v l) (hp : ∀ s ∈ l, ∀ (u : Value) W, Below w.heap.size w W → HInts ok W u s → Calls Tryd.prog N (bs ++ #[u] ++ cs) W fun e W' => e = .returned (.bool (p s)) ∧ Below W.heap.size W W') :
    Calls Tryd.prog 44 #[v, .func (.func N) bs cs] w fun e w' => e = .returned (.bool (l.any p)) ∧ Below w.heap.size w w' := by
  have hc := indexFunc33_any eg hl hp
  have hi := Cd.idx_neg p l 0
  obtain ⟨ao, cap, rfl, -⟩ := hl.ilAt
  generalize Cd.idx p 0 l = R at hc hi
  have HI := hide hi
  clear hi hl hp eg
  generalize l.any p = q at HI ⊢
  go_enter Tryd.func44, Tryd.ntmps44
  go_wp2_with fail
  refine hc.mono ?_
  rintro e w4 ⟨rfl, b4⟩
  have hq : (decide (0 ≤ R)) = q := by
    have := HI.out.1
    cases q <;> simp at this ⊢ <;> omega
  go_wp2
  go_ret
  exact ⟨by rw [← hq]; rfl, b4⟩
set_option maxHeartbeats 8000000 in
theorem indexFunc16_any {ok : Nat → Prop} {w : World} {v : Value} {l : List Cd.In} {N : Nat} {bs cs : Array Value} {p : Cd.In → Bool} (eg : ∀ args w, (callFunc N args).run Tryd.prog w = .ok (.enter N args) w) (hl : HIns ok w v l) (hp : ∀ s ∈ l, ∀ W, Below w.heap.size w W → Calls Tryd.prog N (bs ++ #[.agg #[.int .i64 s.op, .int .i64 s.k, .int .i64 s.r, .int .i64 s.a, .int .i64 s.b, .int .i64 s.n]] ++ cs) W fun e W' => e = .returned (.bool (p s)) ∧ Below W.heap.size W W') :
    Calls Tryd.prog 37 #[v, .func (.func N) bs cs] w fun e w' => e = .returned (.int .i64 (Cd.idx p 0 l)) ∧ Below w.heap.size w w' := by
  obtain ⟨ao, cap, rfl, hc1, hc2, -⟩ := hl.at
  unfold maxLen at hc2
  obtain ⟨R, hR⟩ : ∃ R, R = Cd.idx p 0 l := ⟨_, rfl⟩
  rw [← hR]
  have HR := hide (show R = Cd.idx p 0 (l.drop 0) by rw [List.drop_zero]; exact hR)
  have HL := hide hl
  have HP := hide hp
  clear hR hl hp
  obtain ⟨n, hn⟩ : ∃ n, n = l.length := ⟨_, rfl⟩
  rw [← hn] at hc1 ⊢
  have HN := hide hn
  clear hn
  go_enter Tryd.func37, Tryd.ntmps37
  go_wp2_with fail
  go_loopg [8] n (fun k v wr => ∃ i, i ≤ n ∧ k = n - i ∧ v = .int .i64 (i : Nat) ∧ Hid (R = Cd.idx p i (l.drop i)) ∧ Below w.heap.size w wr)
  case atStart => exact ⟨0, Nat.zero_le _, rfl, rfl, HR, Below.refl _ _⟩
  case round =>
    clear HR
    obtain ⟨i, hi, rfl, rfl, H, hbr⟩ := hrel
    by_cases hlt : i < n
    case neg =>
      have hin : i = n := by omega
      subst hin
      have e1 : l.drop i = [] := List.drop_of_length_le (by have := HN.out; omega)
      have HZ := hide (show R = -1 by rw [H.out, e1]; rfl)
      clear e1
      go_wp2
      go_ret
      exact ⟨by rw [HZ.out]; rfl, hbr⟩
    case pos =>
      have hil : i < l.length := by have := HN.out; omega
      have hdr : l.drop i = l[i] :: l.drop (i + 1) := List.drop_eq_getElem_cons hil
      have hR1 := H.out
      rw [hdr] at hR1
      obtain ⟨ao', cap', eqs, -, -, hat2⟩ := (HL.out.under hbr).at
      injection eqs with q1 q2 q3
      subst q1
      obtain ⟨bb, o, rfl, hb, ⟨e0, e1, e2, e3, e4, e5⟩⟩ := hat2 i hil
      obtain ⟨y, hy⟩ : ∃ y, y = l[i] := ⟨_, rfl⟩
      have hc := HP.out y (by rw [hy]; exact List.getElem_mem hil) wr hbr
      rw [← hy] at e0 e1 e2 e3 e4 e5 hR1
      unfold Cd.idx at hR1
      generalize p y = q at hc hR1
      have HR1 := hide hR1
      clear hat2 q2 q3 hy hdr hR1 H
      go_wp2_with fail
      refine hc.mono ?_
      rintro e w4 ⟨rfl, b4⟩
      have B4 := hbr.trans (b4.mono hbr.size)
      clear hc
      cases q
      case false =>
        have HZ : Hid (R = Cd.idx p (i + 1) (l.drop (i + 1))) := hide (by rw [HR1.out]; simp)
        clear HR1
        go_wp2_with fail
        go_roundg (n - (i + 1))
        case measure => omega
        case rel => exact ⟨i + 1, by omega, rfl, by go_num, HZ, B4⟩
      case true =>
        have HZ : Hid (R = (i : Int)) := hide (by rw [HR1.out]; simp)
        clear HR1
        go_wp2
        go_ret
        exact ⟨by rw [HZ.out]; rfl, B4⟩
theorem ceg35 : ∀ args w, (callFunc 61 args).run Tryd.prog w = .ok (.enter 61 args) w := enters_of Tryd.func61 (by kernel_rfl) rfl
theorem ceg26 : ∀ args w, (callFunc 47 args).run Tryd.prog w = .ok (.enter 47 args) w := enters_of Tryd.func47 (by kernel_rfl) rfl
theorem ceg24 : ∀ args w, (callFunc 45 args).run Tryd.prog w = .ok (.enter 45 args) w := enters_of Tryd.func45 (by kernel_rfl) rfl
theorem ceg17 : ∀ args w, (callFunc 38 args).run Tryd.prog w = .ok (.enter 38 args) w := enters_of Tryd.func38 (by kernel_rfl) rfl
theorem lacks28_any {ok : Nat → Prop} (c R : Int) {v : Value} {l : List Int} {w : World} (hl : HInts ok w v l) : Calls Tryd.prog 49 #[.agg #[.int .i64 c, .int .i64 R], v] w fun e w' => e = .returned (.bool (Cd.lacks R l)) ∧ Below w.heap.size w w' := by
  have b1 : Below w.heap.size w (w.alloc (.cells #[.int .i64 c, .int .i64 R] 72 (0, 0))) := (Below.refl _ _).alloc (Nat.le_refl _) _
  have k1 := heap_new w (.cells #[.int .i64 c, .int .i64 R] 72 (0, 0))
  have hc : Calls Tryd.prog 46 #[v, .func (.func 61) #[] #[.pointer (some ⟨w.heap.size, 0, none⟩)]] (w.alloc (.cells #[.int .i64 c, .int .i64 R] 72 (0, 0))) fun e w' => e = .returned (.bool (l.any (Cd.lk R))) ∧ Below (w.alloc (.cells #[.int .i64 c, .int .i64 R] 72 (0, 0))).heap.size (w.alloc (.cells #[.int .i64 c, .int .i64 R] 72 (0, 0))) w' :=
    containsFuncG_any (p := Cd.lk R) (bs := #[]) (cs := #[.pointer (some ⟨w.heap.size, 0, none⟩)]) ceg35 (hl.under b1) (fun x _ W bW => by
      have h := reg35_any w.heap.size c R x W ((bW.block _ (lt_of k1)).trans k1)
      simpa using h)
  unfold Cd.lacks
  generalize l.any (Cd.lk R) = q at hc ⊢
  clear hl
  go_enter Tryd.func49, Tryd.ntmps49
  go_upto_region 1 with fail
  generalize w.alloc (.cells #[.int .i64 c, .int .i64 R] 72 (0, 0)) = w1 at b1 k1 hc ⊢
  go_wp2_with fail
  refine hc.mono ?_
  rintro e w2 ⟨rfl, b2⟩
  have B2 := b1.trans (b2.mono b1.size)
  go_wp2
  go_ret
  exact ⟨rfl, B2⟩
theorem cells24_any {ok : Nat → Prop} (b : Nat) (c R : Int) {v : Value} {l : List Int} {w : World} (h : I64 (c - 1)) (hl : HInts ok w v l) (k : w.heap[b]? = some (.cells #[.int .i64 c, .int .i64 R] 72 (0, 0))) : Calls Tryd.prog 45 #[v, .pointer (some ⟨b, 0, none⟩)] w fun e w' => e = .returned (.bool (l.any fun x => !Cd.has c x 1)) ∧ Below w.heap.size w w' := by
  have hc : Calls Tryd.prog 46 #[v, .func (.func 47) #[] #[.pointer (some ⟨b, 0, none⟩)]] w fun e w' => e = .returned (.bool (l.any fun x => !Cd.has c x 1)) ∧ Below w.heap.size w w' :=
    containsFuncG_any (p := fun x => !Cd.has c x 1) (bs := #[]) (cs := #[.pointer (some ⟨b, 0, none⟩)]) ceg26 hl (fun x _ W bW => by
      have h := cell26_any b c R x W h ((bW.block _ (lt_of k)).trans k)
      simpa using h)
  generalize (l.any fun x => !Cd.has c x 1) = q at hc ⊢
  clear hl
  go_enter Tryd.func45, Tryd.ntmps45
  go_wp2_with fail
  refine hc.mono ?_
  rintro e w2 ⟨rfl, b2⟩
  go_wp2
  go_ret
  exact ⟨rfl, b2⟩
theorem lacksCell15_any {ok : Nat → Prop} (c R : Int) {v : Value} {l : List (List Int)} {w : World} (h : I64 (c - 1)) (hl : HRow kIL ok w v l) : Calls Tryd.prog 36 #[.agg #[.int .i64 c, .int .i64 R], v] w fun e w' => e = .returned (.bool (l.any fun z => z.any fun x => !Cd.has c x 1)) ∧ Below w.heap.size w w' := by
  have b1 : Below w.heap.size w (w.alloc (.cells #[.int .i64 c, .int .i64 R] 72 (0, 0))) := (Below.refl _ _).alloc (Nat.le_refl _) _
  have k1 := heap_new w (.cells #[.int .i64 c, .int .i64 R] 72 (0, 0))
  have hc : Calls Tryd.prog 44 #[v, .func (.func 45) #[] #[.pointer (some ⟨w.heap.size, 0, none⟩)]] (w.alloc (.cells #[.int .i64 c, .int .i64 R] 72 (0, 0))) fun e w' => e = .returned (.bool (l.any fun z => z.any fun x => !Cd.has c x 1)) ∧ Below (w.alloc (.cells #[.int .i64 c, .int .i64 R] 72 (0, 0))).heap.size (w.alloc (.cells #[.int .i64 c, .int .i64 R] 72 (0, 0))) w' :=
    containsFunc23_any (p := fun z => z.any fun x => !Cd.has c x 1) (bs := #[]) (cs := #[.pointer (some ⟨w.heap.size, 0, none⟩)]) ceg24 (hl.keep b1.size (fun i _ h => b1.block i h)) (fun z _ u W bW hu => by
      have h := cells24_any w.heap.size c R h hu ((bW.block _ (lt_of k1)).trans k1)
      simpa using h)
  generalize (l.any fun z => z.any fun x => !Cd.has c x 1) = q at hc ⊢
  clear hl
  go_enter Tryd.func36, Tryd.ntmps36
  go_upto_region 1 with fail
  generalize w.alloc (.cells #[.int .i64 c, .int .i64 R] 72 (0, 0)) = w1 at b1 k1 hc ⊢
  go_wp2_with fail
  refine hc.mono ?_
  rintro e w2 ⟨rfl, b2⟩
  have B2 := b1.trans (b2.mono b1.size)
  go_wp2
  go_ret
  exact ⟨rfl, B2⟩
end Go.Proofs.YtkgbmgpdehmiiaaDoor
