import Derived.Test.YtbiomnnlpafciaaDoorT17
import Derived.Test.YtbiomnnlpafciaaDoorT11
import Derived.WalkKit
import Derived.WalkSpells
import Derived.IntWalk
import Derived.Deep.Cut
import Derived.Deep.LoopGhost
import Derived.Laws.Cover1
import Derived.Lib.Hide
set_option linter.unusedVariables false
set_option linter.unusedSimpArgs false
set_option maxHeartbeats 64000000
set_option maxRecDepth 100000
namespace Go.Proofs.YtbiomnnlpafciaaDoor
open Go.RowKit Go.IntWalk
set_option linter.unusedVariables false
set_option linter.unusedSimpArgs false
set_option maxHeartbeats 8000000 in
theorem indexFunc23_any {ok : Nat → Prop} {w : World} {v : Value} {l : List Lo.Sp} {N : Nat} {a : Value} {p : Lo.Sp → Bool} (eg : ∀ args w, (callFunc N args).run Tryd.prog w = .ok (.enter N args) w) (hl : HSps ok w v l) (hp : ∀ s ∈ l, ∀ (y : SpV) W, Below w.heap.size w W → HSp ok W y s → Calls Tryd.prog N #[a, .agg #[.int .i64 s.op, .int .i64 s.k, .int .i64 s.n, .int .i64 s.tgt, .slice y.aF y.nF y.cF, .slice y.aE y.nE y.cE]] W fun e W' => e = .returned (.bool (p s)) ∧ Below W.heap.size W W') :
    Calls Tryd.prog 40 #[v, .func (.func N) #[a] #[]] w fun e w' => e = .returned (.int .i64 (Lo.idx p 0 l)) ∧ Below w.heap.size w w' := by
  obtain ⟨ao, cap, rfl, hc1, hc2, -⟩ := hl.at
  unfold maxLen at hc2
  obtain ⟨R, hR⟩ : ∃ R, R = Lo.idx p 0 l := ⟨_, rfl⟩
  rw [← hR]
  have HR := hide (show R = Lo.idx p 0 (l.drop 0) by rw [List.drop_zero]; exact hR)
  have HL := hide hl
  have HP := hide hp
  clear hR hl hp
  obtain ⟨n, hn⟩ : ∃ n, n = l.length := ⟨_, rfl⟩
  rw [← hn] at hc1 ⊢
  have HN := hide hn
  clear hn
  go_enter Tryd.func40, Tryd.ntmps40
  go_wp2_with fail
  go_loopg [8] n (fun k v wr => ∃ i, i ≤ n ∧ k = n - i ∧ v = .int .i64 (i : Nat) ∧ Hid (R = Lo.idx p i (l.drop i)) ∧ Below w.heap.size w wr)
  case atStart => exact ⟨0, Nat.zero_le _, rfl, rfl, HR, Below.refl _ _⟩
  case round =>
    clear HR
    obtain ⟨i, hi, rfl, rfl, H, hbr⟩ := hrel
    by_cases hlt : i < n
    case neg =>
      have hin : i = n := by omega
      subst hin
      have e1 : l.drop i = [] := List.drop_of_length_le (by have := HN.out; omega)
      have HZ := hide (show R = -1 by rw [H.out, e1]; rfl)
      clear e1
      go_wp2
      go_ret
      exact ⟨by rw [HZ.out]; rfl, hbr⟩
    case pos =>
      have hil : i < l.length := by have := HN.out; omega
      have hdr : l.drop i = l[i] :: l.drop (i + 1) := List.drop_eq_getElem_cons hil
      have hR1 := H.out
      rw [hdr] at hR1
      obtain ⟨ao', cap', eqs, -, -, hat2⟩ := (HL.out.under hbr).at
      injection eqs with q1 q2 q3
      subst q1
      obtain ⟨bb, o, z, rfl, hb, ⟨e0, e1, e2, e3, e4, e5⟩, hz⟩ := hat2 i hil
      obtain ⟨y, hy⟩ : ∃ y, y = l[i] := ⟨_, rfl⟩
      have hc := HP.out y (by rw [hy]; exact List.getElem_mem hil) z wr hbr (by rw [hy]; exact hz)
      rw [← hy] at e0 e1 e2 e3 hR1
      unfold Lo.idx at hR1
      generalize p y = q at hc hR1
      have HR1 := hide hR1
      clear hat2 q2 q3 hy hdr hR1 H hz
      go_wp2_with fail
      refine hc.mono ?_
      rintro e w4 ⟨rfl, b4⟩
      have B4 := hbr.trans (b4.mono hbr.size)
      clear hc
      cases q
      case false =>
        have HZ : Hid (R = Lo.idx p (i + 1) (l.drop (i + 1))) := hide (by rw [HR1.out]; simp)
        clear HR1
        go_wp2_with fail
        go_roundg (n - (i + 1))
        case measure => omega
        case rel => exact ⟨i + 1, by omega, rfl, by go_num, HZ, B4⟩
      case true =>
        have HZ : Hid (R = (i : Int)) := hide (by rw [HR1.out]; simp)
        clear HR1
        go_wp2
        go_ret
        exact ⟨by rw [HZ.out]; rfl, B4⟩
/-- loops in memory -/
structure HLp (ok : Nat → Prop) (w : World) (aP aG aS : Option Addr) (cP cG cS : Nat) (L : Lo.Lp) : Prop where
  P : HInts ok w (.slice aP L.P.length cP) L.P
  G : HInts ok w (.slice aG L.G.length cG) L.G
  S : HSps ok w (.slice aS L.S.length cS) L.S
  W : ∀ s ∈ L.S, Lo.SW s
theorem HLp.keep {ok : Nat → Prop} {w w' : World} {aP aG aS : Option Addr} {cP cG cS : Nat} {L : Lo.Lp} (h : HLp ok w aP aG aS cP cG cS L) (h1 : w.heap.size ≤ w'.heap.size) (h2 : ∀ i, ok i → i < w.heap.size → w'.heap[i]? = w.heap[i]?) : HLp ok w' aP aG aS cP cG cS L := ⟨h.P.keep h1 h2, h.G.keep h1 h2, h.S.keep h1 h2, h.W⟩
theorem HLp.under {ok : Nat → Prop} {w w' : World} {aP aG aS : Option Addr} {cP cG cS : Nat} {L : Lo.Lp} (h : HLp ok w aP aG aS cP cG cS L) (b : Below w.heap.size w w') : HLp ok w' aP aG aS cP cG cS L := h.keep b.size fun i _ hl => b.block i hl
theorem eg22 : ∀ args w, (callFunc 39 args).run Tryd.prog w = .ok (.enter 39 args) w := enters_of Tryd.func39 (by kernel_rfl) rfl
theorem eg24 : ∀ args w, (callFunc 41 args).run Tryd.prog w = .ok (.enter 41 args) w := enters_of Tryd.func41 (by kernel_rfl) rfl
theorem bars24_sp {ok : Nat → Prop} {w : World} (c : Int) {s : Lo.Sp} {y : SpV} (hG : GlobK w) (hS : HSp ok w y s) (hW : Lo.SW s) (hc : 1 ≤ c ∧ c ≤ 6000) : Calls Tryd.prog 41 #[.int .i64 c, .agg #[.int .i64 s.op, .int .i64 s.k, .int .i64 s.n, .int .i64 s.tgt, .slice y.aF y.nF y.cF, .slice y.aE y.nE y.cE]] w fun e w' => e = .returned (.bool (Lo.bars c s)) ∧ Below w.heap.size w w' :=
  bars24_any c s.op s.k s.n s.tgt hG hS.F hS.E hW.1 hW.2 hc
set_option maxHeartbeats 16000000 in
theorem check7_any {ok : Nat → Prop} {w : World} {aP aG aS : Option Addr} {cP cG cS : Nat} {L : Lo.Lp} (hG : GlobK w) (hL : HLp ok w aP aG aS cP cG cS L) : Calls Tryd.prog 21 #[Value.agg #[.int .i64 L.c, .slice aP L.P.length cP, .slice aG L.G.length cG, .slice aS L.S.length cS]] w fun e w' => e = .returned (.agg #[.int .i64 (Lo.fault L).1, .int .i64 (Lo.fault L).2]) ∧ Below w.heap.size w w' := by
  obtain ⟨c, P, G, S⟩ := L
  obtain ⟨hP, hGg, hS, hW⟩ := hL
  dsimp only at hP hGg hS hW ⊢
  have b1 : Below w.heap.size w ((w.alloc (.cells #[.int .i64 c, .slice aP P.length cP, .slice aG G.length cG, .slice aS S.length cS] 25 (0, 0))).alloc (.cells #[.int .i64 0, .int .i64 0] 33 (0, 0))) := ((Below.refl _ _).alloc (Nat.le_refl _) _).alloc (by simp) _
  have kL : (((w.alloc (.cells #[.int .i64 c, .slice aP P.length cP, .slice aG G.length cG, .slice aS S.length cS] 25 (0, 0))).alloc (.cells #[.int .i64 0, .int .i64 0] 33 (0, 0)))).heap[w.heap.size]? = some (.cells #[.int .i64 c, .slice aP P.length cP, .slice aG G.length cG, .slice aS S.length cS] 25 (0, 0)) := (Below.heap_alloc _ _ _ (by simp)).trans (heap_new w _)
  have kF : (((w.alloc (.cells #[.int .i64 c, .slice aP P.length cP, .slice aG G.length cG, .slice aS S.length cS] 25 (0, 0))).alloc (.cells #[.int .i64 0, .int .i64 0] 33 (0, 0)))).heap[w.heap.size + 1]? = some (.cells #[.int .i64 0, .int .i64 0] 33 (0, 0)) := by
    have := heap_new (w.alloc (.cells #[.int .i64 c, .slice aP P.length cP, .slice aG G.length cG, .slice aS S.length cS] 25 (0, 0))) (.cells #[.int .i64 0, .int .i64 0] 33 (0, 0))
    simpa using this
  have hcP := fun (W : World) (hc : 1 ≤ c ∧ c ≤ 6000) (b : Below w.heap.size w W) => containsFuncM_any (p := fun x => !Lo.hasN c x 1) (a := .int .i64 c) eg22 (hP.under b) (fun x _ V _ => (lacks22_any c x V (by unfold I64; omega)).mono fun _ _ ⟨h1, h2⟩ => ⟨h1, h2 ▸ Below.refl _ _⟩)
  have hcG := fun (W : World) (hc : 1 ≤ c ∧ c ≤ 6000) (b : Below w.heap.size w W) => containsFuncM_any (p := fun x => !Lo.hasN c x 1) (a := .int .i64 c) eg22 (hGg.under b) (fun x _ V _ => (lacks22_any c x V (by unfold I64; omega)).mono fun _ _ ⟨h1, h2⟩ => ⟨h1, h2 ▸ Below.refl _ _⟩)
  have hcS := fun (W : World) (hc : 1 ≤ c ∧ c ≤ 6000) (b : Below w.heap.size w W) => indexFunc23_any (p := fun s => Lo.bars c s) (a := .int .i64 c) eg24 (hS.under b) (fun s hs y V bv hy => bars24_sp c ((hG.under b).under bv) hy (hW s hs) hc)
  unfold Lo.fault
  dsimp only
  generalize (P.any fun x => !Lo.hasN c x 1) = qP at hcP ⊢
  generalize (G.any fun x => !Lo.hasN c x 1) = qG at hcG ⊢
  have hbe : (fun s => Lo.bars c s) = Lo.bars c := rfl
  rw [hbe] at hcS
  clear hbe
  generalize Lo.idx (Lo.bars c) 0 S = ix at hcS ⊢
  clear hP hGg hS hG hW
  generalize P.length = nP at b1 kL kF hcP ⊢
  generalize G.length = nG at b1 kL kF hcG ⊢
  generalize S.length = nS at b1 kL kF hcS ⊢
  have HCP := hide hcP
  have HCG := hide hcG
  have HCS := hide hcS
  clear hcP hcG hcS
  obtain ⟨R, hR⟩ : ∃ R : Int × Int, R = (if c < 1 ∨ 6000 < c then (13, -1) else if 6000 < nP ∨ 120000 < nG ∨ 1200 < nS then (7, -1) else if qP = true ∨ qG = true then (16, -1) else if 0 ≤ ix then (4, ix) else (0, 0)) := ⟨_, rfl⟩
  rw [← hR]
  have HR := hide hR
  clear hR
  go_enter Tryd.func21, Tryd.ntmps21
  go_upto_region 1 with fail
  generalize ((w.alloc (.cells #[.int .i64 c, .slice aP nP cP, .slice aG nG cG, .slice aS nS cS] 25 (0, 0))).alloc (.cells #[.int .i64 0, .int .i64 0] 33 (0, 0))) = w1 at b1 kL kF ⊢
  have s0 := cell_of kL 0
  have s1 := cell_of kL 1
  have s2 := cell_of kL 2
  have s3 := cell_of kL 3
  simp at s0 s1 s2 s3
  by_cases h1 : c < 1
  case pos =>
    have HZ := hide (show R = (13, -1) by rw [HR.out]; rw [if_pos (.inl h1)])
    clear HR
    have st0 := cell_of kF 0
    have st1 := cell_of kF 1
    have fr0 := free_of kF 0
    have fr1 := free_of kF 1
    simp at st0 st1
    have KR := set_in (set_in kF 0 (.int .i64 13)) 1 (.int .i64 (-1))
    have r0 := cell_of KR 0
    have r1 := cell_of KR 1
    simp at r0 r1
    have BR := (b1.setCell (p := ⟨w.heap.size + 1, 0, none⟩) (by simp) (.int .i64 13)).setCell (p := ⟨w.heap.size + 1, 1, none⟩) (by simp) (.int .i64 (-1))
    clear KR
    go_wp2
    exact bodyPost_ret (v := .agg #[.int .i64 13, .int .i64 (-1)]) (by simp [results, Tryd.results21, go_sem, r0, r1]) rfl ⟨by rw [HZ.out], BR⟩
  by_cases h2 : 6000 < c
  case pos =>
    have HZ := hide (show R = (13, -1) by rw [HR.out]; rw [if_pos (.inr h2)])
    clear HR
    have st0 := cell_of kF 0
    have st1 := cell_of kF 1
    have fr0 := free_of kF 0
    have fr1 := free_of kF 1
    simp at st0 st1
    have KR := set_in (set_in kF 0 (.int .i64 13)) 1 (.int .i64 (-1))
    have r0 := cell_of KR 0
    have r1 := cell_of KR 1
    simp at r0 r1
    have BR := (b1.setCell (p := ⟨w.heap.size + 1, 0, none⟩) (by simp) (.int .i64 13)).setCell (p := ⟨w.heap.size + 1, 1, none⟩) (by simp) (.int .i64 (-1))
    clear KR
    go_wp2
    exact bodyPost_ret (v := .agg #[.int .i64 13, .int .i64 (-1)]) (by simp [results, Tryd.results21, go_sem, r0, r1]) rfl ⟨by rw [HZ.out], BR⟩
  have hcc : 1 ≤ c ∧ c ≤ 6000 := by omega
  have HCC := hide hcc
  have HR1 := hide (show R = _ by rw [HR.out, if_neg (by omega)])
  clear HR hcc
  have HR := HR1
  clear HR1
  by_cases h3 : 6000 < nP
  case pos =>
    have HZ := hide (show R = (7, -1) by rw [HR.out]; rw [if_pos (.inl h3)])
    clear HR
    have st0 := cell_of kF 0
    have st1 := cell_of kF 1
    have fr0 := free_of kF 0
    have fr1 := free_of kF 1
    simp at st0 st1
    have KR := set_in (set_in kF 0 (.int .i64 7)) 1 (.int .i64 (-1))
    have r0 := cell_of KR 0
    have r1 := cell_of KR 1
    simp at r0 r1
    have BR := (b1.setCell (p := ⟨w.heap.size + 1, 0, none⟩) (by simp) (.int .i64 7)).setCell (p := ⟨w.heap.size + 1, 1, none⟩) (by simp) (.int .i64 (-1))
    clear KR
    go_wp2
    exact bodyPost_ret (v := .agg #[.int .i64 7, .int .i64 (-1)]) (by simp [results, Tryd.results21, go_sem, r0, r1]) rfl ⟨by rw [HZ.out], BR⟩
  by_cases h4 : 120000 < nG
  case pos =>
    have HZ := hide (show R = (7, -1) by rw [HR.out]; rw [if_pos (.inr (.inl h4))])
    clear HR
    have st0 := cell_of kF 0
    have st1 := cell_of kF 1
    have fr0 := free_of kF 0
    have fr1 := free_of kF 1
    simp at st0 st1
    have KR := set_in (set_in kF 0 (.int .i64 7)) 1 (.int .i64 (-1))
    have r0 := cell_of KR 0
    have r1 := cell_of KR 1
    simp at r0 r1
    have BR := (b1.setCell (p := ⟨w.heap.size + 1, 0, none⟩) (by simp) (.int .i64 7)).setCell (p := ⟨w.heap.size + 1, 1, none⟩) (by simp) (.int .i64 (-1))
    clear KR
    go_wp2
    exact bodyPost_ret (v := .agg #[.int .i64 7, .int .i64 (-1)]) (by simp [results, Tryd.results21, go_sem, r0, r1]) rfl ⟨by rw [HZ.out], BR⟩
  by_cases h5 : 1200 < nS
  case pos =>
    have HZ := hide (show R = (7, -1) by rw [HR.out]; rw [if_pos (.inr (.inr h5))])
    clear HR
    have st0 := cell_of kF 0
    have st1 := cell_of kF 1
    have fr0 := free_of kF 0
    have fr1 := free_of kF 1
    simp at st0 st1
    have KR := set_in (set_in kF 0 (.int .i64 7)) 1 (.int .i64 (-1))
    have r0 := cell_of KR 0
    have r1 := cell_of KR 1
    simp at r0 r1
    have BR := (b1.setCell (p := ⟨w.heap.size + 1, 0, none⟩) (by simp) (.int .i64 7)).setCell (p := ⟨w.heap.size + 1, 1, none⟩) (by simp) (.int .i64 (-1))
    clear KR
    go_wp2
    exact bodyPost_ret (v := .agg #[.int .i64 7, .int .i64 (-1)]) (by simp [results, Tryd.results21, go_sem, r0, r1]) rfl ⟨by rw [HZ.out], BR⟩
  have HR1 := hide (show R = _ by rw [HR.out, if_neg (by omega)])
  clear HR
  have HR := HR1
  clear HR1
  go_wp2_with fail
  refine (HCP.out w1 HCC.out b1).mono ?_
  rintro e w2 ⟨rfl, b2⟩
  have B2 := b1.trans (b2.mono b1.size)
  have kL2 := (b2.block _ (lt_of kL)).trans kL
  have kF2 := (b2.block _ (lt_of kF)).trans kF
  clear s0 s1 s2 s3 b2 kL kF HCP
  have s0 := cell_of kL2 0
  have s1 := cell_of kL2 1
  have s2 := cell_of kL2 2
  have s3 := cell_of kL2 3
  simp at s0 s1 s2 s3
  cases qP
  case true =>
    have HZ := hide (show R = (16, -1) by rw [HR.out]; rw [if_pos (.inl rfl)])
    clear HR
    have st0 := cell_of kF2 0
    have st1 := cell_of kF2 1
    have fr0 := free_of kF2 0
    have fr1 := free_of kF2 1
    simp at st0 st1
    have KR := set_in (set_in kF2 0 (.int .i64 16)) 1 (.int .i64 (-1))
    have r0 := cell_of KR 0
    have r1 := cell_of KR 1
    simp at r0 r1
    have BR := (B2.setCell (p := ⟨w.heap.size + 1, 0, none⟩) (by simp) (.int .i64 16)).setCell (p := ⟨w.heap.size + 1, 1, none⟩) (by simp) (.int .i64 (-1))
    clear KR
    go_wp2
    exact bodyPost_ret (v := .agg #[.int .i64 16, .int .i64 (-1)]) (by simp [results, Tryd.results21, go_sem, r0, r1]) rfl ⟨by rw [HZ.out], BR⟩
  case false =>
    go_wp2_with fail
    refine (HCG.out w2 HCC.out B2).mono ?_
    rintro e w3 ⟨rfl, b3⟩
    have B3 := B2.trans (b3.mono B2.size)
    have kL3 := (b3.block _ (lt_of kL2)).trans kL2
    have kF3 := (b3.block _ (lt_of kF2)).trans kF2
    clear s0 s1 s2 s3 b3 kL2 kF2 HCG
    have s0 := cell_of kL3 0
    have s1 := cell_of kL3 1
    have s2 := cell_of kL3 2
    have s3 := cell_of kL3 3
    simp at s0 s1 s2 s3
    cases qG
    case true =>
      have HZ := hide (show R = (16, -1) by rw [HR.out]; rw [if_pos (.inr rfl)])
      clear HR
      have st0 := cell_of kF3 0
      have st1 := cell_of kF3 1
      have fr0 := free_of kF3 0
      have fr1 := free_of kF3 1
      simp at st0 st1
      have KR := set_in (set_in kF3 0 (.int .i64 16)) 1 (.int .i64 (-1))
      have r0 := cell_of KR 0
      have r1 := cell_of KR 1
      simp at r0 r1
      have BR := (B3.setCell (p := ⟨w.heap.size + 1, 0, none⟩) (by simp) (.int .i64 16)).setCell (p := ⟨w.heap.size + 1, 1, none⟩) (by simp) (.int .i64 (-1))
      clear KR
      go_wp2
      exact bodyPost_ret (v := .agg #[.int .i64 16, .int .i64 (-1)]) (by simp [results, Tryd.results21, go_sem, r0, r1]) rfl ⟨by rw [HZ.out], BR⟩
    case false =>
      have HR1 := hide (show R = _ by rw [HR.out, if_neg (by simp)])
      clear HR
      have HR := HR1
      clear HR1
      go_wp2_with fail
      refine (HCS.out w3 HCC.out B3).mono ?_
      rintro e w4 ⟨rfl, b4⟩
      have B4 := B3.trans (b4.mono B3.size)
      have kF4 := (b4.block _ (lt_of kF3)).trans kF3
      clear s0 s1 s2 s3 b4 kL3 kF3 HCS
      by_cases hx : 0 ≤ ix
      case pos =>
        have HZ := hide (show R = (4, ix) by rw [HR.out]; rw [if_pos hx])
        clear HR
        have st0 := cell_of kF4 0
        have st1 := cell_of kF4 1
        have fr0 := free_of kF4 0
        have fr1 := free_of kF4 1
        simp at st0 st1
        have KR := set_in (set_in kF4 0 (.int .i64 4)) 1 (.int .i64 ix)
        have r0 := cell_of KR 0
        have r1 := cell_of KR 1
        simp at r0 r1
        have BR := (B4.setCell (p := ⟨w.heap.size + 1, 0, none⟩) (by simp) (.int .i64 4)).setCell (p := ⟨w.heap.size + 1, 1, none⟩) (by simp) (.int .i64 ix)
        clear KR
        go_wp2
        exact bodyPost_ret (v := .agg #[.int .i64 4, .int .i64 ix]) (by simp [results, Tryd.results21, go_sem, r0, r1]) rfl ⟨by rw [HZ.out], BR⟩
      case neg =>
        have HZ := hide (show R = (0, 0) by rw [HR.out]; rw [if_neg hx])
        clear HR
        have st0 := cell_of kF4 0
        have st1 := cell_of kF4 1
        have fr0 := free_of kF4 0
        have fr1 := free_of kF4 1
        simp at st0 st1
        have KR := set_in (set_in kF4 0 (.int .i64 0)) 1 (.int .i64 0)
        have r0 := cell_of KR 0
        have r1 := cell_of KR 1
        simp at r0 r1
        have BR := (B4.setCell (p := ⟨w.heap.size + 1, 0, none⟩) (by simp) (.int .i64 0)).setCell (p := ⟨w.heap.size + 1, 1, none⟩) (by simp) (.int .i64 0)
        clear KR
        go_wp2
        exact bodyPost_ret (v := .agg #[.int .i64 0, .int .i64 0]) (by simp [results, Tryd.results21, go_sem, r0, r1]) rfl ⟨by rw [HZ.out], BR⟩
end Go.Proofs.YtbiomnnlpafciaaDoor
