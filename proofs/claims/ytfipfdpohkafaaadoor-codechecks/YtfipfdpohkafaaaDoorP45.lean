import Derived.Test.YtfipfdpohkafaaaDoorP43
import Derived.Test.YtfipfdpohkafaaaDoorP32
import Derived.Test.YtfipfdpohkafaaaDoorP31
import Derived.WalkKit
import Derived.WalkSpells
import Derived.IntWalk
import Derived.Deep.Cut
import Derived.Deep.LoopGhost
import Derived.Laws.Cover1
import Derived.Lib.Hide
set_option linter.unusedVariables false
set_option linter.unusedSimpArgs false
set_option maxHeartbeats 64000000
set_option maxRecDepth 100000
namespace Go.Proofs.YtfipfdpohkafaaaDoor
open Go.RowKit Go.IntWalk
set_option linter.unusedVariables false
set_option linter.unusedSimpArgs false
theorem wpAnyL_firstM {P : Program} {ops : Array Oper} {Q : Exit → Act → World → Prop} {md : Region.Mode} {S : World → Prop} {late : Nat → Bool} {i : Nat} {oi : Oper} {v : Value} (hi : ops[i]? = some oi) (hsel : ∀ (j : Nat) (o : Oper) cs b, ops[j]? = some o → o.op ≠ .select cs b)
    (hQ : ∀ c a w, Q (.panic c) (a.put oi.dst v) w → Q (.panic c) a w) (hlate : late i = true) :
    ∀ (fuel : Nat) (listed : Array Bool) (a : Act) (w : World),
      (∀ j oj, ops[j]? = some oj → j ≠ i → listed.getD j true = false → (∀ e ∈ oj.after, Region.binds md e = true → e.on ≠ i) → oi.apart ops oj = true) →
      i ∈ Region.ready md ops listed → YieldsIf P ops (fun _ => True) oi v a →
      wpAnyL P md ops Q S late fuel (listed.setIfInBounds i true) (a.put oi.dst v) w → wpAnyL P md ops Q S late (fuel + 1) listed a w := by
  intro fuel
  induction fuel with
  | zero =>
    intro listed a w _ hr hy H
    refine ⟨fun h => (by rw [h] at hr; cases hr), fun j hj => ?_⟩
    by_cases hji : j = i
    · subst hji; exact hy.wpOp hi trivial ⟨fun h => absurd h (by rw [hlate]; decide), H⟩
    · have := ready_mono hj hji
      rw [H.1] at this
      cases this
  | succ fuel ih =>
    intro listed a w hfree hr hy H
    refine ⟨fun h => (by rw [h] at hr; cases hr), fun j hj => ?_⟩
    by_cases hji : j = i
    · subst hji; exact hy.wpOp hi trivial ⟨fun h => absurd h (by rw [hlate]; decide), H⟩
    · have h1 := H.2 j (ready_mono hj hji)
      obtain ⟨hjun, oj, hoj, hall⟩ := mem_ready.1 hj
      have hnot : ∀ e ∈ oj.after, Region.binds md e = true → e.on ≠ i := fun e he hb heq => by
        have h1 := hall e he hb
        have h0 := (mem_ready.1 hr).1
        rw [heq] at h1
        rcases Nat.lt_or_ge i listed.size with h' | h'
        · simp [h'] at h0 h1; rw [h0] at h1; cases h1
        · simp [Array.getElem?_eq_none h'] at h1
      have h2 := wpOp_putIf hoj (hfree j oj hoj hji hjun hnot) (fun cs b => hsel i oi cs b hi) (fun cs b => hsel j oj cs b hoj) hQ hy h1
      have hfree' : ∀ k ok, ops[k]? = some ok → k ≠ i → (listed.setIfInBounds j true).getD k true = false →
          (∀ e ∈ ok.after, Region.binds md e = true → e.on ≠ i) → oi.apart ops ok = true := fun k ok hk hki hun hno => by
        refine hfree k ok hk hki ?_ hno
        by_cases hjk : j = k
        · subst hjk; exact hjun
        · rw [getD_set_ne true hjk] at hun; exact hun
      refine wpOp_mono (fun a' w' h3 => ⟨h3.2.1, ih (listed.setIfInBounds j true) a' w' hfree' (ready_mono hr (Ne.symm hji)) h3.1 ?_⟩) h2
      rw [Array.setIfInBounds_comm _ _ hji]
      exact h3.2.2
theorem wpAnyL_move {P : Program} {ops : Array Oper} {Q : Exit → Act → World → Prop} {md : Region.Mode} {S : World → Prop} {late : Nat → Bool} {i : Nat} {oi : Oper} {v : Value} {fuel : Nat} {listed : Array Bool} {a : Act} {w : World} (hi : ops[i]? = some oi)
    (hs : Region.noSelect ops = true) (hf : Region.free md ops listed i = true) (hr : (Region.ready md ops listed).contains i = true) (hlate : late i = true)
    (hQ : ∀ c a w, Q (.panic c) (a.put oi.dst v) w → Q (.panic c) a w) (hw : Region.wanted oi (yielded ops a.tmps) = true) (hy : ∀ w, (execOp a.eval oi).run P w = .ok (.value v) w)
    (h : wpAnyL P md ops Q S late fuel (listed.setIfInBounds i true) (a.put oi.dst v) w) : wpAnyL P md ops Q S late (fuel + 1) listed a w :=
  wpAnyL_firstM hi (Region.noSelect_spec hs) hQ hlate fuel listed a w (Region.free_spec hi hf) (by simpa using hr) (.inl ⟨hw, fun w _ => hy w⟩) h
theorem ownL_plain {α : Type} {T : Kind α} {ok : Nat → Prop} {B : Nat} {w : World} {v : Value} {l : List α} (h : OwnX T ok w v l) (hk : ∀ k, v.ownBlock = some k → B ≤ k) (hE : ∀ ok ok' w cs a, T.E ok w cs a → T.E ok' w cs a) : OwnL T B w v l := by
  obtain ⟨D, ⟨h1, h2⟩, h3, h4⟩ := h
  refine ⟨D, ⟨h1, ?_⟩, fun j hj => hE _ _ _ _ _ (h4 j hj)⟩
  rcases h2 with h | ⟨g, cap, cur, e1, e2, e3⟩
  · exact .inl h
  · exact .inr ⟨g, cap, cur, e1, hk g (by rw [e1]; rfl), e3⟩
theorem grown_low {w w' : World} {v : Value} {B : Nat} (g : w.grownBy w' v.ownBlock) (hv : ∀ k, v.ownBlock = some k → B ≤ k) (hB : B ≤ w.heap.size) : Below B w w' :=
  ⟨g.os, g.tape, g.output, g.size, fun k hk => g.block k (by omega) (fun e => by have := hv k e.symm; omega)⟩
/-- a row behind no row: a new one -/
theorem nil_join {α : Type} (T : Kind α) {w : World} (t ty : TypeId) (ht : Tryd.prog.underlying t = some (.slice T.ty)) {ok : Nat → Prop} {u : Value} {r : List α} (hr : HRow T ok w u r) (hE : ∀ ok ok' w cs a, T.E ok w cs a → T.E ok' w cs a) (hM : r.length * T.bytes ≤ 140737488355328) (hm : r.length ≤ maxLen) :
    ∃ a c w', (Builtin.append_ #[t, t] ty #[.slice none 0 0, u]).run Tryd.prog w = .ok (.slice a r.length c) w' ∧ OwnL T w.heap.size w' (.slice a r.length c) r ∧ Below w.heap.size w w' := by
  obtain ⟨v', w', h1, h2, h3, h4⟩ := run_joinO T t ty ht (OwnX.nil (T := T) (ok := fun _ => False)) hr (fun k h => by cases h) (by simpa using hM) (by simpa using hm)
  rw [List.nil_append] at h2
  obtain ⟨a, c, rfl, -, -⟩ := h2.form
  refine ⟨a, c, w', h1, ownL_plain h2 (fun k hk => ?_) hE, grown_low h3 (fun k hk => by cases hk) (Nat.le_refl _)⟩
  rcases h4 with h | ⟨q, hq, hq2⟩
  · rw [h] at hk; cases hk
  · rw [hq] at hk; injection hk with hk; omega
theorem own_down2 {α : Type} {T : Kind α} {B B' : Nat} {w : World} {v : Value} {l : List α} (h : OwnL T B w v l) (hb : B' ≤ B) : OwnL T B' w v l := ownL_of (ownX_of h) (fun i hi => Nat.le_trans hb hi.1)
structure CopyP (w : World) (m : Cd.Im) (e : Ending) (w' : World) : Prop where
  out : ∃ aP aB aG aL cP cB cG cL, e = .returned (.agg #[.int .i64 m.c, .int .i64 m.R, .int .i64 m.cost, .slice aP m.P.length cP, .slice aB m.B.length cB, .slice aG m.G.length cG, .slice aL m.l.length cL]) ∧ HIm (fun i => w.heap.size ≤ i) w' aP aB aG aL cP cB cG cL m ∧ Below w.heap.size w w'
set_option maxHeartbeats 32000000 in
theorem copy7_any {ok : Nat → Prop} {w : World} {aP aB aG aL : Option Addr} {cP cB cG cL : Nat} {m : Cd.Im} (hm : HIm ok w aP aB aG aL cP cB cG cL m) (h1 : m.P.length ≤ 1000000) (h2 : m.B.length ≤ 1000000) (h3 : m.G.length ≤ 1000000) (h4 : m.l.length ≤ 1000000) : Calls Tryd.prog 7 #[.agg #[.int .i64 m.c, .int .i64 m.R, .int .i64 m.cost, .slice aP m.P.length cP, .slice aB m.B.length cB, .slice aG m.G.length cG, .slice aL m.l.length cL]] w (CopyP w m) := by
  obtain ⟨c, R, kc, P, B, G, l⟩ := m
  obtain ⟨hP, hB, hG, hL, hW⟩ := hm
  dsimp only at hP hB hG hL hW h1 h2 h3 h4 ⊢
  have b1 : Below w.heap.size w ((w.alloc (.cells #[.int .i64 c, .int .i64 R, .int .i64 kc, .slice aP P.length cP, .slice aB B.length cB, .slice aG G.length cG, .slice aL l.length cL] 25 (0, 0))).alloc (.cells #[.int .i64 0, .int .i64 0, .int .i64 0, .slice none 0 0, .slice none 0 0, .slice none 0 0, .slice none 0 0] 25 (0, 0))) := ((Below.refl _ _).alloc (Nat.le_refl _) _).alloc (by simp) _
  have kM : (((w.alloc (.cells #[.int .i64 c, .int .i64 R, .int .i64 kc, .slice aP P.length cP, .slice aB B.length cB, .slice aG G.length cG, .slice aL l.length cL] 25 (0, 0))).alloc (.cells #[.int .i64 0, .int .i64 0, .int .i64 0, .slice none 0 0, .slice none 0 0, .slice none 0 0, .slice none 0 0] 25 (0, 0)))).heap[w.heap.size]? = some (.cells #[.int .i64 c, .int .i64 R, .int .i64 kc, .slice aP P.length cP, .slice aB B.length cB, .slice aG G.length cG, .slice aL l.length cL] 25 (0, 0)) := (Below.heap_alloc _ _ _ (by simp)).trans (heap_new w _)
  have kZ : (((w.alloc (.cells #[.int .i64 c, .int .i64 R, .int .i64 kc, .slice aP P.length cP, .slice aB B.length cB, .slice aG G.length cG, .slice aL l.length cL] 25 (0, 0))).alloc (.cells #[.int .i64 0, .int .i64 0, .int .i64 0, .slice none 0 0, .slice none 0 0, .slice none 0 0, .slice none 0 0] 25 (0, 0)))).heap[w.heap.size + 1]? = some (.cells #[.int .i64 0, .int .i64 0, .int .i64 0, .slice none 0 0, .slice none 0 0, .slice none 0 0, .slice none 0 0] 25 (0, 0)) := by
    have := heap_new (w.alloc (.cells #[.int .i64 c, .int .i64 R, .int .i64 kc, .slice aP P.length cP, .slice aB B.length cB, .slice aG G.length cG, .slice aL l.length cL] 25 (0, 0))) (.cells #[.int .i64 0, .int .i64 0, .int .i64 0, .slice none 0 0, .slice none 0 0, .slice none 0 0, .slice none 0 0] 25 (0, 0))
    simpa using this
  have hP2 : HRow kInt (fun i => i < w.heap.size) w (.slice aP P.length cP) P := HRow.wide (T := kInt) hP (fun i _ h => h)
  have HP := hide (show HRow kInt (fun i => i < w.heap.size) ((w.alloc (.cells #[.int .i64 c, .int .i64 R, .int .i64 kc, .slice aP P.length cP, .slice aB B.length cB, .slice aG G.length cG, .slice aL l.length cL] 25 (0, 0))).alloc (.cells #[.int .i64 0, .int .i64 0, .int .i64 0, .slice none 0 0, .slice none 0 0, .slice none 0 0, .slice none 0 0] 25 (0, 0))) (.slice aP P.length cP) P from HRow.keep hP2 b1.size (fun i _ h => b1.block i h))
  have hB2 : HRow kInt (fun i => i < w.heap.size) w (.slice aB B.length cB) B := HRow.wide (T := kInt) hB (fun i _ h => h)
  have HB := hide (show HRow kInt (fun i => i < w.heap.size) ((w.alloc (.cells #[.int .i64 c, .int .i64 R, .int .i64 kc, .slice aP P.length cP, .slice aB B.length cB, .slice aG G.length cG, .slice aL l.length cL] 25 (0, 0))).alloc (.cells #[.int .i64 0, .int .i64 0, .int .i64 0, .slice none 0 0, .slice none 0 0, .slice none 0 0, .slice none 0 0] 25 (0, 0))) (.slice aB B.length cB) B from HRow.keep hB2 b1.size (fun i _ h => b1.block i h))
  have hG2 : HRow kInt (fun i => i < w.heap.size) w (.slice aG G.length cG) G := HRow.wide (T := kInt) hG (fun i _ h => h)
  have HG := hide (show HRow kInt (fun i => i < w.heap.size) ((w.alloc (.cells #[.int .i64 c, .int .i64 R, .int .i64 kc, .slice aP P.length cP, .slice aB B.length cB, .slice aG G.length cG, .slice aL l.length cL] 25 (0, 0))).alloc (.cells #[.int .i64 0, .int .i64 0, .int .i64 0, .slice none 0 0, .slice none 0 0, .slice none 0 0, .slice none 0 0] 25 (0, 0))) (.slice aG G.length cG) G from HRow.keep hG2 b1.size (fun i _ h => b1.block i h))
  have hL2 : HRow kIn (fun i => i < w.heap.size) w (.slice aL l.length cL) l := HRow.wide (T := kIn) hL (fun i _ h => h)
  have HL := hide (show HRow kIn (fun i => i < w.heap.size) ((w.alloc (.cells #[.int .i64 c, .int .i64 R, .int .i64 kc, .slice aP P.length cP, .slice aB B.length cB, .slice aG G.length cG, .slice aL l.length cL] 25 (0, 0))).alloc (.cells #[.int .i64 0, .int .i64 0, .int .i64 0, .slice none 0 0, .slice none 0 0, .slice none 0 0, .slice none 0 0] 25 (0, 0))) (.slice aL l.length cL) l from HRow.keep hL2 b1.size (fun i _ h => b1.block i h))
  have HWd := hide hW
  clear hP hB hG hL hP2 hB2 hG2 hL2 hW
  go_enter Tryd.func7, Tryd.ntmps7
  go_upto_region 3 with fail
  generalize ((w.alloc (.cells #[.int .i64 c, .int .i64 R, .int .i64 kc, .slice aP P.length cP, .slice aB B.length cB, .slice aG G.length cG, .slice aL l.length cL] 25 (0, 0))).alloc (.cells #[.int .i64 0, .int .i64 0, .int .i64 0, .slice none 0 0, .slice none 0 0, .slice none 0 0, .slice none 0 0] 25 (0, 0))) = w1 at b1 kM kZ HP HB HG HL ⊢
  have s3 := cell_of kM 3
  have s4 := cell_of kM 4
  have s5 := cell_of kM 5
  have s6 := cell_of kM 6
  simp at s3 s4 s5 s6
  have yM := lt_of kM
  have yZ := lt_of kZ
  refine wp_region_late (fun w' => Below w1.heap.size w1 w') (fun i => i == 4 || i == 8 || i == 12 || i == 17 || i == 18 || i == 19 || i == 20 || i == 21 || i == 22 || i == 23) (by kernel_rfl) ?_
  have hH0 : Below w1.heap.size w1 w1.drew := (Below.refl _ _).drew
  generalize w1.drew = wd0 at hH0 ⊢
  refine' wpAnyL_move (i := 4) (oi := ⟨some 11, _, _, _, _, _⟩) (v := _) rfl (by kernel_rfl) (by kernel_rfl) (by kernel_rfl) (by rfl) (fun _ _ _ h => h) (by rfl) ?hyv ?onw
  case hyv =>
    intro wz
    go_simp
    try rfl
  case onw =>
    try simp only [Act.put, List.setIfInBounds_toArray, List.set_cons_zero, List.set_cons_succ]
    refine' wpAnyL_move (i := 8) (oi := ⟨some 15, _, _, _, _, _⟩) (v := _) rfl (by kernel_rfl) (by kernel_rfl) (by kernel_rfl) (by rfl) (fun _ _ _ h => h) (by rfl) ?hyv ?onw
    case hyv =>
      intro wz
      go_simp
      try rfl
    case onw =>
      try simp only [Act.put, List.setIfInBounds_toArray, List.set_cons_zero, List.set_cons_succ]
      refine' wpAnyL_move (i := 12) (oi := ⟨some 19, _, _, _, _, _⟩) (v := _) rfl (by kernel_rfl) (by kernel_rfl) (by kernel_rfl) (by rfl) (fun _ _ _ h => h) (by rfl) ?hyv ?onw
      case hyv =>
        intro wz
        go_simp
        try rfl
      case onw =>
        try simp only [Act.put, List.setIfInBounds_toArray, List.set_cons_zero, List.set_cons_succ]
        refine' wpAnyL_take (i := 0) (oi := ⟨some 7, _, _, _, _, _⟩) (v := _) rfl (by kernel_rfl) (by kernel_rfl) (by kernel_rfl) (by kernel_rfl) (fun _ _ _ h => h) hH0 (by rfl) ?hyv ?onw
        case hyv =>
          intro wz hSw
          go_simp
          try rfl
        case onw =>
          try simp only [Act.put, List.setIfInBounds_toArray, List.set_cons_zero, List.set_cons_succ]
          refine' wpAnyL_take (i := 1) (oi := ⟨some 8, _, _, _, _, _⟩) (v := _) rfl (by kernel_rfl) (by kernel_rfl) (by kernel_rfl) (by kernel_rfl) (fun _ _ _ h => h) hH0 (by rfl) ?hyv ?onw
          case hyv =>
            intro wz hSw
            go_simp
            try rfl
          case onw =>
            try simp only [Act.put, List.setIfInBounds_toArray, List.set_cons_zero, List.set_cons_succ]
            refine' wpAnyL_take (i := 2) (oi := ⟨some 9, _, _, _, _, _⟩) (v := _) rfl (by kernel_rfl) (by kernel_rfl) (by kernel_rfl) (by kernel_rfl) (fun _ _ _ h => h) hH0 (by rfl) ?hyv ?onw
            case hyv =>
              intro wz hSw
              have zc0 := (hSw.cell (p := ⟨w.heap.size, 3, none⟩) yM).trans s3
              have zc1 := (hSw.cell (p := ⟨w.heap.size, 4, none⟩) yM).trans s4
              have zc2 := (hSw.cell (p := ⟨w.heap.size, 5, none⟩) yM).trans s5
              have zc3 := (hSw.cell (p := ⟨w.heap.size, 6, none⟩) yM).trans s6
              go_simp
              try rfl
            case onw =>
              try simp only [Act.put, List.setIfInBounds_toArray, List.set_cons_zero, List.set_cons_succ]
              refine' wpAnyL_take (i := 5) (oi := ⟨some 12, _, _, _, _, _⟩) (v := _) rfl (by kernel_rfl) (by kernel_rfl) (by kernel_rfl) (by kernel_rfl) (fun _ _ _ h => h) hH0 (by rfl) ?hyv ?onw
              case hyv =>
                intro wz hSw
                go_simp
                try rfl
              case onw =>
                try simp only [Act.put, List.setIfInBounds_toArray, List.set_cons_zero, List.set_cons_succ]
                refine' wpAnyL_take (i := 6) (oi := ⟨some 13, _, _, _, _, _⟩) (v := _) rfl (by kernel_rfl) (by kernel_rfl) (by kernel_rfl) (by kernel_rfl) (fun _ _ _ h => h) hH0 (by rfl) ?hyv ?onw
                case hyv =>
                  intro wz hSw
                  have zc0 := (hSw.cell (p := ⟨w.heap.size, 3, none⟩) yM).trans s3
                  have zc1 := (hSw.cell (p := ⟨w.heap.size, 4, none⟩) yM).trans s4
                  have zc2 := (hSw.cell (p := ⟨w.heap.size, 5, none⟩) yM).trans s5
                  have zc3 := (hSw.cell (p := ⟨w.heap.size, 6, none⟩) yM).trans s6
                  go_simp
                  try rfl
                case onw =>
                  try simp only [Act.put, List.setIfInBounds_toArray, List.set_cons_zero, List.set_cons_succ]
                  refine' wpAnyL_take (i := 9) (oi := ⟨some 16, _, _, _, _, _⟩) (v := _) rfl (by kernel_rfl) (by kernel_rfl) (by kernel_rfl) (by kernel_rfl) (fun _ _ _ h => h) hH0 (by rfl) ?hyv ?onw
                  case hyv =>
                    intro wz hSw
                    go_simp
                    try rfl
                  case onw =>
                    try simp only [Act.put, List.setIfInBounds_toArray, List.set_cons_zero, List.set_cons_succ]
                    refine' wpAnyL_take (i := 10) (oi := ⟨some 17, _, _, _, _, _⟩) (v := _) rfl (by kernel_rfl) (by kernel_rfl) (by kernel_rfl) (by kernel_rfl) (fun _ _ _ h => h) hH0 (by rfl) ?hyv ?onw
                    case hyv =>
                      intro wz hSw
                      have zc0 := (hSw.cell (p := ⟨w.heap.size, 3, none⟩) yM).trans s3
                      have zc1 := (hSw.cell (p := ⟨w.heap.size, 4, none⟩) yM).trans s4
                      have zc2 := (hSw.cell (p := ⟨w.heap.size, 5, none⟩) yM).trans s5
                      have zc3 := (hSw.cell (p := ⟨w.heap.size, 6, none⟩) yM).trans s6
                      go_simp
                      try rfl
                    case onw =>
                      try simp only [Act.put, List.setIfInBounds_toArray, List.set_cons_zero, List.set_cons_succ]
                      refine' wpAnyL_take (i := 13) (oi := ⟨some 20, _, _, _, _, _⟩) (v := _) rfl (by kernel_rfl) (by kernel_rfl) (by kernel_rfl) (by kernel_rfl) (fun _ _ _ h => h) hH0 (by rfl) ?hyv ?onw
                      case hyv =>
                        intro wz hSw
                        go_simp
                        try rfl
                      case onw =>
                        try simp only [Act.put, List.setIfInBounds_toArray, List.set_cons_zero, List.set_cons_succ]
                        refine' wpAnyL_take (i := 14) (oi := ⟨some 21, _, _, _, _, _⟩) (v := _) rfl (by kernel_rfl) (by kernel_rfl) (by kernel_rfl) (by kernel_rfl) (fun _ _ _ h => h) hH0 (by rfl) ?hyv ?onw
                        case hyv =>
                          intro wz hSw
                          have zc0 := (hSw.cell (p := ⟨w.heap.size, 3, none⟩) yM).trans s3
                          have zc1 := (hSw.cell (p := ⟨w.heap.size, 4, none⟩) yM).trans s4
                          have zc2 := (hSw.cell (p := ⟨w.heap.size, 5, none⟩) yM).trans s5
                          have zc3 := (hSw.cell (p := ⟨w.heap.size, 6, none⟩) yM).trans s6
                          go_simp
                          try rfl
                        case onw =>
                          try simp only [Act.put, List.setIfInBounds_toArray, List.set_cons_zero, List.set_cons_succ]
                          refine wpAnyL_one (i := 3) (o := _) rfl (by kernel_rfl) (by rfl) (fun K hK => ?_)
                          obtain ⟨aP1, cP1, wd1, rr1, oP1, bq1⟩ := nil_join kInt (w := wd0) 22 22 Tryd.underlying22 (ok := fun i => i < w.heap.size) (HP.out.keep hH0.size (fun i hi h => hH0.block i h)) (fun _ _ _ _ _ h => h) (by show P.length * 8 ≤ _; omega) (by unfold maxLen; omega)
                          refine oper_joinO _ _ 22 rfl _ _ _ (by rfl) (by rfl) rr1 ?_
                          have hH1 : Below w1.heap.size w1 wd1 := hH0.trans (bq1.mono hH0.size)
                          have pP1 := own_down2 oP1 hH0.size
                          clear oP1 rr1
                          refine hK.out _ _ (fun _ => hH1) ?_
                          clear hK K
                          try simp only [Act.put, List.setIfInBounds_toArray, List.set_cons_zero, List.set_cons_succ]
                          refine' wpAnyL_take (i := 16) (oi := ⟨some 23, _, _, _, _, _⟩) (v := _) rfl (by kernel_rfl) (by kernel_rfl) (by kernel_rfl) (by kernel_rfl) (fun _ _ _ h => h) hH1 (by rfl) ?hyv ?onw
                          case hyv =>
                            intro wz hSw
                            go_simp
                            try rfl
                          case onw =>
                            try simp only [Act.put, List.setIfInBounds_toArray, List.set_cons_zero, List.set_cons_succ]
                            refine wpAnyL_one (i := 7) (o := _) rfl (by kernel_rfl) (by rfl) (fun K hK => ?_)
                            obtain ⟨aB1, cB1, wd2, rr2, oB1, bq2⟩ := nil_join kInt (w := wd1) 22 22 Tryd.underlying22 (ok := fun i => i < w.heap.size) (HB.out.keep hH1.size (fun i hi h => hH1.block i h)) (fun _ _ _ _ _ h => h) (by show B.length * 8 ≤ _; omega) (by unfold maxLen; omega)
                            refine oper_joinO _ _ 22 rfl _ _ _ (by rfl) (by rfl) rr2 ?_
                            have hH2 : Below w1.heap.size w1 wd2 := hH1.trans (bq2.mono hH1.size)
                            have pB1 := own_down2 oB1 hH1.size
                            clear oB1 rr2
                            have pP1_2 := pP1.below bq2
                            refine hK.out _ _ (fun _ => hH2) ?_
                            clear hK K
                            try simp only [Act.put, List.setIfInBounds_toArray, List.set_cons_zero, List.set_cons_succ]
                            refine wpAnyL_one (i := 11) (o := _) rfl (by kernel_rfl) (by rfl) (fun K hK => ?_)
                            obtain ⟨aG1, cG1, wd3, rr3, oG1, bq3⟩ := nil_join kInt (w := wd2) 22 22 Tryd.underlying22 (ok := fun i => i < w.heap.size) (HG.out.keep hH2.size (fun i hi h => hH2.block i h)) (fun _ _ _ _ _ h => h) (by show G.length * 8 ≤ _; omega) (by unfold maxLen; omega)
                            refine oper_joinO _ _ 22 rfl _ _ _ (by rfl) (by rfl) rr3 ?_
                            have hH3 : Below w1.heap.size w1 wd3 := hH2.trans (bq3.mono hH2.size)
                            have pG1 := own_down2 oG1 hH2.size
                            clear oG1 rr3
                            have pP1_3 := pP1_2.below bq3
                            have pB1_3 := pB1.below bq3
                            refine hK.out _ _ (fun _ => hH3) ?_
                            clear hK K
                            try simp only [Act.put, List.setIfInBounds_toArray, List.set_cons_zero, List.set_cons_succ]
                            refine wpAnyL_one (i := 15) (o := _) rfl (by kernel_rfl) (by rfl) (fun K hK => ?_)
                            obtain ⟨aL1, cL1, wd4, rr4, oL1, bq4⟩ := nil_join kIn (w := wd3) 23 23 Tryd.underlying23 (ok := fun i => i < w.heap.size) (HL.out.keep hH3.size (fun i hi h => hH3.block i h)) (fun _ _ _ _ _ h => h) (by show l.length * 48 ≤ _; omega) (by unfold maxLen; omega)
                            refine oper_joinO _ _ 23 rfl _ _ _ (by rfl) (by rfl) rr4 ?_
                            have hH4 : Below w1.heap.size w1 wd4 := hH3.trans (bq4.mono hH3.size)
                            have pL1 := own_down2 oL1 hH3.size
                            clear oL1 rr4
                            have pP1_4 := pP1_3.below bq4
                            have pB1_4 := pB1_3.below bq4
                            have pG1_4 := pG1.below bq4
                            refine hK.out _ _ (fun _ => hH4) ?_
                            clear hK K
                            try simp only [Act.put, List.setIfInBounds_toArray, List.set_cons_zero, List.set_cons_succ]
                            refine wpAnyL_one (i := 17) (o := _) rfl (by kernel_rfl) (by rfl) (fun K hK => ?_)
                            have hm3 := (hH4.block _ (lt_of kM)).trans kM
                            have B3x : Below w.heap.size w wd4 := b1.trans (hH4.mono b1.size)
                            have hz3 : w1.heap.size ≤ wd4.heap.size := hH4.size
                            have kz3 := (hH4.block _ (lt_of kZ)).trans kZ
                            have st := cell_of hm3 3
                            have fr := free_of hm3 3
                            simp at st
                            have hm4 := set_in hm3 3 (.slice aP1 P.length cP1)
                            simp at hm4
                            have B4x := B3x.setCell (p := ⟨w.heap.size, 3, none⟩) (Nat.le_refl _) (.slice aP1 P.length cP1)
                            have hz4 : w1.heap.size ≤ (wd4.setCell ⟨w.heap.size, 3, none⟩ (.slice aP1 P.length cP1)).heap.size := by simp [World.setCell]; exact hz3
                            have kz4 := (heap_set_other wd4 ⟨w.heap.size, 3, none⟩ (.slice aP1 P.length cP1) (i := w.heap.size + 1) (by show w.heap.size ≠ w.heap.size + 1; omega)).trans kz3
                            have pP1_s3 := pP1_4.set (p := ⟨w.heap.size, 3, none⟩) yM (.slice aP1 P.length cP1)
                            have pB1_s3 := pB1_4.set (p := ⟨w.heap.size, 3, none⟩) yM (.slice aP1 P.length cP1)
                            have pG1_s3 := pG1_4.set (p := ⟨w.heap.size, 3, none⟩) yM (.slice aP1 P.length cP1)
                            have pL1_s3 := pL1.set (p := ⟨w.heap.size, 3, none⟩) yM (.slice aP1 P.length cP1)
                            clear hm3 B3x hz3 kz3 pP1_4 pB1_4 pG1_4 pL1
                            go_simp
                            refine hK.out _ _ (fun h => absurd h (by decide)) ?_
                            clear hK K
                            try simp only [Act.put, List.setIfInBounds_toArray, List.set_cons_zero, List.set_cons_succ]
                            clear st fr
                            generalize wd4.setCell ⟨w.heap.size, 3, none⟩ (.slice aP1 P.length cP1) = wd5 at hm4 B4x hz4 kz4 pP1_s3 pB1_s3 pG1_s3 pL1_s3 ⊢
                            refine wpAnyL_one (i := 18) (o := _) rfl (by kernel_rfl) (by rfl) (fun K hK => ?_)
                            go_simp
                            refine hK.out _ _ (fun h => absurd h (by decide)) ?_
                            clear hK K
                            try simp only [Act.put, List.setIfInBounds_toArray, List.set_cons_zero, List.set_cons_succ]
                            obtain ⟨wd6, hwd6⟩ : ∃ x, x = wd5 := ⟨_, rfl⟩
                            subst hwd6
                            refine wpAnyL_one (i := 19) (o := _) rfl (by kernel_rfl) (by rfl) (fun K hK => ?_)
                            have st := cell_of hm4 4
                            have fr := free_of hm4 4
                            simp at st
                            have hm5 := set_in hm4 4 (.slice aB1 B.length cB1)
                            simp at hm5
                            have B5x := B4x.setCell (p := ⟨w.heap.size, 4, none⟩) (Nat.le_refl _) (.slice aB1 B.length cB1)
                            have hz5 : w1.heap.size ≤ (wd6.setCell ⟨w.heap.size, 4, none⟩ (.slice aB1 B.length cB1)).heap.size := by simp [World.setCell]; exact hz4
                            have kz5 := (heap_set_other wd6 ⟨w.heap.size, 4, none⟩ (.slice aB1 B.length cB1) (i := w.heap.size + 1) (by show w.heap.size ≠ w.heap.size + 1; omega)).trans kz4
                            have pP1_s4 := pP1_s3.set (p := ⟨w.heap.size, 4, none⟩) yM (.slice aB1 B.length cB1)
                            have pB1_s4 := pB1_s3.set (p := ⟨w.heap.size, 4, none⟩) yM (.slice aB1 B.length cB1)
                            have pG1_s4 := pG1_s3.set (p := ⟨w.heap.size, 4, none⟩) yM (.slice aB1 B.length cB1)
                            have pL1_s4 := pL1_s3.set (p := ⟨w.heap.size, 4, none⟩) yM (.slice aB1 B.length cB1)
                            clear hm4 B4x hz4 kz4 pP1_s3 pB1_s3 pG1_s3 pL1_s3
                            go_simp
                            refine hK.out _ _ (fun h => absurd h (by decide)) ?_
                            clear hK K
                            try simp only [Act.put, List.setIfInBounds_toArray, List.set_cons_zero, List.set_cons_succ]
                            clear st fr
                            generalize wd6.setCell ⟨w.heap.size, 4, none⟩ (.slice aB1 B.length cB1) = wd7 at hm5 B5x hz5 kz5 pP1_s4 pB1_s4 pG1_s4 pL1_s4 ⊢
                            refine wpAnyL_one (i := 20) (o := _) rfl (by kernel_rfl) (by rfl) (fun K hK => ?_)
                            go_simp
                            refine hK.out _ _ (fun h => absurd h (by decide)) ?_
                            clear hK K
                            try simp only [Act.put, List.setIfInBounds_toArray, List.set_cons_zero, List.set_cons_succ]
                            obtain ⟨wd8, hwd8⟩ : ∃ x, x = wd7 := ⟨_, rfl⟩
                            subst hwd8
                            refine wpAnyL_one (i := 21) (o := _) rfl (by kernel_rfl) (by rfl) (fun K hK => ?_)
                            have st := cell_of hm5 5
                            have fr := free_of hm5 5
                            simp at st
                            have hm6 := set_in hm5 5 (.slice aG1 G.length cG1)
                            simp at hm6
                            have B6x := B5x.setCell (p := ⟨w.heap.size, 5, none⟩) (Nat.le_refl _) (.slice aG1 G.length cG1)
                            have hz6 : w1.heap.size ≤ (wd8.setCell ⟨w.heap.size, 5, none⟩ (.slice aG1 G.length cG1)).heap.size := by simp [World.setCell]; exact hz5
                            have kz6 := (heap_set_other wd8 ⟨w.heap.size, 5, none⟩ (.slice aG1 G.length cG1) (i := w.heap.size + 1) (by show w.heap.size ≠ w.heap.size + 1; omega)).trans kz5
                            have pP1_s5 := pP1_s4.set (p := ⟨w.heap.size, 5, none⟩) yM (.slice aG1 G.length cG1)
                            have pB1_s5 := pB1_s4.set (p := ⟨w.heap.size, 5, none⟩) yM (.slice aG1 G.length cG1)
                            have pG1_s5 := pG1_s4.set (p := ⟨w.heap.size, 5, none⟩) yM (.slice aG1 G.length cG1)
                            have pL1_s5 := pL1_s4.set (p := ⟨w.heap.size, 5, none⟩) yM (.slice aG1 G.length cG1)
                            clear hm5 B5x hz5 kz5 pP1_s4 pB1_s4 pG1_s4 pL1_s4
                            go_simp
                            refine hK.out _ _ (fun h => absurd h (by decide)) ?_
                            clear hK K
                            try simp only [Act.put, List.setIfInBounds_toArray, List.set_cons_zero, List.set_cons_succ]
                            clear st fr
                            generalize wd8.setCell ⟨w.heap.size, 5, none⟩ (.slice aG1 G.length cG1) = wd9 at hm6 B6x hz6 kz6 pP1_s5 pB1_s5 pG1_s5 pL1_s5 ⊢
                            refine wpAnyL_one (i := 22) (o := _) rfl (by kernel_rfl) (by rfl) (fun K hK => ?_)
                            go_simp
                            refine hK.out _ _ (fun h => absurd h (by decide)) ?_
                            clear hK K
                            try simp only [Act.put, List.setIfInBounds_toArray, List.set_cons_zero, List.set_cons_succ]
                            obtain ⟨wd10, hwd10⟩ : ∃ x, x = wd9 := ⟨_, rfl⟩
                            subst hwd10
                            refine wpAnyL_one (i := 23) (o := _) rfl (by kernel_rfl) (by rfl) (fun K hK => ?_)
                            have st := cell_of hm6 6
                            have fr := free_of hm6 6
                            simp at st
                            have hm7 := set_in hm6 6 (.slice aL1 l.length cL1)
                            simp at hm7
                            have B7x := B6x.setCell (p := ⟨w.heap.size, 6, none⟩) (Nat.le_refl _) (.slice aL1 l.length cL1)
                            have hz7 : w1.heap.size ≤ (wd10.setCell ⟨w.heap.size, 6, none⟩ (.slice aL1 l.length cL1)).heap.size := by simp [World.setCell]; exact hz6
                            have kz7 := (heap_set_other wd10 ⟨w.heap.size, 6, none⟩ (.slice aL1 l.length cL1) (i := w.heap.size + 1) (by show w.heap.size ≠ w.heap.size + 1; omega)).trans kz6
                            have pP1_s6 := pP1_s5.set (p := ⟨w.heap.size, 6, none⟩) yM (.slice aL1 l.length cL1)
                            have pB1_s6 := pB1_s5.set (p := ⟨w.heap.size, 6, none⟩) yM (.slice aL1 l.length cL1)
                            have pG1_s6 := pG1_s5.set (p := ⟨w.heap.size, 6, none⟩) yM (.slice aL1 l.length cL1)
                            have pL1_s6 := pL1_s5.set (p := ⟨w.heap.size, 6, none⟩) yM (.slice aL1 l.length cL1)
                            clear hm6 B6x hz6 kz6 pP1_s5 pB1_s5 pG1_s5 pL1_s5
                            go_simp
                            refine hK.out _ _ (fun h => absurd h (by decide)) ?_
                            clear hK K
                            try simp only [Act.put, List.setIfInBounds_toArray, List.set_cons_zero, List.set_cons_succ]
                            clear st fr
                            generalize wd10.setCell ⟨w.heap.size, 6, none⟩ (.slice aL1 l.length cL1) = wd11 at hm7 B7x hz7 kz7 pP1_s6 pB1_s6 pG1_s6 pL1_s6 ⊢
                            refine wpAnyL_done (by kernel_rfl) ?_ _
                            have g0 := cell_of hm7 0
                            have g1 := cell_of hm7 1
                            have g2 := cell_of hm7 2
                            have g3 := cell_of hm7 3
                            have g4 := cell_of hm7 4
                            have g5 := cell_of hm7 5
                            have g6 := cell_of hm7 6
                            simp at g0 g1 g2 g3 g4 g5 g6
                            have st0 := cell_of kz7 0
                            have fr0 := free_of kz7 0
                            have st1 := cell_of kz7 1
                            have fr1 := free_of kz7 1
                            have st2 := cell_of kz7 2
                            have fr2 := free_of kz7 2
                            have st3 := cell_of kz7 3
                            have fr3 := free_of kz7 3
                            have st4 := cell_of kz7 4
                            have fr4 := free_of kz7 4
                            have st5 := cell_of kz7 5
                            have fr5 := free_of kz7 5
                            have st6 := cell_of kz7 6
                            have fr6 := free_of kz7 6
                            simp at st0 st1 st2 st3 st4 st5 st6
                            have BE := (((((((B7x).setCell (p := ⟨w.heap.size + 1, 0, none⟩) (by simp) (.int .i64 c)).setCell (p := ⟨w.heap.size + 1, 1, none⟩) (by simp) (.int .i64 R)).setCell (p := ⟨w.heap.size + 1, 2, none⟩) (by simp) (.int .i64 kc)).setCell (p := ⟨w.heap.size + 1, 3, none⟩) (by simp) (.slice aP1 P.length cP1)).setCell (p := ⟨w.heap.size + 1, 4, none⟩) (by simp) (.slice aB1 B.length cB1)).setCell (p := ⟨w.heap.size + 1, 5, none⟩) (by simp) (.slice aG1 G.length cG1)).setCell (p := ⟨w.heap.size + 1, 6, none⟩) (by simp) (.slice aL1 l.length cL1)
                            have KE := set_in (set_in (set_in (set_in (set_in (set_in (set_in (kz7) 0 (.int .i64 c)) 1 (.int .i64 R)) 2 (.int .i64 kc)) 3 (.slice aP1 P.length cP1)) 4 (.slice aB1 B.length cB1)) 5 (.slice aG1 G.length cG1)) 6 (.slice aL1 l.length cL1)
                            have r0 := cell_of KE 0
                            have r1 := cell_of KE 1
                            have r2 := cell_of KE 2
                            have r3 := cell_of KE 3
                            have r4 := cell_of KE 4
                            have r5 := cell_of KE 5
                            have r6 := cell_of KE 6
                            simp at r0 r1 r2 r3 r4 r5 r6
                            have x1 := (((((((pP1_s6).set (p := ⟨w.heap.size + 1, 0, none⟩) yZ (.int .i64 c)).set (p := ⟨w.heap.size + 1, 1, none⟩) yZ (.int .i64 R)).set (p := ⟨w.heap.size + 1, 2, none⟩) yZ (.int .i64 kc)).set (p := ⟨w.heap.size + 1, 3, none⟩) yZ (.slice aP1 P.length cP1)).set (p := ⟨w.heap.size + 1, 4, none⟩) yZ (.slice aB1 B.length cB1)).set (p := ⟨w.heap.size + 1, 5, none⟩) yZ (.slice aG1 G.length cG1)).set (p := ⟨w.heap.size + 1, 6, none⟩) yZ (.slice aL1 l.length cL1)
                            have x2 := (((((((pB1_s6).set (p := ⟨w.heap.size + 1, 0, none⟩) yZ (.int .i64 c)).set (p := ⟨w.heap.size + 1, 1, none⟩) yZ (.int .i64 R)).set (p := ⟨w.heap.size + 1, 2, none⟩) yZ (.int .i64 kc)).set (p := ⟨w.heap.size + 1, 3, none⟩) yZ (.slice aP1 P.length cP1)).set (p := ⟨w.heap.size + 1, 4, none⟩) yZ (.slice aB1 B.length cB1)).set (p := ⟨w.heap.size + 1, 5, none⟩) yZ (.slice aG1 G.length cG1)).set (p := ⟨w.heap.size + 1, 6, none⟩) yZ (.slice aL1 l.length cL1)
                            have x3 := (((((((pG1_s6).set (p := ⟨w.heap.size + 1, 0, none⟩) yZ (.int .i64 c)).set (p := ⟨w.heap.size + 1, 1, none⟩) yZ (.int .i64 R)).set (p := ⟨w.heap.size + 1, 2, none⟩) yZ (.int .i64 kc)).set (p := ⟨w.heap.size + 1, 3, none⟩) yZ (.slice aP1 P.length cP1)).set (p := ⟨w.heap.size + 1, 4, none⟩) yZ (.slice aB1 B.length cB1)).set (p := ⟨w.heap.size + 1, 5, none⟩) yZ (.slice aG1 G.length cG1)).set (p := ⟨w.heap.size + 1, 6, none⟩) yZ (.slice aL1 l.length cL1)
                            have x4 := (((((((pL1_s6).set (p := ⟨w.heap.size + 1, 0, none⟩) yZ (.int .i64 c)).set (p := ⟨w.heap.size + 1, 1, none⟩) yZ (.int .i64 R)).set (p := ⟨w.heap.size + 1, 2, none⟩) yZ (.int .i64 kc)).set (p := ⟨w.heap.size + 1, 3, none⟩) yZ (.slice aP1 P.length cP1)).set (p := ⟨w.heap.size + 1, 4, none⟩) yZ (.slice aB1 B.length cB1)).set (p := ⟨w.heap.size + 1, 5, none⟩) yZ (.slice aG1 G.length cG1)).set (p := ⟨w.heap.size + 1, 6, none⟩) yZ (.slice aL1 l.length cL1)
                            have hle := b1.size
                            have HEND := hide (show HIm (fun i => w.heap.size ≤ i) ((((((((wd11).setCell ⟨w.heap.size + 1, 0, none⟩ (.int .i64 c)).setCell ⟨w.heap.size + 1, 1, none⟩ (.int .i64 R)).setCell ⟨w.heap.size + 1, 2, none⟩ (.int .i64 kc)).setCell ⟨w.heap.size + 1, 3, none⟩ (.slice aP1 P.length cP1)).setCell ⟨w.heap.size + 1, 4, none⟩ (.slice aB1 B.length cB1)).setCell ⟨w.heap.size + 1, 5, none⟩ (.slice aG1 G.length cG1)).setCell ⟨w.heap.size + 1, 6, none⟩ (.slice aL1 l.length cL1)) aP1 aB1 aG1 aL1 cP1 cB1 cG1 cL1 ⟨c, R, kc, P, B, G, l⟩ from ⟨HInts.wide (ints_row x1.row) (fun i h _ => Nat.le_trans hle h), HInts.wide (ints_row x2.row) (fun i h _ => Nat.le_trans hle h), HInts.wide (ints_row x3.row) (fun i h _ => Nat.le_trans hle h), HRow.wide x4.row (fun i h _ => Nat.le_trans hle h), HWd.out⟩)
                            clear KE x1 x2 x3 x4 hle
                            go_wp2
                            exact bodyPost_ret (v := .agg #[.int .i64 c, .int .i64 R, .int .i64 kc, .slice aP1 P.length cP1, .slice aB1 B.length cB1, .slice aG1 G.length cG1, .slice aL1 l.length cL1]) (by simp [results, Tryd.results7, go_sem, r0, r1, r2, r3, r4, r5, r6]) rfl ⟨⟨_, _, _, _, _, _, _, _, rfl, HEND.out, BE⟩⟩
end Go.Proofs.YtfipfdpohkafaaaDoor
