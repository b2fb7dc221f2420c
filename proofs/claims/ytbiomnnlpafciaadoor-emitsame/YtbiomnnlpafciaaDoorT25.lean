import Derived.Test.YtbiomnnlpafciaaDoorT24
import Derived.WalkKit
import Derived.WalkSpells
import Derived.IntWalk
import Derived.Deep.Cut
import Derived.Deep.LoopGhost
import Derived.Laws.Cover1
import Derived.Lib.Hide
import Derived.Ground.NamesProg
import Derived.Laws.EntriesVeiled
import Derived.Laws.Externs
import Derived.Lib.MakeNoZero
import Derived.Shelf.Lay
import Derived.Maps.OwnSet
set_option linter.unusedVariables false
set_option linter.unusedSimpArgs false
set_option maxHeartbeats 64000000
set_option maxRecDepth 100000
namespace Go.Proofs.YtbiomnnlpafciaaDoor
open Go.RowKit Go.IntWalk
set_option linter.unusedVariables false
set_option linter.unusedSimpArgs false
theorem es_len {c : Int} {s : Lo.Sp} (h : Lo.Ok c s) : (Em.es s).length ≤ 1000 := by
  have h1 := et_len h.E 0
  have h2 := et_len h.E s.n
  unfold Em.es
  by_cases o1 : s.op = 1
  · rw [if_pos o1]
    simp
    omega
  rw [if_neg o1]
  have h3 : (Em.mid s).length ≤ 2 := by
    unfold Em.mid
    repeat' split
    all_goals simp
  have h4 : (if s.op = 3 ∨ s.op = 4 then Em.et s.F 2 0 ++ [(⟨9, 0, 1, 2, 0, 0⟩ : Cd.In)] else []).length ≤ 301 := by
    split
    · rename_i hf
      have := et_len (h.F hf) 0
      simp
      omega
    · simp
  have h5 : (if s.op = 3 then [(⟨4, 0, 1, 0, 0, s.tgt⟩ : Cd.In)] else []).length ≤ 1 := by split <;> simp
  simp only [List.length_append, List.length_cons]
  omega
/-- the code of a step of loops -/
theorem addStep22_any {w : World} {cb k : Nat} {v : Value} {C : List Cd.In} {R : Int} (h : CO w cb k v C R) (hlen : C.length ≤ 400000) {okE : Nat → Prop} {aF aE : Option Addr} {cF cE : Nat} {c : Int} (s : Lo.Sp) (hs : Lo.Ok c s) (hF : HPu okE w (.slice aF s.F.length cF) s.F) (hE : HPu okE w (.slice aE s.E.length cE) s.E) (hok : ∀ i, okE i → i ≠ cb ∧ i ≠ k) :
    Calls Tryd.prog 22 #[.pointer (some ⟨cb, 0, none⟩), .agg #[.int .i64 s.op, .int .i64 s.k, .int .i64 s.n, .int .i64 s.tgt, .slice aF s.F.length cF, .slice aE s.E.length cE]] w (CP w cb k (C ++ Em.es s) (Em.rg R (Em.es s))) := by
  obtain ⟨op, kk, n, t, F, E⟩ := s
  have hop := hs.op
  have hn := hs.n
  have hfE := hs.E
  have hfF := hs.F
  dsimp only at hop hn hfE hfF hF hE ⊢
  by_cases o1 : op = 1
  · subst o1
    exact addStep1_any h hlen kk n t hF hE hok hfE
  by_cases o2 : op = 2
  · subst o2
    have e : Em.es ⟨2, kk, n, t, F, E⟩ = loopC n E [⟨5, 0, 2, 0, n, t⟩] := by simp [Em.es, Em.mid, loopC]
    rw [e]
    exact addStep2_any h hlen kk n t hF hE hok hfE (by have := hn o1; omega)
  by_cases o3 : op = 3
  · subst o3
    have e : Em.es ⟨3, kk, n, t, F, E⟩ = ((Em.et F 2 0 ++ [(⟨9, 0, 1, 2, 0, 0⟩ : Cd.In)]) ++ (loopC n E [(⟨7, kk, 1, 1, 2, 0⟩ : Cd.In)] ++ [(⟨4, 0, 1, 0, 0, t⟩ : Cd.In)])) := by simp [Em.es, Em.mid, loopC]
    rw [e]
    exact addStep3_any h hlen kk n t hF hE hok hfE (hfF (.inl rfl)) (by have := hn o1; omega)
  have o4 : op = 4 := by omega
  subst o4
  have e : Em.es ⟨4, kk, n, t, F, E⟩ = ((Em.et F 2 0 ++ [(⟨9, 0, 1, 2, 0, 0⟩ : Cd.In)]) ++ loopC n E [(⟨7, kk, 1, 1, 2, 0⟩ : Cd.In), ⟨5, 0, 1, 0, n, t⟩]) := by simp [Em.es, Em.mid, loopC]
  rw [e]
  exact addStep4_any h hlen kk n t hF hE hok hfE (hfF (.inr rfl)) (by have := hn o1; omega)
end Go.Proofs.YtbiomnnlpafciaaDoor
namespace Go.Proofs.YtbiomnnlpafciaaDoor
open Go.RowKit Go.IntWalk
set_option linter.unusedVariables false
set_option linter.unusedSimpArgs false
theorem Tryd.infoLL : (Tryd.prog.info? 48).map (fun i => (i.zero, i.size, i.bytes)) = some (some (.slice none 0 0), 1, 24) := by kernel_rfl
/-- rows of long numbers in a row: the cells of variables -/
def kLL : Kind (List Int) where
  ty := 48
  k := 1
  bytes := 24
  zero := .slice none 0 0
  E := fun ok w cs l => ∃ u, cs = [u] ∧ HInts ok w u l
  pos := by decide
  zs := rfl
  info := Tryd.infoLL
  len := by rintro _ _ _ _ ⟨u, rfl, _⟩; rfl
  one := by
    rintro _ _ _ _ ⟨u, rfl, h⟩ v hv
    simp at hv
    subst hv
    obtain ⟨ao, cap, rfl, _⟩ := h.at
    rfl
  keep := by rintro _ _ _ _ _ ⟨u, rfl, h⟩ hs hk; exact ⟨u, rfl, h.keep hs hk⟩
  wide := by rintro _ _ _ _ _ ⟨u, rfl, h⟩ hk; exact ⟨u, rfl, h.wide hk⟩
theorem HRow.llAt {ok : Nat → Prop} {w : World} {v : Value} {l : List (List Int)} (h : HRow kLL ok w v l) :
    ∃ ao cap, v = .slice ao l.length cap ∧ l.length ≤ cap ∧ cap ≤ maxLen ∧ ∀ i (h : i < l.length), ∃ b o u, ao = some ⟨b, o, none⟩ ∧ b < w.heap.size ∧ w.cell? ⟨b, o + i, none⟩ = some u ∧ HInts ok w u l[i] := by
  obtain ⟨C, ⟨ao, cap, hv, h1, h2, h3⟩, hC⟩ := h
  refine ⟨ao, cap, hv, h1, h2, fun i hi => ?_⟩
  obtain ⟨b, o, ha, hob, hb, hc⟩ := h3 (by omega)
  obtain ⟨u, e, hu⟩ := hC i hi
  have := (hc i hi).2 0 (by decide)
  rw [e] at this
  exact ⟨b, o, u, ha, hb, by simpa [kLL] using this, hu⟩
end Go.Proofs.YtbiomnnlpafciaaDoor
namespace Go.Proofs.YtbiomnnlpafciaaDoor
open Go.RowKit Go.IntWalk
set_option linter.unusedVariables false
set_option linter.unusedSimpArgs false
set_option maxHeartbeats 16000000 in
theorem sameLongs_same {ok ok' : Nat → Prop} {w : World} {u v : Value} {l : List Int} (hu : HInts ok w u l) (hv : HInts ok' w v l) :
    Calls Tryd.prog 20 #[u, v] w fun e w' => e = .returned (.bool true) ∧ Below w.heap.size w w' := by
  obtain ⟨aU, cU, rfl, hu1, hu2, -⟩ := hu.at
  obtain ⟨aV, cV, rfl, hv1, hv2, -⟩ := hv.at
  unfold maxLen at hu2 hv2
  have HU := hide hu
  have HV := hide hv
  obtain ⟨n, hn⟩ : ∃ n, n = l.length := ⟨_, rfl⟩
  rw [← hn] at hu1 hv1 ⊢
  have HN := hide hn
  clear hu hv hn
  go_enter Tryd.func20, Tryd.ntmps20
  go_wp2_with fail
  go_loopg [5] n (fun k v wr => ∃ (i : Nat), i ≤ n ∧ k = n - i ∧ v = .int .i64 (i : Nat) ∧ Below w.heap.size w wr)
  case atStart => exact ⟨0, Nat.zero_le _, rfl, rfl, Below.refl _ _⟩
  case round =>
    obtain ⟨i, hi, rfl, rfl, hbr⟩ := hrel
    have zr := hbr.size
    by_cases hlt : i < n
    case neg =>
      have hin : i = n := by omega
      subst hin
      go_wp2
      go_ret
      exact ⟨rfl, hbr⟩
    case pos =>
      have hil : i < l.length := by have := HN.out; omega
      obtain ⟨ao, cp, e1, -, -, hat⟩ := (HU.out.under hbr).at
      injection e1 with q1 q2 q3
      obtain ⟨b1, o1, hb1, y1, x1⟩ := hat i hil
      rw [hb1] at q1
      subst q1
      obtain ⟨ao2, cp2, e2, -, -, hat2⟩ := (HV.out.under hbr).at
      injection e2 with z1 z2 z3
      obtain ⟨b2, o2, hb2, y2, x2⟩ := hat2 i hil
      rw [hb2] at z1
      subst z1
      generalize l[i] = y at x1 x2
      clear hat hat2 q2 q3 z2 z3 hb1 hb2 hil
      go_upto_region 6 with fail
      refine wp_region_late (fun w' => Below wr.heap.size wr w') (fun _ => false) (by kernel_rfl) ?_
      have hH0 : Below wr.heap.size wr wr.drew := (Below.refl _ _).drew
      generalize wr.drew = wd0 at hH0 ⊢
      refine' wpAnyL_take (i := 0) (oi := ⟨some 17, _, _, _, _, _⟩) (v := _) rfl (by kernel_rfl) (by kernel_rfl) (by kernel_rfl) (by kernel_rfl) (fun _ _ _ h => h) hH0 (by rfl) ?hyv ?onw
      case hyv =>
        intro wz hSw
        go_simp
        try rfl
      case onw =>
        try simp only [Act.put, List.setIfInBounds_toArray, List.set_cons_zero, List.set_cons_succ]
        refine' wpAnyL_take (i := 1) (oi := ⟨some 18, _, _, _, _, _⟩) (v := _) rfl (by kernel_rfl) (by kernel_rfl) (by kernel_rfl) (by kernel_rfl) (fun _ _ _ h => h) hH0 (by rfl) ?hyv ?onw
        case hyv =>
          intro wz hSw
          go_simp
          try rfl
        case onw =>
          try simp only [Act.put, List.setIfInBounds_toArray, List.set_cons_zero, List.set_cons_succ]
          refine' wpAnyL_take (i := 2) (oi := ⟨some 19, _, _, _, _, _⟩) (v := _) rfl (by kernel_rfl) (by kernel_rfl) (by kernel_rfl) (by kernel_rfl) (fun _ _ _ h => h) hH0 (by rfl) ?hyv ?onw
          case hyv =>
            intro wz hSw
            go_simp
            try rfl
          case onw =>
            try simp only [Act.put, List.setIfInBounds_toArray, List.set_cons_zero, List.set_cons_succ]
            refine' wpAnyL_take (i := 3) (oi := ⟨some 20, _, _, _, _, _⟩) (v := _) rfl (by kernel_rfl) (by kernel_rfl) (by kernel_rfl) (by kernel_rfl) (fun _ _ _ h => h) hH0 (by rfl) ?hyv ?onw
            case hyv =>
              intro wz hSw
              have zc0 := (hSw.cell (p := ⟨b1, o1 + i, none⟩) y1).trans x1
              have zc1 := (hSw.cell (p := ⟨b2, o2 + i, none⟩) y2).trans x2
              go_simp
              try rfl
            case onw =>
              try simp only [Act.put, List.setIfInBounds_toArray, List.set_cons_zero, List.set_cons_succ]
              refine' wpAnyL_take (i := 4) (oi := ⟨some 21, _, _, _, _, _⟩) (v := _) rfl (by kernel_rfl) (by kernel_rfl) (by kernel_rfl) (by kernel_rfl) (fun _ _ _ h => h) hH0 (by rfl) ?hyv ?onw
              case hyv =>
                intro wz hSw
                go_simp
                try rfl
              case onw =>
                try simp only [Act.put, List.setIfInBounds_toArray, List.set_cons_zero, List.set_cons_succ]
                refine' wpAnyL_take (i := 5) (oi := ⟨some 22, _, _, _, _, _⟩) (v := _) rfl (by kernel_rfl) (by kernel_rfl) (by kernel_rfl) (by kernel_rfl) (fun _ _ _ h => h) hH0 (by rfl) ?hyv ?onw
                case hyv =>
                  intro wz hSw
                  go_simp
                  try rfl
                case onw =>
                  try simp only [Act.put, List.setIfInBounds_toArray, List.set_cons_zero, List.set_cons_succ]
                  refine' wpAnyL_take (i := 6) (oi := ⟨some 23, _, _, _, _, _⟩) (v := _) rfl (by kernel_rfl) (by kernel_rfl) (by kernel_rfl) (by kernel_rfl) (fun _ _ _ h => h) hH0 (by rfl) ?hyv ?onw
                  case hyv =>
                    intro wz hSw
                    go_simp
                    try rfl
                  case onw =>
                    try simp only [Act.put, List.setIfInBounds_toArray, List.set_cons_zero, List.set_cons_succ]
                    refine' wpAnyL_take (i := 7) (oi := ⟨some 24, _, _, _, _, _⟩) (v := _) rfl (by kernel_rfl) (by kernel_rfl) (by kernel_rfl) (by kernel_rfl) (fun _ _ _ h => h) hH0 (by rfl) ?hyv ?onw
                    case hyv =>
                      intro wz hSw
                      have zc0 := (hSw.cell (p := ⟨b1, o1 + i, none⟩) y1).trans x1
                      have zc1 := (hSw.cell (p := ⟨b2, o2 + i, none⟩) y2).trans x2
                      go_simp
                      try rfl
                    case onw =>
                      try simp only [Act.put, List.setIfInBounds_toArray, List.set_cons_zero, List.set_cons_succ]
                      refine' wpAnyL_take (i := 8) (oi := ⟨some 25, _, _, _, _, _⟩) (v := _) rfl (by kernel_rfl) (by kernel_rfl) (by kernel_rfl) (by kernel_rfl) (fun _ _ _ h => h) hH0 (by rfl) ?hyv ?onw
                      case hyv =>
                        intro wz hSw
                        go_simp
                        try rfl
                      case onw =>
                        try simp only [Act.put, List.setIfInBounds_toArray, List.set_cons_zero, List.set_cons_succ]
                        refine wpAnyL_done (by kernel_rfl) ?_ _
                        clear x1 x2
                        have BE := hbr.trans (hH0.mono hbr.size)
                        go_wp2_with fail
                        go_roundg (n - (i + 1))
                        case measure => omega
                        case rel => exact ⟨i + 1, by omega, rfl, by go_num, BE⟩
end Go.Proofs.YtbiomnnlpafciaaDoor
namespace Go.Proofs.YtbiomnnlpafciaaDoor
open Go.RowKit Go.IntWalk
set_option linter.unusedVariables false
set_option linter.unusedSimpArgs false
namespace Lo
/-- what lies last behind i steps, and the steps that come ahead of its own -/
def Part (M : List Int) (k : Int) (E : List Pu) (i : Nat) (v : Int) (j : Nat) : Prop := j < i ∧ stk M k E i = stk M k E j ++ [v]
theorem stk_step {M : List Int} {k : Int} {E : List Pu} {i : Nat} (h : i < E.length) {S T : List Int} (hs : stk M k E i = S ++ T) (hT : (T.length : Int) = tk (E[i]).op) : stk M k E (i + 1) = S ++ [stepV M E[i] T k] := by
  rw [stk_succ M k E h]
  unfold stp rest
  have e : (stk M k E i).length - (tk (E[i]).op).toNat = S.length := by rw [hs, List.length_append]; omega
  rw [e, hs, List.take_left, List.drop_left]
theorem part_0 {M : List Int} {k : Int} {E : List Pu} {i : Nat} (h : i < E.length) (ht : tk (E[i]).op = 0) : Part M k E (i + 1) (stepV M E[i] [] k) i :=
  ⟨Nat.lt_succ_self i, stk_step h (by rw [List.append_nil]) (by rw [ht]; rfl)⟩
theorem part_1 {M : List Int} {k : Int} {E : List Pu} {i j : Nat} {a : Int} (h : i < E.length) (ht : tk (E[i]).op = 1) (ha : Part M k E i a j) : Part M k E (i + 1) (stepV M E[i] [a] k) j :=
  ⟨by have := ha.1; omega, stk_step h ha.2 (by rw [ht]; rfl)⟩
theorem part_2 {M : List Int} {k : Int} {E : List Pu} {i m j : Nat} {a b : Int} (h : i < E.length) (ht : tk (E[i]).op = 2) (hb : Part M k E i b m) (ha : Part M k E m a j) : Part M k E (i + 1) (stepV M E[i] [a, b] k) j :=
  ⟨by have := ha.1; have := hb.1; omega, stk_step h (by rw [hb.2, ha.2, List.append_assoc]; rfl) (by rw [ht]; rfl)⟩
theorem part_3 {M : List Int} {k : Int} {E : List Pu} {i m t j : Nat} {c a b : Int} (h : i < E.length) (ht : tk (E[i]).op = 3) (hb : Part M k E i b m) (ha : Part M k E m a t) (hc : Part M k E t c j) : Part M k E (i + 1) (stepV M E[i] [c, a, b] k) j :=
  ⟨by have := ha.1; have := hb.1; have := hc.1; omega, stk_step h (by rw [hb.2, ha.2, hc.2, List.append_assoc, List.append_assoc]; rfl) (by rw [ht]; rfl)⟩
theorem Part.wide {M : List Int} {k : Int} {E : List Pu} {i j : Nat} {v : Int} (h : Part M k E i v j) (hM : Wd M) (hE : PW E) (hi : i ≤ E.length) : I64 v :=
  stk_wide hM hE k i hi v (by rw [h.2]; simp)
theorem Part.tree {M : List Int} {k : Int} {E : List Pu} {j : Nat} {v : Int} {c n : Int} (h : Part M k E E.length v j) (hf : Fit c n E) : v = tree M k E := by
  have h1 := hf.fin M k
  unfold Lo.tree
  rw [h.2] at h1 ⊢
  cases hs : stk M k E j with
  | nil => rfl
  | cons x r => rw [hs] at h1; simp at h1
end Lo
set_option maxHeartbeats 8000000 in
theorem cellAt57_any {w : World} {okC : Nat → Prop} {vC : Value} {M : List Int} (hC : HInts okC w vC M) (i x : Int) : Calls Tryd.prog 79 #[vC, .int .i64 i, .int .i64 x] w fun e w' => e = .returned (.int .i64 (if i < 0 ∨ (M.length : Int) ≤ i then x else Lo.rd M i)) ∧ Below w.heap.size w w' := by
  obtain ⟨aC, cC, rfl, h1, h2, hat⟩ := hC.at
  unfold maxLen at h2
  by_cases hi0 : i < 0
  · rw [if_pos (.inl hi0)]
    clear hat hC
    generalize M.length = nC at *
    have e1 : decide (0 ≤ i) = false := by simp; omega
    go_enter Tryd.func79, Tryd.ntmps79
    go_wp2
    go_ret
    exact ⟨rfl, Below.refl _ _⟩
  · by_cases hi1 : (M.length : Int) ≤ i
    · rw [if_pos (.inr hi1)]
      clear hat hC
      generalize M.length = nC at *
      have e1 : decide (0 ≤ i) = true := by simp; omega
      have e2 : decide (i < (nC : Int)) = false := by simp; omega
      go_enter Tryd.func79, Tryd.ntmps79
      go_wp2
      go_ret
      exact ⟨rfl, Below.refl _ _⟩
    · rw [if_neg (by omega)]
      obtain ⟨n, rfl⟩ : ∃ n : Nat, i = (n : Int) := ⟨i.toNat, by omega⟩
      have hn : n < M.length := by omega
      obtain ⟨b, o, rfl, hb, hc⟩ := hat n hn
      have er : Lo.rd M (n : Int) = M[n] := by unfold Lo.rd; simp [List.getD_eq_getElem?_getD, hn]
      rw [er]
      clear er
      generalize M[n] = y at hc ⊢
      clear hat hC
      generalize M.length = nC at *
      have e1 : decide ((0 : Int) ≤ (n : Int)) = true := by simp
      have e2 : decide ((n : Int) < (nC : Int)) = true := by simp; omega
      go_enter Tryd.func79, Tryd.ntmps79
      go_wp2
      go_ret
      exact ⟨rfl, Below.refl _ _⟩
end Go.Proofs.YtbiomnnlpafciaaDoor
