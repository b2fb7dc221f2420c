/-
  DERIVED. THE WALK of the law SizeMeans.
-/
import Derived.Test.YtjpjedigajiomaaSzX
namespace Go.Proofs.Ytjpjedigajiomaa
open Go.Shelf Go.RowKit Go.Lib Go.IntWalk Go.Maps
set_option linter.unusedVariables false
set_option linter.unusedSimpArgs false
set_option maxRecDepth 100000

theorem X3_eq (i : Nat) (l : List Tm) : X3 i l = valOf (V3 ((i : Int) % 4) ((i : Int) / 4 % 4) ((i : Int) / 16)) (l.map te) := by
  unfold X3
  rw [show ((i % 4 : Nat) : Int) = (i : Int) % 4 by omega, show ((i / 4 % 4 : Nat) : Int) = (i : Int) / 4 % 4 by omega, show ((i / 16 : Nat) : Int) = (i : Int) / 16 by omega]

theorem oper_cat {w w' : World} {o : Oper} {a : Act} {K : Act → World → Prop} {Q : Exit → Act → World → Prop} (s x : Operand) (ho : o.op = .call { callee := .builtin .append, args := #[s, x], argTypes := #[23, 23] }) (v u v' : Value) (hs : a.eval s = v) (hx : a.eval x = u)
    (hr : (Builtin.append_ #[23, 23] o.type #[v, u]).run Try.prog w = .ok v' w') (h : K (a.put o.dst v') w') : Oper.wp Try.prog o a w K Q := by
  unfold Oper.wp execOp
  simp only [ho, resolve, invoke, builtin, Sem.run_bind, Sem.run_pure, Result.andThen_ok, List.map_toArray, List.map_cons, List.map_nil, hs, hx, hr]
  exact h

theorem blk_head {w : World} {g c cap : Nat} {l : List Tm} {sp : List Value} (h : Blk w g l sp) (hc : c ≤ l.length) (hcap : l.length ≤ cap) (hm : cap ≤ maxLen) : HTerms (fun i => g = i) w (.slice (some ⟨g, 0, none⟩) c cap) (l.take c) := by
  have hl : (l.take c).length = c := by rw [List.length_take]; omega
  refine ⟨fun i => [.int .i64 (l[i]!).1, .string (l[i]!).2], ⟨_, _, by rw [hl], by omega, hm, fun _ => ⟨g, 0, rfl, rfl, h.lt, fun i hi => ⟨rfl, fun j hj => ?_⟩⟩⟩, fun i hi => ?_⟩
  · rw [hl] at hi
    have hil : i < l.length := by omega
    obtain ⟨c0, c1⟩ := h.cell hil
    rcases (by omega : j = 0 ∨ j = 1) with rfl | rfl
    · simpa [hil] using c0
    · simpa [hil] using c1
  · have hil : i < l.length := by rw [hl] at hi; omega
    simp [hil]
theorem blk_tail {w : World} {g c cap : Nat} {l : List Tm} {sp : List Value} (h : Blk w g l sp) (hc : c ≤ l.length) (hcap : l.length ≤ cap) (hm : cap ≤ maxLen) : HTerms (fun i => g = i) w (.slice (some ⟨g, c * 2, none⟩) (l.length - c) (cap - c)) (l.drop c) := by
  have hl : (l.drop c).length = l.length - c := List.length_drop
  refine ⟨fun i => [.int .i64 (l[c + i]!).1, .string (l[c + i]!).2], ⟨_, _, by rw [hl], by omega, by omega, fun _ => ⟨g, c * 2, rfl, rfl, h.lt, fun i hi => ⟨rfl, fun j hj => ?_⟩⟩⟩, fun i hi => ?_⟩
  · rw [hl] at hi
    have hil : c + i < l.length := by omega
    obtain ⟨c0, c1⟩ := h.cell hil
    rcases (by omega : j = 0 ∨ j = 1) with rfl | rfl
    · rw [show c * 2 + i * 2 + 0 = (c + i) * 2 by omega, c0]
      simp [hil]
    · rw [show c * 2 + i * 2 + 1 = (c + i) * 2 + 1 by omega, c1]
      simp [hil]
  · have hil : c + i < l.length := by rw [hl] at hi; omega
    simp [hil]

set_option maxHeartbeats 16000000 in
theorem means_walk {ok ok' : Nat → Prop} {w : World} {va vb : Value} {A Bs : List Int} (cut : Int) (hA : HInts ok w va A) (hBs : HInts ok' w vb Bs) :
    Calls Try.prog 4 #[va, vb, .int .i64 cut] w fun e w' => e = .returned (.bool true) ∧ Below w.heap.size w w' := by
  have hbeg := begun_any w
  obtain ⟨aa, ca, rfl, ha1, ha2, _⟩ := hA.at
  obtain ⟨ab, cb, rfl, hb1, hb2, _⟩ := hBs.at
  unfold maxLen at ha2 hb2
  have HHA := hide hA
  have HHB := hide hBs
  clear hA hBs
  go_enter Try.func4, Try.ntmps4
  go_wp2_with fail
  refine hbeg.mono ?_
  rintro e w1 ⟨rfl, b1⟩
  clear hbeg
  by_cases hla : 100 < A.length
  · have hlaI : (100 : Int) < (A.length : Int) := by omega
    go_wp2
    go_ret
    exact ⟨rfl, b1⟩
  by_cases hlb : 100 < Bs.length
  · have hlaI : ¬ (100 : Int) < (A.length : Int) := by omega
    have hlbI : (100 : Int) < (Bs.length : Int) := by omega
    go_wp2
    go_ret
    exact ⟨rfl, b1⟩
  have hlaI : ¬ (100 : Int) < (A.length : Int) := by omega
  have hlbI : ¬ (100 : Int) < (Bs.length : Int) := by omega
  obtain ⟨w2, hw2⟩ : ∃ w2, w2 = w1.alloc (.cells #[.string ⟨#[107]⟩, .string ⟨#[109]⟩, .string ⟨#[110]⟩] 9 (0, 0)) := ⟨_, rfl⟩
  have b2 : Below w1.heap.size w1 w2 := by rw [hw2]; exact (Below.refl _ _).alloc (Nat.le_refl _) _
  have K2 : w2.heap[w1.heap.size]? = some (.cells (names3.map Value.string).toArray 9 (0, 0)) := by rw [hw2, heap_new]; rfl
  have B2 := b1.trans (b2.mono b1.size)
  have HK2 := hide K2
  have y21 := lt_of K2
  clear K2 b1 b2
  go_upto_block 0 with fail
  rw [← hw2]
  clear hw2
  go_cut [8, 10] (fun v8 _ wd => ∃ s, OwnL kTerm w2.heap.size wd v8 s ∧ s.length ≤ 100 ∧ Hid (∀ t ∈ s, STm t) ∧ Below w2.heap.size w2 wd)
  case first =>
    go_wp2_with fail
    go_loopg [8, 10] A.length (fun gh s8 s10 wr => ∃ (i : Nat) (acc : List Tm), s10 = .int .i64 (i : Int) ∧ i ≤ A.length ∧ A.length ≤ gh + i ∧ acc.length = i ∧ OwnL kTerm w2.heap.size wr s8 acc ∧ Hid (∀ t ∈ acc, STm t) ∧ Below w2.heap.size w2 wr)
    case atStart => exact ⟨0, [], rfl, by omega, by omega, rfl, OwnL.nil, hide (fun t h => by simp at h), Below.refl _ _⟩
    case round =>
      obtain ⟨i, acc, rfl, hiA, hgi, hal, hown, HST, bR⟩ := hrel
      have BR := B2.trans (bR.mono B2.size)
      by_cases hlt : i < A.length
      case neg =>
        have hge : ¬ (i : Int) < (A.length : Int) := by omega
        go_wp2_with fail
        go_meet
        case rel => exact ⟨acc, hown, by omega, HST, bR⟩
      case pos =>
        have hltI : (i : Int) < (A.length : Int) := by omega
        obtain ⟨aa', ca', ev, _, _, hat⟩ := (HHA.out.keep (w' := wr) BR.size (fun i _ hl => BR.block i hl)).at
        injection ev with ev1 ev2 ev3
        subst ev1
        obtain ⟨b, o, rfl, hb, c0⟩ := hat i hlt
        clear hat ev2 ev3
        generalize A[i] = z at c0
        go_wp2_with fail
        refine (sizeTerm_any _ _).mono ?_
        rintro e w4 ⟨t, rfl, hst, b4⟩
        have own4 := hown.below b4
        have bR4 := bR.trans (b4.mono bR.size)
        have y4 := bR4.size
        have hNb := fun k hk => (own4.lt k hk).2
        have q1 : kTerm.E (fun i => w4.heap.size ≤ i) w4 [.int .i64 t.1, .string t.2] t := rfl
        have q2 : (acc.length + 1) * kTerm.bytes ≤ 140737488355328 := by show (acc.length + 1) * 24 ≤ _; omega
        have q3 : acc.length + 1 ≤ maxLen := by unfold maxLen; omega
        have HS2 : Hid (∀ x ∈ acc ++ [t], STm x) := hide (fun x hx => by
          rcases List.mem_append.1 hx with m | m
          · exact HST.out x m
          · simp at m; subst m; exact hst)
        have hl2 : (acc ++ [t]).length = i + 1 := by rw [List.length_append, List.length_singleton]; omega
        have HL2 := hide hl2
        have HAL := hide hal
        clear hl2 hal hst
        go_wp2_with (at_builtin; refine wpList_more kTerm rfl _ _ 23 39 rfl Try.underlying23 w2.heap.size w4.heap.size _ acc (by rfl) own4 [.int .i64 t.1, .string t.2] t q1 (by rfl) hNb y4 y4 q2 q3 ?_; intro v8 w8 own8 b8 _ _)
        go_wp2_with fail
        go_roundg (gk - 1)
        case measure => omega
        case rel => exact ⟨i + 1, acc ++ [t], by go_num, by omega, by omega, HL2.out, own8, HS2, bR4.trans b8⟩
  case rest =>
    obtain ⟨s, own3, hs100, HSS, b3⟩ := hcut
    obtain ⟨w3, hw3⟩ : ∃ w3, w3 = wc := ⟨_, rfl⟩
    rw [← hw3] at own3 b3 ⊢
    clear hw3
    have B3 := B2.trans (b3.mono B2.size)
    have HK3 := hide ((b3.block _ y21).trans HK2.out)
    have y31 := Nat.lt_of_lt_of_le y21 b3.size
    obtain ⟨as', cs, rfl, hs1, hs2⟩ := own3.form
    have HO3 := hide own3
    clear own3 HK2
    go_upto_block 2 with fail
    go_cut [9, 11] (fun v9 _ wd => ∃ t, OwnL kTerm w3.heap.size wd v9 t ∧ t.length ≤ 100 ∧ Hid (∀ x ∈ t, STm x) ∧ Below w3.heap.size w3 wd)
    case first =>
      go_wp2_with fail
      go_loopg [9, 11] Bs.length (fun gh s9 s11 wr => ∃ (i : Nat) (acc : List Tm), s11 = .int .i64 (i : Int) ∧ i ≤ Bs.length ∧ Bs.length ≤ gh + i ∧ acc.length = i ∧ OwnL kTerm w3.heap.size wr s9 acc ∧ Hid (∀ t ∈ acc, STm t) ∧ Below w3.heap.size w3 wr)
      case atStart => exact ⟨0, [], rfl, by omega, by omega, rfl, OwnL.nil, hide (fun t h => by simp at h), Below.refl _ _⟩
      case round =>
        obtain ⟨i, acc, rfl, hiB, hgi, hal, hown, HST, bR⟩ := hrel
        have BR := B3.trans (bR.mono B3.size)
        by_cases hlt : i < Bs.length
        case neg =>
          have hge : ¬ (i : Int) < (Bs.length : Int) := by omega
          go_wp2_with fail
          go_meet
          case rel => exact ⟨acc, hown, by omega, HST, bR⟩
        case pos =>
          have hltI : (i : Int) < (Bs.length : Int) := by omega
          obtain ⟨ab', cb', ev, _, _, hat⟩ := (HHB.out.keep (w' := wr) BR.size (fun i _ hl => BR.block i hl)).at
          injection ev with ev1 ev2 ev3
          subst ev1
          obtain ⟨b, o, rfl, hb, c0⟩ := hat i hlt
          clear hat ev2 ev3
          generalize Bs[i] = z at c0
          go_wp2_with fail
          refine (sizeTerm_any _ _).mono ?_
          rintro e w4 ⟨t, rfl, hst, b4⟩
          have own4 := hown.below b4
          have bR4 := bR.trans (b4.mono bR.size)
          have y4 := bR4.size
          have hNb := fun k hk => (own4.lt k hk).2
          have q1 : kTerm.E (fun i => w4.heap.size ≤ i) w4 [.int .i64 t.1, .string t.2] t := rfl
          have q2 : (acc.length + 1) * kTerm.bytes ≤ 140737488355328 := by show (acc.length + 1) * 24 ≤ _; omega
          have q3 : acc.length + 1 ≤ maxLen := by unfold maxLen; omega
          have HS2 : Hid (∀ x ∈ acc ++ [t], STm x) := hide (fun x hx => by
            rcases List.mem_append.1 hx with m | m
            · exact HST.out x m
            · simp at m; subst m; exact hst)
          have hl2 : (acc ++ [t]).length = i + 1 := by rw [List.length_append, List.length_singleton]; omega
          have HL2 := hide hl2
          have HAL := hide hal
          clear hl2 hal hst
          go_wp2_with (at_builtin; refine wpList_more kTerm rfl _ _ 23 39 rfl Try.underlying23 w3.heap.size w4.heap.size _ acc (by rfl) own4 [.int .i64 t.1, .string t.2] t q1 (by rfl) hNb y4 y4 q2 q3 ?_; intro v8 w8 own8 b8 _ _)
          go_wp2_with fail
          go_roundg (gk - 1)
          case measure => omega
          case rel => exact ⟨i + 1, acc ++ [t], by go_num, by omega, by omega, HL2.out, own8, HS2, bR4.trans b8⟩
    case rest =>
      obtain ⟨t, own4, ht100, HTS, b4⟩ := hcut
      obtain ⟨w4, hw4⟩ : ∃ w4, w4 = wc := ⟨_, rfl⟩
      rw [← hw4] at own4 b4 ⊢
      clear hw4
      obtain ⟨at', ct, rfl, ht1, ht2⟩ := own4.form
      have B4 := B3.trans (b4.mono B3.size)
      have HO4 := hide own4
      have HO34 := hide (HO3.out.below b4)
      have HK4 := hide ((b4.block _ y31).trans HK3.out)
      have y41 := Nat.lt_of_lt_of_le y31 b4.size
      clear own4 HK3
      unfold maxLen at hs2 ht2
      have hm0 : 0 ≤ IntKind.u64.wrap cut ∧ IntKind.u64.wrap cut ≤ 18446744073709551615 := by
        simp [IntKind.wrap, IntKind.bits, IntKind.signed]; omega
      go_upto_region 16 with fail
      obtain ⟨c, hcw, hcs⟩ : ∃ c : Nat, wrap64 (IntKind.u64.wrap cut % ((s.length : Int) + 1)) = (c : Int) ∧ c ≤ s.length := by
        have h1 : 0 ≤ IntKind.u64.wrap cut % ((s.length : Int) + 1) := Int.emod_nonneg _ (by omega)
        have h2 : IntKind.u64.wrap cut % ((s.length : Int) + 1) < (s.length : Int) + 1 := Int.emod_lt_of_pos _ (by omega)
        refine ⟨(IntKind.u64.wrap cut % ((s.length : Int) + 1)).toNat, ?_, by omega⟩
        rw [show wrap64 (IntKind.u64.wrap cut % ((s.length : Int) + 1)) = IntKind.u64.wrap cut % ((s.length : Int) + 1) from by
          generalize IntKind.u64.wrap cut % ((s.length : Int) + 1) = z at h1 h2
          unfold wrap64
          omega]
        omega
      rw [hcw]
      clear hcw hm0
      go_cut [13] (fun v13 wd => ∃ q, OwnL kTerm w4.heap.size wd v13 q ∧ Hid (s.Perm q) ∧ Below w4.heap.size w4 wd)
      case first =>
        rcases own_blk HO34.out with ⟨ev, he⟩ | ⟨g, c', sp, ev, hBg, hbg, hcg, hmg, hsg⟩
        · injection ev with ev1 ev2 ev3
          subst ev1
          subst he
          have hc0 : c = 0 := by simpa using hcs
          subst hc0
          subst ev3
          have hni : HTerms (fun _ => True) w4.drew (.slice none 0 0) [] := ⟨fun _ => [], ⟨_, _, rfl, Nat.le_refl _, Nat.zero_le _, fun h => absurd h (Nat.lt_irrefl _)⟩, fun i h => absurd h (Nat.not_lt_zero _)⟩
          obtain ⟨v1, x1, r1, o1, bb1, g1⟩ := run_cat (B := w4.heap.size) (w := w4.drew) (ty := 23) (v := .slice none 0 0) (l := []) OwnL.nil hni (Nat.le_refl _) (by simp)
          rw [List.nil_append] at o1
          have bx1 : Below w4.heap.size w4 x1 := ⟨bb1.os, bb1.tape, bb1.output, bb1.size, bb1.block⟩
          obtain ⟨v2, x2, r2, o2, bb2, g2⟩ := run_cat (B := w4.heap.size) (w := x1) (ty := 23) o1 (hni.keep (w' := x1) bx1.size (fun i _ hl => bx1.block i hl)) bx1.size (by simp)
          have HO2 := hide o2
          have bx2 := bx1.trans bb2
          clear o1 o2 hni g1 g2 bb1 bb2
          refine wp_region_late (fun _ => True) (fun _ => false) (by kernel_rfl) ?_
          refine' wpAnyL_take (i := 0) (oi := { dst := some 71, op := Op.move (Operand.tmp 8), type := 23, pos := "law04.go:80", after := #[], guard := none }) (v := _) rfl (by kernel_rfl) (by kernel_rfl) (by kernel_rfl) (by kernel_rfl) (fun _ _ _ h => h) trivial (by rfl) ?hyv ?onw
          case hyv =>
            intro wz _
            go_simp
            try rfl
          case onw =>
            try simp only [Act.put, List.setIfInBounds_toArray, List.set_cons_zero, List.set_cons_succ]
            refine' wpAnyL_take (i := 1) (oi := { dst := some 72, op := Op.move (Operand.tmp 12), type := 3, pos := "law04.go:80", after := #[], guard := none }) (v := _) rfl (by kernel_rfl) (by kernel_rfl) (by kernel_rfl) (by kernel_rfl) (fun _ _ _ h => h) trivial (by rfl) ?hyv ?onw
            case hyv =>
              intro wz _
              go_simp
              try rfl
            case onw =>
              try simp only [Act.put, List.setIfInBounds_toArray, List.set_cons_zero, List.set_cons_succ]
              refine' wpAnyL_take (i := 2) (oi := { dst := some 73, op := Op.slice 23 (Operand.tmp 71) (some (Operand.tmp 72)) none none, type := 23, pos := "law04.go:80", after := #[{ on := 0, ground := Ground.data }, { on := 1, ground := Ground.data }], guard := none }) (v := _) rfl (by kernel_rfl) (by kernel_rfl) (by kernel_rfl) (by kernel_rfl) (fun _ _ _ h => h) trivial (by rfl) ?hyv ?onw
              case hyv =>
                intro wz _
                go_simp
                try rfl
              case onw =>
                try simp only [Act.put, List.setIfInBounds_toArray, List.set_cons_zero, List.set_cons_succ]
                refine' wpAnyL_take (i := 4) (oi := { dst := some 75, op := Op.move (Operand.tmp 8), type := 23, pos := "law04.go:80", after := #[], guard := none }) (v := _) rfl (by kernel_rfl) (by kernel_rfl) (by kernel_rfl) (by kernel_rfl) (fun _ _ _ h => h) trivial (by rfl) ?hyv ?onw
                case hyv =>
                  intro wz _
                  go_simp
                  try rfl
                case onw =>
                  try simp only [Act.put, List.setIfInBounds_toArray, List.set_cons_zero, List.set_cons_succ]
                  refine' wpAnyL_take (i := 5) (oi := { dst := some 76, op := Op.move (Operand.tmp 12), type := 3, pos := "law04.go:80", after := #[], guard := none }) (v := _) rfl (by kernel_rfl) (by kernel_rfl) (by kernel_rfl) (by kernel_rfl) (fun _ _ _ h => h) trivial (by rfl) ?hyv ?onw
                  case hyv =>
                    intro wz _
                    go_simp
                    try rfl
                  case onw =>
                    try simp only [Act.put, List.setIfInBounds_toArray, List.set_cons_zero, List.set_cons_succ]
                    refine' wpAnyL_take (i := 6) (oi := { dst := some 77, op := Op.slice 23 (Operand.tmp 75) none (some (Operand.tmp 76)) none, type := 23, pos := "law04.go:80", after := #[{ on := 4, ground := Ground.data }, { on := 5, ground := Ground.data }], guard := none }) (v := _) rfl (by kernel_rfl) (by kernel_rfl) (by kernel_rfl) (by kernel_rfl) (fun _ _ _ h => h) trivial (by rfl) ?hyv ?onw
                    case hyv =>
                      intro wz _
                      go_simp
                      try rfl
                    case onw =>
                      try simp only [Act.put, List.setIfInBounds_toArray, List.set_cons_zero, List.set_cons_succ]
                      refine wpAnyL_one (i := 3) (o := { dst := some 74, op := Op.call { callee := Callee.builtin Builtin.append, args := #[Operand.const (Value.slice none 0 0), Operand.tmp 73], argTypes := #[23, 23] }, type := 23, pos := "law04.go:80", after := #[{ on := 2, ground := Ground.data }], guard := none }) rfl (by kernel_rfl) (by rfl) (fun K hK => ?_)
                      refine oper_cat _ _ rfl _ _ _ (by rfl) (by rfl) r1 ?_
                      refine hK _ _ (fun _ => trivial) ?_
                      clear hK K
                      try simp only [Act.put, List.setIfInBounds_toArray, List.set_cons_zero, List.set_cons_succ]
                      refine wpAnyL_one (i := 7) (o := { dst := some 78, op := Op.call { callee := Callee.builtin Builtin.append, args := #[Operand.tmp 74, Operand.tmp 77], argTypes := #[23, 23] }, type := 23, pos := "law04.go:80", after := #[{ on := 3, ground := Ground.data }, { on := 6, ground := Ground.data }, { on := 3, ground := Ground.chain }], guard := none }) rfl (by kernel_rfl) (by rfl) (fun K hK => ?_)
                      refine oper_cat _ _ rfl _ _ _ (by rfl) (by rfl) r2 ?_
                      refine hK _ _ (fun _ => trivial) ?_
                      clear hK K
                      try simp only [Act.put, List.setIfInBounds_toArray, List.set_cons_zero, List.set_cons_succ]
                      refine' wpAnyL_take (i := 8) (oi := { dst := some 13, op := Op.assign (Operand.tmp 78), type := 23, pos := "law04.go:80", after := #[{ on := 7, ground := Ground.data }, { on := 7, ground := Ground.chain }, { on := 0, ground := Ground.phase }, { on := 1, ground := Ground.phase }, { on := 2, ground := Ground.phase }, { on := 3, ground := Ground.phase }, { on := 4, ground := Ground.phase }, { on := 5, ground := Ground.phase }, { on := 6, ground := Ground.phase }, { on := 7, ground := Ground.phase }], guard := none }) (v := _) rfl (by kernel_rfl) (by kernel_rfl) (by kernel_rfl) (by kernel_rfl) (fun _ _ _ h => h) trivial (by rfl) ?hyv ?onw
                      case hyv =>
                        intro wz _
                        go_simp
                        try rfl
                      case onw =>
                        try simp only [Act.put, List.setIfInBounds_toArray, List.set_cons_zero, List.set_cons_succ]
                        refine wpAnyL_done (by kernel_rfl) ?_ _
                        go_wp2_with fail
                        go_meet
                        case rel => exact ⟨_, HO2.out, List.Perm.refl _, bx2⟩
        · injection ev with ev1 ev2 ev3
          subst ev1
          subst ev3
          have hhd := blk_head hbg hcs hs1 (by unfold maxLen; omega)
          have hll1 : (s.drop c).length ≤ 100 := by rw [List.length_drop]; omega
          have hll2 : (s.take c).length ≤ 100 := by rw [List.length_take]; omega
          have hcI : (c : Int) ≤ (s.length : Int) := by omega
          have hcN : (0 : Int) ≤ (c : Int) := by omega
          have hperm : s.Perm (s.drop c ++ s.take c) := by
            have h := List.perm_append_comm (l₁ := s.take c) (l₂ := s.drop c)
            rw [List.take_append_drop] at h
            exact h
          have HPM := hide hperm
          clear hperm
          have hccs : c ≤ cs := by omega
          by_cases hcc : cs = c
          · subst hcc
            have hdr : s.drop cs = [] := List.drop_eq_nil_of_le (by omega)
            have htl : HTerms (fun i => g = i) w4.drew (.slice (some ⟨g, 0, none⟩) 0 0) (s.drop cs) := by
              rw [hdr]
              exact ⟨fun _ => [], ⟨_, _, rfl, by simp, by unfold maxLen; omega, fun h => absurd h (Nat.lt_irrefl _)⟩, fun i h => absurd h (Nat.not_lt_zero _)⟩
            obtain ⟨v1, x1, r1, o1, bb1, g1⟩ := run_cat (B := w4.heap.size) (w := w4.drew) (ty := 23) (v := .slice none 0 0) (l := []) OwnL.nil htl (Nat.le_refl _) (by simp; omega)
            rw [List.nil_append] at o1
            have bx1 : Below w4.heap.size w4 x1 := ⟨bb1.os, bb1.tape, bb1.output, bb1.size, bb1.block⟩
            obtain ⟨v2, x2, r2, o2, bb2, g2⟩ := run_cat (B := w4.heap.size) (w := x1) (ty := 23) o1 (hhd.keep (w' := x1) bx1.size (fun i _ hl => bx1.block i hl)) bx1.size (by omega)
            have HO2 := hide o2
            have bx2 := bx1.trans bb2
            clear o1 o2 hhd htl g1 g2 bb1 bb2 hbg
            clear ev2 hsg hll1 hll2
            refine wp_region_late (fun _ => True) (fun _ => false) (by kernel_rfl) ?_
            refine' wpAnyL_take (i := 0) (oi := { dst := some 71, op := Op.move (Operand.tmp 8), type := 23, pos := "law04.go:80", after := #[], guard := none }) (v := _) rfl (by kernel_rfl) (by kernel_rfl) (by kernel_rfl) (by kernel_rfl) (fun _ _ _ h => h) trivial (by rfl) ?hyv ?onw
            case hyv =>
              intro wz _
              go_simp
              try rfl
            case onw =>
              try simp only [Act.put, List.setIfInBounds_toArray, List.set_cons_zero, List.set_cons_succ]
              refine' wpAnyL_take (i := 1) (oi := { dst := some 72, op := Op.move (Operand.tmp 12), type := 3, pos := "law04.go:80", after := #[], guard := none }) (v := _) rfl (by kernel_rfl) (by kernel_rfl) (by kernel_rfl) (by kernel_rfl) (fun _ _ _ h => h) trivial (by rfl) ?hyv ?onw
              case hyv =>
                intro wz _
                go_simp
                try rfl
              case onw =>
                try simp only [Act.put, List.setIfInBounds_toArray, List.set_cons_zero, List.set_cons_succ]
                refine' wpAnyL_take (i := 2) (oi := { dst := some 73, op := Op.slice 23 (Operand.tmp 71) (some (Operand.tmp 72)) none none, type := 23, pos := "law04.go:80", after := #[{ on := 0, ground := Ground.data }, { on := 1, ground := Ground.data }], guard := none }) (v := _) rfl (by kernel_rfl) (by kernel_rfl) (by kernel_rfl) (by kernel_rfl) (fun _ _ _ h => h) trivial (by rfl) ?hyv ?onw
                case hyv =>
                  intro wz _
                  go_simp
                  try rfl
                case onw =>
                  try simp only [Act.put, List.setIfInBounds_toArray, List.set_cons_zero, List.set_cons_succ]
                  refine' wpAnyL_take (i := 4) (oi := { dst := some 75, op := Op.move (Operand.tmp 8), type := 23, pos := "law04.go:80", after := #[], guard := none }) (v := _) rfl (by kernel_rfl) (by kernel_rfl) (by kernel_rfl) (by kernel_rfl) (fun _ _ _ h => h) trivial (by rfl) ?hyv ?onw
                  case hyv =>
                    intro wz _
                    go_simp
                    try rfl
                  case onw =>
                    try simp only [Act.put, List.setIfInBounds_toArray, List.set_cons_zero, List.set_cons_succ]
                    refine' wpAnyL_take (i := 5) (oi := { dst := some 76, op := Op.move (Operand.tmp 12), type := 3, pos := "law04.go:80", after := #[], guard := none }) (v := _) rfl (by kernel_rfl) (by kernel_rfl) (by kernel_rfl) (by kernel_rfl) (fun _ _ _ h => h) trivial (by rfl) ?hyv ?onw
                    case hyv =>
                      intro wz _
                      go_simp
                      try rfl
                    case onw =>
                      try simp only [Act.put, List.setIfInBounds_toArray, List.set_cons_zero, List.set_cons_succ]
                      refine' wpAnyL_take (i := 6) (oi := { dst := some 77, op := Op.slice 23 (Operand.tmp 75) none (some (Operand.tmp 76)) none, type := 23, pos := "law04.go:80", after := #[{ on := 4, ground := Ground.data }, { on := 5, ground := Ground.data }], guard := none }) (v := _) rfl (by kernel_rfl) (by kernel_rfl) (by kernel_rfl) (by kernel_rfl) (fun _ _ _ h => h) trivial (by rfl) ?hyv ?onw
                      case hyv =>
                        intro wz _
                        go_simp
                        try rfl
                      case onw =>
                        try simp only [Act.put, List.setIfInBounds_toArray, List.set_cons_zero, List.set_cons_succ]
                        refine wpAnyL_one (i := 3) (o := { dst := some 74, op := Op.call { callee := Callee.builtin Builtin.append, args := #[Operand.const (Value.slice none 0 0), Operand.tmp 73], argTypes := #[23, 23] }, type := 23, pos := "law04.go:80", after := #[{ on := 2, ground := Ground.data }], guard := none }) rfl (by kernel_rfl) (by rfl) (fun K hK => ?_)
                        refine oper_cat _ _ rfl _ _ _ (by rfl) (by rfl) r1 ?_
                        refine hK _ _ (fun _ => trivial) ?_
                        clear hK K
                        try simp only [Act.put, List.setIfInBounds_toArray, List.set_cons_zero, List.set_cons_succ]
                        refine wpAnyL_one (i := 7) (o := { dst := some 78, op := Op.call { callee := Callee.builtin Builtin.append, args := #[Operand.tmp 74, Operand.tmp 77], argTypes := #[23, 23] }, type := 23, pos := "law04.go:80", after := #[{ on := 3, ground := Ground.data }, { on := 6, ground := Ground.data }, { on := 3, ground := Ground.chain }], guard := none }) rfl (by kernel_rfl) (by rfl) (fun K hK => ?_)
                        refine oper_cat _ _ rfl _ _ _ (by rfl) (by rfl) r2 ?_
                        refine hK _ _ (fun _ => trivial) ?_
                        clear hK K
                        try simp only [Act.put, List.setIfInBounds_toArray, List.set_cons_zero, List.set_cons_succ]
                        refine' wpAnyL_take (i := 8) (oi := { dst := some 13, op := Op.assign (Operand.tmp 78), type := 23, pos := "law04.go:80", after := #[{ on := 7, ground := Ground.data }, { on := 7, ground := Ground.chain }, { on := 0, ground := Ground.phase }, { on := 1, ground := Ground.phase }, { on := 2, ground := Ground.phase }, { on := 3, ground := Ground.phase }, { on := 4, ground := Ground.phase }, { on := 5, ground := Ground.phase }, { on := 6, ground := Ground.phase }, { on := 7, ground := Ground.phase }], guard := none }) (v := _) rfl (by kernel_rfl) (by kernel_rfl) (by kernel_rfl) (by kernel_rfl) (fun _ _ _ h => h) trivial (by rfl) ?hyv ?onw
                        case hyv =>
                          intro wz _
                          go_simp
                          try rfl
                        case onw =>
                          try simp only [Act.put, List.setIfInBounds_toArray, List.set_cons_zero, List.set_cons_succ]
                          refine wpAnyL_done (by kernel_rfl) ?_ _
                          go_wp2_with fail
                          go_meet
                          case rel => exact ⟨_, HO2.out, HPM, bx2⟩
          · have htl := (blk_tail hbg hcs hs1 (by unfold maxLen; omega)).keep (w' := w4.drew) (Nat.le_refl _) (fun _ _ _ => rfl)
            obtain ⟨v1, x1, r1, o1, bb1, g1⟩ := run_cat (B := w4.heap.size) (w := w4.drew) (ty := 23) (v := .slice none 0 0) (l := []) OwnL.nil htl (Nat.le_refl _) (by simp; omega)
            rw [List.nil_append] at o1
            have bx1 : Below w4.heap.size w4 x1 := ⟨bb1.os, bb1.tape, bb1.output, bb1.size, bb1.block⟩
            obtain ⟨v2, x2, r2, o2, bb2, g2⟩ := run_cat (B := w4.heap.size) (w := x1) (ty := 23) o1 (hhd.keep (w' := x1) bx1.size (fun i _ hl => bx1.block i hl)) bx1.size (by omega)
            have HO2 := hide o2
            have bx2 := bx1.trans bb2
            clear o1 o2 hhd htl g1 g2 bb1 bb2 hbg
            clear ev2 hsg hll1 hll2
            refine wp_region_late (fun _ => True) (fun _ => false) (by kernel_rfl) ?_
            refine' wpAnyL_take (i := 0) (oi := { dst := some 71, op := Op.move (Operand.tmp 8), type := 23, pos := "law04.go:80", after := #[], guard := none }) (v := _) rfl (by kernel_rfl) (by kernel_rfl) (by kernel_rfl) (by kernel_rfl) (fun _ _ _ h => h) trivial (by rfl) ?hyv ?onw
            case hyv =>
              intro wz _
              go_simp
              try rfl
            case onw =>
              try simp only [Act.put, List.setIfInBounds_toArray, List.set_cons_zero, List.set_cons_succ]
              refine' wpAnyL_take (i := 1) (oi := { dst := some 72, op := Op.move (Operand.tmp 12), type := 3, pos := "law04.go:80", after := #[], guard := none }) (v := _) rfl (by kernel_rfl) (by kernel_rfl) (by kernel_rfl) (by kernel_rfl) (fun _ _ _ h => h) trivial (by rfl) ?hyv ?onw
              case hyv =>
                intro wz _
                go_simp
                try rfl
              case onw =>
                try simp only [Act.put, List.setIfInBounds_toArray, List.set_cons_zero, List.set_cons_succ]
                refine' wpAnyL_take (i := 2) (oi := { dst := some 73, op := Op.slice 23 (Operand.tmp 71) (some (Operand.tmp 72)) none none, type := 23, pos := "law04.go:80", after := #[{ on := 0, ground := Ground.data }, { on := 1, ground := Ground.data }], guard := none }) (v := _) rfl (by kernel_rfl) (by kernel_rfl) (by kernel_rfl) (by kernel_rfl) (fun _ _ _ h => h) trivial (by rfl) ?hyv ?onw
                case hyv =>
                  intro wz _
                  go_simp
                  try rfl
                case onw =>
                  try simp only [Act.put, List.setIfInBounds_toArray, List.set_cons_zero, List.set_cons_succ]
                  refine' wpAnyL_take (i := 4) (oi := { dst := some 75, op := Op.move (Operand.tmp 8), type := 23, pos := "law04.go:80", after := #[], guard := none }) (v := _) rfl (by kernel_rfl) (by kernel_rfl) (by kernel_rfl) (by kernel_rfl) (fun _ _ _ h => h) trivial (by rfl) ?hyv ?onw
                  case hyv =>
                    intro wz _
                    go_simp
                    try rfl
                  case onw =>
                    try simp only [Act.put, List.setIfInBounds_toArray, List.set_cons_zero, List.set_cons_succ]
                    refine' wpAnyL_take (i := 5) (oi := { dst := some 76, op := Op.move (Operand.tmp 12), type := 3, pos := "law04.go:80", after := #[], guard := none }) (v := _) rfl (by kernel_rfl) (by kernel_rfl) (by kernel_rfl) (by kernel_rfl) (fun _ _ _ h => h) trivial (by rfl) ?hyv ?onw
                    case hyv =>
                      intro wz _
                      go_simp
                      try rfl
                    case onw =>
                      try simp only [Act.put, List.setIfInBounds_toArray, List.set_cons_zero, List.set_cons_succ]
                      refine' wpAnyL_take (i := 6) (oi := { dst := some 77, op := Op.slice 23 (Operand.tmp 75) none (some (Operand.tmp 76)) none, type := 23, pos := "law04.go:80", after := #[{ on := 4, ground := Ground.data }, { on := 5, ground := Ground.data }], guard := none }) (v := _) rfl (by kernel_rfl) (by kernel_rfl) (by kernel_rfl) (by kernel_rfl) (fun _ _ _ h => h) trivial (by rfl) ?hyv ?onw
                      case hyv =>
                        intro wz _
                        go_simp
                        try rfl
                      case onw =>
                        try simp only [Act.put, List.setIfInBounds_toArray, List.set_cons_zero, List.set_cons_succ]
                        refine wpAnyL_one (i := 3) (o := { dst := some 74, op := Op.call { callee := Callee.builtin Builtin.append, args := #[Operand.const (Value.slice none 0 0), Operand.tmp 73], argTypes := #[23, 23] }, type := 23, pos := "law04.go:80", after := #[{ on := 2, ground := Ground.data }], guard := none }) rfl (by kernel_rfl) (by rfl) (fun K hK => ?_)
                        refine oper_cat _ _ rfl _ _ _ (by rfl) (by rfl) r1 ?_
                        refine hK _ _ (fun _ => trivial) ?_
                        clear hK K
                        try simp only [Act.put, List.setIfInBounds_toArray, List.set_cons_zero, List.set_cons_succ]
                        refine wpAnyL_one (i := 7) (o := { dst := some 78, op := Op.call { callee := Callee.builtin Builtin.append, args := #[Operand.tmp 74, Operand.tmp 77], argTypes := #[23, 23] }, type := 23, pos := "law04.go:80", after := #[{ on := 3, ground := Ground.data }, { on := 6, ground := Ground.data }, { on := 3, ground := Ground.chain }], guard := none }) rfl (by kernel_rfl) (by rfl) (fun K hK => ?_)
                        refine oper_cat _ _ rfl _ _ _ (by rfl) (by rfl) r2 ?_
                        refine hK _ _ (fun _ => trivial) ?_
                        clear hK K
                        try simp only [Act.put, List.setIfInBounds_toArray, List.set_cons_zero, List.set_cons_succ]
                        refine' wpAnyL_take (i := 8) (oi := { dst := some 13, op := Op.assign (Operand.tmp 78), type := 23, pos := "law04.go:80", after := #[{ on := 7, ground := Ground.data }, { on := 7, ground := Ground.chain }, { on := 0, ground := Ground.phase }, { on := 1, ground := Ground.phase }, { on := 2, ground := Ground.phase }, { on := 3, ground := Ground.phase }, { on := 4, ground := Ground.phase }, { on := 5, ground := Ground.phase }, { on := 6, ground := Ground.phase }, { on := 7, ground := Ground.phase }], guard := none }) (v := _) rfl (by kernel_rfl) (by kernel_rfl) (by kernel_rfl) (by kernel_rfl) (fun _ _ _ h => h) trivial (by rfl) ?hyv ?onw
                        case hyv =>
                          intro wz _
                          go_simp
                          try rfl
                        case onw =>
                          try simp only [Act.put, List.setIfInBounds_toArray, List.set_cons_zero, List.set_cons_succ]
                          refine wpAnyL_done (by kernel_rfl) ?_ _
                          go_wp2_with fail
                          go_meet
                          case rel => exact ⟨_, HO2.out, HPM, bx2⟩
      case rest =>
        obtain ⟨q, own5, HPQ, b5⟩ := hcut
        obtain ⟨w5, hw5⟩ : ∃ w5, w5 = wc := ⟨_, rfl⟩
        rw [← hw5] at own5 b5 ⊢
        clear hw5
        obtain ⟨aq, cq, rfl, hq1, hq2⟩ := own5.form
        have B5 := B4.trans (b5.mono B4.size)
        have HTs := hide (terms_row (HO34.out.below b5).row)
        have HTt := hide (terms_row (HO4.out.below b5).row)
        have HTq := hide (terms_row own5.row)
        have HK5 := hide ((b5.block _ y41).trans HK4.out)
        have y51 := Nat.lt_of_lt_of_le y41 b5.size
        have HSq : Hid (∀ x ∈ q, STm x) := hide (fun x hx => HSS.out x (HPQ.out.mem_iff.2 hx))
        have hq100 : q.length ≤ 100 := by rw [← HPQ.out.length_eq]; exact hs100
        have hsam := same_any HTs.out HTq.out
        have HSP := hide (same_perm HSS.out (by omega) HPQ.out)
        clear own5 HO34 HO4 HO3 HK4 b5 b4 b3
        go_wp2_with fail
        refine hsam.mono ?_
        rintro e w6 ⟨z1, rfl, hz1, b6⟩
        obtain rfl : z1 = true := hz1.2 HSP.out
        clear hz1 HSP hsam
        have B6 := B5.trans (b6.mono B5.size)
        have hsam2 := same_any (HTs.out.keep (w' := w6) b6.size (fun i _ hl => b6.block i hl)) (HTt.out.keep (w' := w6) b6.size (fun i _ hl => b6.block i hl))
        go_wp2_with fail
        refine hsam2.mono ?_
        rintro e w7 ⟨sm, rfl, hsm, b7⟩
        clear hsam2
        rw [means HSS.out HTS.out (by omega) (by omega)] at hsm
        have HSM := hide hsm
        have b57 := b6.trans (b7.mono b6.size)
        have B7 := B5.trans (b57.mono B5.size)
        clear hsm b6 b7 B6
        go_wp2_with fail
        go_loopg [15, 16, 17, 18, 19, 20, 21, 22, 23] 64 (fun gh s15 s16 _ _ _ _ _ _ _ wr => ∃ (i : Nat) (ap : Bool), s16 = .int .i64 (i : Int) ∧ s15 = .bool ap ∧ i ≤ 64 ∧ 64 ≤ gh + i ∧ Hid (ap = true ↔ ∃ j, j < i ∧ X3 j s ≠ X3 j t) ∧ Below w5.heap.size w5 wr)
        case atStart => exact ⟨0, false, rfl, rfl, by omega, by omega, hide (Iff.intro (fun h => (by cases h)) (fun ⟨j, hj, _⟩ => absurd hj (Nat.not_lt_zero _))), b57⟩
        case round =>
          obtain ⟨i, ap, rfl, rfl, hi64, hgh, HAP, bR⟩ := hrel
          have BR := B5.trans (bR.mono B5.size)
          by_cases hlt : i < 64
          case neg =>
            have hie : i = 64 := by omega
            subst hie
            go_wp2
            go_ret
            refine ⟨?_, BR⟩
            show Ending.returned (Value.bool (!sm == ap)) = _
            have h1 : sm = !ap := by
              cases hap : ap with
              | true =>
                obtain ⟨j, hj, hne⟩ := HAP.out.1 hap
                cases hs' : sm with
                | true => exact absurd (HSM.out.1 hs' j hj) hne
                | false => rfl
              | false =>
                exact HSM.out.2 (fun j hj => Classical.byContradiction fun hne => by
                  have := HAP.out.2 ⟨j, hj, hne⟩
                  rw [hap] at this
                  cases this)
            rw [h1]
            cases ap <;> rfl
          case pos =>
            have hltI : (i : Int) < 64 := by omega
            obtain ⟨wv, hwv⟩ : ∃ wv, wv = wr.alloc (.cells #[.int .i64 ((i : Int) % 4), .int .i64 ((i : Int) / 4 % 4), .int .i64 ((i : Int) / 16)] 3 (0, 0)) := ⟨_, rfl⟩
            have bv : Below wr.heap.size wr wv := by rw [hwv]; exact (Below.refl _ _).alloc (Nat.le_refl _) _
            have Kv : wv.heap[wr.heap.size]? = some (.cells (([(i : Int) % 4, (i : Int) / 4 % 4, (i : Int) / 16] : List Int).map (Value.int .i64)).toArray 3 (0, 0)) := by rw [hwv, heap_new]; rfl
            have b5v := bR.trans (bv.mono bR.size)
            have sm1 : small ((i : Int) % 4) = true := small_iff.2 (by omega)
            have sm2 : small ((i : Int) / 4 % 4) = true := small_iff.2 (by omega)
            have sm3 : small ((i : Int) / 16) = true := small_iff.2 (by omega)
            have hin := blk_ints Kv (by show (3 : Nat) ≤ _; unfold maxLen; omega)
            have hnm := blk_names ((b5v.block _ y51).trans HK5.out) (by decide)
            have hnz : ∀ x ∈ names3, x.size ≤ maxLen := by decide
            have hsz : ∀ (l : List Tm), (∀ x ∈ l, STm x) → ∀ x ∈ l, x.2.size ≤ maxLen := fun l hl x hx => by
              rcases (hl x hx).name with e | e | e | e <;> rw [e] <;> decide
            have hv1 := value_any (HTs.out.keep (w' := wv) b5v.size (fun i _ hl => b5v.block i hl)) hnm hin (hsz _ HSS.out) hnz (by show (3 : Nat) < _; omega)
            rw [show names3.length = 3 from rfl, show ([(i : Int) % 4, (i : Int) / 4 % 4, (i : Int) / 16] : List Int).length = 3 from rfl] at hv1
            have HV := hide (fun (l : List Tm) (hl : ∀ x ∈ l, STm x) (hl2 : l.length ≤ 100) x c e (hv : ValP l names3 [(i : Int) % 4, (i : Int) / 4 % 4, (i : Int) / 16] x c e) => (show c = 0 ∧ x = X3 i l by rw [X3_eq]; exact val3 hl (by omega) sm1 sm2 sm3 hv))
            go_wp2_with fail
            rw [← hwv]
            clear hwv
            refine hv1.mono ?_
            rintro e w8 ⟨x1, c1, a1, rfl, hp1, b8⟩
            obtain ⟨rfl, rfl⟩ := HV.out s HSS.out hs100 _ _ _ hp1
            clear hv1 hp1
            have b58 := b5v.trans (b8.mono b5v.size)
            have Kv8 := (b8.block _ (lt_of Kv)).trans Kv
            go_upto_region 25 with fail
            obtain ⟨w9, hw9⟩ : ∃ w9, w9 = w8.alloc (.cells #[.int .i64 0, .int .i64 a1] 30 (0, 0)) := ⟨_, rfl⟩
            have b9 : Below w8.heap.size w8 w9 := by rw [hw9]; exact (Below.refl _ _).alloc (Nat.le_refl _) _
            have K9 : w9.heap[w8.heap.size]? = some (.cells #[.int .i64 0, .int .i64 a1] 30 (0, 0)) := by rw [hw9]; exact heap_new _ _
            rw [← hw9]
            clear hw9
            have b59 := b58.trans (b9.mono b58.size)
            have Kv9 := (b9.block _ (lt_of Kv8)).trans Kv8
            have hv2 := value_any (HTt.out.keep (w' := w9) b59.size (fun i _ hl => b59.block i hl)) (blk_names ((b59.block _ y51).trans HK5.out) (by decide)) (blk_ints Kv9 (by show (3 : Nat) ≤ _; unfold maxLen; omega)) (hsz _ HTS.out) hnz (by show (3 : Nat) < _; omega)
            rw [show names3.length = 3 from rfl, show ([(i : Int) % 4, (i : Int) / 4 % 4, (i : Int) / 16] : List Int).length = 3 from rfl] at hv2
            clear bv Kv Kv8 b5v b8 b9 b58 hin hnm
            go_wp2_with fail
            refine hv2.mono ?_
            rintro e w10 ⟨x2, c2, a2, rfl, hp2, b10⟩
            obtain ⟨rfl, rfl⟩ := HV.out t HTS.out ht100 _ _ _ hp2
            clear hv2 hp2
            have b510 := b59.trans (b10.mono b59.size)
            have Kv10 := (b10.block _ (lt_of Kv9)).trans Kv9
            have K10 := (b10.block _ (lt_of K9)).trans K9
            go_upto_region 26 with fail
            obtain ⟨w11, hw11⟩ : ∃ w11, w11 = w10.alloc (.cells #[.int .i64 0, .int .i64 a2] 30 (0, 0)) := ⟨_, rfl⟩
            have b11 : Below w10.heap.size w10 w11 := by rw [hw11]; exact (Below.refl _ _).alloc (Nat.le_refl _) _
            have K11 : w11.heap[w10.heap.size]? = some (.cells #[.int .i64 0, .int .i64 a2] 30 (0, 0)) := by rw [hw11]; exact heap_new _ _
            rw [← hw11]
            clear hw11
            have b511 := b510.trans (b11.mono b510.size)
            have Kv11 := (b11.block _ (lt_of Kv10)).trans Kv10
            have K9b := (b11.block _ (lt_of K10)).trans K10
            have hv3 := value_any (HTq.out.keep (w' := w11) b511.size (fun i _ hl => b511.block i hl)) (blk_names ((b511.block _ y51).trans HK5.out) (by decide)) (blk_ints Kv11 (by show (3 : Nat) ≤ _; unfold maxLen; omega)) (hsz _ HSq.out) hnz (by show (3 : Nat) < _; omega)
            rw [show names3.length = 3 from rfl, show ([(i : Int) % 4, (i : Int) / 4 % 4, (i : Int) / 16] : List Int).length = 3 from rfl] at hv3
            clear K9 K10 Kv9 Kv10 Kv11 b59 b510 b10 b11
            go_wp2_with fail
            refine hv3.mono ?_
            rintro e w12 ⟨x3, c3, a3, rfl, hp3, b12⟩
            obtain ⟨rfl, rfl⟩ := HV.out q HSq.out hq100 _ _ _ hp3
            clear hv3 hp3
            have b512 := b511.trans (b12.mono b511.size)
            have K11b := (b12.block _ (lt_of K11)).trans K11
            have K9c := (b12.block _ (lt_of K9b)).trans K9b
            go_upto_region 27 with fail
            obtain ⟨w13, hw13⟩ : ∃ w13, w13 = w12.alloc (.cells #[.int .i64 0, .int .i64 a3] 30 (0, 0)) := ⟨_, rfl⟩
            have b13 : Below w12.heap.size w12 w13 := by rw [hw13]; exact (Below.refl _ _).alloc (Nat.le_refl _) _
            have K13 : w13.heap[w12.heap.size]? = some (.cells #[.int .i64 0, .int .i64 a3] 30 (0, 0)) := by rw [hw13]; exact heap_new _ _
            rw [← hw13]
            clear hw13
            have b513 := b512.trans (b13.mono b512.size)
            have K11c := (b13.block _ (lt_of K11b)).trans K11b
            have K9d := (b13.block _ (lt_of K9c)).trans K9c
            have e9 := cell_of K9d 0
            have e11 := cell_of K11c 0
            have e13 := cell_of K13 0
            simp at e9 e11 e13
            have hxq : X3 i q = X3 i s := (X3_perm HPQ.out i).symm
            have HSM1 := hide (fun h : sm = true => HSM.out.1 h i hlt)
            have HAP2 := hide (fun (ap' : Bool) (h : ap' = true ↔ (ap = true ∨ X3 i s ≠ X3 i t)) => (show ap' = true ↔ ∃ j, j < i + 1 ∧ X3 j s ≠ X3 j t by
              rw [h, HAP.out]
              constructor
              · rintro (⟨j, hj, hne⟩ | hne)
                · exact ⟨j, by omega, hne⟩
                · exact ⟨i, by omega, hne⟩
              · rintro ⟨j, hj, hne⟩
                by_cases e : j = i
                · subst e; exact .inr hne
                · exact .inl ⟨j, by omega, hne⟩))
            rw [hxq]
            clear hxq K9b K9c K9d K11 K11b K11c K13 b511 b512 b12 b13 HAP
            generalize X3 i s = xs at HSM1 HAP2 ⊢
            generalize X3 i t = xt at HSM1 HAP2 ⊢
            have hxx : (xs != xs) = false := by simp
            by_cases hxt : xs = xt
            · subst hxt
              cases sm with
              | true =>
                cases hap : ap with
                | true =>
                  go_wp2_with fail
                  go_roundg (gk - 1)
                  case measure => omega
                  case rel => exact ⟨i + 1, true, by go_num, rfl, by omega, by omega, hide (HAP2.out true (by simp [hap])), b513⟩
                | false =>
                  go_wp2_with fail
                  go_roundg (gk - 1)
                  case measure => omega
                  case rel => exact ⟨i + 1, false, by go_num, rfl, by omega, by omega, hide (HAP2.out false (by simp [hap])), b513⟩
              | false =>
                cases hap : ap with
                | true =>
                  go_wp2_with fail
                  go_roundg (gk - 1)
                  case measure => omega
                  case rel => exact ⟨i + 1, true, by go_num, rfl, by omega, by omega, hide (HAP2.out true (by simp [hap])), b513⟩
                | false =>
                  go_wp2_with fail
                  go_roundg (gk - 1)
                  case measure => omega
                  case rel => exact ⟨i + 1, false, by go_num, rfl, by omega, by omega, hide (HAP2.out false (by simp [hap])), b513⟩
            · have hsmf : sm = false := by
                cases h : sm with
                | true => exact absurd (HSM1.out h) hxt
                | false => rfl
              subst hsmf
              have hne : (xs != xt) = true := by simpa using hxt
              cases hap : ap with
              | true =>
                go_wp2_with fail
                go_roundg (gk - 1)
                case measure => omega
                case rel => exact ⟨i + 1, true, by go_num, rfl, by omega, by omega, hide (HAP2.out true (by simp [hap])), b513⟩
              | false =>
                go_wp2_with fail
                go_roundg (gk - 1)
                case measure => omega
                case rel => exact ⟨i + 1, true, by go_num, rfl, by omega, by omega, hide (HAP2.out true (by simp [hxt])), b513⟩
end Go.Proofs.Ytjpjedigajiomaa
