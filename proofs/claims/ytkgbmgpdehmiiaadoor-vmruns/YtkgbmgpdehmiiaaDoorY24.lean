import Derived.Test.YtkgbmgpdehmiiaaDoorY23
import Derived.WalkKit
import Derived.WalkSpells
import Derived.IntWalk
import Derived.Deep.Cut
import Derived.Deep.LoopGhost
import Derived.Laws.Cover1
import Derived.Lib.Hide
set_option linter.unusedVariables false
set_option linter.unusedSimpArgs false
set_option maxHeartbeats 64000000
set_option maxRecDepth 100000
namespace Go.Proofs.YtkgbmgpdehmiiaaDoor
open Go.RowKit Go.IntWalk
set_option linter.unusedVariables false
set_option linter.unusedSimpArgs false
namespace Dx
/-- what a run of all code answers -/
structure DAllP (w : World) (gb cb nc cc : Nat) (v0 v1 v2 v3 v4 v5 v6 : Value) (res : Em.Res) (e : Ending) (w' : World) : Prop where
  e : e = .returned (.int .i64 res.p)
  g : GAt w' gb cb nc cc v0 v1 v2 v3 v4 v5 v6 res.st
  m : LX w' cb res.s.M
  l : nc ≤ res.s.M.length
  wd : Lo.Wd res.s.M
  a : Aside [gb, cb] w.heap.size w w'
set_option maxHeartbeats 64000000 in
theorem dall37_any {w : World} {gb cb nc cc nr : Nat} {v0 v2 v3 v4 v5 : Value} {st : Int} {okL : Nat → Prop} {aL : Option Addr} {cL : Nat} {C : List Cd.In} {M : List Int} (hg : GAt w gb cb nc cc v0 (.int .i64 (nr : Int)) v2 v3 v4 v5 (.slice aL C.length cL) st) (hm : LX w cb M) (hL : HIns okL w (.slice aL C.length cL) C) (hok : ∀ i, okL i → i ≠ gb ∧ i ≠ cb) (hnc : nc ≤ M.length) (hM : nc ≤ 6000) (n2 : gb ≠ cb) (hR : 1 ≤ nr ∧ nr ≤ 40) (hRs : ∀ x ∈ C, InOk nc nr x) (hgo : Cd.go 10 11 none C ≠ none)  (hWM : Lo.Wd M) (hCl : C.length ≤ 200000) :
    Calls Tryd.prog 32 #[.pointer (some ⟨gb, 0, none⟩)] w (DAllP w gb cb nc cc v0 (.int .i64 (nr : Int)) v2 v3 v4 v5 (.slice aL C.length cL) (Em.allF C 0 ⟨fun _ => 0, M⟩ st)) := by
  obtain ⟨res, hres⟩ : ∃ x, x = Em.allF C 0 ⟨fun _ => 0, M⟩ st := ⟨_, rfl⟩
  rw [← hres]
  obtain ⟨ln, hln⟩ : ∃ ln, ln = C.length := ⟨_, rfl⟩
  obtain ⟨LZ, hLZ⟩ : ∃ LZ, LZ = ((List.replicate nr (0 : Int)).map (Value.int .i64)).toArray := ⟨_, rfl⟩
  have hmk := make_longs nr nr (Nat.le_refl _) (by omega) w
  rw [← hLZ] at hmk
  have b1 : Below w.heap.size w (w.alloc (.cells LZ 2 (0, 0))) := (Below.refl _ _).alloc (Nat.le_refl _) _
  have kZ := heap_new w (.cells LZ 2 (0, 0))
  have ygw := lt_of hg
  have ycw := hm.lt
  obtain ⟨rb, hrb⟩ : ∃ rb, rb = w.heap.size := ⟨_, rfl⟩
  have hbl : DBls gb rb cb nc nr (w.alloc (.cells LZ 2 (0, 0))) := ⟨by omega, n2, by omega, hM, hR, by simp; omega, by simp; omega, by simp; omega⟩
  have hs1 : DAllS (w.alloc (.cells LZ 2 (0, 0))) gb rb cb nc cc nr v0 (.int .i64 (nr : Int)) v2 v3 v4 v5 (.slice aL C.length cL) (List.replicate nr 0) st ⟨fun _ => 0, M⟩ (w.alloc (.cells LZ 2 (0, 0))) := ⟨hg.keep (b1.block _ ygw), ⟨[], by rw [hrb, kZ, hLZ, List.append_nil]⟩, hm.under b1, fun j hj => by simp, by simp, hnc, fun x hx => by rw [List.mem_replicate] at hx; rw [hx.2]; unfold I64; omega, hWM, Aside.refl _⟩
  have hL1 : HIns (fun i => okL i ∧ i < w.heap.size) (w.alloc (.cells LZ 2 (0, 0))) (.slice aL C.length cL) C := HRow.keep (HRow.wide hL (fun i h1 h2 => ⟨h1, h2⟩)) b1.size (fun i hi hl => b1.block i hl)
  have HAT := hide (fun (i : Nat) (hi : i < C.length) (wr : World) (a : Aside [gb, rb, cb] (w.alloc (.cells LZ 2 (0, 0))).heap.size (w.alloc (.cells LZ 2 (0, 0))) wr) => ins_at hL1 (fun i hi => by have := hok i hi.1; have := hi.2; omega) a hi)
  have HAll := hide (show Em.allF (C.drop 0) 0 ⟨fun _ => 0, M⟩ st = res from hres.symm)
  have HGo := hide (show Cd.go 10 11 none (C.drop 0) ≠ none from hgo)
  have HRS := hide hRs
  rw [← hln] at hs1 ⊢
  have HLN := hide hln
  have hg0 := hg
  unfold GAt at hg0
  rw [← hln] at hg0
  have c1 := cell_of hg0 1
  have c6 := cell_of hg0 6
  simp at c1 c6
  have kg1 := (b1.block _ ygw).trans hg0
  have d6 := cell_of kg1 6
  simp at d6
  rw [← hln] at hCl
  have hA0 : ∀ W, Aside [gb, rb, cb] (w.alloc (.cells LZ 2 (0, 0))).heap.size (w.alloc (.cells LZ 2 (0, 0))) W → Aside [gb, cb] w.heap.size w W := fun W a => by
    have h1 : Aside [gb, rb, cb] w.heap.size w W := (aside b1).trans a b1.size
    exact ⟨h1.os, h1.tape, h1.output, h1.size, fun k hk hs => h1.block k hk (by simp at hs ⊢; omega)⟩
  have HA0 := hide hA0
  have HS1 := hide hs1
  clear hg hm hL hok hnc hM n2 hRs hgo hres hWM hln hL1 hs1 hg0 kg1 hLZ kZ ycw hA0
  go_enter Tryd.func32, Tryd.ntmps32
  go_upto_region 2 with fail
  subst hrb
  generalize w.alloc (.cells LZ 2 (0, 0)) = w1 at b1 HAT hbl HA0 HS1 d6 ⊢
  clear c1 c6 hmk ygw
  have HBL := hide hbl
  have hnr40 := hR.2
  have hgbw := hbl.hg
  clear hbl b1
  go_wp2_with fail
  go_loopg [5] ln (fun kz vi wr => ∃ (i : Nat) (X : List Int) (s : Em.St) (st : Int), i ≤ ln ∧ kz = ln - i ∧ vi = .int .i64 (i : Nat) ∧ Hid (Em.allF (C.drop i) i s st = res) ∧ Hid (Cd.go 10 11 none (C.drop i) ≠ none) ∧ Hid (DAllS w1 gb w.heap.size cb nc cc nr v0 (.int .i64 (nr : Int)) v2 v3 v4 v5 (.slice aL ln cL) X st s wr))
  case atStart => exact ⟨0, _, _, _, Nat.zero_le _, rfl, rfl, HAll, HGo, HS1⟩
  case round =>
    clear HAll HGo HS1 d6
    obtain ⟨i, X, s, st, hi, rfl, rfl, HAll, HGo, HS⟩ := hrel
    by_cases hlt : i < ln
    case neg =>
      have hin : i = ln := by omega
      subst hin
      have hs := HAll.out
      rw [List.drop_of_length_le (by have := HLN.out; omega), Em.allF_nil] at hs
      subst hs
      have HP := hide HS.out
      clear HAll HGo HS
      go_wp2
      go_ret
      exact ⟨rfl, HP.out.g, HP.out.m, HP.out.lm, HP.out.wm, HA0.out _ HP.out.a⟩
    case pos =>
      have hil : i < C.length := by have := HLN.out; omega
      obtain ⟨bb, oo, rfl, hin0⟩ := HAT.out i hil wr HS.out.a
      have HAT2 := hide (fun (j : Nat) (hj : j < C.length) (W : World) (a : Aside [gb, w.heap.size, cb] w1.heap.size w1 W) => (by
        obtain ⟨b', o', e1, e2⟩ := HAT.out j hj W a
        injection e1 with e1
        injection e1 with e1 e3 e4
        rw [e1, e3]
        exact e2 : InAt W bb (oo + j * 6) C[j]))
      have hall := HAll.out
      have hgo := HGo.out
      rw [List.drop_eq_getElem_cons hil] at hall hgo
      obtain ⟨hd1, hd2, hd3⟩ := Em.go_head hgo
      have hix := HRS.out _ (List.getElem_mem hil)
      obtain ⟨y, hy⟩ : ∃ y, y = C[i] := ⟨_, rfl⟩
      rw [← hy] at hin0 hall hd1 hd2 hd3 hix
      have HYE := hide hy
      clear hy hgo
      obtain ⟨e0, e1, e2, e3, e4, e5⟩ := hin0
      have HS2 := hide HS.out
      by_cases h10 : y.op = 10
      case neg =>
        rcases hs1 : Em.one y s with _ | s1
        · rw [Em.allF_none h10 hs1] at hall
          have HONE := hide (HS.out.stray HBL.out hix.rs h10 hd1 hix.n hs1)
          have HRES := hide hall
          obtain ⟨op, kk, r, a, b, n⟩ := y
          dsimp only at e0 e1 e2 e3 e4 e5 h10 HONE
          have h10b : (op != 10) = true := by simpa using h10
          clear hall hd1 hd2 hd3 hix hs1 HAll HGo HS HAT
          go_wp2_with fail
          refine HONE.out.mono ?_
          rintro e w2 hh
          obtain ⟨ee, hX'⟩ := hh
          have HS3 := hide hX'
          clear hX' e0 e1 e2 e3 e4 e5 HONE HS2
          subst ee
          go_wp2
          go_ret
          rw [← HRES.out]
          exact ⟨rfl, HS3.out.g, HS3.out.m, HS3.out.lm, HS3.out.wm, HA0.out _ HS3.out.a⟩
        rw [Em.allF_some h10 hs1] at hall
        have HONE := hide (HS.out.one HBL.out hix.rs h10 hd1 hix.n hs1)
        have HA2 := hide hall
        have HG2 := hide (hd2 h10)
        obtain ⟨op, kk, r, a, b, n⟩ := y
        dsimp only at e0 e1 e2 e3 e4 e5 h10 HONE
        have h10b : (op != 10) = true := by simpa using h10
        clear hall hd1 hd2 hd3 hix hs1 HAll HGo HS HAT
        go_wp2_with fail
        refine HONE.out.mono ?_
        rintro e w2 hh
        obtain ⟨ee, X', hX'⟩ := hh
        have HS3 := hide hX'
        clear hX' e0 e1 e2 e3 e4 e5 HONE HS2
        subst ee
        go_wp2_with fail
        go_roundg (ln - (i + 1))
        case measure => omega
        case rel => exact ⟨i + 1, X', s1, _, by omega, rfl, by go_num, HA2, HG2, HS3⟩
      case pos =>
        obtain ⟨hn1, hn2, hg3⟩ := hd3 h10
        obtain ⟨bL, eI, lL, hdr, hpl, heI, hgl⟩ := Em.cut_of _ hg3
        rw [hdr, Em.allF_loop h10 hpl heI] at hall
        obtain ⟨r2, hs1⟩ : ∃ x, Em.loopF y.r bL (i + 1) y.n.toNat 0 s (wrap64 (st + 1)) = x := ⟨_, rfl⟩
        rw [hs1] at hall
        have hs2 := hall
        obtain ⟨hEl, hBb, hEe, hDl⟩ := drop_at hdr
        obtain ⟨op, kk, r, a, b, n⟩ := y
        dsimp only at e0 e1 e2 e3 e4 e5 h10 hn1 hn2 hs1 hix
        subst h10
        obtain ⟨rn, rfl, hrn⟩ : ∃ q : Nat, r = (q : Int) ∧ q < nr := by
          have h := hix.rs.ok
          unfold Cd.bars at h
          simp only [show ((10 : Int) = 1) = False by simp, show ((10 : Int) = 2) = False by simp, show ((10 : Int) = 3) = False by simp, show ((10 : Int) = 4) = False by simp, show ((10 : Int) = 5) = False by simp, show ((10 : Int) = 6) = False by simp, show ((10 : Int) = 7) = False by simp, show ((10 : Int) = 8) = False by simp, show ((10 : Int) = 9) = False by simp, if_false, or_self, if_true] at h
          rw [Bool.or_eq_false_iff] at h
          obtain ⟨q, hq, hq2⟩ := Em.nat_of (Em.lacks_ok h.1 r (by simp))
          exact ⟨q, hq, by omega⟩
        obtain ⟨N, rfl⟩ : ∃ N : Nat, n = (N : Int) := ⟨n.toNat, by omega⟩
        rw [Int.toNat_natCast] at hs1
        obtain ⟨bl, hbl⟩ : ∃ x, x = bL.length := ⟨_, rfl⟩
        have HBb := hide hBb
        have HEe := hide hEe
        have HPL := hide hpl
        have HGL := hide hgl
        have HDL := hide hDl
        have HS1' := hide hs1
        have HS2' := hide hs2
        have HEI := hide heI
        have HBLN := hide hbl
        have hEn : i + 1 + bl < ln := by rw [HLN.out, hbl]; exact hEl
        clear hall hd1 hd2 hd3 hix hs1 hs2 HAll HGo HAT hdr hpl heI hgl hEl hBb hEe hDl hg3 hbl
        obtain ⟨wo, hwo⟩ : ∃ x, x = wr := ⟨_, rfl⟩
        subst hwo
        have HSo := hide HS.out
        have hgo := HS.out.g
        have kgo : wo.heap[gb]? = some (.cells #[v0, .int .i64 (nr : Int), v2, v3, v4, v5, .slice (some ⟨bb, oo, none⟩) ln cL, .slice (some ⟨cb, 0, none⟩) nc cc, .int .i64 st] 46 (0, 0)) := hgo
        have g8 := cell_of kgo 8
        have fg8 := free_of kgo 8
        simp at g8
        clear HS HS2 hgo kgo
        go_upto_region 9 with fail
        go_cut [] (fun wd => DAllS w1 gb w.heap.size cb nc cc nr v0 (.int .i64 (nr : Int)) v2 v3 v4 v5 (.slice (some ⟨bb, oo, none⟩) ln cL) X (wrap64 (st + 1)) s wd)
        case first =>
          go_wp2_with fail
          go_meet
          case rel => exact HSo.out.count HBL.out _
        case rest =>
          have HSc := hide hcut
          clear hcut g8 fg8 e0 e1 e2 e3 e4 e5 HSo
          obtain ⟨wp, hwp⟩ : ∃ x, x = wc := ⟨_, rfl⟩
          subst hwp
          have HI := hide (fun W (a : Aside [gb, w.heap.size, cb] w1.heap.size w1 W) => HAT2.out i hil W a)
          go_wp2_with fail
          go_loopg [6] (bl + 1) (fun kz v6 wr => ∃ (q : Nat), q ≤ bl + 1 ∧ kz = bl + 1 - q ∧ v6 = .int .i64 ((i + q : Nat) : Int) ∧ wr = wp)
          case atStart => exact ⟨0, Nat.zero_le _, rfl, by rfl, rfl⟩
          case round =>
            obtain ⟨q, hq, rfl, rfl, rfl⟩ := hrel
            have hiq : i + q < C.length := by have := HLN.out; omega
            obtain ⟨x0, -, -, -, -, -⟩ := HAT2.out (i + q) hiq wr HSc.out.a
            have hlq : ((i + q : Nat) : Int) < (ln : Int) := by omega
            have u1 : IntKind.i64.wrap (((i + q : Nat) : Int) + 1) = ((i + (q + 1) : Nat) : Int) := (i64_in _ (by omega)).trans (by omega)
            by_cases hqe : q < bl + 1
            case pos =>
              have hop : (C[i + q]).op ≠ 11 := by
                by_cases h0 : q = 0
                · subst h0
                  show (C[i]).op ≠ 11
                  rw [← HYE.out]
                  show (10 : Int) ≠ 11
                  decide
                · have hh := HBb.out (q - 1) (by have := HBLN.out; omega) (by omega)
                  have e : C[i + q] = bL[q - 1]'(by have := HBLN.out; omega) := by
                    rw [← hh]
                    congr 1
                    omega
                  rw [e]
                  exact (HPL.out _ (List.getElem_mem _)).2
              generalize (C[i + q]).op = oq at x0 hop
              have hopb : (oq != 11) = true := by simpa using hop
              clear hiq
              go_wp2_with fail
              go_roundg (bl + 1 - (q + 1))
              case measure => omega
              case rel => exact ⟨q + 1, by omega, rfl, by go_num, rfl⟩
            case neg =>
              have hqb : q = bl + 1 := by omega
              subst hqb
              have hop : (C[i + (bl + 1)]).op = 11 := by
                have hh := HEe.out (by have := HBLN.out; omega)
                have e : C[i + (bl + 1)] = eI := by
                  rw [← hh]
                  congr 1
                  have := HBLN.out
                  omega
                rw [e]
                exact HEI.out
              rw [hop] at x0
              have hEq : i + (bl + 1) < ln := by omega
              obtain ⟨EE, hEE⟩ : ∃ x, x = i + (bl + 1) := ⟨_, rfl⟩
              rw [← hEE] at x0 ⊢
              have HEE := hide hEE
              have hEl2 : EE < ln := by omega
              have hEi : i < EE := by omega
              clear hop hiq u1 hlq hEE hEq
              have hlE : (EE : Int) < (ln : Int) := by omega
              go_wp2_with fail
              go_loopg [7] N (fun kz v7 wr => ∃ (k : Nat) (X : List Int) (s : Em.St) (st : Int), k ≤ N ∧ kz = N - k ∧ v7 = .int .i64 (k : Nat) ∧ Hid (Em.loopF (rn : Int) bL (i + 1) (N - k) (k : Int) s st = r2) ∧ Hid (DAllS w1 gb w.heap.size cb nc cc nr v0 (.int .i64 (nr : Int)) v2 v3 v4 v5 (.slice (some ⟨bb, oo, none⟩) ln cL) X st s wr))
              case atStart => exact ⟨0, X, s, _, Nat.zero_le _, rfl, rfl, HS1', HSc⟩
              case round =>
                clear HS1' HSc x0
                obtain ⟨k, X, s, st, hk, rfl, rfl, HR, HS⟩ := hrel
                obtain ⟨x0, x1, x2, x3, x4, x5⟩ := HI.out wr HS.out.a
                rw [← HYE.out] at x0 x1 x2 x3 x4 x5
                dsimp only at x2 x5
                by_cases hkn : k < N
                case neg =>
                  have hkN : k = N := by omega
                  subst hkN
                  have hz := HR.out
                  rw [Nat.sub_self, Em.loopF] at hz
                  subst hz
                  have hnl : ¬ ((k : Nat) : Int) < (k : Int) := by omega
                  have HA2 := hide (show Em.allF (C.drop (EE + 1)) (EE + 1) s st = res by
                    have h2 := HS2'.out
                    rw [if_pos (by show (-1 : Int) < 0; decide)] at h2
                    rw [← h2, show i + bL.length + 2 = EE + 1 by rw [HEE.out]; have := HBLN.out; omega]
                    dsimp only
                    congr 1
                    rw [HEE.out, show i + (bl + 1) + 1 = i + 1 + bL.length + 1 by have := HBLN.out; omega, HDL.out])
                  have HG2 := hide (show Cd.go 10 11 none (C.drop (EE + 1)) ≠ none by
                    rw [HEE.out, show i + (bl + 1) + 1 = i + 1 + bL.length + 1 by have := HBLN.out; omega, HDL.out]
                    exact HGL.out)
                  clear HR HI HS2'
                  go_wp2_with fail
                  go_roundg (ln - (EE + 1))
                  case measure => omega
                  case rel => exact ⟨EE + 1, X, s, st, by omega, rfl, by go_num, HA2, HG2, HS⟩
                case pos =>
                  have hnl : ((k : Nat) : Int) < (N : Int) := by omega
                  have hz := HR.out
                  rw [show N - k = (N - (k + 1)) + 1 by omega, Em.loopF] at hz
                  obtain ⟨r3, hr3⟩ : ∃ x, Em.runF bL (i + 1) ⟨Em.upd s.R (rn : Int) (k : Int), s.M⟩ st = x := ⟨_, rfl⟩
                  rw [hr3] at hz
                  have HR3 := hide (show Em.runF (bL.drop 0) (i + 1 + 0) ⟨Em.upd s.R (rn : Int) (k : Int), s.M⟩ st = r3 from hr3)
                  have HL3 := hide (show (if r3.p < 0 then Em.loopF (rn : Int) bL (i + 1) (N - (k + 1)) ((k + 1 : Nat) : Int) r3.s (wrap64 (r3.st + 1)) else r3) = r2 from hz)
                  have xr := HS.out.x.at (i := rn) (by rw [HS.out.lx]; exact hrn)
                  have fr := HS.out.x.free rn
                  have hrl : (rn : Int) < (nr : Int) := by omega
                  generalize X[rn]'(by rw [HS.out.lx]; exact hrn) = xv at xr
                  clear hz hr3 HR
                  go_upto_region 16 with fail
                  go_cut [] (fun wd => DAllS w1 gb w.heap.size cb nc cc nr v0 (.int .i64 (nr : Int)) v2 v3 v4 v5 (.slice (some ⟨bb, oo, none⟩) ln cL) (X.set rn (k : Int)) st ⟨Em.upd s.R (rn : Int) (k : Int), s.M⟩ wd)
                  case first =>
                    go_wp2_with fail
                    go_meet
                    case rel => exact HS.out.turn HBL.out (by unfold I64; omega)
                  case rest =>
                    have HSk := hide hcut
                    clear hcut xr fr x0 x1 x2 x3 x4 x5 HS
                    obtain ⟨wk, hwk⟩ : ∃ x, x = wc := ⟨_, rfl⟩
                    subst hwk
                    have hi1 : IntKind.i64.wrap ((i : Nat) + 1 : Int) = ((i + 1 + 0 : Nat) : Int) := (i64_in _ (by omega)).trans (by omega)
                    go_wp2_with fail
                    go_loopg [8] bl (fun kz v8 wr => ∃ (j : Nat) (X : List Int) (s : Em.St) (st : Int), j ≤ bl ∧ kz = bl - j ∧ v8 = .int .i64 ((i + 1 + j : Nat) : Int) ∧ Hid (Em.runF (bL.drop j) (i + 1 + j) s st = r3) ∧ Hid (DAllS w1 gb w.heap.size cb nc cc nr v0 (.int .i64 (nr : Int)) v2 v3 v4 v5 (.slice (some ⟨bb, oo, none⟩) ln cL) X st s wr))
                    case atStart => exact ⟨0, _, _, _, Nat.zero_le _, rfl, by rfl, HR3, HSk⟩
                    case round =>
                      clear HR3 HSk
                      obtain ⟨j, X, s, st, hj, rfl, rfl, HR, HS⟩ := hrel
                      have u2 : IntKind.i64.wrap (((i + 1 + j : Nat) : Int) + 1) = ((i + 1 + (j + 1) : Nat) : Int) := (i64_in _ (by omega)).trans (by omega)
                      by_cases hjb : j < bl
                      case pos =>
                        have hjC : i + 1 + j < C.length := by have := HLN.out; omega
                        have hjB : j < bL.length := by have := HBLN.out; omega
                        obtain ⟨y0, y1, y2, y3, y4, y5⟩ := HAT2.out (i + 1 + j) hjC wr HS.out.a
                        have hix := HRS.out _ (List.getElem_mem hjC)
                        have hbj := HBb.out j hjB hjC
                        have hpj := HPL.out _ (List.getElem_mem hjB)
                        have hz := HR.out
                        rw [List.drop_eq_getElem_cons hjB] at hz
                        rw [hbj] at y0 y1 y2 y3 y4 y5 hix
                        have hlj : ((i + 1 + j : Nat) : Int) < (ln : Int) := by omega
                        have hje : ((i + 1 + j : Nat) : Int) < (EE : Int) := by have := HEE.out; omega
                        rcases hr4 : Em.one (bL[j]) s with _ | s4
                        · rw [Em.runF_none hr4] at hz
                          have HONE := hide (HS.out.stray HBL.out hix.rs hpj.1 hpj.2 hix.n hr4)
                          have HRES := hide (show (⟨s, wrap64 (st + 1), ((i + 1 + j : Nat) : Int)⟩ : Em.Res) = res by
                            have h3 := HL3.out
                            have h2 := HS2'.out
                            rw [← hz, if_neg (by show ¬ ((i + 1 + j : Nat) : Int) < 0; omega)] at h3
                            rw [← h3, if_neg (by show ¬ ((i + 1 + j : Nat) : Int) < 0; omega)] at h2
                            exact h2)
                          generalize bL[j] = z at y0 y1 y2 y3 y4 y5 HONE
                          obtain ⟨zo, zk, zr, za, zb, zn⟩ := z
                          dsimp only at y0 y1 y2 y3 y4 y5 HONE
                          clear hix hbj hpj hz hr4 HR HS hjC HL3 HS2'
                          go_wp2_with fail
                          refine HONE.out.mono ?_
                          rintro e w9 hh
                          obtain ⟨ee, hX'⟩ := hh
                          have HS3 := hide hX'
                          clear hX' y0 y1 y2 y3 y4 y5 HONE
                          subst ee
                          go_wp2
                          go_ret
                          rw [← HRES.out]
                          exact ⟨rfl, HS3.out.g, HS3.out.m, HS3.out.lm, HS3.out.wm, HA0.out _ HS3.out.a⟩
                        rw [Em.runF_some hr4] at hz
                        have HONE := hide (HS.out.one HBL.out hix.rs hpj.1 hpj.2 hix.n hr4)
                        generalize bL[j] = z at y0 y1 y2 y3 y4 y5 HONE
                        obtain ⟨zo, zk, zr, za, zb, zn⟩ := z
                        dsimp only at y0 y1 y2 y3 y4 y5 HONE
                        have HR4 := hide hz
                        clear hix hbj hpj hz hr4 HR HS hjC
                        go_wp2_with fail
                        refine HONE.out.mono ?_
                        rintro e w9 hh
                        obtain ⟨ee, X', hX'⟩ := hh
                        have HS3 := hide hX'
                        clear hX' y0 y1 y2 y3 y4 y5 HONE
                        subst ee
                        go_wp2_with fail
                        go_roundg (bl - (j + 1))
                        case measure => omega
                        case rel => exact ⟨j + 1, X', s4, _, by omega, rfl, by go_num, HR4, HS3⟩
                      case neg =>
                        have hjj : j = bl := by omega
                        subst hjj
                        have hz := HR.out
                        rw [List.drop_of_length_le (by have := HBLN.out; omega), Em.runF] at hz
                        have HL4 := hide (show Em.loopF (rn : Int) bL (i + 1) (N - (k + 1)) ((k + 1 : Nat) : Int) s (wrap64 (st + 1)) = r2 by
                          have h3 := HL3.out
                          rw [← hz, if_pos (by show (-1 : Int) < 0; decide)] at h3
                          exact h3)
                        clear HL3
                        have hje : ¬ ((i + 1 + j : Nat) : Int) < (EE : Int) := by have := HEE.out; omega
                        have hgo := HS.out.g
                        have kgo : wr.heap[gb]? = some (.cells #[v0, .int .i64 (nr : Int), v2, v3, v4, v5, .slice (some ⟨bb, oo, none⟩) ln cL, .slice (some ⟨cb, 0, none⟩) nc cc, .int .i64 st] 46 (0, 0)) := hgo
                        have g8 := cell_of kgo 8
                        have fg8 := free_of kgo 8
                        simp at g8
                        clear hgo kgo HR u2 hz
                        go_wp2_with fail
                        go_roundg (N - (k + 1))
                        case measure => omega
                        case rel => exact ⟨k + 1, X, s, _, by omega, rfl, by go_num, HL4, hide (HS.out.count HBL.out _)⟩
end Dx
end Go.Proofs.YtkgbmgpdehmiiaaDoor
