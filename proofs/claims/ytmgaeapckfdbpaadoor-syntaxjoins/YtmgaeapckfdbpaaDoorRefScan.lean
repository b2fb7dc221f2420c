
/-
  DERIVED. THE WALK of the document's own Scan.
-/
import Derived.Test.YtmgaeapckfdbpaaDoorChain
namespace Go.Proofs.YtmgaeapckfdbpaaDoor
open Go.RowKit Go.IntWalk
set_option linter.unusedVariables false
set_option linter.unusedSimpArgs false

set_option maxHeartbeats 40000000 in
set_option maxRecDepth 100000 in
theorem refScan_any (s : ByteArray) (w : World) (hlim : s.size ≤ 281474976710656) :
    Calls Tryd.prog 6 #[.string s] w fun e w' => ∃ v, e = .returned (.tuple #[v, .agg #[.int .i64 (Tk.scan s.data.toList).2.1, .int .i64 (Tk.scan s.data.toList).2.2]]) ∧
      w'.ownsRow (w.heap.size + 1) 53 4 v (Tk.scan s.data.toList).1.length (toksCells (Tk.scan s.data.toList).1) ∧ Below w.heap.size w w' := by
  have hsz : s.data.toList.length = s.size := by rw [Lib.size_eq]
  by_cases hbig : 12000 < s.size
  · have e : Tk.scan s.data.toList = ([], 7, 12000) := by simp [Tk.scan, hsz, hbig]
    rw [e]
    clear e hsz
    go_enter Tryd.func6, Tryd.ntmps6
    go_wp2_with fail
    refine (fault_any _ _ _).mono ?_
    rintro e w1 ⟨rfl, hb1⟩
    obtain ⟨hc, hf⟩ := bcell hb1
    go_wp2
    refine bodyPost_ret (v := .tuple #[.slice none 0 0, .agg #[.int .i64 7, .int .i64 12000]]) (by simp [results, Tryd.results6, go_sem, hc]) rfl ⟨_, rfl, World.ownsRow_nil _ _ _ _, ?_⟩
    exact ((((Below.refl _ w).alloc (Nat.le_refl _) _).trans (hb1.mono (by simp))).setCell (p := ⟨w.heap.size, 0, none⟩) (Nat.le_refl _) _).setCell (p := ⟨w.heap.size, 1, none⟩) (Nat.le_refl _) _
  · have hml : s.size ≤ maxLen := by unfold maxLen; omega
    obtain ⟨R, hR⟩ : ∃ R, R = Tk.scan s.data.toList := ⟨_, rfl⟩
    have HS : Hid (R = Tk.comb [] (Tk.scanB s.data.toList.length (s.data.toList.drop 0) 0)) := by
      show _ = _
      rw [hR, List.drop_zero, Tk.scan_start _ (by omega)]
      unfold Tk.scanB
      rw [Nat.zero_add]
    rw [← hR]
    clear hR hsz
    obtain ⟨i0, hi, hz0, hz1, hz2⟩ := info_parts Tryd.info53
    have hd12 : decide ((12000 : Int) < (s.size : Int)) = false := by simp; omega
    go_enter Tryd.func6, Tryd.ntmps6
    go_wp2
    go_loopw [4, 5] (fun v i wr => ∃ (acc : List Tk.Tok) (p f : Nat), p ≤ s.size ∧ i = .int .i64 p ∧ acc.length ≤ p ∧ wr.ownsRow (w.heap.size + 1) 53 4 v acc.length (toksCells acc) ∧ s.size - p ≤ f ∧
        Hid (R = Tk.comb acc (Tk.scanB f (s.data.toList.drop p) p)) ∧ Below (w.heap.size + 1) (w.alloc (.cells #[.int .i64 0, .int .i64 0] 27)) wr)
      (fun _ i _ => s.size - (intOf i).toNat)
    case atStart => exact ⟨[], 0, s.data.toList.length, Nat.zero_le _, rfl, Nat.zero_le _, World.ownsRow_nil _ _ _ _, by rw [← Lib.size_eq]; omega, HS, Below.refl _ _⟩
    case round =>
      obtain ⟨acc, p, f, hp, rfl, hacc, hown, hf, H, hbr⟩ := hrel
      obtain ⟨r0, r1, q0, q1, hzw⟩ := res_cells hbr
      clear HS
      by_cases hlt : p < s.size
      · obtain ⟨f, rfl⟩ : ∃ f', f = f' + 1 := ⟨f - 1, by omega⟩
        have HD : Hid (s.data.toList.drop p = s[p] :: s.data.toList.drop (p + 1)) := List.drop_eq_getElem_cons (by simpa using hlt)
        cases hB : Tk.isB ((s[p]).toNat : Int)
        · by_cases h35 : ((s[p]).toNat : Int) = 35
          · -- a remark
            as_aux_lemma =>
              have HM : Hid (R = Tk.comb acc (Tk.scanM (f + 1) (s.data.toList.drop p) p)) := by
                show _ = _
                rw [H.out, HD.out, Tk.scanM_hash _ _ _ _ h35]
              clear H hB
              go_wp2
              go_loop [5] (fun a => ∃ q : Nat, a = .int .i64 q ∧ p ≤ q ∧ q ≤ s.size ∧ Hid (R = Tk.comb acc (Tk.scanM (f + 1) (s.data.toList.drop q) q))) (fun a => s.size - (intOf a).toNat)
              case atStart => exact ⟨p, rfl, Nat.le_refl _, hp, HM⟩
              case round =>
                obtain ⟨q, rfl, hpq, hq, HQ⟩ := hrel
                by_cases hql : q < s.size
                · have HDQ : Hid (s.data.toList.drop q = s[q] :: s.data.toList.drop (q + 1)) := List.drop_eq_getElem_cons (by simpa using hql)
                  by_cases h10 : ((s[q]).toNat : Int) = 10
                  · have hne : p ≠ q := by
                      intro e
                      subst e
                      omega
                    have HF : Hid (R = Tk.comb acc (Tk.scanB (f + 1) (s.data.toList.drop q) q)) := by
                      show _ = _
                      rw [HQ.out, HDQ.out, Tk.scanM_nl _ _ _ _ h10]
                    have t10 : (((s[q]).toNat : Int) != 10) = false := by simp [h10]
                    clear h10 HQ HDQ HM HD
                    go_wp2
                    go_roundw
                    case rel => exact ⟨acc, q, f + 1, by omega, rfl, by omega, hown, by omega, HF, hbr⟩
                    case measure => simp [intOf]; omega
                  · have HF : Hid (R = Tk.comb acc (Tk.scanM (f + 1) (s.data.toList.drop (q + 1)) (q + 1))) := by
                      show _ = _
                      rw [HQ.out, HDQ.out, Tk.scanM_step _ _ _ _ h10]
                    have t10 : (((s[q]).toNat : Int) != 10) = true := by simp [h10]
                    clear h10 HQ HDQ HM HD
                    go_wp2
                    go_round
                    case rel => exact ⟨q + 1, by go_num, by omega, by omega, HF⟩
                    case measure => simp [intOf]; omega
                · have hqe : q = s.size := by omega
                  subst hqe
                  have HF : Hid (R = Tk.comb acc (Tk.scanB (f + 1) (s.data.toList.drop s.size) s.size)) := by
                    show _ = _
                    rw [HQ.out, List.drop_of_length_le (by rw [← Lib.size_eq]; exact Nat.le_refl _), Tk.scanM_nil]
                  clear HQ HM HD
                  go_wp2
                  go_roundw
                  case rel => exact ⟨acc, s.size, f + 1, Nat.le_refl _, rfl, by omega, hown, by omega, HF, hbr⟩
                  case measure => simp [intOf]; omega
          · have hbl := Tk.blank_none s[p] (s.data.toList.drop (p + 1)) hB h35
            have hne : s[p] :: s.data.toList.drop (p + 1) ≠ [] := by simp
            have htok := Tk.scanB_tok f _ p hne hbl
            have hbad := Tk.scanB_bad f _ p hne hbl
            have b32 : (((s[p]).toNat : Int) == 32) = false := by rw [beq_eq_false_iff_ne]; intro e; rw [e] at hB; simp [Tk.isB] at hB
            have b9 : (((s[p]).toNat : Int) == 9) = false := by rw [beq_eq_false_iff_ne]; intro e; rw [e] at hB; simp [Tk.isB] at hB
            have b10 : (((s[p]).toNat : Int) == 10) = false := by rw [beq_eq_false_iff_ne]; intro e; rw [e] at hB; simp [Tk.isB] at hB
            have b13 : (((s[p]).toNat : Int) == 13) = false := by rw [beq_eq_false_iff_ne]; intro e; rw [e] at hB; simp [Tk.isB] at hB
            have b35 : (((s[p]).toNat : Int) == 35) = false := by simpa using h35
            clear hB h35 hbl hne
            cases hL : Tk.isL ((s[p]).toNat : Int)
            · cases hD : Tk.isD ((s[p]).toNat : Int)
              · -- a sign, or nothing
                have hrd := Tk.read_sign s[p] (s.data.toList.drop (p + 1)) hL hD
                rw [hrd] at htok hbad
                by_cases h2 : Tk.signLen (s[p] :: s.data.toList.drop (p + 1)) = 2
                · obtain ⟨hp1, hT⟩ := two_yes s p hlt h2
                  have hg : Tk.readSign (s[p] :: s.data.toList.drop (p + 1)) = ⟨4, (s.data.toList.drop p).take 2, 0, 0⟩ := by
                    unfold Tk.readSign
                    rw [h2, HD.out]
                    rfl
                  obtain ⟨t, ht⟩ : ∃ t, t = (s.data.toList.drop p).take 2 := ⟨_, rfl⟩
                  have htl : t.length = 2 := by rw [ht, List.length_take, List.length_drop, ← Lib.size_eq]; omega
                  have HSTR := hide (str_take s t p 2 ht)
                  rw [hg, ← ht, ← HD.out] at htok
                  have HR : Hid (R = Tk.comb (acc ++ [⟨4, p, t, 0⟩]) (Tk.scanB f (s.data.toList.drop (p + 2)) (p + 2))) := by
                    show _ = _
                    rw [H.out, htok rfl acc, List.drop_drop, htl]
                  clear htok hbad hrd h2 hg ht H HD htl
                  as_aux_lemma =>
                    rcases hT with hT1 | ⟨hT1, hT2⟩
                    all_goals
                      go_wp2_with (first
                        | (go_at_call 12; refine (small_any _ _).mono ?_; rintro e w' ⟨rfl, rfl⟩)
                        | (go_at_call 15; refine (digit_any _ _).mono ?_; rintro e w' ⟨rfl, rfl⟩)
                        | (at_builtin; refine wpList_append_own _ rfl _ _ 30 rfl (w.heap.size + 1) 53 i0 (.agg #[.int .i64 0, .int .i64 0, .string ⟨#[]⟩, .int .i64 0]) 4 40 Tryd.underlying30 hi hz0 hz1 hz2 rfl (by decide) _ _ _ rfl (World.ownsRow.alloc (by assumption) _) ⟨_, 0, none⟩ 1 1 [.int .i64 4, .int .i64 (p : Int), .string (s.extract p (p + 2)), .int .i64 0] rfl rfl (new4 _ _ _ _ _) (by intro u hu; simp at hu; rcases hu with rfl | rfl | rfl | rfl <;> rfl) (by unfold maxLen; omega) (by omega) (by simp; omega) ?_; intro v2 w2 hown2 hgrow _))
                      obtain ⟨hown3, hbw2⟩ := next_tok HSTR.out (by assumption) (by assumption) (by assumption) hown2 hgrow
                      clear hown2 hgrow
                      go_wp2
                      go_roundw
                      case rel => exact ⟨acc ++ [⟨4, p, t, 0⟩], p + 2, f, by omega, by go_num, by simp; omega, hown3, by omega, HR, hbw2⟩
                      case measure => simp [intOf]; omega

                · have h1 := Tk.signLen_one _ _ h2
                  have hT := two_no s p hlt h2
                  cases hS : Tk.isS s[p]
                  · rw [hS] at h1
                    have hg : Tk.readSign (s[p] :: s.data.toList.drop (p + 1)) = Tk.bad 1 := by
                      unfold Tk.readSign
                      rw [h1]
                      rfl
                    rw [hg, ← HD.out] at hbad
                    have hR : R = ([], 1, (p : Int)) := by rw [H.out]; exact hbad (by simp [Tk.bad]) acc
                    subst hR
                    clear htok hbad hrd h1 h2 hg H
                    as_aux_lemma =>
                      have key : (p + 1 < s.size ∧ ((s.extract p (p + 2)).toList == [61, 61]) = false ∧ ((s.extract p (p + 2)).toList == [45, 62]) = false) ∨ decide ((p : Int) + 1 < (s.size : Int)) = false := by
                        by_cases hp1 : p + 1 < s.size
                        · exact .inl ⟨hp1, hT hp1⟩
                        · exact .inr (by simp; omega)
                      clear hT
                      rcases key with ⟨hp1, hT1, hT2⟩ | hd1
                      all_goals
                        go_upto_region 32 with (first
                          | (go_at_call 12; refine (small_any _ _).mono ?_; rintro e w' ⟨rfl, rfl⟩)
                          | (go_at_call 15; refine (digit_any _ _).mono ?_; rintro e w' ⟨rfl, rfl⟩))
                        refine wp_region_lit ?_
                        refine name_act (p := fun a => wpList Tryd.prog _ _ _ a _) ?_
                        intro a0 ha0
                        have hs6 : a0.tmps[6]? = some (.int .u8 ((s[p]).toNat : Int)) := by rw [ha0]; rfl
                        have hsz0 : 214 < a0.tmps.size := by rw [ha0]; simp only [List.size_toArray, List.length_cons, List.length_nil]; omega
                        have HA0 := hide ha0
                        clear ha0
                        refine chain_head 144 214 6 145 146 147 40 hs6 (by decide) hsz0 rfl rfl rfl rfl rfl rfl rfl rfl rfl (by decide) (by decide) (by decide) ?_
                        intro a1 k1
                        refine link 144 214 6 2 147 148 149 150 151 41 hs6 (by decide) hsz0 rfl rfl rfl (Or.inl rfl) rfl rfl rfl rfl rfl rfl rfl rfl rfl (by decide) (by decide) (by decide) (by decide) k1 ?_
                        intro a2 k2
                        clear k1
                        refine link 144 214 6 6 151 152 153 154 155 123 hs6 (by decide) hsz0 rfl rfl rfl (Or.inl rfl) rfl rfl rfl rfl rfl rfl rfl rfl rfl (by decide) (by decide) (by decide) (by decide) k2 ?_
                        intro a3 k3
                        clear k2
                        refine link 144 214 6 10 155 156 157 158 159 125 hs6 (by decide) hsz0 rfl rfl rfl (Or.inl rfl) rfl rfl rfl rfl rfl rfl rfl rfl rfl (by decide) (by decide) (by decide) (by decide) k3 ?_
                        intro a4 k4
                        clear k3
                        refine link 144 214 6 14 159 160 161 162 163 91 hs6 (by decide) hsz0 rfl rfl rfl (Or.inl rfl) rfl rfl rfl rfl rfl rfl rfl rfl rfl (by decide) (by decide) (by decide) (by decide) k4 ?_
                        intro a5 k5
                        clear k4
                        refine link 144 214 6 18 163 164 165 166 167 93 hs6 (by decide) hsz0 rfl rfl rfl (Or.inl rfl) rfl rfl rfl rfl rfl rfl rfl rfl rfl (by decide) (by decide) (by decide) (by decide) k5 ?_
                        intro a6 k6
                        clear k5
                        refine link 144 214 6 22 167 168 169 170 171 60 hs6 (by decide) hsz0 rfl rfl rfl (Or.inl rfl) rfl rfl rfl rfl rfl rfl rfl rfl rfl (by decide) (by decide) (by decide) (by decide) k6 ?_
                        intro a7 k7
                        clear k6
                        refine link 144 214 6 26 171 172 173 174 175 62 hs6 (by decide) hsz0 rfl rfl rfl (Or.inl rfl) rfl rfl rfl rfl rfl rfl rfl rfl rfl (by decide) (by decide) (by decide) (by decide) k7 ?_
                        intro a8 k8
                        clear k7
                        refine link 144 214 6 30 175 176 177 178 179 44 hs6 (by decide) hsz0 rfl rfl rfl (Or.inl rfl) rfl rfl rfl rfl rfl rfl rfl rfl rfl (by decide) (by decide) (by decide) (by decide) k8 ?_
                        intro a9 k9
                        clear k8
                        refine link 144 214 6 34 179 180 181 182 183 59 hs6 (by decide) hsz0 rfl rfl rfl (Or.inl rfl) rfl rfl rfl rfl rfl rfl rfl rfl rfl (by decide) (by decide) (by decide) (by decide) k9 ?_
                        intro a10 k10
                        clear k9
                        refine link 144 214 6 38 183 184 185 186 187 58 hs6 (by decide) hsz0 rfl rfl rfl (Or.inl rfl) rfl rfl rfl rfl rfl rfl rfl rfl rfl (by decide) (by decide) (by decide) (by decide) k10 ?_
                        intro a11 k11
                        clear k10
                        refine link 144 214 6 42 187 188 189 190 191 43 hs6 (by decide) hsz0 rfl rfl rfl (Or.inl rfl) rfl rfl rfl rfl rfl rfl rfl rfl rfl (by decide) (by decide) (by decide) (by decide) k11 ?_
                        intro a12 k12
                        clear k11
                        refine link 144 214 6 46 191 192 193 194 195 45 hs6 (by decide) hsz0 rfl rfl rfl (Or.inl rfl) rfl rfl rfl rfl rfl rfl rfl rfl rfl (by decide) (by decide) (by decide) (by decide) k12 ?_
                        intro a13 k13
                        clear k12
                        refine link 144 214 6 50 195 196 197 198 199 42 hs6 (by decide) hsz0 rfl rfl rfl (Or.inl rfl) rfl rfl rfl rfl rfl rfl rfl rfl rfl (by decide) (by decide) (by decide) (by decide) k13 ?_
                        intro a14 k14
                        clear k13
                        refine link 144 214 6 54 199 200 201 202 203 47 hs6 (by decide) hsz0 rfl rfl rfl (Or.inl rfl) rfl rfl rfl rfl rfl rfl rfl rfl rfl (by decide) (by decide) (by decide) (by decide) k14 ?_
                        intro a15 k15
                        clear k14
                        refine link 144 214 6 58 203 204 205 206 207 37 hs6 (by decide) hsz0 rfl rfl rfl (Or.inl rfl) rfl rfl rfl rfl rfl rfl rfl rfl rfl (by decide) (by decide) (by decide) (by decide) k15 ?_
                        intro a16 k16
                        clear k15
                        refine link 144 214 6 62 207 208 209 210 211 61 hs6 (by decide) hsz0 rfl rfl rfl (Or.inl rfl) rfl rfl rfl rfl rfl rfl rfl rfl rfl (by decide) (by decide) (by decide) (by decide) k16 ?_
                        intro a17 k17
                        clear k16
                        refine link 144 214 6 66 211 212 213 214 144 94 hs6 (by decide) hsz0 rfl rfl rfl (Or.inr rfl) rfl rfl rfl rfl rfl rfl rfl rfl rfl (by decide) (by decide) (by decide) (by decide) k17 ?_
                        intro a18 k18
                        clear k17
                        rw [signs_or, hS] at k18
                        obtain ⟨ys, hys, e18⟩ := kept_frame k18 (by decide) hsz0
                        obtain ⟨y1, y2, y3, y4, y5, y6, y7, y8, y9, y10, y11, y12, y13, y14, y15, y16, y17, y18, y19, y20, y21, y22, y23, y24, y25, y26, y27, y28, y29, y30, y31, y32, y33, y34, y35, y36, y37, y38, y39, y40, y41, y42, y43, y44, y45, y46, y47, y48, y49, y50, y51, y52, y53, y54, y55, y56, y57, y58, y59, y60, y61, y62, y63, y64, y65, y66, y67, y68, y69, y70, eys⟩ := split70 ys hys
                        rw [eys, unhide HA0] at e18
                        subst e18
                        clear k18 hys eys hs6 hsz0 HA0
                        refine wpList_nil ?_
                        simp only [List.take_succ_cons, List.take_zero, List.drop_succ_cons, List.drop_zero, List.cons_append, List.nil_append]
                        go_wp2_with fail
                        refine (fault_any _ _ _).mono ?_
                        rintro e w2 ⟨rfl, hb2⟩
                        have hbx := hbr.trans (hb2.mono hzw)
                        clear r0 r1 q0 q1
                        obtain ⟨r0, r1, q0, q1, hzx⟩ := res_cells hbx
                        clear hbr hb2
                        go_wp2
                        refine bodyPost_ret (v := .tuple #[.slice none 0 0, .agg #[.int .i64 1, .int .i64 (p : Int)]]) (by simp [results, Tryd.results6, go_sem, r0, r1, hzx]) rfl ⟨_, rfl, World.ownsRow_nil _ _ _ _, ?_⟩
                        exact ((((Below.refl _ w).alloc (Nat.le_refl _) _).trans (hbx.mono (Nat.le_succ _))).setCell (p := ⟨w.heap.size, 0, none⟩) (Nat.le_refl _) _).setCell (p := ⟨w.heap.size, 1, none⟩) (Nat.le_refl _) _

                  · rw [hS] at h1
                    have hg : Tk.readSign (s[p] :: s.data.toList.drop (p + 1)) = ⟨4, (s.data.toList.drop p).take 1, 0, 0⟩ := by
                      unfold Tk.readSign
                      rw [h1, HD.out]
                      rfl
                    obtain ⟨t, ht⟩ : ∃ t, t = (s.data.toList.drop p).take 1 := ⟨_, rfl⟩
                    have htl : t.length = 1 := by rw [ht, List.length_take, List.length_drop, ← Lib.size_eq]; omega
                    have HSTR := hide (str_take s t p 1 ht)
                    rw [hg, ← ht, ← HD.out] at htok
                    have HR : Hid (R = Tk.comb (acc ++ [⟨4, p, t, 0⟩]) (Tk.scanB f (s.data.toList.drop (p + 1)) (p + 1))) := by
                      show _ = _
                      rw [H.out, htok rfl acc, List.drop_drop, htl]
                    clear htok hbad hrd h1 h2 hg ht H HD htl
                    as_aux_lemma =>
                      have key : (p + 1 < s.size ∧ ((s.extract p (p + 2)).toList == [61, 61]) = false ∧ ((s.extract p (p + 2)).toList == [45, 62]) = false) ∨ decide ((p : Int) + 1 < (s.size : Int)) = false := by
                        by_cases hp1 : p + 1 < s.size
                        · exact .inl ⟨hp1, hT hp1⟩
                        · exact .inr (by simp; omega)
                      clear hT
                      rcases key with ⟨hp1, hT1, hT2⟩ | hd1
                      all_goals
                        go_upto_region 32 with (first
                          | (go_at_call 12; refine (small_any _ _).mono ?_; rintro e w' ⟨rfl, rfl⟩)
                          | (go_at_call 15; refine (digit_any _ _).mono ?_; rintro e w' ⟨rfl, rfl⟩))
                        refine wp_region_lit ?_
                        refine name_act (p := fun a => wpList Tryd.prog _ _ _ a _) ?_
                        intro a0 ha0
                        have hs6 : a0.tmps[6]? = some (.int .u8 ((s[p]).toNat : Int)) := by rw [ha0]; rfl
                        have hsz0 : 214 < a0.tmps.size := by rw [ha0]; simp only [List.size_toArray, List.length_cons, List.length_nil]; omega
                        have HA0 := hide ha0
                        clear ha0
                        refine chain_head 144 214 6 145 146 147 40 hs6 (by decide) hsz0 rfl rfl rfl rfl rfl rfl rfl rfl rfl (by decide) (by decide) (by decide) ?_
                        intro a1 k1
                        refine link 144 214 6 2 147 148 149 150 151 41 hs6 (by decide) hsz0 rfl rfl rfl (Or.inl rfl) rfl rfl rfl rfl rfl rfl rfl rfl rfl (by decide) (by decide) (by decide) (by decide) k1 ?_
                        intro a2 k2
                        clear k1
                        refine link 144 214 6 6 151 152 153 154 155 123 hs6 (by decide) hsz0 rfl rfl rfl (Or.inl rfl) rfl rfl rfl rfl rfl rfl rfl rfl rfl (by decide) (by decide) (by decide) (by decide) k2 ?_
                        intro a3 k3
                        clear k2
                        refine link 144 214 6 10 155 156 157 158 159 125 hs6 (by decide) hsz0 rfl rfl rfl (Or.inl rfl) rfl rfl rfl rfl rfl rfl rfl rfl rfl (by decide) (by decide) (by decide) (by decide) k3 ?_
                        intro a4 k4
                        clear k3
                        refine link 144 214 6 14 159 160 161 162 163 91 hs6 (by decide) hsz0 rfl rfl rfl (Or.inl rfl) rfl rfl rfl rfl rfl rfl rfl rfl rfl (by decide) (by decide) (by decide) (by decide) k4 ?_
                        intro a5 k5
                        clear k4
                        refine link 144 214 6 18 163 164 165 166 167 93 hs6 (by decide) hsz0 rfl rfl rfl (Or.inl rfl) rfl rfl rfl rfl rfl rfl rfl rfl rfl (by decide) (by decide) (by decide) (by decide) k5 ?_
                        intro a6 k6
                        clear k5
                        refine link 144 214 6 22 167 168 169 170 171 60 hs6 (by decide) hsz0 rfl rfl rfl (Or.inl rfl) rfl rfl rfl rfl rfl rfl rfl rfl rfl (by decide) (by decide) (by decide) (by decide) k6 ?_
                        intro a7 k7
                        clear k6
                        refine link 144 214 6 26 171 172 173 174 175 62 hs6 (by decide) hsz0 rfl rfl rfl (Or.inl rfl) rfl rfl rfl rfl rfl rfl rfl rfl rfl (by decide) (by decide) (by decide) (by decide) k7 ?_
                        intro a8 k8
                        clear k7
                        refine link 144 214 6 30 175 176 177 178 179 44 hs6 (by decide) hsz0 rfl rfl rfl (Or.inl rfl) rfl rfl rfl rfl rfl rfl rfl rfl rfl (by decide) (by decide) (by decide) (by decide) k8 ?_
                        intro a9 k9
                        clear k8
                        refine link 144 214 6 34 179 180 181 182 183 59 hs6 (by decide) hsz0 rfl rfl rfl (Or.inl rfl) rfl rfl rfl rfl rfl rfl rfl rfl rfl (by decide) (by decide) (by decide) (by decide) k9 ?_
                        intro a10 k10
                        clear k9
                        refine link 144 214 6 38 183 184 185 186 187 58 hs6 (by decide) hsz0 rfl rfl rfl (Or.inl rfl) rfl rfl rfl rfl rfl rfl rfl rfl rfl (by decide) (by decide) (by decide) (by decide) k10 ?_
                        intro a11 k11
                        clear k10
                        refine link 144 214 6 42 187 188 189 190 191 43 hs6 (by decide) hsz0 rfl rfl rfl (Or.inl rfl) rfl rfl rfl rfl rfl rfl rfl rfl rfl (by decide) (by decide) (by decide) (by decide) k11 ?_
                        intro a12 k12
                        clear k11
                        refine link 144 214 6 46 191 192 193 194 195 45 hs6 (by decide) hsz0 rfl rfl rfl (Or.inl rfl) rfl rfl rfl rfl rfl rfl rfl rfl rfl (by decide) (by decide) (by decide) (by decide) k12 ?_
                        intro a13 k13
                        clear k12
                        refine link 144 214 6 50 195 196 197 198 199 42 hs6 (by decide) hsz0 rfl rfl rfl (Or.inl rfl) rfl rfl rfl rfl rfl rfl rfl rfl rfl (by decide) (by decide) (by decide) (by decide) k13 ?_
                        intro a14 k14
                        clear k13
                        refine link 144 214 6 54 199 200 201 202 203 47 hs6 (by decide) hsz0 rfl rfl rfl (Or.inl rfl) rfl rfl rfl rfl rfl rfl rfl rfl rfl (by decide) (by decide) (by decide) (by decide) k14 ?_
                        intro a15 k15
                        clear k14
                        refine link 144 214 6 58 203 204 205 206 207 37 hs6 (by decide) hsz0 rfl rfl rfl (Or.inl rfl) rfl rfl rfl rfl rfl rfl rfl rfl rfl (by decide) (by decide) (by decide) (by decide) k15 ?_
                        intro a16 k16
                        clear k15
                        refine link 144 214 6 62 207 208 209 210 211 61 hs6 (by decide) hsz0 rfl rfl rfl (Or.inl rfl) rfl rfl rfl rfl rfl rfl rfl rfl rfl (by decide) (by decide) (by decide) (by decide) k16 ?_
                        intro a17 k17
                        clear k16
                        refine link 144 214 6 66 211 212 213 214 144 94 hs6 (by decide) hsz0 rfl rfl rfl (Or.inr rfl) rfl rfl rfl rfl rfl rfl rfl rfl rfl (by decide) (by decide) (by decide) (by decide) k17 ?_
                        intro a18 k18
                        clear k17
                        rw [signs_or, hS] at k18
                        obtain ⟨ys, hys, e18⟩ := kept_frame k18 (by decide) hsz0
                        obtain ⟨y1, y2, y3, y4, y5, y6, y7, y8, y9, y10, y11, y12, y13, y14, y15, y16, y17, y18, y19, y20, y21, y22, y23, y24, y25, y26, y27, y28, y29, y30, y31, y32, y33, y34, y35, y36, y37, y38, y39, y40, y41, y42, y43, y44, y45, y46, y47, y48, y49, y50, y51, y52, y53, y54, y55, y56, y57, y58, y59, y60, y61, y62, y63, y64, y65, y66, y67, y68, y69, y70, eys⟩ := split70 ys hys
                        rw [eys, unhide HA0] at e18
                        subst e18
                        clear k18 hys eys hs6 hsz0 HA0
                        refine wpList_nil ?_
                        simp only [List.take_succ_cons, List.take_zero, List.drop_succ_cons, List.drop_zero, List.cons_append, List.nil_append]
                        go_wp2_with (at_builtin; refine wpList_append_own _ rfl _ _ 30 rfl (w.heap.size + 1) 53 i0 (.agg #[.int .i64 0, .int .i64 0, .string ⟨#[]⟩, .int .i64 0]) 4 40 Tryd.underlying30 hi hz0 hz1 hz2 rfl (by decide) _ _ _ rfl (World.ownsRow.alloc (by assumption) _) ⟨_, 0, none⟩ 1 1 [.int .i64 4, .int .i64 (p : Int), .string (s.extract p (p + 1)), .int .i64 0] rfl rfl (new4 _ _ _ _ _) (by intro u hu; simp at hu; rcases hu with rfl | rfl | rfl | rfl <;> rfl) (by unfold maxLen; omega) (by omega) (by simp; omega) ?_; intro v2 w2 hown2 hgrow _)
                        obtain ⟨hown3, hbw2⟩ := next_tok HSTR.out (by assumption) (by assumption) (by assumption) hown2 hgrow
                        clear hown2 hgrow
                        go_wp2
                        go_roundw
                        case rel => exact ⟨acc ++ [⟨4, p, t, 0⟩], p + 1, f, by omega, by go_num, by simp; omega, hown3, by omega, HR, hbw2⟩
                        case measure => simp [intOf]; omega

              · -- a number
                have hrd := Tk.read_num s[p] (s.data.toList.drop (p + 1)) hD
                rw [hrd, ← HD.out] at htok hbad
                obtain ⟨rl, hrl⟩ : ∃ rl, rl = Tk.runLen (s.data.toList.drop p) := ⟨_, rfl⟩
                rw [← hrl] at htok hbad
                have hrl0 : 0 < rl := by rw [hrl, HD.out]; exact Tk.run_pos _ _ (by simp [Tk.isR, hD])
                have hrl1 : rl ≤ s.size - p := by have := Tk.runLen_le (s.data.toList.drop p); rw [List.length_drop, ← Lib.size_eq] at this; omega
                have HRL := hide hrl
                obtain ⟨t, ht⟩ : ∃ t, t = (s.data.toList.drop p).take rl := ⟨_, rfl⟩
                have htl : t.length = rl := by rw [ht, List.length_take, List.length_drop, ← Lib.size_eq]; omega
                have hstr := str_take s t p rl ht
                have het : (s.extract p (p + rl)).data.toList = t := by rw [extract_list, Nat.add_sub_cancel_left, ht]
                rw [← ht] at htok hbad
                have HET := hide het
                have HSTR := hide hstr
                clear hrl hrd ht het hstr
                obtain ⟨nv, hnv⟩ : ∃ nv, nv = numR t := ⟨_, rfl⟩
                have HNV := hide hnv
                by_cases hn : nv < 0
                · have hg : Tk.readNum t = Tk.bad 2 := readNum_neg t (by rw [← hnv]; exact hn)
                  rw [hg] at hbad
                  have hR : R = ([], 2, (p : Int)) := by rw [H.out]; exact hbad (by simp [Tk.bad]) acc
                  subst hR
                  clear htok hbad hg H htl hnv
                  as_aux_lemma =>
                    go_wp2_with (first
                      | (go_at_call 12; refine (small_any _ _).mono ?_; rintro e w' ⟨rfl, rfl⟩)
                      | (go_at_call 15; refine (digit_any _ _).mono ?_; rintro e w' ⟨rfl, rfl⟩))
                    refine (long_any _ _ _ hml hp).mono ?_
                    rintro e w' ⟨he, rfl⟩
                    rw [← unhide HRL] at he
                    subst he
                    go_wp2_with fail
                    refine (num_any _ _ (by rw [ByteArray.size_extract]; unfold maxLen; omega)).mono ?_
                    rintro e w' ⟨he, rfl⟩
                    rw [unhide HET, ← unhide HNV] at he
                    subst he
                    go_wp2_with fail
                    refine (fault_any _ _ _).mono ?_
                    rintro e w2 ⟨rfl, hb2⟩
                    have hbx := hbr.trans (hb2.mono hzw)
                    clear r0 r1 q0 q1
                    obtain ⟨r0, r1, q0, q1, hzx⟩ := res_cells hbx
                    clear hbr hb2
                    go_wp2
                    refine bodyPost_ret (v := .tuple #[.slice none 0 0, .agg #[.int .i64 2, .int .i64 (p : Int)]]) (by simp [results, Tryd.results6, go_sem, r0, r1, hzx]) rfl ⟨_, rfl, World.ownsRow_nil _ _ _ _, ?_⟩
                    exact ((((Below.refl _ w).alloc (Nat.le_refl _) _).trans (hbx.mono (Nat.le_succ _))).setCell (p := ⟨w.heap.size, 0, none⟩) (Nat.le_refl _) _).setCell (p := ⟨w.heap.size, 1, none⟩) (Nat.le_refl _) _

                · have hg : Tk.readNum t = ⟨3, t, nv, 0⟩ := by rw [hnv]; exact readNum_pos t (by rw [← hnv]; exact hn)
                  rw [hg] at htok
                  have HR : Hid (R = Tk.comb (acc ++ [⟨3, p, t, nv⟩]) (Tk.scanB f (s.data.toList.drop (p + rl)) (p + rl))) := by
                    show _ = _
                    rw [H.out, htok rfl acc, List.drop_drop, htl]
                  clear htok hbad hg H htl hnv
                  as_aux_lemma =>
                    go_wp2_with (first
                      | (go_at_call 12; refine (small_any _ _).mono ?_; rintro e w' ⟨rfl, rfl⟩)
                      | (go_at_call 15; refine (digit_any _ _).mono ?_; rintro e w' ⟨rfl, rfl⟩))
                    refine (long_any _ _ _ hml hp).mono ?_
                    rintro e w' ⟨he, rfl⟩
                    rw [← unhide HRL] at he
                    subst he
                    go_wp2_with fail
                    refine (num_any _ _ (by rw [ByteArray.size_extract]; unfold maxLen; omega)).mono ?_
                    rintro e w1 ⟨he, rfl⟩
                    rw [unhide HET, ← unhide HNV] at he
                    subst he
                    clear r0 r1 q0 q1
                    go_wp2_with (at_builtin; refine wpList_append_own _ rfl _ _ 30 rfl (w.heap.size + 1) 53 i0 (.agg #[.int .i64 0, .int .i64 0, .string ⟨#[]⟩, .int .i64 0]) 4 40 Tryd.underlying30 hi hz0 hz1 hz2 rfl (by decide) _ _ _ rfl (hown.alloc _) ⟨w1.heap.size, 0, none⟩ 1 1 [.int .i64 3, .int .i64 (p : Int), .string (s.extract p (p + rl)), .int .i64 nv] rfl rfl (new4 _ _ _ _ _) (by intro u hu; simp at hu; rcases hu with rfl | rfl | rfl | rfl <;> rfl) (by unfold maxLen; omega) (by omega) (by simp; omega) ?_)
                    intro v2 w2 hown2 hgrow _
                    obtain ⟨hown3, hbw2⟩ := next_tok HSTR.out hown hbr hzw hown2 hgrow
                    clear hown2 hgrow hown hbr
                    go_wp2
                    go_roundw
                    case rel => exact ⟨acc ++ [⟨3, p, t, nv⟩], p + rl, f, by omega, by go_num, by simp; omega, hown3, by omega, HR, hbw2⟩
                    case measure => simp [intOf]; omega

            · -- a word or a name
              have hrd := Tk.read_name s[p] (s.data.toList.drop (p + 1)) hL
              rw [hrd, ← HD.out] at htok hbad
              obtain ⟨rl, hrl⟩ : ∃ rl, rl = Tk.runLen (s.data.toList.drop p) := ⟨_, rfl⟩
              rw [← hrl] at htok hbad
              have hrl0 : 0 < rl := by rw [hrl, HD.out]; exact Tk.run_pos _ _ (by simp [Tk.isR, hL])
              have hrl1 : rl ≤ s.size - p := by have := Tk.runLen_le (s.data.toList.drop p); rw [List.length_drop, ← Lib.size_eq] at this; omega
              have HRL := hide hrl
              obtain ⟨t, ht⟩ : ∃ t, t = (s.data.toList.drop p).take rl := ⟨_, rfl⟩
              have htl : t.length = rl := by rw [ht, List.length_take, List.length_drop, ← Lib.size_eq]; omega
              have hstr := str_take s t p rl ht
              have het : (s.extract p (p + rl)).data.toList = t := by rw [extract_list, Nat.add_sub_cancel_left, ht]
              rw [← ht] at htok hbad
              have HET := hide het
              have HSTR := hide hstr
              clear hrl hrd ht het hstr
              cases hW : Tk.isWord t
              · by_cases h12 : 12 < rl
                · have hg : Tk.readName t = Tk.bad 3 := by simp [Tk.readName, hW, htl, h12]
                  rw [hg] at hbad
                  have hR : R = ([], 3, (p : Int)) := by rw [H.out]; exact hbad (by simp [Tk.bad]) acc
                  subst hR
                  clear htok hbad hg H htl
                  as_aux_lemma =>
                    go_wp2_with (go_at_call 12; refine (small_any _ _).mono ?_; rintro e w' ⟨rfl, rfl⟩)
                    refine (long_any _ _ _ hml hp).mono ?_
                    rintro e w' ⟨he, rfl⟩
                    rw [← unhide HRL] at he
                    subst he
                    go_wp2_with fail
                    refine (isWord_any _ _).mono ?_
                    rintro e w1 ⟨he, hb1⟩
                    rw [unhide HET, hW] at he
                    subst he
                    have hbw := hbr.trans (hb1.mono hzw)
                    have hzw1 : w.heap.size < w1.heap.size := by have := hb1.size; omega
                    clear r0 r1 q0 q1 hown hbr hb1
                    go_wp2_with fail
                    refine (fault_any _ _ _).mono ?_
                    rintro e w2 ⟨rfl, hb2⟩
                    have hbx := hbw.trans (hb2.mono hzw1)
                    obtain ⟨r0, r1, q0, q1, hzx⟩ := res_cells hbx
                    clear hbw hb2
                    go_wp2
                    refine bodyPost_ret (v := .tuple #[.slice none 0 0, .agg #[.int .i64 3, .int .i64 (p : Int)]]) (by simp [results, Tryd.results6, go_sem, r0, r1, hzx]) rfl ⟨_, rfl, World.ownsRow_nil _ _ _ _, ?_⟩
                    exact ((((Below.refl _ w).alloc (Nat.le_refl _) _).trans (hbx.mono (Nat.le_succ _))).setCell (p := ⟨w.heap.size, 0, none⟩) (Nat.le_refl _) _).setCell (p := ⟨w.heap.size, 1, none⟩) (Nat.le_refl _) _
                · have hg : Tk.readName t = ⟨2, t, 0, 0⟩ := by simp [Tk.readName, hW, htl, h12]
                  rw [hg] at htok
                  have HR : Hid (R = Tk.comb (acc ++ [⟨2, p, t, 0⟩]) (Tk.scanB f (s.data.toList.drop (p + rl)) (p + rl))) := by
                    show _ = _
                    rw [H.out, htok rfl acc, List.drop_drop, htl]
                  clear htok hbad hg H htl
                  as_aux_lemma =>
                    go_wp2_with (go_at_call 12; refine (small_any _ _).mono ?_; rintro e w' ⟨rfl, rfl⟩)
                    refine (long_any _ _ _ hml hp).mono ?_
                    rintro e w' ⟨he, rfl⟩
                    rw [← unhide HRL] at he
                    subst he
                    go_wp2_with fail
                    refine (isWord_any _ _).mono ?_
                    rintro e w1 ⟨he, hb1⟩
                    rw [unhide HET, hW] at he
                    subst he
                    have hbw := hbr.trans (hb1.mono hzw)
                    have hown1 := ownsRow_below hown hb1
                    have hzw1 : w.heap.size < w1.heap.size := by have := hb1.size; omega
                    clear r0 r1 q0 q1 hown hbr hb1
                    go_wp2_with (at_builtin; refine wpList_append_own _ rfl _ _ 30 rfl (w.heap.size + 1) 53 i0 (.agg #[.int .i64 0, .int .i64 0, .string ⟨#[]⟩, .int .i64 0]) 4 40 Tryd.underlying30 hi hz0 hz1 hz2 rfl (by decide) _ _ _ rfl (hown1.alloc _) ⟨w1.heap.size, 0, none⟩ 1 1 [.int .i64 2, .int .i64 (p : Int), .string (s.extract p (p + rl)), .int .i64 0] rfl rfl (new4 _ _ _ _ _) (by intro u hu; simp at hu; rcases hu with rfl | rfl | rfl | rfl <;> rfl) (by unfold maxLen; omega) (by omega) (by simp; omega) ?_)
                    intro v2 w2 hown2 hgrow _
                    obtain ⟨hown3, hbw2⟩ := next_tok HSTR.out hown1 hbw hzw1 hown2 hgrow
                    clear hown2 hgrow hown1 hbw
                    go_wp2
                    go_roundw
                    case rel => exact ⟨acc ++ [⟨2, p, t, 0⟩], p + rl, f, by omega, by go_num, by simp; omega, hown3, by omega, HR, hbw2⟩
                    case measure => simp [intOf]; omega
              · have hg : Tk.readName t = ⟨1, t, 0, 0⟩ := by simp [Tk.readName, hW]
                rw [hg] at htok
                have HR : Hid (R = Tk.comb (acc ++ [⟨1, p, t, 0⟩]) (Tk.scanB f (s.data.toList.drop (p + rl)) (p + rl))) := by
                  show _ = _
                  rw [H.out, htok rfl acc, List.drop_drop, htl]
                clear htok hbad hg H htl
                as_aux_lemma =>
                  go_wp2_with (go_at_call 12; refine (small_any _ _).mono ?_; rintro e w' ⟨rfl, rfl⟩)
                  refine (long_any _ _ _ hml hp).mono ?_
                  rintro e w' ⟨he, rfl⟩
                  rw [← unhide HRL] at he
                  subst he
                  go_wp2_with fail
                  refine (isWord_any _ _).mono ?_
                  rintro e w1 ⟨he, hb1⟩
                  rw [unhide HET, hW] at he
                  subst he
                  have hbw := hbr.trans (hb1.mono hzw)
                  have hown1 := ownsRow_below hown hb1
                  have hzw1 : w.heap.size < w1.heap.size := by have := hb1.size; omega
                  clear r0 r1 q0 q1 hown hbr hb1
                  go_wp2_with (at_builtin; refine wpList_append_own _ rfl _ _ 30 rfl (w.heap.size + 1) 53 i0 (.agg #[.int .i64 0, .int .i64 0, .string ⟨#[]⟩, .int .i64 0]) 4 40 Tryd.underlying30 hi hz0 hz1 hz2 rfl (by decide) _ _ _ rfl (hown1.alloc _) ⟨w1.heap.size, 0, none⟩ 1 1 [.int .i64 1, .int .i64 (p : Int), .string (s.extract p (p + rl)), .int .i64 0] rfl rfl (new4 _ _ _ _ _) (by intro u hu; simp at hu; rcases hu with rfl | rfl | rfl | rfl <;> rfl) (by unfold maxLen; omega) (by omega) (by simp; omega) ?_)
                  intro v2 w2 hown2 hgrow _
                  obtain ⟨hown3, hbw2⟩ := next_tok HSTR.out hown1 hbw hzw1 hown2 hgrow
                  clear hown2 hgrow hown1 hbw
                  go_wp2
                  go_roundw
                  case rel => exact ⟨acc ++ [⟨1, p, t, 0⟩], p + rl, f, by omega, by go_num, by simp; omega, hown3, by omega, HR, hbw2⟩
                  case measure => simp [intOf]; omega
        · -- a blank
          have hst := Tk.scanB_blank (f + 1) s[p] (s.data.toList.drop (p + 1)) p hB
          have HR : Hid (R = Tk.comb acc (Tk.scanB (f + 1) (s.data.toList.drop (p + 1)) (p + 1))) := by
            show _ = _
            rw [H.out, HD.out, hst]
          have hcase : ((s[p]).toNat : Int) = 32 ∨ ((s[p]).toNat : Int) = 9 ∨ ((s[p]).toNat : Int) = 10 ∨ ((s[p]).toNat : Int) = 13 := by
            simp [Tk.isB] at hB
            omega
          clear hst hB H HD
          as_aux_lemma =>
            rcases hcase with h | h | h | h
            all_goals
              go_wp2
              go_roundw
              case rel => exact ⟨acc, p + 1, f + 1, by omega, by go_num, by omega, hown, by omega, HR, hbr⟩
              case measure => simp [intOf]; omega
      · have hpe : p = s.size := by omega
        subst hpe
        have hR : R = (acc, 0, 0) := by rw [H.out, List.drop_of_length_le (by rw [← Lib.size_eq]; exact Nat.le_refl _), Tk.scanB_end]
        subst hR
        clear H
        go_wp2
        refine bodyPost_ret (v := .tuple #[u4, .agg #[.int .i64 0, .int .i64 0]]) (by simp [results, Tryd.results6, go_sem, r0, r1, hzw]) rfl ⟨_, rfl, ?_, ?_⟩
        · exact ownsRow_setCell_below (ownsRow_setCell_below hown (by simp) _) (by simp) _
        · exact ((((Below.refl _ w).alloc (Nat.le_refl _) _).trans (hbr.mono (Nat.le_succ _))).setCell (by simp) _).setCell (by simp) _

end Go.Proofs.YtmgaeapckfdbpaaDoor
