/-
  DERIVED. THE WALK of sizeGreat.
-/
import Derived.Test.YtjpjedigajiomaaSzG
namespace Go.Proofs.Ytjpjedigajiomaa
open Go.Shelf Go.RowKit Go.Lib Go.IntWalk Go.Maps
set_option linter.unusedVariables false
set_option linter.unusedSimpArgs false
set_option maxRecDepth 100000

/-- not too great -/
structure NotG (s : List Tm) (names : List ByteArray) (L : List (List Tm)) : Prop where
  hs : s.length ≤ 1100
  hn : names.length ≤ 100
  hl : L.length ≤ 100
  ss : ∀ t ∈ s, t.2.size ≤ 100
  ns : ∀ x ∈ names, x.size ≤ 100
  ls : ∀ m ∈ L, m.length ≤ 1100

/-- what sizeGreat tells -/
structure GrE (s : List Tm) (names : List ByteArray) (L : List (List Tm)) (w : World) (e : Ending) (w' : World) : Prop where
  out : (e = .returned (.bool true) ∨ (e = .returned (.bool false) ∧ NotG s names L)) ∧ w' = w

set_option maxHeartbeats 8000000 in
theorem great_any {ok okn okl : Nat → Prop} {w : World} {v vn vl : Value} {s : List Tm} {names : List ByteArray} {L : List (List Tm)} (hs : HTerms ok w v s) (hn : HNames okn w vn names) (hL : HSizes okl w vl L) :
    Calls Try.prog 7 #[v, vn, vl] w fun e w' => GrE s names L w e w' := by
  obtain ⟨ao, cap, rfl, hc1, hc2, hat⟩ := hs.at
  obtain ⟨an, cn, rfl, hn1, hn2, hnat⟩ := hn.at
  obtain ⟨aL, cL, rfl, hL1, hL2, hLat⟩ := hL.at
  unfold maxLen at hc2 hn2 hL2
  have HAT := hide hat
  have HNAT := hide hnat
  have HLAT := hide hLat
  clear hs hn hL hat hnat hLat
  by_cases h1 : 1100 < s.length
  · have h1I : (1100 : Int) < (s.length : Int) := by omega
    go_enter Try.func7, Try.ntmps7
    go_wp2
    go_ret
    exact ⟨⟨.inl rfl, rfl⟩⟩
  by_cases h2 : 100 < names.length
  · have h1I : ¬ (1100 : Int) < (s.length : Int) := by omega
    have h2I : (100 : Int) < (names.length : Int) := by omega
    go_enter Try.func7, Try.ntmps7
    go_wp2
    go_ret
    exact ⟨⟨.inl rfl, rfl⟩⟩
  by_cases h3 : 100 < L.length
  · have h1I : ¬ (1100 : Int) < (s.length : Int) := by omega
    have h2I : ¬ (100 : Int) < (names.length : Int) := by omega
    have h3I : (100 : Int) < (L.length : Int) := by omega
    go_enter Try.func7, Try.ntmps7
    go_wp2
    go_ret
    exact ⟨⟨.inl rfl, rfl⟩⟩
  have h1I : ¬ (1100 : Int) < (s.length : Int) := by omega
  have h2I : ¬ (100 : Int) < (names.length : Int) := by omega
  have h3I : ¬ (100 : Int) < (L.length : Int) := by omega
  go_enter Try.func7, Try.ntmps7
  go_upto_block 0 with fail
  go_cut [7] (fun _ wd => Hid (∀ t ∈ s, t.2.size ≤ 100) ∧ wd = w)
  case first =>
    go_wp2_with fail
    go_loopg [7] s.length (fun gh s7 wr => ∃ i : Nat, s7 = .int .i64 (i : Int) ∧ i ≤ s.length ∧ s.length ≤ gh + i ∧ Hid (∀ j (hj : j < s.length), j < i → (s[j]).2.size ≤ 100) ∧ wr = w)
    case atStart => exact ⟨0, rfl, by omega, by omega, hide (fun j hj h => absurd h (Nat.not_lt_zero _)), rfl⟩
    case round =>
      obtain ⟨i, rfl, his, hgi, HI, rfl⟩ := hrel
      by_cases hlt : i < s.length
      case neg =>
        have hge : ¬ (i : Int) < (s.length : Int) := by omega
        go_wp2_with fail
        go_meet
        case rel => exact ⟨hide (fun t ht => by
          obtain ⟨j, hj, rfl⟩ := List.mem_iff_getElem.1 ht
          exact HI.out j hj (by omega)), rfl⟩
      case pos =>
        have hltI : (i : Int) < (s.length : Int) := by omega
        obtain ⟨b, o, rfl, hb, c0, c1⟩ := HAT.out i hlt
        have HI2 := hide (fun (h : (s[i]).2.size ≤ 100) j (hj : j < s.length) (hji : j < i + 1) => (show (s[j]).2.size ≤ 100 by
          by_cases e : j = i
          · subst e; exact h
          · exact HI.out j hj (by omega)))
        generalize s[i] = t at c0 c1 HI2
        by_cases hz : 100 < t.2.size
        · have hzI : (100 : Int) < (t.2.size : Int) := by omega
          go_wp2
          go_ret
          exact ⟨⟨.inl rfl, rfl⟩⟩
        · have hzI : ¬ (100 : Int) < (t.2.size : Int) := by omega
          go_wp2_with fail
          go_roundg (gk - 1)
          case measure => omega
          case rel => exact ⟨i + 1, by go_num, by omega, by omega, hide (HI2.out (by omega)), rfl⟩
  case rest =>
    obtain ⟨HSS, rfl⟩ := hcut
    go_upto_block 2 with fail
    go_cut [8] (fun _ wd => Hid (∀ x ∈ names, x.size ≤ 100) ∧ wd = wc)
    case first =>
      go_wp2_with fail
      go_loopg [8] names.length (fun gh s7 wr => ∃ i : Nat, s7 = .int .i64 (i : Int) ∧ i ≤ names.length ∧ names.length ≤ gh + i ∧ Hid (∀ j (hj : j < names.length), j < i → (names[j]).size ≤ 100) ∧ wr = wc)
      case atStart => exact ⟨0, rfl, by omega, by omega, hide (fun j hj h => absurd h (Nat.not_lt_zero _)), rfl⟩
      case round =>
        obtain ⟨i, rfl, his, hgi, HI, rfl⟩ := hrel
        by_cases hlt : i < names.length
        case neg =>
          have hge : ¬ (i : Int) < (names.length : Int) := by omega
          go_wp2_with fail
          go_meet
          case rel => exact ⟨hide (fun t ht => by
            obtain ⟨j, hj, rfl⟩ := List.mem_iff_getElem.1 ht
            exact HI.out j hj (by omega)), rfl⟩
        case pos =>
          have hltI : (i : Int) < (names.length : Int) := by omega
          obtain ⟨b, o, rfl, hb, c0⟩ := HNAT.out i hlt
          have HI2 := hide (fun (h : (names[i]).size ≤ 100) j (hj : j < names.length) (hji : j < i + 1) => (show (names[j]).size ≤ 100 by
            by_cases e : j = i
            · subst e; exact h
            · exact HI.out j hj (by omega)))
          generalize names[i] = t at c0 HI2
          by_cases hz : 100 < t.size
          · have hzI : (100 : Int) < (t.size : Int) := by omega
            go_wp2
            go_ret
            exact ⟨⟨.inl rfl, rfl⟩⟩
          · have hzI : ¬ (100 : Int) < (t.size : Int) := by omega
            go_wp2_with fail
            go_roundg (gk - 1)
            case measure => omega
            case rel => exact ⟨i + 1, by go_num, by omega, by omega, hide (HI2.out (by omega)), rfl⟩
    case rest =>
      obtain ⟨HNS, rfl⟩ := hcut
      obtain ⟨wo, hwo⟩ : ∃ wo, wo = wc := ⟨_, rfl⟩
      subst hwo
      go_wp2_with fail
      go_loopg [9, 10] L.length (fun gh s9 _ wr => ∃ i : Nat, s9 = .int .i64 (i : Int) ∧ i ≤ L.length ∧ L.length ≤ gh + i ∧ Hid (∀ j (hj : j < L.length), j < i → (L[j]).length ≤ 1100) ∧ wr = wo)
      case atStart => exact ⟨0, rfl, by omega, by omega, hide (fun j hj h => absurd h (Nat.not_lt_zero _)), rfl⟩
      case round =>
        obtain ⟨i, rfl, his, hgi, HI, rfl⟩ := hrel
        by_cases hlt : i < L.length
        case neg =>
          have hge : ¬ (i : Int) < (L.length : Int) := by omega
          go_wp2
          go_ret
          exact ⟨⟨.inr ⟨rfl, ⟨by omega, by omega, by omega, HSS.out, HNS.out, fun m hm => by
            obtain ⟨j, hj, rfl⟩ := List.mem_iff_getElem.1 hm
            exact HI.out j hj (by omega)⟩⟩, rfl⟩⟩
        case pos =>
          have hltI : (i : Int) < (L.length : Int) := by omega
          obtain ⟨b, o, au, nu, cu, rfl, hb, c0, hTu⟩ := HLAT.out i hlt
          obtain ⟨au', cu', ev4, hu1, hu2, hmat⟩ := hTu.at
          injection ev4 with ev5 ev6 ev7
          subst ev6
          subst ev5
          have HI2 := hide (fun (h : (L[i]).length ≤ 1100) j (hj : j < L.length) (hji : j < i + 1) => (show (L[j]).length ≤ 1100 by
            by_cases e : j = i
            · subst e; exact h
            · exact HI.out j hj (by omega)))
          generalize L[i] = m at c0 HI2 hmat hu1
          have HMAT := hide hmat
          unfold maxLen at hu2
          clear hTu hmat ev7 HI
          obtain ⟨G, hG⟩ : ∃ G, G = gk := ⟨_, rfl⟩
          subst hG
          by_cases hz : 1100 < m.length
          · have hzI : (1100 : Int) < (m.length : Int) := by omega
            go_wp2
            go_ret
            exact ⟨⟨.inl rfl, rfl⟩⟩
          · have hzI : ¬ (1100 : Int) < (m.length : Int) := by omega
            obtain ⟨wi, hwi⟩ : ∃ wi, wi = wr := ⟨_, rfl⟩
            subst hwi
            go_wp2_with fail
            go_loopg [10] m.length (fun gh s10 wr => ∃ j : Nat, s10 = .int .i64 (j : Int) ∧ j ≤ m.length ∧ m.length ≤ gh + j ∧ wr = wi)
            case atStart => exact ⟨0, rfl, by omega, by omega, rfl⟩
            case round =>
              obtain ⟨j, rfl, hjm, hgj, rfl⟩ := hrel
              by_cases hjlt : j < m.length
              case neg =>
                have hge : ¬ (j : Int) < (m.length : Int) := by omega
                go_wp2_with fail
                go_roundg (G - 1)
                case measure => omega
                case rel => exact ⟨i + 1, by go_num, by omega, by omega, hide (HI2.out (by omega)), rfl⟩
              case pos =>
                have hjI : (j : Int) < (m.length : Int) := by omega
                obtain ⟨bm, om, rfl, hbm, m0, m1⟩ := HMAT.out j hjlt
                generalize m[j] = x at m0 m1
                by_cases hy : 100 < x.2.size
                · have hyI : (100 : Int) < (x.2.size : Int) := by omega
                  go_wp2
                  go_ret
                  exact ⟨⟨.inl rfl, rfl⟩⟩
                · have hyI : ¬ (100 : Int) < (x.2.size : Int) := by omega
                  go_wp2_with fail
                  go_roundg (gk - 1)
                  case measure => omega
                  case rel => exact ⟨j + 1, by go_num, by omega, by omega, rfl⟩
end Go.Proofs.Ytjpjedigajiomaa
