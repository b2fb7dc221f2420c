
/-
  DERIVED. THE PLAIN MATHEMATICS of package token (chapter 1): what Scan, Word and Name answer, as functions on lists of bytes. No program is named here.
-/
namespace Go.Proofs.YtfhjejmadhcmnaaDoor.Tk

def isL (c : Int) : Bool := decide (97 ≤ c) && decide (c ≤ 122)
def isD (c : Int) : Bool := decide (48 ≤ c) && decide (c ≤ 57)
def isB (c : Int) : Bool := c == 32 || c == 9 || c == 10 || c == 13
def isR (c : Int) : Bool := isL c || isD c

/-- how many letters and digits stand at the front -/
def runLen (l : List UInt8) : Nat := (l.takeWhile fun c => isR (c.toNat : Int)).length

/-- how many bytes of blanks and remarks stand at the front; the bool: within a remark -/
def blankLen : Bool → List UInt8 → Nat
  | _, [] => 0
  | r, c :: l =>
    if c.toNat = 10 then 1 + blankLen false l
    else if c.toNat = 35 then 1 + blankLen true l
    else if r = false ∧ isB (c.toNat : Int) = false then 0
    else 1 + blankLen r l

theorem runLen_le (l : List UInt8) : runLen l ≤ l.length := by
  unfold runLen; exact List.Sublist.length_le (List.takeWhile_sublist _)

theorem runLen_at : ∀ (l : List UInt8) (k : Nat) (hk : k < l.length), (∀ j (hj : j < l.length), j < k → isR ((l[j]).toNat : Int) = true) → isR ((l[k]).toNat : Int) = false → runLen l = k
  | [], _, hk, _, _ => by simp at hk
  | c :: l, 0, _, _, hn => by simp at hn; simp [runLen, hn]
  | c :: l, k + 1, hk, h, hn => by
    have h0 := h 0 (by simp) (by omega)
    simp at h0
    have ih := runLen_at l k (by simpa using hk) (fun j hj hjk => by have := h (j + 1) (by simpa using hj) (by omega); simpa using this) (by simpa using hn)
    unfold runLen at ih ⊢
    simp [h0, ih]

theorem runLen_all : ∀ (l : List UInt8), (∀ j (hj : j < l.length), isR ((l[j]).toNat : Int) = true) → runLen l = l.length
  | [], _ => rfl
  | c :: l, h => by
    have h0 := h 0 (by simp)
    simp at h0
    have ih := runLen_all l (fun j hj => by have := h (j + 1) (by simpa using hj); simpa using this)
    unfold runLen at ih ⊢
    simp [h0, ih]

theorem blankLen_le : ∀ (r : Bool) (l : List UInt8), blankLen r l ≤ l.length
  | _, [] => Nat.le_refl _
  | r, c :: l => by
    have h1 := blankLen_le false l
    have h2 := blankLen_le true l
    have h3 := blankLen_le r l
    unfold blankLen
    simp only [List.length_cons]
    split
    · omega
    · split
      · omega
      · split <;> omega

/-- the remark's flag behind a byte -/
def flag (r : Bool) (c : Int) : Bool := if c = 10 then false else if c = 35 then true else r

/-- does a byte stop the blanks? -/
def stops (r : Bool) (c : Int) : Bool := !(flag r c) && !(isB c)

theorem blankLen_stop (r : Bool) (c : UInt8) (l : List UInt8) (h : stops r (c.toNat : Int) = true) : blankLen r (c :: l) = 0 := by
  unfold stops flag at h
  unfold blankLen
  by_cases h1 : (c.toNat : Int) = 10
  · simp [h1, isB] at h
  · by_cases h2 : (c.toNat : Int) = 35
    · simp [h2] at h
    · have h1' : ¬ c.toNat = 10 := by omega
      have h2' : ¬ c.toNat = 35 := by omega
      simp [h1, h2] at h
      simp [h1', h2', h]

theorem blankLen_go (r : Bool) (c : UInt8) (l : List UInt8) (h : stops r (c.toNat : Int) = false) : blankLen r (c :: l) = 1 + blankLen (flag r (c.toNat : Int)) l := by
  unfold stops flag at h
  unfold flag
  by_cases h1 : (c.toNat : Int) = 10
  · have h1' : c.toNat = 10 := by omega
    simp [blankLen, h1']
  · by_cases h2 : (c.toNat : Int) = 35
    · have h2' : c.toNat = 35 := by omega
      simp [blankLen, h2']
    · have h1' : ¬ c.toNat = 10 := by omega
      have h2' : ¬ c.toNat = 35 := by omega
      simp [h1, h2] at h
      have h3 : ¬ (r = false ∧ isB (c.toNat : Int) = false) := by
        rintro ⟨rfl, hb⟩
        simp [hb] at h
      simp only [blankLen, h1', h2', h3, if_false, h1, h2]

/-- the words -/
def words : List (List UInt8) :=
  [[97, 100, 100],
   [97, 110, 100],
   [98, 111, 111, 108],
   [99, 97, 108, 108],
   [99, 97, 116],
   [100, 105, 118],
   [101, 108, 115, 101],
   [101, 113],
   [102, 97, 108, 115, 101],
   [102, 105, 108, 108],
   [102, 111, 108, 100],
   [105, 102],
   [105, 110, 116],
   [108, 101, 115, 115],
   [109, 97, 112],
   [109, 97, 120],
   [109, 105, 110],
   [109, 111, 100],
   [109, 117, 108],
   [110, 101, 103],
   [110, 111, 100, 101],
   [110, 111, 116],
   [111, 114],
   [112, 114, 101],
   [115, 99, 97, 110],
   [115, 108, 105, 99, 101],
   [115, 117, 98],
   [116, 104, 101, 110],
   [116, 114, 117, 101],
   [118, 97, 114],
   [119, 105, 116, 104],
   [120, 111, 114]]

def isWord (l : List UInt8) : Bool := words.any fun x => l == x

/-- the signs of one byte -/
def signs : List UInt8 := [40, 41, 123, 125, 91, 93, 60, 62, 44, 59, 58, 43, 45, 42, 47, 37, 61, 94]
def isS (c : UInt8) : Bool := signs.any fun x => x == c

/-- how long the sign at the front is; 0: there is none -/
def signLen : List UInt8 → Nat
  | [] => 0
  | c :: l => if (c == 61 && l.head? == some 61) || (c == 45 && l.head? == some 62) then 2 else if isS c then 1 else 0

/-- what digits say -/
def numVal (l : List UInt8) : Int := l.foldl (fun a c => a * 10 + ((c.toNat : Int) - 48)) 0

/-- a token but for its place -/
structure Got where
  kind : Int
  text : List UInt8
  n : Int
  code : Int

def bad (c : Int) : Got := ⟨0, [], 0, c⟩

def readSign (l : List UInt8) : Got := if signLen l = 0 then bad 1 else ⟨4, l.take (signLen l), 0, 0⟩
def badNum (l : List UInt8) : Bool := decide (18 < l.length) || (decide (1 < l.length) && l.head? == some 48)
def readNum (l : List UInt8) : Got := if badNum l then bad 2 else if l.all (fun c => isD (c.toNat : Int)) then ⟨3, l, numVal l, 0⟩ else bad 2
def readName (l : List UInt8) : Got := if isWord l then ⟨1, l, 0, 0⟩ else if 12 < l.length then bad 3 else ⟨2, l, 0, 0⟩

/-- what token.read answers -/
def read (l : List UInt8) : Got :=
  if runLen l = 0 then readSign l
  else if isD ((l.headD 0).toNat : Int) then readNum (l.take (runLen l))
  else readName (l.take (runLen l))

/-- a token -/
structure Tok where
  kind : Int
  place : Nat
  text : List UInt8
  n : Int

/-- the tokens of what is left (no blank at its front), which begins at a place; or a fault's code and place -/
def scanR : Nat → List UInt8 → Nat → List Tok × Int × Int
  | 0, _, _ => ([], 0, 0)
  | _ + 1, [], _ => ([], 0, 0)
  | f + 1, c :: l, p =>
    if (read (c :: l)).code ≠ 0 then ([], (read (c :: l)).code, (p : Int))
    else
      let t := (read (c :: l)).text
      let r := (c :: l).drop t.length
      let b := blankLen false r
      let q := scanR f (r.drop b) (p + t.length + b)
      if q.2.1 ≠ 0 then ([], q.2) else (⟨(read (c :: l)).kind, p, t, (read (c :: l)).n⟩ :: q.1, 0, 0)

/-- the tokens of a text, or its first fault -/
def scan (l : List UInt8) : List Tok × Int × Int :=
  if 12000 < l.length then ([], 7, 12000) else scanR l.length (l.drop (blankLen false l)) (blankLen false l)

end Go.Proofs.YtfhjejmadhcmnaaDoor.Tk
