/- The hash as plain mathematics. -/
import Derived.Laws.BitsAllLaws
namespace Go.Proofs.YthobegpfibfocaaDoor

/-- A word turned right. -/
def rotr (r x : Nat) : Nat := x / 2 ^ r + x % 2 ^ r * 2 ^ (32 - r)

theorem rotr_lt {r x : Nat} (hr : r ≤ 32) (hx : x < 4294967296) : rotr r x < 4294967296 := by
  unfold rotr
  have e : 2 ^ r * 2 ^ (32 - r) = 4294967296 := by rw [← Nat.pow_add, show r + (32 - r) = 32 by omega]
  have h1 : x / 2 ^ r < 2 ^ (32 - r) := Nat.div_lt_of_lt_mul (by omega)
  have h2 : x % 2 ^ r + 1 ≤ 2 ^ r := Nat.mod_lt _ (Nat.two_pow_pos r)
  have h3 := Nat.mul_le_mul_right (2 ^ (32 - r)) h2
  rw [e, Nat.add_mul] at h3
  omega

/-- What the library makes of it: two shifts that are joined. -/
theorem rotr_join {r x : Nat} (hr : r ≤ 32) (hx : x < 4294967296) : (x * 2 ^ (32 - r)) % 4294967296 ||| x / 2 ^ r = rotr r x := by
  have e : 2 ^ r * 2 ^ (32 - r) = 4294967296 := by rw [← Nat.pow_add, show r + (32 - r) = 32 by omega]
  have h1 : x / 2 ^ r < 2 ^ (32 - r) := Nat.div_lt_of_lt_mul (by omega)
  have h2 : x * 2 ^ (32 - r) % 4294967296 = x % 2 ^ r * 2 ^ (32 - r) := by rw [← e, Nat.mul_mod_mul_right]
  rw [h2, nat_join (32 - r) _ _ (by rw [Nat.mul_mod_left]) h1]
  unfold rotr
  omega

def sg0 (x : Nat) : Nat := rotr 7 x ^^^ rotr 18 x ^^^ x / 8
def sg1 (x : Nat) : Nat := rotr 17 x ^^^ rotr 19 x ^^^ x / 1024
def bs0 (a : Nat) : Nat := rotr 2 a ^^^ rotr 13 a ^^^ rotr 22 a
def bs1 (e : Nat) : Nat := rotr 6 e ^^^ rotr 11 e ^^^ rotr 25 e
def chf (e f g : Nat) : Nat := (e &&& f) ^^^ ((4294967295 - e) &&& g)
def majf (a b c : Nat) : Nat := (a &&& b) ^^^ (a &&& c) ^^^ (b &&& c)

theorem xlt {a b : Nat} (ha : a < 4294967296) (hb : b < 4294967296) : a ^^^ b < 4294967296 := Nat.xor_lt_two_pow (n := 32) (by omega) (by omega)
theorem alt {a b : Nat} (ha : a < 4294967296) : a &&& b < 4294967296 := Nat.lt_of_le_of_lt Nat.and_le_left ha
theorem sg0_lt {x : Nat} (h : x < 4294967296) : sg0 x < 4294967296 := xlt (xlt (rotr_lt (by omega) h) (rotr_lt (by omega) h)) (by omega)
theorem sg1_lt {x : Nat} (h : x < 4294967296) : sg1 x < 4294967296 := xlt (xlt (rotr_lt (by omega) h) (rotr_lt (by omega) h)) (by omega)
theorem bs0_lt {x : Nat} (h : x < 4294967296) : bs0 x < 4294967296 := xlt (xlt (rotr_lt (by omega) h) (rotr_lt (by omega) h)) (rotr_lt (by omega) h)
theorem bs1_lt {x : Nat} (h : x < 4294967296) : bs1 x < 4294967296 := xlt (xlt (rotr_lt (by omega) h) (rotr_lt (by omega) h)) (rotr_lt (by omega) h)
theorem chf_lt {e f g : Nat} (h : e < 4294967296) : chf e f g < 4294967296 := xlt (alt h) (alt (by omega))
theorem majf_lt {a b c : Nat} (h : a < 4294967296) (hb : b < 4294967296) : majf a b c < 4294967296 := xlt (xlt (alt h) (alt h)) (alt hb)

/-- The constants of the rounds. -/
def kW : List Nat := [1116352408, 1899447441, 3049323471, 3921009573, 961987163, 1508970993, 2453635748, 2870763221, 3624381080, 310598401, 607225278, 1426881987, 1925078388, 2162078206, 2614888103, 3248222580, 3835390401, 4022224774, 264347078, 604807628, 770255983, 1249150122, 1555081692, 1996064986, 2554220882, 2821834349, 2952996808, 3210313671, 3336571891, 3584528711, 113926993, 338241895, 666307205, 773529912, 1294757372, 1396182291, 1695183700, 1986661051, 2177026350, 2456956037, 2730485921, 2820302411, 3259730800, 3345764771, 3516065817, 3600352804, 4094571909, 275423344, 430227734, 506948616, 659060556, 883997877, 958139571, 1322822218, 1537002063, 1747873779, 1955562222, 2024104815, 2227730452, 2361852424, 2428436474, 2756734187, 3204031479, 3329325298]

/-- The number of four bytes of a row, the greatest first. -/
def hi4 (b : List Int) (i : Nat) : Nat := (b.getD (4 * i) 0).toNat * 16777216 + (b.getD (4 * i + 1) 0).toNat * 65536 + (b.getD (4 * i + 2) 0).toNat * 256 + (b.getD (4 * i + 3) 0).toNat

/-- The next word, behind at least sixteen. -/
def wnext (l : List Nat) : Nat := (sg1 (l.getD (l.length - 2) 0) + l.getD (l.length - 7) 0 + sg0 (l.getD (l.length - 15) 0) + l.getD (l.length - 16) 0) % 4294967296
/-- The first words. -/
def wds (b : List Int) : Nat → List Nat
  | 0 => []
  | k + 1 => wds b k ++ [if k < 16 then hi4 b k else wnext (wds b k)]

theorem wds_len (b : List Int) : ∀ k, (wds b k).length = k
  | 0 => rfl
  | k + 1 => by simp [wds, wds_len b k]

def wAt (b : List Int) (k : Nat) : Nat := if k < 16 then hi4 b k else wnext (wds b k)
theorem wds_succ (b : List Int) (k : Nat) : wds b (k + 1) = wds b k ++ [wAt b k] := rfl
theorem wds_getD (b : List Int) : ∀ (k i : Nat), i < k → (wds b k).getD i 0 = wAt b i
  | 0, i, h => by omega
  | k + 1, i, h => by
    rw [wds_succ]
    by_cases hi : i < k
    · have := wds_getD b k i hi
      simp [List.getD, List.getElem?_append_left (by rw [wds_len]; exact hi : i < (wds b k).length)] at this ⊢
      exact this
    · have e : i = k := by omega
      subst e
      simp [List.getD, wds_len]
theorem wAt_lo (b : List Int) {k : Nat} (h : k < 16) : wAt b k = hi4 b k := by simp [wAt, h]
theorem wAt_hi (b : List Int) {k : Nat} (h : 16 ≤ k) : wAt b k = (sg1 (wAt b (k - 2)) + wAt b (k - 7) + sg0 (wAt b (k - 15)) + wAt b (k - 16)) % 4294967296 := by
  have h' : ¬ k < 16 := by omega
  rw [wAt, if_neg h', wnext, wds_len, wds_getD b k _ (by omega), wds_getD b k _ (by omega), wds_getD b k _ (by omega), wds_getD b k _ (by omega)]
theorem hi4_lt {b : List Int} (hb : ∀ i, 0 ≤ b.getD i 0 ∧ b.getD i 0 < 256) (i : Nat) : hi4 b i < 4294967296 := by
  unfold hi4
  have h0 := hb (4 * i); have h1 := hb (4 * i + 1); have h2 := hb (4 * i + 2); have h3 := hb (4 * i + 3)
  omega
theorem wAt_lt {b : List Int} (hb : ∀ i, 0 ≤ b.getD i 0 ∧ b.getD i 0 < 256) (k : Nat) : wAt b k < 4294967296 := by
  by_cases h : k < 16
  · rw [wAt_lo b h]; exact hi4_lt hb k
  · rw [wAt_hi b (by omega)]; exact Nat.mod_lt _ (by omega)

/-- Eight words. -/
structure R8 where
  a : Nat
  b : Nat
  c : Nat
  d : Nat
  e : Nat
  f : Nat
  g : Nat
  h : Nat

structure R8.Ok (v : R8) : Prop where
  a : v.a < 4294967296
  b : v.b < 4294967296
  c : v.c < 4294967296
  d : v.d < 4294967296
  e : v.e < 4294967296
  f : v.f < 4294967296
  g : v.g < 4294967296
  h : v.h < 4294967296

def R8.list (v : R8) : List Nat := [v.a, v.b, v.c, v.d, v.e, v.f, v.g, v.h]

def rone (v : R8) (k w : Nat) : Nat := (v.h + bs1 v.e + chf v.e v.f v.g + k + w) % 4294967296
/-- One round. -/
def rnd (v : R8) (k w : Nat) : R8 := ⟨(rone v k w + bs0 v.a + majf v.a v.b v.c) % 4294967296, v.a, v.b, v.c, (v.d + rone v k w) % 4294967296, v.e, v.f, v.g⟩
/-- The words behind so many rounds. -/
def rnds (v : R8) (b : List Int) : Nat → R8
  | 0 => v
  | i + 1 => rnd (rnds v b i) (kW.getD i 0) (wAt b i)
def R8.add (v u : R8) : R8 := ⟨(v.a + u.a) % 4294967296, (v.b + u.b) % 4294967296, (v.c + u.c) % 4294967296, (v.d + u.d) % 4294967296, (v.e + u.e) % 4294967296, (v.f + u.f) % 4294967296, (v.g + u.g) % 4294967296, (v.h + u.h) % 4294967296⟩
/-- The words behind a chunk. -/
def mixL (v : R8) (b : List Int) : R8 := (rnds v b 64).add v

theorem rnd_ok {v : R8} (h : v.Ok) (k w : Nat) : (rnd v k w).Ok :=
  ⟨Nat.mod_lt _ (by omega), h.a, h.b, h.c, Nat.mod_lt _ (by omega), h.e, h.f, h.g⟩
theorem rnds_ok {v : R8} (h : v.Ok) (b : List Int) : ∀ i, (rnds v b i).Ok
  | 0 => h
  | i + 1 => rnd_ok (rnds_ok h b i) _ _
theorem add_ok (v u : R8) : (v.add u).Ok :=
  ⟨Nat.mod_lt _ (by omega), Nat.mod_lt _ (by omega), Nat.mod_lt _ (by omega), Nat.mod_lt _ (by omega), Nat.mod_lt _ (by omega), Nat.mod_lt _ (by omega), Nat.mod_lt _ (by omega), Nat.mod_lt _ (by omega)⟩

def startR : R8 := ⟨1779033703, 3144134277, 1013904242, 2773480762, 1359893119, 2600822924, 528734635, 1541459225⟩
theorem startR_ok : startR.Ok := ⟨by decide, by decide, by decide, by decide, by decide, by decide, by decide, by decide⟩

/-- The i-th chunk. -/
def blk (m : List Int) (i : Nat) : List Int := (m.drop (64 * i)).take 64
/-- The words behind the first chunks. -/
def shaW (m : List Int) : Nat → R8
  | 0 => startR
  | k + 1 => mixL (shaW m k) (blk m k)
theorem shaW_ok (m : List Int) : ∀ k, (shaW m k).Ok
  | 0 => startR_ok
  | _ + 1 => add_ok _ _
theorem blk_append (m x : List Int) (i : Nat) (h : 64 * i + 64 ≤ m.length) : blk (m ++ x) i = blk m i := by
  unfold blk
  rw [List.drop_append_of_le_length (by omega), List.take_append_of_le_length (by rw [List.length_drop]; omega)]
theorem shaW_append (m x : List Int) : ∀ k, 64 * k ≤ m.length → shaW (m ++ x) k = shaW m k
  | 0, _ => rfl
  | k + 1, h => by rw [shaW, shaW, shaW_append m x k (by omega), blk_append m x k (by omega)]

/-- The four bytes of a word, the greatest first. -/
def big4 (n : Nat) : List Int := [((n / 16777216 % 256 : Nat) : Int), ((n / 65536 % 256 : Nat) : Int), ((n / 256 % 256 : Nat) : Int), ((n % 256 : Nat) : Int)]
def big8 (n : Nat) : List Int := big4 (n / 4294967296) ++ big4 n
def zerosFor (n : Nat) : Nat := (119 - n % 64) % 64
/-- The bytes with what fills them up. -/
def padL (l : List Int) : List Int := l ++ [128] ++ List.replicate (zerosFor l.length) 0 ++ big8 (8 * l.length)
def R8.bytes (v : R8) : List Int := v.list.flatMap big4
/-- The hash. -/
def shaL (l : List Int) : List Int := (shaW (padL l) ((padL l).length / 64)).bytes
theorem shaL_len (l : List Int) : (shaL l).length = 32 := by simp [shaL, R8.bytes, R8.list, big4]
theorem zerosFor_fits (n : Nat) : (n + 1 + zerosFor n) % 64 = 56 := by unfold zerosFor; omega
theorem padL_len (l : List Int) : (padL l).length % 64 = 0 := by
  have := zerosFor_fits l.length
  simp [padL, big8, big4]
  omega
end Go.Proofs.YthobegpfibfocaaDoor
