import Derived.Test.YtnohmedccbogkaaGreatDoorDi8
import Derived.Test.YtnohmedccbogkaaGreatDoorDi1
import Derived.Test.YtnohmedccbogkaaGreatDoorDi7
import Derived.Test.YtnohmedccbogkaaGreatDoorDi3
namespace Go.Proofs.YtnohmedccbogkaaGreatDoor
open Go.RowKit
set_option linter.unusedVariables false
def NdP (P : Pg) (S : World → Prop) (X : Nat → Prop) (B0 g m N : Nat) (src : Value) (f steps : Nat) (st : St) (x : LSg) (id : Int) (w : World) (e : Ending) (w' : World) : Prop :=
  OnlyS (fun k => X k ∨ k = g ∨ k = m) w w' ∧ ((∃ t st' z F ty p, wkT P f (steps : Nat) st x id = some (t, st', z) ∧ e = .returned (.iface ty (.pointer p)) ∧ IRep w' t F [(strOfNums [], .iface ty (.pointer p))] ∧ F.Nodup ∧ (∀ k ∈ F, w.heap.size ≤ k) ∧ Wk S B0 g m N src w' st' z ∧ st.seen.length ≤ st'.seen.length) ∨ (wkT P f (steps : Nat) st x id = none ∧ e = .panicked badE))
def NdC (P : Pg) (S : World → Prop) (X : Nat → Prop) (B0 g m N : Nat) (src : Value) (f : Nat) : Prop := ∀ (steps : Nat) (id : Int) (st : St) (x : LSg) (w : World), Wk S B0 g m N src w st x → N < f + st.seen.length → steps ≤ st.seen.length → 0 ≤ id → id < 4294967296 →
    Calls Tryz.prog 184 #[.pointer (some ⟨g, 0, none⟩), .int .i64 id, .int .i64 (steps : Nat)] w (NdP P S X B0 g m N src f steps st x id w)
def KdP (P : Pg) (S : World → Prop) (X : Nat → Prop) (B0 g m N : Nat) (src : Value) (f steps : Nat) (l : List Int) (st : St) (x : LSg) (gc : Nat) (w : World) (e : Ending) (w' : World) : Prop :=
  OnlyS (fun k => X k ∨ k = g ∨ k = m ∨ k = gc) w w' ∧ ((∃ t st' z F us a c, ((inP l).bind fun ls => wkK (wkT P f (steps : Nat)) ls true st x) = some (t, st', z) ∧ e = .returned (.slice a us.length c) ∧ ORow 276 2 w.heap.size w' a us.length c (kdF us) ∧ IRep w' t F us ∧ (rb a ++ F).Nodup ∧ (∀ k ∈ F, w.heap.size ≤ k) ∧ Wk S B0 g m N src w' st' z ∧ st.seen.length ≤ st'.seen.length) ∨ (((inP l).bind fun ls => wkK (wkT P f (steps : Nat)) ls true st x) = none ∧ e = .panicked badE))
theorem built_kd (s : ByteArray) (ty : Nat) (p : Value) : Tryz.prog.built 276 [(0, .string s), (1, .iface ty p)] = some #[.string s, .iface ty p] := by kernel_rfl
theorem sizeLn : (Tryz.prog.info? 230).map (·.size) = some 2 := by kernel_rfl
theorem lnF_ok (es : List (ByteArray × Int)) (n : Nat) : IsRow 2 (lnF es) n := ⟨fun _ _ => rfl, fun i _ u hu => by simp [lnF] at hu; rcases hu with rfl | rfl <;> rfl⟩
theorem lnP_ids : ∀ (n : Nat) (l : List Int) (ls : List (ByteArray × Int)), IsB l → l.length ≤ n → lnP l = some ls → ∀ e ∈ ls, 0 ≤ e.2 ∧ e.2 < 4294967296
  | 0, l, r, _, h, e => by rw [lnP_nil (by omega)] at e; cases e; simp
  | n + 1, l, r, hb, h, e => by
    by_cases h0 : l.length = 0
    · rw [lnP_nil h0] at e; cases e; simp
    · cases h1 : lnOne l with
      | false => rw [lnP_no h0 h1] at e; cases e
      | true =>
        rw [lnP_yes h1] at e
        obtain ⟨r2, e2, rfl⟩ := Option.map_eq_some_iff.1 e
        have hb1 := lnOne_iff.1 h1
        have := lnP_ids n (l.drop (5 + lfK l)) r2 (fun j => by have := hb (5 + lfK l + j); simpa [List.getD] using this) (by rw [List.length_drop]; omega) e2
        intro x hx
        rcases List.mem_cons.1 hx with rfl | hx
        · have hd : IsB (l.drop (1 + lfK l)) := fun j => by have := hb (1 + lfK l + j); simpa [List.getD] using this
          have := low_bd (isB_take hd 4)
          have hl : ((l.drop (1 + lfK l)).take 4).length = 4 := by rw [List.length_take, List.length_drop]; omega
          rw [hl] at this
          exact this
        · exact this x hx
theorem inP_ids {l : List Int} {ls : List (ByteArray × Int)} (hb : IsB l) (h : inP l = some ls) : ∀ e ∈ ls, 0 ≤ e.2 ∧ e.2 < 4294967296 := by
  unfold inP at h
  by_cases h4 : 4 ≤ l.length
  · rw [if_pos h4] at h
    obtain ⟨r, e2, rfl⟩ := Option.map_eq_some_iff.1 h
    have := lnP_ids _ _ r (fun j => by have := hb (4 + j); simpa [List.getD] using this) (Nat.le_refl _) e2
    intro x hx
    rcases List.mem_cons.1 hx with rfl | hx
    · have := low_bd (isB_take hb 4)
      have hl : (l.take 4).length = 4 := by rw [List.length_take]; omega
      rw [hl] at this
      exact this
    · exact this x hx
  · rw [if_neg h4] at h; cases h
structure KdI (P : Pg) (S : World → Prop) (X : Nat → Prop) (B0 g m N : Nat) (src : Value) (f steps : Nat) (st : St) (x : LSg) (gc : Nat) (w : World) (ls : List (ByteArray × Int)) (la : Option Addr) (lc : Nat) (i : Nat) (a : Option Addr) (c : Nat) (us : List (ByteArray × Value)) (ts : List (ByteArray × Tr)) (F : List Nat) (st1 : St) (x1 : LSg) (wr : World) : Prop where
  len : us.length = i
  fr : OnlyS (fun k => X k ∨ k = g ∨ k = m ∨ k = gc) w wr
  wk : Wk S B0 g m N src wr st1 x1
  row : ORow 276 2 w.heap.size wr a us.length c (kdF us)
  rep : IRep wr (consL ts .nil) F us
  nd : (rb a ++ F).Nodup
  hi : ∀ k ∈ F, w.heap.size ≤ k
  lnk : ORow 230 2 w.heap.size wr la ls.length lc (lnF ls)
  sn : st.seen.length ≤ st1.seen.length
variable {S : World → Prop} {X : Nat → Prop} {B0 g m N ty fn : Nat} {src v : Value} {P : Pg} {st st1 : St} {x x1 : LSg} {w wr wr' : World} {f steps gc lc i c : Nat} {ls : List (ByteArray × Int)} {la a : Option Addr} {us : List (ByteArray × Value)} {ts : List (ByteArray × Tr)} {F : List Nat}
theorem KdI.below (HS : Src P B0 ty fn v S X) (h : KdI P S X B0 g m N src f steps st x gc w ls la lc i a c us ts F st1 x1 wr) (hb : Below wr.heap.size wr wr') : KdI P S X B0 g m N src f steps st x gc w ls la lc i a c us ts F st1 x1 wr' :=
  ⟨h.len, h.fr.trans (OnlyS.ofBelow hb), h.wk.below HS hb, h.row.below hb, h.rep.below hb, h.nd, h.hi, h.lnk.below hb, h.sn⟩
theorem KdI.sign (HS : Src P B0 ty fn v S X) (h : KdI P S X B0 g m N src f steps st x gc w ls la lc i a c us ts F st1 x1 wr) (hg : g < w.heap.size) (s : ByteArray) : KdI P S X B0 g m N src f steps st x gc w ls la lc i a c us ts F st1 (x1.1, s) (wr.setCell ⟨g, 4, none⟩ (.string s)) := by
  have ho := onlyB_setCell wr g 4 (.string s)
  have hs := h.wk.blk.set 4 (.string s)
  exact ⟨h.len, h.fr.transN (OnlyS.ofB ho) (fun k _ e => Or.inr (Or.inl e)), h.wk.put HS ho hs rfl, h.row.onlyN ho hg, h.rep.onlyS (OnlyS.ofB ho) (fun k hk e => by subst e; have := h.hi _ hk; omega), h.nd, h.hi, h.lnk.onlyN ho hg, h.sn⟩
theorem orow_apart {e e2 s s2 B B2 n n2 c c2 : Nat} {w : World} {a a2 : Option Addr} {f f2 : Nat → List Value} (h : ORow e s B w a n c f) (h2 : ORow e2 s2 B2 w a2 n2 c2 f2) (he : e ≠ e2) : ∀ k ∈ rb a, ∀ k2 ∈ rb a2, k ≠ k2 := by
  intro k hk k2 hk2 e3
  subst e3
  rcases h.2 with ⟨e1, _⟩ | ⟨g1, cap1, cur1, e1, hB1, hh1, _⟩
  · cases e1; simp [rb] at hk
  · rcases h2.2 with ⟨e1', _⟩ | ⟨g2, cap2, cur2, e2', hB2, hh2, _⟩
    · cases e1'; simp [rb] at hk2
    · cases e1; cases e2'
      simp [rb] at hk hk2
      subst hk
      rw [hk2, hh2] at hh1
      cases hh1
      exact he rfl
theorem rb_own {a : Option Addr} {n c : Nat} : ∀ k, (Value.slice a n c).ownBlock = some k → k ∈ rb a := by
  intro k h
  cases a with
  | none => simp [Value.ownBlock] at h
  | some ad => simp [Value.ownBlock] at h; simp [rb, h]
theorem KdI.more (HS : Src P B0 ty fn v S X) (h : KdI P S X B0 g m N src f steps st x gc w ls la lc i a c us ts F st1 x1 wr) {w6 w8 : World} {t : Tr} {st6 : St} {z6 : LSg} {G : List Nat} {u : Value} {s : ByteArray} {b8 c8 : Nat}
    (o6 : OnlyS (fun k => X k ∨ k = g ∨ k = m) wr w6) (hgw : g < w.heap.size) (hmw : m < w.heap.size) (hX : ∀ k, X k → k < w.heap.size)
    (r6 : IRep w6 t G [(strOfNums [], u)]) (n6 : G.Nodup) (i6 : ∀ k ∈ G, wr.heap.size ≤ k) (k6 : Wk S B0 g m N src w6 st6 z6) (s6 : st1.seen.length ≤ st6.seen.length) {cs : Array Value}
    (o8 : ORow 276 2 w.heap.size w8 (some ⟨b8, 0, none⟩) (us.length + 1) c8 (updR (kdF us) us.length [.string s, u])) (gr : (w6.alloc (.cells cs 276)).grownBy w8 (Value.slice a us.length c).ownBlock) (at8 : a = some ⟨b8, 0, none⟩ ∨ w6.heap.size < b8) :
    KdI P S X B0 g m N src f steps st x gc w ls la lc (i + 1) (some ⟨b8, 0, none⟩) c8 (us ++ [(s, u)]) (ts ++ [(s, t)]) (F ++ G) st6 z6 w8 := by
  have hlow : ∀ k, (X k ∨ k = g ∨ k = m) → k < w.heap.size := fun k e => by
    rcases e with e | rfl | rfl
    · exact hX k e
    · exact hgw
    · exact hmw
  have hwz := h.fr.size
  have hz6 := o6.size
  have q6 : Below w6.heap.size w6 (w6.alloc (.cells cs 276)) := (Below.refl _ _).alloc (Nat.le_refl _) _
  have ow : OnlyS (fun k => k ∈ rb a) w6 w8 := (OnlyS.ofBelow q6).transN (OnlyS.ofGrown gr) (fun k _ e => rb_own k e)
  have row6 : ORow 276 2 w.heap.size w6 a us.length c (kdF us) := orow_rb h.row (fun k hk => o6.block k (orow_rb_lt h.row k hk).2 (fun e => by have := hlow k e; have := (orow_rb_lt h.row k hk).1; omega))
  have lnk6 : ORow 230 2 w.heap.size w6 la ls.length lc (lnF ls) := orow_rb h.lnk (fun k hk => o6.block k (orow_rb_lt h.lnk k hk).2 (fun e => by have := hlow k e; have := (orow_rb_lt h.lnk k hk).1; omega))
  have rep6 := h.rep.onlyS o6 (fun k hk e => by have := hlow k e; have := h.hi k hk; omega)
  have hFlt := h.rep.lt
  have hGlt := r6.lt
  have haF : ∀ k ∈ F, k ∉ rb a := fun k hk hr => (List.nodup_append.1 h.nd).2.2 k hr k hk rfl
  have haG : ∀ k ∈ G, k ∉ rb a := fun k hk hr => by have := i6 k hk; have := (orow_rb_lt h.row k hr).2; omega
  have kt : KeepT 5 w6 w8 := (keepT_below q6).trans (keepT_grown (own_below row6 q6) gr (by decide))
  refine ⟨by simp [h.len], (h.fr.transN o6 (fun k hk e => by rcases e with e | e | e; exact Or.inl e; exact Or.inr (Or.inl e); exact Or.inr (Or.inr (Or.inl e)))).transN ow (fun k hk e => by have := (orow_rb_lt h.row k e).1; omega), k6.keep HS ow (fun e => by have := (orow_rb_lt h.row _ e).1; omega) (fun e => by have := (orow_rb_lt h.row _ e).1; omega) (fun k e => by have := (orow_rb_lt h.row _ e).1; have := k6.gB; omega) kt, ?_, ?_, ?_, ?_, ?_, Nat.le_trans h.sn s6⟩
  · rw [List.length_append]
    exact o8.congr (fun j hj => kdF_app us (s, u) j hj)
  · exact IRep.snoc (r6.onlyS ow (fun k hk e => haG k hk e)) (rep6.onlyS ow (fun k hk e => haF k hk e))
  · rw [rb, List.singleton_append, List.nodup_cons]
    refine ⟨fun hk => ?_, ?_⟩
    · change b8 ∈ F ++ G at hk
      rcases at8 with e | e
      · rcases List.mem_append.1 hk with hk | hk
        · exact haF _ hk (by rw [e]; simp [rb])
        · exact haG _ hk (by rw [e]; simp [rb])
      · rcases List.mem_append.1 hk with hk | hk
        · have := hFlt _ hk; omega
        · have := hGlt _ hk; omega
    · rw [List.nodup_append]
      refine ⟨(List.nodup_append.1 h.nd).2.1, n6, fun p hp q hq e => ?_⟩
      subst e
      have := hFlt _ hp
      have := i6 _ hq
      omega
  · intro k hk
    rcases List.mem_append.1 hk with hk | hk
    · exact h.hi k hk
    · have := i6 k hk; omega
  · exact orow_rb lnk6 (fun k hk => ow.block k (orow_rb_lt lnk6 k hk).2 (fun e => orow_apart row6 lnk6 (by decide) k e k hk rfl))
end Go.Proofs.YtnohmedccbogkaaGreatDoor

namespace Go.Proofs.YtnohmedccbogkaaGreatDoor
open Go.RowKit
set_option linter.unusedVariables false
def entsT : Tr → List (ByteArray × ByteArray)
  | .leaf _ es => es
  | .node _ ks => entsT ks
  | .nil => []
  | .cons _ t ks => entsT t ++ entsT ks
def entsL (L : List (ByteArray × Tr)) : List (ByteArray × ByteArray) := L.flatMap (fun x => entsT x.2)
theorem ents_klist : ∀ ks : Tr, isT ks = false → ∀ b, full ks b → entsT ks = entsL (klist ks)
  | .leaf _ _, h, _, _ => by simp [isT] at h
  | .node _ _, h, _, _ => by simp [isT] at h
  | .nil, _, _, _ => by simp [entsT, entsL, klist]
  | .cons s t ks, _, b, hf => by
    rw [full] at hf
    rw [entsT, klist, ents_klist ks hf.2.2.1 false hf.2.2.2.2]
    simp [entsL]
theorem entsL_take (L : List (ByteArray × Tr)) (i : Nat) (hi : i < L.length) : entsL (L.take (i + 1)) = entsL (L.take i) ++ entsT (L.getD i t0).2 := by
  unfold entsL
  rw [List.take_succ_eq_append_getElem hi, List.flatMap_append]
  simp [List.getD, List.getElem?_eq_getElem hi]
theorem entsL_le (L : List (ByteArray × Tr)) (i : Nat) : (entsL (L.take i)).length ≤ (entsL L).length := by
  have e : entsL L = entsL (L.take i) ++ entsL (L.drop i) := by
    unfold entsL
    rw [← List.flatMap_append, List.take_append_drop]
  rw [e, List.length_append]
  omega
theorem TSt.keepE {B0 g sb N : Nat} {rt : Int} {ns : List NdK} {nv : Nat → NdV} {na : Option Addr} {nc : Nat} {seen : List Int} {tall : Int} {bad : Bool} {w w' : World} (h : TSt B0 g sb N rt w ns nv na nc seen tall bad) (hk : ∀ t, t ≠ 93 → KeepT t w w') : TSt B0 g sb N rt w' ns nv na nc seen tall bad :=
  ⟨h.blk.keepT (hk _ (by decide)), h.mks.keep (hk _ (by decide)), ownsRow_keepT h.nodes (hk _ (by decide)), fun i hi => (h.each i hi).keep (hk _ (by decide)) (hk _ (by decide)), Nat.le_trans h.gB (hk 0 (by decide)).size, h.ok⟩
structure EtQ (B : Nat) (w : World) (a : Option Addr) (xs ys : List (ByteArray × ByteArray)) (a' : Option Addr) (c' : Nat) (w' : World) : Prop where
  own : ORow 93 2 B w' a' (xs ++ ys).length c' (enF (xs ++ ys))
  fr : OnlyS (fun k => k ∈ rb a) w w'
  low : ∀ k ∈ rb a', k < w.heap.size → k ∈ rb a
  keep : ∀ t, t ≠ 93 → KeepT t w w'
theorem EtQ.refl {B : Nat} {w : World} {a : Option Addr} {xs : List (ByteArray × ByteArray)} {c : Nat} (h : ORow 93 2 B w a xs.length c (enF xs)) : EtQ B w a xs [] a c w := ⟨by rw [List.append_nil]; exact h, OnlyS.refl _ _, fun k hk _ => hk, fun _ _ => KeepT.refl _ _⟩
theorem EtQ.below {B : Nat} {w wr wr' : World} {a a' : Option Addr} {xs ys : List (ByteArray × ByteArray)} {c' : Nat} (h : EtQ B w a xs ys a' c' wr) (hb : Below wr.heap.size wr wr') : EtQ B w a xs ys a' c' wr' := ⟨h.own.below hb, h.fr.trans (OnlyS.ofBelow hb), h.low, fun t ht => (h.keep t ht).trans (keepT_below hb)⟩
theorem EtQ.trans {B : Nat} {w wr w' : World} {a a' a2 : Option Addr} {xs ys zs : List (ByteArray × ByteArray)} {c' c2 : Nat} (h : EtQ B w a xs ys a' c' wr) (h2 : EtQ B wr a' (xs ++ ys) zs a2 c2 w') : EtQ B w a xs (ys ++ zs) a2 c2 w' :=
  ⟨by rw [← List.append_assoc]; exact h2.own, h.fr.transN h2.fr (fun k hk e => h.low k e hk), fun k hk hkl => h.low k (h2.low k hk (by have := h.fr.size; omega)) hkl, fun t ht => (h.keep t ht).trans (h2.keep t ht)⟩
theorem EtQ.one {B : Nat} {w wr w' : World} {a a' : Option Addr} {xs ys : List (ByteArray × ByteArray)} {c' g c8 : Nat} {x : ByteArray × ByteArray} {cs : Array Value} (h : EtQ B w a xs ys a' c' wr) (ho : ORow 93 2 B w' (some ⟨g, 0, none⟩) ((xs ++ ys).length + 1) c8 (updR (enF (xs ++ ys)) (xs ++ ys).length [.string x.1, .string x.2]))
    (hg : (wr.alloc (.cells cs 93)).grownBy w' (Value.slice a' (xs ++ ys).length c').ownBlock) (hat : a' = some ⟨g, 0, none⟩ ∨ wr.heap.size < g) : EtQ B w a xs (ys ++ [x]) (some ⟨g, 0, none⟩) c8 w' := by
  have q : Below wr.heap.size wr (wr.alloc (.cells cs 93)) := (Below.refl _ _).alloc (Nat.le_refl _) _
  have hz := h.fr.size
  refine ⟨?_, (h.fr.trans (OnlyS.ofBelow q)).transN (OnlyS.ofGrown hg) (fun k hk e => h.low k (rb_own k e) hk), ?_, fun t ht => (h.keep t ht).trans ((keepT_below q).trans (keepT_grown (own_below h.own q) hg (Ne.symm ht)))⟩
  · rw [← List.append_assoc, List.length_append]
    exact ho.congr (fun j hj => enF_app _ x j hj)
  · intro k hkr hkl
    simp [rb] at hkr
    subst hkr
    rcases hat with e | e
    · exact h.low _ (by rw [e]; simp [rb]) hkl
    · omega
def EtC (B0 g sb N : Nat) (rt : Int) (ns : List NdK) (nv : Nat → NdV) (na : Option Addr) (nc : Nat) (seen : List Int) (tall : Int) (bad : Bool) (t : Tr) : Prop := ∀ (p : Int) (xs : List (ByteArray × ByteArray)) (a : Option Addr) (c B : Nat) (w : World), TSt B0 g sb N rt w ns nv na nc seen tall bad → ORow 93 2 B w a xs.length c (enF xs) → B ≤ w.heap.size → Rep ns t true [p] [] → xs.length + (entsT t).length ≤ 1048576 →
    Calls Tryz.prog 146 #[.pointer (some ⟨g, 0, none⟩), .int .i64 p, .slice a xs.length c] w fun e w' => ∃ a' c', e = .returned (.slice a' (xs ++ entsT t).length c') ∧ EtQ B w a xs (entsT t) a' c' w'
theorem run_bsEn (x y : ByteArray) (w : World) : (Instr.buildSlice 77 1 #[(0, .agg #[.string x, .string y])]).run Tryz.prog w = .ok (.slice (some ⟨w.heap.size, 0, none⟩) 1 1) (w.alloc (.cells [.string x, .string y].toArray 93)) := run_bsRow elEn (by omega) (.agg #[.string x, .string y]) [.string x, .string y] rfl rfl w
set_option maxHeartbeats 4000000 in
set_option maxRecDepth 100000 in
theorem et_step {B0 g sb N : Nat} {rt : Int} {ns : List NdK} {nv : Nat → NdV} {na : Option Addr} {nc : Nat} {seen : List Int} {tall : Int} {bad : Bool} (hnl : ns.length ≤ 1048576) (q : Nat) (K : NdK) (hK : ns[q]? = some K) (es : List (ByteArray × ByteArray)) (hke : K.keys = es.map (·.1)) (hve : K.vals = es.map (·.2)) (L : List (ByteArray × Tr)) (hkl : K.kids.length = L.length) (hLl : L.length ≤ 1048576)
    (hrep : ∀ m, m < L.length → Rep ns (L.getD m t0).2 true [K.kids.getD m 0] []) (IH : ∀ m, m < L.length → EtC B0 g sb N rt ns nv na nc seen tall bad (L.getD m t0).2) (xs : List (ByteArray × ByteArray)) (a : Option Addr) (c B : Nat) (w : World) (st : TSt B0 g sb N rt w ns nv na nc seen tall bad) (ho : ORow 93 2 B w a xs.length c (enF xs)) (hB : B ≤ w.heap.size) (hlen : xs.length + (es.length + (entsL L).length) ≤ 1048576) :
    Calls Tryz.prog 146 #[.pointer (some ⟨g, 0, none⟩), .int .i64 (q : Nat), .slice a xs.length c] w fun e w' => ∃ a' c', e = .returned (.slice a' (xs ++ (es ++ entsL L)).length c') ∧ EtQ B w a xs (es ++ entsL L) a' c' w' := by
  obtain ⟨b, rfl, hcell, hO, hql⟩ := nodes_cells st hK
  have cT0 : w.cell? ⟨g, 0, none⟩ = some (.slice (some ⟨b, 0, none⟩) ns.length nc) := st.blk.cell 0
  have q0 : Below w.heap.size w (w.alloc (Obj.cells (ndc (nv q) K).toArray 257)) := (Below.refl _ _).alloc (Nat.le_refl _) _
  have kN := blk_new w 257 (ndc (nv q) K).toArray
  have sN : (Tryz.prog.info? 257).map (·.size) = some (ndc (nv q) K).length := sizeNd
  have hq0 : ¬ (q : Int) < 0 := by omega
  have hQ0 : EtQ B w a xs (es.take 0) a c (w.alloc (Obj.cells (ndc (nv q) K).toArray 257)) := (EtQ.refl ho).below q0
  go_enter Tryz.func146, Tryz.ntmps146
  go_upto_region 4 with (first | (refine wpList_load_at rfl 257 _ rfl b (q * 6) rfl (ndc (nv q) K) _ hcell Tryz.underlying257 rfl sN ?_) | (refine wpList_storeNew rfl 257 _ _ rfl w (ndc nilV nd0).toArray (ndc (nv q) K).toArray 257 rfl rfl sizeNd rfl (ndc_all _ _) ?_))
  change Code.wp _ _ _ _ (w.alloc (Obj.cells (ndc (nv q) K).toArray 257))
  have O1 := hO.below q0
  have st1 := st.belowT q0
  have z1 : (w.alloc (Obj.cells (ndc (nv q) K).toArray 257)).heap.size = w.heap.size + 1 := by simp
  generalize w.alloc (Obj.cells (ndc (nv q) K).toArray 257) = W at *
  have kN' : Blk W 257 w.heap.size (ndc (nv q) K) := kN
  have HW : Hid _ := And.intro kN' (And.intro O1 (And.intro st1 (And.intro q0 hQ0)))
  have HIH : Hid _ := And.intro IH (And.intro hrep (And.intro hke hve))
  have hz1 : w.heap.size < W.heap.size := by omega
  have hel : K.keys.length = es.length := by rw [hke]; simp
  have hvl : K.vals.length = es.length := by rw [hve]; simp
  have hes : es.length ≤ 1048576 := by omega
  have HKE : Hid (∀ j, j < es.length → (os K.keys).getD j undef = .string (es.getD j e0).1 ∧ (os K.vals).getD j undef = .string (es.getD j e0).2) := fun j hj => by
    rw [hke, hve]
    simp [os, List.getD, hj]
  have HEL : Hid (K.keys.length = es.length ∧ K.vals.length = es.length) := ⟨hel, hvl⟩
  clear kN kN' O1 hO q0 hcell cT0 st hK sN st1 IH hrep hke hve ho hQ0 z1 hel hvl
  go_wp2_with fail
  go_loopw [2, 8] (fun s2 s8 wr => ∃ (j : Nat) (a' : Option Addr) (c' : Nat), s2 = .slice a' (xs ++ es.take j).length c' ∧ s8 = .int .i64 (j : Nat) ∧ j ≤ es.length ∧ EtQ B w a xs (es.take j) a' c' wr ∧ (∀ t, t ≠ 93 → KeepT t W wr)) (fun _ s _ => es.length - (intOf s).toNat)
  case atStart => exact ⟨0, a, c, by simp, rfl, Nat.zero_le _, HW.out.2.2.2.2, fun _ _ => KeepT.refl _ _⟩
  case round =>
    obtain ⟨j, a', c', rfl, rfl, hj, hQ, hkp⟩ := hrel
    obtain ⟨wR, hwX⟩ : ∃ wX, wX = wr := ⟨_, rfl⟩
    subst hwX
    have kR := HW.out.1.keepT (hkp _ (by decide))
    have OR := HW.out.2.1.keep (hkp _ (by decide)) (hkp _ (by decide))
    have c2 : wR.cell? ⟨w.heap.size, 2, none⟩ = some (.slice (nv q).ka es.length (nv q).kc) := by rw [← HEL.out.1]; exact kR.cell 2
    have c3 : wR.cell? ⟨w.heap.size, 3, none⟩ = some (.slice (nv q).va es.length (nv q).vc) := by rw [← HEL.out.2]; exact kR.cell 3
    have HQ : Hid _ := And.intro hQ hkp
    have hzR : w.heap.size ≤ wR.heap.size := hQ.fr.size
    by_cases hlt : j < es.length
    · have hlt' : (j : Int) < (es.length : Int) := by omega
      have ok := OR.keys
      have ov := OR.vals
      rw [HEL.out.1] at ok
      rw [HEL.out.2] at ov
      obtain ⟨kb, hka, _, _, _, hkc⟩ := ok.at_ (by omega)
      obtain ⟨vb, hva, _, _, _, hvc⟩ := ov.at_ (by omega)
      rw [hka] at c2
      rw [hva] at c3
      have ck := (hkc j hlt).trans (congrArg some (HKE.out j hlt).1)
      have cv := (hvc j hlt).trans (congrArg some (HKE.out j hlt).2)
      have HTK : Hid (es.take (j + 1) = es.take j ++ [es.getD j e0]) := by
        show es.take (j + 1) = es.take j ++ [es.getD j e0]
        rw [List.take_succ_eq_append_getElem hlt]
        simp [List.getD, hlt]
      have hrow := hQ.own
      have hxl : (xs ++ es.take j).length ≤ 1048576 := by rw [List.length_append, List.length_take]; omega
      generalize es.getD j e0 = en at *
      obtain ⟨ky, vl⟩ := en
      have HXJ : Hid _ := Eq.refl (xs ++ es.take j)
      generalize hxj : xs ++ es.take j = ej at hrow hxl ⊢
      have HXJ : Hid (xs ++ es.take j = ej) := hxj
      clear hxj hkc hvc ok ov OR kR hQ hkp hka hva
      go_upto_region 7 with fail
      have HCS : Hid (∀ u, Below wR.heap.size wR u → u.cell? ⟨w.heap.size, 2, none⟩ = some (.slice (some ⟨kb, 0, none⟩) es.length (nv q).kc) ∧ u.cell? ⟨w.heap.size, 3, none⟩ = some (.slice (some ⟨vb, 0, none⟩) es.length (nv q).vc) ∧ u.cell? ⟨kb, j, none⟩ = some (.string ky) ∧ u.cell? ⟨vb, j, none⟩ = some (.string vl)) := fun u hu =>
        ⟨(hu.cell (World.block_lt_of_cell? wR _ c2)).trans c2, (hu.cell (World.block_lt_of_cell? wR _ c3)).trans c3, (hu.cell (World.block_lt_of_cell? wR _ ck)).trans ck, (hu.cell (World.block_lt_of_cell? wR _ cv)).trans cv⟩
      have dd : Below wR.heap.size wR wR.drew := ⟨rfl, rfl, rfl, Nat.le_refl _, fun _ _ => rfl⟩
      have cs := HCS.out _ dd
      have hrowD : ORow 93 2 B wR.drew a' ej.length c' (enF ej) := ORow.below hrow dd
      refine wp_regionD (fun u => u.cell? ⟨w.heap.size, 2, none⟩ = some (.slice (some ⟨kb, 0, none⟩) es.length (nv q).kc) ∧ u.cell? ⟨w.heap.size, 3, none⟩ = some (.slice (some ⟨vb, 0, none⟩) es.length (nv q).vc) ∧ u.cell? ⟨kb, j, none⟩ = some (.string ky) ∧ u.cell? ⟨vb, j, none⟩ = some (.string vl)) (fun k => decide (13 ≤ k)) (by kernel_rfl) ?_
      refine takeY 0 27 cs ?_
      simp only [Act.put, setL, List.set]
      refine takeY 1 28 cs ?_
      simp only [Act.put, setL, List.set]
      refine takeY 2 29 cs ?_
      simp only [Act.put, setL, List.set]
      refine takeY 3 30 cs ?_
      simp only [Act.put, setL, List.set]
      refine takeY 4 31 cs ?_
      simp only [Act.put, setL, List.set]
      refine takeY 5 32 cs ?_
      simp only [Act.put, setL, List.set]
      refine takeY 6 33 cs ?_
      simp only [Act.put, setL, List.set]
      refine takeY 7 34 cs ?_
      simp only [Act.put, setL, List.set]
      refine takeY 8 35 cs ?_
      simp only [Act.put, setL, List.set]
      refine takeY 9 36 cs ?_
      simp only [Act.put, setL, List.set]
      refine takeY 10 37 cs ?_
      simp only [Act.put, setL, List.set]
      refine wpAnyD_one 11 (by kernel_rfl) rfl (fun KK hK => ?_)
      rw [if_pos (show Region.wanted _ _ = true from rfl)]
      refine wp_build_eq1 _ _ rfl (cs := #[.string ky, .string vl]) ?bk ?_
      case bk =>
        simp only [List.map_toArray, List.map_cons, List.map_nil]
        exact built_en ky vl
      refine hK.out _ _ (fun _ => cs) ?_
      clear hK KK
      refine wpAnyD_one 12 (by kernel_rfl) rfl (fun KK hK => ?_)
      rw [if_pos (show Region.wanted _ _ = true from rfl)]
      refine wp_buildSlice_eq1 _ _ _ rfl (v := .slice (some ⟨wR.drew.heap.size, 0, none⟩) 1 1) (w' := wR.drew.alloc (Obj.cells [.string ky, .string vl].toArray 93)) ?bs ?_
      case bs =>
        simp only [List.map_toArray, List.map_cons, List.map_nil]
        exact run_bsEn ky vl wR.drew
      refine hK.out _ _ (fun _ => HCS.out _ (dd.alloc dd.size _)) ?_
      clear hK KK
      refine wpAnyD_one 13 (by kernel_rfl) rfl (fun KK hK => ?_)
      rw [if_pos (show Region.wanted _ _ = true from rfl)]
      refine wp_appRowL _ _ elEn rfl B a' ej.length c' (enF ej) rfl hrowD [.string ky, .string vl] rfl (by simp [Value.oneCell']) rfl hxl (by omega) (by have := dd.size; omega) ?_
      intro b8 c8 w8 o8 bl8 g8 at8
      refine hK.out _ _ (fun h => absurd h (by decide)) ?_
      clear hK KK
      have Q8 : EtQ B w a xs (es.take (j + 1)) (some ⟨b8, 0, none⟩) c8 w8 := by
        rw [HTK.out]
        refine EtQ.one (x := (ky, vl)) (cs := [.string ky, .string vl].toArray) (HQ.out.1.below dd) ?_ ?_ at8
        · rw [HXJ.out]; exact o8
        · rw [HXJ.out]; exact g8
      have k8 : ∀ t, t ≠ 93 → KeepT t W w8 := fun t ht => (HQ.out.2 t ht).trans ((keepT_below dd).trans ((keepT_below ((Below.refl _ _).alloc (Nat.le_refl _) _)).trans (keepT_grown (own_below hrowD ((Below.refl _ _).alloc (Nat.le_refl _) _)) g8 (Ne.symm ht))))
      have FIN : Hid _ := And.intro Q8 k8
      have hl8 : Hid ((xs ++ es.take (j + 1)).length = ej.length + 1) := by
        show (xs ++ es.take (j + 1)).length = ej.length + 1
        rw [HTK.out, ← List.append_assoc, List.length_append, HXJ.out]; rfl
      clear Q8 k8 o8 bl8 g8 at8 hrow hrowD cs dd HCS
      refine wpAnyD_one 14 (by kernel_rfl) rfl (fun KK hK => ?_)
      rw [if_pos (show Region.wanted _ _ = true from rfl)]
      go_wp2_with fail
      refine hK.out _ _ (fun h => absurd h (by decide)) ?_
      clear hK KK
      refine wpAnyD_done (by kernel_rfl) ?_ _
      go_wp2_with fail
      go_roundw
      case rel => exact ⟨j + 1, _, _, by rw [hl8.out], by go_num, by omega, FIN.out.1, FIN.out.2⟩
      case measure => simp [intOf]; omega
    · have hje : j = es.length := by omega
      have hnl : ¬ (j : Int) < (es.length : Int) := by omega
      have hTk : es.take j = es := by rw [hje, List.take_length]
      rw [hTk] at hQ ⊢
      have HQ1 : Hid _ := And.intro hQ hkp
      have hxe : (xs ++ es).length ≤ 1048576 := by rw [List.length_append]; omega
      have HLE : Hid ((xs ++ es).length = xs.length + es.length) := by show (xs ++ es).length = xs.length + es.length; rw [List.length_append]
      generalize hxs : xs ++ es = xe at hxe ⊢
      have HXE : Hid (xs ++ es = xe) := hxs
      clear hxs hje hTk hQ hkp kR OR c3 HQ
      go_wp2_with fail
      go_loopw [2, 9] (fun s2 s9 wr => ∃ (j : Nat) (a2 : Option Addr) (c4 : Nat), s2 = .slice a2 (xs ++ (es ++ entsL (L.take j))).length c4 ∧ s9 = .int .i64 (j : Nat) ∧ j ≤ K.kids.length ∧ EtQ B w a xs (es ++ entsL (L.take j)) a2 c4 wr ∧ (∀ t, t ≠ 93 → KeepT t W wr)) (fun _ s _ => K.kids.length - (intOf s).toNat)
      case atStart => exact ⟨0, a', c', by rw [show entsL (L.take 0) = [] from rfl, List.append_nil, HXE.out], rfl, Nat.zero_le _, by rw [show entsL (L.take 0) = [] from rfl, List.append_nil]; exact HQ1.out.1, HQ1.out.2⟩
      case round =>
        obtain ⟨m, a2, c4, rfl, rfl, hm, hQ, hkp⟩ := hrel
        obtain ⟨wI, hwX⟩ : ∃ wX, wX = wr := ⟨_, rfl⟩
        subst hwX
        have kI := HW.out.1.keepT (hkp _ (by decide))
        have OI := HW.out.2.1.keep (hkp _ (by decide)) (hkp _ (by decide))
        have stI := HW.out.2.2.1.keepE hkp
        have c4' : wI.cell? ⟨w.heap.size, 4, none⟩ = some (.slice (nv q).da K.kids.length (nv q).dc) := kI.cell 4
        have HQ2 : Hid _ := And.intro hQ hkp
        have hzI : w.heap.size ≤ wI.heap.size := hQ.fr.size
        have hkl2 : K.kids.length ≤ 1048576 := by omega
        by_cases hlt : m < K.kids.length
        · have hlt' : (m : Int) < (K.kids.length : Int) := by omega
          have o1 := OI.kids
          obtain ⟨kb, hda, _, _, _, hkc⟩ := o1.at_ (by omega)
          rw [hda] at c4'
          have ck := (hkc m hlt).trans (congrArg some (on_get K.kids m hlt))
          have htk := entsL_take L m (by omega)
          have hle1 := entsL_le L (m + 1)
          rw [htk, List.length_append] at hle1
          have RC := HIH.out.1 m (by omega) (K.kids.getD m 0) (xs ++ (es ++ entsL (L.take m))) a2 c4 B wI stI hQ.own (by omega) (HIH.out.2.1 m (by omega)) (by rw [List.length_append, List.length_append]; omega)
          have HTK : Hid _ := htk
          generalize K.kids.getD m 0 = kp at *
          have hll : (xs ++ (es ++ entsL (L.take m))).length ≤ 1048576 := by rw [List.length_append, List.length_append]; omega
          have HRC : Hid (∀ e w', (∃ a' c', e = Ending.returned (.slice a' (xs ++ (es ++ entsL (L.take m)) ++ entsT (L.getD m t0).2).length c') ∧ EtQ B wI a2 (xs ++ (es ++ entsL (L.take m))) (entsT (L.getD m t0).2) a' c' w') → ∃ a' c', e = Ending.returned (.slice a' (xs ++ (es ++ entsL (L.take (m + 1)))).length c') ∧ EtQ B w a xs (es ++ entsL (L.take (m + 1))) a' c' w' ∧ (∀ t, t ≠ 93 → KeepT t W w')) := fun e w' h => by
            obtain ⟨a3, c5, he, h3⟩ := h
            refine ⟨a3, c5, ?_, ?_, fun t ht => (hkp t ht).trans (h3.keep t ht)⟩
            · rw [he, htk, ← List.append_assoc, ← List.append_assoc, ← List.append_assoc]
            · have := hQ.trans h3
              rwa [List.append_assoc, ← htk] at this
          replace RC := RC.mono HRC.out
          generalize hxj : xs ++ (es ++ entsL (L.take m)) = ej at RC hll ⊢
          clear hkc o1 OI stI hda kI hQ hkp hxj htk hle1
          go_wp2_with fail
          refine RC.mono ?_
          rintro e w5 ⟨a3, c5, rfl, h3, k3⟩
          have FIN : Hid _ := And.intro h3 k3
          clear RC h3 k3 c4' ck
          have hlf : (xs ++ (es ++ entsL (L.take (m + 1)))).length ≤ 1048576 := by have := entsL_le L (m + 1); rw [List.length_append, List.length_append]; omega
          go_wp2_with fail
          go_roundw
          case rel => exact ⟨m + 1, a3, c5, by simp only [List.length_append], by go_num, by omega, FIN.out.1, FIN.out.2⟩
          case measure => simp [intOf]; omega
        · have hme : m = L.length := by omega
          have hnl : ¬ (m : Int) < (K.kids.length : Int) := by omega
          have hT : L.take m = L := List.take_of_length_le (by omega)
          rw [hT] at hQ ⊢
          have FIN : Hid _ := hQ
          clear hQ hkp kI OI stI hT hme
          go_wp2_with fail
          go_ret
          exact ⟨a2, c4, rfl, FIN.out⟩
theorem et_all {B0 g sb N : Nat} {rt : Int} {ns : List NdK} {nv : Nat → NdV} {na : Option Addr} {nc : Nat} {seen : List Int} {tall : Int} {bad : Bool} (hnl : ns.length ≤ 1048576) : ∀ t : Tr,
    (isT t = true → full t true → smT t → EtC B0 g sb N rt ns nv na nc seen tall bad t) ∧ (isT t = false → ∀ b, full t b → smT t → ∀ m, m < (klist t).length → EtC B0 g sb N rt ns nv na nc seen tall bad ((klist t).getD m t0).2)
  | .leaf id es => ⟨fun _ _ _ => fun p xs a c B w st ho hB hr hl => by
      rw [Rep] at hr
      obtain ⟨q, hq, hK⟩ := hr
      cases hq
      have := et_step hnl q _ hK es rfl rfl [] rfl (by simp) (fun m hm => by simp at hm) (fun m hm => by simp at hm) xs a c B w st ho hB (by simpa [entsL, entsT] using hl)
      simpa [entsT, entsL] using this, fun h => by simp [isT] at h⟩
  | .node id ks => ⟨fun _ hf hs => fun p xs a c B w st ho hB hr hl => by
      rw [Rep] at hr
      obtain ⟨q, kd, sg, hq, hK, hR⟩ := hr
      cases hq
      rw [full] at hf
      rw [smT] at hs
      have hT : isT ks = false := by obtain ⟨s, t, r, rfl⟩ := hf.1; rfl
      obtain ⟨hdl, _, hrep⟩ := rep_list ks true kd sg hT hf.2 hR
      have hE := ents_klist ks hT true hf.2
      have := et_step hnl q _ hK [] rfl rfl (klist ks) hdl hs.1 hrep ((et_all hnl ks).2 hT true hf.2 hs.2) xs a c B w st ho hB (by rw [entsT, hE] at hl; simpa using hl)
      rw [entsT, hE]
      simpa using this, fun h => by simp [isT] at h⟩
  | .nil => ⟨fun h => by simp [isT] at h, fun _ _ _ _ m hm => by simp [klist] at hm⟩
  | .cons s t ks => ⟨fun h => by simp [isT] at h, fun _ b hf hs m hm => by
      rw [full] at hf
      rw [smT] at hs
      cases m with
      | zero => exact (et_all hnl t).1 hf.2.1 hf.2.2.2.1 hs.1
      | succ m => exact (et_all hnl ks).2 hf.2.2.1 false hf.2.2.2.2 hs.2 m (by simpa [klist] using hm)⟩
end Go.Proofs.YtnohmedccbogkaaGreatDoor

namespace Go.Proofs.YtnohmedccbogkaaGreatDoor
open Go.RowKit
set_option linter.unusedVariables false
def mkd (sn : List Int) (N : Nat) : List Int := ((List.range N).filter fun (i : Nat) => sn.contains (i : Int)).map fun (i : Nat) => (i : Int)
theorem mkd_succ (sn : List Int) (j : Nat) : mkd sn (j + 1) = if sn.contains (j : Int) = true then mkd sn j ++ [(j : Int)] else mkd sn j := by
  unfold mkd
  rw [List.range_succ, List.filter_append, List.map_append]
  by_cases h : sn.contains (j : Int) = true
  · rw [if_pos h, List.filter_cons_of_pos (by exact h)]; rfl
  · rw [if_neg h, List.filter_cons_of_neg (by exact h)]; simp
theorem mkd_len (sn : List Int) (N : Nat) : (mkd sn N).length ≤ N := by
  unfold mkd
  rw [List.length_map]
  have := List.length_filter_le (fun (i : Nat) => sn.contains (i : Int)) (List.range N)
  simpa using this
theorem own1_lit0 (e B : Nat) (w : World) (hB : B ≤ w.heap.size) : Own1 e B (w.alloc (.cells #[] e)) (some ⟨w.heap.size, 0, none⟩) 0 0 [] := orow_lit0 e 1 B w hB (fun _ => [])
set_option maxHeartbeats 2000000 in
set_option maxRecDepth 100000 in
theorem l3Marked_calls (B mb N : Nat) (sn : List Int) (w : World) (hN : N ≤ 1048576) (hm : Own1 4 B w (some ⟨mb, 0, none⟩) N N (mkB sn N)) :
    Calls Tryz.prog 144 #[.slice (some ⟨mb, 0, none⟩) N N] w fun e w' => ∃ a c, e = .returned (.slice a (mkd sn N).length c) ∧ Below w.heap.size w w' ∧ Own1 3 w.heap.size w' a (mkd sn N).length c (on (mkd sn N)) := by
  have HMK : Hid (∀ u, Below w.heap.size w u → Own1 4 B u (some ⟨mb, 0, none⟩) N N (mkB sn N)) := fun u hu => hm.below hu
  have q0 : Below w.heap.size w (w.alloc (Obj.cells #[] 3)) := (Below.refl _ _).alloc (Nat.le_refl _) _
  have H0 : Hid _ := And.intro q0 (own1_lit0 3 w.heap.size w (Nat.le_refl _))
  clear hm q0
  go_enter Tryz.func144, Tryz.ntmps144
  go_upto_region 2 with fail
  generalize w.alloc (Obj.cells #[] 3) = W at *
  go_wp2_with fail
  go_loopw [3, 4] (fun s x wr => ∃ (j : Nat) (a : Option Addr) (c : Nat) (ys : List Int), x = .int .i64 (j : Nat) ∧ j ≤ N ∧ s = .slice a ys.length c ∧ ys = mkd sn j ∧ Below w.heap.size w wr ∧ Own1 3 w.heap.size wr a ys.length c (on ys)) (fun _ x _ => N - (intOf x).toNat)
  case atStart => exact ⟨0, _, 0, [], rfl, Nat.zero_le _, rfl, rfl, H0.out.1, H0.out.2⟩
  case round =>
    obtain ⟨j, a, c, ys, rfl, hj, rfl, hys, hbw, ho⟩ := hrel
    obtain ⟨wR, hwX⟩ : ∃ wX, wX = wr := ⟨_, rfl⟩
    subst hwX
    have hyl : ys.length ≤ j := by rw [hys]; exact mkd_len sn j
    have HYS : Hid _ := hys
    have HO : Hid _ := And.intro hbw ho
    clear hys
    by_cases hlt : j < N
    · have hlt' : (j : Int) < (N : Int) := by omega
      obtain ⟨_, e1, _, _, _, hc⟩ := (HMK.out wR hbw).at_ (by omega)
      cases e1
      have cM := (hc j hlt).trans (congrArg some (mkB_get sn N j hlt))
      have hst := mkd_succ sn j
      have HST : Hid _ := hst
      have hzz := hbw.size
      clear hc hbw ho hst
      cases hcn : sn.contains (j : Int) with
      | false =>
        rw [hcn] at cM HST
        clear hcn
        go_wp2_with fail
        go_roundw
        case rel => exact ⟨j + 1, a, c, ys, by go_num, by omega, rfl, by rw [HST.out, HYS.out]; rfl, HO.out.1, HO.out.2⟩
        case measure => simp [intOf]; omega
      | true =>
        rw [hcn] at cM HST
        clear hcn
        go_wp2_with (at_builtin; refine wpList_app1 rfl _ _ elInt rfl w.heap.size a ys.length c (on ys) rfl HO.out.2 (.int .i64 (j : Nat)) rfl rfl (by omega) (by omega) hzz ?_)
        intro a8 c8 w8 o8 b8 g8
        have HN : Hid _ := And.intro (HO.out.1.trans b8) o8
        clear o8 b8 g8
        go_wp2_with fail
        go_roundw
        case rel => exact ⟨j + 1, a8, c8, ys ++ [(j : Int)], by go_num, by omega, by simp, by rw [HST.out, HYS.out]; rfl, HN.out.1, by rw [List.length_append, ← on_app]; exact HN.out.2⟩
        case measure => simp [intOf]; omega
    · have hje : j = N := by omega
      subst hje
      have hlt' : ¬ (j : Int) < (j : Int) := by omega
      clear hbw ho
      go_wp2_with fail
      go_ret
      exact ⟨a, c, by rw [← HYS.out]; rfl, HO.out.1, by rw [← HYS.out]; exact HO.out.2⟩
def mOk (M : Nat) : List Int → List Int → Bool
  | [], _ => true
  | x :: ls, sn => if x < 2 ∨ (M : Int) ≤ x ∨ sn.contains x = true then false else mOk M ls (x :: sn)
theorem mOk_drop {M : Nat} {ls : List Int} {j : Nat} (hj : j < ls.length) (sn : List Int) : mOk M (ls.drop j) sn = if ls.getD j 0 < 2 ∨ (M : Int) ≤ ls.getD j 0 ∨ sn.contains (ls.getD j 0) = true then false else mOk M (ls.drop (j + 1)) (ls.getD j 0 :: sn) := by
  rw [List.drop_eq_getElem_cons hj, mOk]
  simp [List.getD, List.getElem?_eq_getElem hj]
set_option maxHeartbeats 2000000 in
set_option maxRecDepth 100000 in
theorem l3Mark_calls (B B2 mb M : Nat) (sn ls : List Int) (a : Option Addr) (c : Nat) (w : World) (hM : M ≤ 1048576) (hll : ls.length ≤ 1048576) (hm : Own1 4 B w (some ⟨mb, 0, none⟩) M M (mkB sn M)) (hl : Own1 3 B2 w a ls.length c (on ls)) :
    Calls Tryz.prog 143 #[.slice (some ⟨mb, 0, none⟩) M M, .slice a ls.length c] w fun e w' => e = .returned (.bool (mOk M ls sn)) ∧ OnlyB mb w w' ∧ (mOk M ls sn = true → Own1 4 B w' (some ⟨mb, 0, none⟩) M M (mkB (ls.reverse ++ sn) M)) := by
  obtain ⟨_, curM, hcM⟩ := hm.blk
  have HL : Hid (∀ u, OnlyB mb w u → Own1 3 B2 u a ls.length c (on ls)) := fun u hu => hl.keep (keepT_onlyC hu hcM (by decide))
  generalize hres : mOk M ls sn = res at *
  have HRES : Hid _ := hres
  have HM0 : Hid _ := hm
  clear hm hl hcM hres
  go_enter Tryz.func143, Tryz.ntmps143
  go_wp2_with fail
  go_loopw [5] (fun x wr => ∃ j : Nat, x = .int .i64 (j : Nat) ∧ j ≤ ls.length ∧ OnlyB mb w wr ∧ mOk M ls sn = mOk M (ls.drop j) ((ls.take j).reverse ++ sn) ∧ Own1 4 B wr (some ⟨mb, 0, none⟩) M M (mkB ((ls.take j).reverse ++ sn) M)) (fun x _ => ls.length - (intOf x).toNat)
  case atStart => exact ⟨0, rfl, Nat.zero_le _, OnlyB.refl _ _, rfl, HM0.out⟩
  case round =>
    obtain ⟨j, rfl, hj, ho, heq, hmk⟩ := hrel
    obtain ⟨wR, hwX⟩ : ∃ wX, wX = wr := ⟨_, rfl⟩
    subst hwX
    have hlR := HL.out wR ho
    have HO : Hid _ := And.intro ho heq
    clear ho heq
    by_cases hlt : j < ls.length
    · have hlt' : (j : Int) < (ls.length : Int) := by omega
      obtain ⟨lb, rfl, _, _, _, hlc⟩ := hlR.at_ (by omega)
      have cL := (hlc j hlt).trans (congrArg some (on_get ls j hlt))
      have hmd := mOk_drop (M := M) hlt ((ls.take j).reverse ++ sn)
      have HMD : Hid _ := hmd
      have htk : (ls.take (j + 1)).reverse ++ sn = ls.getD j 0 :: ((ls.take j).reverse ++ sn) := by
        have e : ls.take (j + 1) = ls.take j ++ [ls.getD j 0] := by rw [List.take_add_one]; simp [List.getD, List.getElem?_eq_getElem hlt]
        rw [e, List.reverse_append]
        rfl
      have HTK : Hid _ := htk
      clear hlc hlR hmd htk
      generalize (ls.take j).reverse ++ sn = sj at *
      generalize ls.getD j 0 = x at *
      by_cases h2 : x < 2
      · have HR : Hid (res = false) := by show res = false; rw [← HRES.out, HO.out.2, HMD.out, if_pos (Or.inl h2)]
        clear hmk
        go_wp2_with fail
        go_ret
        exact ⟨by rw [HR.out]; rfl, HO.out.1, fun h => by rw [HR.out] at h; cases h⟩
      by_cases h3 : (M : Int) ≤ x
      · have HR : Hid (res = false) := by show res = false; rw [← HRES.out, HO.out.2, HMD.out, if_pos (Or.inr (Or.inl h3))]
        clear hmk
        go_wp2_with fail
        go_ret
        exact ⟨by rw [HR.out]; rfl, HO.out.1, fun h => by rw [HR.out] at h; cases h⟩
      obtain ⟨X, rfl⟩ := Int.eq_ofNat_of_zero_le (show 0 ≤ x by omega)
      have hXM : X < M := by omega
      obtain ⟨_, e1, _, _, _, hmc⟩ := hmk.at_ (by omega)
      cases e1
      have cM := (hmc X hXM).trans (congrArg some (mkB_get sj M X hXM))
      have fM := hmk.free X
      have h2' : 2 ≤ (X : Int) := by omega
      have h3' : (X : Int) < (M : Int) := by omega
      clear hmc
      cases hcn : sj.contains (X : Int) with
      | true =>
        have HR : Hid (res = false) := by show res = false; rw [← HRES.out, HO.out.2, HMD.out, if_pos (Or.inr (Or.inr hcn))]
        rw [hcn] at cM
        clear hmk hcn
        go_wp2_with fail
        go_ret
        exact ⟨by rw [HR.out]; rfl, HO.out.1, fun h => by rw [HR.out] at h; cases h⟩
      | false =>
        have hE : Hid (mOk M ls sn = mOk M (ls.drop (j + 1)) ((X : Int) :: sj)) := by
          show mOk M ls sn = _
          rw [HO.out.2, HMD.out, if_neg (by rw [hcn]; simp; omega)]
        rw [hcn] at cM
        have m2 := hmk.set X (.bool true)
        rw [mkB_set _ _ _ hXM] at m2
        have HN : Hid _ := And.intro (HO.out.1.trans (onlyB_setCell wR mb X (.bool true))) m2
        clear hmk hcn m2
        go_wp2_with fail
        go_roundw
        case rel => exact ⟨j + 1, by go_num, by omega, HN.out.1, by rw [HTK.out]; exact hE.out, by rw [HTK.out]; exact HN.out.2⟩
        case measure => simp [intOf]; omega
    · have hje : j = ls.length := by omega
      have hlt' : ¬ (j : Int) < (ls.length : Int) := by omega
      have HR : Hid (res = true) := by
        show res = true
        rw [← HRES.out, HO.out.2, hje, List.drop_length]
        rfl
      have HF : Hid (Own1 4 B wR (some ⟨mb, 0, none⟩) M M (mkB (ls.reverse ++ sn) M)) := by
        show Own1 _ _ _ _ _ _ _
        rw [hje, List.take_length] at hmk
        exact hmk
      clear hmk hlR hje
      go_wp2_with fail
      go_ret
      exact ⟨by rw [HR.out]; rfl, HO.out.1, fun _ => HF.out⟩
end Go.Proofs.YtnohmedccbogkaaGreatDoor

namespace Go.Proofs.YtnohmedccbogkaaGreatDoor
open Go.RowKit
structure RRecs (p : Nat) (w : World) (a : Option Addr) (n c : Nat) (I : Nat → Nat → Int) (A : Nat → Option Addr) (N C : Nat → Nat) (L : Nat → List Int) : Prop where
  le : n ≤ c
  le' : c ≤ maxLen
  nil : a = none → c = 0
  at_ : 0 < n → ∃ b off, a = some ⟨b, off, none⟩ ∧ b < w.heap.size ∧ ∀ i, i < n → (∀ q, q < p → w.cell? ⟨b, off + i * (p + 1) + q, none⟩ = some (.int .i64 (I i q))) ∧ w.cell? ⟨b, off + i * (p + 1) + p, none⟩ = some (.slice (A i) (N i) (C i))
  data : ∀ i, i < n → Bs w (A i) (N i) (C i) (L i)
theorem RRecs.below {p : Nat} {w w' : World} {a : Option Addr} {n c : Nat} {I : Nat → Nat → Int} {A : Nat → Option Addr} {N C : Nat → Nat} {L : Nat → List Int} (h : RRecs p w a n c I A N C L) (hb : Below w.heap.size w w') : RRecs p w' a n c I A N C L :=
  ⟨h.le, h.le', h.nil, fun hp => by
    obtain ⟨b, off, e, hl, hc⟩ := h.at_ hp
    refine ⟨b, off, e, Nat.lt_of_lt_of_le hl hb.size, fun i hi => ⟨fun q hq => ?_, ?_⟩⟩
    · rw [hb.cell (p := ⟨b, _, none⟩) hl]; exact (hc i hi).1 q hq
    · rw [hb.cell (p := ⟨b, _, none⟩) hl]; exact (hc i hi).2, fun i hi => (h.data i hi).below hb⟩
def recCells (p : Nat) (I : Nat → Int) (v : Value) : List Value := (List.range p).map (fun q => Value.int .i64 (I q)) ++ [v]
theorem recCells_len (p : Nat) (I : Nat → Int) (v : Value) : (recCells p I v).length = p + 1 := by simp [recCells]
theorem recCells_int (p : Nat) (I : Nat → Int) (v : Value) (q : Nat) (h : q < p) : (recCells p I v)[q]? = some (.int .i64 (I q)) := by
  simp [recCells, List.getElem?_append_left, h]
theorem recCells_last (p : Nat) (I : Nat → Int) (v : Value) : (recCells p I v)[p]? = some v := by
  simp [recCells]
def flat (p : Nat) (I : Nat → Nat → Int) (V : Nat → Value) : Nat → List Value
  | 0 => []
  | n + 1 => flat p I V n ++ recCells p (I n) (V n)
theorem flat_len (p : Nat) (I : Nat → Nat → Int) (V : Nat → Value) : ∀ n, (flat p I V n).length = n * (p + 1)
  | 0 => by simp [flat]
  | n + 1 => by rw [flat, List.length_append, flat_len p I V n, recCells_len, Nat.add_mul, Nat.one_mul]
theorem flat_get (p : Nat) (I : Nat → Nat → Int) (V : Nat → Value) (q : Nat) (hq : q < p + 1) : ∀ n i, i < n → (flat p I V n)[i * (p + 1) + q]? = (recCells p (I i) (V i))[q]?
  | 0, i, h => by omega
  | n + 1, i, h => by
    rw [flat]
    by_cases e : i = n
    · subst e
      rw [List.getElem?_append_right (by rw [flat_len]; omega), flat_len]
      congr 1
      omega
    · have hm : (i + 1) * (p + 1) ≤ n * (p + 1) := Nat.mul_le_mul_right _ (by omega)
      rw [Nat.add_mul, Nat.one_mul] at hm
      rw [List.getElem?_append_left (by rw [flat_len]; omega)]
      exact flat_get p I V q hq n i (by omega)
structure ORecs (p e : Nat) (B : Nat) (w : World) (a : Option Addr) (n c : Nat) (I : Nat → Nat → Int) (A : Nat → Option Addr) (N C : Nat → Nat) (L : Nat → List Int) : Prop where
  row : w.ownsRow B e (p + 1) (.slice a n c) n (flat p I (fun i => .slice (A i) (N i) (C i)) n)
  data : ∀ i, i < n → Own B w (A i) (N i) (C i) (L i)
  byte : ∀ i, i < n → IsB (L i)
  sep1 : ∀ i j, i < j → j < n → ∀ k, (Value.slice (A i) (N i) (C i)).ownBlock = some k → (Value.slice (A j) (N j) (C j)).ownBlock ≠ some k
theorem ORecs.reads {p e B : Nat} {w : World} {a : Option Addr} {n c : Nat} {I : Nat → Nat → Int} {A : Nat → Option Addr} {N C : Nat → Nat} {L : Nat → List Int} (h : ORecs p e B w a n c I A N C L) : RRecs p w a n c I A N C L := by
  have hd := fun i hi => (h.data i hi).bs (h.byte i hi)
  rcases h.row.2 with ⟨e1, h0⟩ | ⟨g, cap, cur, e1, hg, hh, h1, h2, h3, h4⟩
  · cases e1
    exact ⟨by omega, Nat.zero_le _, fun _ => rfl, fun hp => absurd hp (by omega), hd⟩
  · cases e1
    have hget : ∀ q i, i < n → q < p + 1 → w.cell? ⟨g, 0 + i * (p + 1) + q, none⟩ = (recCells p (I i) (.slice (A i) (N i) (C i)))[q]? := fun q i hi hq => by
      have hm : (i + 1) * (p + 1) ≤ n * (p + 1) := Nat.mul_le_mul_right _ (by omega)
      rw [Nat.add_mul, Nat.one_mul] at hm
      rw [Nat.zero_add, World.ownsRow.cellAt h.row (i * (p + 1) + q) (by omega)]
      exact flat_get p I (fun i => .slice (A i) (N i) (C i)) q hq n i hi
    refine ⟨h1, h2, fun e => (by cases e), fun hp => ⟨g, 0, rfl, (Array.getElem?_eq_some_iff.1 hh).1, fun i hi => ⟨fun q hq => ?_, ?_⟩⟩, hd⟩
    · rw [hget q i hi (by omega), recCells_int _ _ _ _ hq]
    · rw [hget p i hi (by omega), recCells_last]
theorem ORecs.below {p e B : Nat} {w w' : World} {a : Option Addr} {n c : Nat} {I : Nat → Nat → Int} {A : Nat → Option Addr} {N C : Nat → Nat} {L : Nat → List Int} (h : ORecs p e B w a n c I A N C L) (hb : Below w.heap.size w w') : ORecs p e B w' a n c I A N C L :=
  ⟨own_below h.row hb, fun i hi => (h.data i hi).below hb, h.byte, h.sep1⟩
theorem ORecs.mono {p e B B' : Nat} {w : World} {a : Option Addr} {n c : Nat} {I : Nat → Nat → Int} {A : Nat → Option Addr} {N C : Nat → Nat} {L : Nat → List Int} (h : ORecs p e B w a n c I A N C L) (hB : B' ≤ B) : ORecs p e B' w a n c I A N C L :=
  ⟨World.ownsRow.mono h.row hB, fun i hi => (h.data i hi).mono hB, h.byte, h.sep1⟩
theorem types_ne {w : World} {B B' e e' size size' : Nat} {v v' : Value} {n n' : Nat} {xs xs' : List Value} (h1 : w.ownsRow B e size v n xs) (h2 : w.ownsRow B' e' size' v' n' xs') (he : e ≠ e') : ∀ k, v.ownBlock = some k → v'.ownBlock ≠ some k := by
  intro k hk hk'
  rcases h1.2 with ⟨rfl, _⟩ | ⟨g, cap, cur, rfl, _, hh, _⟩
  · simp [Value.ownBlock] at hk
  · rcases h2.2 with ⟨rfl, _⟩ | ⟨g', cap', cur', rfl, _, hh', _⟩
    · simp [Value.ownBlock] at hk'
    · simp [Value.ownBlock] at hk hk'
      subst hk; subst hk'
      rw [hh] at hh'
      simp at hh'
      exact he hh'.2
def upd {α : Type} (f : Nat → α) (n : Nat) (x : α) : Nat → α := fun i => if i = n then x else f i
theorem upd_same {α : Type} (f : Nat → α) (n : Nat) (x : α) : upd f n x n = x := by simp [upd]
theorem upd_lt {α : Type} (f : Nat → α) (n : Nat) (x : α) {i : Nat} (h : i < n) : upd f n x i = f i := by simp [upd]; omega
theorem upd_ne {α : Type} (f : Nat → α) (n : Nat) (x : α) {i : Nat} (h : i ≠ n) : upd f n x i = f i := by simp [upd, h]
theorem flat_congr (p : Nat) {I I' : Nat → Nat → Int} {V V' : Nat → Value} : ∀ n, (∀ i, i < n → (∀ q, q < p → I i q = I' i q) ∧ V i = V' i) → flat p I V n = flat p I' V' n
  | 0, _ => rfl
  | n + 1, h => by
    rw [flat, flat, flat_congr p n (fun i hi => h i (by omega))]
    congr 1
    unfold recCells
    rw [(h n (by omega)).2]
    congr 1
    refine List.map_congr_left fun q hq => ?_
    rw [(h n (by omega)).1 q (by simpa using hq)]
end Go.Proofs.YtnohmedccbogkaaGreatDoor

namespace Go.Proofs.YtnohmedccbogkaaGreatDoor
open Go.RowKit
structure Within (B S : Nat) (w w' : World) : Prop where
  os : w'.os = w.os
  tape : w'.tape = w.tape
  output : w'.output = w.output
  size : w'.heap.size = w.heap.size
  block : ∀ k, k < B ∨ S ≤ k → w'.heap[k]? = w.heap[k]?
theorem Within.below {B S : Nat} {a b : World} (h : Within B S a b) : Below B a b := ⟨h.os, h.tape, h.output, Nat.le_of_eq h.size.symm, fun k hk => h.block k (Or.inl hk)⟩
def upd2 (I : Nat → Nat → Int) (j q : Nat) (x : Int) : Nat → Nat → Int := fun i r => if i = j ∧ r = q then x else I i r
theorem recCells_set (p : Nat) (I : Nat → Int) (v : Value) (q : Nat) (hq : q < p) (x : Int) : (recCells p I v).set q (.int .i64 x) = recCells p (fun r => if r = q then x else I r) v := by
  apply List.ext_getElem?
  intro j
  rw [List.getElem?_set]
  by_cases e : q = j
  · subst e
    rw [if_pos rfl, if_pos (by rw [recCells_len]; omega), recCells_int _ _ _ _ hq]
    simp
  · rw [if_neg e]
    by_cases hj : j < p
    · rw [recCells_int _ _ _ _ hj, recCells_int _ _ _ _ hj, if_neg (fun h => e h.symm)]
    · by_cases hj' : j = p
      · subst hj'; rw [recCells_last, recCells_last]
      · rw [List.getElem?_eq_none (by rw [recCells_len]; omega), List.getElem?_eq_none (by rw [recCells_len]; omega)]
theorem flat_set (p : Nat) (I : Nat → Nat → Int) (V : Nat → Value) (q : Nat) (hq : q < p) (x : Int) (j : Nat) : ∀ n, j < n → (flat p I V n).set (j * (p + 1) + q) (.int .i64 x) = flat p (upd2 I j q x) V n
  | 0, h => by omega
  | n + 1, h => by
    rw [flat, flat]
    by_cases e : j = n
    · subst e
      rw [List.set_append_right _ _ (by rw [flat_len]; omega), flat_len]
      rw [show j * (p + 1) + q - j * (p + 1) = q by omega, recCells_set p (I j) (V j) q hq x]
      rw [flat_congr p j (I' := upd2 I j q x) (V' := V) (fun i hi => ⟨fun r _ => by unfold upd2; rw [if_neg (by omega)], rfl⟩)]
      congr 1
      have : (fun r => if r = q then x else I j r) = upd2 I j q x j := by
        funext r; simp [upd2]
      rw [this]
    · have hm : (j + 1) * (p + 1) ≤ n * (p + 1) := Nat.mul_le_mul_right _ (by omega)
      rw [Nat.add_mul, Nat.one_mul] at hm
      rw [List.set_append_left _ _ (by rw [flat_len]; omega), flat_set p I V q hq x j n (by omega)]
      congr 1
      unfold recCells
      congr 1
      refine List.map_congr_left fun r _ => ?_
      unfold upd2
      rw [if_neg (by omega)]
theorem ORecs.setInt {p e B g : Nat} {w : World} {n c : Nat} {I : Nat → Nat → Int} {A : Nat → Option Addr} {N C : Nat → Nat} {L : Nat → List Int} (h : ORecs p e B w (some ⟨g, 0, none⟩) n c I A N C L) (he : e ≠ 5) (j q : Nat) (hj : j < n) (hq : q < p) (x : Int) :
    ORecs p e B (w.setCell ⟨g, j * (p + 1) + q, none⟩ (.int .i64 x)) (some ⟨g, 0, none⟩) n c (upd2 I j q x) A N C L ∧ w.grownBy (w.setCell ⟨g, j * (p + 1) + q, none⟩ (.int .i64 x)) (some g) := by
  have hs := World.ownsRow.stored h.row (j * (p + 1) + q) (.int .i64 x)
  rw [flat_set p I _ q hq x j n hj] at hs
  refine ⟨⟨hs.1, fun i hi => ?_, h.byte, h.sep1⟩, hs.2⟩
  refine World.ownsRow.kept (h.data i hi) hs.2 ?_
  cases hk : (Value.slice (A i) (N i) (C i)).ownBlock with
  | none => exact Or.inl rfl
  | some k => exact Or.inr fun e1 => types_ne (h.data i hi) h.row (Ne.symm he) k hk (by rw [e1]; rfl)
theorem ORecs.setData {p e B : Nat} {w w' : World} {a : Option Addr} {n c : Nat} {I : Nat → Nat → Int} {A : Nat → Option Addr} {N C : Nat → Nat} {L : Nat → List Int} (h : ORecs p e B w a n c I A N C L) (he : e ≠ 5) (j : Nat) (hj : j < n) (hg : w.grownBy w' (Value.slice (A j) (N j) (C j)).ownBlock) (l : List Int) (ho : Own B w' (A j) (N j) (C j) l) (hl : IsB l) :
    ORecs p e B w' a n c I A N C (upd L j l) := by
  refine ⟨?_, fun i hi => ?_, fun i hi => ?_, h.sep1⟩
  · refine World.ownsRow.kept h.row hg ?_
    cases hk : (Value.slice a n c).ownBlock with
    | none => exact Or.inl rfl
    | some k => exact Or.inr fun e1 => types_ne h.row (h.data j hj) he k hk e1.symm
  · by_cases e1 : i = j
    · subst e1; rw [upd_same]; exact ho
    · rw [upd_ne _ _ _ e1]
      refine World.ownsRow.kept (h.data i hi) hg ?_
      cases hk : (Value.slice (A i) (N i) (C i)).ownBlock with
      | none => exact Or.inl rfl
      | some k =>
        refine Or.inr fun e2 => ?_
        by_cases hij : i < j
        · exact h.sep1 i j hij hj k hk e2.symm
        · exact h.sep1 j i (by omega) hi k e2.symm hk
  · by_cases e1 : i = j
    · subst e1; rw [upd_same]; exact hl
    · rw [upd_ne _ _ _ e1]; exact h.byte i hi
def mk (p : Nat) (N : Nat → Nat) (k : Int) : Nat → Int
  | 0 => k
  | i + 1 => mk p N k i + p + N i
theorem mk_le (p : Nat) (N : Nat → Nat) (k : Int) {i j : Nat} (h : i ≤ j) : mk p N k i ≤ mk p N k j := by
  induction j with
  | zero => have : i = 0 := by omega
            subst this; exact Int.le_refl _
  | succ j ih =>
    by_cases e : i = j + 1
    · subst e; exact Int.le_refl _
    · have := ih (by omega); simp only [mk]; omega
theorem mk_ge (p : Nat) (N : Nat → Nat) (k : Int) (j : Nat) : k ≤ mk p N k j := mk_le p N k (Nat.zero_le j)
def mkI (p : Nat) (N : Nat → Nat) (k : Int) : Nat → Nat → Int := fun i q => mk p N k i + q
def mkL (p : Nat) (N : Nat → Nat) (k : Int) : Nat → List Int := fun i => marks (mk p N k i + p) (N i)
def upTo {α : Type} (j : Nat) (f g : Nat → α) : Nat → α := fun i => if i < j then f i else g i
theorem upTo_zero {α : Type} (f g : Nat → α) : upTo 0 f g = g := by funext i; simp [upTo]
end Go.Proofs.YtnohmedccbogkaaGreatDoor

