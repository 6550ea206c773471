import Derived.Test.YtglbanolhhjjiaaGreatDoorOp18
import Derived.Test.YtglbanolhhjjiaaGreatDoorOp2
import Derived.Maps.OwnSet
import Derived.Test.YtglbanolhhjjiaaGreatDoorOp15
import Derived.Lib.AppendZeros
/- The walker reads the kids of a node. -/
namespace Go.Proofs.YtglbanolhhjjiaaGreatDoor
open Go.RowKit
set_option linter.unusedVariables false

/-- What stands behind the reading of a node. -/
def NdP (P : Pg) (S : World → Prop) (X : Nat → Prop) (B0 g m N : Nat) (src : Value) (f steps : Nat) (st : St) (x : LSg) (id : Int) (w : World) (e : Ending) (w' : World) : Prop :=
  OnlyS (fun k => X k ∨ k = g ∨ k = m) w w' ∧ ((∃ t st' z F ty p, wkT P f (steps : Nat) st x id = some (t, st', z) ∧ e = .returned (.iface ty (.pointer p)) ∧ IRep w' t F [(strOfNums [], .iface ty (.pointer p))] ∧ F.Nodup ∧ (∀ k ∈ F, w.heap.size ≤ k) ∧ Wk S B0 g m N src w' st' z ∧ st.seen.length ≤ st'.seen.length) ∨ (wkT P f (steps : Nat) st x id = none ∧ e = .panicked badE))
/-- The contract of node, with so much fuel. -/
def NdC (P : Pg) (S : World → Prop) (X : Nat → Prop) (B0 g m N : Nat) (src : Value) (f : Nat) : Prop := ∀ (steps : Nat) (id : Int) (st : St) (x : LSg) (w : World), Wk S B0 g m N src w st x → N < f + st.seen.length → steps ≤ st.seen.length → -9223372036854775808 ≤ id → id ≤ 9223372036854775807 →
    Calls Tryz.prog 144 #[.pointer (some ⟨g, 0, none⟩), .int .i64 id, .int .i64 (steps : Nat)] w (NdP P S X B0 g m N src f steps st x id w)
def KdP (P : Pg) (S : World → Prop) (X : Nat → Prop) (B0 g m N : Nat) (src : Value) (f steps : Nat) (l : List Int) (st : St) (x : LSg) (gc : Nat) (w : World) (e : Ending) (w' : World) : Prop :=
  OnlyS (fun k => X k ∨ k = g ∨ k = m ∨ k = gc) w w' ∧ ((∃ t st' z F us a c, ((inP l).bind fun ls => wkK (wkT P f (steps : Nat)) ls true st x) = some (t, st', z) ∧ e = .returned (.slice a us.length c) ∧ ORow 239 2 w.heap.size w' a us.length c (kdF us) ∧ IRep w' t F us ∧ (rb a ++ F).Nodup ∧ (∀ k ∈ F, w.heap.size ≤ k) ∧ Wk S B0 g m N src w' st' z ∧ st.seen.length ≤ st'.seen.length) ∨ (((inP l).bind fun ls => wkK (wkT P f (steps : Nat)) ls true st x) = none ∧ e = .panicked badE))
theorem built_kd (s : ByteArray) (ty : Nat) (p : Value) : Tryz.prog.built 239 [(0, .string s), (1, .iface ty p)] = some #[.string s, .iface ty p] := by kernel_rfl
theorem sizeLn : (Tryz.prog.info? 197).map (·.size) = some 2 := by kernel_rfl
theorem lnF_ok (es : List (ByteArray × Int)) (n : Nat) : IsRow 2 (lnF es) n := ⟨fun _ _ => rfl, fun i _ u hu => by simp [lnF] at hu; rcases hu with rfl | rfl <;> rfl⟩
theorem lnP_ids : ∀ (n : Nat) (l : List Int) (ls : List (ByteArray × Int)), IsB l → l.length ≤ n → lnP l = some ls → ∀ e ∈ ls, 0 ≤ e.2 ∧ e.2 < 4294967296
  | 0, l, r, _, h, e => by rw [lnP_nil (by omega)] at e; cases e; simp
  | n + 1, l, r, hb, h, e => by
    by_cases h0 : l.length = 0
    · rw [lnP_nil h0] at e; cases e; simp
    · cases h1 : lnOne l with
      | false => rw [lnP_no h0 h1] at e; cases e
      | true =>
        rw [lnP_yes h1] at e
        obtain ⟨r2, e2, rfl⟩ := Option.map_eq_some_iff.1 e
        have hb1 := lnOne_iff.1 h1
        have := lnP_ids n (l.drop (5 + lfK l)) r2 (fun j => by have := hb (5 + lfK l + j); simpa [List.getD] using this) (by rw [List.length_drop]; omega) e2
        intro x hx
        rcases List.mem_cons.1 hx with rfl | hx
        · have hd : IsB (l.drop (1 + lfK l)) := fun j => by have := hb (1 + lfK l + j); simpa [List.getD] using this
          have := low_bd (isB_take hd 4)
          have hl : ((l.drop (1 + lfK l)).take 4).length = 4 := by rw [List.length_take, List.length_drop]; omega
          rw [hl] at this
          exact this
        · exact this x hx
theorem inP_ids {l : List Int} {ls : List (ByteArray × Int)} (hb : IsB l) (h : inP l = some ls) : ∀ e ∈ ls, 0 ≤ e.2 ∧ e.2 < 4294967296 := by
  unfold inP at h
  by_cases h4 : 4 ≤ l.length
  · rw [if_pos h4] at h
    obtain ⟨r, e2, rfl⟩ := Option.map_eq_some_iff.1 h
    have := lnP_ids _ _ r (fun j => by have := hb (4 + j); simpa [List.getD] using this) (Nat.le_refl _) e2
    intro x hx
    rcases List.mem_cons.1 hx with rfl | hx
    · have := low_bd (isB_take hb 4)
      have hl : (l.take 4).length = 4 := by rw [List.length_take]; omega
      rw [hl] at this
      exact this
    · exact this x hx
  · rw [if_neg h4] at h; cases h
/-- Where the reading of kids stands. -/
structure KdI (P : Pg) (S : World → Prop) (X : Nat → Prop) (B0 g m N : Nat) (src : Value) (f steps : Nat) (st : St) (x : LSg) (gc : Nat) (w : World) (ls : List (ByteArray × Int)) (la : Option Addr) (lc : Nat) (i : Nat) (a : Option Addr) (c : Nat) (us : List (ByteArray × Value)) (ts : List (ByteArray × Tr)) (F : List Nat) (st1 : St) (x1 : LSg) (wr : World) : Prop where
  len : us.length = i
  fr : OnlyS (fun k => X k ∨ k = g ∨ k = m ∨ k = gc) w wr
  wk : Wk S B0 g m N src wr st1 x1
  row : ORow 239 2 w.heap.size wr a us.length c (kdF us)
  rep : IRep wr (consL ts .nil) F us
  nd : (rb a ++ F).Nodup
  hi : ∀ k ∈ F, w.heap.size ≤ k
  lnk : ORow 197 2 w.heap.size wr la ls.length lc (lnF ls)
  sn : st.seen.length ≤ st1.seen.length
variable {S : World → Prop} {X : Nat → Prop} {B0 g m N ty fn : Nat} {src v : Value} {P : Pg} {st st1 : St} {x x1 : LSg} {w wr wr' : World} {f steps gc lc i c : Nat} {ls : List (ByteArray × Int)} {la a : Option Addr} {us : List (ByteArray × Value)} {ts : List (ByteArray × Tr)} {F : List Nat}
theorem KdI.below (HS : Src P B0 ty fn v S X) (h : KdI P S X B0 g m N src f steps st x gc w ls la lc i a c us ts F st1 x1 wr) (hb : Below wr.heap.size wr wr') : KdI P S X B0 g m N src f steps st x gc w ls la lc i a c us ts F st1 x1 wr' :=
  ⟨h.len, h.fr.trans (OnlyS.ofBelow hb), h.wk.below HS hb, h.row.below hb, h.rep.below hb, h.nd, h.hi, h.lnk.below hb, h.sn⟩
/-- The sign is written. -/
theorem KdI.sign (HS : Src P B0 ty fn v S X) (h : KdI P S X B0 g m N src f steps st x gc w ls la lc i a c us ts F st1 x1 wr) (hg : g < w.heap.size) (s : ByteArray) : KdI P S X B0 g m N src f steps st x gc w ls la lc i a c us ts F st1 (x1.1, s) (wr.setCell ⟨g, 4, none⟩ (.string s)) := by
  have ho := onlyB_setCell wr g 4 (.string s)
  have hs := h.wk.blk.set 4 (.string s)
  exact ⟨h.len, h.fr.transN (OnlyS.ofB ho) (fun k _ e => Or.inr (Or.inl e)), h.wk.put HS ho hs rfl, h.row.onlyN ho hg, h.rep.onlyS (OnlyS.ofB ho) (fun k hk e => by subst e; have := h.hi _ hk; omega), h.nd, h.hi, h.lnk.onlyN ho hg, h.sn⟩
theorem orow_apart {e e2 s s2 B B2 n n2 c c2 : Nat} {w : World} {a a2 : Option Addr} {f f2 : Nat → List Value} (h : ORow e s B w a n c f) (h2 : ORow e2 s2 B2 w a2 n2 c2 f2) (he : e ≠ e2) : ∀ k ∈ rb a, ∀ k2 ∈ rb a2, k ≠ k2 := by
  intro k hk k2 hk2 e3
  subst e3
  rcases h.2 with ⟨e1, _⟩ | ⟨g1, cap1, cur1, e1, hB1, hh1, _⟩
  · cases e1; simp [rb] at hk
  · rcases h2.2 with ⟨e1', _⟩ | ⟨g2, cap2, cur2, e2', hB2, hh2, _⟩
    · cases e1'; simp [rb] at hk2
    · cases e1; cases e2'
      simp [rb] at hk hk2
      subst hk
      rw [hk2, hh2] at hh1
      cases hh1
      exact he rfl
theorem rb_own {a : Option Addr} {n c : Nat} : ∀ k, (Value.slice a n c).ownBlock = some k → k ∈ rb a := by
  intro k h
  cases a with
  | none => simp [Value.ownBlock] at h
  | some ad => simp [Value.ownBlock] at h; simp [rb, h]
/-- One kid more. -/
theorem KdI.more (HS : Src P B0 ty fn v S X) (h : KdI P S X B0 g m N src f steps st x gc w ls la lc i a c us ts F st1 x1 wr) {w6 w8 : World} {t : Tr} {st6 : St} {z6 : LSg} {G : List Nat} {u : Value} {s : ByteArray} {b8 c8 : Nat}
    (o6 : OnlyS (fun k => X k ∨ k = g ∨ k = m) wr w6) (hgw : g < w.heap.size) (hmw : m < w.heap.size) (hX : ∀ k, X k → k < w.heap.size)
    (r6 : IRep w6 t G [(strOfNums [], u)]) (n6 : G.Nodup) (i6 : ∀ k ∈ G, wr.heap.size ≤ k) (k6 : Wk S B0 g m N src w6 st6 z6) (s6 : st1.seen.length ≤ st6.seen.length) {cs : Array Value}
    (o8 : ORow 239 2 w.heap.size w8 (some ⟨b8, 0, none⟩) (us.length + 1) c8 (updR (kdF us) us.length [.string s, u])) (gr : (w6.alloc (.cells cs 239)).grownBy w8 (Value.slice a us.length c).ownBlock) (at8 : a = some ⟨b8, 0, none⟩ ∨ w6.heap.size < b8) :
    KdI P S X B0 g m N src f steps st x gc w ls la lc (i + 1) (some ⟨b8, 0, none⟩) c8 (us ++ [(s, u)]) (ts ++ [(s, t)]) (F ++ G) st6 z6 w8 := by
  have hlow : ∀ k, (X k ∨ k = g ∨ k = m) → k < w.heap.size := fun k e => by
    rcases e with e | rfl | rfl
    · exact hX k e
    · exact hgw
    · exact hmw
  have hwz := h.fr.size
  have hz6 := o6.size
  have q6 : Below w6.heap.size w6 (w6.alloc (.cells cs 239)) := (Below.refl _ _).alloc (Nat.le_refl _) _
  have ow : OnlyS (fun k => k ∈ rb a) w6 w8 := (OnlyS.ofBelow q6).transN (OnlyS.ofGrown gr) (fun k _ e => rb_own k e)
  have row6 : ORow 239 2 w.heap.size w6 a us.length c (kdF us) := orow_rb h.row (fun k hk => o6.block k (orow_rb_lt h.row k hk).2 (fun e => by have := hlow k e; have := (orow_rb_lt h.row k hk).1; omega))
  have lnk6 : ORow 197 2 w.heap.size w6 la ls.length lc (lnF ls) := orow_rb h.lnk (fun k hk => o6.block k (orow_rb_lt h.lnk k hk).2 (fun e => by have := hlow k e; have := (orow_rb_lt h.lnk k hk).1; omega))
  have rep6 := h.rep.onlyS o6 (fun k hk e => by have := hlow k e; have := h.hi k hk; omega)
  have hFlt := h.rep.lt
  have hGlt := r6.lt
  have haF : ∀ k ∈ F, k ∉ rb a := fun k hk hr => (List.nodup_append.1 h.nd).2.2 k hr k hk rfl
  have haG : ∀ k ∈ G, k ∉ rb a := fun k hk hr => by have := i6 k hk; have := (orow_rb_lt h.row k hr).2; omega
  have kt : KeepT 5 w6 w8 := (keepT_below q6).trans (keepT_grown (own_below row6 q6) gr (by decide))
  refine ⟨by simp [h.len], (h.fr.transN o6 (fun k hk e => by rcases e with e | e | e; exact Or.inl e; exact Or.inr (Or.inl e); exact Or.inr (Or.inr (Or.inl e)))).transN ow (fun k hk e => by have := (orow_rb_lt h.row k e).1; omega), k6.keep HS ow (fun e => by have := (orow_rb_lt h.row _ e).1; omega) (fun e => by have := (orow_rb_lt h.row _ e).1; omega) (fun k e => by have := (orow_rb_lt h.row _ e).1; have := k6.gB; omega) kt, ?_, ?_, ?_, ?_, ?_, Nat.le_trans h.sn s6⟩
  · rw [List.length_append]
    exact o8.congr (fun j hj => kdF_app us (s, u) j hj)
  · exact IRep.snoc (r6.onlyS ow (fun k hk e => haG k hk e)) (rep6.onlyS ow (fun k hk e => haF k hk e))
  · rw [rb, List.singleton_append, List.nodup_cons]
    refine ⟨fun hk => ?_, ?_⟩
    · change b8 ∈ F ++ G at hk
      rcases at8 with e | e
      · rcases List.mem_append.1 hk with hk | hk
        · exact haF _ hk (by rw [e]; simp [rb])
        · exact haG _ hk (by rw [e]; simp [rb])
      · rcases List.mem_append.1 hk with hk | hk
        · have := hFlt _ hk; omega
        · have := hGlt _ hk; omega
    · rw [List.nodup_append]
      refine ⟨(List.nodup_append.1 h.nd).2.1, n6, fun p hp q hq e => ?_⟩
      subst e
      have := hFlt _ hp
      have := i6 _ hq
      omega
  · intro k hk
    rcases List.mem_append.1 hk with hk | hk
    · exact h.hi k hk
    · have := i6 k hk; omega
  · exact orow_rb lnk6 (fun k hk => ow.block k (orow_rb_lt lnk6 k hk).2 (fun e => orow_apart row6 lnk6 (by decide) k e k hk rfl))
end Go.Proofs.YtglbanolhhjjiaaGreatDoor

/- The walker reads the kids of a node: the walk. -/
namespace Go.Proofs.YtglbanolhhjjiaaGreatDoor
open Go.RowKit
set_option linter.unusedVariables false

set_option maxHeartbeats 8000000 in
set_option maxRecDepth 100000 in
theorem kids_calls (P : Pg) (B0 ty fn : Nat) (v : Value) (S : World → Prop) (X : Nat → Prop) (HS : Src P B0 ty fn v S X) (g m N : Nat) (src : Value) (f : Nat) (HN : NdC P S X B0 g m N src f)
    (steps : Nat) (l : List Int) (gc B : Nat) (st : St) (x : LSg) (w : World) (hw : Wk S B0 g m N src w st x) (hc : Cur w gc B l) (hB : B ≤ w.heap.size) (hl : l.length ≤ 1048576) (hgc : gc ≠ g) (hgm : gc ≠ m) (hgB : B0 ≤ gc) (hf : N < f + st.seen.length) (hs : steps ≤ st.seen.length) :
    Calls Tryz.prog 167 #[.pointer (some ⟨g, 0, none⟩), .pointer (some ⟨gc, 0, none⟩), .int .i64 (steps : Nat)] w (KdP P S X B0 g m N src f steps l st x gc w) := by
  have E := links_calls gc B l w hc hB hl
  have hg := hw.blk.lt
  have hmw := hw.set.lt
  have hX : ∀ k, X k → k < w.heap.size := fun k e => by have := HS.low k e; have := hw.gB; omega
  have hIB := hc.byte
  have hkc : ∃ xs, Blk w 192 gc xs := by
    obtain ⟨a, n, c, h⟩ := hc
    exact ⟨_, h.blk⟩
  obtain ⟨xs, hkc⟩ := hkc
  have H0 : Hid _ := And.intro hw (And.intro hIB hX)
  have HKC : Hid (Blk w 192 gc xs) := hkc
  clear hc hw hkc hIB hX
  go_enter Tryz.func167, Tryz.ntmps167
  go_wp2_with fail
  refine E.mono ?_
  rintro e w1 ⟨o1, hor⟩
  clear E
  have k1 := H0.out.1.keep HS (OnlyS.ofB o1) (fun e => hgc e.symm) (fun e => hgm e.symm) (fun k e => by subst e; exact hgB) (keepT_only o1 (show Blk w 192 gc xs from HKC.out) (by decide))
  have s1 := (OnlyS.ofB o1).mono (Z2 := (fun k => X k ∨ k = g ∨ k = m ∨ k = gc)) (fun k _ e => Or.inr (Or.inr (Or.inr e)))
  have hz1 := o1.size
  clear o1 HKC
  rcases hor with ⟨ls, la, lc, hin, rfl, hr⟩ | ⟨hno, rfl⟩
  rotate_left
  · have hno2 : ((inP l).bind fun ls => wkK (wkT P f (steps : Nat)) ls true st x) = none := by rw [hno]; rfl
    clear hno k1
    go_wp2
    exact ⟨rfl, s1, Or.inr ⟨hno2, rfl⟩⟩
  have hres : ((inP l).bind fun ls => wkK (wkT P f (steps : Nat)) ls true st x) = wkK (wkT P f (steps : Nat)) ls true st x := by rw [hin]; rfl
  have hlen := inP_len hin
  have hids := inP_ids H0.out.2.1 hin
  have HX : Hid _ := H0.out.2.2
  have H1 : Hid _ := And.intro k1 (And.intro s1 (And.intro hr (And.intro hres hids)))
  clear hin k1 s1 hr hres hids H0
  go_wp2_with fail
  go_loopw [7, 13] (fun s7 s13 wr => ∃ (i : Nat) (a : Option Addr) (c : Nat) (us : List (ByteArray × Value)) (ts : List (ByteArray × Tr)) (F : List Nat) (st1 : St) (x1 : LSg), s7 = .slice a us.length c ∧ s13 = .int .i64 (i : Nat) ∧ i ≤ ls.length ∧ KdI P S X B0 g m N src f steps st x gc w ls la lc i a c us ts F st1 x1 wr ∧ wkK (wkT P f (steps : Nat)) ls true st x = (wkK (wkT P f (steps : Nat)) (ls.drop i) (i == 0) st1 x1).map fun z => (consL ts z.1, z.2)) (fun _ s _ => ls.length - (intOf s).toNat)
  case atStart =>
    refine ⟨0, none, 0, [], [], [], st, x, rfl, by rfl, by omega, ⟨rfl, H1.out.2.1, H1.out.1, orow_nil _ _ _ _ _, ?_, by simp [rb], by simp, H1.out.2.2.1, Nat.le_refl _⟩, ?_⟩
    · show IRep w1 .nil [] []
      rw [IRep]
      exact ⟨rfl, rfl⟩
    · show _ = Option.map _ (wkK (wkT P f (steps : Nat)) ls true st x)
      generalize wkK (wkT P f (steps : Nat)) ls true st x = r
      cases r <;> rfl
  case round =>
    obtain ⟨i, a, c, us, ts, F, st1, x1, rfl, rfl, hi, hI, heq⟩ := hrel
    obtain ⟨wR, hwX⟩ : ∃ wX, wX = wr := ⟨_, rfl⟩
    subst hwX
    have hwz := hI.fr.size
    have HRS : Hid _ := H1.out.2.2.2.1
    have HID : Hid _ := H1.out.2.2.2.2
    clear H1
    have hul := hI.len
    have HI : Hid _ := hI
    by_cases hlt : i < ls.length
    · have hlt' : (i : Int) < (ls.length : Int) := by omega
      obtain ⟨b, rfl, hbB, hbl⟩ := orow_at hI.lnk (by omega)
      have hcl := fun j v hv => (hI.lnk.reads (lnF_ok ls _)).cells i hlt j v hv
      rw [show lnF ls i = [.string (ls.getD i l0).1, .int .i64 (ls.getD i l0).2] from rfl] at hcl
      have hdr : ls.drop i = ls.getD i l0 :: ls.drop (i + 1) := by
        rw [List.drop_eq_getElem_cons hlt]
        simp [List.getD, hlt]
      have hmem : ls.getD i l0 ∈ ls := by
        have : ls.getD i l0 = ls[i] := by simp [List.getD, hlt]
        rw [this]; exact List.getElem_mem _
      obtain ⟨id0, id1⟩ := HID.out _ hmem
      generalize ls.getD i l0 = en at *
      obtain ⟨sg, id⟩ := en
      have cc0 : wR.cell? ⟨b, i * 2, none⟩ = some (.string sg) := by have := hcl 0 _ rfl; simpa using this
      have cc1 : wR.cell? ⟨b, i * 2 + 1, none⟩ = some (.int .i64 id) := by have := hcl 1 _ rfl; simpa using this
      have heq2 : wkK (wkT P f (steps : Nat)) ls true st x = (if (i == 0) = true ∨ sl x1.1 sg = true then (wkT P f (steps : Nat) st1 (x1.1, if (i == 0) = true then x1.2 else sg) id).bind fun y => (wkK (wkT P f (steps : Nat)) (ls.drop (i + 1)) false y.2.1 y.2.2).map fun z => (.cons sg y.1 z.1, z.2) else none).map fun z => (consL ts z.1, z.2) := by rw [heq, hdr, wkK]
      have kE := blk_new wR 197 #[.string sg, .int .i64 id]
      have q2 : Below wR.heap.size wR (wR.alloc (Obj.cells #[.string sg, .int .i64 id] 197)) := (Below.refl _ _).alloc (Nat.le_refl _) _
      have z2 : (wR.alloc (Obj.cells #[.string sg, .int .i64 id] 197)).heap.size = wR.heap.size + 1 := by simp
      have hI2 := hI.below HS q2
      have HEQ : Hid _ := heq2
      clear hcl hdr hmem heq heq2 q2 HI hI
      go_upto_region 5 with (first | (refine wpList_storeNew rfl 197 _ _ rfl wR #[.string (strOfNums []), .int .i64 0] #[.string sg, .int .i64 id] 197 rfl rfl sizeLn rfl rfl ?_))
      change Code.wp _ _ _ _ (wR.alloc (Obj.cells #[.string sg, .int .i64 id] 197))
      generalize wR.alloc (Obj.cells #[.string sg, .int .i64 id] 197) = W2 at *
      generalize heb : wR.heap.size = eb at *
      have kE' : Blk W2 197 eb [.string sg, .int .i64 id] := kE
      clear kE cc0 cc1 HID
      have hgeb : g ≠ eb := by omega
      have hmeb : m ≠ eb := by omega
      rcases Nat.eq_zero_or_pos i with h0 | h0
      · have h00 : ¬ (0 : Int) < (i : Int) := by omega
        have hi0 : (i == 0) = true := by rw [h0]; rfl
        have H00 : Hid (i = 0) := h0
        clear h0
        obtain ⟨x3, hx3⟩ : ∃ x3 : LSg, x3 = x1 := ⟨_, rfl⟩
        have E3 : Hid (wkK (wkT P f (steps : Nat)) ls true st x = ((wkT P f (steps : Nat) st1 x3 id).bind fun y => (wkK (wkT P f (steps : Nat)) (ls.drop (i + 1)) false y.2.1 y.2.2).map fun z => (.cons sg y.1 z.1, z.2)).map fun z => (consL ts z.1, z.2)) := by
          have := HEQ.out
          rw [hi0, if_pos (Or.inl rfl), if_pos rfl] at this
          rw [hx3]
          exact this
        rw [← hx3] at hI2
        have H3 : Hid _ := And.intro hI2 kE'
        clear hI2 kE' HEQ hx3 hi0
        obtain ⟨W3, hW3⟩ : ∃ W3, W3 = W2 := ⟨_, rfl⟩
        have z3 : W3.heap.size = eb + 1 := by rw [hW3]; exact z2
        rw [← hW3] at H3
        subst hW3
        go_upto_region 8 with fail
        have HN1 := HN steps id st1 x3 W3.drew (H3.out.1.wk.below HS ⟨rfl, rfl, rfl, Nat.le_refl _, fun _ _ => rfl⟩) (by have := H3.out.1.sn; omega) (Nat.le_trans hs H3.out.1.sn) (by omega) (by omega)
        have cs8 : W3.drew.cell? ⟨eb, 0, none⟩ = some (.string sg) ∧ W3.drew.cell? ⟨eb, 1, none⟩ = some (.int .i64 id) := ⟨Blk.cell H3.out.2 0, Blk.cell H3.out.2 1⟩
        refine wp_regionD (fun u => u.cell? ⟨eb, 0, none⟩ = some (.string sg) ∧ u.cell? ⟨eb, 1, none⟩ = some (.int .i64 id)) (fun k => decide (10 ≤ k)) (by kernel_rfl) ?_
        refine wpAnyD_takeT 0 33 (v := ?vvb0) rfl rfl (by kernel_rfl) (by kernel_rfl) (by kernel_rfl) (by kernel_rfl) (fun _ _ _ h => h) (Or.inl ⟨by rfl, ?hyb0⟩) cs8 ?restb0
        case hyb0 => (intro w hSw; (try dsimp only at hSw); go_simp; try with_reducible rfl)
        simp only [Act.put, List.setIfInBounds_toArray, List.set_cons_zero, List.set_cons_succ]
        refine wpAnyD_takeT 1 34 (v := ?vvb1) rfl rfl (by kernel_rfl) (by kernel_rfl) (by kernel_rfl) (by kernel_rfl) (fun _ _ _ h => h) (Or.inl ⟨by rfl, ?hyb1⟩) cs8 ?restb1
        case hyb1 => (intro w hSw; (try dsimp only at hSw); go_simp; try with_reducible rfl)
        simp only [Act.put, List.setIfInBounds_toArray, List.set_cons_zero, List.set_cons_succ]
        refine wpAnyD_takeT 2 35 (v := ?vvb2) rfl rfl (by kernel_rfl) (by kernel_rfl) (by kernel_rfl) (by kernel_rfl) (fun _ _ _ h => h) (Or.inl ⟨by rfl, ?hyb2⟩) cs8 ?restb2
        case hyb2 => (intro w hSw; (try dsimp only at hSw); go_simp; try with_reducible rfl)
        simp only [Act.put, List.setIfInBounds_toArray, List.set_cons_zero, List.set_cons_succ]
        refine wpAnyD_takeT 3 36 (v := ?vvb3) rfl rfl (by kernel_rfl) (by kernel_rfl) (by kernel_rfl) (by kernel_rfl) (fun _ _ _ h => h) (Or.inl ⟨by rfl, ?hyb3⟩) cs8 ?restb3
        case hyb3 => (intro w hSw; (try dsimp only at hSw); go_simp; try with_reducible rfl)
        simp only [Act.put, List.setIfInBounds_toArray, List.set_cons_zero, List.set_cons_succ]
        refine wpAnyD_takeT 4 37 (v := ?vvb4) rfl rfl (by kernel_rfl) (by kernel_rfl) (by kernel_rfl) (by kernel_rfl) (fun _ _ _ h => h) (Or.inl ⟨by rfl, ?hyb4⟩) cs8 ?restb4
        case hyb4 => (intro w hSw; (try dsimp only at hSw); go_simp; try with_reducible rfl)
        simp only [Act.put, List.setIfInBounds_toArray, List.set_cons_zero, List.set_cons_succ]
        refine wpAnyD_takeT 5 38 (v := ?vvb5) rfl rfl (by kernel_rfl) (by kernel_rfl) (by kernel_rfl) (by kernel_rfl) (fun _ _ _ h => h) (Or.inl ⟨by rfl, ?hyb5⟩) cs8 ?restb5
        case hyb5 => (intro w hSw; (try dsimp only at hSw); go_simp; try with_reducible rfl)
        simp only [Act.put, List.setIfInBounds_toArray, List.set_cons_zero, List.set_cons_succ]
        refine wpAnyD_takeT 6 39 (v := ?vvb6) rfl rfl (by kernel_rfl) (by kernel_rfl) (by kernel_rfl) (by kernel_rfl) (fun _ _ _ h => h) (Or.inl ⟨by rfl, ?hyb6⟩) cs8 ?restb6
        case hyb6 => (intro w hSw; (try dsimp only at hSw); go_simp; try with_reducible rfl)
        simp only [Act.put, List.setIfInBounds_toArray, List.set_cons_zero, List.set_cons_succ]
        refine wpAnyD_one 7 (by kernel_rfl) rfl (fun KK hK => ?_)
        rw [if_pos (show Region.wanted _ _ = true from rfl)]
        go_wp2_with fail
        refine Calls.mono HN1 ?_
        rintro e w6 ⟨o6, ⟨t, st6, z6, G, ty6, p6, hw6, rfl, r6, n6, i6, k6, s6⟩ | ⟨hno, rfl⟩⟩
        rotate_left
        · have hfr : OnlyS (fun k => X k ∨ k = g ∨ k = m ∨ k = gc) w w6 := (H3.out.1.fr.drew).transN o6 (fun k hk e => by rcases e with e | e | e; exact Or.inl e; exact Or.inr (Or.inl e); exact Or.inr (Or.inr (Or.inl e)))
          go_wp2
          exact ⟨rfl, hfr, Or.inr ⟨by rw [HRS.out, E3.out, hno]; rfl, rfl⟩⟩
        clear HN1
        have kE6 : Blk w6 197 eb [.string sg, .int .i64 id] := Blk.onlyS (show Blk W3.drew 197 eb [.string sg, .int .i64 id] from H3.out.2) o6 (fun e => by rcases e with e | e | e; exact absurd (HX.out eb e) (by omega); exact hgeb e.symm; exact hmeb e.symm)
        have ck6 : w6.cell? ⟨eb, 0, none⟩ = some (.string sg) ∧ w6.cell? ⟨eb, 1, none⟩ = some (.int .i64 id) := ⟨Blk.cell kE6 0, Blk.cell kE6 1⟩
        have hz6 : W3.heap.size ≤ w6.heap.size := o6.size
        have H6 : Hid _ := And.intro o6 (And.intro r6 (And.intro n6 (And.intro i6 (And.intro k6 (And.intro s6 hw6)))))
        clear o6 r6 n6 i6 k6 s6 hw6 kE6
        go_wp2_with fail
        refine hK.out _ _ (fun _ => ck6) ?_
        clear hK KK
        refine wpAnyD_one 8 (by kernel_rfl) rfl (fun KK hK => ?_)
        rw [if_pos (show Region.wanted _ _ = true from rfl)]
        refine wp_build_eq1 _ _ rfl (cs := #[.string sg, .iface ty6 (.pointer p6)]) ?bkb ?_
        case bkb =>
          simp only [List.map_toArray, List.map_cons, List.map_nil]
          exact built_kd sg ty6 (.pointer p6)
        refine hK.out _ _ (fun _ => ck6) ?_
        clear hK KK
        refine wpAnyD_one 9 (by kernel_rfl) rfl (fun KK hK => ?_)
        rw [if_pos (show Region.wanted _ _ = true from rfl)]
        refine wp_buildSlice_eq1 _ _ _ rfl (v := .slice (some ⟨w6.heap.size, 0, none⟩) 1 1) (w' := w6.alloc (Obj.cells [.string sg, .iface ty6 (.pointer p6)].toArray 239)) ?bsb ?_
        case bsb =>
          simp only [List.map_toArray, List.map_cons, List.map_nil]
          exact run_bsRow elKd (by omega) (.agg #[.string sg, .iface ty6 (.pointer p6)]) [.string sg, .iface ty6 (.pointer p6)] rfl rfl w6
        refine hK.out _ _ (fun _ => ⟨(((Below.refl w6.heap.size w6).alloc (Nat.le_refl _) _).cell (p := ⟨eb, 0, none⟩) (show eb < w6.heap.size by omega)).trans ck6.1, (((Below.refl w6.heap.size w6).alloc (Nat.le_refl _) _).cell (p := ⟨eb, 1, none⟩) (show eb < w6.heap.size by omega)).trans ck6.2⟩) ?_
        clear hK KK
        have row6 : ORow 239 2 w.heap.size w6 a us.length c (kdF us) := orow_rb H3.out.1.row (fun k hk => H6.out.1.block k (orow_rb_lt H3.out.1.row k hk).2 (fun e => by have h9 := (orow_rb_lt H3.out.1.row k hk).1; rcases e with e | e | e; exact absurd (HX.out k e) (by omega); omega; omega))
        rw [hul] at row6
        refine wpAnyD_one 10 (by kernel_rfl) rfl (fun KK hK => ?_)
        rw [if_pos (show Region.wanted _ _ = true from rfl)]
        refine wp_appRowL _ _ elKd rfl w.heap.size a i c (kdF us) rfl row6 [.string sg, .iface ty6 (.pointer p6)] rfl (by simp [Value.oneCell']) rfl (by omega) (by omega) (by omega) ?_
        intro b8 c8 w8 o8 bl8 g8 at8
        refine hK.out _ _ (fun h => absurd h (by decide)) ?_
        clear hK KK
        rw [← hul] at o8 g8
        have I8 := KdI.more HS (KdI.below HS H3.out.1 (wr' := W3.drew) ⟨rfl, rfl, rfl, Nat.le_refl _, fun _ _ => rfl⟩) H6.out.1 hg hmw (HX.out) H6.out.2.1 H6.out.2.2.1 H6.out.2.2.2.1 H6.out.2.2.2.2.1 H6.out.2.2.2.2.2.1 (s := sg) o8 g8 at8
        have E8 : wkK (wkT P f (steps : Nat)) ls true st x = (wkK (wkT P f (steps : Nat)) (ls.drop (i + 1)) (i + 1 == 0) st6 z6).map fun z => (consL (ts ++ [(sg, t)]) z.1, z.2) := by
          rw [E3.out, H6.out.2.2.2.2.2.2]
          show Option.map _ (Option.map _ (wkK (wkT P f (steps : Nat)) (ls.drop (i + 1)) false st6 z6)) = Option.map _ (wkK (wkT P f (steps : Nat)) (ls.drop (i + 1)) false st6 z6)
          generalize wkK (wkT P f (steps : Nat)) (ls.drop (i + 1)) false st6 z6 = r
          cases r with
          | none => rfl
          | some z => simp [consL_app]
        have FIN : Hid _ := And.intro I8 E8
        clear I8 E8 o8 g8 bl8 row6 H6 H3 E3 ck6
        refine wpAnyD_one 11 (by kernel_rfl) rfl (fun KK hK => ?_)
        rw [if_pos (show Region.wanted _ _ = true from rfl)]
        go_wp2_with fail
        refine hK.out _ _ (fun h => absurd h (by decide)) ?_
        clear hK KK
        refine wpAnyD_done (by kernel_rfl) ?_ _
        clear cs8
        go_wp2
        go_roundw
        case rel => exact ⟨i + 1, _, _, _, _, _, _, _, by rw [List.length_append, hul]; rfl, by go_num, by omega, FIN.out.1, FIN.out.2⟩
        case measure => simp [intOf]; omega
      · have h00 : (0 : Int) < (i : Int) := by omega
        have hi0 : (i == 0) = false := by rw [beq_eq_false_iff_ne]; omega
        have c1 : W2.cell? ⟨eb, 0, none⟩ = some (.string sg) := kE'.cell 0
        have c2 : W2.cell? ⟨g, 3, none⟩ = some (.string x1.1) := hI2.wk.blk.cell 3
        have c5 : W2.cell? ⟨g, 4, none⟩ = some (.string x1.2) := hI2.wk.blk.cell 4
        have c4 : W2.frozen? ⟨g, 4, none⟩ = false := hI2.wk.blk.free 4
        have H2 : Hid _ := And.intro hI2 kE'
        clear hI2 kE'
        go_upto_region 6 with fail
        cases d1 : sl x1.1 sg with
        | false =>
          have d1' : (!Op.bytesLess sg.toList x1.1.toList && !sg.toList == x1.1.toList) = false := (gtr_is sg x1.1).trans d1
          have FINW : Hid (KdP P S X B0 g m N src f steps l st x gc w (.panicked badE) W2.drew) := ⟨H2.out.1.fr.drew, Or.inr ⟨by rw [HRS.out, HEQ.out, hi0, if_neg (by rw [d1]; decide)]; rfl, rfl⟩⟩
          refine wp_regionD (fun u => u.cell? ⟨eb, 0, none⟩ = some (.string sg) ∧ u.cell? ⟨g, 3, none⟩ = some (.string x1.1)) (fun k => decide (7 ≤ k)) (by kernel_rfl) ?_
          have cs : W2.drew.cell? ⟨eb, 0, none⟩ = some (.string sg) ∧ W2.drew.cell? ⟨g, 3, none⟩ = some (.string x1.1) := ⟨c1, c2⟩
          refine wpAnyD_takeT 0 20 (v := ?vva0) rfl rfl (by kernel_rfl) (by kernel_rfl) (by kernel_rfl) (by kernel_rfl) (fun _ _ _ h => h) (Or.inl ⟨by rfl, ?hya0⟩) cs ?resta0
          case hya0 => (intro w hSw; (try dsimp only at hSw); go_simp; try with_reducible rfl)
          simp only [Act.put, List.setIfInBounds_toArray, List.set_cons_zero, List.set_cons_succ]
          refine wpAnyD_takeT 1 21 (v := ?vva1) rfl rfl (by kernel_rfl) (by kernel_rfl) (by kernel_rfl) (by kernel_rfl) (fun _ _ _ h => h) (Or.inl ⟨by rfl, ?hya1⟩) cs ?resta1
          case hya1 => (intro w hSw; (try dsimp only at hSw); go_simp; try with_reducible rfl)
          simp only [Act.put, List.setIfInBounds_toArray, List.set_cons_zero, List.set_cons_succ]
          refine wpAnyD_takeT 2 22 (v := ?vva2) rfl rfl (by kernel_rfl) (by kernel_rfl) (by kernel_rfl) (by kernel_rfl) (fun _ _ _ h => h) (Or.inl ⟨by rfl, ?hya2⟩) cs ?resta2
          case hya2 => (intro w hSw; (try dsimp only at hSw); go_simp; try with_reducible rfl)
          simp only [Act.put, List.setIfInBounds_toArray, List.set_cons_zero, List.set_cons_succ]
          refine wpAnyD_takeT 3 23 (v := ?vva3) rfl rfl (by kernel_rfl) (by kernel_rfl) (by kernel_rfl) (by kernel_rfl) (fun _ _ _ h => h) (Or.inl ⟨by rfl, ?hya3⟩) cs ?resta3
          case hya3 => (intro w hSw; (try dsimp only at hSw); go_simp; try with_reducible rfl)
          simp only [Act.put, List.setIfInBounds_toArray, List.set_cons_zero, List.set_cons_succ]
          refine wpAnyD_takeT 4 24 (v := ?vva4) rfl rfl (by kernel_rfl) (by kernel_rfl) (by kernel_rfl) (by kernel_rfl) (fun _ _ _ h => h) (Or.inl ⟨by rfl, ?hya4⟩) cs ?resta4
          case hya4 => (intro w hSw; (try dsimp only at hSw); go_simp; try with_reducible rfl)
          simp only [Act.put, List.setIfInBounds_toArray, List.set_cons_zero, List.set_cons_succ]
          refine wpAnyD_takeT 5 25 (v := ?vva5) rfl rfl (by kernel_rfl) (by kernel_rfl) (by kernel_rfl) (by kernel_rfl) (fun _ _ _ h => h) (Or.inl ⟨by rfl, ?hya5⟩) cs ?resta5
          case hya5 => (intro w hSw; (try dsimp only at hSw); go_simp; try with_reducible rfl)
          simp only [Act.put, List.setIfInBounds_toArray, List.set_cons_zero, List.set_cons_succ]
          refine wpAnyD_takeT 6 26 (v := ?vva6) rfl rfl (by kernel_rfl) (by kernel_rfl) (by kernel_rfl) (by kernel_rfl) (fun _ _ _ h => h) (Or.inl ⟨by rfl, ?hya6⟩) cs ?resta6
          case hya6 => (intro w hSw; (try dsimp only at hSw); go_simp; try with_reducible rfl)
          simp only [Act.put, List.setIfInBounds_toArray, List.set_cons_zero, List.set_cons_succ]
          refine wpAnyD_one 7 (by kernel_rfl) rfl (fun KK hK => ?_)
          rw [if_pos (show Region.wanted _ _ = true from rfl)]
          go_wp2_with fail
          refine (need_no _).mono ?_
          rintro e w' ⟨rfl, rfl⟩
          go_wp2
          exact ⟨rfl, FINW.out⟩
        | true =>
          have d1' : (!Op.bytesLess sg.toList x1.1.toList && !sg.toList == x1.1.toList) = true := (gtr_is sg x1.1).trans d1
          obtain ⟨x3, hx3⟩ : ∃ x3 : LSg, x3 = (x1.1, sg) := ⟨_, rfl⟩
          have E3 : Hid (wkK (wkT P f (steps : Nat)) ls true st x = ((wkT P f (steps : Nat) st1 x3 id).bind fun y => (wkK (wkT P f (steps : Nat)) (ls.drop (i + 1)) false y.2.1 y.2.2).map fun z => (.cons sg y.1 z.1, z.2)).map fun z => (consL ts z.1, z.2)) := by
            have := HEQ.out
            rw [hi0, if_pos (Or.inr d1), if_neg Bool.false_ne_true] at this
            rw [hx3]
            exact this
          go_quiet (first | (go_at_call 145; exact Calls.quiet_of_same (need_yes _)))
          have hI2' : KdI P S X B0 g m N src f steps st x gc w ls (some ⟨b, 0, none⟩) lc i a c us ts F st1 x1 (W2.drewN nq) := H2.out.1.below HS (below_drewNT (Below.refl _ _) nq)
          have hI3 := hI2'.sign HS hg sg
          rw [← hx3] at hI3
          have kE3 : Blk ((W2.drewN nq).setCell ⟨g, 4, none⟩ (.string sg)) 197 eb [.string sg, .int .i64 id] := Blk.only (show Blk (W2.drewN nq) 197 eb [.string sg, .int .i64 id] from H2.out.2) (onlyB_setCell (W2.drewN nq) g 4 (.string sg)) (Ne.symm hgeb)
          have z3 : ((W2.drewN nq).setCell ⟨g, 4, none⟩ (.string sg)).heap.size = eb + 1 := by rw [← z2]; simp
          have H3 : Hid _ := And.intro hI3 kE3
          clear hI3 kE3 hI2' HEQ H2 d1' hi0
          go_upto_region 8 with fail
          generalize (W2.drewN nq).setCell ⟨g, 4, none⟩ (.string sg) = W3 at *
          clear c1 c2 c4 c5 hx3 d1
          have HN1 := HN steps id st1 x3 W3.drew (H3.out.1.wk.below HS ⟨rfl, rfl, rfl, Nat.le_refl _, fun _ _ => rfl⟩) (by have := H3.out.1.sn; omega) (Nat.le_trans hs H3.out.1.sn) (by omega) (by omega)
          have cs8 : W3.drew.cell? ⟨eb, 0, none⟩ = some (.string sg) ∧ W3.drew.cell? ⟨eb, 1, none⟩ = some (.int .i64 id) := ⟨Blk.cell H3.out.2 0, Blk.cell H3.out.2 1⟩
          refine wp_regionD (fun u => u.cell? ⟨eb, 0, none⟩ = some (.string sg) ∧ u.cell? ⟨eb, 1, none⟩ = some (.int .i64 id)) (fun k => decide (10 ≤ k)) (by kernel_rfl) ?_
          refine wpAnyD_takeT 0 33 (v := ?vvc0) rfl rfl (by kernel_rfl) (by kernel_rfl) (by kernel_rfl) (by kernel_rfl) (fun _ _ _ h => h) (Or.inl ⟨by rfl, ?hyc0⟩) cs8 ?restc0
          case hyc0 => (intro w hSw; (try dsimp only at hSw); go_simp; try with_reducible rfl)
          simp only [Act.put, List.setIfInBounds_toArray, List.set_cons_zero, List.set_cons_succ]
          refine wpAnyD_takeT 1 34 (v := ?vvc1) rfl rfl (by kernel_rfl) (by kernel_rfl) (by kernel_rfl) (by kernel_rfl) (fun _ _ _ h => h) (Or.inl ⟨by rfl, ?hyc1⟩) cs8 ?restc1
          case hyc1 => (intro w hSw; (try dsimp only at hSw); go_simp; try with_reducible rfl)
          simp only [Act.put, List.setIfInBounds_toArray, List.set_cons_zero, List.set_cons_succ]
          refine wpAnyD_takeT 2 35 (v := ?vvc2) rfl rfl (by kernel_rfl) (by kernel_rfl) (by kernel_rfl) (by kernel_rfl) (fun _ _ _ h => h) (Or.inl ⟨by rfl, ?hyc2⟩) cs8 ?restc2
          case hyc2 => (intro w hSw; (try dsimp only at hSw); go_simp; try with_reducible rfl)
          simp only [Act.put, List.setIfInBounds_toArray, List.set_cons_zero, List.set_cons_succ]
          refine wpAnyD_takeT 3 36 (v := ?vvc3) rfl rfl (by kernel_rfl) (by kernel_rfl) (by kernel_rfl) (by kernel_rfl) (fun _ _ _ h => h) (Or.inl ⟨by rfl, ?hyc3⟩) cs8 ?restc3
          case hyc3 => (intro w hSw; (try dsimp only at hSw); go_simp; try with_reducible rfl)
          simp only [Act.put, List.setIfInBounds_toArray, List.set_cons_zero, List.set_cons_succ]
          refine wpAnyD_takeT 4 37 (v := ?vvc4) rfl rfl (by kernel_rfl) (by kernel_rfl) (by kernel_rfl) (by kernel_rfl) (fun _ _ _ h => h) (Or.inl ⟨by rfl, ?hyc4⟩) cs8 ?restc4
          case hyc4 => (intro w hSw; (try dsimp only at hSw); go_simp; try with_reducible rfl)
          simp only [Act.put, List.setIfInBounds_toArray, List.set_cons_zero, List.set_cons_succ]
          refine wpAnyD_takeT 5 38 (v := ?vvc5) rfl rfl (by kernel_rfl) (by kernel_rfl) (by kernel_rfl) (by kernel_rfl) (fun _ _ _ h => h) (Or.inl ⟨by rfl, ?hyc5⟩) cs8 ?restc5
          case hyc5 => (intro w hSw; (try dsimp only at hSw); go_simp; try with_reducible rfl)
          simp only [Act.put, List.setIfInBounds_toArray, List.set_cons_zero, List.set_cons_succ]
          refine wpAnyD_takeT 6 39 (v := ?vvc6) rfl rfl (by kernel_rfl) (by kernel_rfl) (by kernel_rfl) (by kernel_rfl) (fun _ _ _ h => h) (Or.inl ⟨by rfl, ?hyc6⟩) cs8 ?restc6
          case hyc6 => (intro w hSw; (try dsimp only at hSw); go_simp; try with_reducible rfl)
          simp only [Act.put, List.setIfInBounds_toArray, List.set_cons_zero, List.set_cons_succ]
          refine wpAnyD_one 7 (by kernel_rfl) rfl (fun KK hK => ?_)
          rw [if_pos (show Region.wanted _ _ = true from rfl)]
          go_wp2_with fail
          refine Calls.mono HN1 ?_
          rintro e w6 ⟨o6, ⟨t, st6, z6, G, ty6, p6, hw6, rfl, r6, n6, i6, k6, s6⟩ | ⟨hno, rfl⟩⟩
          rotate_left
          · have hfr : OnlyS (fun k => X k ∨ k = g ∨ k = m ∨ k = gc) w w6 := (H3.out.1.fr.drew).transN o6 (fun k hk e => by rcases e with e | e | e; exact Or.inl e; exact Or.inr (Or.inl e); exact Or.inr (Or.inr (Or.inl e)))
            go_wp2
            exact ⟨rfl, hfr, Or.inr ⟨by rw [HRS.out, E3.out, hno]; rfl, rfl⟩⟩
          clear HN1
          have kE6 : Blk w6 197 eb [.string sg, .int .i64 id] := Blk.onlyS (show Blk W3.drew 197 eb [.string sg, .int .i64 id] from H3.out.2) o6 (fun e => by rcases e with e | e | e; exact absurd (HX.out eb e) (by omega); exact hgeb e.symm; exact hmeb e.symm)
          have ck6 : w6.cell? ⟨eb, 0, none⟩ = some (.string sg) ∧ w6.cell? ⟨eb, 1, none⟩ = some (.int .i64 id) := ⟨Blk.cell kE6 0, Blk.cell kE6 1⟩
          have hz6 : W3.heap.size ≤ w6.heap.size := o6.size
          have H6 : Hid _ := And.intro o6 (And.intro r6 (And.intro n6 (And.intro i6 (And.intro k6 (And.intro s6 hw6)))))
          clear o6 r6 n6 i6 k6 s6 hw6 kE6
          go_wp2_with fail
          refine hK.out _ _ (fun _ => ck6) ?_
          clear hK KK
          refine wpAnyD_one 8 (by kernel_rfl) rfl (fun KK hK => ?_)
          rw [if_pos (show Region.wanted _ _ = true from rfl)]
          refine wp_build_eq1 _ _ rfl (cs := #[.string sg, .iface ty6 (.pointer p6)]) ?bkc ?_
          case bkc =>
            simp only [List.map_toArray, List.map_cons, List.map_nil]
            exact built_kd sg ty6 (.pointer p6)
          refine hK.out _ _ (fun _ => ck6) ?_
          clear hK KK
          refine wpAnyD_one 9 (by kernel_rfl) rfl (fun KK hK => ?_)
          rw [if_pos (show Region.wanted _ _ = true from rfl)]
          refine wp_buildSlice_eq1 _ _ _ rfl (v := .slice (some ⟨w6.heap.size, 0, none⟩) 1 1) (w' := w6.alloc (Obj.cells [.string sg, .iface ty6 (.pointer p6)].toArray 239)) ?bsc ?_
          case bsc =>
            simp only [List.map_toArray, List.map_cons, List.map_nil]
            exact run_bsRow elKd (by omega) (.agg #[.string sg, .iface ty6 (.pointer p6)]) [.string sg, .iface ty6 (.pointer p6)] rfl rfl w6
          refine hK.out _ _ (fun _ => ⟨(((Below.refl w6.heap.size w6).alloc (Nat.le_refl _) _).cell (p := ⟨eb, 0, none⟩) (show eb < w6.heap.size by omega)).trans ck6.1, (((Below.refl w6.heap.size w6).alloc (Nat.le_refl _) _).cell (p := ⟨eb, 1, none⟩) (show eb < w6.heap.size by omega)).trans ck6.2⟩) ?_
          clear hK KK
          have row6 : ORow 239 2 w.heap.size w6 a us.length c (kdF us) := orow_rb H3.out.1.row (fun k hk => H6.out.1.block k (orow_rb_lt H3.out.1.row k hk).2 (fun e => by have h9 := (orow_rb_lt H3.out.1.row k hk).1; rcases e with e | e | e; exact absurd (HX.out k e) (by omega); omega; omega))
          rw [hul] at row6
          refine wpAnyD_one 10 (by kernel_rfl) rfl (fun KK hK => ?_)
          rw [if_pos (show Region.wanted _ _ = true from rfl)]
          refine wp_appRowL _ _ elKd rfl w.heap.size a i c (kdF us) rfl row6 [.string sg, .iface ty6 (.pointer p6)] rfl (by simp [Value.oneCell']) rfl (by omega) (by omega) (by omega) ?_
          intro b8 c8 w8 o8 bl8 g8 at8
          refine hK.out _ _ (fun h => absurd h (by decide)) ?_
          clear hK KK
          rw [← hul] at o8 g8
          have I8 := KdI.more HS (KdI.below HS H3.out.1 (wr' := W3.drew) ⟨rfl, rfl, rfl, Nat.le_refl _, fun _ _ => rfl⟩) H6.out.1 hg hmw (HX.out) H6.out.2.1 H6.out.2.2.1 H6.out.2.2.2.1 H6.out.2.2.2.2.1 H6.out.2.2.2.2.2.1 (s := sg) o8 g8 at8
          have E8 : wkK (wkT P f (steps : Nat)) ls true st x = (wkK (wkT P f (steps : Nat)) (ls.drop (i + 1)) (i + 1 == 0) st6 z6).map fun z => (consL (ts ++ [(sg, t)]) z.1, z.2) := by
            rw [E3.out, H6.out.2.2.2.2.2.2]
            show Option.map _ (Option.map _ (wkK (wkT P f (steps : Nat)) (ls.drop (i + 1)) false st6 z6)) = Option.map _ (wkK (wkT P f (steps : Nat)) (ls.drop (i + 1)) false st6 z6)
            generalize wkK (wkT P f (steps : Nat)) (ls.drop (i + 1)) false st6 z6 = r
            cases r with
            | none => rfl
            | some z => simp [consL_app]
          have FIN : Hid _ := And.intro I8 E8
          clear I8 E8 o8 g8 bl8 row6 H6 H3 E3 ck6
          refine wpAnyD_one 11 (by kernel_rfl) rfl (fun KK hK => ?_)
          rw [if_pos (show Region.wanted _ _ = true from rfl)]
          go_wp2_with fail
          refine hK.out _ _ (fun h => absurd h (by decide)) ?_
          clear hK KK
          refine wpAnyD_done (by kernel_rfl) ?_ _
          clear cs8
          go_wp2
          go_roundw
          case rel => exact ⟨i + 1, _, _, _, _, _, _, _, by rw [List.length_append, hul]; rfl, by go_num, by omega, FIN.out.1, FIN.out.2⟩
          case measure => simp [intOf]; omega
    · have hi2 : i = ls.length := by omega
      have hfin : Hid (((inP l).bind fun ls => wkK (wkT P f (steps : Nat)) ls true st x) = some (consL ts .nil, st1, x1)) := by
        show ((inP l).bind fun ls => wkK (wkT P f (steps : Nat)) ls true st x) = some (consL ts .nil, st1, x1)
        rw [HRS.out, heq, hi2, List.drop_length, wkK]
        rfl
      have hnl : ¬ ((i : Int) < (ls.length : Int)) := by omega
      clear hI heq hul
      go_wp2_with fail
      go_ret
      exact ⟨HI.out.fr, Or.inl ⟨_, _, _, F, us, a, c, hfin.out, rfl, HI.out.row, HI.out.rep, HI.out.nd, HI.out.hi, HI.out.wk, HI.out.sn⟩⟩
end Go.Proofs.YtglbanolhhjjiaaGreatDoor

/- The walker reads a node. -/
namespace Go.Proofs.YtglbanolhhjjiaaGreatDoor
open Go.RowKit
set_option linter.unusedVariables false

theorem keepT_S {t : Nat} {Z : Nat → Prop} {w w' : World} (ho : OnlyS Z w w') (hz : ∀ k, Z k → ∀ cs fr, w.heap[k]? ≠ some (.cells cs t fr)) : KeepT t w w' :=
  ⟨ho.size, fun k cs fr hk => by
    rw [ho.block k (Array.getElem?_eq_some_iff.1 hk).1 (fun e => hz k e cs fr hk)]
    exact hk⟩
theorem Blk.notT {w : World} {t g t2 : Nat} {xs : List Value} (h : Blk w t g xs) (hn : t ≠ t2) : ∀ cs fr, w.heap[g]? ≠ some (.cells cs t2 fr) := by
  intro cs fr e
  unfold Blk at h
  rw [h] at e
  cases e
  exact hn rfl
theorem SetI.putd {w w' : World} {m : Nat} {seen : List Int} {id : Int} {D : DataW Nat} (hD : w.ownsMap Tryz.prog 3 unitElem m seen.length D) (he : ∀ i : Int, Maps.has D (.int .i64 i) = seen.contains i)
    (h : w'.ownsMap Tryz.prog 3 unitElem m (seen.length + 1) (D.put (.int .i64 id) (.agg []))) : SetI w' m (id :: seen) :=
  ⟨_, h, fun i => by
    by_cases hi : i = id
    · subst hi
      rw [Maps.has_put_same hD.isMap (by trivial)]
      simp
    · rw [Maps.has_put_other (by intro e; cases e; exact hi rfl), he]
      simp [hi]⟩
theorem zeroU (w : World) : (zeroValue 220).run Tryz.prog w = .ok (.agg #[]) w := by kernel_rfl
theorem lawI : Maps.Keyed Tryz.prog 3 := Maps.int_keyed Tryz.underlying3
theorem built_pl (id : Int) : Tryz.prog.built 225 [(0, .int .i64 id)] = some #[.int .i64 id] := by kernel_rfl
theorem wkN_eq {P : Pg} {f steps : Nat} {st : St} {x : LSg} {id : Int} {l : List Int} (h1 : pgOk P st id = true) (h : P.kd id ≠ 2) (hl : P.bd id = l) : wkT P (f + 1) (steps : Nat) st x id = ((inP l).bind fun ls => wkK (wkT P f ((steps + 1 : Nat) : Int)) ls true ⟨id :: st.seen, st.tall⟩ x).map fun y => (.node id y.1, y.2.1, y.2.2) := by
  rw [wkT_node h1 h, hl]
  cases inP l with
  | none => rfl
  | some ls => rfl
theorem built_cu (a : Option Addr) (n c : Nat) : Tryz.prog.built 192 [(0, .slice a n c)] = some #[.slice a n c] := by kernel_rfl
theorem built_lf (id : Int) (a : Option Addr) (n c : Nat) : Tryz.prog.built 263 [(0, .agg #[.int .i64 id]), (1, .slice a n c)] = some #[.int .i64 id, .slice a n c] := by kernel_rfl
theorem built_in (id : Int) (a : Option Addr) (n c : Nat) : Tryz.prog.built 228 [(0, .agg #[.int .i64 id]), (1, .slice a n c)] = some #[.int .i64 id, .slice a n c] := by kernel_rfl
theorem Bs.blt {w : World} {a : Option Addr} {n c : Nat} {l : List Int} (h : Bs w a n c l) : ∀ b off, 0 < n → a = some ⟨b, off, none⟩ → b < w.heap.size := by
  intro b off hn e
  obtain ⟨b1, off1, e1, hb, _⟩ := h.at_ hn
  rw [e1] at e
  cases e
  exact hb
variable {S : World → Prop} {X : Nat → Prop} {B0 g m N ty fn : Nat} {src v : Value} {P : Pg} {st : St} {x z : LSg} {w w' : World}
theorem Wk.srcPut (HS : Src P B0 ty fn v S X) (h : Wk S B0 g m N src w st x) (hg : w.grownBy w' (some m)) : S w' := by
  obtain ⟨es, c, hm⟩ := h.set.obj
  have ho := OnlyS.ofGrown hg
  exact HS.keep w w' h.src (ho.below (by have := h.blk.lt; have := h.gB; omega) (fun k e => by cases e; exact h.mB)) (keepT_map hg hm)
theorem Wk.wrote (HS : Src P B0 ty fn v S X) (h : Wk S B0 g m N src w st x) {gc t : Nat} {xs : List Value} (ho : OnlyS (fun k => k = g ∨ k = gc) w w') (hkc : Blk w t gc xs) (ht : t ≠ 5) (hgB : B0 ≤ gc) (hgm : gc ≠ m) (hb : Blk w' 234 g (wkc src m st.tall z)) : Wk S B0 g m N src w' st z :=
  ⟨hb, h.set.same (ho.block m h.set.lt (fun e => by rcases e with e | e; exact h.gm e.symm; exact hgm e.symm)), HS.keep w w' h.src (ho.below (by have := h.blk.lt; have := h.gB; omega) (fun k e => by rcases e with rfl | rfl; exact h.gB; exact hgB)) (keepT_S ho (fun k e => by rcases e with rfl | rfl; exact h.blk.notT (by decide); exact hkc.notT ht)), h.gB, h.mB, h.ok⟩

set_option maxHeartbeats 8000000 in
set_option maxRecDepth 100000 in
theorem node_step (PW : PgW P N) (HS : Src P B0 ty fn v S X) (f : Nat) (HN : NdC P S X B0 g m N (.iface ty v) f) : NdC P S X B0 g m N (.iface ty v) (f + 1) := by
  intro steps id st x w hw hf hs hlo hhi
  have hle := hw.ok.le
  have hNle := PW.le
  have hg := hw.blk.lt
  have hmw := hw.set.lt
  have hgm := hw.gm
  have hgB := hw.gB
  obtain ⟨D, hD, hDe⟩ := hw.set
  have hsee := hDe id
  have hkey : keyOf Tryz.prog 3 (.int .i64 id) = some (.int .i64 id) := Maps.keyOf_int_mk Tryz.underlying3 (by have e1 : IntKind.i64.min = -9223372036854775808 := rfl; have e2 : IntKind.i64.max = 9223372036854775807 := rfl; simp only [Lit.wf, Bool.and_eq_true, decide_eq_true_eq]; omega)
  have c1 : w.cell? ⟨g, 1, none⟩ = some (.map (some m)) := hw.blk.cell 1
  have H0 : Hid (Wk S B0 g m N (.iface ty v) w st x) := hw
  have HDE : Hid _ := hDe
  have q1 : Below w.heap.size w (w.alloc (Obj.cells #[] 220)) := (Below.refl _ _).alloc (Nat.le_refl _) _
  have K1 := hw.below HS q1
  have D1 := hD.alloc (.cells #[] 220)
  have FINP : Hid (∀ w', OnlyS (fun k => X k ∨ k = g ∨ k = m) w w' → pgOk P st id = false → NdP P S X B0 g m N (.iface ty v) (f + 1) steps st x id w (.panicked badE) w') := fun w' ho hq => ⟨ho, Or.inr ⟨wkT_bad hq, rfl⟩⟩
  have HB : Hid (Maps.has D (.int .i64 id) = st.seen.contains id) := hsee
  clear hw hDe hsee
  go_enter Tryz.func144, Tryz.ntmps144
  go_upto_region 2 with (first | (at_lookup; refine wpList_lookup_own_unit _ rfl _ _ 232 rfl 3 220 lawI Tryz.underlying232 (zeroU _) m _ D rfl hD _ _ rfl hkey ?_) | fail)
  change Code.wp _ _ _ _ (w.alloc (Obj.cells #[] 220))
  have HQ1 : Hid _ := q1
  have hz1 : w.heap.size ≤ (w.alloc (Obj.cells #[] 220)).heap.size := q1.size
  generalize w.alloc (Obj.cells #[] 220) = W1 at *
  have hsn : SetI W1 m st.seen := ⟨D, D1, HDE.out⟩
  have s1 : OnlyS (fun k => X k ∨ k = g ∨ k = m) w W1 := OnlyS.ofBelow HQ1.out
  clear hD c1 q1
  generalize Maps.has D (.int .i64 id) = bb at *
  cases bb with
  | true =>
    have hq : pgOk P st id = false := by
      rw [← Bool.not_eq_true, pgOk_iff]; intro h; exact h.2.2.1 (List.contains_iff_mem.1 HB.out.symm)
    clear D1 K1 hsn
    go_wp2_with fail
    all_goals (refine (need_no _).mono ?_; rintro e w' ⟨rfl, rfl⟩; go_wp2; exact ⟨rfl, FINP.out _ s1 hq⟩)
  | false =>
    have hns : id ∉ st.seen := fun h => by have := HB.out; rw [List.contains_iff_mem.2 h] at this; cases this
    by_cases h2 : 2 ≤ id
    · have c1 : W1.cell? ⟨g, 1, none⟩ = some (.map (some m)) := K1.blk.cell 1
      have HK1 : Hid _ := And.intro K1 hsn
      have hsl : st.seen.length < maxLen := by unfold maxLen; omega
      clear K1 hsn
      go_wp2_with fail
      refine (need_yes _).mono ?_
      rintro e w' ⟨rfl, rfl⟩
      go_upto_region 4 with (first | (at_mapUpdate; refine wpList_mapUpdate_own _ rfl _ _ _ 232 rfl 3 220 lawI Tryz.underlying232 (unitElem (H := Nat)) m _ D rfl D1 hsl _ _ _ rfl rfl hkey _ [] unitElem_mk ?_; intro W3 D3 g3) | fail)
      have S3 := HK1.out.1.srcPut HS g3
      have set3 := SetI.putd D1 HDE.out D3
      have s3 : OnlyS (fun k => X k ∨ k = g ∨ k = m) w W3 := s1.transN (OnlyS.ofGrown g3) (fun k _ e => by cases e; exact Or.inr (Or.inr rfl))
      have kW3 := HK1.out.1.blk.onlyS (OnlyS.ofGrown g3) (fun e => by cases e; exact hgm rfl)
      have c0 : W3.cell? ⟨g, 0, none⟩ = some (.iface ty v) := kW3.cell 0
      have PG := HS.page W3 id S3
      have hmth := HS.meth
      have hent := HS.ent
      have H3 : Hid _ := And.intro set3 (And.intro s3 g3)
      clear set3 s3 g3 kW3 c1 D3 D1 hkey hsl S3 s1
      go_wp2_with fail
      refine PG.mono ?_
      clear PG
      rintro e w4 ⟨s4, o4, ⟨hok, ab, cb, rfl, hbs⟩ | ⟨hno, kk, ab, nb, cb, ad, rfl⟩⟩
      rotate_left
      · have hq : pgOk P st id = false := by
          rw [← Bool.not_eq_true, pgOk_iff, hno]; intro h; exact absurd h.1 (by decide)
        have s4' : OnlyS (fun k => X k ∨ k = g ∨ k = m) w w4 := H3.out.2.1.transN o4 (fun k _ e => Or.inl e)
        go_wp2_with fail
        refine (need_no _).mono ?_; rintro e w' ⟨rfl, rfl⟩; go_wp2; exact ⟨rfl, FINP.out _ s4' hq⟩
      · obtain ⟨hi0, hiN⟩ := PW.ok id hok
        have K3 : Wk S B0 g m N (.iface ty v) W3 ⟨id :: st.seen, st.tall⟩ x := HK1.out.1.see HS (by omega) hiN hns H3.out.1 H3.out.2.2
        have K4 := K3.ofPage s4 o4 HS.low
        have s4' : OnlyS (fun k => X k ∨ k = g ∨ k = m) w w4 := H3.out.2.1.transN o4 (fun k _ e => Or.inl e)
        have hbl := PW.len id
        have c2 : w4.cell? ⟨g, 2, none⟩ = some (.int .i64 st.tall) := K4.blk.cell 2
        have f2 := K4.blk.free 2
        have hz4 := s4'.size
        generalize hl : P.bd id = l at hbs hbl ⊢
        generalize hkd : P.kd id = kd at ⊢
        have HL : Hid (P.bd id = l) := hl
        have HKD : Hid (P.kd id = kd) := hkd
        have HK4 : Hid _ := And.intro K4 (And.intro hbs s4')
        clear hl hkd K4 hbs s4' K3 HK1 H3 o4 s4
        by_cases hk2 : kd = 2
        · subst hk2
          have pOK : Hid (pgOk P st id = true) := pgOk_iff.2 ⟨hok, h2, hns, Or.inl HKD.out⟩
          by_cases ht1 : st.tall < 0
          · have HT : Hid (st.tall < 0 ∨ st.tall = (steps : Nat)) := Or.inl ht1
            go_wp2_with fail
            refine (need_yes _).mono ?_
            rintro e w' ⟨rfl, hw⟩
            obtain rfl := hw.symm
            clear hw
            go_wp2_with fail
            refine (need_yes _).mono ?_
            rintro e w' ⟨rfl, hw⟩
            obtain rfl := hw.symm
            clear hw
            have o5 := onlyB_setCell w4 g 2 (.int .i64 (steps : Nat))
            have K5 : Wk S B0 g m N (.iface ty v) (w4.setCell ⟨g, 2, none⟩ (.int .i64 (steps : Nat))) ⟨id :: st.seen, (steps : Nat)⟩ x := HK4.out.1.put HS o5 (HK4.out.1.blk.set 2 _) rfl
            have t5 := HK4.out.2.1.keep (keepT_only o5 HK4.out.1.blk (by decide))
            have s5 := HK4.out.2.2.transN (OnlyS.ofB o5) (fun k _ e => Or.inr (Or.inl e))
            have hz5 := s5.size
            have H5 : Hid _ := And.intro K5 (And.intro t5 s5)
            clear K5 t5 s5 o5 HK4
            go_upto_region 9 with fail
            generalize w4.setCell ⟨g, 2, none⟩ (.int .i64 (steps : Nat)) = W5 at *
            clear c2 f2
            have q6 : Below W5.heap.size W5 (W5.alloc (.cells #[.slice ab l.length cb] 192)) := (Below.refl _ _).alloc (Nat.le_refl _) _
            have K6 := H5.out.1.below HS q6
            have kC := blk_new W5 192 #[.slice ab l.length cb]
            have cur6 : Cur (W5.alloc (.cells #[.slice ab l.length cb] 192)) W5.heap.size W5.heap.size l := ⟨ab, l.length, cb, ⟨kC, H5.out.2.1.bs.below q6, H5.out.2.1.bs.blt⟩⟩
            have WE := went_calls g W5.heap.size W5.heap.size l (.iface ty v) m (steps : Nat) x _ K6.blk cur6 q6.size hbl (by omega)
            have hb1 := built_pl id
            have hb2 := built_cu ab l.length cb
            have hb3 := built_lf id
            have H6 : Hid _ := And.intro K6 (And.intro kC q6)
            clear K6 kC cur6 q6
            go_wp2_with fail
            refine WE.mono ?_
            clear WE
            rintro e w7 ⟨o7, ⟨es, ae, ce, z, hle7, rfl, hrow, hblk7⟩ | ⟨hno, rfl⟩⟩
            rotate_left
            · have s7 : OnlyS (fun k => X k ∨ k = g ∨ k = m) w w7 := (H5.out.2.2.trans (OnlyS.ofBelow H6.out.2.2)).transN o7 (fun k hk e => by rcases e with e | e; exact Or.inr (Or.inl e); omega)
              have FIN : Hid (NdP P S X B0 g m N (.iface ty v) (f + 1) steps st x id w (.panicked badE) w7) := ⟨s7, Or.inr ⟨by rw [wkT_leaf pOK.out HKD.out HT.out, HL.out, hno]; rfl, rfl⟩⟩
              clear o7 hno s7
              go_wp2
              exact ⟨rfl, FIN.out⟩
            have K7 := H6.out.1.wrote HS o7 H6.out.2.1 (by decide) (by omega) (by omega) hblk7
            have s7 : OnlyS (fun k => X k ∨ k = g ∨ k = m) w w7 := (H5.out.2.2.trans (OnlyS.ofBelow H6.out.2.2)).transN o7 (fun k hk e => by rcases e with e | e; exact Or.inr (Or.inl e); omega)
            have q8 : Below w7.heap.size w7 (w7.alloc (.cells #[.int .i64 id, .slice ae es.length ce] 263)) := (Below.refl _ _).alloc (Nat.le_refl _) _
            have k8 := blk_new w7 263 #[.int .i64 id, .slice ae es.length ce]
            have hz7 := s7.size
            have hrl := orow_rb_lt hrow
            have FIN : Hid (NdP P S X B0 g m N (.iface ty v) (f + 1) steps st x id w (.returned (lfI w7.heap.size)) (w7.alloc (.cells #[.int .i64 id, .slice ae es.length ce] 263))) := by
              refine ⟨s7.trans (OnlyS.ofBelow q8), Or.inl ⟨.leaf id es, ⟨id :: st.seen, (steps : Nat)⟩, z, w7.heap.size :: rb ae, _, _, by rw [wkT_leaf pOK.out HKD.out HT.out, HL.out, hle7]; rfl, rfl, ?_, ?_, ?_, K7.below HS q8, by simp⟩⟩
              · rw [IRep]
                exact ⟨w7.heap.size, ae, ce, rfl, rfl, k8, (hrow.below q8).mono (Nat.zero_le _)⟩
              · rw [List.nodup_cons]
                exact ⟨fun hm => by have := (hrl _ hm).2; omega, by cases ae <;> simp [rb]⟩
              · intro k hk
                rcases List.mem_cons.1 hk with rfl | hk
                · omega
                · have h1 := (hrl k hk).1
                  have h2 := H5.out.2.2.size
                  have h3 := H6.out.2.2.size
                  omega
            clear K7 s7 q8 k8 hrl o7 hrow hblk7 hle7
            go_wp2_with fail
            go_ret
            exact FIN.out
          · by_cases ht2 : st.tall = (steps : Nat)
            · have HT : Hid (st.tall < 0 ∨ st.tall = (steps : Nat)) := Or.inr ht2
              go_wp2_with fail
              refine (need_yes _).mono ?_
              rintro e w' ⟨rfl, hw⟩
              obtain rfl := hw.symm
              clear hw
              go_wp2_with fail
              refine (need_yes _).mono ?_
              rintro e w' ⟨rfl, hw⟩
              obtain rfl := hw.symm
              clear hw
              have o5 := onlyB_setCell w4 g 2 (.int .i64 (steps : Nat))
              have K5 : Wk S B0 g m N (.iface ty v) (w4.setCell ⟨g, 2, none⟩ (.int .i64 (steps : Nat))) ⟨id :: st.seen, (steps : Nat)⟩ x := HK4.out.1.put HS o5 (HK4.out.1.blk.set 2 _) rfl
              have t5 := HK4.out.2.1.keep (keepT_only o5 HK4.out.1.blk (by decide))
              have s5 := HK4.out.2.2.transN (OnlyS.ofB o5) (fun k _ e => Or.inr (Or.inl e))
              have hz5 := s5.size
              have H5 : Hid _ := And.intro K5 (And.intro t5 s5)
              clear K5 t5 s5 o5 HK4
              go_upto_region 9 with fail
              generalize w4.setCell ⟨g, 2, none⟩ (.int .i64 (steps : Nat)) = W5 at *
              clear c2 f2
              have q6 : Below W5.heap.size W5 (W5.alloc (.cells #[.slice ab l.length cb] 192)) := (Below.refl _ _).alloc (Nat.le_refl _) _
              have K6 := H5.out.1.below HS q6
              have kC := blk_new W5 192 #[.slice ab l.length cb]
              have cur6 : Cur (W5.alloc (.cells #[.slice ab l.length cb] 192)) W5.heap.size W5.heap.size l := ⟨ab, l.length, cb, ⟨kC, H5.out.2.1.bs.below q6, H5.out.2.1.bs.blt⟩⟩
              have WE := went_calls g W5.heap.size W5.heap.size l (.iface ty v) m (steps : Nat) x _ K6.blk cur6 q6.size hbl (by omega)
              have hb1 := built_pl id
              have hb2 := built_cu ab l.length cb
              have hb3 := built_lf id
              have H6 : Hid _ := And.intro K6 (And.intro kC q6)
              clear K6 kC cur6 q6
              go_wp2_with fail
              refine WE.mono ?_
              clear WE
              rintro e w7 ⟨o7, ⟨es, ae, ce, z, hle7, rfl, hrow, hblk7⟩ | ⟨hno, rfl⟩⟩
              rotate_left
              · have s7 : OnlyS (fun k => X k ∨ k = g ∨ k = m) w w7 := (H5.out.2.2.trans (OnlyS.ofBelow H6.out.2.2)).transN o7 (fun k hk e => by rcases e with e | e; exact Or.inr (Or.inl e); omega)
                have FIN : Hid (NdP P S X B0 g m N (.iface ty v) (f + 1) steps st x id w (.panicked badE) w7) := ⟨s7, Or.inr ⟨by rw [wkT_leaf pOK.out HKD.out HT.out, HL.out, hno]; rfl, rfl⟩⟩
                clear o7 hno s7
                go_wp2
                exact ⟨rfl, FIN.out⟩
              have K7 := H6.out.1.wrote HS o7 H6.out.2.1 (by decide) (by omega) (by omega) hblk7
              have s7 : OnlyS (fun k => X k ∨ k = g ∨ k = m) w w7 := (H5.out.2.2.trans (OnlyS.ofBelow H6.out.2.2)).transN o7 (fun k hk e => by rcases e with e | e; exact Or.inr (Or.inl e); omega)
              have q8 : Below w7.heap.size w7 (w7.alloc (.cells #[.int .i64 id, .slice ae es.length ce] 263)) := (Below.refl _ _).alloc (Nat.le_refl _) _
              have k8 := blk_new w7 263 #[.int .i64 id, .slice ae es.length ce]
              have hz7 := s7.size
              have hrl := orow_rb_lt hrow
              have FIN : Hid (NdP P S X B0 g m N (.iface ty v) (f + 1) steps st x id w (.returned (lfI w7.heap.size)) (w7.alloc (.cells #[.int .i64 id, .slice ae es.length ce] 263))) := by
                refine ⟨s7.trans (OnlyS.ofBelow q8), Or.inl ⟨.leaf id es, ⟨id :: st.seen, (steps : Nat)⟩, z, w7.heap.size :: rb ae, _, _, by rw [wkT_leaf pOK.out HKD.out HT.out, HL.out, hle7]; rfl, rfl, ?_, ?_, ?_, K7.below HS q8, by simp⟩⟩
                · rw [IRep]
                  exact ⟨w7.heap.size, ae, ce, rfl, rfl, k8, (hrow.below q8).mono (Nat.zero_le _)⟩
                · rw [List.nodup_cons]
                  exact ⟨fun hm => by have := (hrl _ hm).2; omega, by cases ae <;> simp [rb]⟩
                · intro k hk
                  rcases List.mem_cons.1 hk with rfl | hk
                  · omega
                  · have h1 := (hrl k hk).1
                    have h2 := H5.out.2.2.size
                    have h3 := H6.out.2.2.size
                    omega
              clear K7 s7 q8 k8 hrl o7 hrow hblk7 hle7
              go_wp2_with fail
              go_ret
              exact FIN.out
            · have hte : (st.tall == (steps : Nat)) = false := by simp [ht2]
              have FIN : Hid (NdP P S X B0 g m N (.iface ty v) (f + 1) steps st x id w (.panicked badE) w4) := ⟨HK4.out.2.2, Or.inr ⟨wkT_tall HKD.out (by omega), rfl⟩⟩
              go_wp2_with fail
              refine (need_yes _).mono ?_; rintro e w' ⟨rfl, hw⟩; obtain rfl := hw.symm; clear hw
              go_wp2_with fail
              rw [show decide (st.tall < 0) = false by simp [ht1]]
              refine (need_no _).mono ?_; rintro e w' ⟨rfl, hw⟩; obtain rfl := hw.symm; clear hw; go_wp2; exact ⟨rfl, FIN.out⟩
        · have hk2' : (kd == 2) = false := by simp [hk2]
          by_cases hk3 : kd = 3
          · subst hk3
            have pOK : Hid (pgOk P st id = true) := pgOk_iff.2 ⟨hok, h2, hns, Or.inr HKD.out⟩
            have q6 : Below w4.heap.size w4 (w4.alloc (.cells #[.slice ab l.length cb] 192)) := (Below.refl _ _).alloc (Nat.le_refl _) _
            have K6 := HK4.out.1.below HS q6
            have kC := blk_new w4 192 #[.slice ab l.length cb]
            have cur6 : Cur (w4.alloc (.cells #[.slice ab l.length cb] 192)) w4.heap.size w4.heap.size l := ⟨ab, l.length, cb, ⟨kC, HK4.out.2.1.bs.below q6, HK4.out.2.1.bs.blt⟩⟩
            have KC : Calls Tryz.prog 167 #[.pointer (some ⟨g, 0, none⟩), .pointer (some ⟨w4.heap.size, 0, none⟩), .int .i64 ((steps : Int) + 1)] (w4.alloc (.cells #[.slice ab l.length cb] 192)) (KdP P S X B0 g m N (.iface ty v) f (steps + 1) l ⟨id :: st.seen, st.tall⟩ x w4.heap.size (w4.alloc (.cells #[.slice ab l.length cb] 192))) :=
              kids_calls P B0 ty fn v S X HS g m N (.iface ty v) f HN (steps + 1) l w4.heap.size w4.heap.size ⟨id :: st.seen, st.tall⟩ x _ K6 cur6 q6.size hbl (by omega) (by omega) (by omega) (by simp only [List.length_cons]; omega) (by simp only [List.length_cons]; omega)
            have hb1 := built_pl id
            have hb2 := built_cu ab l.length cb
            have hb3 := built_in id
            have HQ6 : Hid _ := q6
            have hsb : (steps : Int) + 1 ≤ 1025 := by omega
            have z6 : Hid ((w4.alloc (.cells #[.slice ab l.length cb] 192)).heap.size = w4.heap.size + 1) := by show (w4.alloc (.cells #[.slice ab l.length cb] 192)).heap.size = w4.heap.size + 1; simp
            clear K6 kC cur6 q6 c2 f2
            go_wp2_with fail
            refine (need_yes _).mono ?_
            rintro e w' ⟨rfl, hw⟩
            obtain rfl := hw.symm
            clear hw
            go_wp2_with fail
            refine KC.mono ?_
            clear KC
            rintro e w7 ⟨o7, ⟨t, st7, z, F, us, ak, ck, hkk, rfl, hrow, hrep, hnd, hhi, K7, hsn⟩ | ⟨hno, rfl⟩⟩
            rotate_left
            · have s7 : OnlyS (fun k => X k ∨ k = g ∨ k = m) w w7 := (HK4.out.2.2.trans (OnlyS.ofBelow HQ6.out)).transN o7 (fun k hk e => by rcases e with e | e | e | e; exact Or.inl e; exact Or.inr (Or.inl e); exact Or.inr (Or.inr e); omega)
              have FIN : Hid (NdP P S X B0 g m N (.iface ty v) (f + 1) steps st x id w (.panicked badE) w7) := ⟨s7, Or.inr ⟨(wkN_eq pOK.out (by rw [HKD.out]; decide) HL.out).trans (by rw [hno]; rfl), rfl⟩⟩
              clear o7 hno s7
              go_wp2
              exact ⟨rfl, FIN.out⟩
            have s7 : OnlyS (fun k => X k ∨ k = g ∨ k = m) w w7 := (HK4.out.2.2.trans (OnlyS.ofBelow HQ6.out)).transN o7 (fun k hk e => by rcases e with e | e | e | e; exact Or.inl e; exact Or.inr (Or.inl e); exact Or.inr (Or.inr e); omega)
            have q8 : Below w7.heap.size w7 (w7.alloc (.cells #[.int .i64 id, .slice ak us.length ck] 228)) := (Below.refl _ _).alloc (Nat.le_refl _) _
            have k8 := blk_new w7 228 #[.int .i64 id, .slice ak us.length ck]
            have hz7 := s7.size
            have hrl := orow_rb_lt hrow
            have FIN : Hid (NdP P S X B0 g m N (.iface ty v) (f + 1) steps st x id w (.returned (inI w7.heap.size)) (w7.alloc (.cells #[.int .i64 id, .slice ak us.length ck] 228))) := by
              refine ⟨s7.trans (OnlyS.ofBelow q8), Or.inl ⟨.node id t, st7, z, w7.heap.size :: (rb ak ++ F), _, _, (wkN_eq pOK.out (by rw [HKD.out]; decide) HL.out).trans (by rw [hkk]; rfl), rfl, ?_, ?_, ?_, K7.below HS q8, by have h9 := hsn; simp only [List.length_cons] at h9; omega⟩⟩
              · rw [IRep]
                exact ⟨w7.heap.size, ak, ck, us, F, rfl, rfl, k8, (hrow.below q8).mono (Nat.zero_le _), hrep.below q8⟩
              · rw [List.nodup_cons]
                refine ⟨fun hm => ?_, hnd⟩
                rcases List.mem_append.1 hm with hm | hm
                · have := (hrl _ hm).2; omega
                · have := hrep.lt _ hm; omega
              · intro k hk
                have h9 := z6.out
                rcases List.mem_cons.1 hk with rfl | hk
                · omega
                · rcases List.mem_append.1 hk with hk | hk
                  · have h1 := (hrl k hk).1
                    omega
                  · have h1 := hhi k hk
                    omega
            clear K7 s7 q8 k8 hrl o7 hrow hkk hrep hnd hhi hsn
            go_wp2_with fail
            go_ret
            exact FIN.out
          · have hk3' : (kd == 3) = false := by simp [hk3]
            have hq : pgOk P st id = false := by
              rw [← Bool.not_eq_true, pgOk_iff, HKD.out]; intro h; rcases h.2.2.2 with h | h; exact hk2 h; exact hk3 h
            have FIN : Hid (NdP P S X B0 g m N (.iface ty v) (f + 1) steps st x id w (.panicked badE) w4) := FINP.out _ HK4.out.2.2 hq
            go_wp2_with fail
            refine (need_no _).mono ?_; rintro e w' ⟨rfl, hw⟩; obtain rfl := hw.symm; clear hw; go_wp2; exact ⟨rfl, FIN.out⟩
    · have hq : pgOk P st id = false := by
        rw [← Bool.not_eq_true, pgOk_iff]; intro h; exact h2 h.2.1
      clear D1 K1 hsn
      go_wp2_with fail
      refine (need_no _).mono ?_; rintro e w' ⟨rfl, rfl⟩; go_wp2; exact ⟨rfl, FINP.out _ s1 hq⟩
theorem node_calls (PW : PgW P N) (HS : Src P B0 ty fn v S X) : ∀ f : Nat, NdC P S X B0 g m N (.iface ty v) f
  | 0 => fun steps id st x w hw hf _ _ _ => absurd hf (by have := hw.ok.le; omega)
  | f + 1 => node_step PW HS f (node_calls PW HS f)
end Go.Proofs.YtglbanolhhjjiaaGreatDoor

/- Rows of numbers: sorted, one behind the other. -/
namespace Go.Proofs.YtglbanolhhjjiaaGreatDoor
open Go.RowKit
set_option linter.unusedVariables false

theorem infoN : (Tryz.prog.info? 3).map (fun i => (i.zero, i.size, i.bytes)) = some (some (.int .i64 0), 1, 8) := by kernel_rfl
theorem on_one (l : List Int) : ∀ u ∈ on l, u.oneCell' = true := ints_oneCell .i64 l
theorem Own1.belowW {e : Nat} {w w' : World} {a : Option Addr} {n c : Nat} {xs : List Value} (h : Own1 e 0 w a n c xs) (hb : Below w.heap.size w w') : Own1 e 0 w' a n c xs := h.below hb
/-- 'append(s, x...)', s a row of numbers of the call's own, x any row of numbers. -/
theorem wpList_appN {w : World} {ops : Array Oper} {rest : List Oper} {o : Oper} {act : Act} {Q : Exit → Act → World → Prop} (hgd : o.guard = none) (s x : Operand)
    (ho : o.op = .call { callee := .builtin .append, args := #[s, x], argTypes := #[100, 100] })
    (B : Nat) (a : Option Addr) (n c : Nat) (xs : List Int) (hs : act.eval s = .slice a n c) (hown : Own1 3 B w a n c (on xs))
    (b : Option Addr) (m d : Nat) (l : List Int) (hx : act.eval x = .slice b m d) (hl : Own1 3 0 w b m d (on l)) (hlen : n + m ≤ 1048576) (hB : B ≤ w.heap.size)
    (h : ∀ a' c' w', Own1 3 B w' a' (n + m) c' (on (xs ++ l)) → Below B w w' → w.grownBy w' (Value.slice a n c).ownBlock → wpList Tryz.prog ops Q rest (act.put o.dst (.slice a' (n + m) c')) w') : wpList Tryz.prog ops Q (o :: rest) act w := by
  obtain ⟨i, hi, hz0, hz1, hz2⟩ := info_parts infoN
  have hll : l.length = m := by have := hl.len; rwa [on_len] at this
  cases b with
  | none =>
    have hm : m = 0 ∧ d = 0 := by
      rcases hl.2 with ⟨e1, h0⟩ | ⟨g, cap, cur, e1, _⟩
      · cases e1; exact ⟨rfl, rfl⟩
      · cases e1
    obtain ⟨rfl, rfl⟩ := hm
    have hl0 : l = [] := List.eq_nil_of_length_eq_zero hll
    subst hl0
    refine wpList_append_own_none hgd s x _ ho B 3 i 1 Tryz.underlying100 hi _ n (on xs) hs hown hx ?_
    exact h a c w (by simpa using hown) (Below.refl _ _) ⟨rfl, rfl, rfl, Nat.le_refl _, fun _ _ _ => rfl⟩
  | some ad =>
    refine wpList_append_own w hgd s x _ ho B 3 i _ 1 8 Tryz.underlying100 hi hz0 hz1 hz2 rfl (by omega) _ n (on xs) hs hown ad m d (on l) hx (by rw [on_len, hll]; omega) ?_ (on_one l) (by unfold maxLen; omega) (by omega) hB ?_
    · intro j u hj
      have hjl : j < l.length := by have := (List.getElem?_eq_some_iff.1 hj).1; rwa [on_len] at this
      obtain ⟨g, e, _, _, _, hc⟩ := hl.at_ (by omega)
      cases e
      rw [Addr.add_lit, Nat.zero_add, hc j (by omega)]
      rw [List.getD, hj]
      rfl
    · intro v' w' ho' hg' _
      rw [on_app] at ho'
      have hv : ∃ a' c', v' = .slice a' (n + m) c' := by
        rcases ho'.2 with ⟨rfl, h0⟩ | ⟨g, cap, cur, rfl, _⟩
        · exact ⟨none, 0, by rw [h0]⟩
        · exact ⟨_, _, rfl⟩
      obtain ⟨a', c', rfl⟩ := hv
      exact h a' c' w' ho' ((Below.refl _ _).grown hg' hB (fun k hk => (World.ownsRow.lt hown k hk).1)) hg'

set_option maxRecDepth 100000 in
set_option maxHeartbeats 400000 in
theorem growN_calls (n : Nat) (w : World) (hn : n ≤ 1048576) :
    Calls Tryz.prog 151 #[.slice none 0 0, .int .i64 n] w fun e w' => ∃ a c, e = .returned (.slice a 0 c) ∧ Below w.heap.size w w' ∧ Own1 3 w.heap.size w' a 0 c [] := by
  by_cases h0 : 0 < n
  · obtain ⟨i, hi, hz0, hz1, hz2⟩ := info_parts infoN
    have hr := fun ty wx => Lib.run_append_nil_zeros (P := Tryz.prog) wx 100 3 ty 3 i _ .i64 .i64 Tryz.underlying100 Tryz.underlying3 hi hz0 n h0 (by omega) (by omega) (by rw [hz2]; omega)
    have hi0 : (0 : Int) < (n : Int) := by omega
    go_enter Tryz.func151, Tryz.ntmps151
    go_wp2_with (at_builtin; refine Lib.wpList_append_run _ rfl _ _ _ _ rfl _ _ rfl rfl _ _ (hr _ _) ?_)
    go_ret
    have hge := grownCap_ge w n 0 3
    have hcm := grownCap_le_maxLen w n 0 3 (by unfold maxLen; omega)
    refine ⟨_, _, rfl, ((Below.refl _ _).alloc (Nat.le_refl _) _).drew, ?_⟩
    refine World.ownsRow_made (size := 1) w _ _ (Nat.le_refl _) hcm ?_
    simp [size_zeroCells]
    omega
  · have e : n = 0 := by omega
    subst e
    go_enter Tryz.func151, Tryz.ntmps151
    go_wp2
    go_ret
    exact ⟨none, 0, rfl, Below.refl _ _, own1_nil _ _ _⟩

/-- One behind the other. -/
def catN (L : Nat → List Int) : Nat → List Int
  | 0 => []
  | k + 1 => catN L k ++ L k
theorem catN_mono (L : Nat → List Int) {j k : Nat} (h : j ≤ k) : (catN L j).length ≤ (catN L k).length := by
  induction k with
  | zero => have : j = 0 := by omega
            subst this; exact Nat.le_refl _
  | succ k ih =>
    by_cases e : j = k + 1
    · subst e; exact Nat.le_refl _
    · have := ih (by omega)
      simp [catN]; omega

set_option maxRecDepth 100000 in
set_option maxHeartbeats 1000000 in
theorem concatN_calls (b off n cap : Nat) (A : Nat → Option Addr) (N C : Nat → Nat) (L : Nat → List Int) (w : World) (hb : b < w.heap.size) (hn : n ≤ 1048576)
    (hc : ∀ i, i < n → w.cell? ⟨b, off + i, none⟩ = some (.slice (A i) (N i) (C i))) (hs : ∀ i, i < n → Own1 3 0 w (A i) (N i) (C i) (on (L i))) (ht : (catN L n).length ≤ 1048576) :
    Calls Tryz.prog 118 #[.slice (some ⟨b, off, none⟩) n cap] w fun e w' => ∃ a c, e = .returned (.slice a (catN L n).length c) ∧ Below w.heap.size w w' ∧ Own1 3 w.heap.size w' a (catN L n).length c (on (catN L n)) := by
  go_enter Tryz.func118, Tryz.ntmps118
  go_wp2
  go_loop [3, 11] (fun x i => ∃ k : Nat, k ≤ n ∧ i = .int .i64 k ∧ x = .int .i64 ((catN L k).length : Nat)) (fun _ i => n - (intOf i).toNat)
  case atStart => exact ⟨0, Nat.zero_le _, rfl, rfl⟩
  case round =>
    obtain ⟨k, hk, rfl, rfl⟩ := hrel
    have hm := catN_mono L hk
    by_cases hlt : k < n
    · have hck := hc k hlt
      have hsk := hs k hlt
      have HL : Hid ((catN L (k + 1)).length = (catN L k).length + N k) := by
        show (catN L k ++ L k).length = _
        rw [List.length_append, (show (L k).length = N k by have := hsk.len; rwa [on_len] at this)]
      have hm1 := catN_mono L (show k + 1 ≤ n from hlt)
      rw [HL.out] at hm1
      generalize (catN L k).length = X at *
      generalize N k = Y at *
      have hneg : ¬ ((X : Int) + (Y : Int) < 0) := by omega
      clear hc hs hsk
      go_wp2
      go_round
      case rel => exact ⟨k + 1, by omega, by go_num, by rw [HL.out]; go_num⟩
      case measure => simp [intOf]; omega
    · have e : k = n := by omega
      subst e
      go_wp2_with fail
      refine (growN_calls (catN L k).length _ ht).mono ?_
      rintro e w1 ⟨a1, c1, rfl, hb1, ho1⟩
      go_wp2_with fail
      go_loopw [6, 27] (fun o i wr => ∃ j a c, j ≤ k ∧ i = .int .i64 (j : Nat) ∧ o = .slice a (catN L j).length c ∧ Below w.heap.size w wr ∧ Own1 3 w.heap.size wr a (catN L j).length c (on (catN L j))) (fun _ i _ => k - (intOf i).toNat)
      case atStart => exact ⟨0, a1, c1, Nat.zero_le _, rfl, rfl, hb1, ho1⟩
      case round =>
        obtain ⟨j, a, c, hj, rfl, rfl, hbj, hoj⟩ := hrel
        by_cases hlt : j < k
        · have hck : wr.cell? ⟨b, off + j, none⟩ = some (.slice (A j) (N j) (C j)) := by rw [hbj.cell (p := ⟨b, off + j, none⟩) hb]; exact hc j hlt
          have hsj := (hs j hlt).belowW hbj
          have hm1 := catN_mono L (show j + 1 ≤ k from hlt)
          have HL : Hid ((catN L (j + 1)).length = (catN L j).length + N j) := by
            show (catN L j ++ L j).length = _
            rw [List.length_append, (show (L j).length = N j by have := hsj.len; rwa [on_len] at this)]
          rw [HL.out] at hm1
          have HC : Hid (catN L (j + 1) = catN L j ++ L j) := rfl
          have hz := hbj.size
          clear hc hs ho1 hb1
          go_wp2_with (at_builtin; refine wpList_appN rfl _ _ rfl w.heap.size a _ c (catN L j) rfl ?own (A j) (N j) (C j) (L j) rfl ?bs ?len ?B ?_)
          case own => exact hoj
          case bs => exact hsj
          case len => omega
          case B => exact hz
          intro a' c' w' ho' hb' _
          have hb2 : Below w.heap.size w w' := hbj.trans hb'
          rw [← HL.out, ← HC.out] at ho'
          rw [← HL.out]
          clear hoj hbj hb' hsj hck
          go_wp2
          go_roundw
          case rel => exact ⟨j + 1, a', c', by omega, by go_num, rfl, hb2, ho'⟩
          case measure => simp [intOf]; omega
        · have e : j = k := by omega
          subst e
          go_wp2
          go_ret
          exact ⟨a, c, rfl, hbj, hoj⟩
end Go.Proofs.YtglbanolhhjjiaaGreatDoor

