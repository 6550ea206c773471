import Derived.Test.YtnohmedccbogkaaGreatDoorCo11
import Derived.Test.YtnohmedccbogkaaGreatDoorCo4
import Derived.Maps.OwnSet
import Derived.Test.YtnohmedccbogkaaGreatDoorCo0
import Derived.Test.YtnohmedccbogkaaGreatDoorCo3
import Derived.Deep.DeepCutAuto
import Derived.Deep.RegionWith
/- The walker reads the kids of a node. -/
namespace Go.Proofs.YtnohmedccbogkaaGreatDoor
open Go.RowKit
set_option linter.unusedVariables false

/-- What stands behind the reading of a node. -/
def NdP (P : Pg) (S : World → Prop) (X : Nat → Prop) (B0 g m N : Nat) (src : Value) (f steps : Nat) (st : St) (x : LSg) (id : Int) (w : World) (e : Ending) (w' : World) : Prop :=
  OnlyS (fun k => X k ∨ k = g ∨ k = m) w w' ∧ ((∃ t st' z F ty p, wkT P f (steps : Nat) st x id = some (t, st', z) ∧ e = .returned (.iface ty (.pointer p)) ∧ IRep w' t F [(strOfNums [], .iface ty (.pointer p))] ∧ F.Nodup ∧ (∀ k ∈ F, w.heap.size ≤ k) ∧ Wk S B0 g m N src w' st' z ∧ st.seen.length ≤ st'.seen.length) ∨ (wkT P f (steps : Nat) st x id = none ∧ e = .panicked badE))
/-- The contract of node, with so much fuel. -/
def NdC (P : Pg) (S : World → Prop) (X : Nat → Prop) (B0 g m N : Nat) (src : Value) (f : Nat) : Prop := ∀ (steps : Nat) (id : Int) (st : St) (x : LSg) (w : World), Wk S B0 g m N src w st x → N < f + st.seen.length → steps ≤ st.seen.length → 0 ≤ id → id < 4294967296 →
    Calls Tryz.prog 184 #[.pointer (some ⟨g, 0, none⟩), .int .i64 id, .int .i64 (steps : Nat)] w (NdP P S X B0 g m N src f steps st x id w)
def KdP (P : Pg) (S : World → Prop) (X : Nat → Prop) (B0 g m N : Nat) (src : Value) (f steps : Nat) (l : List Int) (st : St) (x : LSg) (gc : Nat) (w : World) (e : Ending) (w' : World) : Prop :=
  OnlyS (fun k => X k ∨ k = g ∨ k = m ∨ k = gc) w w' ∧ ((∃ t st' z F us a c, ((inP l).bind fun ls => wkK (wkT P f (steps : Nat)) ls true st x) = some (t, st', z) ∧ e = .returned (.slice a us.length c) ∧ ORow 276 2 w.heap.size w' a us.length c (kdF us) ∧ IRep w' t F us ∧ (rb a ++ F).Nodup ∧ (∀ k ∈ F, w.heap.size ≤ k) ∧ Wk S B0 g m N src w' st' z ∧ st.seen.length ≤ st'.seen.length) ∨ (((inP l).bind fun ls => wkK (wkT P f (steps : Nat)) ls true st x) = none ∧ e = .panicked badE))
theorem built_kd (s : ByteArray) (ty : Nat) (p : Value) : Tryz.prog.built 276 [(0, .string s), (1, .iface ty p)] = some #[.string s, .iface ty p] := by kernel_rfl
theorem sizeLn : (Tryz.prog.info? 230).map (·.size) = some 2 := by kernel_rfl
theorem lnF_ok (es : List (ByteArray × Int)) (n : Nat) : IsRow 2 (lnF es) n := ⟨fun _ _ => rfl, fun i _ u hu => by simp [lnF] at hu; rcases hu with rfl | rfl <;> rfl⟩
theorem lnP_ids : ∀ (n : Nat) (l : List Int) (ls : List (ByteArray × Int)), IsB l → l.length ≤ n → lnP l = some ls → ∀ e ∈ ls, 0 ≤ e.2 ∧ e.2 < 4294967296
  | 0, l, r, _, h, e => by rw [lnP_nil (by omega)] at e; cases e; simp
  | n + 1, l, r, hb, h, e => by
    by_cases h0 : l.length = 0
    · rw [lnP_nil h0] at e; cases e; simp
    · cases h1 : lnOne l with
      | false => rw [lnP_no h0 h1] at e; cases e
      | true =>
        rw [lnP_yes h1] at e
        obtain ⟨r2, e2, rfl⟩ := Option.map_eq_some_iff.1 e
        have hb1 := lnOne_iff.1 h1
        have := lnP_ids n (l.drop (5 + lfK l)) r2 (fun j => by have := hb (5 + lfK l + j); simpa [List.getD] using this) (by rw [List.length_drop]; omega) e2
        intro x hx
        rcases List.mem_cons.1 hx with rfl | hx
        · have hd : IsB (l.drop (1 + lfK l)) := fun j => by have := hb (1 + lfK l + j); simpa [List.getD] using this
          have := low_bd (isB_take hd 4)
          have hl : ((l.drop (1 + lfK l)).take 4).length = 4 := by rw [List.length_take, List.length_drop]; omega
          rw [hl] at this
          exact this
        · exact this x hx
theorem inP_ids {l : List Int} {ls : List (ByteArray × Int)} (hb : IsB l) (h : inP l = some ls) : ∀ e ∈ ls, 0 ≤ e.2 ∧ e.2 < 4294967296 := by
  unfold inP at h
  by_cases h4 : 4 ≤ l.length
  · rw [if_pos h4] at h
    obtain ⟨r, e2, rfl⟩ := Option.map_eq_some_iff.1 h
    have := lnP_ids _ _ r (fun j => by have := hb (4 + j); simpa [List.getD] using this) (Nat.le_refl _) e2
    intro x hx
    rcases List.mem_cons.1 hx with rfl | hx
    · have := low_bd (isB_take hb 4)
      have hl : (l.take 4).length = 4 := by rw [List.length_take]; omega
      rw [hl] at this
      exact this
    · exact this x hx
  · rw [if_neg h4] at h; cases h
/-- Where the reading of kids stands. -/
structure KdI (P : Pg) (S : World → Prop) (X : Nat → Prop) (B0 g m N : Nat) (src : Value) (f steps : Nat) (st : St) (x : LSg) (gc : Nat) (w : World) (ls : List (ByteArray × Int)) (la : Option Addr) (lc : Nat) (i : Nat) (a : Option Addr) (c : Nat) (us : List (ByteArray × Value)) (ts : List (ByteArray × Tr)) (F : List Nat) (st1 : St) (x1 : LSg) (wr : World) : Prop where
  len : us.length = i
  fr : OnlyS (fun k => X k ∨ k = g ∨ k = m ∨ k = gc) w wr
  wk : Wk S B0 g m N src wr st1 x1
  row : ORow 276 2 w.heap.size wr a us.length c (kdF us)
  rep : IRep wr (consL ts .nil) F us
  nd : (rb a ++ F).Nodup
  hi : ∀ k ∈ F, w.heap.size ≤ k
  lnk : ORow 230 2 w.heap.size wr la ls.length lc (lnF ls)
  sn : st.seen.length ≤ st1.seen.length
variable {S : World → Prop} {X : Nat → Prop} {B0 g m N ty fn : Nat} {src v : Value} {P : Pg} {st st1 : St} {x x1 : LSg} {w wr wr' : World} {f steps gc lc i c : Nat} {ls : List (ByteArray × Int)} {la a : Option Addr} {us : List (ByteArray × Value)} {ts : List (ByteArray × Tr)} {F : List Nat}
theorem KdI.below (HS : Src P B0 ty fn v S X) (h : KdI P S X B0 g m N src f steps st x gc w ls la lc i a c us ts F st1 x1 wr) (hb : Below wr.heap.size wr wr') : KdI P S X B0 g m N src f steps st x gc w ls la lc i a c us ts F st1 x1 wr' :=
  ⟨h.len, h.fr.trans (OnlyS.ofBelow hb), h.wk.below HS hb, h.row.below hb, h.rep.below hb, h.nd, h.hi, h.lnk.below hb, h.sn⟩
/-- The sign is written. -/
theorem KdI.sign (HS : Src P B0 ty fn v S X) (h : KdI P S X B0 g m N src f steps st x gc w ls la lc i a c us ts F st1 x1 wr) (hg : g < w.heap.size) (s : ByteArray) : KdI P S X B0 g m N src f steps st x gc w ls la lc i a c us ts F st1 (x1.1, s) (wr.setCell ⟨g, 4, none⟩ (.string s)) := by
  have ho := onlyB_setCell wr g 4 (.string s)
  have hs := h.wk.blk.set 4 (.string s)
  exact ⟨h.len, h.fr.transN (OnlyS.ofB ho) (fun k _ e => Or.inr (Or.inl e)), h.wk.put HS ho hs rfl, h.row.onlyN ho hg, h.rep.onlyS (OnlyS.ofB ho) (fun k hk e => by subst e; have := h.hi _ hk; omega), h.nd, h.hi, h.lnk.onlyN ho hg, h.sn⟩
theorem orow_apart {e e2 s s2 B B2 n n2 c c2 : Nat} {w : World} {a a2 : Option Addr} {f f2 : Nat → List Value} (h : ORow e s B w a n c f) (h2 : ORow e2 s2 B2 w a2 n2 c2 f2) (he : e ≠ e2) : ∀ k ∈ rb a, ∀ k2 ∈ rb a2, k ≠ k2 := by
  intro k hk k2 hk2 e3
  subst e3
  rcases h.2 with ⟨e1, _⟩ | ⟨g1, cap1, cur1, e1, hB1, hh1, _⟩
  · cases e1; simp [rb] at hk
  · rcases h2.2 with ⟨e1', _⟩ | ⟨g2, cap2, cur2, e2', hB2, hh2, _⟩
    · cases e1'; simp [rb] at hk2
    · cases e1; cases e2'
      simp [rb] at hk hk2
      subst hk
      rw [hk2, hh2] at hh1
      cases hh1
      exact he rfl
theorem rb_own {a : Option Addr} {n c : Nat} : ∀ k, (Value.slice a n c).ownBlock = some k → k ∈ rb a := by
  intro k h
  cases a with
  | none => simp [Value.ownBlock] at h
  | some ad => simp [Value.ownBlock] at h; simp [rb, h]
/-- One kid more. -/
theorem KdI.more (HS : Src P B0 ty fn v S X) (h : KdI P S X B0 g m N src f steps st x gc w ls la lc i a c us ts F st1 x1 wr) {w6 w8 : World} {t : Tr} {st6 : St} {z6 : LSg} {G : List Nat} {u : Value} {s : ByteArray} {b8 c8 : Nat}
    (o6 : OnlyS (fun k => X k ∨ k = g ∨ k = m) wr w6) (hgw : g < w.heap.size) (hmw : m < w.heap.size) (hX : ∀ k, X k → k < w.heap.size)
    (r6 : IRep w6 t G [(strOfNums [], u)]) (n6 : G.Nodup) (i6 : ∀ k ∈ G, wr.heap.size ≤ k) (k6 : Wk S B0 g m N src w6 st6 z6) (s6 : st1.seen.length ≤ st6.seen.length) {cs : Array Value}
    (o8 : ORow 276 2 w.heap.size w8 (some ⟨b8, 0, none⟩) (us.length + 1) c8 (updR (kdF us) us.length [.string s, u])) (gr : (w6.alloc (.cells cs 276)).grownBy w8 (Value.slice a us.length c).ownBlock) (at8 : a = some ⟨b8, 0, none⟩ ∨ w6.heap.size < b8) :
    KdI P S X B0 g m N src f steps st x gc w ls la lc (i + 1) (some ⟨b8, 0, none⟩) c8 (us ++ [(s, u)]) (ts ++ [(s, t)]) (F ++ G) st6 z6 w8 := by
  have hlow : ∀ k, (X k ∨ k = g ∨ k = m) → k < w.heap.size := fun k e => by
    rcases e with e | rfl | rfl
    · exact hX k e
    · exact hgw
    · exact hmw
  have hwz := h.fr.size
  have hz6 := o6.size
  have q6 : Below w6.heap.size w6 (w6.alloc (.cells cs 276)) := (Below.refl _ _).alloc (Nat.le_refl _) _
  have ow : OnlyS (fun k => k ∈ rb a) w6 w8 := (OnlyS.ofBelow q6).transN (OnlyS.ofGrown gr) (fun k _ e => rb_own k e)
  have row6 : ORow 276 2 w.heap.size w6 a us.length c (kdF us) := orow_rb h.row (fun k hk => o6.block k (orow_rb_lt h.row k hk).2 (fun e => by have := hlow k e; have := (orow_rb_lt h.row k hk).1; omega))
  have lnk6 : ORow 230 2 w.heap.size w6 la ls.length lc (lnF ls) := orow_rb h.lnk (fun k hk => o6.block k (orow_rb_lt h.lnk k hk).2 (fun e => by have := hlow k e; have := (orow_rb_lt h.lnk k hk).1; omega))
  have rep6 := h.rep.onlyS o6 (fun k hk e => by have := hlow k e; have := h.hi k hk; omega)
  have hFlt := h.rep.lt
  have hGlt := r6.lt
  have haF : ∀ k ∈ F, k ∉ rb a := fun k hk hr => (List.nodup_append.1 h.nd).2.2 k hr k hk rfl
  have haG : ∀ k ∈ G, k ∉ rb a := fun k hk hr => by have := i6 k hk; have := (orow_rb_lt h.row k hr).2; omega
  have kt : KeepT 5 w6 w8 := (keepT_below q6).trans (keepT_grown (own_below row6 q6) gr (by decide))
  refine ⟨by simp [h.len], (h.fr.transN o6 (fun k hk e => by rcases e with e | e | e; exact Or.inl e; exact Or.inr (Or.inl e); exact Or.inr (Or.inr (Or.inl e)))).transN ow (fun k hk e => by have := (orow_rb_lt h.row k e).1; omega), k6.keep HS ow (fun e => by have := (orow_rb_lt h.row _ e).1; omega) (fun e => by have := (orow_rb_lt h.row _ e).1; omega) (fun k e => by have := (orow_rb_lt h.row _ e).1; have := k6.gB; omega) kt, ?_, ?_, ?_, ?_, ?_, Nat.le_trans h.sn s6⟩
  · rw [List.length_append]
    exact o8.congr (fun j hj => kdF_app us (s, u) j hj)
  · exact IRep.snoc (r6.onlyS ow (fun k hk e => haG k hk e)) (rep6.onlyS ow (fun k hk e => haF k hk e))
  · rw [rb, List.singleton_append, List.nodup_cons]
    refine ⟨fun hk => ?_, ?_⟩
    · change b8 ∈ F ++ G at hk
      rcases at8 with e | e
      · rcases List.mem_append.1 hk with hk | hk
        · exact haF _ hk (by rw [e]; simp [rb])
        · exact haG _ hk (by rw [e]; simp [rb])
      · rcases List.mem_append.1 hk with hk | hk
        · have := hFlt _ hk; omega
        · have := hGlt _ hk; omega
    · rw [List.nodup_append]
      refine ⟨(List.nodup_append.1 h.nd).2.1, n6, fun p hp q hq e => ?_⟩
      subst e
      have := hFlt _ hp
      have := i6 _ hq
      omega
  · intro k hk
    rcases List.mem_append.1 hk with hk | hk
    · exact h.hi k hk
    · have := i6 k hk; omega
  · exact orow_rb lnk6 (fun k hk => ow.block k (orow_rb_lt lnk6 k hk).2 (fun e => orow_apart row6 lnk6 (by decide) k e k hk rfl))
end Go.Proofs.YtnohmedccbogkaaGreatDoor

/- The walker reads the kids of a node: the walk. -/
namespace Go.Proofs.YtnohmedccbogkaaGreatDoor
open Go.RowKit
set_option linter.unusedVariables false

set_option maxHeartbeats 8000000 in
set_option maxRecDepth 100000 in
theorem kids_calls (P : Pg) (B0 ty fn : Nat) (v : Value) (S : World → Prop) (X : Nat → Prop) (HS : Src P B0 ty fn v S X) (g m N : Nat) (src : Value) (f : Nat) (HN : NdC P S X B0 g m N src f)
    (steps : Nat) (l : List Int) (gc B : Nat) (st : St) (x : LSg) (w : World) (hw : Wk S B0 g m N src w st x) (hc : Cur w gc B l) (hB : B ≤ w.heap.size) (hl : l.length ≤ 1048576) (hgc : gc ≠ g) (hgm : gc ≠ m) (hgB : B0 ≤ gc) (hf : N < f + st.seen.length) (hs : steps ≤ st.seen.length) :
    Calls Tryz.prog 208 #[.pointer (some ⟨g, 0, none⟩), .pointer (some ⟨gc, 0, none⟩), .int .i64 (steps : Nat)] w (KdP P S X B0 g m N src f steps l st x gc w) := by
  have E := links_calls gc B l w hc hB hl
  have hg := hw.blk.lt
  have hmw := hw.set.lt
  have hX : ∀ k, X k → k < w.heap.size := fun k e => by have := HS.low k e; have := hw.gB; omega
  have hIB := hc.byte
  have hkc : ∃ xs, Blk w 162 gc xs := by
    obtain ⟨a, n, c, h⟩ := hc
    exact ⟨_, h.blk⟩
  obtain ⟨xs, hkc⟩ := hkc
  have H0 : Hid _ := And.intro hw (And.intro hIB hX)
  have HKC : Hid (Blk w 162 gc xs) := hkc
  clear hc hw hkc hIB hX
  go_enter Tryz.func208, Tryz.ntmps208
  go_wp2_with fail
  refine E.mono ?_
  rintro e w1 ⟨o1, hor⟩
  clear E
  have k1 := H0.out.1.keep HS (OnlyS.ofB o1) (fun e => hgc e.symm) (fun e => hgm e.symm) (fun k e => by subst e; exact hgB) (keepT_only o1 (show Blk w 162 gc xs from HKC.out) (by decide))
  have s1 := (OnlyS.ofB o1).mono (Z2 := (fun k => X k ∨ k = g ∨ k = m ∨ k = gc)) (fun k _ e => Or.inr (Or.inr (Or.inr e)))
  have hz1 := o1.size
  clear o1 HKC
  rcases hor with ⟨ls, la, lc, hin, rfl, hr⟩ | ⟨hno, rfl⟩
  rotate_left
  · have hno2 : ((inP l).bind fun ls => wkK (wkT P f (steps : Nat)) ls true st x) = none := by rw [hno]; rfl
    clear hno k1
    go_wp2
    exact ⟨rfl, s1, Or.inr ⟨hno2, rfl⟩⟩
  have hres : ((inP l).bind fun ls => wkK (wkT P f (steps : Nat)) ls true st x) = wkK (wkT P f (steps : Nat)) ls true st x := by rw [hin]; rfl
  have hlen := inP_len hin
  have hids := inP_ids H0.out.2.1 hin
  have HX : Hid _ := H0.out.2.2
  have H1 : Hid _ := And.intro k1 (And.intro s1 (And.intro hr (And.intro hres hids)))
  clear hin k1 s1 hr hres hids H0
  go_wp2_with fail
  go_loopw [7, 13] (fun s7 s13 wr => ∃ (i : Nat) (a : Option Addr) (c : Nat) (us : List (ByteArray × Value)) (ts : List (ByteArray × Tr)) (F : List Nat) (st1 : St) (x1 : LSg), s7 = .slice a us.length c ∧ s13 = .int .i64 (i : Nat) ∧ i ≤ ls.length ∧ KdI P S X B0 g m N src f steps st x gc w ls la lc i a c us ts F st1 x1 wr ∧ wkK (wkT P f (steps : Nat)) ls true st x = (wkK (wkT P f (steps : Nat)) (ls.drop i) (i == 0) st1 x1).map fun z => (consL ts z.1, z.2)) (fun _ s _ => ls.length - (intOf s).toNat)
  case atStart =>
    refine ⟨0, none, 0, [], [], [], st, x, rfl, by rfl, by omega, ⟨rfl, H1.out.2.1, H1.out.1, orow_nil _ _ _ _ _, ?_, by simp [rb], by simp, H1.out.2.2.1, Nat.le_refl _⟩, ?_⟩
    · show IRep w1 .nil [] []
      rw [IRep]
      exact ⟨rfl, rfl⟩
    · show _ = Option.map _ (wkK (wkT P f (steps : Nat)) ls true st x)
      generalize wkK (wkT P f (steps : Nat)) ls true st x = r
      cases r <;> rfl
  case round =>
    obtain ⟨i, a, c, us, ts, F, st1, x1, rfl, rfl, hi, hI, heq⟩ := hrel
    obtain ⟨wR, hwX⟩ : ∃ wX, wX = wr := ⟨_, rfl⟩
    subst hwX
    have hwz := hI.fr.size
    have HRS : Hid _ := H1.out.2.2.2.1
    have HID : Hid _ := H1.out.2.2.2.2
    clear H1
    have hul := hI.len
    have HI : Hid _ := hI
    by_cases hlt : i < ls.length
    · have hlt' : (i : Int) < (ls.length : Int) := by omega
      obtain ⟨b, rfl, hbB, hbl⟩ := orow_at hI.lnk (by omega)
      have hcl := fun j v hv => (hI.lnk.reads (lnF_ok ls _)).cells i hlt j v hv
      rw [show lnF ls i = [.string (ls.getD i l0).1, .int .i64 (ls.getD i l0).2] from rfl] at hcl
      have hdr : ls.drop i = ls.getD i l0 :: ls.drop (i + 1) := by
        rw [List.drop_eq_getElem_cons hlt]
        simp [List.getD, hlt]
      have hmem : ls.getD i l0 ∈ ls := by
        have : ls.getD i l0 = ls[i] := by simp [List.getD, hlt]
        rw [this]; exact List.getElem_mem _
      obtain ⟨id0, id1⟩ := HID.out _ hmem
      generalize ls.getD i l0 = en at *
      obtain ⟨sg, id⟩ := en
      have cc0 : wR.cell? ⟨b, i * 2, none⟩ = some (.string sg) := by have := hcl 0 _ rfl; simpa using this
      have cc1 : wR.cell? ⟨b, i * 2 + 1, none⟩ = some (.int .i64 id) := by have := hcl 1 _ rfl; simpa using this
      have heq2 : wkK (wkT P f (steps : Nat)) ls true st x = (if (i == 0) = true ∨ sl x1.1 sg = true then (wkT P f (steps : Nat) st1 (x1.1, if (i == 0) = true then x1.2 else sg) id).bind fun y => (wkK (wkT P f (steps : Nat)) (ls.drop (i + 1)) false y.2.1 y.2.2).map fun z => (.cons sg y.1 z.1, z.2) else none).map fun z => (consL ts z.1, z.2) := by rw [heq, hdr, wkK]
      have kE := blk_new wR 230 #[.string sg, .int .i64 id]
      have q2 : Below wR.heap.size wR (wR.alloc (Obj.cells #[.string sg, .int .i64 id] 230)) := (Below.refl _ _).alloc (Nat.le_refl _) _
      have z2 : (wR.alloc (Obj.cells #[.string sg, .int .i64 id] 230)).heap.size = wR.heap.size + 1 := by simp
      have hI2 := hI.below HS q2
      have HEQ : Hid _ := heq2
      clear hcl hdr hmem heq heq2 q2 HI hI
      go_upto_region 5 with (first | (refine wpList_storeNew rfl 230 _ _ rfl wR #[.string (strOfNums []), .int .i64 0] #[.string sg, .int .i64 id] 230 rfl rfl sizeLn rfl rfl ?_))
      change Code.wp _ _ _ _ (wR.alloc (Obj.cells #[.string sg, .int .i64 id] 230))
      generalize wR.alloc (Obj.cells #[.string sg, .int .i64 id] 230) = W2 at *
      generalize heb : wR.heap.size = eb at *
      have kE' : Blk W2 230 eb [.string sg, .int .i64 id] := kE
      clear kE cc0 cc1 HID
      have hgeb : g ≠ eb := by omega
      have hmeb : m ≠ eb := by omega
      rcases Nat.eq_zero_or_pos i with h0 | h0
      · have h00 : ¬ (0 : Int) < (i : Int) := by omega
        have hi0 : (i == 0) = true := by rw [h0]; rfl
        have H00 : Hid (i = 0) := h0
        clear h0
        obtain ⟨x3, hx3⟩ : ∃ x3 : LSg, x3 = x1 := ⟨_, rfl⟩
        have E3 : Hid (wkK (wkT P f (steps : Nat)) ls true st x = ((wkT P f (steps : Nat) st1 x3 id).bind fun y => (wkK (wkT P f (steps : Nat)) (ls.drop (i + 1)) false y.2.1 y.2.2).map fun z => (.cons sg y.1 z.1, z.2)).map fun z => (consL ts z.1, z.2)) := by
          have := HEQ.out
          rw [hi0, if_pos (Or.inl rfl), if_pos rfl] at this
          rw [hx3]
          exact this
        rw [← hx3] at hI2
        have H3 : Hid _ := And.intro hI2 kE'
        clear hI2 kE' HEQ hx3 hi0
        obtain ⟨W3, hW3⟩ : ∃ W3, W3 = W2 := ⟨_, rfl⟩
        have z3 : W3.heap.size = eb + 1 := by rw [hW3]; exact z2
        rw [← hW3] at H3
        subst hW3
        go_upto_region 8 with fail
        have HN1 := HN steps id st1 x3 W3.drew (H3.out.1.wk.below HS ⟨rfl, rfl, rfl, Nat.le_refl _, fun _ _ => rfl⟩) (by have := H3.out.1.sn; omega) (Nat.le_trans hs H3.out.1.sn) (by omega) (by omega)
        have cs8 : W3.drew.cell? ⟨eb, 0, none⟩ = some (.string sg) ∧ W3.drew.cell? ⟨eb, 1, none⟩ = some (.int .i64 id) := ⟨Blk.cell H3.out.2 0, Blk.cell H3.out.2 1⟩
        refine wp_regionD (fun u => u.cell? ⟨eb, 0, none⟩ = some (.string sg) ∧ u.cell? ⟨eb, 1, none⟩ = some (.int .i64 id)) (fun k => decide (10 ≤ k)) (by kernel_rfl) ?_
        refine wpAnyD_takeT 0 33 (v := ?vvb0) rfl rfl (by kernel_rfl) (by kernel_rfl) (by kernel_rfl) (by kernel_rfl) (fun _ _ _ h => h) (Or.inl ⟨by rfl, ?hyb0⟩) cs8 ?restb0
        case hyb0 => (intro w hSw; (try dsimp only at hSw); go_simp; try with_reducible rfl)
        simp only [Act.put, List.setIfInBounds_toArray, List.set_cons_zero, List.set_cons_succ]
        refine wpAnyD_takeT 1 34 (v := ?vvb1) rfl rfl (by kernel_rfl) (by kernel_rfl) (by kernel_rfl) (by kernel_rfl) (fun _ _ _ h => h) (Or.inl ⟨by rfl, ?hyb1⟩) cs8 ?restb1
        case hyb1 => (intro w hSw; (try dsimp only at hSw); go_simp; try with_reducible rfl)
        simp only [Act.put, List.setIfInBounds_toArray, List.set_cons_zero, List.set_cons_succ]
        refine wpAnyD_takeT 2 35 (v := ?vvb2) rfl rfl (by kernel_rfl) (by kernel_rfl) (by kernel_rfl) (by kernel_rfl) (fun _ _ _ h => h) (Or.inl ⟨by rfl, ?hyb2⟩) cs8 ?restb2
        case hyb2 => (intro w hSw; (try dsimp only at hSw); go_simp; try with_reducible rfl)
        simp only [Act.put, List.setIfInBounds_toArray, List.set_cons_zero, List.set_cons_succ]
        refine wpAnyD_takeT 3 36 (v := ?vvb3) rfl rfl (by kernel_rfl) (by kernel_rfl) (by kernel_rfl) (by kernel_rfl) (fun _ _ _ h => h) (Or.inl ⟨by rfl, ?hyb3⟩) cs8 ?restb3
        case hyb3 => (intro w hSw; (try dsimp only at hSw); go_simp; try with_reducible rfl)
        simp only [Act.put, List.setIfInBounds_toArray, List.set_cons_zero, List.set_cons_succ]
        refine wpAnyD_takeT 4 37 (v := ?vvb4) rfl rfl (by kernel_rfl) (by kernel_rfl) (by kernel_rfl) (by kernel_rfl) (fun _ _ _ h => h) (Or.inl ⟨by rfl, ?hyb4⟩) cs8 ?restb4
        case hyb4 => (intro w hSw; (try dsimp only at hSw); go_simp; try with_reducible rfl)
        simp only [Act.put, List.setIfInBounds_toArray, List.set_cons_zero, List.set_cons_succ]
        refine wpAnyD_takeT 5 38 (v := ?vvb5) rfl rfl (by kernel_rfl) (by kernel_rfl) (by kernel_rfl) (by kernel_rfl) (fun _ _ _ h => h) (Or.inl ⟨by rfl, ?hyb5⟩) cs8 ?restb5
        case hyb5 => (intro w hSw; (try dsimp only at hSw); go_simp; try with_reducible rfl)
        simp only [Act.put, List.setIfInBounds_toArray, List.set_cons_zero, List.set_cons_succ]
        refine wpAnyD_takeT 6 39 (v := ?vvb6) rfl rfl (by kernel_rfl) (by kernel_rfl) (by kernel_rfl) (by kernel_rfl) (fun _ _ _ h => h) (Or.inl ⟨by rfl, ?hyb6⟩) cs8 ?restb6
        case hyb6 => (intro w hSw; (try dsimp only at hSw); go_simp; try with_reducible rfl)
        simp only [Act.put, List.setIfInBounds_toArray, List.set_cons_zero, List.set_cons_succ]
        refine wpAnyD_one 7 (by kernel_rfl) rfl (fun KK hK => ?_)
        rw [if_pos (show Region.wanted _ _ = true from rfl)]
        go_wp2_with fail
        refine Calls.mono HN1 ?_
        rintro e w6 ⟨o6, ⟨t, st6, z6, G, ty6, p6, hw6, rfl, r6, n6, i6, k6, s6⟩ | ⟨hno, rfl⟩⟩
        rotate_left
        · have hfr : OnlyS (fun k => X k ∨ k = g ∨ k = m ∨ k = gc) w w6 := (H3.out.1.fr.drew).transN o6 (fun k hk e => by rcases e with e | e | e; exact Or.inl e; exact Or.inr (Or.inl e); exact Or.inr (Or.inr (Or.inl e)))
          go_wp2
          exact ⟨rfl, hfr, Or.inr ⟨by rw [HRS.out, E3.out, hno]; rfl, rfl⟩⟩
        clear HN1
        have kE6 : Blk w6 230 eb [.string sg, .int .i64 id] := Blk.onlyS (show Blk W3.drew 230 eb [.string sg, .int .i64 id] from H3.out.2) o6 (fun e => by rcases e with e | e | e; exact absurd (HX.out eb e) (by omega); exact hgeb e.symm; exact hmeb e.symm)
        have ck6 : w6.cell? ⟨eb, 0, none⟩ = some (.string sg) ∧ w6.cell? ⟨eb, 1, none⟩ = some (.int .i64 id) := ⟨Blk.cell kE6 0, Blk.cell kE6 1⟩
        have hz6 : W3.heap.size ≤ w6.heap.size := o6.size
        have H6 : Hid _ := And.intro o6 (And.intro r6 (And.intro n6 (And.intro i6 (And.intro k6 (And.intro s6 hw6)))))
        clear o6 r6 n6 i6 k6 s6 hw6 kE6
        go_wp2_with fail
        refine hK.out _ _ (fun _ => ck6) ?_
        clear hK KK
        refine wpAnyD_one 8 (by kernel_rfl) rfl (fun KK hK => ?_)
        rw [if_pos (show Region.wanted _ _ = true from rfl)]
        refine wp_build_eq1 _ _ rfl (cs := #[.string sg, .iface ty6 (.pointer p6)]) ?bkb ?_
        case bkb =>
          simp only [List.map_toArray, List.map_cons, List.map_nil]
          exact built_kd sg ty6 (.pointer p6)
        refine hK.out _ _ (fun _ => ck6) ?_
        clear hK KK
        refine wpAnyD_one 9 (by kernel_rfl) rfl (fun KK hK => ?_)
        rw [if_pos (show Region.wanted _ _ = true from rfl)]
        refine wp_buildSlice_eq1 _ _ _ rfl (v := .slice (some ⟨w6.heap.size, 0, none⟩) 1 1) (w' := w6.alloc (Obj.cells [.string sg, .iface ty6 (.pointer p6)].toArray 276)) ?bsb ?_
        case bsb =>
          simp only [List.map_toArray, List.map_cons, List.map_nil]
          exact run_bsRow elKd (by omega) (.agg #[.string sg, .iface ty6 (.pointer p6)]) [.string sg, .iface ty6 (.pointer p6)] rfl rfl w6
        refine hK.out _ _ (fun _ => ⟨(((Below.refl w6.heap.size w6).alloc (Nat.le_refl _) _).cell (p := ⟨eb, 0, none⟩) (show eb < w6.heap.size by omega)).trans ck6.1, (((Below.refl w6.heap.size w6).alloc (Nat.le_refl _) _).cell (p := ⟨eb, 1, none⟩) (show eb < w6.heap.size by omega)).trans ck6.2⟩) ?_
        clear hK KK
        have row6 : ORow 276 2 w.heap.size w6 a us.length c (kdF us) := orow_rb H3.out.1.row (fun k hk => H6.out.1.block k (orow_rb_lt H3.out.1.row k hk).2 (fun e => by have h9 := (orow_rb_lt H3.out.1.row k hk).1; rcases e with e | e | e; exact absurd (HX.out k e) (by omega); omega; omega))
        rw [hul] at row6
        refine wpAnyD_one 10 (by kernel_rfl) rfl (fun KK hK => ?_)
        rw [if_pos (show Region.wanted _ _ = true from rfl)]
        refine wp_appRowL _ _ elKd rfl w.heap.size a i c (kdF us) rfl row6 [.string sg, .iface ty6 (.pointer p6)] rfl (by simp [Value.oneCell']) rfl (by omega) (by omega) (by omega) ?_
        intro b8 c8 w8 o8 bl8 g8 at8
        refine hK.out _ _ (fun h => absurd h (by decide)) ?_
        clear hK KK
        rw [← hul] at o8 g8
        have I8 := KdI.more HS (KdI.below HS H3.out.1 (wr' := W3.drew) ⟨rfl, rfl, rfl, Nat.le_refl _, fun _ _ => rfl⟩) H6.out.1 hg hmw (HX.out) H6.out.2.1 H6.out.2.2.1 H6.out.2.2.2.1 H6.out.2.2.2.2.1 H6.out.2.2.2.2.2.1 (s := sg) o8 g8 at8
        have E8 : wkK (wkT P f (steps : Nat)) ls true st x = (wkK (wkT P f (steps : Nat)) (ls.drop (i + 1)) (i + 1 == 0) st6 z6).map fun z => (consL (ts ++ [(sg, t)]) z.1, z.2) := by
          rw [E3.out, H6.out.2.2.2.2.2.2]
          show Option.map _ (Option.map _ (wkK (wkT P f (steps : Nat)) (ls.drop (i + 1)) false st6 z6)) = Option.map _ (wkK (wkT P f (steps : Nat)) (ls.drop (i + 1)) false st6 z6)
          generalize wkK (wkT P f (steps : Nat)) (ls.drop (i + 1)) false st6 z6 = r
          cases r with
          | none => rfl
          | some z => simp [consL_app]
        have FIN : Hid _ := And.intro I8 E8
        clear I8 E8 o8 g8 bl8 row6 H6 H3 E3 ck6
        refine wpAnyD_one 11 (by kernel_rfl) rfl (fun KK hK => ?_)
        rw [if_pos (show Region.wanted _ _ = true from rfl)]
        go_wp2_with fail
        refine hK.out _ _ (fun h => absurd h (by decide)) ?_
        clear hK KK
        refine wpAnyD_done (by kernel_rfl) ?_ _
        clear cs8
        go_wp2
        go_roundw
        case rel => exact ⟨i + 1, _, _, _, _, _, _, _, by rw [List.length_append, hul]; rfl, by go_num, by omega, FIN.out.1, FIN.out.2⟩
        case measure => simp [intOf]; omega
      · have h00 : (0 : Int) < (i : Int) := by omega
        have hi0 : (i == 0) = false := by rw [beq_eq_false_iff_ne]; omega
        have c1 : W2.cell? ⟨eb, 0, none⟩ = some (.string sg) := kE'.cell 0
        have c2 : W2.cell? ⟨g, 3, none⟩ = some (.string x1.1) := hI2.wk.blk.cell 3
        have c5 : W2.cell? ⟨g, 4, none⟩ = some (.string x1.2) := hI2.wk.blk.cell 4
        have c4 : W2.frozen? ⟨g, 4, none⟩ = false := hI2.wk.blk.free 4
        have H2 : Hid _ := And.intro hI2 kE'
        clear hI2 kE'
        go_upto_region 6 with fail
        cases d1 : sl x1.1 sg with
        | false =>
          have d1' : (!Op.bytesLess sg.toList x1.1.toList && !sg.toList == x1.1.toList) = false := (gtr_is sg x1.1).trans d1
          have FINW : Hid (KdP P S X B0 g m N src f steps l st x gc w (.panicked badE) W2.drew) := ⟨H2.out.1.fr.drew, Or.inr ⟨by rw [HRS.out, HEQ.out, hi0, if_neg (by rw [d1]; decide)]; rfl, rfl⟩⟩
          refine wp_regionD (fun u => u.cell? ⟨eb, 0, none⟩ = some (.string sg) ∧ u.cell? ⟨g, 3, none⟩ = some (.string x1.1)) (fun k => decide (7 ≤ k)) (by kernel_rfl) ?_
          have cs : W2.drew.cell? ⟨eb, 0, none⟩ = some (.string sg) ∧ W2.drew.cell? ⟨g, 3, none⟩ = some (.string x1.1) := ⟨c1, c2⟩
          refine wpAnyD_takeT 0 20 (v := ?vva0) rfl rfl (by kernel_rfl) (by kernel_rfl) (by kernel_rfl) (by kernel_rfl) (fun _ _ _ h => h) (Or.inl ⟨by rfl, ?hya0⟩) cs ?resta0
          case hya0 => (intro w hSw; (try dsimp only at hSw); go_simp; try with_reducible rfl)
          simp only [Act.put, List.setIfInBounds_toArray, List.set_cons_zero, List.set_cons_succ]
          refine wpAnyD_takeT 1 21 (v := ?vva1) rfl rfl (by kernel_rfl) (by kernel_rfl) (by kernel_rfl) (by kernel_rfl) (fun _ _ _ h => h) (Or.inl ⟨by rfl, ?hya1⟩) cs ?resta1
          case hya1 => (intro w hSw; (try dsimp only at hSw); go_simp; try with_reducible rfl)
          simp only [Act.put, List.setIfInBounds_toArray, List.set_cons_zero, List.set_cons_succ]
          refine wpAnyD_takeT 2 22 (v := ?vva2) rfl rfl (by kernel_rfl) (by kernel_rfl) (by kernel_rfl) (by kernel_rfl) (fun _ _ _ h => h) (Or.inl ⟨by rfl, ?hya2⟩) cs ?resta2
          case hya2 => (intro w hSw; (try dsimp only at hSw); go_simp; try with_reducible rfl)
          simp only [Act.put, List.setIfInBounds_toArray, List.set_cons_zero, List.set_cons_succ]
          refine wpAnyD_takeT 3 23 (v := ?vva3) rfl rfl (by kernel_rfl) (by kernel_rfl) (by kernel_rfl) (by kernel_rfl) (fun _ _ _ h => h) (Or.inl ⟨by rfl, ?hya3⟩) cs ?resta3
          case hya3 => (intro w hSw; (try dsimp only at hSw); go_simp; try with_reducible rfl)
          simp only [Act.put, List.setIfInBounds_toArray, List.set_cons_zero, List.set_cons_succ]
          refine wpAnyD_takeT 4 24 (v := ?vva4) rfl rfl (by kernel_rfl) (by kernel_rfl) (by kernel_rfl) (by kernel_rfl) (fun _ _ _ h => h) (Or.inl ⟨by rfl, ?hya4⟩) cs ?resta4
          case hya4 => (intro w hSw; (try dsimp only at hSw); go_simp; try with_reducible rfl)
          simp only [Act.put, List.setIfInBounds_toArray, List.set_cons_zero, List.set_cons_succ]
          refine wpAnyD_takeT 5 25 (v := ?vva5) rfl rfl (by kernel_rfl) (by kernel_rfl) (by kernel_rfl) (by kernel_rfl) (fun _ _ _ h => h) (Or.inl ⟨by rfl, ?hya5⟩) cs ?resta5
          case hya5 => (intro w hSw; (try dsimp only at hSw); go_simp; try with_reducible rfl)
          simp only [Act.put, List.setIfInBounds_toArray, List.set_cons_zero, List.set_cons_succ]
          refine wpAnyD_takeT 6 26 (v := ?vva6) rfl rfl (by kernel_rfl) (by kernel_rfl) (by kernel_rfl) (by kernel_rfl) (fun _ _ _ h => h) (Or.inl ⟨by rfl, ?hya6⟩) cs ?resta6
          case hya6 => (intro w hSw; (try dsimp only at hSw); go_simp; try with_reducible rfl)
          simp only [Act.put, List.setIfInBounds_toArray, List.set_cons_zero, List.set_cons_succ]
          refine wpAnyD_one 7 (by kernel_rfl) rfl (fun KK hK => ?_)
          rw [if_pos (show Region.wanted _ _ = true from rfl)]
          go_wp2_with fail
          refine (need_no _).mono ?_
          rintro e w' ⟨rfl, rfl⟩
          go_wp2
          exact ⟨rfl, FINW.out⟩
        | true =>
          have d1' : (!Op.bytesLess sg.toList x1.1.toList && !sg.toList == x1.1.toList) = true := (gtr_is sg x1.1).trans d1
          obtain ⟨x3, hx3⟩ : ∃ x3 : LSg, x3 = (x1.1, sg) := ⟨_, rfl⟩
          have E3 : Hid (wkK (wkT P f (steps : Nat)) ls true st x = ((wkT P f (steps : Nat) st1 x3 id).bind fun y => (wkK (wkT P f (steps : Nat)) (ls.drop (i + 1)) false y.2.1 y.2.2).map fun z => (.cons sg y.1 z.1, z.2)).map fun z => (consL ts z.1, z.2)) := by
            have := HEQ.out
            rw [hi0, if_pos (Or.inr d1), if_neg Bool.false_ne_true] at this
            rw [hx3]
            exact this
          go_quiet (first | (go_at_call 161; exact Calls.quiet_of_same (need_yes _)))
          have hI2' : KdI P S X B0 g m N src f steps st x gc w ls (some ⟨b, 0, none⟩) lc i a c us ts F st1 x1 (W2.drewN nq) := H2.out.1.below HS (below_drewNT (Below.refl _ _) nq)
          have hI3 := hI2'.sign HS hg sg
          rw [← hx3] at hI3
          have kE3 : Blk ((W2.drewN nq).setCell ⟨g, 4, none⟩ (.string sg)) 230 eb [.string sg, .int .i64 id] := Blk.only (show Blk (W2.drewN nq) 230 eb [.string sg, .int .i64 id] from H2.out.2) (onlyB_setCell (W2.drewN nq) g 4 (.string sg)) (Ne.symm hgeb)
          have z3 : ((W2.drewN nq).setCell ⟨g, 4, none⟩ (.string sg)).heap.size = eb + 1 := by rw [← z2]; simp
          have H3 : Hid _ := And.intro hI3 kE3
          clear hI3 kE3 hI2' HEQ H2 d1' hi0
          go_upto_region 8 with fail
          generalize (W2.drewN nq).setCell ⟨g, 4, none⟩ (.string sg) = W3 at *
          clear c1 c2 c4 c5 hx3 d1
          have HN1 := HN steps id st1 x3 W3.drew (H3.out.1.wk.below HS ⟨rfl, rfl, rfl, Nat.le_refl _, fun _ _ => rfl⟩) (by have := H3.out.1.sn; omega) (Nat.le_trans hs H3.out.1.sn) (by omega) (by omega)
          have cs8 : W3.drew.cell? ⟨eb, 0, none⟩ = some (.string sg) ∧ W3.drew.cell? ⟨eb, 1, none⟩ = some (.int .i64 id) := ⟨Blk.cell H3.out.2 0, Blk.cell H3.out.2 1⟩
          refine wp_regionD (fun u => u.cell? ⟨eb, 0, none⟩ = some (.string sg) ∧ u.cell? ⟨eb, 1, none⟩ = some (.int .i64 id)) (fun k => decide (10 ≤ k)) (by kernel_rfl) ?_
          refine wpAnyD_takeT 0 33 (v := ?vvc0) rfl rfl (by kernel_rfl) (by kernel_rfl) (by kernel_rfl) (by kernel_rfl) (fun _ _ _ h => h) (Or.inl ⟨by rfl, ?hyc0⟩) cs8 ?restc0
          case hyc0 => (intro w hSw; (try dsimp only at hSw); go_simp; try with_reducible rfl)
          simp only [Act.put, List.setIfInBounds_toArray, List.set_cons_zero, List.set_cons_succ]
          refine wpAnyD_takeT 1 34 (v := ?vvc1) rfl rfl (by kernel_rfl) (by kernel_rfl) (by kernel_rfl) (by kernel_rfl) (fun _ _ _ h => h) (Or.inl ⟨by rfl, ?hyc1⟩) cs8 ?restc1
          case hyc1 => (intro w hSw; (try dsimp only at hSw); go_simp; try with_reducible rfl)
          simp only [Act.put, List.setIfInBounds_toArray, List.set_cons_zero, List.set_cons_succ]
          refine wpAnyD_takeT 2 35 (v := ?vvc2) rfl rfl (by kernel_rfl) (by kernel_rfl) (by kernel_rfl) (by kernel_rfl) (fun _ _ _ h => h) (Or.inl ⟨by rfl, ?hyc2⟩) cs8 ?restc2
          case hyc2 => (intro w hSw; (try dsimp only at hSw); go_simp; try with_reducible rfl)
          simp only [Act.put, List.setIfInBounds_toArray, List.set_cons_zero, List.set_cons_succ]
          refine wpAnyD_takeT 3 36 (v := ?vvc3) rfl rfl (by kernel_rfl) (by kernel_rfl) (by kernel_rfl) (by kernel_rfl) (fun _ _ _ h => h) (Or.inl ⟨by rfl, ?hyc3⟩) cs8 ?restc3
          case hyc3 => (intro w hSw; (try dsimp only at hSw); go_simp; try with_reducible rfl)
          simp only [Act.put, List.setIfInBounds_toArray, List.set_cons_zero, List.set_cons_succ]
          refine wpAnyD_takeT 4 37 (v := ?vvc4) rfl rfl (by kernel_rfl) (by kernel_rfl) (by kernel_rfl) (by kernel_rfl) (fun _ _ _ h => h) (Or.inl ⟨by rfl, ?hyc4⟩) cs8 ?restc4
          case hyc4 => (intro w hSw; (try dsimp only at hSw); go_simp; try with_reducible rfl)
          simp only [Act.put, List.setIfInBounds_toArray, List.set_cons_zero, List.set_cons_succ]
          refine wpAnyD_takeT 5 38 (v := ?vvc5) rfl rfl (by kernel_rfl) (by kernel_rfl) (by kernel_rfl) (by kernel_rfl) (fun _ _ _ h => h) (Or.inl ⟨by rfl, ?hyc5⟩) cs8 ?restc5
          case hyc5 => (intro w hSw; (try dsimp only at hSw); go_simp; try with_reducible rfl)
          simp only [Act.put, List.setIfInBounds_toArray, List.set_cons_zero, List.set_cons_succ]
          refine wpAnyD_takeT 6 39 (v := ?vvc6) rfl rfl (by kernel_rfl) (by kernel_rfl) (by kernel_rfl) (by kernel_rfl) (fun _ _ _ h => h) (Or.inl ⟨by rfl, ?hyc6⟩) cs8 ?restc6
          case hyc6 => (intro w hSw; (try dsimp only at hSw); go_simp; try with_reducible rfl)
          simp only [Act.put, List.setIfInBounds_toArray, List.set_cons_zero, List.set_cons_succ]
          refine wpAnyD_one 7 (by kernel_rfl) rfl (fun KK hK => ?_)
          rw [if_pos (show Region.wanted _ _ = true from rfl)]
          go_wp2_with fail
          refine Calls.mono HN1 ?_
          rintro e w6 ⟨o6, ⟨t, st6, z6, G, ty6, p6, hw6, rfl, r6, n6, i6, k6, s6⟩ | ⟨hno, rfl⟩⟩
          rotate_left
          · have hfr : OnlyS (fun k => X k ∨ k = g ∨ k = m ∨ k = gc) w w6 := (H3.out.1.fr.drew).transN o6 (fun k hk e => by rcases e with e | e | e; exact Or.inl e; exact Or.inr (Or.inl e); exact Or.inr (Or.inr (Or.inl e)))
            go_wp2
            exact ⟨rfl, hfr, Or.inr ⟨by rw [HRS.out, E3.out, hno]; rfl, rfl⟩⟩
          clear HN1
          have kE6 : Blk w6 230 eb [.string sg, .int .i64 id] := Blk.onlyS (show Blk W3.drew 230 eb [.string sg, .int .i64 id] from H3.out.2) o6 (fun e => by rcases e with e | e | e; exact absurd (HX.out eb e) (by omega); exact hgeb e.symm; exact hmeb e.symm)
          have ck6 : w6.cell? ⟨eb, 0, none⟩ = some (.string sg) ∧ w6.cell? ⟨eb, 1, none⟩ = some (.int .i64 id) := ⟨Blk.cell kE6 0, Blk.cell kE6 1⟩
          have hz6 : W3.heap.size ≤ w6.heap.size := o6.size
          have H6 : Hid _ := And.intro o6 (And.intro r6 (And.intro n6 (And.intro i6 (And.intro k6 (And.intro s6 hw6)))))
          clear o6 r6 n6 i6 k6 s6 hw6 kE6
          go_wp2_with fail
          refine hK.out _ _ (fun _ => ck6) ?_
          clear hK KK
          refine wpAnyD_one 8 (by kernel_rfl) rfl (fun KK hK => ?_)
          rw [if_pos (show Region.wanted _ _ = true from rfl)]
          refine wp_build_eq1 _ _ rfl (cs := #[.string sg, .iface ty6 (.pointer p6)]) ?bkc ?_
          case bkc =>
            simp only [List.map_toArray, List.map_cons, List.map_nil]
            exact built_kd sg ty6 (.pointer p6)
          refine hK.out _ _ (fun _ => ck6) ?_
          clear hK KK
          refine wpAnyD_one 9 (by kernel_rfl) rfl (fun KK hK => ?_)
          rw [if_pos (show Region.wanted _ _ = true from rfl)]
          refine wp_buildSlice_eq1 _ _ _ rfl (v := .slice (some ⟨w6.heap.size, 0, none⟩) 1 1) (w' := w6.alloc (Obj.cells [.string sg, .iface ty6 (.pointer p6)].toArray 276)) ?bsc ?_
          case bsc =>
            simp only [List.map_toArray, List.map_cons, List.map_nil]
            exact run_bsRow elKd (by omega) (.agg #[.string sg, .iface ty6 (.pointer p6)]) [.string sg, .iface ty6 (.pointer p6)] rfl rfl w6
          refine hK.out _ _ (fun _ => ⟨(((Below.refl w6.heap.size w6).alloc (Nat.le_refl _) _).cell (p := ⟨eb, 0, none⟩) (show eb < w6.heap.size by omega)).trans ck6.1, (((Below.refl w6.heap.size w6).alloc (Nat.le_refl _) _).cell (p := ⟨eb, 1, none⟩) (show eb < w6.heap.size by omega)).trans ck6.2⟩) ?_
          clear hK KK
          have row6 : ORow 276 2 w.heap.size w6 a us.length c (kdF us) := orow_rb H3.out.1.row (fun k hk => H6.out.1.block k (orow_rb_lt H3.out.1.row k hk).2 (fun e => by have h9 := (orow_rb_lt H3.out.1.row k hk).1; rcases e with e | e | e; exact absurd (HX.out k e) (by omega); omega; omega))
          rw [hul] at row6
          refine wpAnyD_one 10 (by kernel_rfl) rfl (fun KK hK => ?_)
          rw [if_pos (show Region.wanted _ _ = true from rfl)]
          refine wp_appRowL _ _ elKd rfl w.heap.size a i c (kdF us) rfl row6 [.string sg, .iface ty6 (.pointer p6)] rfl (by simp [Value.oneCell']) rfl (by omega) (by omega) (by omega) ?_
          intro b8 c8 w8 o8 bl8 g8 at8
          refine hK.out _ _ (fun h => absurd h (by decide)) ?_
          clear hK KK
          rw [← hul] at o8 g8
          have I8 := KdI.more HS (KdI.below HS H3.out.1 (wr' := W3.drew) ⟨rfl, rfl, rfl, Nat.le_refl _, fun _ _ => rfl⟩) H6.out.1 hg hmw (HX.out) H6.out.2.1 H6.out.2.2.1 H6.out.2.2.2.1 H6.out.2.2.2.2.1 H6.out.2.2.2.2.2.1 (s := sg) o8 g8 at8
          have E8 : wkK (wkT P f (steps : Nat)) ls true st x = (wkK (wkT P f (steps : Nat)) (ls.drop (i + 1)) (i + 1 == 0) st6 z6).map fun z => (consL (ts ++ [(sg, t)]) z.1, z.2) := by
            rw [E3.out, H6.out.2.2.2.2.2.2]
            show Option.map _ (Option.map _ (wkK (wkT P f (steps : Nat)) (ls.drop (i + 1)) false st6 z6)) = Option.map _ (wkK (wkT P f (steps : Nat)) (ls.drop (i + 1)) false st6 z6)
            generalize wkK (wkT P f (steps : Nat)) (ls.drop (i + 1)) false st6 z6 = r
            cases r with
            | none => rfl
            | some z => simp [consL_app]
          have FIN : Hid _ := And.intro I8 E8
          clear I8 E8 o8 g8 bl8 row6 H6 H3 E3 ck6
          refine wpAnyD_one 11 (by kernel_rfl) rfl (fun KK hK => ?_)
          rw [if_pos (show Region.wanted _ _ = true from rfl)]
          go_wp2_with fail
          refine hK.out _ _ (fun h => absurd h (by decide)) ?_
          clear hK KK
          refine wpAnyD_done (by kernel_rfl) ?_ _
          clear cs8
          go_wp2
          go_roundw
          case rel => exact ⟨i + 1, _, _, _, _, _, _, _, by rw [List.length_append, hul]; rfl, by go_num, by omega, FIN.out.1, FIN.out.2⟩
          case measure => simp [intOf]; omega
    · have hi2 : i = ls.length := by omega
      have hfin : Hid (((inP l).bind fun ls => wkK (wkT P f (steps : Nat)) ls true st x) = some (consL ts .nil, st1, x1)) := by
        show ((inP l).bind fun ls => wkK (wkT P f (steps : Nat)) ls true st x) = some (consL ts .nil, st1, x1)
        rw [HRS.out, heq, hi2, List.drop_length, wkK]
        rfl
      have hnl : ¬ ((i : Int) < (ls.length : Int)) := by omega
      clear hI heq hul
      go_wp2_with fail
      go_ret
      exact ⟨HI.out.fr, Or.inl ⟨_, _, _, F, us, a, c, hfin.out, rfl, HI.out.row, HI.out.rep, HI.out.nd, HI.out.hi, HI.out.wk, HI.out.sn⟩⟩
end Go.Proofs.YtnohmedccbogkaaGreatDoor

/- The walker reads a node. -/
namespace Go.Proofs.YtnohmedccbogkaaGreatDoor
open Go.RowKit
set_option linter.unusedVariables false

theorem keepT_S {t : Nat} {Z : Nat → Prop} {w w' : World} (ho : OnlyS Z w w') (hz : ∀ k, Z k → ∀ cs fr, w.heap[k]? ≠ some (.cells cs t fr)) : KeepT t w w' :=
  ⟨ho.size, fun k cs fr hk => by
    rw [ho.block k (Array.getElem?_eq_some_iff.1 hk).1 (fun e => hz k e cs fr hk)]
    exact hk⟩
theorem Blk.notT {w : World} {t g t2 : Nat} {xs : List Value} (h : Blk w t g xs) (hn : t ≠ t2) : ∀ cs fr, w.heap[g]? ≠ some (.cells cs t2 fr) := by
  intro cs fr e
  unfold Blk at h
  rw [h] at e
  cases e
  exact hn rfl
theorem SetI.putd {w w' : World} {m : Nat} {seen : List Int} {id : Int} {D : DataW Nat} (hD : w.ownsMap Tryz.prog 3 unitElem m seen.length D) (he : ∀ i : Int, Maps.has D (.int .i64 i) = seen.contains i)
    (h : w'.ownsMap Tryz.prog 3 unitElem m (seen.length + 1) (D.put (.int .i64 id) (.agg []))) : SetI w' m (id :: seen) :=
  ⟨_, h, fun i => by
    by_cases hi : i = id
    · subst hi
      rw [Maps.has_put_same hD.isMap (by trivial)]
      simp
    · rw [Maps.has_put_other (by intro e; cases e; exact hi rfl), he]
      simp [hi]⟩
theorem zeroU (w : World) : (zeroValue 236).run Tryz.prog w = .ok (.agg #[]) w := by kernel_rfl
theorem lawI : Maps.Keyed Tryz.prog 3 := Maps.int_keyed Tryz.underlying3
theorem built_pl (id : Int) : Tryz.prog.built 262 [(0, .int .i64 id)] = some #[.int .i64 id] := by kernel_rfl
theorem wkN_eq {P : Pg} {f steps : Nat} {st : St} {x : LSg} {id : Int} {l : List Int} (h1 : pgOk P st id = true) (h : P.kd id ≠ 2) (hl : P.bd id = l) : wkT P (f + 1) (steps : Nat) st x id = ((inP l).bind fun ls => wkK (wkT P f ((steps + 1 : Nat) : Int)) ls true ⟨id :: st.seen, st.tall⟩ x).map fun y => (.node id y.1, y.2.1, y.2.2) := by
  rw [wkT_node h1 h, hl]
  cases inP l with
  | none => rfl
  | some ls => rfl
theorem built_cu (a : Option Addr) (n c : Nat) : Tryz.prog.built 162 [(0, .slice a n c)] = some #[.slice a n c] := by kernel_rfl
theorem built_lf (id : Int) (a : Option Addr) (n c : Nat) : Tryz.prog.built 302 [(0, .agg #[.int .i64 id]), (1, .slice a n c)] = some #[.int .i64 id, .slice a n c] := by kernel_rfl
theorem built_in (id : Int) (a : Option Addr) (n c : Nat) : Tryz.prog.built 265 [(0, .agg #[.int .i64 id]), (1, .slice a n c)] = some #[.int .i64 id, .slice a n c] := by kernel_rfl
theorem Bs.blt {w : World} {a : Option Addr} {n c : Nat} {l : List Int} (h : Bs w a n c l) : ∀ b off, 0 < n → a = some ⟨b, off, none⟩ → b < w.heap.size := by
  intro b off hn e
  obtain ⟨b1, off1, e1, hb, _⟩ := h.at_ hn
  rw [e1] at e
  cases e
  exact hb
variable {S : World → Prop} {X : Nat → Prop} {B0 g m N ty fn : Nat} {src v : Value} {P : Pg} {st : St} {x z : LSg} {w w' : World}
theorem Wk.srcPut (HS : Src P B0 ty fn v S X) (h : Wk S B0 g m N src w st x) (hg : w.grownBy w' (some m)) : S w' := by
  obtain ⟨es, c, hm⟩ := h.set.obj
  have ho := OnlyS.ofGrown hg
  exact HS.keep w w' h.src (ho.below (by have := h.blk.lt; have := h.gB; omega) (fun k e => by cases e; exact h.mB)) (keepT_map hg hm)
theorem Wk.wrote (HS : Src P B0 ty fn v S X) (h : Wk S B0 g m N src w st x) {gc t : Nat} {xs : List Value} (ho : OnlyS (fun k => k = g ∨ k = gc) w w') (hkc : Blk w t gc xs) (ht : t ≠ 5) (hgB : B0 ≤ gc) (hgm : gc ≠ m) (hb : Blk w' 271 g (wkc src m st.tall z)) : Wk S B0 g m N src w' st z :=
  ⟨hb, h.set.same (ho.block m h.set.lt (fun e => by rcases e with e | e; exact h.gm e.symm; exact hgm e.symm)), HS.keep w w' h.src (ho.below (by have := h.blk.lt; have := h.gB; omega) (fun k e => by rcases e with rfl | rfl; exact h.gB; exact hgB)) (keepT_S ho (fun k e => by rcases e with rfl | rfl; exact h.blk.notT (by decide); exact hkc.notT ht)), h.gB, h.mB, h.ok⟩

set_option maxHeartbeats 8000000 in
set_option maxRecDepth 100000 in
theorem node_step (PW : PgW P N) (HS : Src P B0 ty fn v S X) (f : Nat) (HN : NdC P S X B0 g m N (.iface ty v) f) : NdC P S X B0 g m N (.iface ty v) (f + 1) := by
  intro steps id st x w hw hf hs hlo hhi
  have hle := hw.ok.le
  have hNle := PW.le
  have hg := hw.blk.lt
  have hmw := hw.set.lt
  have hgm := hw.gm
  have hgB := hw.gB
  obtain ⟨D, hD, hDe⟩ := hw.set
  have hsee := hDe id
  have hkey : keyOf Tryz.prog 3 (.int .i64 id) = some (.int .i64 id) := Maps.keyOf_int_mk Tryz.underlying3 (by have e1 : IntKind.i64.min = -9223372036854775808 := rfl; have e2 : IntKind.i64.max = 9223372036854775807 := rfl; simp only [Lit.wf, Bool.and_eq_true, decide_eq_true_eq]; omega)
  have c1 : w.cell? ⟨g, 1, none⟩ = some (.map (some m)) := hw.blk.cell 1
  have H0 : Hid (Wk S B0 g m N (.iface ty v) w st x) := hw
  have HDE : Hid _ := hDe
  have q1 : Below w.heap.size w (w.alloc (Obj.cells #[] 236)) := (Below.refl _ _).alloc (Nat.le_refl _) _
  have K1 := hw.below HS q1
  have D1 := hD.alloc (.cells #[] 236)
  have FINP : Hid (∀ w', OnlyS (fun k => X k ∨ k = g ∨ k = m) w w' → pgOk P st id = false → NdP P S X B0 g m N (.iface ty v) (f + 1) steps st x id w (.panicked badE) w') := fun w' ho hq => ⟨ho, Or.inr ⟨wkT_bad hq, rfl⟩⟩
  have HB : Hid (Maps.has D (.int .i64 id) = st.seen.contains id) := hsee
  clear hw hDe hsee
  go_enter Tryz.func184, Tryz.ntmps184
  go_upto_region 2 with (first | (at_lookup; refine wpList_lookup_own_unit _ rfl _ _ 269 rfl 3 236 lawI Tryz.underlying269 (zeroU _) m _ D rfl hD _ _ rfl hkey ?_) | fail)
  change Code.wp _ _ _ _ (w.alloc (Obj.cells #[] 236))
  have HQ1 : Hid _ := q1
  have hz1 : w.heap.size ≤ (w.alloc (Obj.cells #[] 236)).heap.size := q1.size
  generalize w.alloc (Obj.cells #[] 236) = W1 at *
  have hsn : SetI W1 m st.seen := ⟨D, D1, HDE.out⟩
  have s1 : OnlyS (fun k => X k ∨ k = g ∨ k = m) w W1 := OnlyS.ofBelow HQ1.out
  clear hD c1 q1
  generalize Maps.has D (.int .i64 id) = bb at *
  cases bb with
  | true =>
    have hq : pgOk P st id = false := by
      rw [← Bool.not_eq_true, pgOk_iff]; intro h; exact h.2.2.1 (List.contains_iff_mem.1 HB.out.symm)
    clear D1 K1 hsn
    go_wp2_with fail
    all_goals (refine (need_no _).mono ?_; rintro e w' ⟨rfl, rfl⟩; go_wp2; exact ⟨rfl, FINP.out _ s1 hq⟩)
  | false =>
    have hns : id ∉ st.seen := fun h => by have := HB.out; rw [List.contains_iff_mem.2 h] at this; cases this
    by_cases h2 : 2 ≤ id
    · have c1 : W1.cell? ⟨g, 1, none⟩ = some (.map (some m)) := K1.blk.cell 1
      have HK1 : Hid _ := And.intro K1 hsn
      have hsl : st.seen.length < maxLen := by unfold maxLen; omega
      clear K1 hsn
      go_wp2_with fail
      refine (need_yes _).mono ?_
      rintro e w' ⟨rfl, rfl⟩
      go_upto_region 4 with (first | (at_mapUpdate; refine wpList_mapUpdate_own _ rfl _ _ _ 269 rfl 3 236 lawI Tryz.underlying269 (unitElem (H := Nat)) m _ D rfl D1 hsl _ _ _ rfl rfl hkey _ [] unitElem_mk ?_; intro W3 D3 g3) | fail)
      have S3 := HK1.out.1.srcPut HS g3
      have set3 := SetI.putd D1 HDE.out D3
      have s3 : OnlyS (fun k => X k ∨ k = g ∨ k = m) w W3 := s1.transN (OnlyS.ofGrown g3) (fun k _ e => by cases e; exact Or.inr (Or.inr rfl))
      have kW3 := HK1.out.1.blk.onlyS (OnlyS.ofGrown g3) (fun e => by cases e; exact hgm rfl)
      have c0 : W3.cell? ⟨g, 0, none⟩ = some (.iface ty v) := kW3.cell 0
      have PG := HS.page W3 id S3 hlo hhi
      have hmth := HS.meth
      have hent := HS.ent
      have H3 : Hid _ := And.intro set3 (And.intro s3 g3)
      clear set3 s3 g3 kW3 c1 D3 D1 hkey hsl S3 s1
      go_wp2_with fail
      refine PG.mono ?_
      clear PG
      rintro e w4 ⟨s4, o4, ⟨hok, ab, cb, rfl, hbs⟩ | ⟨hno, kk, ab, nb, cb, ad, rfl⟩⟩
      rotate_left
      · have hq : pgOk P st id = false := by
          rw [← Bool.not_eq_true, pgOk_iff, hno]; intro h; exact absurd h.1 (by decide)
        have s4' : OnlyS (fun k => X k ∨ k = g ∨ k = m) w w4 := H3.out.2.1.transN o4 (fun k _ e => Or.inl e)
        go_wp2_with fail
        refine (need_no _).mono ?_; rintro e w' ⟨rfl, rfl⟩; go_wp2; exact ⟨rfl, FINP.out _ s4' hq⟩
      · obtain ⟨hi0, hiN⟩ := PW.ok id hok
        have K3 : Wk S B0 g m N (.iface ty v) W3 ⟨id :: st.seen, st.tall⟩ x := HK1.out.1.see HS (by omega) hiN hns H3.out.1 H3.out.2.2
        have K4 := K3.ofPage s4 o4 HS.low
        have s4' : OnlyS (fun k => X k ∨ k = g ∨ k = m) w w4 := H3.out.2.1.transN o4 (fun k _ e => Or.inl e)
        have hbl := PW.len id
        have c2 : w4.cell? ⟨g, 2, none⟩ = some (.int .i64 st.tall) := K4.blk.cell 2
        have f2 := K4.blk.free 2
        have hz4 := s4'.size
        generalize hl : P.bd id = l at hbs hbl ⊢
        generalize hkd : P.kd id = kd at ⊢
        have HL : Hid (P.bd id = l) := hl
        have HKD : Hid (P.kd id = kd) := hkd
        have HK4 : Hid _ := And.intro K4 (And.intro hbs s4')
        clear hl hkd K4 hbs s4' K3 HK1 H3 o4 s4
        by_cases hk2 : kd = 2
        · subst hk2
          have pOK : Hid (pgOk P st id = true) := pgOk_iff.2 ⟨hok, h2, hns, Or.inl HKD.out⟩
          by_cases ht1 : st.tall < 0
          · have HT : Hid (st.tall < 0 ∨ st.tall = (steps : Nat)) := Or.inl ht1
            go_wp2_with fail
            refine (need_yes _).mono ?_
            rintro e w' ⟨rfl, hw⟩
            obtain rfl := hw.symm
            clear hw
            go_wp2_with fail
            refine (need_yes _).mono ?_
            rintro e w' ⟨rfl, hw⟩
            obtain rfl := hw.symm
            clear hw
            have o5 := onlyB_setCell w4 g 2 (.int .i64 (steps : Nat))
            have K5 : Wk S B0 g m N (.iface ty v) (w4.setCell ⟨g, 2, none⟩ (.int .i64 (steps : Nat))) ⟨id :: st.seen, (steps : Nat)⟩ x := HK4.out.1.put HS o5 (HK4.out.1.blk.set 2 _) rfl
            have t5 := HK4.out.2.1.keep (keepT_only o5 HK4.out.1.blk (by decide))
            have s5 := HK4.out.2.2.transN (OnlyS.ofB o5) (fun k _ e => Or.inr (Or.inl e))
            have hz5 := s5.size
            have H5 : Hid _ := And.intro K5 (And.intro t5 s5)
            clear K5 t5 s5 o5 HK4
            go_upto_region 9 with fail
            generalize w4.setCell ⟨g, 2, none⟩ (.int .i64 (steps : Nat)) = W5 at *
            clear c2 f2
            have q6 : Below W5.heap.size W5 (W5.alloc (.cells #[.slice ab l.length cb] 162)) := (Below.refl _ _).alloc (Nat.le_refl _) _
            have K6 := H5.out.1.below HS q6
            have kC := blk_new W5 162 #[.slice ab l.length cb]
            have cur6 : Cur (W5.alloc (.cells #[.slice ab l.length cb] 162)) W5.heap.size W5.heap.size l := ⟨ab, l.length, cb, ⟨kC, H5.out.2.1.bs.below q6, H5.out.2.1.bs.blt⟩⟩
            have WE := went_calls g W5.heap.size W5.heap.size l (.iface ty v) m (steps : Nat) x _ K6.blk cur6 q6.size hbl (by omega)
            have hb1 := built_pl id
            have hb2 := built_cu ab l.length cb
            have hb3 := built_lf id
            have H6 : Hid _ := And.intro K6 (And.intro kC q6)
            clear K6 kC cur6 q6
            go_wp2_with fail
            refine WE.mono ?_
            clear WE
            rintro e w7 ⟨o7, ⟨es, ae, ce, z, hle7, rfl, hrow, hblk7⟩ | ⟨hno, rfl⟩⟩
            rotate_left
            · have s7 : OnlyS (fun k => X k ∨ k = g ∨ k = m) w w7 := (H5.out.2.2.trans (OnlyS.ofBelow H6.out.2.2)).transN o7 (fun k hk e => by rcases e with e | e; exact Or.inr (Or.inl e); omega)
              have FIN : Hid (NdP P S X B0 g m N (.iface ty v) (f + 1) steps st x id w (.panicked badE) w7) := ⟨s7, Or.inr ⟨by rw [wkT_leaf pOK.out HKD.out HT.out, HL.out, hno]; rfl, rfl⟩⟩
              clear o7 hno s7
              go_wp2
              exact ⟨rfl, FIN.out⟩
            have K7 := H6.out.1.wrote HS o7 H6.out.2.1 (by decide) (by omega) (by omega) hblk7
            have s7 : OnlyS (fun k => X k ∨ k = g ∨ k = m) w w7 := (H5.out.2.2.trans (OnlyS.ofBelow H6.out.2.2)).transN o7 (fun k hk e => by rcases e with e | e; exact Or.inr (Or.inl e); omega)
            have q8 : Below w7.heap.size w7 (w7.alloc (.cells #[.int .i64 id, .slice ae es.length ce] 302)) := (Below.refl _ _).alloc (Nat.le_refl _) _
            have k8 := blk_new w7 302 #[.int .i64 id, .slice ae es.length ce]
            have hz7 := s7.size
            have hrl := orow_rb_lt hrow
            have FIN : Hid (NdP P S X B0 g m N (.iface ty v) (f + 1) steps st x id w (.returned (lfI w7.heap.size)) (w7.alloc (.cells #[.int .i64 id, .slice ae es.length ce] 302))) := by
              refine ⟨s7.trans (OnlyS.ofBelow q8), Or.inl ⟨.leaf id es, ⟨id :: st.seen, (steps : Nat)⟩, z, w7.heap.size :: rb ae, _, _, by rw [wkT_leaf pOK.out HKD.out HT.out, HL.out, hle7]; rfl, rfl, ?_, ?_, ?_, K7.below HS q8, by simp⟩⟩
              · rw [IRep]
                exact ⟨w7.heap.size, ae, ce, rfl, rfl, k8, (hrow.below q8).mono (Nat.zero_le _)⟩
              · rw [List.nodup_cons]
                exact ⟨fun hm => by have := (hrl _ hm).2; omega, by cases ae <;> simp [rb]⟩
              · intro k hk
                rcases List.mem_cons.1 hk with rfl | hk
                · omega
                · have h1 := (hrl k hk).1
                  have h2 := H5.out.2.2.size
                  have h3 := H6.out.2.2.size
                  omega
            clear K7 s7 q8 k8 hrl o7 hrow hblk7 hle7
            go_wp2_with fail
            go_ret
            exact FIN.out
          · by_cases ht2 : st.tall = (steps : Nat)
            · have HT : Hid (st.tall < 0 ∨ st.tall = (steps : Nat)) := Or.inr ht2
              go_wp2_with fail
              refine (need_yes _).mono ?_
              rintro e w' ⟨rfl, hw⟩
              obtain rfl := hw.symm
              clear hw
              go_wp2_with fail
              refine (need_yes _).mono ?_
              rintro e w' ⟨rfl, hw⟩
              obtain rfl := hw.symm
              clear hw
              have o5 := onlyB_setCell w4 g 2 (.int .i64 (steps : Nat))
              have K5 : Wk S B0 g m N (.iface ty v) (w4.setCell ⟨g, 2, none⟩ (.int .i64 (steps : Nat))) ⟨id :: st.seen, (steps : Nat)⟩ x := HK4.out.1.put HS o5 (HK4.out.1.blk.set 2 _) rfl
              have t5 := HK4.out.2.1.keep (keepT_only o5 HK4.out.1.blk (by decide))
              have s5 := HK4.out.2.2.transN (OnlyS.ofB o5) (fun k _ e => Or.inr (Or.inl e))
              have hz5 := s5.size
              have H5 : Hid _ := And.intro K5 (And.intro t5 s5)
              clear K5 t5 s5 o5 HK4
              go_upto_region 9 with fail
              generalize w4.setCell ⟨g, 2, none⟩ (.int .i64 (steps : Nat)) = W5 at *
              clear c2 f2
              have q6 : Below W5.heap.size W5 (W5.alloc (.cells #[.slice ab l.length cb] 162)) := (Below.refl _ _).alloc (Nat.le_refl _) _
              have K6 := H5.out.1.below HS q6
              have kC := blk_new W5 162 #[.slice ab l.length cb]
              have cur6 : Cur (W5.alloc (.cells #[.slice ab l.length cb] 162)) W5.heap.size W5.heap.size l := ⟨ab, l.length, cb, ⟨kC, H5.out.2.1.bs.below q6, H5.out.2.1.bs.blt⟩⟩
              have WE := went_calls g W5.heap.size W5.heap.size l (.iface ty v) m (steps : Nat) x _ K6.blk cur6 q6.size hbl (by omega)
              have hb1 := built_pl id
              have hb2 := built_cu ab l.length cb
              have hb3 := built_lf id
              have H6 : Hid _ := And.intro K6 (And.intro kC q6)
              clear K6 kC cur6 q6
              go_wp2_with fail
              refine WE.mono ?_
              clear WE
              rintro e w7 ⟨o7, ⟨es, ae, ce, z, hle7, rfl, hrow, hblk7⟩ | ⟨hno, rfl⟩⟩
              rotate_left
              · have s7 : OnlyS (fun k => X k ∨ k = g ∨ k = m) w w7 := (H5.out.2.2.trans (OnlyS.ofBelow H6.out.2.2)).transN o7 (fun k hk e => by rcases e with e | e; exact Or.inr (Or.inl e); omega)
                have FIN : Hid (NdP P S X B0 g m N (.iface ty v) (f + 1) steps st x id w (.panicked badE) w7) := ⟨s7, Or.inr ⟨by rw [wkT_leaf pOK.out HKD.out HT.out, HL.out, hno]; rfl, rfl⟩⟩
                clear o7 hno s7
                go_wp2
                exact ⟨rfl, FIN.out⟩
              have K7 := H6.out.1.wrote HS o7 H6.out.2.1 (by decide) (by omega) (by omega) hblk7
              have s7 : OnlyS (fun k => X k ∨ k = g ∨ k = m) w w7 := (H5.out.2.2.trans (OnlyS.ofBelow H6.out.2.2)).transN o7 (fun k hk e => by rcases e with e | e; exact Or.inr (Or.inl e); omega)
              have q8 : Below w7.heap.size w7 (w7.alloc (.cells #[.int .i64 id, .slice ae es.length ce] 302)) := (Below.refl _ _).alloc (Nat.le_refl _) _
              have k8 := blk_new w7 302 #[.int .i64 id, .slice ae es.length ce]
              have hz7 := s7.size
              have hrl := orow_rb_lt hrow
              have FIN : Hid (NdP P S X B0 g m N (.iface ty v) (f + 1) steps st x id w (.returned (lfI w7.heap.size)) (w7.alloc (.cells #[.int .i64 id, .slice ae es.length ce] 302))) := by
                refine ⟨s7.trans (OnlyS.ofBelow q8), Or.inl ⟨.leaf id es, ⟨id :: st.seen, (steps : Nat)⟩, z, w7.heap.size :: rb ae, _, _, by rw [wkT_leaf pOK.out HKD.out HT.out, HL.out, hle7]; rfl, rfl, ?_, ?_, ?_, K7.below HS q8, by simp⟩⟩
                · rw [IRep]
                  exact ⟨w7.heap.size, ae, ce, rfl, rfl, k8, (hrow.below q8).mono (Nat.zero_le _)⟩
                · rw [List.nodup_cons]
                  exact ⟨fun hm => by have := (hrl _ hm).2; omega, by cases ae <;> simp [rb]⟩
                · intro k hk
                  rcases List.mem_cons.1 hk with rfl | hk
                  · omega
                  · have h1 := (hrl k hk).1
                    have h2 := H5.out.2.2.size
                    have h3 := H6.out.2.2.size
                    omega
              clear K7 s7 q8 k8 hrl o7 hrow hblk7 hle7
              go_wp2_with fail
              go_ret
              exact FIN.out
            · have hte : (st.tall == (steps : Nat)) = false := by simp [ht2]
              have FIN : Hid (NdP P S X B0 g m N (.iface ty v) (f + 1) steps st x id w (.panicked badE) w4) := ⟨HK4.out.2.2, Or.inr ⟨wkT_tall HKD.out (by omega), rfl⟩⟩
              go_wp2_with fail
              refine (need_yes _).mono ?_; rintro e w' ⟨rfl, hw⟩; obtain rfl := hw.symm; clear hw
              go_wp2_with fail
              rw [show decide (st.tall < 0) = false by simp [ht1]]
              refine (need_no _).mono ?_; rintro e w' ⟨rfl, hw⟩; obtain rfl := hw.symm; clear hw; go_wp2; exact ⟨rfl, FIN.out⟩
        · have hk2' : (kd == 2) = false := by simp [hk2]
          by_cases hk3 : kd = 3
          · subst hk3
            have pOK : Hid (pgOk P st id = true) := pgOk_iff.2 ⟨hok, h2, hns, Or.inr HKD.out⟩
            have q6 : Below w4.heap.size w4 (w4.alloc (.cells #[.slice ab l.length cb] 162)) := (Below.refl _ _).alloc (Nat.le_refl _) _
            have K6 := HK4.out.1.below HS q6
            have kC := blk_new w4 162 #[.slice ab l.length cb]
            have cur6 : Cur (w4.alloc (.cells #[.slice ab l.length cb] 162)) w4.heap.size w4.heap.size l := ⟨ab, l.length, cb, ⟨kC, HK4.out.2.1.bs.below q6, HK4.out.2.1.bs.blt⟩⟩
            have KC : Calls Tryz.prog 208 #[.pointer (some ⟨g, 0, none⟩), .pointer (some ⟨w4.heap.size, 0, none⟩), .int .i64 ((steps : Int) + 1)] (w4.alloc (.cells #[.slice ab l.length cb] 162)) (KdP P S X B0 g m N (.iface ty v) f (steps + 1) l ⟨id :: st.seen, st.tall⟩ x w4.heap.size (w4.alloc (.cells #[.slice ab l.length cb] 162))) :=
              kids_calls P B0 ty fn v S X HS g m N (.iface ty v) f HN (steps + 1) l w4.heap.size w4.heap.size ⟨id :: st.seen, st.tall⟩ x _ K6 cur6 q6.size hbl (by omega) (by omega) (by omega) (by simp only [List.length_cons]; omega) (by simp only [List.length_cons]; omega)
            have hb1 := built_pl id
            have hb2 := built_cu ab l.length cb
            have hb3 := built_in id
            have HQ6 : Hid _ := q6
            have hsb : (steps : Int) + 1 ≤ 1025 := by omega
            have z6 : Hid ((w4.alloc (.cells #[.slice ab l.length cb] 162)).heap.size = w4.heap.size + 1) := by show (w4.alloc (.cells #[.slice ab l.length cb] 162)).heap.size = w4.heap.size + 1; simp
            clear K6 kC cur6 q6 c2 f2
            go_wp2_with fail
            refine (need_yes _).mono ?_
            rintro e w' ⟨rfl, hw⟩
            obtain rfl := hw.symm
            clear hw
            go_wp2_with fail
            refine KC.mono ?_
            clear KC
            rintro e w7 ⟨o7, ⟨t, st7, z, F, us, ak, ck, hkk, rfl, hrow, hrep, hnd, hhi, K7, hsn⟩ | ⟨hno, rfl⟩⟩
            rotate_left
            · have s7 : OnlyS (fun k => X k ∨ k = g ∨ k = m) w w7 := (HK4.out.2.2.trans (OnlyS.ofBelow HQ6.out)).transN o7 (fun k hk e => by rcases e with e | e | e | e; exact Or.inl e; exact Or.inr (Or.inl e); exact Or.inr (Or.inr e); omega)
              have FIN : Hid (NdP P S X B0 g m N (.iface ty v) (f + 1) steps st x id w (.panicked badE) w7) := ⟨s7, Or.inr ⟨(wkN_eq pOK.out (by rw [HKD.out]; decide) HL.out).trans (by rw [hno]; rfl), rfl⟩⟩
              clear o7 hno s7
              go_wp2
              exact ⟨rfl, FIN.out⟩
            have s7 : OnlyS (fun k => X k ∨ k = g ∨ k = m) w w7 := (HK4.out.2.2.trans (OnlyS.ofBelow HQ6.out)).transN o7 (fun k hk e => by rcases e with e | e | e | e; exact Or.inl e; exact Or.inr (Or.inl e); exact Or.inr (Or.inr e); omega)
            have q8 : Below w7.heap.size w7 (w7.alloc (.cells #[.int .i64 id, .slice ak us.length ck] 265)) := (Below.refl _ _).alloc (Nat.le_refl _) _
            have k8 := blk_new w7 265 #[.int .i64 id, .slice ak us.length ck]
            have hz7 := s7.size
            have hrl := orow_rb_lt hrow
            have FIN : Hid (NdP P S X B0 g m N (.iface ty v) (f + 1) steps st x id w (.returned (inI w7.heap.size)) (w7.alloc (.cells #[.int .i64 id, .slice ak us.length ck] 265))) := by
              refine ⟨s7.trans (OnlyS.ofBelow q8), Or.inl ⟨.node id t, st7, z, w7.heap.size :: (rb ak ++ F), _, _, (wkN_eq pOK.out (by rw [HKD.out]; decide) HL.out).trans (by rw [hkk]; rfl), rfl, ?_, ?_, ?_, K7.below HS q8, by have h9 := hsn; simp only [List.length_cons] at h9; omega⟩⟩
              · rw [IRep]
                exact ⟨w7.heap.size, ak, ck, us, F, rfl, rfl, k8, (hrow.below q8).mono (Nat.zero_le _), hrep.below q8⟩
              · rw [List.nodup_cons]
                refine ⟨fun hm => ?_, hnd⟩
                rcases List.mem_append.1 hm with hm | hm
                · have := (hrl _ hm).2; omega
                · have := hrep.lt _ hm; omega
              · intro k hk
                have h9 := z6.out
                rcases List.mem_cons.1 hk with rfl | hk
                · omega
                · rcases List.mem_append.1 hk with hk | hk
                  · have h1 := (hrl k hk).1
                    omega
                  · have h1 := hhi k hk
                    omega
            clear K7 s7 q8 k8 hrl o7 hrow hkk hrep hnd hhi hsn
            go_wp2_with fail
            go_ret
            exact FIN.out
          · have hk3' : (kd == 3) = false := by simp [hk3]
            have hq : pgOk P st id = false := by
              rw [← Bool.not_eq_true, pgOk_iff, HKD.out]; intro h; rcases h.2.2.2 with h | h; exact hk2 h; exact hk3 h
            have FIN : Hid (NdP P S X B0 g m N (.iface ty v) (f + 1) steps st x id w (.panicked badE) w4) := FINP.out _ HK4.out.2.2 hq
            go_wp2_with fail
            refine (need_no _).mono ?_; rintro e w' ⟨rfl, hw⟩; obtain rfl := hw.symm; clear hw; go_wp2; exact ⟨rfl, FIN.out⟩
    · have hq : pgOk P st id = false := by
        rw [← Bool.not_eq_true, pgOk_iff]; intro h; exact h2 h.2.1
      clear D1 K1 hsn
      go_wp2_with fail
      refine (need_no _).mono ?_; rintro e w' ⟨rfl, rfl⟩; go_wp2; exact ⟨rfl, FINP.out _ s1 hq⟩
theorem node_calls (PW : PgW P N) (HS : Src P B0 ty fn v S X) : ∀ f : Nat, NdC P S X B0 g m N (.iface ty v) f
  | 0 => fun steps id st x w hw hf _ _ _ => absurd hf (by have := hw.ok.le; omega)
  | f + 1 => node_step PW HS f (node_calls PW HS f)
end Go.Proofs.YtnohmedccbogkaaGreatDoor

/- The coin of a text, in the program. -/
namespace Go.Proofs.YtnohmedccbogkaaGreatDoor
open Go.RowKit
open scoped Classical
set_option linter.unusedVariables false

/-- Whether a text is a coin. -/
def coOk (s : ByteArray) : Prop := s.size = 13 ∧ (nb s).getD 7 0 = 0 ∧ (nb s).getD 12 0 ≤ 1 ∧ 1 ≤ low ((nb s).take 7) ∧ low ((nb s).take 7) ≤ 1000000000000 ∧ low (((nb s).drop 8).take 4) ≤ 1000000
def co0 : List Value := [.int .i64 0, .int .i64 0, .bool false]
noncomputable def coC (s : ByteArray) : List Value := if coOk s then [.int .i64 (low ((nb s).take 7)), .int .i64 (low (((nb s).drop 8).take 4)), .bool ((nb s).getD 12 0 == 1)] else co0
theorem coC_yes {s : ByteArray} (h : coOk s) : coC s = [.int .i64 (low ((nb s).take 7)), .int .i64 (low (((nb s).drop 8).take 4)), .bool ((nb s).getD 12 0 == 1)] ∧ decide (coOk s) = true := ⟨if_pos h, decide_eq_true h⟩
theorem coC_no {s : ByteArray} (h : ¬ coOk s) : coC s = co0 ∧ decide (coOk s) = false := ⟨if_neg h, decide_eq_false h⟩
theorem coC_one (s : ByteArray) : ∃ a b c, coC s = [.int .i64 a, .int .i64 b, .bool c] := by
  unfold coC
  split
  · exact ⟨_, _, _, rfl⟩
  · exact ⟨0, 0, false, rfl⟩
theorem sizeCo : (Tryz.prog.info? 48).map (·.size) = some 3 := by kernel_rfl
theorem built_co0 : Tryz.prog.built 48 [] = some #[.int .i64 0, .int .i64 0, .bool false] := by kernel_rfl
theorem built_co (a b : Int) (c : Bool) : Tryz.prog.built 48 [(0, .int .i64 a), (1, .int .i64 b), (2, .bool c)] = some #[.int .i64 a, .int .i64 b, .bool c] := by kernel_rfl

/-- The coin is put where the answer lies. -/
def coS (u : World) (g : Nat) (x y z : Value) : World := ((u.setCell ⟨g, 0, none⟩ x).setCell ⟨g, 1, none⟩ y).setCell ⟨g, 2, none⟩ z
structure CoE (w u : World) (g : Nat) : Prop where
  c0 : u.cell? ⟨g, 0, none⟩ = some (.int .i64 0)
  c1 : u.cell? ⟨g, 1, none⟩ = some (.int .i64 0)
  c2 : u.cell? ⟨g, 2, none⟩ = some (.bool false)
  f0 : u.frozen? ⟨g, 0, none⟩ = false
  f1 : u.frozen? ⟨g, 1, none⟩ = false
  f2 : u.frozen? ⟨g, 2, none⟩ = false
  fin : ∀ x y z, Below w.heap.size w (coS u g x y z) ∧ Blk (coS u g x y z) 48 g [x, y, z]
theorem coin_end {w W0 u : World} {g : Nat} (k0 : Blk W0 48 g co0) (q0 : Below w.heap.size w W0) (hg : w.heap.size ≤ g) (b : Below W0.heap.size W0 u) : CoE w u g := by
  have kR := k0.below b
  have bu := q0.trans (b.mono q0.size)
  refine ⟨kR.cell 0, kR.cell 1, kR.cell 2, kR.free 0, kR.free 1, kR.free 2, fun x y z => ⟨?_, ?_⟩⟩
  · exact ((bu.setCell (p := ⟨g, 0, none⟩) hg x).setCell (p := ⟨g, 1, none⟩) hg y).setCell (p := ⟨g, 2, none⟩) hg z
  · exact ((kR.set 0 x).set 1 y).set 2 z

set_option maxHeartbeats 1000000 in
theorem moneyOkN_calls (x : Int) (w : World) : Calls Tryz.prog 98 #[.int .i64 x] w fun e w' => e = .returned (.bool (decide (1 ≤ x ∧ x ≤ 1000000000000))) ∧ w' = w := by
  by_cases h1 : 1 ≤ x
  · by_cases h2 : x ≤ 1000000000000
    · have HD : Hid (decide (1 ≤ x ∧ x ≤ 1000000000000) = true) := by show decide _ = true; simp [h1, h2]
      generalize decide (1 ≤ x ∧ x ≤ 1000000000000) = bb at *
      go_enter Tryz.func98, Tryz.ntmps98
      go_wp2_with fail
      go_ret
      exact ⟨by rw [HD.out]; rfl, rfl⟩
    · have HD : Hid (decide (1 ≤ x ∧ x ≤ 1000000000000) = false) := by show decide _ = false; simp [h2]
      generalize decide (1 ≤ x ∧ x ≤ 1000000000000) = bb at *
      go_enter Tryz.func98, Tryz.ntmps98
      go_wp2_with fail
      go_ret
      exact ⟨by rw [HD.out]; rfl, rfl⟩
  · have HD : Hid (decide (1 ≤ x ∧ x ≤ 1000000000000) = false) := by show decide _ = false; simp [h1]
    generalize decide (1 ≤ x ∧ x ≤ 1000000000000) = bb at *
    go_enter Tryz.func98, Tryz.ntmps98
    go_wp2_with fail
    go_ret
    exact ⟨by rw [HD.out]; rfl, rfl⟩
set_option maxHeartbeats 1000000 in
theorem heightOkN_calls (x : Int) (h0 : 0 ≤ x) (w : World) : Calls Tryz.prog 99 #[.int .i64 x] w fun e w' => e = .returned (.bool (decide (x ≤ 1000000))) ∧ w' = w := by
  by_cases h2 : x ≤ 1000000
  · have HD : Hid (decide (x ≤ 1000000) = true) := by show decide _ = true; simp [h2]
    generalize decide (x ≤ 1000000) = bb at *
    go_enter Tryz.func99, Tryz.ntmps99
    go_wp2_with fail
    go_ret
    exact ⟨by rw [HD.out]; rfl, rfl⟩
  · have HD : Hid (decide (x ≤ 1000000) = false) := by show decide _ = false; simp [h2]
    generalize decide (x ≤ 1000000) = bb at *
    go_enter Tryz.func99, Tryz.ntmps99
    go_wp2_with fail
    go_ret
    exact ⟨by rw [HD.out]; rfl, rfl⟩

set_option maxHeartbeats 8000000 in
set_option maxRecDepth 100000 in
theorem coinOfText_calls (s : ByteArray) (w : World) :
    Calls Tryz.prog 53 #[.string s] w fun e w' => e = .returned (.tuple #[.agg (coC s).toArray, .bool (decide (coOk s))]) ∧ Below w.heap.size w w' := by
  have k0 : Blk (w.alloc (Obj.cells #[.int .i64 0, .int .i64 0, .bool false] 48)) 48 w.heap.size co0 := blk_new w 48 co0.toArray
  have q0 : Below w.heap.size w (w.alloc (Obj.cells #[.int .i64 0, .int .i64 0, .bool false] 48)) := (Below.refl _ _).alloc (Nat.le_refl _) _
  go_enter Tryz.func53, Tryz.ntmps53
  go_upto_region 1 with fail
  generalize w.alloc (Obj.cells #[.int .i64 0, .int .i64 0, .bool false] 48) = W0 at *
  have HE : Hid (∀ u, Below W0.heap.size W0 u → CoE w u w.heap.size) := fun u b => coin_end k0 q0 (Nat.le_refl _) b
  have hz0 : w.heap.size < W0.heap.size := k0.lt
  clear k0 q0
  by_cases hsz : ¬ s.size = 13
  · have hsz' : ¬ (s.size : Int) = 13 := by omega
    have HN : Hid _ := coC_no (s := s) (fun h => hsz h.1)
    have E := HE.out W0 (Below.refl _ _)
    have HEE : Hid _ := E
    obtain ⟨c0, c1, c2, f0, f1, f2, _⟩ := E
    clear hsz
    have bc := built_co0
    go_wp2_with fail
    refine bodyPost_ret (v := .tuple #[.agg co0.toArray, .bool false]) ?_ rfl ⟨by rw [HN.out.1, HN.out.2], (HEE.out.fin _ _ _).1⟩
    exact results_cellTmp Tryz.results53 _ _ w.heap.size 48 co0.toArray _ rfl (HEE.out.fin _ _ _).2 Tryz.underlying48 rfl sizeCo rfl
  have hsz : s.size = 13 := by omega
  have hsz' : (s.size : Int) = 13 := by omega
  have kc := conv_strD s W0
  have q1 := below_str s W0
  have z1 := size_str s W0
  have R1 := bs_str s W0 (by omega)
  rw [hsz] at kc R1
  generalize grownCap W0 13 0 5 = cc at *
  generalize Go.Lib.bytesWorld W0 5 s = W1 at *
  have hb1 := built_cu (some ⟨W0.heap.size, 0, none⟩) 13 cc
  have q2 : Below W1.heap.size W1 (W1.alloc (.cells #[.slice (some ⟨W0.heap.size, 0, none⟩) 13 cc] 162)) := (Below.refl _ _).alloc (Nat.le_refl _) _
  have kC := blk_new W1 162 #[.slice (some ⟨W0.heap.size, 0, none⟩) 13 cc]
  have cu : Cur (W1.alloc (.cells #[.slice (some ⟨W0.heap.size, 0, none⟩) 13 cc] 162)) W1.heap.size W1.heap.size (nb s) := ⟨some ⟨W0.heap.size, 0, none⟩, 13, cc, ⟨kC, R1.below q2, R1.blt⟩⟩
  have hln : (nb s).length = 13 := by rw [nb_len, hsz]
  have HB2 : Hid _ := q1.trans (q2.mono q1.size)
  have HL : Hid _ := And.intro hsz hln
  have hz1 : W0.heap.size < W1.heap.size := by omega
  have TK := take_yes W1.heap.size W1.heap.size (nb s) 8 _ cu (by omega) (by omega)
  clear hsz q1 q2 kC cu R1 z1 hln
  go_upto_region 4 with fail
  generalize W1.alloc (.cells #[.slice (some ⟨W0.heap.size, 0, none⟩) 13 cc] 162) = W2 at *
  generalize W1.heap.size = g at *
  clear kc hb1
  go_wp2_with fail
  refine TK.mono ?_
  rintro e w3 ⟨b, off, c', rfl, o3, C3, R3, _, _, _⟩
  have N8 := numberOf8_calls _ c' _ w3 R3
  have HY := height_yes g g ((nb s).drop 8) w3 C3 (by rw [List.length_drop, HL.out.2]; omega)
  have H3 : Hid _ := o3
  clear TK o3 C3 R3
  obtain ⟨hn1, hn2⟩ := num8_is (l := (nb s).take 8) (isB_take (nb_isB s) 8) (by rw [List.length_take, HL.out.2]; rfl)
  have e7 : ((nb s).take 8).getD 7 0 = (nb s).getD 7 0 := by simp [List.getD]
  have e77 : ((nb s).take 8).take 7 = (nb s).take 7 := by rw [List.take_take]; rfl
  rw [e7, e77] at hn1
  rw [e7] at hn2
  have hh0 : 0 ≤ low (((nb s).drop 8).take 4) := (low_bd (isB_take (isB_drop (nb_isB s) 8) 4)).1
  have e12 : ((((nb s).drop 8).drop 4).getD 0 0) = (nb s).getD 12 0 := by simp [List.getD]
  have CTL : Hid _ := fun w C => count_yes g g (((nb s).drop 8).drop 4) w C (by rw [List.length_drop, List.length_drop, HL.out.2]; omega)
  rw [e12] at CTL
  have hbd := (nb_isB s) 12
  -- what the text is
  have HYES : Hid (1 ≤ num8 ((nb s).take 8) → num8 ((nb s).take 8) ≤ 1000000000000 → low (((nb s).drop 8).take 4) ≤ 1000000 → (nb s).getD 12 0 ≤ 1 → coC s = [.int .i64 (num8 ((nb s).take 8)), .int .i64 (low (((nb s).drop 8).take 4)), .bool ((nb s).getD 12 0 == 1)] ∧ decide (coOk s) = true) := fun h1 h2 h3 h4 => by
    have h7 : (nb s).getD 7 0 = 0 := by
      by_cases hc : (nb s).getD 7 0 = 0
      · exact hc
      · have := hn2 hc; omega
    have h8 := hn1 h7
    rw [h8]
    exact coC_yes ⟨HL.out.1, h7, h4, by omega, by omega, h3⟩
  have HNO : Hid (¬ (1 ≤ num8 ((nb s).take 8) ∧ num8 ((nb s).take 8) ≤ 1000000000000 ∧ low (((nb s).drop 8).take 4) ≤ 1000000 ∧ (nb s).getD 12 0 ≤ 1) → coC s = co0 ∧ decide (coOk s) = false) := fun h => coC_no (fun hc => h (by
    have h8 := hn1 hc.2.1
    rw [h8]
    exact ⟨hc.2.2.2.1, hc.2.2.2.2.1, hc.2.2.2.2.2, hc.2.2.1⟩))
  clear hn1 hn2 e7 e77 e12
  generalize num8 ((nb s).take 8) = x at *
  generalize low (((nb s).drop 8).take 4) = y at *
  generalize (nb s).getD 12 0 = z at *
  go_wp2_with fail
  refine N8.mono ?_
  rintro e w3' ⟨rfl, hw⟩
  obtain rfl := hw.symm
  clear hw N8
  go_wp2_with fail
  refine HY.mono ?_
  rintro e w4 ⟨rfl, o4, C4⟩
  have CT := CTL.out w4 C4
  have H4 : Hid _ := H3.out.trans o4
  clear HY o4 C4
  go_wp2_with fail
  refine CT.mono ?_
  rintro e w5 ⟨rfl, o5, _⟩
  have B5 : Below W0.heap.size W0 w5 := HB2.out.trans ((H4.out.trans o5).below (by omega) HB2.out.size)
  have E := HE.out w5 B5
  have HEE : Hid _ := E
  obtain ⟨c0, c1, c2, f0, f1, f2, _⟩ := E
  clear CT o5 B5
  have MO := moneyOkN_calls x w5
  have HO := heightOkN_calls y hh0 w5
  have bc := built_co0
  by_cases hx : 1 ≤ x ∧ x ≤ 1000000000000
  · have dx : decide (1 ≤ x ∧ x ≤ 1000000000000) = true := by simp [hx]
    rw [dx] at MO
    by_cases hy : y ≤ 1000000
    · have dy : decide (y ≤ 1000000) = true := by simp [hy]
      rw [dy] at HO
      by_cases hz : z ≤ 1
      · have HN : Hid _ := HYES.out hx.1 hx.2 hy hz
        have hz' : ¬ 1 < z := by omega
        have bd := built_co x y (z == 1)
        clear HYES HNO hx hy hz dx dy
        go_wp2_with fail
        refine MO.mono ?_
        rintro e w6 ⟨rfl, hw⟩
        obtain rfl := hw.symm
        clear hw MO
        go_wp2_with fail
        refine HO.mono ?_
        rintro e w6 ⟨rfl, hw⟩
        obtain rfl := hw.symm
        clear hw HO
        go_wp2_with fail
        refine bodyPost_ret (v := .tuple #[.agg #[.int .i64 x, .int .i64 y, .bool (z == 1)], .bool true]) ?_ rfl ⟨by rw [HN.out.1, HN.out.2], (HEE.out.fin _ _ _).1⟩
        exact results_cellTmp Tryz.results53 _ _ w.heap.size 48 #[.int .i64 x, .int .i64 y, .bool (z == 1)] _ rfl (HEE.out.fin _ _ _).2 Tryz.underlying48 rfl sizeCo rfl
      · have HN : Hid _ := HNO.out (fun h => hz h.2.2.2)
        have hz' : 1 < z := by omega
        clear HYES HNO hx hy hz dx dy
        go_wp2_with fail
        refine MO.mono ?_
        rintro e w6 ⟨rfl, hw⟩
        obtain rfl := hw.symm
        clear hw MO
        go_wp2_with fail
        refine HO.mono ?_
        rintro e w6 ⟨rfl, hw⟩
        obtain rfl := hw.symm
        clear hw HO
        go_wp2_with fail
        refine bodyPost_ret (v := .tuple #[.agg co0.toArray, .bool false]) ?_ rfl ⟨by rw [HN.out.1, HN.out.2], (HEE.out.fin _ _ _).1⟩
        exact results_cellTmp Tryz.results53 _ _ w.heap.size 48 co0.toArray _ rfl (HEE.out.fin _ _ _).2 Tryz.underlying48 rfl sizeCo rfl
    · have HN : Hid _ := HNO.out (fun h => hy h.2.2.1)
      have dy : decide (y ≤ 1000000) = false := by simp [hy]
      rw [dy] at HO
      clear HYES HNO hx hy dx dy
      go_wp2_with fail
      refine MO.mono ?_
      rintro e w6 ⟨rfl, hw⟩
      obtain rfl := hw.symm
      clear hw MO
      go_wp2_with fail
      refine HO.mono ?_
      rintro e w6 ⟨rfl, hw⟩
      obtain rfl := hw.symm
      clear hw HO
      go_wp2_with fail
      refine bodyPost_ret (v := .tuple #[.agg co0.toArray, .bool false]) ?_ rfl ⟨by rw [HN.out.1, HN.out.2], (HEE.out.fin _ _ _).1⟩
      exact results_cellTmp Tryz.results53 _ _ w.heap.size 48 co0.toArray _ rfl (HEE.out.fin _ _ _).2 Tryz.underlying48 rfl sizeCo rfl
  · have HN : Hid _ := HNO.out (fun h => hx ⟨h.1, h.2.1⟩)
    have dx : decide (1 ≤ x ∧ x ≤ 1000000000000) = false := by simp [hx]
    rw [dx] at MO
    clear HYES HNO hx dx HO
    go_wp2_with fail
    refine MO.mono ?_
    rintro e w6 ⟨rfl, hw⟩
    obtain rfl := hw.symm
    clear hw MO
    go_wp2_with fail
    refine bodyPost_ret (v := .tuple #[.agg co0.toArray, .bool false]) ?_ rfl ⟨by rw [HN.out.1, HN.out.2], (HEE.out.fin _ _ _).1⟩
    exact results_cellTmp Tryz.results53 _ _ w.heap.size 48 co0.toArray _ rfl (HEE.out.fin _ _ _).2 Tryz.underlying48 rfl sizeCo rfl
end Go.Proofs.YtnohmedccbogkaaGreatDoor

