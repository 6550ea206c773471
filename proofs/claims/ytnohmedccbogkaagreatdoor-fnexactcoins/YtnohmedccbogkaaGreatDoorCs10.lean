import Derived.Test.YtnohmedccbogkaaGreatDoorCs9
import Derived.Maps.OwnSet
import Derived.Test.YtnohmedccbogkaaGreatDoorCs0
import Derived.Test.YtnohmedccbogkaaGreatDoorCs2
import Derived.Test.YtnohmedccbogkaaGreatDoorCs3
import Derived.Deep.DeepCutAuto
import Derived.Deep.RegionWith
import Derived.Test.YtnohmedccbogkaaGreatDoorCs5
import Derived.Test.YtnohmedccbogkaaGreatDoorCs8
namespace Go.Proofs.YtnohmedccbogkaaGreatDoor
open Go.RowKit
set_option linter.unusedVariables false
theorem keepT_S {t : Nat} {Z : Nat → Prop} {w w' : World} (ho : OnlyS Z w w') (hz : ∀ k, Z k → ∀ cs fr, w.heap[k]? ≠ some (.cells cs t fr)) : KeepT t w w' :=
  ⟨ho.size, fun k cs fr hk => by
    rw [ho.block k (Array.getElem?_eq_some_iff.1 hk).1 (fun e => hz k e cs fr hk)]
    exact hk⟩
theorem Blk.notT {w : World} {t g t2 : Nat} {xs : List Value} (h : Blk w t g xs) (hn : t ≠ t2) : ∀ cs fr, w.heap[g]? ≠ some (.cells cs t2 fr) := by
  intro cs fr e
  unfold Blk at h
  rw [h] at e
  cases e
  exact hn rfl
theorem SetI.putd {w w' : World} {m : Nat} {seen : List Int} {id : Int} {D : DataW Nat} (hD : w.ownsMap Tryz.prog 3 unitElem m seen.length D) (he : ∀ i : Int, Maps.has D (.int .i64 i) = seen.contains i)
    (h : w'.ownsMap Tryz.prog 3 unitElem m (seen.length + 1) (D.put (.int .i64 id) (.agg []))) : SetI w' m (id :: seen) :=
  ⟨_, h, fun i => by
    by_cases hi : i = id
    · subst hi
      rw [Maps.has_put_same hD.isMap (by trivial)]
      simp
    · rw [Maps.has_put_other (by intro e; cases e; exact hi rfl), he]
      simp [hi]⟩
theorem zeroU (w : World) : (zeroValue 236).run Tryz.prog w = .ok (.agg #[]) w := by kernel_rfl
theorem lawI : Maps.Keyed Tryz.prog 3 := Maps.int_keyed Tryz.underlying3
theorem built_pl (id : Int) : Tryz.prog.built 262 [(0, .int .i64 id)] = some #[.int .i64 id] := by kernel_rfl
theorem wkN_eq {P : Pg} {f steps : Nat} {st : St} {x : LSg} {id : Int} {l : List Int} (h1 : pgOk P st id = true) (h : P.kd id ≠ 2) (hl : P.bd id = l) : wkT P (f + 1) (steps : Nat) st x id = ((inP l).bind fun ls => wkK (wkT P f ((steps + 1 : Nat) : Int)) ls true ⟨id :: st.seen, st.tall⟩ x).map fun y => (.node id y.1, y.2.1, y.2.2) := by
  rw [wkT_node h1 h, hl]
  cases inP l with
  | none => rfl
  | some ls => rfl
theorem built_cu (a : Option Addr) (n c : Nat) : Tryz.prog.built 162 [(0, .slice a n c)] = some #[.slice a n c] := by kernel_rfl
theorem built_lf (id : Int) (a : Option Addr) (n c : Nat) : Tryz.prog.built 302 [(0, .agg #[.int .i64 id]), (1, .slice a n c)] = some #[.int .i64 id, .slice a n c] := by kernel_rfl
theorem built_in (id : Int) (a : Option Addr) (n c : Nat) : Tryz.prog.built 265 [(0, .agg #[.int .i64 id]), (1, .slice a n c)] = some #[.int .i64 id, .slice a n c] := by kernel_rfl
theorem Bs.blt {w : World} {a : Option Addr} {n c : Nat} {l : List Int} (h : Bs w a n c l) : ∀ b off, 0 < n → a = some ⟨b, off, none⟩ → b < w.heap.size := by
  intro b off hn e
  obtain ⟨b1, off1, e1, hb, _⟩ := h.at_ hn
  rw [e1] at e
  cases e
  exact hb
variable {S : World → Prop} {X : Nat → Prop} {B0 g m N ty fn : Nat} {src v : Value} {P : Pg} {st : St} {x z : LSg} {w w' : World}
theorem Wk.srcPut (HS : Src P B0 ty fn v S X) (h : Wk S B0 g m N src w st x) (hg : w.grownBy w' (some m)) : S w' := by
  obtain ⟨es, c, hm⟩ := h.set.obj
  have ho := OnlyS.ofGrown hg
  exact HS.keep w w' h.src (ho.below (by have := h.blk.lt; have := h.gB; omega) (fun k e => by cases e; exact h.mB)) (keepT_map hg hm)
theorem Wk.wrote (HS : Src P B0 ty fn v S X) (h : Wk S B0 g m N src w st x) {gc t : Nat} {xs : List Value} (ho : OnlyS (fun k => k = g ∨ k = gc) w w') (hkc : Blk w t gc xs) (ht : t ≠ 5) (hgB : B0 ≤ gc) (hgm : gc ≠ m) (hb : Blk w' 271 g (wkc src m st.tall z)) : Wk S B0 g m N src w' st z :=
  ⟨hb, h.set.same (ho.block m h.set.lt (fun e => by rcases e with e | e; exact h.gm e.symm; exact hgm e.symm)), HS.keep w w' h.src (ho.below (by have := h.blk.lt; have := h.gB; omega) (fun k e => by rcases e with rfl | rfl; exact h.gB; exact hgB)) (keepT_S ho (fun k e => by rcases e with rfl | rfl; exact h.blk.notT (by decide); exact hkc.notT ht)), h.gB, h.mB, h.ok⟩
set_option maxHeartbeats 8000000 in
set_option maxRecDepth 100000 in
theorem node_step (PW : PgW P N) (HS : Src P B0 ty fn v S X) (f : Nat) (HN : NdC P S X B0 g m N (.iface ty v) f) : NdC P S X B0 g m N (.iface ty v) (f + 1) := by
  intro steps id st x w hw hf hs hlo hhi
  have hle := hw.ok.le
  have hNle := PW.le
  have hg := hw.blk.lt
  have hmw := hw.set.lt
  have hgm := hw.gm
  have hgB := hw.gB
  obtain ⟨D, hD, hDe⟩ := hw.set
  have hsee := hDe id
  have hkey : keyOf Tryz.prog 3 (.int .i64 id) = some (.int .i64 id) := Maps.keyOf_int_mk Tryz.underlying3 (by have e1 : IntKind.i64.min = -9223372036854775808 := rfl; have e2 : IntKind.i64.max = 9223372036854775807 := rfl; simp only [Lit.wf, Bool.and_eq_true, decide_eq_true_eq]; omega)
  have c1 : w.cell? ⟨g, 1, none⟩ = some (.map (some m)) := hw.blk.cell 1
  have H0 : Hid (Wk S B0 g m N (.iface ty v) w st x) := hw
  have HDE : Hid _ := hDe
  have q1 : Below w.heap.size w (w.alloc (Obj.cells #[] 236)) := (Below.refl _ _).alloc (Nat.le_refl _) _
  have K1 := hw.below HS q1
  have D1 := hD.alloc (.cells #[] 236)
  have FINP : Hid (∀ w', OnlyS (fun k => X k ∨ k = g ∨ k = m) w w' → pgOk P st id = false → NdP P S X B0 g m N (.iface ty v) (f + 1) steps st x id w (.panicked badE) w') := fun w' ho hq => ⟨ho, Or.inr ⟨wkT_bad hq, rfl⟩⟩
  have HB : Hid (Maps.has D (.int .i64 id) = st.seen.contains id) := hsee
  clear hw hDe hsee
  go_enter Tryz.func184, Tryz.ntmps184
  go_upto_region 2 with (first | (at_lookup; refine wpList_lookup_own_unit _ rfl _ _ 269 rfl 3 236 lawI Tryz.underlying269 (zeroU _) m _ D rfl hD _ _ rfl hkey ?_) | fail)
  change Code.wp _ _ _ _ (w.alloc (Obj.cells #[] 236))
  have HQ1 : Hid _ := q1
  have hz1 : w.heap.size ≤ (w.alloc (Obj.cells #[] 236)).heap.size := q1.size
  generalize w.alloc (Obj.cells #[] 236) = W1 at *
  have hsn : SetI W1 m st.seen := ⟨D, D1, HDE.out⟩
  have s1 : OnlyS (fun k => X k ∨ k = g ∨ k = m) w W1 := OnlyS.ofBelow HQ1.out
  clear hD c1 q1
  generalize Maps.has D (.int .i64 id) = bb at *
  cases bb with
  | true =>
    have hq : pgOk P st id = false := by
      rw [← Bool.not_eq_true, pgOk_iff]; intro h; exact h.2.2.1 (List.contains_iff_mem.1 HB.out.symm)
    clear D1 K1 hsn
    go_wp2_with fail
    all_goals (refine (need_no _).mono ?_; rintro e w' ⟨rfl, rfl⟩; go_wp2; exact ⟨rfl, FINP.out _ s1 hq⟩)
  | false =>
    have hns : id ∉ st.seen := fun h => by have := HB.out; rw [List.contains_iff_mem.2 h] at this; cases this
    by_cases h2 : 2 ≤ id
    · have c1 : W1.cell? ⟨g, 1, none⟩ = some (.map (some m)) := K1.blk.cell 1
      have HK1 : Hid _ := And.intro K1 hsn
      have hsl : st.seen.length < maxLen := by unfold maxLen; omega
      clear K1 hsn
      go_wp2_with fail
      refine (need_yes _).mono ?_
      rintro e w' ⟨rfl, rfl⟩
      go_upto_region 4 with (first | (at_mapUpdate; refine wpList_mapUpdate_own _ rfl _ _ _ 269 rfl 3 236 lawI Tryz.underlying269 (unitElem (H := Nat)) m _ D rfl D1 hsl _ _ _ rfl rfl hkey _ [] unitElem_mk ?_; intro W3 D3 g3) | fail)
      have S3 := HK1.out.1.srcPut HS g3
      have set3 := SetI.putd D1 HDE.out D3
      have s3 : OnlyS (fun k => X k ∨ k = g ∨ k = m) w W3 := s1.transN (OnlyS.ofGrown g3) (fun k _ e => by cases e; exact Or.inr (Or.inr rfl))
      have kW3 := HK1.out.1.blk.onlyS (OnlyS.ofGrown g3) (fun e => by cases e; exact hgm rfl)
      have c0 : W3.cell? ⟨g, 0, none⟩ = some (.iface ty v) := kW3.cell 0
      have PG := HS.page W3 id S3 hlo hhi
      have hmth := HS.meth
      have hent := HS.ent
      have H3 : Hid _ := And.intro set3 (And.intro s3 g3)
      clear set3 s3 g3 kW3 c1 D3 D1 hkey hsl S3 s1
      go_wp2_with fail
      refine PG.mono ?_
      clear PG
      rintro e w4 ⟨s4, o4, ⟨hok, ab, cb, rfl, hbs⟩ | ⟨hno, kk, ab, nb, cb, ad, rfl⟩⟩
      rotate_left
      · have hq : pgOk P st id = false := by
          rw [← Bool.not_eq_true, pgOk_iff, hno]; intro h; exact absurd h.1 (by decide)
        have s4' : OnlyS (fun k => X k ∨ k = g ∨ k = m) w w4 := H3.out.2.1.transN o4 (fun k _ e => Or.inl e)
        go_wp2_with fail
        refine (need_no _).mono ?_; rintro e w' ⟨rfl, rfl⟩; go_wp2; exact ⟨rfl, FINP.out _ s4' hq⟩
      · obtain ⟨hi0, hiN⟩ := PW.ok id hok
        have K3 : Wk S B0 g m N (.iface ty v) W3 ⟨id :: st.seen, st.tall⟩ x := HK1.out.1.see HS (by omega) hiN hns H3.out.1 H3.out.2.2
        have K4 := K3.ofPage s4 o4 HS.low
        have s4' : OnlyS (fun k => X k ∨ k = g ∨ k = m) w w4 := H3.out.2.1.transN o4 (fun k _ e => Or.inl e)
        have hbl := PW.len id
        have c2 : w4.cell? ⟨g, 2, none⟩ = some (.int .i64 st.tall) := K4.blk.cell 2
        have f2 := K4.blk.free 2
        have hz4 := s4'.size
        generalize hl : P.bd id = l at hbs hbl ⊢
        generalize hkd : P.kd id = kd at ⊢
        have HL : Hid (P.bd id = l) := hl
        have HKD : Hid (P.kd id = kd) := hkd
        have HK4 : Hid _ := And.intro K4 (And.intro hbs s4')
        clear hl hkd K4 hbs s4' K3 HK1 H3 o4 s4
        by_cases hk2 : kd = 2
        · subst hk2
          have pOK : Hid (pgOk P st id = true) := pgOk_iff.2 ⟨hok, h2, hns, Or.inl HKD.out⟩
          by_cases ht1 : st.tall < 0
          · have HT : Hid (st.tall < 0 ∨ st.tall = (steps : Nat)) := Or.inl ht1
            go_wp2_with fail
            refine (need_yes _).mono ?_
            rintro e w' ⟨rfl, hw⟩
            obtain rfl := hw.symm
            clear hw
            go_wp2_with fail
            refine (need_yes _).mono ?_
            rintro e w' ⟨rfl, hw⟩
            obtain rfl := hw.symm
            clear hw
            have o5 := onlyB_setCell w4 g 2 (.int .i64 (steps : Nat))
            have K5 : Wk S B0 g m N (.iface ty v) (w4.setCell ⟨g, 2, none⟩ (.int .i64 (steps : Nat))) ⟨id :: st.seen, (steps : Nat)⟩ x := HK4.out.1.put HS o5 (HK4.out.1.blk.set 2 _) rfl
            have t5 := HK4.out.2.1.keep (keepT_only o5 HK4.out.1.blk (by decide))
            have s5 := HK4.out.2.2.transN (OnlyS.ofB o5) (fun k _ e => Or.inr (Or.inl e))
            have hz5 := s5.size
            have H5 : Hid _ := And.intro K5 (And.intro t5 s5)
            clear K5 t5 s5 o5 HK4
            go_upto_region 9 with fail
            generalize w4.setCell ⟨g, 2, none⟩ (.int .i64 (steps : Nat)) = W5 at *
            clear c2 f2
            have q6 : Below W5.heap.size W5 (W5.alloc (.cells #[.slice ab l.length cb] 162)) := (Below.refl _ _).alloc (Nat.le_refl _) _
            have K6 := H5.out.1.below HS q6
            have kC := blk_new W5 162 #[.slice ab l.length cb]
            have cur6 : Cur (W5.alloc (.cells #[.slice ab l.length cb] 162)) W5.heap.size W5.heap.size l := ⟨ab, l.length, cb, ⟨kC, H5.out.2.1.bs.below q6, H5.out.2.1.bs.blt⟩⟩
            have WE := went_calls g W5.heap.size W5.heap.size l (.iface ty v) m (steps : Nat) x _ K6.blk cur6 q6.size hbl (by omega)
            have hb1 := built_pl id
            have hb2 := built_cu ab l.length cb
            have hb3 := built_lf id
            have H6 : Hid _ := And.intro K6 (And.intro kC q6)
            clear K6 kC cur6 q6
            go_wp2_with fail
            refine WE.mono ?_
            clear WE
            rintro e w7 ⟨o7, ⟨es, ae, ce, z, hle7, rfl, hrow, hblk7⟩ | ⟨hno, rfl⟩⟩
            rotate_left
            · have s7 : OnlyS (fun k => X k ∨ k = g ∨ k = m) w w7 := (H5.out.2.2.trans (OnlyS.ofBelow H6.out.2.2)).transN o7 (fun k hk e => by rcases e with e | e; exact Or.inr (Or.inl e); omega)
              have FIN : Hid (NdP P S X B0 g m N (.iface ty v) (f + 1) steps st x id w (.panicked badE) w7) := ⟨s7, Or.inr ⟨by rw [wkT_leaf pOK.out HKD.out HT.out, HL.out, hno]; rfl, rfl⟩⟩
              clear o7 hno s7
              go_wp2
              exact ⟨rfl, FIN.out⟩
            have K7 := H6.out.1.wrote HS o7 H6.out.2.1 (by decide) (by omega) (by omega) hblk7
            have s7 : OnlyS (fun k => X k ∨ k = g ∨ k = m) w w7 := (H5.out.2.2.trans (OnlyS.ofBelow H6.out.2.2)).transN o7 (fun k hk e => by rcases e with e | e; exact Or.inr (Or.inl e); omega)
            have q8 : Below w7.heap.size w7 (w7.alloc (.cells #[.int .i64 id, .slice ae es.length ce] 302)) := (Below.refl _ _).alloc (Nat.le_refl _) _
            have k8 := blk_new w7 302 #[.int .i64 id, .slice ae es.length ce]
            have hz7 := s7.size
            have hrl := orow_rb_lt hrow
            have FIN : Hid (NdP P S X B0 g m N (.iface ty v) (f + 1) steps st x id w (.returned (lfI w7.heap.size)) (w7.alloc (.cells #[.int .i64 id, .slice ae es.length ce] 302))) := by
              refine ⟨s7.trans (OnlyS.ofBelow q8), Or.inl ⟨.leaf id es, ⟨id :: st.seen, (steps : Nat)⟩, z, w7.heap.size :: rb ae, _, _, by rw [wkT_leaf pOK.out HKD.out HT.out, HL.out, hle7]; rfl, rfl, ?_, ?_, ?_, K7.below HS q8, by simp⟩⟩
              · rw [IRep]
                exact ⟨w7.heap.size, ae, ce, rfl, rfl, k8, (hrow.below q8).mono (Nat.zero_le _)⟩
              · rw [List.nodup_cons]
                exact ⟨fun hm => by have := (hrl _ hm).2; omega, by cases ae <;> simp [rb]⟩
              · intro k hk
                rcases List.mem_cons.1 hk with rfl | hk
                · omega
                · have h1 := (hrl k hk).1
                  have h2 := H5.out.2.2.size
                  have h3 := H6.out.2.2.size
                  omega
            clear K7 s7 q8 k8 hrl o7 hrow hblk7 hle7
            go_wp2_with fail
            go_ret
            exact FIN.out
          · by_cases ht2 : st.tall = (steps : Nat)
            · have HT : Hid (st.tall < 0 ∨ st.tall = (steps : Nat)) := Or.inr ht2
              go_wp2_with fail
              refine (need_yes _).mono ?_
              rintro e w' ⟨rfl, hw⟩
              obtain rfl := hw.symm
              clear hw
              go_wp2_with fail
              refine (need_yes _).mono ?_
              rintro e w' ⟨rfl, hw⟩
              obtain rfl := hw.symm
              clear hw
              have o5 := onlyB_setCell w4 g 2 (.int .i64 (steps : Nat))
              have K5 : Wk S B0 g m N (.iface ty v) (w4.setCell ⟨g, 2, none⟩ (.int .i64 (steps : Nat))) ⟨id :: st.seen, (steps : Nat)⟩ x := HK4.out.1.put HS o5 (HK4.out.1.blk.set 2 _) rfl
              have t5 := HK4.out.2.1.keep (keepT_only o5 HK4.out.1.blk (by decide))
              have s5 := HK4.out.2.2.transN (OnlyS.ofB o5) (fun k _ e => Or.inr (Or.inl e))
              have hz5 := s5.size
              have H5 : Hid _ := And.intro K5 (And.intro t5 s5)
              clear K5 t5 s5 o5 HK4
              go_upto_region 9 with fail
              generalize w4.setCell ⟨g, 2, none⟩ (.int .i64 (steps : Nat)) = W5 at *
              clear c2 f2
              have q6 : Below W5.heap.size W5 (W5.alloc (.cells #[.slice ab l.length cb] 162)) := (Below.refl _ _).alloc (Nat.le_refl _) _
              have K6 := H5.out.1.below HS q6
              have kC := blk_new W5 162 #[.slice ab l.length cb]
              have cur6 : Cur (W5.alloc (.cells #[.slice ab l.length cb] 162)) W5.heap.size W5.heap.size l := ⟨ab, l.length, cb, ⟨kC, H5.out.2.1.bs.below q6, H5.out.2.1.bs.blt⟩⟩
              have WE := went_calls g W5.heap.size W5.heap.size l (.iface ty v) m (steps : Nat) x _ K6.blk cur6 q6.size hbl (by omega)
              have hb1 := built_pl id
              have hb2 := built_cu ab l.length cb
              have hb3 := built_lf id
              have H6 : Hid _ := And.intro K6 (And.intro kC q6)
              clear K6 kC cur6 q6
              go_wp2_with fail
              refine WE.mono ?_
              clear WE
              rintro e w7 ⟨o7, ⟨es, ae, ce, z, hle7, rfl, hrow, hblk7⟩ | ⟨hno, rfl⟩⟩
              rotate_left
              · have s7 : OnlyS (fun k => X k ∨ k = g ∨ k = m) w w7 := (H5.out.2.2.trans (OnlyS.ofBelow H6.out.2.2)).transN o7 (fun k hk e => by rcases e with e | e; exact Or.inr (Or.inl e); omega)
                have FIN : Hid (NdP P S X B0 g m N (.iface ty v) (f + 1) steps st x id w (.panicked badE) w7) := ⟨s7, Or.inr ⟨by rw [wkT_leaf pOK.out HKD.out HT.out, HL.out, hno]; rfl, rfl⟩⟩
                clear o7 hno s7
                go_wp2
                exact ⟨rfl, FIN.out⟩
              have K7 := H6.out.1.wrote HS o7 H6.out.2.1 (by decide) (by omega) (by omega) hblk7
              have s7 : OnlyS (fun k => X k ∨ k = g ∨ k = m) w w7 := (H5.out.2.2.trans (OnlyS.ofBelow H6.out.2.2)).transN o7 (fun k hk e => by rcases e with e | e; exact Or.inr (Or.inl e); omega)
              have q8 : Below w7.heap.size w7 (w7.alloc (.cells #[.int .i64 id, .slice ae es.length ce] 302)) := (Below.refl _ _).alloc (Nat.le_refl _) _
              have k8 := blk_new w7 302 #[.int .i64 id, .slice ae es.length ce]
              have hz7 := s7.size
              have hrl := orow_rb_lt hrow
              have FIN : Hid (NdP P S X B0 g m N (.iface ty v) (f + 1) steps st x id w (.returned (lfI w7.heap.size)) (w7.alloc (.cells #[.int .i64 id, .slice ae es.length ce] 302))) := by
                refine ⟨s7.trans (OnlyS.ofBelow q8), Or.inl ⟨.leaf id es, ⟨id :: st.seen, (steps : Nat)⟩, z, w7.heap.size :: rb ae, _, _, by rw [wkT_leaf pOK.out HKD.out HT.out, HL.out, hle7]; rfl, rfl, ?_, ?_, ?_, K7.below HS q8, by simp⟩⟩
                · rw [IRep]
                  exact ⟨w7.heap.size, ae, ce, rfl, rfl, k8, (hrow.below q8).mono (Nat.zero_le _)⟩
                · rw [List.nodup_cons]
                  exact ⟨fun hm => by have := (hrl _ hm).2; omega, by cases ae <;> simp [rb]⟩
                · intro k hk
                  rcases List.mem_cons.1 hk with rfl | hk
                  · omega
                  · have h1 := (hrl k hk).1
                    have h2 := H5.out.2.2.size
                    have h3 := H6.out.2.2.size
                    omega
              clear K7 s7 q8 k8 hrl o7 hrow hblk7 hle7
              go_wp2_with fail
              go_ret
              exact FIN.out
            · have hte : (st.tall == (steps : Nat)) = false := by simp [ht2]
              have FIN : Hid (NdP P S X B0 g m N (.iface ty v) (f + 1) steps st x id w (.panicked badE) w4) := ⟨HK4.out.2.2, Or.inr ⟨wkT_tall HKD.out (by omega), rfl⟩⟩
              go_wp2_with fail
              refine (need_yes _).mono ?_; rintro e w' ⟨rfl, hw⟩; obtain rfl := hw.symm; clear hw
              go_wp2_with fail
              rw [show decide (st.tall < 0) = false by simp [ht1]]
              refine (need_no _).mono ?_; rintro e w' ⟨rfl, hw⟩; obtain rfl := hw.symm; clear hw; go_wp2; exact ⟨rfl, FIN.out⟩
        · have hk2' : (kd == 2) = false := by simp [hk2]
          by_cases hk3 : kd = 3
          · subst hk3
            have pOK : Hid (pgOk P st id = true) := pgOk_iff.2 ⟨hok, h2, hns, Or.inr HKD.out⟩
            have q6 : Below w4.heap.size w4 (w4.alloc (.cells #[.slice ab l.length cb] 162)) := (Below.refl _ _).alloc (Nat.le_refl _) _
            have K6 := HK4.out.1.below HS q6
            have kC := blk_new w4 162 #[.slice ab l.length cb]
            have cur6 : Cur (w4.alloc (.cells #[.slice ab l.length cb] 162)) w4.heap.size w4.heap.size l := ⟨ab, l.length, cb, ⟨kC, HK4.out.2.1.bs.below q6, HK4.out.2.1.bs.blt⟩⟩
            have KC : Calls Tryz.prog 208 #[.pointer (some ⟨g, 0, none⟩), .pointer (some ⟨w4.heap.size, 0, none⟩), .int .i64 ((steps : Int) + 1)] (w4.alloc (.cells #[.slice ab l.length cb] 162)) (KdP P S X B0 g m N (.iface ty v) f (steps + 1) l ⟨id :: st.seen, st.tall⟩ x w4.heap.size (w4.alloc (.cells #[.slice ab l.length cb] 162))) :=
              kids_calls P B0 ty fn v S X HS g m N (.iface ty v) f HN (steps + 1) l w4.heap.size w4.heap.size ⟨id :: st.seen, st.tall⟩ x _ K6 cur6 q6.size hbl (by omega) (by omega) (by omega) (by simp only [List.length_cons]; omega) (by simp only [List.length_cons]; omega)
            have hb1 := built_pl id
            have hb2 := built_cu ab l.length cb
            have hb3 := built_in id
            have HQ6 : Hid _ := q6
            have hsb : (steps : Int) + 1 ≤ 1025 := by omega
            have z6 : Hid ((w4.alloc (.cells #[.slice ab l.length cb] 162)).heap.size = w4.heap.size + 1) := by show (w4.alloc (.cells #[.slice ab l.length cb] 162)).heap.size = w4.heap.size + 1; simp
            clear K6 kC cur6 q6 c2 f2
            go_wp2_with fail
            refine (need_yes _).mono ?_
            rintro e w' ⟨rfl, hw⟩
            obtain rfl := hw.symm
            clear hw
            go_wp2_with fail
            refine KC.mono ?_
            clear KC
            rintro e w7 ⟨o7, ⟨t, st7, z, F, us, ak, ck, hkk, rfl, hrow, hrep, hnd, hhi, K7, hsn⟩ | ⟨hno, rfl⟩⟩
            rotate_left
            · have s7 : OnlyS (fun k => X k ∨ k = g ∨ k = m) w w7 := (HK4.out.2.2.trans (OnlyS.ofBelow HQ6.out)).transN o7 (fun k hk e => by rcases e with e | e | e | e; exact Or.inl e; exact Or.inr (Or.inl e); exact Or.inr (Or.inr e); omega)
              have FIN : Hid (NdP P S X B0 g m N (.iface ty v) (f + 1) steps st x id w (.panicked badE) w7) := ⟨s7, Or.inr ⟨(wkN_eq pOK.out (by rw [HKD.out]; decide) HL.out).trans (by rw [hno]; rfl), rfl⟩⟩
              clear o7 hno s7
              go_wp2
              exact ⟨rfl, FIN.out⟩
            have s7 : OnlyS (fun k => X k ∨ k = g ∨ k = m) w w7 := (HK4.out.2.2.trans (OnlyS.ofBelow HQ6.out)).transN o7 (fun k hk e => by rcases e with e | e | e | e; exact Or.inl e; exact Or.inr (Or.inl e); exact Or.inr (Or.inr e); omega)
            have q8 : Below w7.heap.size w7 (w7.alloc (.cells #[.int .i64 id, .slice ak us.length ck] 265)) := (Below.refl _ _).alloc (Nat.le_refl _) _
            have k8 := blk_new w7 265 #[.int .i64 id, .slice ak us.length ck]
            have hz7 := s7.size
            have hrl := orow_rb_lt hrow
            have FIN : Hid (NdP P S X B0 g m N (.iface ty v) (f + 1) steps st x id w (.returned (inI w7.heap.size)) (w7.alloc (.cells #[.int .i64 id, .slice ak us.length ck] 265))) := by
              refine ⟨s7.trans (OnlyS.ofBelow q8), Or.inl ⟨.node id t, st7, z, w7.heap.size :: (rb ak ++ F), _, _, (wkN_eq pOK.out (by rw [HKD.out]; decide) HL.out).trans (by rw [hkk]; rfl), rfl, ?_, ?_, ?_, K7.below HS q8, by have h9 := hsn; simp only [List.length_cons] at h9; omega⟩⟩
              · rw [IRep]
                exact ⟨w7.heap.size, ak, ck, us, F, rfl, rfl, k8, (hrow.below q8).mono (Nat.zero_le _), hrep.below q8⟩
              · rw [List.nodup_cons]
                refine ⟨fun hm => ?_, hnd⟩
                rcases List.mem_append.1 hm with hm | hm
                · have := (hrl _ hm).2; omega
                · have := hrep.lt _ hm; omega
              · intro k hk
                have h9 := z6.out
                rcases List.mem_cons.1 hk with rfl | hk
                · omega
                · rcases List.mem_append.1 hk with hk | hk
                  · have h1 := (hrl k hk).1
                    omega
                  · have h1 := hhi k hk
                    omega
            clear K7 s7 q8 k8 hrl o7 hrow hkk hrep hnd hhi hsn
            go_wp2_with fail
            go_ret
            exact FIN.out
          · have hk3' : (kd == 3) = false := by simp [hk3]
            have hq : pgOk P st id = false := by
              rw [← Bool.not_eq_true, pgOk_iff, HKD.out]; intro h; rcases h.2.2.2 with h | h; exact hk2 h; exact hk3 h
            have FIN : Hid (NdP P S X B0 g m N (.iface ty v) (f + 1) steps st x id w (.panicked badE) w4) := FINP.out _ HK4.out.2.2 hq
            go_wp2_with fail
            refine (need_no _).mono ?_; rintro e w' ⟨rfl, hw⟩; obtain rfl := hw.symm; clear hw; go_wp2; exact ⟨rfl, FIN.out⟩
    · have hq : pgOk P st id = false := by
        rw [← Bool.not_eq_true, pgOk_iff]; intro h; exact h2 h.2.1
      clear D1 K1 hsn
      go_wp2_with fail
      refine (need_no _).mono ?_; rintro e w' ⟨rfl, rfl⟩; go_wp2; exact ⟨rfl, FINP.out _ s1 hq⟩
theorem node_calls (PW : PgW P N) (HS : Src P B0 ty fn v S X) : ∀ f : Nat, NdC P S X B0 g m N (.iface ty v) f
  | 0 => fun steps id st x w hw hf _ _ _ => absurd hf (by have := hw.ok.le; omega)
  | f + 1 => node_step PW HS f (node_calls PW HS f)
end Go.Proofs.YtnohmedccbogkaaGreatDoor

namespace Go.Proofs.YtnohmedccbogkaaGreatDoor
open Go.RowKit
open scoped Classical
set_option linter.unusedVariables false
def coOk (s : ByteArray) : Prop := s.size = 13 ∧ (nb s).getD 7 0 = 0 ∧ (nb s).getD 12 0 ≤ 1 ∧ 1 ≤ low ((nb s).take 7) ∧ low ((nb s).take 7) ≤ 1000000000000 ∧ low (((nb s).drop 8).take 4) ≤ 1000000
def co0 : List Value := [.int .i64 0, .int .i64 0, .bool false]
noncomputable def coC (s : ByteArray) : List Value := if coOk s then [.int .i64 (low ((nb s).take 7)), .int .i64 (low (((nb s).drop 8).take 4)), .bool ((nb s).getD 12 0 == 1)] else co0
theorem coC_yes {s : ByteArray} (h : coOk s) : coC s = [.int .i64 (low ((nb s).take 7)), .int .i64 (low (((nb s).drop 8).take 4)), .bool ((nb s).getD 12 0 == 1)] ∧ decide (coOk s) = true := ⟨if_pos h, decide_eq_true h⟩
theorem coC_no {s : ByteArray} (h : ¬ coOk s) : coC s = co0 ∧ decide (coOk s) = false := ⟨if_neg h, decide_eq_false h⟩
theorem coC_one (s : ByteArray) : ∃ a b c, coC s = [.int .i64 a, .int .i64 b, .bool c] := by
  unfold coC
  split
  · exact ⟨_, _, _, rfl⟩
  · exact ⟨0, 0, false, rfl⟩
theorem sizeCo : (Tryz.prog.info? 48).map (·.size) = some 3 := by kernel_rfl
theorem built_co0 : Tryz.prog.built 48 [] = some #[.int .i64 0, .int .i64 0, .bool false] := by kernel_rfl
theorem built_co (a b : Int) (c : Bool) : Tryz.prog.built 48 [(0, .int .i64 a), (1, .int .i64 b), (2, .bool c)] = some #[.int .i64 a, .int .i64 b, .bool c] := by kernel_rfl
def coS (u : World) (g : Nat) (x y z : Value) : World := ((u.setCell ⟨g, 0, none⟩ x).setCell ⟨g, 1, none⟩ y).setCell ⟨g, 2, none⟩ z
structure CoE (w u : World) (g : Nat) : Prop where
  c0 : u.cell? ⟨g, 0, none⟩ = some (.int .i64 0)
  c1 : u.cell? ⟨g, 1, none⟩ = some (.int .i64 0)
  c2 : u.cell? ⟨g, 2, none⟩ = some (.bool false)
  f0 : u.frozen? ⟨g, 0, none⟩ = false
  f1 : u.frozen? ⟨g, 1, none⟩ = false
  f2 : u.frozen? ⟨g, 2, none⟩ = false
  fin : ∀ x y z, Below w.heap.size w (coS u g x y z) ∧ Blk (coS u g x y z) 48 g [x, y, z]
theorem coin_end {w W0 u : World} {g : Nat} (k0 : Blk W0 48 g co0) (q0 : Below w.heap.size w W0) (hg : w.heap.size ≤ g) (b : Below W0.heap.size W0 u) : CoE w u g := by
  have kR := k0.below b
  have bu := q0.trans (b.mono q0.size)
  refine ⟨kR.cell 0, kR.cell 1, kR.cell 2, kR.free 0, kR.free 1, kR.free 2, fun x y z => ⟨?_, ?_⟩⟩
  · exact ((bu.setCell (p := ⟨g, 0, none⟩) hg x).setCell (p := ⟨g, 1, none⟩) hg y).setCell (p := ⟨g, 2, none⟩) hg z
  · exact ((kR.set 0 x).set 1 y).set 2 z
set_option maxHeartbeats 1000000 in
theorem moneyOkN_calls (x : Int) (w : World) : Calls Tryz.prog 98 #[.int .i64 x] w fun e w' => e = .returned (.bool (decide (1 ≤ x ∧ x ≤ 1000000000000))) ∧ w' = w := by
  by_cases h1 : 1 ≤ x
  · by_cases h2 : x ≤ 1000000000000
    · have HD : Hid (decide (1 ≤ x ∧ x ≤ 1000000000000) = true) := by show decide _ = true; simp [h1, h2]
      generalize decide (1 ≤ x ∧ x ≤ 1000000000000) = bb at *
      go_enter Tryz.func98, Tryz.ntmps98
      go_wp2_with fail
      go_ret
      exact ⟨by rw [HD.out]; rfl, rfl⟩
    · have HD : Hid (decide (1 ≤ x ∧ x ≤ 1000000000000) = false) := by show decide _ = false; simp [h2]
      generalize decide (1 ≤ x ∧ x ≤ 1000000000000) = bb at *
      go_enter Tryz.func98, Tryz.ntmps98
      go_wp2_with fail
      go_ret
      exact ⟨by rw [HD.out]; rfl, rfl⟩
  · have HD : Hid (decide (1 ≤ x ∧ x ≤ 1000000000000) = false) := by show decide _ = false; simp [h1]
    generalize decide (1 ≤ x ∧ x ≤ 1000000000000) = bb at *
    go_enter Tryz.func98, Tryz.ntmps98
    go_wp2_with fail
    go_ret
    exact ⟨by rw [HD.out]; rfl, rfl⟩
set_option maxHeartbeats 1000000 in
theorem heightOkN_calls (x : Int) (h0 : 0 ≤ x) (w : World) : Calls Tryz.prog 99 #[.int .i64 x] w fun e w' => e = .returned (.bool (decide (x ≤ 1000000))) ∧ w' = w := by
  by_cases h2 : x ≤ 1000000
  · have HD : Hid (decide (x ≤ 1000000) = true) := by show decide _ = true; simp [h2]
    generalize decide (x ≤ 1000000) = bb at *
    go_enter Tryz.func99, Tryz.ntmps99
    go_wp2_with fail
    go_ret
    exact ⟨by rw [HD.out]; rfl, rfl⟩
  · have HD : Hid (decide (x ≤ 1000000) = false) := by show decide _ = false; simp [h2]
    generalize decide (x ≤ 1000000) = bb at *
    go_enter Tryz.func99, Tryz.ntmps99
    go_wp2_with fail
    go_ret
    exact ⟨by rw [HD.out]; rfl, rfl⟩
set_option maxHeartbeats 8000000 in
set_option maxRecDepth 100000 in
theorem coinOfText_calls (s : ByteArray) (w : World) :
    Calls Tryz.prog 53 #[.string s] w fun e w' => e = .returned (.tuple #[.agg (coC s).toArray, .bool (decide (coOk s))]) ∧ Below w.heap.size w w' := by
  have k0 : Blk (w.alloc (Obj.cells #[.int .i64 0, .int .i64 0, .bool false] 48)) 48 w.heap.size co0 := blk_new w 48 co0.toArray
  have q0 : Below w.heap.size w (w.alloc (Obj.cells #[.int .i64 0, .int .i64 0, .bool false] 48)) := (Below.refl _ _).alloc (Nat.le_refl _) _
  go_enter Tryz.func53, Tryz.ntmps53
  go_upto_region 1 with fail
  generalize w.alloc (Obj.cells #[.int .i64 0, .int .i64 0, .bool false] 48) = W0 at *
  have HE : Hid (∀ u, Below W0.heap.size W0 u → CoE w u w.heap.size) := fun u b => coin_end k0 q0 (Nat.le_refl _) b
  have hz0 : w.heap.size < W0.heap.size := k0.lt
  clear k0 q0
  by_cases hsz : ¬ s.size = 13
  · have hsz' : ¬ (s.size : Int) = 13 := by omega
    have HN : Hid _ := coC_no (s := s) (fun h => hsz h.1)
    have E := HE.out W0 (Below.refl _ _)
    have HEE : Hid _ := E
    obtain ⟨c0, c1, c2, f0, f1, f2, _⟩ := E
    clear hsz
    have bc := built_co0
    go_wp2_with fail
    refine bodyPost_ret (v := .tuple #[.agg co0.toArray, .bool false]) ?_ rfl ⟨by rw [HN.out.1, HN.out.2], (HEE.out.fin _ _ _).1⟩
    exact results_cellTmp Tryz.results53 _ _ w.heap.size 48 co0.toArray _ rfl (HEE.out.fin _ _ _).2 Tryz.underlying48 rfl sizeCo rfl
  have hsz : s.size = 13 := by omega
  have hsz' : (s.size : Int) = 13 := by omega
  have kc := conv_strD s W0
  have q1 := below_str s W0
  have z1 := size_str s W0
  have R1 := bs_str s W0 (by omega)
  rw [hsz] at kc R1
  generalize grownCap W0 13 0 5 = cc at *
  generalize Go.Lib.bytesWorld W0 5 s = W1 at *
  have hb1 := built_cu (some ⟨W0.heap.size, 0, none⟩) 13 cc
  have q2 : Below W1.heap.size W1 (W1.alloc (.cells #[.slice (some ⟨W0.heap.size, 0, none⟩) 13 cc] 162)) := (Below.refl _ _).alloc (Nat.le_refl _) _
  have kC := blk_new W1 162 #[.slice (some ⟨W0.heap.size, 0, none⟩) 13 cc]
  have cu : Cur (W1.alloc (.cells #[.slice (some ⟨W0.heap.size, 0, none⟩) 13 cc] 162)) W1.heap.size W1.heap.size (nb s) := ⟨some ⟨W0.heap.size, 0, none⟩, 13, cc, ⟨kC, R1.below q2, R1.blt⟩⟩
  have hln : (nb s).length = 13 := by rw [nb_len, hsz]
  have HB2 : Hid _ := q1.trans (q2.mono q1.size)
  have HL : Hid _ := And.intro hsz hln
  have hz1 : W0.heap.size < W1.heap.size := by omega
  have TK := take_yes W1.heap.size W1.heap.size (nb s) 8 _ cu (by omega) (by omega)
  clear hsz q1 q2 kC cu R1 z1 hln
  go_upto_region 4 with fail
  generalize W1.alloc (.cells #[.slice (some ⟨W0.heap.size, 0, none⟩) 13 cc] 162) = W2 at *
  generalize W1.heap.size = g at *
  clear kc hb1
  go_wp2_with fail
  refine TK.mono ?_
  rintro e w3 ⟨b, off, c', rfl, o3, C3, R3, _, _, _⟩
  have N8 := numberOf8_calls _ c' _ w3 R3
  have HY := height_yes g g ((nb s).drop 8) w3 C3 (by rw [List.length_drop, HL.out.2]; omega)
  have H3 : Hid _ := o3
  clear TK o3 C3 R3
  obtain ⟨hn1, hn2⟩ := num8_is (l := (nb s).take 8) (isB_take (nb_isB s) 8) (by rw [List.length_take, HL.out.2]; rfl)
  have e7 : ((nb s).take 8).getD 7 0 = (nb s).getD 7 0 := by simp [List.getD]
  have e77 : ((nb s).take 8).take 7 = (nb s).take 7 := by rw [List.take_take]; rfl
  rw [e7, e77] at hn1
  rw [e7] at hn2
  have hh0 : 0 ≤ low (((nb s).drop 8).take 4) := (low_bd (isB_take (isB_drop (nb_isB s) 8) 4)).1
  have e12 : ((((nb s).drop 8).drop 4).getD 0 0) = (nb s).getD 12 0 := by simp [List.getD]
  have CTL : Hid _ := fun w C => count_yes g g (((nb s).drop 8).drop 4) w C (by rw [List.length_drop, List.length_drop, HL.out.2]; omega)
  rw [e12] at CTL
  have hbd := (nb_isB s) 12
  -- what the text is
  have HYES : Hid (1 ≤ num8 ((nb s).take 8) → num8 ((nb s).take 8) ≤ 1000000000000 → low (((nb s).drop 8).take 4) ≤ 1000000 → (nb s).getD 12 0 ≤ 1 → coC s = [.int .i64 (num8 ((nb s).take 8)), .int .i64 (low (((nb s).drop 8).take 4)), .bool ((nb s).getD 12 0 == 1)] ∧ decide (coOk s) = true) := fun h1 h2 h3 h4 => by
    have h7 : (nb s).getD 7 0 = 0 := by
      by_cases hc : (nb s).getD 7 0 = 0
      · exact hc
      · have := hn2 hc; omega
    have h8 := hn1 h7
    rw [h8]
    exact coC_yes ⟨HL.out.1, h7, h4, by omega, by omega, h3⟩
  have HNO : Hid (¬ (1 ≤ num8 ((nb s).take 8) ∧ num8 ((nb s).take 8) ≤ 1000000000000 ∧ low (((nb s).drop 8).take 4) ≤ 1000000 ∧ (nb s).getD 12 0 ≤ 1) → coC s = co0 ∧ decide (coOk s) = false) := fun h => coC_no (fun hc => h (by
    have h8 := hn1 hc.2.1
    rw [h8]
    exact ⟨hc.2.2.2.1, hc.2.2.2.2.1, hc.2.2.2.2.2, hc.2.2.1⟩))
  clear hn1 hn2 e7 e77 e12
  generalize num8 ((nb s).take 8) = x at *
  generalize low (((nb s).drop 8).take 4) = y at *
  generalize (nb s).getD 12 0 = z at *
  go_wp2_with fail
  refine N8.mono ?_
  rintro e w3' ⟨rfl, hw⟩
  obtain rfl := hw.symm
  clear hw N8
  go_wp2_with fail
  refine HY.mono ?_
  rintro e w4 ⟨rfl, o4, C4⟩
  have CT := CTL.out w4 C4
  have H4 : Hid _ := H3.out.trans o4
  clear HY o4 C4
  go_wp2_with fail
  refine CT.mono ?_
  rintro e w5 ⟨rfl, o5, _⟩
  have B5 : Below W0.heap.size W0 w5 := HB2.out.trans ((H4.out.trans o5).below (by omega) HB2.out.size)
  have E := HE.out w5 B5
  have HEE : Hid _ := E
  obtain ⟨c0, c1, c2, f0, f1, f2, _⟩ := E
  clear CT o5 B5
  have MO := moneyOkN_calls x w5
  have HO := heightOkN_calls y hh0 w5
  have bc := built_co0
  by_cases hx : 1 ≤ x ∧ x ≤ 1000000000000
  · have dx : decide (1 ≤ x ∧ x ≤ 1000000000000) = true := by simp [hx]
    rw [dx] at MO
    by_cases hy : y ≤ 1000000
    · have dy : decide (y ≤ 1000000) = true := by simp [hy]
      rw [dy] at HO
      by_cases hz : z ≤ 1
      · have HN : Hid _ := HYES.out hx.1 hx.2 hy hz
        have hz' : ¬ 1 < z := by omega
        have bd := built_co x y (z == 1)
        clear HYES HNO hx hy hz dx dy
        go_wp2_with fail
        refine MO.mono ?_
        rintro e w6 ⟨rfl, hw⟩
        obtain rfl := hw.symm
        clear hw MO
        go_wp2_with fail
        refine HO.mono ?_
        rintro e w6 ⟨rfl, hw⟩
        obtain rfl := hw.symm
        clear hw HO
        go_wp2_with fail
        refine bodyPost_ret (v := .tuple #[.agg #[.int .i64 x, .int .i64 y, .bool (z == 1)], .bool true]) ?_ rfl ⟨by rw [HN.out.1, HN.out.2], (HEE.out.fin _ _ _).1⟩
        exact results_cellTmp Tryz.results53 _ _ w.heap.size 48 #[.int .i64 x, .int .i64 y, .bool (z == 1)] _ rfl (HEE.out.fin _ _ _).2 Tryz.underlying48 rfl sizeCo rfl
      · have HN : Hid _ := HNO.out (fun h => hz h.2.2.2)
        have hz' : 1 < z := by omega
        clear HYES HNO hx hy hz dx dy
        go_wp2_with fail
        refine MO.mono ?_
        rintro e w6 ⟨rfl, hw⟩
        obtain rfl := hw.symm
        clear hw MO
        go_wp2_with fail
        refine HO.mono ?_
        rintro e w6 ⟨rfl, hw⟩
        obtain rfl := hw.symm
        clear hw HO
        go_wp2_with fail
        refine bodyPost_ret (v := .tuple #[.agg co0.toArray, .bool false]) ?_ rfl ⟨by rw [HN.out.1, HN.out.2], (HEE.out.fin _ _ _).1⟩
        exact results_cellTmp Tryz.results53 _ _ w.heap.size 48 co0.toArray _ rfl (HEE.out.fin _ _ _).2 Tryz.underlying48 rfl sizeCo rfl
    · have HN : Hid _ := HNO.out (fun h => hy h.2.2.1)
      have dy : decide (y ≤ 1000000) = false := by simp [hy]
      rw [dy] at HO
      clear HYES HNO hx hy dx dy
      go_wp2_with fail
      refine MO.mono ?_
      rintro e w6 ⟨rfl, hw⟩
      obtain rfl := hw.symm
      clear hw MO
      go_wp2_with fail
      refine HO.mono ?_
      rintro e w6 ⟨rfl, hw⟩
      obtain rfl := hw.symm
      clear hw HO
      go_wp2_with fail
      refine bodyPost_ret (v := .tuple #[.agg co0.toArray, .bool false]) ?_ rfl ⟨by rw [HN.out.1, HN.out.2], (HEE.out.fin _ _ _).1⟩
      exact results_cellTmp Tryz.results53 _ _ w.heap.size 48 co0.toArray _ rfl (HEE.out.fin _ _ _).2 Tryz.underlying48 rfl sizeCo rfl
  · have HN : Hid _ := HNO.out (fun h => hx ⟨h.1, h.2.1⟩)
    have dx : decide (1 ≤ x ∧ x ≤ 1000000000000) = false := by simp [hx]
    rw [dx] at MO
    clear HYES HNO hx dx HO
    go_wp2_with fail
    refine MO.mono ?_
    rintro e w6 ⟨rfl, hw⟩
    obtain rfl := hw.symm
    clear hw MO
    go_wp2_with fail
    refine bodyPost_ret (v := .tuple #[.agg co0.toArray, .bool false]) ?_ rfl ⟨by rw [HN.out.1, HN.out.2], (HEE.out.fin _ _ _).1⟩
    exact results_cellTmp Tryz.results53 _ _ w.heap.size 48 co0.toArray _ rfl (HEE.out.fin _ _ _).2 Tryz.underlying48 rfl sizeCo rfl
end Go.Proofs.YtnohmedccbogkaaGreatDoor

namespace Go.Proofs.YtnohmedccbogkaaGreatDoor
open Go.RowKit
set_option linter.unusedVariables false
theorem wpAnyD_three {P : Program} {ops : Array Oper} {Q : Exit → Act → World → Prop} {md : Region.Mode} {S : World → Prop} {D : Nat → Bool} (i j k : Nat) {oi oj ok : Oper} {fuel : Nat} {listed : Array Bool} {a : Act} {w : World} (hr : Region.ready md ops listed = [i, j, k]) (hi : ops[i]? = some oi) (hj : ops[j]? = some oj) (hk : ops[k]? = some ok)
    (h1 : ∀ K' : Act → World → Prop, Shut (∀ a w, (D i = false → S w) → wpAnyD P md ops Q S D fuel (listed.setIfInBounds i true) a w → K' a w) → if Region.wanted oi (yielded ops a.tmps) = true then Oper.wp P oi a w K' Q else K' (a.put oi.dst undef) w)
    (h2 : ∀ K' : Act → World → Prop, Shut (∀ a w, (D j = false → S w) → wpAnyD P md ops Q S D fuel (listed.setIfInBounds j true) a w → K' a w) → if Region.wanted oj (yielded ops a.tmps) = true then Oper.wp P oj a w K' Q else K' (a.put oj.dst undef) w)
    (h3 : ∀ K' : Act → World → Prop, Shut (∀ a w, (D k = false → S w) → wpAnyD P md ops Q S D fuel (listed.setIfInBounds k true) a w → K' a w) → if Region.wanted ok (yielded ops a.tmps) = true then Oper.wp P ok a w K' Q else K' (a.put ok.dst undef) w) : wpAnyD P md ops Q S D (fuel + 1) listed a w :=
  ⟨fun h0 => (by rw [hr] at h0; cases h0), fun x hx => by
    rw [hr] at hx
    have hx2 : x = i ∨ x = j ∨ x = k := by simpa using hx
    rcases hx2 with rfl | rfl | rfl
    · exact wpOp_step hi (fun K' hK => h1 K' (fun a w hS hW => hK a w ⟨hS, hW⟩))
    · exact wpOp_step hj (fun K' hK => h2 K' (fun a w hS hW => hK a w ⟨hS, hW⟩))
    · exact wpOp_step hk (fun K' hK => h3 K' (fun a w hS hW => hK a w ⟨hS, hW⟩))⟩
end Go.Proofs.YtnohmedccbogkaaGreatDoor

namespace Go.Proofs.YtnohmedccbogkaaGreatDoor
open Go.RowKit
set_option linter.unusedVariables false
def entsT : Tr → List (ByteArray × ByteArray)
  | .leaf _ es => es
  | .node _ ks => entsT ks
  | .nil => []
  | .cons _ t ks => entsT t ++ entsT ks
def entsL (L : List (ByteArray × Tr)) : List (ByteArray × ByteArray) := L.flatMap (fun x => entsT x.2)
theorem ents_klist : ∀ ks : Tr, isT ks = false → ∀ b, full ks b → entsT ks = entsL (klist ks)
  | .leaf _ _, h, _, _ => by simp [isT] at h
  | .node _ _, h, _, _ => by simp [isT] at h
  | .nil, _, _, _ => by simp [entsT, entsL, klist]
  | .cons s t ks, _, b, hf => by
    rw [full] at hf
    rw [entsT, klist, ents_klist ks hf.2.2.1 false hf.2.2.2.2]
    simp [entsL]
theorem entsL_take (L : List (ByteArray × Tr)) (i : Nat) (hi : i < L.length) : entsL (L.take (i + 1)) = entsL (L.take i) ++ entsT (L.getD i t0).2 := by
  unfold entsL
  rw [List.take_succ_eq_append_getElem hi, List.flatMap_append]
  simp [List.getD, List.getElem?_eq_getElem hi]
theorem entsL_le (L : List (ByteArray × Tr)) (i : Nat) : (entsL (L.take i)).length ≤ (entsL L).length := by
  have e : entsL L = entsL (L.take i) ++ entsL (L.drop i) := by
    unfold entsL
    rw [← List.flatMap_append, List.take_append_drop]
  rw [e, List.length_append]
  omega
theorem TSt.keepE {B0 g sb N : Nat} {rt : Int} {ns : List NdK} {nv : Nat → NdV} {na : Option Addr} {nc : Nat} {seen : List Int} {tall : Int} {bad : Bool} {w w' : World} (h : TSt B0 g sb N rt w ns nv na nc seen tall bad) (hk : ∀ t, t ≠ 93 → KeepT t w w') : TSt B0 g sb N rt w' ns nv na nc seen tall bad :=
  ⟨h.blk.keepT (hk _ (by decide)), h.mks.keep (hk _ (by decide)), ownsRow_keepT h.nodes (hk _ (by decide)), fun i hi => (h.each i hi).keep (hk _ (by decide)) (hk _ (by decide)), Nat.le_trans h.gB (hk 0 (by decide)).size, h.ok⟩
structure EtQ (B : Nat) (w : World) (a : Option Addr) (xs ys : List (ByteArray × ByteArray)) (a' : Option Addr) (c' : Nat) (w' : World) : Prop where
  own : ORow 93 2 B w' a' (xs ++ ys).length c' (enF (xs ++ ys))
  fr : OnlyS (fun k => k ∈ rb a) w w'
  low : ∀ k ∈ rb a', k < w.heap.size → k ∈ rb a
  keep : ∀ t, t ≠ 93 → KeepT t w w'
theorem EtQ.refl {B : Nat} {w : World} {a : Option Addr} {xs : List (ByteArray × ByteArray)} {c : Nat} (h : ORow 93 2 B w a xs.length c (enF xs)) : EtQ B w a xs [] a c w := ⟨by rw [List.append_nil]; exact h, OnlyS.refl _ _, fun k hk _ => hk, fun _ _ => KeepT.refl _ _⟩
theorem EtQ.below {B : Nat} {w wr wr' : World} {a a' : Option Addr} {xs ys : List (ByteArray × ByteArray)} {c' : Nat} (h : EtQ B w a xs ys a' c' wr) (hb : Below wr.heap.size wr wr') : EtQ B w a xs ys a' c' wr' := ⟨h.own.below hb, h.fr.trans (OnlyS.ofBelow hb), h.low, fun t ht => (h.keep t ht).trans (keepT_below hb)⟩
theorem EtQ.trans {B : Nat} {w wr w' : World} {a a' a2 : Option Addr} {xs ys zs : List (ByteArray × ByteArray)} {c' c2 : Nat} (h : EtQ B w a xs ys a' c' wr) (h2 : EtQ B wr a' (xs ++ ys) zs a2 c2 w') : EtQ B w a xs (ys ++ zs) a2 c2 w' :=
  ⟨by rw [← List.append_assoc]; exact h2.own, h.fr.transN h2.fr (fun k hk e => h.low k e hk), fun k hk hkl => h.low k (h2.low k hk (by have := h.fr.size; omega)) hkl, fun t ht => (h.keep t ht).trans (h2.keep t ht)⟩
theorem EtQ.one {B : Nat} {w wr w' : World} {a a' : Option Addr} {xs ys : List (ByteArray × ByteArray)} {c' g c8 : Nat} {x : ByteArray × ByteArray} {cs : Array Value} (h : EtQ B w a xs ys a' c' wr) (ho : ORow 93 2 B w' (some ⟨g, 0, none⟩) ((xs ++ ys).length + 1) c8 (updR (enF (xs ++ ys)) (xs ++ ys).length [.string x.1, .string x.2]))
    (hg : (wr.alloc (.cells cs 93)).grownBy w' (Value.slice a' (xs ++ ys).length c').ownBlock) (hat : a' = some ⟨g, 0, none⟩ ∨ wr.heap.size < g) : EtQ B w a xs (ys ++ [x]) (some ⟨g, 0, none⟩) c8 w' := by
  have q : Below wr.heap.size wr (wr.alloc (.cells cs 93)) := (Below.refl _ _).alloc (Nat.le_refl _) _
  have hz := h.fr.size
  refine ⟨?_, (h.fr.trans (OnlyS.ofBelow q)).transN (OnlyS.ofGrown hg) (fun k hk e => h.low k (rb_own k e) hk), ?_, fun t ht => (h.keep t ht).trans ((keepT_below q).trans (keepT_grown (own_below h.own q) hg (Ne.symm ht)))⟩
  · rw [← List.append_assoc, List.length_append]
    exact ho.congr (fun j hj => enF_app _ x j hj)
  · intro k hkr hkl
    simp [rb] at hkr
    subst hkr
    rcases hat with e | e
    · exact h.low _ (by rw [e]; simp [rb]) hkl
    · omega
def EtC (B0 g sb N : Nat) (rt : Int) (ns : List NdK) (nv : Nat → NdV) (na : Option Addr) (nc : Nat) (seen : List Int) (tall : Int) (bad : Bool) (t : Tr) : Prop := ∀ (p : Int) (xs : List (ByteArray × ByteArray)) (a : Option Addr) (c B : Nat) (w : World), TSt B0 g sb N rt w ns nv na nc seen tall bad → ORow 93 2 B w a xs.length c (enF xs) → B ≤ w.heap.size → Rep ns t true [p] [] → xs.length + (entsT t).length ≤ 1048576 →
    Calls Tryz.prog 146 #[.pointer (some ⟨g, 0, none⟩), .int .i64 p, .slice a xs.length c] w fun e w' => ∃ a' c', e = .returned (.slice a' (xs ++ entsT t).length c') ∧ EtQ B w a xs (entsT t) a' c' w'
theorem run_bsEn (x y : ByteArray) (w : World) : (Instr.buildSlice 77 1 #[(0, .agg #[.string x, .string y])]).run Tryz.prog w = .ok (.slice (some ⟨w.heap.size, 0, none⟩) 1 1) (w.alloc (.cells [.string x, .string y].toArray 93)) := run_bsRow elEn (by omega) (.agg #[.string x, .string y]) [.string x, .string y] rfl rfl w
set_option maxHeartbeats 4000000 in
set_option maxRecDepth 100000 in
theorem et_step {B0 g sb N : Nat} {rt : Int} {ns : List NdK} {nv : Nat → NdV} {na : Option Addr} {nc : Nat} {seen : List Int} {tall : Int} {bad : Bool} (hnl : ns.length ≤ 1048576) (q : Nat) (K : NdK) (hK : ns[q]? = some K) (es : List (ByteArray × ByteArray)) (hke : K.keys = es.map (·.1)) (hve : K.vals = es.map (·.2)) (L : List (ByteArray × Tr)) (hkl : K.kids.length = L.length) (hLl : L.length ≤ 1048576)
    (hrep : ∀ m, m < L.length → Rep ns (L.getD m t0).2 true [K.kids.getD m 0] []) (IH : ∀ m, m < L.length → EtC B0 g sb N rt ns nv na nc seen tall bad (L.getD m t0).2) (xs : List (ByteArray × ByteArray)) (a : Option Addr) (c B : Nat) (w : World) (st : TSt B0 g sb N rt w ns nv na nc seen tall bad) (ho : ORow 93 2 B w a xs.length c (enF xs)) (hB : B ≤ w.heap.size) (hlen : xs.length + (es.length + (entsL L).length) ≤ 1048576) :
    Calls Tryz.prog 146 #[.pointer (some ⟨g, 0, none⟩), .int .i64 (q : Nat), .slice a xs.length c] w fun e w' => ∃ a' c', e = .returned (.slice a' (xs ++ (es ++ entsL L)).length c') ∧ EtQ B w a xs (es ++ entsL L) a' c' w' := by
  obtain ⟨b, rfl, hcell, hO, hql⟩ := nodes_cells st hK
  have cT0 : w.cell? ⟨g, 0, none⟩ = some (.slice (some ⟨b, 0, none⟩) ns.length nc) := st.blk.cell 0
  have q0 : Below w.heap.size w (w.alloc (Obj.cells (ndc (nv q) K).toArray 257)) := (Below.refl _ _).alloc (Nat.le_refl _) _
  have kN := blk_new w 257 (ndc (nv q) K).toArray
  have sN : (Tryz.prog.info? 257).map (·.size) = some (ndc (nv q) K).length := sizeNd
  have hq0 : ¬ (q : Int) < 0 := by omega
  have hQ0 : EtQ B w a xs (es.take 0) a c (w.alloc (Obj.cells (ndc (nv q) K).toArray 257)) := (EtQ.refl ho).below q0
  go_enter Tryz.func146, Tryz.ntmps146
  go_upto_region 4 with (first | (refine wpList_load_at rfl 257 _ rfl b (q * 6) rfl (ndc (nv q) K) _ hcell Tryz.underlying257 rfl sN ?_) | (refine wpList_storeNew rfl 257 _ _ rfl w (ndc nilV nd0).toArray (ndc (nv q) K).toArray 257 rfl rfl sizeNd rfl (ndc_all _ _) ?_))
  change Code.wp _ _ _ _ (w.alloc (Obj.cells (ndc (nv q) K).toArray 257))
  have O1 := hO.below q0
  have st1 := st.belowT q0
  have z1 : (w.alloc (Obj.cells (ndc (nv q) K).toArray 257)).heap.size = w.heap.size + 1 := by simp
  generalize w.alloc (Obj.cells (ndc (nv q) K).toArray 257) = W at *
  have kN' : Blk W 257 w.heap.size (ndc (nv q) K) := kN
  have HW : Hid _ := And.intro kN' (And.intro O1 (And.intro st1 (And.intro q0 hQ0)))
  have HIH : Hid _ := And.intro IH (And.intro hrep (And.intro hke hve))
  have hz1 : w.heap.size < W.heap.size := by omega
  have hel : K.keys.length = es.length := by rw [hke]; simp
  have hvl : K.vals.length = es.length := by rw [hve]; simp
  have hes : es.length ≤ 1048576 := by omega
  have HKE : Hid (∀ j, j < es.length → (os K.keys).getD j undef = .string (es.getD j e0).1 ∧ (os K.vals).getD j undef = .string (es.getD j e0).2) := fun j hj => by
    rw [hke, hve]
    simp [os, List.getD, hj]
  have HEL : Hid (K.keys.length = es.length ∧ K.vals.length = es.length) := ⟨hel, hvl⟩
  clear kN kN' O1 hO q0 hcell cT0 st hK sN st1 IH hrep hke hve ho hQ0 z1 hel hvl
  go_wp2_with fail
  go_loopw [2, 8] (fun s2 s8 wr => ∃ (j : Nat) (a' : Option Addr) (c' : Nat), s2 = .slice a' (xs ++ es.take j).length c' ∧ s8 = .int .i64 (j : Nat) ∧ j ≤ es.length ∧ EtQ B w a xs (es.take j) a' c' wr ∧ (∀ t, t ≠ 93 → KeepT t W wr)) (fun _ s _ => es.length - (intOf s).toNat)
  case atStart => exact ⟨0, a, c, by simp, rfl, Nat.zero_le _, HW.out.2.2.2.2, fun _ _ => KeepT.refl _ _⟩
  case round =>
    obtain ⟨j, a', c', rfl, rfl, hj, hQ, hkp⟩ := hrel
    obtain ⟨wR, hwX⟩ : ∃ wX, wX = wr := ⟨_, rfl⟩
    subst hwX
    have kR := HW.out.1.keepT (hkp _ (by decide))
    have OR := HW.out.2.1.keep (hkp _ (by decide)) (hkp _ (by decide))
    have c2 : wR.cell? ⟨w.heap.size, 2, none⟩ = some (.slice (nv q).ka es.length (nv q).kc) := by rw [← HEL.out.1]; exact kR.cell 2
    have c3 : wR.cell? ⟨w.heap.size, 3, none⟩ = some (.slice (nv q).va es.length (nv q).vc) := by rw [← HEL.out.2]; exact kR.cell 3
    have HQ : Hid _ := And.intro hQ hkp
    have hzR : w.heap.size ≤ wR.heap.size := hQ.fr.size
    by_cases hlt : j < es.length
    · have hlt' : (j : Int) < (es.length : Int) := by omega
      have ok := OR.keys
      have ov := OR.vals
      rw [HEL.out.1] at ok
      rw [HEL.out.2] at ov
      obtain ⟨kb, hka, _, _, _, hkc⟩ := ok.at_ (by omega)
      obtain ⟨vb, hva, _, _, _, hvc⟩ := ov.at_ (by omega)
      rw [hka] at c2
      rw [hva] at c3
      have ck := (hkc j hlt).trans (congrArg some (HKE.out j hlt).1)
      have cv := (hvc j hlt).trans (congrArg some (HKE.out j hlt).2)
      have HTK : Hid (es.take (j + 1) = es.take j ++ [es.getD j e0]) := by
        show es.take (j + 1) = es.take j ++ [es.getD j e0]
        rw [List.take_succ_eq_append_getElem hlt]
        simp [List.getD, hlt]
      have hrow := hQ.own
      have hxl : (xs ++ es.take j).length ≤ 1048576 := by rw [List.length_append, List.length_take]; omega
      generalize es.getD j e0 = en at *
      obtain ⟨ky, vl⟩ := en
      have HXJ : Hid _ := Eq.refl (xs ++ es.take j)
      generalize hxj : xs ++ es.take j = ej at hrow hxl ⊢
      have HXJ : Hid (xs ++ es.take j = ej) := hxj
      clear hxj hkc hvc ok ov OR kR hQ hkp hka hva
      go_upto_region 7 with fail
      have HCS : Hid (∀ u, Below wR.heap.size wR u → u.cell? ⟨w.heap.size, 2, none⟩ = some (.slice (some ⟨kb, 0, none⟩) es.length (nv q).kc) ∧ u.cell? ⟨w.heap.size, 3, none⟩ = some (.slice (some ⟨vb, 0, none⟩) es.length (nv q).vc) ∧ u.cell? ⟨kb, j, none⟩ = some (.string ky) ∧ u.cell? ⟨vb, j, none⟩ = some (.string vl)) := fun u hu =>
        ⟨(hu.cell (World.block_lt_of_cell? wR _ c2)).trans c2, (hu.cell (World.block_lt_of_cell? wR _ c3)).trans c3, (hu.cell (World.block_lt_of_cell? wR _ ck)).trans ck, (hu.cell (World.block_lt_of_cell? wR _ cv)).trans cv⟩
      have dd : Below wR.heap.size wR wR.drew := ⟨rfl, rfl, rfl, Nat.le_refl _, fun _ _ => rfl⟩
      have cs := HCS.out _ dd
      have hrowD : ORow 93 2 B wR.drew a' ej.length c' (enF ej) := ORow.below hrow dd
      refine wp_regionD (fun u => u.cell? ⟨w.heap.size, 2, none⟩ = some (.slice (some ⟨kb, 0, none⟩) es.length (nv q).kc) ∧ u.cell? ⟨w.heap.size, 3, none⟩ = some (.slice (some ⟨vb, 0, none⟩) es.length (nv q).vc) ∧ u.cell? ⟨kb, j, none⟩ = some (.string ky) ∧ u.cell? ⟨vb, j, none⟩ = some (.string vl)) (fun k => decide (13 ≤ k)) (by kernel_rfl) ?_
      refine wpAnyD_takeT 0 27 (v := ?vva0) rfl rfl (by kernel_rfl) (by kernel_rfl) (by kernel_rfl) (by kernel_rfl) (fun _ _ _ h => h) (Or.inl ⟨by rfl, ?hya0⟩) cs ?resta0
      case hya0 => (intro w hSw; (try dsimp only at hSw); go_simp; try with_reducible rfl)
      simp only [Act.put, List.setIfInBounds_toArray, List.set_cons_zero, List.set_cons_succ]
      refine wpAnyD_takeT 1 28 (v := ?vva1) rfl rfl (by kernel_rfl) (by kernel_rfl) (by kernel_rfl) (by kernel_rfl) (fun _ _ _ h => h) (Or.inl ⟨by rfl, ?hya1⟩) cs ?resta1
      case hya1 => (intro w hSw; (try dsimp only at hSw); go_simp; try with_reducible rfl)
      simp only [Act.put, List.setIfInBounds_toArray, List.set_cons_zero, List.set_cons_succ]
      refine wpAnyD_takeT 2 29 (v := ?vva2) rfl rfl (by kernel_rfl) (by kernel_rfl) (by kernel_rfl) (by kernel_rfl) (fun _ _ _ h => h) (Or.inl ⟨by rfl, ?hya2⟩) cs ?resta2
      case hya2 => (intro w hSw; (try dsimp only at hSw); go_simp; try with_reducible rfl)
      simp only [Act.put, List.setIfInBounds_toArray, List.set_cons_zero, List.set_cons_succ]
      refine wpAnyD_takeT 3 30 (v := ?vva3) rfl rfl (by kernel_rfl) (by kernel_rfl) (by kernel_rfl) (by kernel_rfl) (fun _ _ _ h => h) (Or.inl ⟨by rfl, ?hya3⟩) cs ?resta3
      case hya3 => (intro w hSw; (try dsimp only at hSw); go_simp; try with_reducible rfl)
      simp only [Act.put, List.setIfInBounds_toArray, List.set_cons_zero, List.set_cons_succ]
      refine wpAnyD_takeT 4 31 (v := ?vva4) rfl rfl (by kernel_rfl) (by kernel_rfl) (by kernel_rfl) (by kernel_rfl) (fun _ _ _ h => h) (Or.inl ⟨by rfl, ?hya4⟩) cs ?resta4
      case hya4 => (intro w hSw; (try dsimp only at hSw); go_simp; try with_reducible rfl)
      simp only [Act.put, List.setIfInBounds_toArray, List.set_cons_zero, List.set_cons_succ]
      refine wpAnyD_takeT 5 32 (v := ?vva5) rfl rfl (by kernel_rfl) (by kernel_rfl) (by kernel_rfl) (by kernel_rfl) (fun _ _ _ h => h) (Or.inl ⟨by rfl, ?hya5⟩) cs ?resta5
      case hya5 => (intro w hSw; (try dsimp only at hSw); go_simp; try with_reducible rfl)
      simp only [Act.put, List.setIfInBounds_toArray, List.set_cons_zero, List.set_cons_succ]
      refine wpAnyD_takeT 6 33 (v := ?vva6) rfl rfl (by kernel_rfl) (by kernel_rfl) (by kernel_rfl) (by kernel_rfl) (fun _ _ _ h => h) (Or.inl ⟨by rfl, ?hya6⟩) cs ?resta6
      case hya6 => (intro w hSw; (try dsimp only at hSw); go_simp; try with_reducible rfl)
      simp only [Act.put, List.setIfInBounds_toArray, List.set_cons_zero, List.set_cons_succ]
      refine wpAnyD_takeT 7 34 (v := ?vva7) rfl rfl (by kernel_rfl) (by kernel_rfl) (by kernel_rfl) (by kernel_rfl) (fun _ _ _ h => h) (Or.inl ⟨by rfl, ?hya7⟩) cs ?resta7
      case hya7 => (intro w hSw; (try dsimp only at hSw); go_simp; try with_reducible rfl)
      simp only [Act.put, List.setIfInBounds_toArray, List.set_cons_zero, List.set_cons_succ]
      refine wpAnyD_takeT 8 35 (v := ?vva8) rfl rfl (by kernel_rfl) (by kernel_rfl) (by kernel_rfl) (by kernel_rfl) (fun _ _ _ h => h) (Or.inl ⟨by rfl, ?hya8⟩) cs ?resta8
      case hya8 => (intro w hSw; (try dsimp only at hSw); go_simp; try with_reducible rfl)
      simp only [Act.put, List.setIfInBounds_toArray, List.set_cons_zero, List.set_cons_succ]
      refine wpAnyD_takeT 9 36 (v := ?vva9) rfl rfl (by kernel_rfl) (by kernel_rfl) (by kernel_rfl) (by kernel_rfl) (fun _ _ _ h => h) (Or.inl ⟨by rfl, ?hya9⟩) cs ?resta9
      case hya9 => (intro w hSw; (try dsimp only at hSw); go_simp; try with_reducible rfl)
      simp only [Act.put, List.setIfInBounds_toArray, List.set_cons_zero, List.set_cons_succ]
      refine wpAnyD_takeT 10 37 (v := ?vva10) rfl rfl (by kernel_rfl) (by kernel_rfl) (by kernel_rfl) (by kernel_rfl) (fun _ _ _ h => h) (Or.inl ⟨by rfl, ?hya10⟩) cs ?resta10
      case hya10 => (intro w hSw; (try dsimp only at hSw); go_simp; try with_reducible rfl)
      simp only [Act.put, List.setIfInBounds_toArray, List.set_cons_zero, List.set_cons_succ]
      refine wpAnyD_one 11 (by kernel_rfl) rfl (fun KK hK => ?_)
      rw [if_pos (show Region.wanted _ _ = true from rfl)]
      refine wp_build_eq1 _ _ rfl (cs := #[.string ky, .string vl]) ?bk ?_
      case bk =>
        simp only [List.map_toArray, List.map_cons, List.map_nil]
        exact built_en ky vl
      refine hK.out _ _ (fun _ => cs) ?_
      clear hK KK
      refine wpAnyD_one 12 (by kernel_rfl) rfl (fun KK hK => ?_)
      rw [if_pos (show Region.wanted _ _ = true from rfl)]
      refine wp_buildSlice_eq1 _ _ _ rfl (v := .slice (some ⟨wR.drew.heap.size, 0, none⟩) 1 1) (w' := wR.drew.alloc (Obj.cells [.string ky, .string vl].toArray 93)) ?bs ?_
      case bs =>
        simp only [List.map_toArray, List.map_cons, List.map_nil]
        exact run_bsEn ky vl wR.drew
      refine hK.out _ _ (fun _ => HCS.out _ (dd.alloc dd.size _)) ?_
      clear hK KK
      refine wpAnyD_one 13 (by kernel_rfl) rfl (fun KK hK => ?_)
      rw [if_pos (show Region.wanted _ _ = true from rfl)]
      refine wp_appRowL _ _ elEn rfl B a' ej.length c' (enF ej) rfl hrowD [.string ky, .string vl] rfl (by simp [Value.oneCell']) rfl hxl (by omega) (by have := dd.size; omega) ?_
      intro b8 c8 w8 o8 bl8 g8 at8
      refine hK.out _ _ (fun h => absurd h (by decide)) ?_
      clear hK KK
      have Q8 : EtQ B w a xs (es.take (j + 1)) (some ⟨b8, 0, none⟩) c8 w8 := by
        rw [HTK.out]
        refine EtQ.one (x := (ky, vl)) (cs := [.string ky, .string vl].toArray) (HQ.out.1.below dd) ?_ ?_ at8
        · rw [HXJ.out]; exact o8
        · rw [HXJ.out]; exact g8
      have k8 : ∀ t, t ≠ 93 → KeepT t W w8 := fun t ht => (HQ.out.2 t ht).trans ((keepT_below dd).trans ((keepT_below ((Below.refl _ _).alloc (Nat.le_refl _) _)).trans (keepT_grown (own_below hrowD ((Below.refl _ _).alloc (Nat.le_refl _) _)) g8 (Ne.symm ht))))
      have FIN : Hid _ := And.intro Q8 k8
      have hl8 : Hid ((xs ++ es.take (j + 1)).length = ej.length + 1) := by
        show (xs ++ es.take (j + 1)).length = ej.length + 1
        rw [HTK.out, ← List.append_assoc, List.length_append, HXJ.out]; rfl
      clear Q8 k8 o8 bl8 g8 at8 hrow hrowD cs dd HCS
      refine wpAnyD_one 14 (by kernel_rfl) rfl (fun KK hK => ?_)
      rw [if_pos (show Region.wanted _ _ = true from rfl)]
      go_wp2_with fail
      refine hK.out _ _ (fun h => absurd h (by decide)) ?_
      clear hK KK
      refine wpAnyD_done (by kernel_rfl) ?_ _
      go_wp2_with fail
      go_roundw
      case rel => exact ⟨j + 1, _, _, by rw [hl8.out], by go_num, by omega, FIN.out.1, FIN.out.2⟩
      case measure => simp [intOf]; omega
    · have hje : j = es.length := by omega
      have hnl : ¬ (j : Int) < (es.length : Int) := by omega
      have hTk : es.take j = es := by rw [hje, List.take_length]
      rw [hTk] at hQ ⊢
      have HQ1 : Hid _ := And.intro hQ hkp
      have hxe : (xs ++ es).length ≤ 1048576 := by rw [List.length_append]; omega
      have HLE : Hid ((xs ++ es).length = xs.length + es.length) := by show (xs ++ es).length = xs.length + es.length; rw [List.length_append]
      generalize hxs : xs ++ es = xe at hxe ⊢
      have HXE : Hid (xs ++ es = xe) := hxs
      clear hxs hje hTk hQ hkp kR OR c3 HQ
      go_wp2_with fail
      go_loopw [2, 9] (fun s2 s9 wr => ∃ (j : Nat) (a2 : Option Addr) (c4 : Nat), s2 = .slice a2 (xs ++ (es ++ entsL (L.take j))).length c4 ∧ s9 = .int .i64 (j : Nat) ∧ j ≤ K.kids.length ∧ EtQ B w a xs (es ++ entsL (L.take j)) a2 c4 wr ∧ (∀ t, t ≠ 93 → KeepT t W wr)) (fun _ s _ => K.kids.length - (intOf s).toNat)
      case atStart => exact ⟨0, a', c', by rw [show entsL (L.take 0) = [] from rfl, List.append_nil, HXE.out], rfl, Nat.zero_le _, by rw [show entsL (L.take 0) = [] from rfl, List.append_nil]; exact HQ1.out.1, HQ1.out.2⟩
      case round =>
        obtain ⟨m, a2, c4, rfl, rfl, hm, hQ, hkp⟩ := hrel
        obtain ⟨wI, hwX⟩ : ∃ wX, wX = wr := ⟨_, rfl⟩
        subst hwX
        have kI := HW.out.1.keepT (hkp _ (by decide))
        have OI := HW.out.2.1.keep (hkp _ (by decide)) (hkp _ (by decide))
        have stI := HW.out.2.2.1.keepE hkp
        have c4' : wI.cell? ⟨w.heap.size, 4, none⟩ = some (.slice (nv q).da K.kids.length (nv q).dc) := kI.cell 4
        have HQ2 : Hid _ := And.intro hQ hkp
        have hzI : w.heap.size ≤ wI.heap.size := hQ.fr.size
        have hkl2 : K.kids.length ≤ 1048576 := by omega
        by_cases hlt : m < K.kids.length
        · have hlt' : (m : Int) < (K.kids.length : Int) := by omega
          have o1 := OI.kids
          obtain ⟨kb, hda, _, _, _, hkc⟩ := o1.at_ (by omega)
          rw [hda] at c4'
          have ck := (hkc m hlt).trans (congrArg some (on_get K.kids m hlt))
          have htk := entsL_take L m (by omega)
          have hle1 := entsL_le L (m + 1)
          rw [htk, List.length_append] at hle1
          have RC := HIH.out.1 m (by omega) (K.kids.getD m 0) (xs ++ (es ++ entsL (L.take m))) a2 c4 B wI stI hQ.own (by omega) (HIH.out.2.1 m (by omega)) (by rw [List.length_append, List.length_append]; omega)
          have HTK : Hid _ := htk
          generalize K.kids.getD m 0 = kp at *
          have hll : (xs ++ (es ++ entsL (L.take m))).length ≤ 1048576 := by rw [List.length_append, List.length_append]; omega
          have HRC : Hid (∀ e w', (∃ a' c', e = Ending.returned (.slice a' (xs ++ (es ++ entsL (L.take m)) ++ entsT (L.getD m t0).2).length c') ∧ EtQ B wI a2 (xs ++ (es ++ entsL (L.take m))) (entsT (L.getD m t0).2) a' c' w') → ∃ a' c', e = Ending.returned (.slice a' (xs ++ (es ++ entsL (L.take (m + 1)))).length c') ∧ EtQ B w a xs (es ++ entsL (L.take (m + 1))) a' c' w' ∧ (∀ t, t ≠ 93 → KeepT t W w')) := fun e w' h => by
            obtain ⟨a3, c5, he, h3⟩ := h
            refine ⟨a3, c5, ?_, ?_, fun t ht => (hkp t ht).trans (h3.keep t ht)⟩
            · rw [he, htk, ← List.append_assoc, ← List.append_assoc, ← List.append_assoc]
            · have := hQ.trans h3
              rwa [List.append_assoc, ← htk] at this
          replace RC := RC.mono HRC.out
          generalize hxj : xs ++ (es ++ entsL (L.take m)) = ej at RC hll ⊢
          clear hkc o1 OI stI hda kI hQ hkp hxj htk hle1
          go_wp2_with fail
          refine RC.mono ?_
          rintro e w5 ⟨a3, c5, rfl, h3, k3⟩
          have FIN : Hid _ := And.intro h3 k3
          clear RC h3 k3 c4' ck
          have hlf : (xs ++ (es ++ entsL (L.take (m + 1)))).length ≤ 1048576 := by have := entsL_le L (m + 1); rw [List.length_append, List.length_append]; omega
          go_wp2_with fail
          go_roundw
          case rel => exact ⟨m + 1, a3, c5, by simp only [List.length_append], by go_num, by omega, FIN.out.1, FIN.out.2⟩
          case measure => simp [intOf]; omega
        · have hme : m = L.length := by omega
          have hnl : ¬ (m : Int) < (K.kids.length : Int) := by omega
          have hT : L.take m = L := List.take_of_length_le (by omega)
          rw [hT] at hQ ⊢
          have FIN : Hid _ := hQ
          clear hQ hkp kI OI stI hT hme
          go_wp2_with fail
          go_ret
          exact ⟨a2, c4, rfl, FIN.out⟩
theorem et_all {B0 g sb N : Nat} {rt : Int} {ns : List NdK} {nv : Nat → NdV} {na : Option Addr} {nc : Nat} {seen : List Int} {tall : Int} {bad : Bool} (hnl : ns.length ≤ 1048576) : ∀ t : Tr,
    (isT t = true → full t true → smT t → EtC B0 g sb N rt ns nv na nc seen tall bad t) ∧ (isT t = false → ∀ b, full t b → smT t → ∀ m, m < (klist t).length → EtC B0 g sb N rt ns nv na nc seen tall bad ((klist t).getD m t0).2)
  | .leaf id es => ⟨fun _ _ _ => fun p xs a c B w st ho hB hr hl => by
      rw [Rep] at hr
      obtain ⟨q, hq, hK⟩ := hr
      cases hq
      have := et_step hnl q _ hK es rfl rfl [] rfl (by simp) (fun m hm => by simp at hm) (fun m hm => by simp at hm) xs a c B w st ho hB (by simpa [entsL, entsT] using hl)
      simpa [entsT, entsL] using this, fun h => by simp [isT] at h⟩
  | .node id ks => ⟨fun _ hf hs => fun p xs a c B w st ho hB hr hl => by
      rw [Rep] at hr
      obtain ⟨q, kd, sg, hq, hK, hR⟩ := hr
      cases hq
      rw [full] at hf
      rw [smT] at hs
      have hT : isT ks = false := by obtain ⟨s, t, r, rfl⟩ := hf.1; rfl
      obtain ⟨hdl, _, hrep⟩ := rep_list ks true kd sg hT hf.2 hR
      have hE := ents_klist ks hT true hf.2
      have := et_step hnl q _ hK [] rfl rfl (klist ks) hdl hs.1 hrep ((et_all hnl ks).2 hT true hf.2 hs.2) xs a c B w st ho hB (by rw [entsT, hE] at hl; simpa using hl)
      rw [entsT, hE]
      simpa using this, fun h => by simp [isT] at h⟩
  | .nil => ⟨fun h => by simp [isT] at h, fun _ _ _ _ m hm => by simp [klist] at hm⟩
  | .cons s t ks => ⟨fun h => by simp [isT] at h, fun _ b hf hs m hm => by
      rw [full] at hf
      rw [smT] at hs
      cases m with
      | zero => exact (et_all hnl t).1 hf.2.1 hf.2.2.2.1 hs.1
      | succ m => exact (et_all hnl ks).2 hf.2.2.1 false hf.2.2.2.2 hs.2 m (by simpa [klist] using hm)⟩
end Go.Proofs.YtnohmedccbogkaaGreatDoor

namespace Go.Proofs.YtnohmedccbogkaaGreatDoor
open Go.RowKit
set_option linter.unusedVariables false
def mkd (sn : List Int) (N : Nat) : List Int := ((List.range N).filter fun (i : Nat) => sn.contains (i : Int)).map fun (i : Nat) => (i : Int)
theorem mkd_succ (sn : List Int) (j : Nat) : mkd sn (j + 1) = if sn.contains (j : Int) = true then mkd sn j ++ [(j : Int)] else mkd sn j := by
  unfold mkd
  rw [List.range_succ, List.filter_append, List.map_append]
  by_cases h : sn.contains (j : Int) = true
  · rw [if_pos h, List.filter_cons_of_pos (by exact h)]; rfl
  · rw [if_neg h, List.filter_cons_of_neg (by exact h)]; simp
theorem mkd_len (sn : List Int) (N : Nat) : (mkd sn N).length ≤ N := by
  unfold mkd
  rw [List.length_map]
  have := List.length_filter_le (fun (i : Nat) => sn.contains (i : Int)) (List.range N)
  simpa using this
theorem own1_lit0 (e B : Nat) (w : World) (hB : B ≤ w.heap.size) : Own1 e B (w.alloc (.cells #[] e)) (some ⟨w.heap.size, 0, none⟩) 0 0 [] := orow_lit0 e 1 B w hB (fun _ => [])
set_option maxHeartbeats 2000000 in
set_option maxRecDepth 100000 in
theorem l3Marked_calls (B mb N : Nat) (sn : List Int) (w : World) (hN : N ≤ 1048576) (hm : Own1 4 B w (some ⟨mb, 0, none⟩) N N (mkB sn N)) :
    Calls Tryz.prog 144 #[.slice (some ⟨mb, 0, none⟩) N N] w fun e w' => ∃ a c, e = .returned (.slice a (mkd sn N).length c) ∧ Below w.heap.size w w' ∧ Own1 3 w.heap.size w' a (mkd sn N).length c (on (mkd sn N)) := by
  have HMK : Hid (∀ u, Below w.heap.size w u → Own1 4 B u (some ⟨mb, 0, none⟩) N N (mkB sn N)) := fun u hu => hm.below hu
  have q0 : Below w.heap.size w (w.alloc (Obj.cells #[] 3)) := (Below.refl _ _).alloc (Nat.le_refl _) _
  have H0 : Hid _ := And.intro q0 (own1_lit0 3 w.heap.size w (Nat.le_refl _))
  clear hm q0
  go_enter Tryz.func144, Tryz.ntmps144
  go_upto_region 2 with fail
  generalize w.alloc (Obj.cells #[] 3) = W at *
  go_wp2_with fail
  go_loopw [3, 4] (fun s x wr => ∃ (j : Nat) (a : Option Addr) (c : Nat) (ys : List Int), x = .int .i64 (j : Nat) ∧ j ≤ N ∧ s = .slice a ys.length c ∧ ys = mkd sn j ∧ Below w.heap.size w wr ∧ Own1 3 w.heap.size wr a ys.length c (on ys)) (fun _ x _ => N - (intOf x).toNat)
  case atStart => exact ⟨0, _, 0, [], rfl, Nat.zero_le _, rfl, rfl, H0.out.1, H0.out.2⟩
  case round =>
    obtain ⟨j, a, c, ys, rfl, hj, rfl, hys, hbw, ho⟩ := hrel
    obtain ⟨wR, hwX⟩ : ∃ wX, wX = wr := ⟨_, rfl⟩
    subst hwX
    have hyl : ys.length ≤ j := by rw [hys]; exact mkd_len sn j
    have HYS : Hid _ := hys
    have HO : Hid _ := And.intro hbw ho
    clear hys
    by_cases hlt : j < N
    · have hlt' : (j : Int) < (N : Int) := by omega
      obtain ⟨_, e1, _, _, _, hc⟩ := (HMK.out wR hbw).at_ (by omega)
      cases e1
      have cM := (hc j hlt).trans (congrArg some (mkB_get sn N j hlt))
      have hst := mkd_succ sn j
      have HST : Hid _ := hst
      have hzz := hbw.size
      clear hc hbw ho hst
      cases hcn : sn.contains (j : Int) with
      | false =>
        rw [hcn] at cM HST
        clear hcn
        go_wp2_with fail
        go_roundw
        case rel => exact ⟨j + 1, a, c, ys, by go_num, by omega, rfl, by rw [HST.out, HYS.out]; rfl, HO.out.1, HO.out.2⟩
        case measure => simp [intOf]; omega
      | true =>
        rw [hcn] at cM HST
        clear hcn
        go_wp2_with (at_builtin; refine wpList_app1 rfl _ _ elInt rfl w.heap.size a ys.length c (on ys) rfl HO.out.2 (.int .i64 (j : Nat)) rfl rfl (by omega) (by omega) hzz ?_)
        intro a8 c8 w8 o8 b8 g8
        have HN : Hid _ := And.intro (HO.out.1.trans b8) o8
        clear o8 b8 g8
        go_wp2_with fail
        go_roundw
        case rel => exact ⟨j + 1, a8, c8, ys ++ [(j : Int)], by go_num, by omega, by simp, by rw [HST.out, HYS.out]; rfl, HN.out.1, by rw [List.length_append, ← on_app]; exact HN.out.2⟩
        case measure => simp [intOf]; omega
    · have hje : j = N := by omega
      subst hje
      have hlt' : ¬ (j : Int) < (j : Int) := by omega
      clear hbw ho
      go_wp2_with fail
      go_ret
      exact ⟨a, c, by rw [← HYS.out]; rfl, HO.out.1, by rw [← HYS.out]; exact HO.out.2⟩
def mOk (M : Nat) : List Int → List Int → Bool
  | [], _ => true
  | x :: ls, sn => if x < 2 ∨ (M : Int) ≤ x ∨ sn.contains x = true then false else mOk M ls (x :: sn)
theorem mOk_drop {M : Nat} {ls : List Int} {j : Nat} (hj : j < ls.length) (sn : List Int) : mOk M (ls.drop j) sn = if ls.getD j 0 < 2 ∨ (M : Int) ≤ ls.getD j 0 ∨ sn.contains (ls.getD j 0) = true then false else mOk M (ls.drop (j + 1)) (ls.getD j 0 :: sn) := by
  rw [List.drop_eq_getElem_cons hj, mOk]
  simp [List.getD, List.getElem?_eq_getElem hj]
set_option maxHeartbeats 2000000 in
set_option maxRecDepth 100000 in
theorem l3Mark_calls (B B2 mb M : Nat) (sn ls : List Int) (a : Option Addr) (c : Nat) (w : World) (hM : M ≤ 1048576) (hll : ls.length ≤ 1048576) (hm : Own1 4 B w (some ⟨mb, 0, none⟩) M M (mkB sn M)) (hl : Own1 3 B2 w a ls.length c (on ls)) :
    Calls Tryz.prog 143 #[.slice (some ⟨mb, 0, none⟩) M M, .slice a ls.length c] w fun e w' => e = .returned (.bool (mOk M ls sn)) ∧ OnlyB mb w w' ∧ (mOk M ls sn = true → Own1 4 B w' (some ⟨mb, 0, none⟩) M M (mkB (ls.reverse ++ sn) M)) := by
  obtain ⟨_, curM, hcM⟩ := hm.blk
  have HL : Hid (∀ u, OnlyB mb w u → Own1 3 B2 u a ls.length c (on ls)) := fun u hu => hl.keep (keepT_onlyC hu hcM (by decide))
  generalize hres : mOk M ls sn = res at *
  have HRES : Hid _ := hres
  have HM0 : Hid _ := hm
  clear hm hl hcM hres
  go_enter Tryz.func143, Tryz.ntmps143
  go_wp2_with fail
  go_loopw [5] (fun x wr => ∃ j : Nat, x = .int .i64 (j : Nat) ∧ j ≤ ls.length ∧ OnlyB mb w wr ∧ mOk M ls sn = mOk M (ls.drop j) ((ls.take j).reverse ++ sn) ∧ Own1 4 B wr (some ⟨mb, 0, none⟩) M M (mkB ((ls.take j).reverse ++ sn) M)) (fun x _ => ls.length - (intOf x).toNat)
  case atStart => exact ⟨0, rfl, Nat.zero_le _, OnlyB.refl _ _, rfl, HM0.out⟩
  case round =>
    obtain ⟨j, rfl, hj, ho, heq, hmk⟩ := hrel
    obtain ⟨wR, hwX⟩ : ∃ wX, wX = wr := ⟨_, rfl⟩
    subst hwX
    have hlR := HL.out wR ho
    have HO : Hid _ := And.intro ho heq
    clear ho heq
    by_cases hlt : j < ls.length
    · have hlt' : (j : Int) < (ls.length : Int) := by omega
      obtain ⟨lb, rfl, _, _, _, hlc⟩ := hlR.at_ (by omega)
      have cL := (hlc j hlt).trans (congrArg some (on_get ls j hlt))
      have hmd := mOk_drop (M := M) hlt ((ls.take j).reverse ++ sn)
      have HMD : Hid _ := hmd
      have htk : (ls.take (j + 1)).reverse ++ sn = ls.getD j 0 :: ((ls.take j).reverse ++ sn) := by
        have e : ls.take (j + 1) = ls.take j ++ [ls.getD j 0] := by rw [List.take_add_one]; simp [List.getD, List.getElem?_eq_getElem hlt]
        rw [e, List.reverse_append]
        rfl
      have HTK : Hid _ := htk
      clear hlc hlR hmd htk
      generalize (ls.take j).reverse ++ sn = sj at *
      generalize ls.getD j 0 = x at *
      by_cases h2 : x < 2
      · have HR : Hid (res = false) := by show res = false; rw [← HRES.out, HO.out.2, HMD.out, if_pos (Or.inl h2)]
        clear hmk
        go_wp2_with fail
        go_ret
        exact ⟨by rw [HR.out]; rfl, HO.out.1, fun h => by rw [HR.out] at h; cases h⟩
      by_cases h3 : (M : Int) ≤ x
      · have HR : Hid (res = false) := by show res = false; rw [← HRES.out, HO.out.2, HMD.out, if_pos (Or.inr (Or.inl h3))]
        clear hmk
        go_wp2_with fail
        go_ret
        exact ⟨by rw [HR.out]; rfl, HO.out.1, fun h => by rw [HR.out] at h; cases h⟩
      obtain ⟨X, rfl⟩ := Int.eq_ofNat_of_zero_le (show 0 ≤ x by omega)
      have hXM : X < M := by omega
      obtain ⟨_, e1, _, _, _, hmc⟩ := hmk.at_ (by omega)
      cases e1
      have cM := (hmc X hXM).trans (congrArg some (mkB_get sj M X hXM))
      have fM := hmk.free X
      have h2' : 2 ≤ (X : Int) := by omega
      have h3' : (X : Int) < (M : Int) := by omega
      clear hmc
      cases hcn : sj.contains (X : Int) with
      | true =>
        have HR : Hid (res = false) := by show res = false; rw [← HRES.out, HO.out.2, HMD.out, if_pos (Or.inr (Or.inr hcn))]
        rw [hcn] at cM
        clear hmk hcn
        go_wp2_with fail
        go_ret
        exact ⟨by rw [HR.out]; rfl, HO.out.1, fun h => by rw [HR.out] at h; cases h⟩
      | false =>
        have hE : Hid (mOk M ls sn = mOk M (ls.drop (j + 1)) ((X : Int) :: sj)) := by
          show mOk M ls sn = _
          rw [HO.out.2, HMD.out, if_neg (by rw [hcn]; simp; omega)]
        rw [hcn] at cM
        have m2 := hmk.set X (.bool true)
        rw [mkB_set _ _ _ hXM] at m2
        have HN : Hid _ := And.intro (HO.out.1.trans (onlyB_setCell wR mb X (.bool true))) m2
        clear hmk hcn m2
        go_wp2_with fail
        go_roundw
        case rel => exact ⟨j + 1, by go_num, by omega, HN.out.1, by rw [HTK.out]; exact hE.out, by rw [HTK.out]; exact HN.out.2⟩
        case measure => simp [intOf]; omega
    · have hje : j = ls.length := by omega
      have hlt' : ¬ (j : Int) < (ls.length : Int) := by omega
      have HR : Hid (res = true) := by
        show res = true
        rw [← HRES.out, HO.out.2, hje, List.drop_length]
        rfl
      have HF : Hid (Own1 4 B wR (some ⟨mb, 0, none⟩) M M (mkB (ls.reverse ++ sn) M)) := by
        show Own1 _ _ _ _ _ _ _
        rw [hje, List.take_length] at hmk
        exact hmk
      clear hmk hlR hje
      go_wp2_with fail
      go_ret
      exact ⟨by rw [HR.out]; rfl, HO.out.1, fun _ => HF.out⟩
end Go.Proofs.YtnohmedccbogkaaGreatDoor

