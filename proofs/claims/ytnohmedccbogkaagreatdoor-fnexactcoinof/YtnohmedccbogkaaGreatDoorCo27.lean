import Derived.Test.YtnohmedccbogkaaGreatDoorCo26
import Derived.Test.YtnohmedccbogkaaGreatDoorCo15
import Derived.Test.YtnohmedccbogkaaGreatDoorCo1
import Derived.Test.YtnohmedccbogkaaGreatDoorCo6
import Derived.Test.YtnohmedccbogkaaGreatDoorCo23
import Derived.Deep.RegionLaw
import Derived.Deep.DeepCutAuto
/- gather at a node; gather. -/
namespace Go.Proofs.YtnohmedccbogkaaGreatDoor
open Go.RowKit
set_option linter.unusedVariables false
variable {S : World → Prop} {X : Nat → Prop} {B0 ty gw N : Nat} {P : Pg}

theorem leq_is (a b : ByteArray) : (Op.bytesLess a.toList b.toList || a.toList == b.toList) = sle a b := by
  have h := gtr_is a b
  show _ = !sl b a
  rw [← h]
  cases Op.bytesLess a.toList b.toList <;> cases (a.toList == b.toList) <;> rfl
theorem rdK_hd2 {r : St → Int → Option (Tr × St)} {s : ByteArray} {id : Int} {ls : List (ByteArray × Int)} {st st' : St} {t : Tr} (h : rdK r ((s, id) :: ls) st = some (t, st')) : hdS t = some s := by
  rw [rdK] at h
  obtain ⟨x, h1, h2⟩ := Option.bind_eq_some_iff.1 h
  obtain ⟨y, h3, h4⟩ := Option.bind_eq_some_iff.1 h2
  cases h4
  rfl

set_option maxHeartbeats 4000000 in
set_option maxRecDepth 100000 in
theorem ga_node (HS : Src P B0 ty 157 (.pointer (some ⟨gw, 0, none⟩)) S X) (fr : ByteArray) (most id steps : Int) (f : Nat) (IH : GaC P S X B0 (.pointer (some ⟨gw, 0, none⟩)) fr most f) (hok : P.ok id = true) (hkd : P.kd id = 3) (h0 : 0 ≤ id) (h1 : id < 4294967296) (hbl : (P.bd id).length ≤ 1048576) (ls : List (ByteArray × Int)) (hin : inP (P.bd id) = some ls)
    (st st' : St) (ks : Tr) (hrd : rdK (rdT P f steps) ls st = some (ks, st')) (hfu : full ks true) (hinn : inn ks true)
    (xs : List (ByteArray × ByteArray)) (a : Option Addr) (c B : Nat) (w : World) (hS : S w) (ho : ORow 93 2 B w a xs.length c (enF xs)) (hB0 : B0 ≤ B) (hB : B ≤ w.heap.size) (hlen : xs.length + (entsT ks).length ≤ 1048576) :
    Calls Tryz.prog 93 #[.pointer (some ⟨gw, 0, none⟩), .slice a xs.length c, .int .i64 id, .string fr, .int .i64 most] w fun e w' => ∃ a' c', e = .returned (.slice a' (scL fr most xs (entsT ks)).length c') ∧ GaQ S X B w a (scL fr most xs (entsT ks)) a' c' w' := by
  have PG := HS.page w id hS h0 h1
  have H0 : Hid _ := And.intro ho (And.intro hin (And.intro hrd (And.intro hfu hinn)))
  have hxl : xs.length ≤ 1048576 := by omega
  have hlln := inP_len hin
  clear ho hin hS hrd hfu hinn
  go_enter Tryz.func93, Tryz.ntmps93
  go_wp2_with fail
  refine PG.mono ?_
  clear PG
  rintro e w4 ⟨s4, o4, ⟨_, ab, cb, rfl, hbs⟩ | ⟨hno, _⟩⟩
  rotate_left
  · rw [hok] at hno; cases hno
  rw [hkd]
  have hb1 := built_cu ab (P.bd id).length cb
  have q5 : Below w4.heap.size w4 (w4.alloc (.cells #[.slice ab (P.bd id).length cb] 162)) := (Below.refl _ _).alloc (Nat.le_refl _) _
  have kC := blk_new w4 162 #[.slice ab (P.bd id).length cb]
  have cur5 : Cur (w4.alloc (.cells #[.slice ab (P.bd id).length cb] 162)) w4.heap.size w4.heap.size (P.bd id) := ⟨ab, (P.bd id).length, cb, ⟨kC, hbs.bs.below q5, hbs.bs.blt⟩⟩
  have EC := links_calls w4.heap.size w4.heap.size (P.bd id) _ cur5 q5.size hbl
  have hz4 := o4.size
  have H4 : Hid _ := And.intro s4 o4
  have z5 : Hid ((w4.alloc (.cells #[.slice ab (P.bd id).length cb] 162)).heap.size = w4.heap.size + 1) := by show (w4.alloc (.cells #[.slice ab (P.bd id).length cb] 162)).heap.size = w4.heap.size + 1; simp
  clear s4 o4 hbs q5 kC cur5
  go_wp2_with fail
  refine EC.mono ?_
  rintro e w6 ⟨o6, ⟨ls', la, lc, hin', rfl, hr⟩ | ⟨hno, _⟩⟩
  rotate_left
  · exfalso
    rw [H0.out.2.1] at hno
    cases hno
  rw [H0.out.2.1] at hin'
  obtain rfl := Option.some.inj hin'
  have G6 := GaQ.start HS hB0 hB H0.out.1 H4.out.1 H4.out.2 o6
  have hz6 : w4.heap.size + 1 ≤ w6.heap.size := by have := o6.size; have := z5.out; omega
  have H6 : Hid _ := And.intro G6 hr
  clear EC o6 hin' G6 hr hb1
  go_wp2_with fail
  go_loopw [1, 60] (fun s1 s60 wr => ∃ (i : Nat) (a' : Option Addr) (c' : Nat) (ys : List (ByteArray × ByteArray)) (st1 : St) (k1 : Tr), s1 = .slice a' ys.length c' ∧ s60 = .int .i64 (i : Nat) ∧ i ≤ ls.length ∧ GaQ S X B w a ys a' c' wr ∧ ORow 230 2 B wr la ls.length lc (lnF ls) ∧ rdK (rdT P f steps) (ls.drop i) st1 = some (k1, st') ∧ (full k1 (i == 0) ∧ inn k1 (i == 0)) ∧ scL fr most xs (entsT ks) = scL fr most ys (entsT k1) ∧ ys.length + (entsT k1).length ≤ 1048576) (fun _ s _ => ls.length - (intOf s).toNat)
  case atStart => exact ⟨0, a, c, xs, st, ks, rfl, rfl, Nat.zero_le _, H6.out.1, H6.out.2.mono (by have := z5.out; omega), H0.out.2.2.1, H0.out.2.2.2, rfl, hlen⟩
  case round =>
    obtain ⟨i, a', c', ys, st1, k1, rfl, rfl, hi, hQ, hr, hrd, hfi, heq, hyl⟩ := hrel
    obtain ⟨wR, hwX⟩ : ∃ wX, wX = wr := ⟨_, rfl⟩
    subst hwX
    have hwz := hQ.fr.size
    by_cases hlt : i < ls.length
    · have hlt' : (i : Int) < (ls.length : Int) := by omega
      obtain ⟨b, rfl, hbB, hbl2⟩ := orow_at hr (by omega)
      have hcl := fun m v hv => (hr.reads (lnF_ok ls _)).cells i hlt m v hv
      rw [show lnF ls i = [.string (ls.getD i l0).1, .int .i64 (ls.getD i l0).2] from rfl] at hcl
      have hdr : ls.drop i = ls.getD i l0 :: ls.drop (i + 1) := by
        rw [List.drop_eq_getElem_cons hlt]
        simp [List.getD, hlt]
      generalize ls.getD i l0 = en at *
      obtain ⟨sg, kid⟩ := en
      have cc0 : wR.cell? ⟨b, i * 2, none⟩ = some (.string sg) := by have := hcl 0 _ rfl; simpa using this
      have cc1 : wR.cell? ⟨b, i * 2 + 1, none⟩ = some (.int .i64 kid) := by have := hcl 1 _ rfl; simpa using this
      rw [hdr, rdK] at hrd
      obtain ⟨x, hx1, hx2⟩ := Option.bind_eq_some_iff.1 hrd
      obtain ⟨y, hy1, hy2⟩ := Option.bind_eq_some_iff.1 hx2
      cases hy2
      obtain ⟨x1, x2⟩ := x
      obtain ⟨y1, y2⟩ := y
      dsimp only at hy1 hyl heq hfi hx1 hrd hx2
      rw [full, inn] at hfi
      rw [entsT, scL_app] at heq
      rw [entsT, List.length_append] at hyl
      have kE := blk_new wR 230 #[.string sg, .int .i64 kid]
      have q2 : Below wR.heap.size wR (wR.alloc (Obj.cells #[.string sg, .int .i64 kid] 230)) := (Below.refl _ _).alloc (Nat.le_refl _) _
      have hyl2 : ys.length ≤ 1048576 := by omega
      have Q2 := hQ.below HS q2 (by omega)
      have r2 := hr.below q2
      have hz2 := q2.size
      -- the kid is asked for, or what it holds is not
      have HSK : Hid (scL fr most ys (entsT x1) = ys → ∃ (i_1 : Nat) (a'_1 : Option Addr) (c'_1 : Nat) (ys_1 : List (ByteArray × ByteArray)) (st1 : St) (k1 : Tr), Value.slice a' ys.length c' = .slice a'_1 ys_1.length c'_1 ∧ Value.int .i64 ((i : Int) + 1) = .int .i64 (i_1 : Nat) ∧ i_1 ≤ ls.length ∧ GaQ S X B w a ys_1 a'_1 c'_1 (wR.alloc (Obj.cells #[.string sg, .int .i64 kid] 230)) ∧ ORow 230 2 B (wR.alloc (Obj.cells #[.string sg, .int .i64 kid] 230)) (some ⟨b, 0, none⟩) ls.length lc (lnF ls) ∧ rdK (rdT P f steps) (ls.drop i_1) st1 = some (k1, y2) ∧ (full k1 (i_1 == 0) ∧ inn k1 (i_1 == 0)) ∧ scL fr most xs (entsT ks) = scL fr most ys_1 (entsT k1) ∧ ys_1.length + (entsT k1).length ≤ 1048576) := fun hs =>
        ⟨i + 1, a', c', ys, x2, y1, rfl, by go_num, by omega, Q2, r2, hy1, ⟨hfi.1.2.2.2.2, hfi.2.2.2.2⟩, by rw [heq, hs], by omega⟩
      have RC := IH steps kid st1 x2 x1 ys a' c' B _ hx1 hfi.1.2.2.2.1 hfi.2.1 Q2.src Q2.own hB0 (by omega) (by omega)
      have HRC : Hid (∀ a2 c2 w', GaQ S X B (wR.alloc (Obj.cells #[.string sg, .int .i64 kid] 230)) a' (scL fr most ys (entsT x1)) a2 c2 w' → ∃ (i_1 : Nat) (a'_1 : Option Addr) (c'_1 : Nat) (ys_1 : List (ByteArray × ByteArray)) (st1 : St) (k1 : Tr), Value.slice a2 (scL fr most ys (entsT x1)).length c2 = .slice a'_1 ys_1.length c'_1 ∧ Value.int .i64 ((i : Int) + 1) = .int .i64 (i_1 : Nat) ∧ i_1 ≤ ls.length ∧ GaQ S X B w a ys_1 a'_1 c'_1 w' ∧ ORow 230 2 B w' (some ⟨b, 0, none⟩) ls.length lc (lnF ls) ∧ rdK (rdT P f steps) (ls.drop i_1) st1 = some (k1, y2) ∧ (full k1 (i_1 == 0) ∧ inn k1 (i_1 == 0)) ∧ scL fr most xs (entsT ks) = scL fr most ys_1 (entsT k1) ∧ ys_1.length + (entsT k1).length ≤ 1048576) := fun a2 c2 w' hG => by
        have hsl := scL_len fr most (entsT x1) ys
        refine ⟨i + 1, a2, c2, _, x2, y1, rfl, by go_num, by omega, Q2.trans hG, ?_, hy1, ⟨hfi.1.2.2.2.2, hfi.2.2.2.2⟩, heq, by omega⟩
        exact orow_rb r2 (fun k hk => hG.fr.block k (orow_rb_lt r2 k hk).2 (fun e => by
          rcases e with e | e
          · have := HS.low k e; have := (orow_rb_lt r2 k hk).1; omega
          · exact orow_apart Q2.own r2 (by decide) k e k hk rfl))
      have HPR : Hid (∀ s2 id2 l2, ls.drop (i + 1) = (s2, id2) :: l2 → sle s2 fr = true → scL fr most ys (entsT x1) = ys) := fun s2 id2 l2 hd hs2 => scL_low (fun e he => by
        rw [hd] at hy1
        have h9 := hfi.2.2.2.1 e.1 (by rw [keys_ents]; exact List.mem_map.2 ⟨e, he, rfl⟩) s2 (rdK_hd2 hy1)
        exact sl_sle_trans h9 hs2)
      have hsl2 := scL_len fr most (entsT x1) ys
      have hsl3 : (scL fr most ys (entsT x1)).length ≤ 1048576 := by omega
      have HSM : Hid (¬ (ys.length : Int) < most → scL fr most ys (entsT x1) = ys) := fun h => scL_most (by omega)
      have hcn : Hid (i + 1 < ls.length → (wR.alloc (Obj.cells #[.string sg, .int .i64 kid] 230)).cell? ⟨b, (i + 1) * 2, none⟩ = some (.string (ls.getD (i + 1) l0).1)) := fun h => by
        have h9 := (r2.reads (lnF_ok ls _)).cells (i + 1) h 0 _ rfl
        simpa using h9
      clear hcl hQ hr Q2 r2 q2 hrd hx2 hx1 hy1 hfi heq hyl hdr hsl2
      go_upto_region 15 with (first | (refine wpList_storeNew rfl 230 _ _ rfl wR #[.string (strOfNums []), .int .i64 0] #[.string sg, .int .i64 kid] 230 rfl rfl sizeLn rfl rfl ?_))
      change Code.wp _ _ _ _ (wR.alloc (Obj.cells #[.string sg, .int .i64 kid] 230))
      generalize wR.alloc (Obj.cells #[.string sg, .int .i64 kid] 230) = W2 at *
      generalize heb : wR.heap.size = eb at *
      have kE' : Blk W2 230 eb [.string sg, .int .i64 kid] := kE
      have c1 : W2.cell? ⟨eb, 1, none⟩ = some (.int .i64 kid) := kE'.cell 1
      clear kE cc0 cc1
      by_cases hl2 : i + 1 < ls.length
      · have hl2' : (i : Int) + 1 < (ls.length : Int) := by omega
        have cn := hcn.out hl2
        have hdr2 : ls.drop (i + 1) = ls.getD (i + 1) l0 :: ls.drop (i + 1 + 1) := by
          rw [List.drop_eq_getElem_cons hl2]
          simp [List.getD, hl2]
        generalize ls.getD (i + 1) l0 = en2 at *
        obtain ⟨s2, id2⟩ := en2
        have HP2 : Hid (sle s2 fr = true → scL fr most ys (entsT x1) = ys) := fun h => HPR.out s2 id2 _ hdr2 h
        clear hdr2 HPR
        go_upto_region 16 with fail
        rw [leq_is]
        cases hsle : sle s2 fr with
        | true =>
          have F8 : Hid _ := HSK.out (HP2.out hsle)
          clear RC HRC HSK c1 kE' cn hcn
          go_wp2_with fail
          go_roundw
          case rel => exact F8.out
          case measure => simp [intOf]; omega
        | false =>
          clear cn
          by_cases hm : (ys.length : Int) < most
          · clear hcn
            go_wp2_with fail
            refine RC.mono ?_
            rintro e w8 ⟨a2, c2, rfl, hG⟩
            have F8 : Hid _ := HRC.out a2 c2 w8 hG
            clear RC hG HRC HSK c1 kE'
            go_wp2_with fail
            go_roundw
            case rel => exact F8.out
            case measure => simp [intOf]; omega
          · have F8 : Hid _ := HSK.out (HSM.out hm)
            clear RC HRC HSK c1 kE' hcn
            go_wp2_with fail
            go_roundw
            case rel => exact F8.out
            case measure => simp [intOf]; omega
      · have hl2' : ¬ (i : Int) + 1 < (ls.length : Int) := by omega
        go_upto_region 16 with fail
        by_cases hm : (ys.length : Int) < most
        · clear hcn
          go_wp2_with fail
          refine RC.mono ?_
          rintro e w8 ⟨a2, c2, rfl, hG⟩
          have F8 : Hid _ := HRC.out a2 c2 w8 hG
          clear RC hG HRC HSK c1 kE'
          go_wp2_with fail
          go_roundw
          case rel => exact F8.out
          case measure => simp [intOf]; omega
        · have F8 : Hid _ := HSK.out (HSM.out hm)
          clear RC HRC HSK c1 kE' hcn
          go_wp2_with fail
          go_roundw
          case rel => exact F8.out
          case measure => simp [intOf]; omega
    · have hje : i = ls.length := by omega
      have hnl : ¬ (i : Int) < (ls.length : Int) := by omega
      rw [hje, List.drop_length, rdK] at hrd
      cases hrd
      rw [show scL fr most ys (entsT .nil) = ys from rfl] at heq
      have HE : Hid _ := And.intro heq hQ
      have hyl2 : ys.length ≤ 1048576 := by omega
      clear hQ hje hr heq
      go_wp2_with fail
      go_ret
      rw [HE.out.1]
      exact ⟨a', c', rfl, HE.out.2⟩
theorem gather_calls (PW : PgW P N) (HS : Src P B0 ty 157 (.pointer (some ⟨gw, 0, none⟩)) S X) (fr : ByteArray) (most : Int) : ∀ f : Nat, GaC P S X B0 (.pointer (some ⟨gw, 0, none⟩)) fr most f
  | 0 => fun steps id st st' t xs a c B w h => by rw [rdT] at h; cases h
  | f + 1 => fun steps id st st' t xs a c B w h hf hi hS ho hB0 hB hlen => by
    rw [rdT] at h
    cases hp : pgOk P st id with
    | false => rw [if_neg (by rw [hp]; decide)] at h; cases h
    | true =>
      rw [if_pos hp] at h
      obtain ⟨p1, p2, p3, p4⟩ := pgOk_iff.1 hp
      have hN := (PW.ok id p1).2
      have hl := PW.len id
      have hNl := PW.le
      by_cases hk : P.kd id = 2
      · rw [if_pos hk] at h
        by_cases ht : st.tall < 0 ∨ st.tall = steps
        · rw [if_pos ht] at h
          obtain ⟨es, h1, h2⟩ := Option.bind_eq_some_iff.1 h
          by_cases he : es.isEmpty = true
          · rw [if_pos he] at h2; cases h2
          · rw [if_neg he] at h2
            cases h2
            exact ga_leaf HS fr most id p1 hk (by omega) (by omega) hl es h1 xs a c B w hS ho hB0 hB hlen (by simpa using he)
        · rw [if_neg ht] at h; cases h
      · rw [if_neg hk] at h
        obtain ⟨ls, h1, h2⟩ := Option.bind_eq_some_iff.1 h
        obtain ⟨y, h3, h4⟩ := Option.map_eq_some_iff.1 h2
        cases h4
        have hk3 : P.kd id = 3 := by rcases p4 with e | e; exact absurd e hk; exact e
        rw [full] at hf
        rw [inn] at hi
        exact ga_node HS fr most id (steps + 1) f (gather_calls PW HS fr most f) p1 hk3 (by omega) (by omega) hl ls h1 _ _ y.1 h3 hf.2 hi xs a c B w hS ho hB0 hB hlen
end Go.Proofs.YtnohmedccbogkaaGreatDoor

/- A store's cells. -/
namespace Go.Proofs.YtnohmedccbogkaaGreatDoor
open Go.RowKit
set_option linter.unusedVariables false

def stV (d : DV) (K : DK) (g r u f : Int) : List Value := [.slice d.sa K.n d.sc, .slice d.pa K.m d.pc, .int .i64 g, .int .i64 r, .int .i64 u, .int .i64 f]
def stZ : List Value := [.slice none 0 0, .slice none 0 0, .int .i64 0, .int .i64 0, .int .i64 0, .int .i64 0]
theorem stV_one (d : DV) (K : DK) (g r u f : Int) : ∀ x ∈ stV d K g r u f, x.oneCell' = true := by intro x hx; simp [stV] at hx; rcases hx with rfl | rfl | rfl | rfl | rfl | rfl <;> rfl
theorem sizeSt : (Tryz.prog.info? 40).map (·.size) = some 6 := by kernel_rfl
theorem ownsRow_low {B e s : Nat} {w w' : World} {v : Value} {n : Nat} {xs : List Value} (h : w.ownsRow B e s v n xs) (hk : ∀ k, B ≤ k → k < w.heap.size → w'.heap[k]? = w.heap[k]?) : w'.ownsRow B e s v n xs := by
  refine ⟨h.1, ?_⟩
  rcases h.2 with h2 | ⟨g, cap, cur, e1, hB, hh, r⟩
  · exact Or.inl h2
  · exact Or.inr ⟨g, cap, cur, e1, hB, (hk g hB (Array.getElem?_eq_some_iff.1 hh).1).trans hh, r⟩
theorem ORecs.low {p e B : Nat} {w w' : World} {a : Option Addr} {n c : Nat} {I : Nat → Nat → Int} {A : Nat → Option Addr} {N C : Nat → Nat} {L : Nat → List Int} (h : ORecs p e B w a n c I A N C L) (hk : ∀ k, B ≤ k → k < w.heap.size → w'.heap[k]? = w.heap[k]?) : ORecs p e B w' a n c I A N C L :=
  ⟨ownsRow_low h.row hk, fun i hi => ownsRow_low (h.data i hi) hk, h.byte, h.sep1⟩
theorem odisk_only {B B0 g : Nat} {w w' : World} {d : DV} {K : DK} (h : ODisk B w d K) (o : OnlyB g w w') (hB : B0 ≤ B) (hg : g < B) : ODisk B0 w' d K := by
  have hk : ∀ k, B ≤ k → k < w.heap.size → w'.heap[k]? = w.heap[k]? := fun k h1 h2 => o.block k h2 (by omega)
  exact ⟨(h.safe.low hk).mono hB, (h.pend.low hk).mono hB, h.sepX⟩
theorem odisk_setRow {B B0 g : Nat} {w : World} {d : DV} {K : DK} {cells : Array Value} (h : ODisk B w d K) (hB : B0 ≤ B) (hg : g < B) : ODisk B0 (w.setRow g cells) d K := by
  have o := onlyB_setRow w g cells
  have hk : ∀ k, B ≤ k → k < w.heap.size → (w.setRow g cells).heap[k]? = w.heap[k]? := fun k h1 h2 => o.block k h2 (by omega)
  exact ⟨(h.safe.low hk).mono hB, (h.pend.low hk).mono hB, h.sepX⟩
end Go.Proofs.YtnohmedccbogkaaGreatDoor

/- A store at work. -/
namespace Go.Proofs.YtnohmedccbogkaaGreatDoor
open Go.RowKit
set_option linter.unusedVariables false

set_option maxRecDepth 100000 in
theorem woSrc {eN eW : Addr} {d : DV} {K : DK} {g gw mc B0 : Nat} {root : Int} {w1 : World} (h : RDisk w1 d K) (hok : dOk K) (hE : Errs w1 eN eW) (ho : w1.ownsMap Tryz.prog 3 (plainElem Tryz.prog 3) g K.m (lastD K.At K.m)) (hgm : w1.heap.size ≤ mc) (hgw : w1.heap.size ≤ gw) (hmb : mc < B0) (hgb : gw < B0) :
    Src (pgD K) B0 83 157 (.pointer (some ⟨gw, 0, none⟩)) (CS (pgD K) w1 gw mc (woC d K g mc root)) (fun k => k = mc) where
  low := fun k e => by subst e; exact hmb
  meth := fun w => methWo _ w
  ent := fun _ _ => rfl
  keep := fun u u' hs hb hk => by
    obtain ⟨cl, D, hC⟩ := hs.ca
    exact ⟨hs.b.trans (hb.mono (by omega)), (hb.block gw hgb).trans hs.k, cl, D, hC.keep (hb.block mc hmb) hk⟩
  page := fun u id hs h0 h1 => woPage_calls h hok hE ho hgm hgw id u hs h0 h1
/-- A store at work stands. -/
structure WoS (K : DK) (root : Int) (B gw : Nat) (w' : World) : Prop where
  ok : dOk K
  ex : ∃ (B0 : Nat) (S : World → Prop) (X : Nat → Prop), Src (pgD K) B0 83 157 (.pointer (some ⟨gw, 0, none⟩)) S X ∧ S w' ∧ B0 ≤ w'.heap.size ∧ (∀ u, S u → u.cell? ⟨gw, 4, none⟩ = some (.int .i64 root)) ∧ (∀ k, X k → B ≤ k) ∧ B ≤ B0
theorem built_wo (d : DV) (K : DK) (g mc : Nat) (root : Int) : Tryz.prog.built 145 [(0, .agg #[.slice d.sa K.n d.sc, .slice d.pa K.m d.pc, .map (some g)]), (1, .map (some mc)), (2, .int .i64 root)] = some (woC d K g mc root).toArray := by kernel_rfl
theorem caQ_new (P : Pg) (w : World) (o : Obj) : CaQ P ((w.alloc (.map #[] 0)).alloc o) w.heap.size [] (.map []) := ⟨(World.ownsMap_made w _ _ _).alloc o, ⟨List.nodup_nil, fun x hx => by simp at hx⟩, fun i => by rfl, fun i hi => by simp at hi⟩
def awV : Bool → Nat → Value
  | true, gw => .tuple #[.pointer (some ⟨gw, 0, none⟩), .bool true]
  | false, _ => .tuple #[.pointer none, .bool false]
def AwP (K : DK) (gen root used free : Int) (w : World) (e : Ending) (w' : World) : Prop := Below w.heap.size w w' ∧ ((whB K gen root used free = false ∧ e = .returned (.tuple #[.pointer none, .bool false])) ∨ (whB K gen root used free = true ∧ ∃ gw, e = .returned (.tuple #[.pointer (some ⟨gw, 0, none⟩), .bool true]) ∧ WoS K root w.heap.size gw w'))

set_option maxHeartbeats 4000000 in
set_option maxRecDepth 100000 in
theorem atWork_calls (eN eW : Addr) (d : DV) (K : DK) (gen root used free : Int) (w : World) (h : RDisk w d K) (hE : Errs w eN eW) :
    Calls Tryz.prog 42 #[.agg (stV d K gen root used free).toArray] w (AwP K gen root used free w) := by
  obtain ⟨W1, hW1⟩ : ∃ W, W = w.alloc (Obj.cells (stV d K gen root used free).toArray 40) := ⟨_, rfl⟩
  have q1 : Below w.heap.size w W1 := by rw [hW1]; exact (Below.refl _ _).alloc (Nat.le_refl _) _
  have z1 : W1.heap.size = w.heap.size + 1 := by rw [hW1]; simp
  have kS : Blk W1 40 w.heap.size (stV d K gen root used free) := by rw [hW1]; exact blk_new w _ _
  have h1 := h.below q1
  have E1 := hE.below q1
  have H1 : Hid _ := And.intro q1 (And.intro kS (And.intro h1 E1))
  have a0 : W1.cell? ⟨w.heap.size, 0, none⟩ = some (.slice d.sa K.n d.sc) := kS.cell 0
  have a1 : W1.cell? ⟨w.heap.size, 1, none⟩ = some (.slice d.pa K.m d.pc) := kS.cell 1
  clear q1 kS h hE E1
  cases hdo : dOkB K with
  | false =>
    have NR := newReader_no d K W1 h1 (fun hk => by rw [dOk_true hk] at hdo; cases hdo)
    have hW : Hid (whB K gen root used free = false) := by show whB K gen root used free = false; unfold whB; rw [hdo]
    unfold dval at NR
    unfold rZ at NR
    clear h1 hdo
    go_enter Tryz.func42, Tryz.ntmps42
    go_upto_region 1 with fail
    change Code.wp _ _ _ _ (w.alloc (Obj.cells (stV d K gen root used free).toArray 40))
    rw [← hW1]
    clear hW1
    go_wp2_with fail
    refine NR.mono ?_
    rintro e w4 ⟨rfl, b4⟩
    have d4 : Below w.heap.size w w4 := H1.out.1.trans (b4.mono H1.out.1.size)
    have FIN : Hid _ := d4.alloc d4.size (Obj.cells #[.slice none 0 0, .slice none 0 0, .map none] 140)
    clear NR b4 d4 a0 a1
    go_wp2_with (refine wpList_storeNew rfl 140 _ _ rfl w4 #[.slice none 0 0, .slice none 0 0, .map none] #[.slice none 0 0, .slice none 0 0, .map none] 140 rfl rfl sizeRd rfl rfl ?_)
    go_ret2
    exact ⟨FIN.out, Or.inl ⟨hW.out, rfl⟩⟩
  | true =>
    have hok := dOk_of hdo
    have hn := hok.1.2.1
    have NR := newReader_core d.sa d.pa d.sc d.pc d.sA d.pA d.sN d.sC d.pN d.pC K W1 h1.safe h1.pend hok
    have hW : Hid (whB K gen root used free = hoB (pgD K) (nPg K) ((nPg K : Nat) : Int) gen root used free) := by show whB K gen root used free = _; unfold whB; rw [hdo]
    have HOK : Hid _ := hok
    clear h1 hdo hok
    go_enter Tryz.func42, Tryz.ntmps42
    go_upto_region 1 with fail
    change Code.wp _ _ _ _ (w.alloc (Obj.cells (stV d K gen root used free).toArray 40))
    rw [← hW1]
    clear hW1
    go_wp2_with fail
    refine NR.mono ?_
    rintro e w4 ⟨g, rfl, b4, om4⟩
    have q5 : Below w4.heap.size w4 (w4.alloc (Obj.cells (rdV d K g).toArray 140)) := (Below.refl _ _).alloc (Nat.le_refl _) _
    have u5 : Below W1.heap.size W1 (w4.alloc (Obj.cells (rdV d K g).toArray 140)) := b4.trans (q5.mono b4.size)
    have kS5 := H1.out.2.1.below u5
    have kV5 := blk_new w4 140 (rdV d K g).toArray
    have om5 := om4.alloc (.cells (rdV d K g).toArray 140)
    have hz5 := u5.size
    have d5 : Below w.heap.size w (w4.alloc (Obj.cells (rdV d K g).toArray 140)) := H1.out.1.trans (u5.mono H1.out.1.size)
    have H5 : Hid _ := And.intro kS5 (And.intro om5 (And.intro (H1.out.2.2.1.below u5) (And.intro (H1.out.2.2.2.below u5) d5)))
    clear NR b4 om4 q5 u5 om5 a0 a1 d5
    go_upto_region 4 with (first | (refine wpList_storeNew rfl 140 _ _ rfl w4 #[.slice none 0 0, .slice none 0 0, .map none] (rdV d K g).toArray 140 rfl rfl sizeRd rfl (all_one (rdV_one d K g)) ?_))
    change Code.wp _ _ _ _ (w4.alloc (Obj.cells (rdV d K g).toArray 140))
    generalize w4.alloc (Obj.cells (rdV d K g).toArray 140) = W5 at *
    generalize w4.heap.size = vb at *
    have kV : Blk W5 140 vb (rdV d K g) := kV5
    have v0 : W5.cell? ⟨vb, 0, none⟩ = some (.slice d.sa K.n d.sc) := kV.cell 0
    have v1 : W5.cell? ⟨vb, 1, none⟩ = some (.slice d.pa K.m d.pc) := kV.cell 1
    have v2 : W5.cell? ⟨vb, 2, none⟩ = some (.map (some g)) := kV.cell 2
    have a3 : (W5.alloc (Obj.map #[] 0)).cell? ⟨w.heap.size, 3, none⟩ = some (.int .i64 root) := (kS5.below ((Below.refl _ _).alloc (Nat.le_refl _) (Obj.map #[] 0))).cell 3
    obtain ⟨W6, hW6⟩ : ∃ W, W = (W5.alloc (.map #[] 0)).alloc (Obj.cells (woC d K g W5.heap.size root).toArray 145) := ⟨_, rfl⟩
    have q6 : Below W5.heap.size W5 W6 := by rw [hW6]; exact ((Below.refl _ _).alloc (Nat.le_refl _) _).alloc (by simp) _
    have z6 : W6.heap.size = W5.heap.size + 1 + 1 := by rw [hW6]; simp
    have k6 : Blk W6 145 (W5.heap.size + 1) (woC d K g W5.heap.size root) := by
      have := blk_new (W5.alloc (.map #[] 0)) 145 (woC d K g W5.heap.size root).toArray
      rw [hW6]
      simpa using this
    have CS6 : CS (pgD K) W5 (W5.heap.size + 1) W5.heap.size (woC d K g W5.heap.size root) W6 := ⟨q6, k6, [], .map [], by rw [hW6]; exact caQ_new _ _ _⟩
    have HS := woSrc (B0 := W5.heap.size + 1 + 1) (root := root) H5.out.2.2.1 HOK.out H5.out.2.2.2.1 H5.out.2.1 (Nat.le_refl _) (by omega : W5.heap.size ≤ W5.heap.size + 1) (by omega : W5.heap.size < W5.heap.size + 1 + 1) (by omega)
    have HHS : Hid _ := HS
    have H6 : Hid _ := And.intro CS6 (And.intro q6 z6)
    have hmm := @run_makeMap Tryz.prog
    have hbw := built_wo d K g W5.heap.size root
    have kS6 := kS5.below q6
    clear kV kV5 kS5 q6 k6 CS6 HS
    go_upto_region 5 with fail
    change Code.wp _ _ _ _ ((W5.alloc (.map #[] 0)).alloc (Obj.cells (woC d K g W5.heap.size root).toArray 145))
    rw [← hW6]
    clear hW6 hmm hbw v0 v1 v2 a3
    obtain ⟨mc, hmc⟩ : ∃ x, x = W5.heap.size := ⟨_, rfl⟩
    rw [← hmc] at HHS H6 ⊢
    have hzm : w.heap.size < mc := by omega
    have hz6m : W6.heap.size = mc + 1 + 1 := H6.out.2.2
    have d6 : Below w.heap.size w W6 := H5.out.2.2.2.2.trans (H6.out.2.1.mono (by omega))
    have HCS : Hid (∀ u, Below mc W6 u → u.cell? ⟨w.heap.size, 0, none⟩ = some (.slice d.sa K.n d.sc) ∧ u.cell? ⟨w.heap.size, 1, none⟩ = some (.slice d.pa K.m d.pc) ∧ u.cell? ⟨w.heap.size, 2, none⟩ = some (.int .i64 gen) ∧ u.cell? ⟨w.heap.size, 3, none⟩ = some (.int .i64 root) ∧ u.cell? ⟨w.heap.size, 4, none⟩ = some (.int .i64 used) ∧ u.cell? ⟨w.heap.size, 5, none⟩ = some (.int .i64 free)) := fun u hu => by
      have k9 : Blk u 40 w.heap.size (stV d K gen root used free) := (hu.block w.heap.size hzm).trans kS6
      exact ⟨k9.cell 0, k9.cell 1, k9.cell 2, k9.cell 3, k9.cell 4, k9.cell 5⟩
    have dd : Below W6.heap.size W6 W6.drew := ⟨rfl, rfl, rfl, Nat.le_refl _, fun _ _ => rfl⟩
    have cs := HCS.out W6.drew (dd.mono (by omega))
    have HW : Hid (whB K gen root used free = hoB (pgD K) (nPg K) ((nPg K : Nat) : Int) gen root used free) := hW.out
    obtain ⟨r, hrr⟩ : ∃ r, r = hoB (pgD K) (nPg K) ((nPg K : Nat) : Int) gen root used free := ⟨_, rfl⟩
    have HRR : Hid (r = hoB (pgD K) (nPg K) ((nPg K : Nat) : Int) gen root used free) := hrr
    have HW : Hid (whB K gen root used free = r) := by rw [hrr]; exact HW.out
    clear hrr
    -- what the end of every branch asks for
    have HEND : Hid (∀ (u u9 : World) (hb : Nat) (xs ys : List Value), OnlyS (fun k => k = mc) W6 u → (r = true → CS (pgD K) W5 (mc + 1) mc (woC d K g mc root) u) → Blk u 148 hb xs → mc + 1 + 1 ≤ hb → OnlyB hb u u9 → Below mc W6 u9 ∧ (r = true → WoS K root w.heap.size (mc + 1) u9)) := fun u u9 hb xs ys ho hs hk hl ho9 => by
      have hzu := ho.size
      have h9 := ho9.size
      refine ⟨(ho.below (by omega) (fun k e => by omega)).trans (ho9.below (by omega) (by omega)), fun hr => ⟨HOK.out, mc + 1 + 1, CS (pgD K) W5 (mc + 1) mc (woC d K g mc root), (fun k => k = mc), HHS.out, HHS.out.keep _ _ (hs hr) (ho9.below hl (by omega)) (keepT_only ho9 hk (by decide)), by omega, fun u hu => hu.k.cell 4, fun k e => by omega, by omega⟩⟩
    have HIN : Hid (∀ u, OnlyS (fun k => k = mc) W6 u → CS (pgD K) W5 (mc + 1) mc (woC d K g mc root) u → Calls Tryz.prog 84 #[.iface 83 (.pointer (some ⟨mc + 1, 0, none⟩)), .int .i64 (nPg K : Nat), .agg (supC gen root used free).toArray] u (HiP (pgD K) (nPg K) (CS (pgD K) W5 (mc + 1) mc (woC d K g mc root)) (fun k => k = mc) r u)) := fun u ho hu => by
      rw [HRR.out]
      exact holdingIn_calls (pgD_ok H5.out.2.2.1 HOK.out) (fun t => vL_le HOK.out t) HHS.out (nPg K) gen root used free u hu (by have := ho.size; omega)
    have HKB : Hid (∀ u u', CS (pgD K) W5 (mc + 1) mc (woC d K g mc root) u → mc + 1 + 1 ≤ u.heap.size → Below u.heap.size u u' → CS (pgD K) W5 (mc + 1) mc (woC d K g mc root) u') := fun u u' hs hz hb => HHS.out.keep _ _ hs (hb.mono hz) (keepT_below hb)
    have HDP : Hid (∀ u, Calls Tryz.prog 85 #[.agg #[.slice d.sa K.n d.sc, .slice d.pa K.m d.pc]] u fun e w' => e = .returned (.int .i64 ((nPg K : Nat) : Int)) ∧ Below u.heap.size u w') := fun u => by
      have DP := diskPages_calls d.sa d.pa d.sc d.pc K u hn
      rw [show (K.n : Int) / 4 = ((nPg K : Nat) : Int) by unfold nPg; omega] at DP
      exact DP
    have HFIN : Hid (∀ u, Below mc W6 u → (r = true → WoS K root w.heap.size (mc + 1) u) → AwP K gen root used free w (.returned (awV r (mc + 1))) u) := fun u hb hs => by
      refine ⟨d6.trans (hb.mono (by omega)), ?_⟩
      rw [HW.out]
      cases hr : r with
      | true => exact Or.inr ⟨rfl, mc + 1, rfl, hs hr⟩
      | false => exact Or.inl ⟨rfl, rfl⟩
    have C6 : Hid (CS (pgD K) W5 (mc + 1) mc (woC d K g mc root) W6.drew) := HKB.out _ _ H6.out.1 (by omega) dd
    have HMC : Hid (mc = W5.heap.size) := hmc
    have HZ6 : Hid (W6.heap.size = mc + 1 + 1) := hz6m
    have hz6l : mc + 1 + 1 ≤ W6.heap.size := by omega
    clear kS6 d6 hmc hz6m z6
    refine wp_regionD (fun u => u.cell? ⟨w.heap.size, 0, none⟩ = some (.slice d.sa K.n d.sc) ∧ u.cell? ⟨w.heap.size, 1, none⟩ = some (.slice d.pa K.m d.pc) ∧ u.cell? ⟨w.heap.size, 2, none⟩ = some (.int .i64 gen) ∧ u.cell? ⟨w.heap.size, 3, none⟩ = some (.int .i64 root) ∧ u.cell? ⟨w.heap.size, 4, none⟩ = some (.int .i64 used) ∧ u.cell? ⟨w.heap.size, 5, none⟩ = some (.int .i64 free)) (fun k => decide (13 ≤ k)) (by kernel_rfl) ?_
    refine wpAnyD_takeT 0 25 (v := ?vva0) rfl rfl (by kernel_rfl) (by kernel_rfl) (by kernel_rfl) (by kernel_rfl) (fun _ _ _ h => h) (Or.inl ⟨by rfl, ?hya0⟩) cs ?resta0
    case hya0 => (intro w hSw; (try dsimp only at hSw); go_simp; try with_reducible rfl)
    simp only [Act.put, List.setIfInBounds_toArray, List.set_cons_zero, List.set_cons_succ]
    refine wpAnyD_takeT 1 26 (v := ?vva1) rfl rfl (by kernel_rfl) (by kernel_rfl) (by kernel_rfl) (by kernel_rfl) (fun _ _ _ h => h) (Or.inl ⟨by rfl, ?hya1⟩) cs ?resta1
    case hya1 => (intro w hSw; (try dsimp only at hSw); go_simp; try with_reducible rfl)
    simp only [Act.put, List.setIfInBounds_toArray, List.set_cons_zero, List.set_cons_succ]
    refine wpAnyD_takeT 2 27 (v := ?vva2) rfl rfl (by kernel_rfl) (by kernel_rfl) (by kernel_rfl) (by kernel_rfl) (fun _ _ _ h => h) (Or.inl ⟨by rfl, ?hya2⟩) cs ?resta2
    case hya2 => (intro w hSw; (try dsimp only at hSw); go_simp; try with_reducible rfl)
    simp only [Act.put, List.setIfInBounds_toArray, List.set_cons_zero, List.set_cons_succ]
    refine wpAnyD_takeT 3 28 (v := ?vva3) rfl rfl (by kernel_rfl) (by kernel_rfl) (by kernel_rfl) (by kernel_rfl) (fun _ _ _ h => h) (Or.inl ⟨by rfl, ?hya3⟩) cs ?resta3
    case hya3 => (intro w hSw; (try dsimp only at hSw); go_simp; try with_reducible rfl)
    simp only [Act.put, List.setIfInBounds_toArray, List.set_cons_zero, List.set_cons_succ]
    refine wpAnyD_takeT 5 30 (v := ?vva4) rfl rfl (by kernel_rfl) (by kernel_rfl) (by kernel_rfl) (by kernel_rfl) (fun _ _ _ h => h) (Or.inl ⟨by rfl, ?hya4⟩) cs ?resta4
    case hya4 => (intro w hSw; (try dsimp only at hSw); go_simp; try with_reducible rfl)
    simp only [Act.put, List.setIfInBounds_toArray, List.set_cons_zero, List.set_cons_succ]
    refine wpAnyD_takeT 6 31 (v := ?vva5) rfl rfl (by kernel_rfl) (by kernel_rfl) (by kernel_rfl) (by kernel_rfl) (fun _ _ _ h => h) (Or.inl ⟨by rfl, ?hya5⟩) cs ?resta5
    case hya5 => (intro w hSw; (try dsimp only at hSw); go_simp; try with_reducible rfl)
    simp only [Act.put, List.setIfInBounds_toArray, List.set_cons_zero, List.set_cons_succ]
    refine wpAnyD_two 4 11 (by kernel_rfl) rfl rfl (fun KK hK => ?_) (fun KK hK => ?_)
    · rw [if_pos (show Region.wanted _ _ = true from rfl)]
      have DP := HDP.out W6.drew
      go_wp2_with fail
      refine DP.mono ?_
      rintro e u1 ⟨rfl, b1⟩
      have o61 : OnlyS (fun k => k = mc) W6 u1 := (OnlyS.ofBelow dd).trans (OnlyS.ofBelow b1)
      have C1 : CS (pgD K) W5 (mc + 1) mc (woC d K g mc root) u1 := HKB.out _ _ C6.out (show mc + 1 + 1 ≤ W6.heap.size by omega) b1
      have hzu1 := o61.size
      refine hK.out _ _ (fun _ => HCS.out _ (o61.below (by omega) (fun k e => by omega))) ?_
      clear hK KK
      refine wpAnyD_two 7 11 (by kernel_rfl) rfl rfl (fun KK hK => ?_) (fun KK hK => ?_)
      · rw [if_pos (show Region.wanted _ _ = true from rfl)]
        have HI := HIN.out u1 o61 C1
        unfold supC at HI
        go_wp2_with fail
        refine HI.mono ?_
        rintro e v1 ⟨o1, s1, cs1, hcl1, hco1, rfl⟩
        have ck1 := HCS.out v1 ((o61.trans o1).below (by omega) (fun k e => by omega))
        refine hK.out _ _ (fun _ => ck1) ?_
        clear hK KK
        refine wpAnyD_takeT 8 24 (v := ?vvf0) rfl rfl (by kernel_rfl) (by kernel_rfl) (by kernel_rfl) (by kernel_rfl) (fun _ _ _ h => h) (Or.inl ⟨by rfl, ?hyf0⟩) ck1 ?restf0
        case hyf0 => (intro w hSw; (try dsimp only at hSw); go_simp; try with_reducible rfl)
        simp only [Act.put, List.setIfInBounds_toArray, List.set_cons_zero, List.set_cons_succ]
        refine wpAnyD_takeT 9 33 (v := ?vvf1) rfl rfl (by kernel_rfl) (by kernel_rfl) (by kernel_rfl) (by kernel_rfl) (fun _ _ _ h => h) (Or.inl ⟨by rfl, ?hyf1⟩) ck1 ?restf1
        case hyf1 => (intro w hSw; (try dsimp only at hSw); go_simp; try with_reducible rfl)
        simp only [Act.put, List.setIfInBounds_toArray, List.set_cons_zero, List.set_cons_succ]
        refine wpAnyD_takeT 10 34 (v := ?vvf2) rfl rfl (by kernel_rfl) (by kernel_rfl) (by kernel_rfl) (by kernel_rfl) (fun _ _ _ h => h) (Or.inl ⟨by rfl, ?hyf2⟩) ck1 ?restf2
        case hyf2 => (intro w hSw; (try dsimp only at hSw); go_simp; try with_reducible rfl)
        simp only [Act.put, List.setIfInBounds_toArray, List.set_cons_zero, List.set_cons_succ]
        refine wpAnyD_one 11 (by kernel_rfl) rfl (fun KK hK => ?_)
        rw [if_pos (show Region.wanted _ _ = true from rfl)]
        go_wp2_with fail
        have q9 : Below v1.heap.size v1 (v1.alloc (Obj.cells hoZ.toArray 148)) := (Below.refl _ _).alloc (Nat.le_refl _) _
        have hz9 := (o61.trans o1).size
        have ck9 := HCS.out (v1.alloc (Obj.cells hoZ.toArray 148)) (((o61.trans o1).below (by omega) (fun k e => by omega)).trans (q9.mono (by omega)))
        refine hK.out _ _ (fun _ => ck9) ?_
        clear hK KK
        have kh1 : Blk (v1.alloc (Obj.cells hoZ.toArray 148)) 148 v1.heap.size hoZ := blk_new v1 _ _
        have of1 : OnlyS (fun k => k = mc) W6 (v1.alloc (Obj.cells hoZ.toArray 148)) := (o61.trans o1).trans (OnlyS.ofBelow q9)
        have sf1 : r = true → CS (pgD K) W5 (mc + 1) mc (woC d K g mc root) (v1.alloc (Obj.cells hoZ.toArray 148)) := fun hr => HKB.out _ _ (s1 hr) (by omega) q9
        have hl1 : mc + 1 + 1 ≤ v1.heap.size := by omega
        clear ck1
        have sC : (Tryz.prog.info? 148).map (·.size) = some cs1.toArray.size := by rw [List.size_toArray, hcl1]; exact sizeHo
        have hco' := all_one hco1
        have E9 := HEND.out (v1.alloc (Obj.cells hoZ.toArray 148)) ((v1.alloc (Obj.cells hoZ.toArray 148)).setRow v1.heap.size cs1.toArray) v1.heap.size hoZ [] of1 sf1 kh1 hl1 (onlyB_setRow _ _ _)
        refine wpAnyD_one 12 (by kernel_rfl) rfl (fun KK hK => ?_)
        rw [if_pos (show Region.wanted _ _ = true from rfl)]
        refine wp_store_row 148 _ _ rfl v1.heap.size cs1.toArray rfl rfl 148 _ kh1 sC (by rw [List.size_toArray, List.size_toArray, hcl1]; rfl) hco' ?_
        refine hK.out _ _ (fun _ => HCS.out _ E9.1) ?_
        clear hK KK
        refine wpAnyD_one 13 (by kernel_rfl) rfl (fun KK hK => ?_)
        rw [if_pos (show Region.wanted _ _ = true from rfl)]
        go_wp2_with fail
        refine hK.out _ _ (fun h => absurd h (by decide)) ?_
        clear hK KK
        refine wpAnyD_done (by kernel_rfl) ?_ _
        have F9 : Hid _ := HFIN.out _ E9.1 E9.2
        clear E9 kh1 of1 sf1 hco1 HEND HIN HDP HCS HKB HFIN
        cases r with
        | true =>
          go_wp2_with fail
          go_ret2
          exact F9.out
        | false =>
          go_wp2_with fail
          go_ret2
          exact F9.out
      · rw [if_pos (show Region.wanted _ _ = true from rfl)]
        go_wp2_with fail
        have q9 : Below u1.heap.size u1 (u1.alloc (Obj.cells hoZ.toArray 148)) := (Below.refl _ _).alloc (Nat.le_refl _) _
        have hz9 := o61.size
        have ck9 := HCS.out (u1.alloc (Obj.cells hoZ.toArray 148)) ((o61.below (by omega) (fun k e => by omega)).trans (q9.mono (by omega)))
        have o69 : OnlyS (fun k => k = mc) W6 (u1.alloc (Obj.cells hoZ.toArray 148)) := o61.trans (OnlyS.ofBelow q9)
        have C9 : CS (pgD K) W5 (mc + 1) mc (woC d K g mc root) (u1.alloc (Obj.cells hoZ.toArray 148)) := HKB.out _ _ C1 (by omega) q9
        have kh9 : Blk (u1.alloc (Obj.cells hoZ.toArray 148)) 148 u1.heap.size hoZ := blk_new u1 _ _
        have hl9 : mc + 1 + 1 ≤ u1.heap.size := by omega
        refine hK.out _ _ (fun _ => ck9) ?_
        clear hK KK
        refine wpAnyD_one 7 (by kernel_rfl) rfl (fun KK hK => ?_)
        rw [if_pos (show Region.wanted _ _ = true from rfl)]
        have HI := HIN.out (u1.alloc (Obj.cells hoZ.toArray 148)) o69 C9
        unfold supC at HI
        go_wp2_with fail
        refine HI.mono ?_
        rintro e v2 ⟨o2, s2, cs2, hcl2, hco2, rfl⟩
        have of2 : OnlyS (fun k => k = mc) W6 v2 := o69.trans o2
        have kh2 : Blk v2 148 u1.heap.size hoZ := Blk.onlyS kh9 o2 (fun e => by omega)
        have ck2 := HCS.out v2 (of2.below (by omega) (fun k e => by omega))
        have hl2 := hl9
        have sf2 := s2
        refine hK.out _ _ (fun _ => ck2) ?_
        clear hK KK
        refine wpAnyD_takeT 8 24 (v := ?vvg20) rfl rfl (by kernel_rfl) (by kernel_rfl) (by kernel_rfl) (by kernel_rfl) (fun _ _ _ h => h) (Or.inl ⟨by rfl, ?hyg20⟩) ck2 ?restg20
        case hyg20 => (intro w hSw; (try dsimp only at hSw); go_simp; try with_reducible rfl)
        simp only [Act.put, List.setIfInBounds_toArray, List.set_cons_zero, List.set_cons_succ]
        refine wpAnyD_takeT 9 33 (v := ?vvg21) rfl rfl (by kernel_rfl) (by kernel_rfl) (by kernel_rfl) (by kernel_rfl) (fun _ _ _ h => h) (Or.inl ⟨by rfl, ?hyg21⟩) ck2 ?restg21
        case hyg21 => (intro w hSw; (try dsimp only at hSw); go_simp; try with_reducible rfl)
        simp only [Act.put, List.setIfInBounds_toArray, List.set_cons_zero, List.set_cons_succ]
        refine wpAnyD_takeT 10 34 (v := ?vvg22) rfl rfl (by kernel_rfl) (by kernel_rfl) (by kernel_rfl) (by kernel_rfl) (fun _ _ _ h => h) (Or.inl ⟨by rfl, ?hyg22⟩) ck2 ?restg22
        case hyg22 => (intro w hSw; (try dsimp only at hSw); go_simp; try with_reducible rfl)
        simp only [Act.put, List.setIfInBounds_toArray, List.set_cons_zero, List.set_cons_succ]
        have sC : (Tryz.prog.info? 148).map (·.size) = some cs2.toArray.size := by rw [List.size_toArray, hcl2]; exact sizeHo
        have hco' := all_one hco2
        have E9 := HEND.out v2 (v2.setRow u1.heap.size cs2.toArray) u1.heap.size hoZ [] of2 sf2 kh2 hl2 (onlyB_setRow _ _ _)
        refine wpAnyD_one 12 (by kernel_rfl) rfl (fun KK hK => ?_)
        rw [if_pos (show Region.wanted _ _ = true from rfl)]
        refine wp_store_row 148 _ _ rfl u1.heap.size cs2.toArray rfl rfl 148 _ kh2 sC (by rw [List.size_toArray, List.size_toArray, hcl2]; rfl) hco' ?_
        refine hK.out _ _ (fun _ => HCS.out _ E9.1) ?_
        clear hK KK
        refine wpAnyD_one 13 (by kernel_rfl) rfl (fun KK hK => ?_)
        rw [if_pos (show Region.wanted _ _ = true from rfl)]
        go_wp2_with fail
        refine hK.out _ _ (fun h => absurd h (by decide)) ?_
        clear hK KK
        refine wpAnyD_done (by kernel_rfl) ?_ _
        have F9 : Hid _ := HFIN.out _ E9.1 E9.2
        clear E9 kh2 of2 sf2 hco2 HEND HIN HDP HCS HKB HFIN
        cases r with
        | true =>
          go_wp2_with fail
          go_ret2
          exact F9.out
        | false =>
          go_wp2_with fail
          go_ret2
          exact F9.out
    · rw [if_pos (show Region.wanted _ _ = true from rfl)]
      go_wp2_with fail
      have q9 : Below W6.drew.heap.size W6.drew (W6.drew.alloc (Obj.cells hoZ.toArray 148)) := (Below.refl _ _).alloc (Nat.le_refl _) _
      have o69 : OnlyS (fun k => k = mc) W6 (W6.drew.alloc (Obj.cells hoZ.toArray 148)) := (OnlyS.ofBelow dd).trans (OnlyS.ofBelow q9)
      have hz9 := o69.size
      have ck9 := HCS.out (W6.drew.alloc (Obj.cells hoZ.toArray 148)) (o69.below (by omega) (fun k e => by omega))
      have C9 : CS (pgD K) W5 (mc + 1) mc (woC d K g mc root) (W6.drew.alloc (Obj.cells hoZ.toArray 148)) := HKB.out _ _ C6.out (show mc + 1 + 1 ≤ W6.heap.size by omega) q9
      have kh9 : Blk (W6.drew.alloc (Obj.cells hoZ.toArray 148)) 148 W6.heap.size hoZ := blk_new W6.drew _ _
      have hl9 : mc + 1 + 1 ≤ W6.heap.size := by omega
      refine hK.out _ _ (fun _ => ck9) ?_
      clear hK KK
      refine wpAnyD_one 4 (by kernel_rfl) rfl (fun KK hK => ?_)
      rw [if_pos (show Region.wanted _ _ = true from rfl)]
      have DP := HDP.out (W6.drew.alloc (Obj.cells hoZ.toArray 148))
      go_wp2_with fail
      refine DP.mono ?_
      rintro e u3 ⟨rfl, b3⟩
      have hz3 := b3.size
      have o63 : OnlyS (fun k => k = mc) W6 u3 := o69.trans (OnlyS.ofBelow b3)
      have C3 : CS (pgD K) W5 (mc + 1) mc (woC d K g mc root) u3 := HKB.out _ _ C9 (by omega) b3
      have kh3 := kh9.below b3
      have ck3 := HCS.out u3 (o63.below (by omega) (fun k e => by omega))
      refine hK.out _ _ (fun _ => ck3) ?_
      clear hK KK kh9
      refine wpAnyD_one 7 (by kernel_rfl) rfl (fun KK hK => ?_)
      rw [if_pos (show Region.wanted _ _ = true from rfl)]
      have HI := HIN.out u3 o63 C3
      unfold supC at HI
      go_wp2_with fail
      refine HI.mono ?_
      rintro e v4 ⟨o4, s4, cs4, hcl4, hco4, rfl⟩
      have of4 : OnlyS (fun k => k = mc) W6 v4 := o63.trans o4
      have kh4 : Blk v4 148 W6.heap.size hoZ := Blk.onlyS kh3 o4 (fun e => by omega)
      have ck4 := HCS.out v4 (of4.below (by omega) (fun k e => by omega))
      have hl4 := hl9
      have sf4 := s4
      refine hK.out _ _ (fun _ => ck4) ?_
      clear hK KK
      refine wpAnyD_takeT 8 24 (v := ?vvg40) rfl rfl (by kernel_rfl) (by kernel_rfl) (by kernel_rfl) (by kernel_rfl) (fun _ _ _ h => h) (Or.inl ⟨by rfl, ?hyg40⟩) ck4 ?restg40
      case hyg40 => (intro w hSw; (try dsimp only at hSw); go_simp; try with_reducible rfl)
      simp only [Act.put, List.setIfInBounds_toArray, List.set_cons_zero, List.set_cons_succ]
      refine wpAnyD_takeT 9 33 (v := ?vvg41) rfl rfl (by kernel_rfl) (by kernel_rfl) (by kernel_rfl) (by kernel_rfl) (fun _ _ _ h => h) (Or.inl ⟨by rfl, ?hyg41⟩) ck4 ?restg41
      case hyg41 => (intro w hSw; (try dsimp only at hSw); go_simp; try with_reducible rfl)
      simp only [Act.put, List.setIfInBounds_toArray, List.set_cons_zero, List.set_cons_succ]
      refine wpAnyD_takeT 10 34 (v := ?vvg42) rfl rfl (by kernel_rfl) (by kernel_rfl) (by kernel_rfl) (by kernel_rfl) (fun _ _ _ h => h) (Or.inl ⟨by rfl, ?hyg42⟩) ck4 ?restg42
      case hyg42 => (intro w hSw; (try dsimp only at hSw); go_simp; try with_reducible rfl)
      simp only [Act.put, List.setIfInBounds_toArray, List.set_cons_zero, List.set_cons_succ]
      have sC : (Tryz.prog.info? 148).map (·.size) = some cs4.toArray.size := by rw [List.size_toArray, hcl4]; exact sizeHo
      have hco' := all_one hco4
      have E9 := HEND.out v4 (v4.setRow W6.heap.size cs4.toArray) W6.heap.size hoZ [] of4 sf4 kh4 hl4 (onlyB_setRow _ _ _)
      refine wpAnyD_one 12 (by kernel_rfl) rfl (fun KK hK => ?_)
      rw [if_pos (show Region.wanted _ _ = true from rfl)]
      refine wp_store_row 148 _ _ rfl W6.heap.size cs4.toArray rfl rfl 148 _ kh4 sC (by rw [List.size_toArray, List.size_toArray, hcl4]; rfl) hco' ?_
      refine hK.out _ _ (fun _ => HCS.out _ E9.1) ?_
      clear hK KK
      refine wpAnyD_one 13 (by kernel_rfl) rfl (fun KK hK => ?_)
      rw [if_pos (show Region.wanted _ _ = true from rfl)]
      go_wp2_with fail
      refine hK.out _ _ (fun h => absurd h (by decide)) ?_
      clear hK KK
      refine wpAnyD_done (by kernel_rfl) ?_ _
      have F9 : Hid _ := HFIN.out _ E9.1 E9.2
      clear E9 kh4 of4 sf4 hco4 HEND HIN HDP HCS HKB HFIN
      cases r with
      | true =>
        go_wp2_with fail
        go_ret2
        exact F9.out
      | false =>
        go_wp2_with fail
        go_ret2
        exact F9.out
end Go.Proofs.YtnohmedccbogkaaGreatDoor

namespace Go.Proofs.YtnohmedccbogkaaGreatDoor
open Go.RowKit






end Go.Proofs.YtnohmedccbogkaaGreatDoor

