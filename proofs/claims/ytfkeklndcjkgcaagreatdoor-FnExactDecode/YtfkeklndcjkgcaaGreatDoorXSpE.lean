/-
  OWN WORK. Decode of the specification.
-/
import Derived.Test.YtfkeklndcjkgcaaGreatDoorXsD
import Derived.Deep.DeepCutAuto
import Derived.Deep.LoopGhost
import Derived.Deep.CutRange
namespace Go.Proofs.YtfkeklndcjkgcaaGreatDoor
open Go.RowKit
attribute [local go_sem] run_store_float
set_option linter.unusedVariables false
set_option linter.unusedSimpArgs false

/-- The specification's reader at work on a code. -/
structure SRd (w : World) (ab off n cap : Nat) (bs : List UInt8) (xs : List FC) (sv : Value) (p7 : Nat) (bd7 : Bool) (wr : World) : Prop where
  rs : RS wr (w.heap.size + 1) (some ⟨ab, off, none⟩) n cap p7 bd7
  bel : Below w.heap.size w wr
  g0 : wr.heap[w.heap.size]? = some (.cells #[nl] 29)
  g1 : wr.heap[w.heap.size + 1 + 1]? = some (.cells #[sv] 29)
  row : ORow wr (w.heap.size + 3) 50 9 FC.cells sv xs
  own : ∀ x ∈ xs, x.orow wr (w.heap.size + 3)
  di : ∀ x ∈ xs, DI n x.d
  sz : w.heap.size + 3 ≤ wr.heap.size
  pn : p7 ≤ n
theorem SRd.rb {w : World} {ab off n cap : Nat} {bs : List UInt8} {xs : List FC} {sv : Value} {p7 : Nat} {bd7 : Bool} {wr : World} (h : SRd w ab off n cap bs xs sv p7 bd7 wr) (hby : ∀ (i : Nat) (u : UInt8), bs[i]? = some u → w.cell? ⟨ab, off + i, none⟩ = some (.int .u8 (u.toNat : Int))) (hab : ab < w.heap.size) : RB wr (w.heap.size + 1) (some ⟨ab, off, none⟩) bs :=
  fun i u hu => ⟨ab, off, rfl, by omega, Nat.lt_of_lt_of_le hab h.bel.size, cell_later h.bel (hby i u hu)⟩
theorem code_at {w : World} {lo n : Nat} {a : Option Addr} {len cp : Nat} {xs : List FC} (row : ORow w lo 50 9 FC.cells (.slice a len cp) xs) (own : ∀ x ∈ xs, x.orow w lo) (di : ∀ f ∈ xs.map FC.d, DI n f) (hn : n ≤ 1000000) (hl : xs.length ≤ 1000000) (ha : insS xs ≤ 1000000) : CodeAt w a xs := by
  obtain ⟨a', cp', e, hs⟩ := row.lies FC.len
  cases e
  exact ⟨hs, fun x hx => (own x hx).lie, fun x hx => di_ok (di x.d (List.mem_map.2 ⟨x, hx, rfl⟩)) hn, by omega, by unfold insS at ha; omega⟩
theorem SRd.code {w : World} {ab off n cap : Nat} {bs : List UInt8} {xs : List FC} {sv : Value} {p7 : Nat} {bd7 : Bool} {wr : World} (h : SRd w ab off n cap bs xs sv p7 bd7 wr) (hn : n ≤ 1000000) (hl : xs.length ≤ 1000000) (ha : insS xs ≤ 1000000) : ∃ a cp, sv = .slice a xs.length cp ∧ CodeAt wr a xs := by
  obtain ⟨a, cp, e, hs⟩ := h.row.lies FC.len
  exact ⟨a, cp, e, hs, fun x hx => (h.own x hx).lie, fun x hx => di_ok (h.di x hx) hn, by omega, by unfold insS at ha; omega⟩

def SDec (bs : List UInt8) (w : World) (e : Ending) (w' : World) : Prop := (∃ a cp xs, e = .returned (.agg #[.slice a xs.length cp]) ∧ CodeAt w' a xs ∧ DecP bs (xs.map FC.d)) ∧ Below w.heap.size w w'
theorem SDec.zero {bs : List UInt8} {w w' : World} (hd : DecP bs []) (hb : Below w.heap.size w w') : SDec bs w (.returned (.agg #[nl])) w' :=
  ⟨⟨none, 0, [], rfl, ⟨SlA.nil _ _ _ _, (fun x hx => by cases hx), (fun x hx => by cases hx), by simp, by simp⟩, hd⟩, hb⟩

set_option maxRecDepth 20000 in
set_option maxHeartbeats 32000000 in
theorem sdec_any (ab off n cap : Nat) (bs : List UInt8) (w : World) (hby : ∀ (i : Nat) (u : UInt8), bs[i]? = some u → w.cell? ⟨ab, off + i, none⟩ = some (.int .u8 (u.toNat : Int))) (hab : ab < w.heap.size) (hn : bs.length = n) (hcap : n ≤ cap) (hcm : cap ≤ maxLen) :
    Calls Tryz.prog 17 #[.slice (some ⟨ab, off, none⟩) n cap] w (SDec bs w) := by
  have HBY : Hid (∀ (i : Nat) (u : UInt8), bs[i]? = some u → w.cell? ⟨ab, off + i, none⟩ = some (.int .u8 (u.toNat : Int))) := hby
  have HN : Hid (bs.length = n) := hn
  have HCM : Hid (cap ≤ maxLen) := hcm
  have hcm2 := hcm
  unfold maxLen at hcm2
  clear hby hn hcm
  by_cases k0 : n < 3
  · have HD : Hid (DecP bs []) := DecP.no fun ys r0 hy hd => by
      have h1 := congrArg List.length hd
      rw [HN.out] at h1
      simp only [imageL, List.length_append, List.length_cons, List.length_nil] at h1
      omega
    go_enter Tryz.func17, Tryz.ntmps17
    go_wp2_with fail
    refine bodyPost_ret (v := .agg #[nl]) (by simp [results, Tryz.results17, go_sem]) rfl (SDec.zero HD.out (bw1 _ _))
  by_cases k1 : 1000000 < n
  · have HD : Hid (DecP bs []) := DecP.long (by rw [HN.out]; exact k1)
    go_enter Tryz.func17, Tryz.ntmps17
    go_wp2_with fail
    refine bodyPost_ret (v := .agg #[nl]) (by simp [results, Tryz.results17, go_sem]) rfl (SDec.zero HD.out (bw1 _ _))
  have hn2 : n ≤ 1000000 := by omega
  obtain ⟨W, hW⟩ : ∃ W, W = ((w.alloc (.cells #[nl] 29)).alloc (.cells #[.slice (some ⟨ab, off, none⟩) n cap, .int .i64 3, .bool false] 82)).alloc (.cells #[nl] 29) := ⟨_, rfl⟩
  have hWs : W.heap.size = w.heap.size + 3 := by rw [hW]; simp
  have hbW : Below w.heap.size w W := by rw [hW]; exact bw3 _ _ _ _
  have G0 : W.heap[w.heap.size]? = some (.cells #[nl] 29) := by rw [hW]; exact blk_old (blk_old (blk_new _ _) _) _
  have GR : RS W (w.heap.size + 1) (some ⟨ab, off, none⟩) n cap 3 false := by rw [hW]; exact blk_old (blk_newn (by simp) _) _
  have G1 : W.heap[w.heap.size + 1 + 1]? = some (.cells #[nl] 29) := by rw [hW]; exact blk_newn (by simp) _
  have hS : SRd w ab off n cap bs [] nl 3 false W := ⟨GR, hbW, G0, G1, ORow.nil _ _ _ _ _, (fun x hx => by cases hx), (fun x hx => by cases hx), by omega, by omega⟩
  have HC : Hid _ := rcount_any (w.heap.size + 1) (some ⟨ab, off, none⟩) n cap 3 false bs W GR (hS.rb HBY.out hab) HN.out hn2 (by omega)
  have HS : Hid (SRd w ab off n cap bs [] nl 3 false W) := hS
  clear hWs hbW G0 GR G1 hS
  go_enter Tryz.func17, Tryz.ntmps17
  go_wp2_with fail
  rw [← hW]
  clear hW
  refine Calls.mono HC.out ?_
  rintro e w1 ⟨kk, p1, bd1, rfl, hr, hk, hq1, hq2, hf, hq⟩
  have HS1 : Hid (SRd w ab off n cap bs [] nl p1 bd1 w1) := by
    have S := HS.out
    exact ⟨hr, ⟨hk.os.trans S.bel.os, hk.tape.trans S.bel.tape, hk.output.trans S.bel.output, Nat.le_trans S.bel.size hk.size, fun j hj => (hk.block j (Nat.lt_of_lt_of_le hj S.bel.size) (by omega)).trans (S.bel.block j hj)⟩, hk.blk S.g0 (by omega), hk.blk S.g1 (by omega), ORow.nil _ _ _ _ _, (fun x hx => by cases hx), (fun x hx => by cases hx), Nat.le_trans S.sz hk.size, by omega⟩
  have HF1 : Hid (bd1 = false → 3 + 0 < p1) := fun h => by have := (hf h).2; omega
  have HT1 : Hid (∀ (ys : List FD) r0, (∀ y ∈ ys, FOk y) → bs = imageL ys ++ r0 → bd1 = false ∧ kk + 0 = ys.length ∧ bs.drop p1 = ys.flatMap protoL ++ r0) := fun ys r0 hy hd => by
    obtain ⟨g1, g2⟩ := list_cnt protoL_ge (bs := bs) (p := 3) (r0 := r0) (ys := ys) (by rw [hd]; simp [imageL])
    obtain ⟨g3, g4, g5⟩ := hq ys.length _ g1 g2
    exact ⟨g5, g3, g4⟩
  have hk1 : kk ≤ 1000000 := by omega
  clear hr hk hf hq HC HS
  go_wp2_with fail
  go_loopg [5] kk (fun m s5 wr => ∃ (xs : List FC) (sv : Value) (p7 : Nat) (bd7 : Bool), s5 = .int .i64 (m : Int) ∧ m ≤ 1000000 ∧ Hid (m + xs.length ≤ 1000000) ∧ Hid (SRd w ab off n cap bs xs sv p7 bd7 wr) ∧ Hid (bd7 = false → 3 + insS xs < p7) ∧ Hid (∀ (ys : List FD) r0, (∀ y ∈ ys, FOk y) → bs = imageL ys ++ r0 → bd7 = false ∧ m + xs.length = ys.length ∧ xs.map FC.d = ys.take xs.length ∧ bs.drop p7 = (ys.drop xs.length).flatMap protoL ++ r0))
  case atStart => exact ⟨[], nl, p1, bd1, rfl, hk1, by show kk + 0 ≤ _; omega, HS1, HF1, fun ys r0 hy hd => ⟨(HT1.out ys r0 hy hd).1, (HT1.out ys r0 hy hd).2.1, rfl, (HT1.out ys r0 hy hd).2.2⟩⟩
  case round =>
    clear HS1 HF1 HT1
    obtain ⟨xs, sv, p7, bd7, rfl, hm, HL, HS, HF, HT⟩ := hrel
    obtain ⟨bq, hbq⟩ : ∃ bq : Bool, bq = (decide (0 < gk) && !bd7) := ⟨_, rfl⟩
    have HBQ : Hid (bq = (decide (0 < gk) && !bd7)) := hbq
    clear hbq
    go_upto_region 6 with fail
    go_cut [29] (fun s29 wx => s29 = .bool bq ∧ wx = wr)
    case first =>
      have r2 : wr.cell? ⟨w.heap.size + 1, 2, none⟩ = some (.bool bd7) := (blk_cell HS.out.rs 2).trans rfl
      by_cases k1 : 0 < gk
      · have k2 : (0 : Int) < (gk : Int) := by omega
        go_wp2_with fail
        go_meet
        case rel => exact ⟨by rw [HBQ.out]; simp [k1], rfl⟩
      · obtain rfl : gk = 0 := by omega
        go_wp2_with fail
        go_meet
        case rel => exact ⟨by rw [HBQ.out]; simp, rfl⟩
    case rest =>
      obtain ⟨rfl, rfl⟩ := hcut
      cases bq with
      | true =>
        have hb7 : 0 < gk ∧ bd7 = false := by have := HBQ.out; simpa using this.symm
        obtain ⟨hgk, hbd⟩ := hb7
        subst hbd
        have HP : Hid _ := rproto_any (w.heap.size + 1) ab off n cap p7 false bs wc HS.out.rs (HS.out.rb HBY.out hab) HN.out hn2 hcap HCM.out HS.out.pn
        go_wp2_with fail
        refine Calls.mono HP.out ?_
        rintro e w2 ⟨d, su, sc, si, sn, p8, bd8, rfl, hdi, hru, hrc, hri, hrn, hr8, hk8, hp8, hp9, hf8, hq8⟩
        have S := HS.out
        have hb2 : Below w.heap.size w w2 := ⟨hk8.os.trans S.bel.os, hk8.tape.trans S.bel.tape, hk8.output.trans S.bel.output, Nat.le_trans S.bel.size hk8.size, fun j hj => (hk8.block j (Nat.lt_of_lt_of_le hj S.bel.size) (by omega)).trans (S.bel.block j hj)⟩
        obtain ⟨au, cu, rfl⟩ := hru.val
        obtain ⟨ac, cc, rfl⟩ := hrc.val
        obtain ⟨ai, ci, rfl⟩ := hri.val
        obtain ⟨an, cn, rfl⟩ := hrn.val
        obtain ⟨x, hxd⟩ : ∃ x : FC, x = ⟨d, au, cu, ac, cc, ai, ci, an, cn⟩ := ⟨_, rfl⟩
        have hxo : x.orow w2 (w.heap.size + 3) := by rw [hxd]; exact FC.orow.base ⟨hru, hrc, hri, hrn⟩ S.sz
        have hov : FC.cells x = [.string d.name, .int .i64 d.line, .int .i64 d.params, .bool d.rest, .int .i64 d.regs, .slice au d.ups.length cu, .slice ac d.consts.length cc, .slice ai d.ins.length ci, .slice an d.named.length cn] := by rw [hxd]; rfl
        have hdx : x.d = d := by rw [hxd]
        obtain ⟨V, hV⟩ : ∃ V, V = w2.alloc (.cells #[.string d.name, .int .i64 d.line, .int .i64 d.params, .bool d.rest, .int .i64 d.regs, .slice au d.ups.length cu, .slice ac d.consts.length cc, .slice ai d.ins.length ci, .slice an d.named.length cn] 50) := ⟨_, rfl⟩
        have hV1 : Below w2.heap.size w2 V := by rw [hV]; exact bw1 _ _
        have hVs : V.heap.size = w2.heap.size + 1 := by rw [hV]; simp
        have hb2V : Below w2.heap.size w2 (V.alloc (.cells #[.string d.name, .int .i64 d.line, .int .i64 d.params, .bool d.rest, .int .i64 d.regs, .slice au d.ups.length cu, .slice ac d.consts.length cc, .slice ai d.ins.length ci, .slice an d.named.length cn] 50)) := hV1.trans ((bw1 V _).mono hV1.size)
        have keep2 : ∀ j, w.heap.size + 3 ≤ j → j < wc.heap.size → w2.heap[j]? = wc.heap[j]? := fun j hj hjl => hk8.block j hjl (by omega)
        have hrow2 : ORow w2 (w.heap.size + 3) 50 9 FC.cells sv xs := S.row.keep fun j ar hj he => keep2 j hj (blk_lt he)
        have hown2 : ∀ y ∈ xs, y.orow w2 (w.heap.size + 3) := fun y hy => (S.own y hy).keep keep2
        have HO2 : Hid (ORow (V.alloc (.cells #[.string d.name, .int .i64 d.line, .int .i64 d.params, .bool d.rest, .int .i64 d.regs, .slice au d.ups.length cu, .slice ac d.consts.length cc, .slice ai d.ins.length ci, .slice an d.named.length cn] 50)) (w.heap.size + 3) 50 9 FC.cells sv xs) := hrow2.later hb2V
        obtain ⟨g', cap', w3, HA, hO3, hgr⟩ := HO2.out.app 27 144 (by kernel_rfl) (by kernel_rfl) (by decide) (by decide) x (w2.heap.size + 1) 27 (by rw [hov]; exact blk_newn hVs _) rfl (by cases x; simp [FC.cells, Value.oneCell']) (by have := HL.out; omega) (by have := S.sz; have := hk8.size; have := hb2V.size; omega)
        have hg13 : w3.heap[w.heap.size + 1 + 1]? = some (.cells #[sv] 29) := HO2.out.other hgr (blk_later hb2V (hk8.blk S.g1 (by omega))) (by decide)
        have hg03 : w3.heap[w.heap.size]? = some (.cells #[nl] 29) := HO2.out.other hgr (blk_later hb2V (hk8.blk S.g0 (by omega))) (by decide)
        have hr3 : RS w3 (w.heap.size + 1) (some ⟨ab, off, none⟩) n cap p8 bd8 := HO2.out.other hgr (blk_later hb2V hr8) (by decide)
        have hb3 : Below w.heap.size w w3 := by
          have h1 := hb2.trans (hb2V.mono hb2.size)
          exact ⟨hgr.os.trans h1.os, hgr.tape.trans h1.tape, hgr.output.trans h1.output, Nat.le_trans h1.size hgr.size, fun j hj => (hgr.block j (Nat.lt_of_lt_of_le hj h1.size) (fun he => by have := owns_ge HO2.out he.symm; omega)).trans (h1.block j hj)⟩
        have hown3 : ∀ y ∈ xs ++ [x], y.orow w3 (w.heap.size + 3) := fun y hy => by
          rcases List.mem_append.1 hy with h | h
          · exact ((hown2 y h).later hb2V).app HO2.out hgr
          · rw [List.mem_singleton.1 h]
            exact (hxo.later hb2V).app HO2.out hgr
        have HS3 : Hid (SRd w ab off n cap bs (xs ++ [x]) (.slice (some ⟨g', 0, none⟩) (xs.length + 1) cap') p8 bd8 (w3.setCell ⟨w.heap.size + 1 + 1, 0, none⟩ (.slice (some ⟨g', 0, none⟩) (xs.length + 1) cap'))) := by
          refine ⟨RS.put hr3 _ (by omega) _ _, hb3.setCell (p := ⟨w.heap.size + 1 + 1, 0, none⟩) (by show w.heap.size ≤ w.heap.size + 1 + 1; omega) _, blk_other hg03 (by omega) _ _, blk_set hg13 0 _, hO3.put hg13 (by decide) _ _, fun y hy => (hown3 y hy).put hg13 (by decide) (by decide) (by decide) (by decide) _ _, fun y hy => ?_, ?_, hp9⟩
          · rcases List.mem_append.1 hy with h | h
            · exact S.di y h
            · rw [List.mem_singleton.1 h, hdx]; exact hdi
          · have := hgr.size
            have := hb2V.size
            have := hk8.size
            have := S.sz
            simp only [World.size_setCell]
            omega
        have HF3 : Hid (bd8 = false → 3 + insS (xs ++ [x]) < p8) := fun h => by
          rw [insS_snoc, hdx]
          have h1 := HF.out (by first | exact rfl | trivial)
          have h2 := hf8 h
          omega
        have HT3 : Hid (∀ (ys : List FD) r0, (∀ y ∈ ys, FOk y) → bs = imageL ys ++ r0 → bd8 = false ∧ (gk - 1) + (xs ++ [x]).length = ys.length ∧ (xs ++ [x]).map FC.d = ys.take (xs ++ [x]).length ∧ bs.drop p8 = (ys.drop (xs ++ [x]).length).flatMap protoL ++ r0) := fun ys r0 hy hd => by
          obtain ⟨_, t2, t3, t4⟩ := HT.out ys r0 hy hd
          obtain ⟨y, hyy⟩ : ∃ y, ys[xs.length]? = some y := ⟨ys[xs.length]'(by omega), by simp⟩
          rw [flatMap_drop _ hyy, List.append_assoc] at t4
          obtain ⟨t5, t6, t7⟩ := hq8 y _ (hy y (List.mem_of_getElem? hyy)) rfl t4
          refine ⟨t7, ?_, ?_, ?_⟩
          · rw [List.length_append]; simp; omega
          · rw [List.length_append, List.map_append, t3]
            show _ = ys.take (xs.length + 1)
            rw [List.take_add_one, hyy]
            simp [hdx, t5]
          · rw [List.length_append]
            exact t6
        have HAH : Hid _ := HA
        have c1 : w2.cell? ⟨w.heap.size + 1 + 1, 0, none⟩ = some sv := (blk_cell (hk8.blk S.g1 (by omega)) 0).trans rfl
        have c13 : w3.cell? ⟨w.heap.size + 1 + 1, 0, none⟩ = some sv := (blk_cell hg13 0).trans rfl
        have c1V : V.cell? ⟨w.heap.size + 1 + 1, 0, none⟩ = some sv := cell_later hV1 c1
        have z13 := blk_frozen hg13
        have HVB : Hid (V.heap[w2.heap.size]? = some (.cells #[.string d.name, .int .i64 d.line, .int .i64 d.params, .bool d.rest, .int .i64 d.regs, .slice au d.ups.length cu, .slice ac d.consts.length cc, .slice ai d.ins.length ci, .slice an d.named.length cn] 50)) := by show V.heap[w2.heap.size]? = _; rw [hV]; exact blk_new _ _
        rw [hV] at HAH
        obtain ⟨a0, q00, hsv⟩ := hrow2.val
        have HSV : Hid (sv = .slice a0 xs.length q00) := hsv
        have HXL : Hid (gk - 1 + (xs ++ [x]).length ≤ 1000000) := by show _ ≤ _; have := HL.out; rw [List.length_append]; simp; omega
        rw [hsv] at c1 c13
        have c1a : (w2.alloc (.cells #[.string d.name, .int .i64 d.line, .int .i64 d.params, .bool d.rest, .int .i64 d.regs, .slice au d.ups.length cu, .slice ac d.consts.length cc, .slice ai d.ins.length ci, .slice an d.named.length cn] 50)).cell? ⟨w.heap.size + 1 + 1, 0, none⟩ = some (.slice a0 xs.length q00) := cell_later (bw1 _ _) c1
        have HAH2 : Hid _ := HAH
        rw [hsv] at HAH2
        clear hdi hru hrc hri hrn hr8 hk8 hf8 hq8 S hb2 hxd hxo hov hdx hV1 hVs hb2V keep2 hrow2 hown2 HO2 HA hO3 hgr hg13 hg03 hr3 hb3 hown3 HAH c1V HVB hV HP hsv HS HF HT
        go_wp2_with (at_builtin; refine wpList_append_run rfl _ _ _ rfl _ _ _ _ rfl rfl HAH2.out ?_)
        go_roundg (gk - 1)
        case measure => omega
        case rel =>
          refine ⟨xs ++ [x], _, p8, bd8, ?_, by omega, HXL, HS3, HF3, HT3⟩
          congr 1; omega
      | false =>
        cases bd7 with
        | true =>
          have HD : Hid (DecP bs []) := DecP.no fun ys r0 hy hd => by
            have := (HT.out ys r0 hy hd).1
            first | exact absurd this (by decide) | exact this.elim
          have r2 : wc.cell? ⟨w.heap.size + 1, 2, none⟩ = some (.bool true) := (blk_cell HS.out.rs 2).trans rfl
          go_wp2_with fail
          have f2 := lat_cell r2
          haveI := lat_some wc
          clear r2
          refine wp_region_lat (by kernel_rfl) (by kernel_rfl) ?_
          repeat (go_big_quiet_step (fail))
          refine wpQuiet_nil ?_
          rintro _ ⟨nq, rfl⟩
          have g0 := blk_later nq.below HS.out.g0
          have c0 : nq.wd.cell? ⟨w.heap.size, 0, none⟩ = some nl := (blk_cell g0 0).trans rfl
          have z0 := blk_frozen g0
          have HB4 : Hid (Below w.heap.size w nq.wd) := HS.out.bel.trans (nq.below.mono HS.out.bel.size)
          clear f2 g0
          go_wp2_with fail
          refine bodyPost_ret (v := .agg #[nl]) (by simp [results, Tryz.results17, go_sem, c0]) rfl (SDec.zero HD.out ?_)
          exact HB4.out.setCell (p := ⟨w.heap.size, 0, none⟩) (Nat.le_refl _) _
        | false =>
          have hgk0 : gk = 0 := by
            have := HBQ.out
            simp at this
            omega
          have HQ : Hid (∀ (ys : List FD) r0, (∀ y ∈ ys, FOk y) → bs = imageL ys ++ r0 → xs.map FC.d = ys) := fun ys r0 hy hd => by
            obtain ⟨_, t2, t3, _⟩ := HT.out ys r0 hy hd
            rw [t3, List.take_of_length_le (by omega)]
          have hin : 3 + insS xs < p7 := HF.out (by first | exact rfl | trivial)
          obtain ⟨a, cp, hsv, hA⟩ := HS.out.code hn2 (by have := HL.out; omega) (by have := HS.out.pn; omega)
          have HA : Hid (CodeAt wc a xs) := hA
          have HDI : Hid (∀ f ∈ xs.map FC.d, DI n f) := fun f hf => by
            obtain ⟨x, hx, rfl⟩ := List.mem_map.1 hf
            exact HS.out.di x hx
          have hbn : bs ≠ [] := fun e => by
            have h1 := HN.out
            rw [e] at h1
            simp at h1
            omega
          have HBN : Hid (bs ≠ []) := hbn
          have r2 : wc.cell? ⟨w.heap.size + 1, 2, none⟩ = some (.bool false) := (blk_cell HS.out.rs 2).trans rfl
          have r1 : wc.cell? ⟨w.heap.size + 1 + 1, 0, none⟩ = some sv := (blk_cell HS.out.g1 0).trans rfl
          obtain ⟨len, hlen⟩ : ∃ len, len = xs.length := ⟨_, rfl⟩
          have HXL : Hid (xs.length = len) := hlen.symm
          rw [← hlen] at hsv
          have HG0 : Hid (wc.heap[w.heap.size]? = some (.cells #[nl] 29)) := HS.out.g0
          have HG1 : Hid (wc.heap[w.heap.size + 1 + 1]? = some (.cells #[sv] 29)) := HS.out.g1
          have HB0 : Hid (Below w.heap.size w wc) := HS.out.bel
          rw [hsv] at r1 HG1
          have hcvb : ∀ W, Below w.heap.size w W → (convert 33 9 (.slice (some ⟨ab, off, none⟩) n cap)).run Tryz.prog W = .ok (.string (bOf bs)) W := fun W hW => by
            have := conv_at (w := W) (b := ab) (off := off) (cap := cap) (l := bs) (fun i u hu => cell_later hW (HBY.out i u hu))
            rw [HN.out] at this
            exact this
          have HCV : Hid _ := hcvb
          have hcv0 := hcvb wc.drew HS.out.bel.drew
          obtain ⟨bz, hbz⟩ : ∃ bz : Bool, bz = !decide (encV (xs.map FC.d) = bs) := ⟨_, rfl⟩
          have HBZ : Hid (bz = !decide (encV (xs.map FC.d) = bs)) := hbz
          have hro := HS.out.row
          rw [hsv] at hro
          have HRO : Hid (ORow wc (w.heap.size + 3) 50 9 FC.cells (.slice a len cp) xs ∧ ∀ x ∈ xs, x.orow wc (w.heap.size + 3)) := ⟨hro, HS.out.own⟩
          have HSZ : Hid (xs.length ≤ 1000000 ∧ insS xs ≤ 1000000) := ⟨by have := HL.out; omega, by have := HS.out.pn; omega⟩
          clear HS HF HT HL HBQ hA hsv hlen hbn hcvb hbz hin hgk0 hro
          go_wp2_with fail
          go_cut [51] from 40 to 51 (fun s51 wx => s51 = .bool bz ∧ Hid (Below w.heap.size w wx) ∧ Hid (wx.heap[w.heap.size]? = some (.cells #[nl] 29)) ∧ Hid (wx.heap[w.heap.size + 1 + 1]? = some (.cells #[.slice a len cp] 29)) ∧ Hid (ORow wx (w.heap.size + 3) 50 9 FC.cells (.slice a len cp) xs ∧ ∀ x ∈ xs, x.orow wx (w.heap.size + 3)))
          case first =>
            go_region_with (go_at_call 11; refine (senc_any a len cp xs _ (HA.out.later ((Below.refl _ _).drew)) HXL.out).mono ?_; rintro e w8 ⟨⟨sI, rfl, hI⟩, hx8⟩; have hcv1 := conv_brow hI; replace hx8 := und1 hx8; have HX8 : Hid (Below wc.heap.size wc w8) := hx8; have hcv2 := HCV.out w8 (HB0.out.trans (hx8.mono HB0.out.size)); clear hI hx8)
            all_goals
              have HE : Hid (((bOf (encV (xs.map FC.d))).toList = (bOf bs).toList) ↔ encV (xs.map FC.d) = bs) := ⟨fun e => by rw [ByteArray.toList_eq, ByteArray.toList_eq] at e; simpa [bOf] using e, fun e => by rw [e]⟩
              go_wp2_with fail
              go_simp
              go_meet
              case rel =>
                refine ⟨?_, HB0.out.trans (HX8.out.mono HB0.out.size), blk_later HX8.out HG0.out, blk_later HX8.out HG1.out, HRO.out.1.later HX8.out, fun x hx => (HRO.out.2 x hx).later HX8.out⟩
                rw [HBZ.out]
                by_cases hh : encV (xs.map FC.d) = bs
                · simp [hh]
                · simp [hh]
                  exact fun e => hh (HE.out.1 e)
          case rest =>
            obtain ⟨rfl, HBX, HX0, HX1, HAX⟩ := hcut
            have c0 : wc.cell? ⟨w.heap.size, 0, none⟩ = some nl := (blk_cell HX0.out 0).trans rfl
            have c1 : wc.cell? ⟨w.heap.size + 1 + 1, 0, none⟩ = some (.slice a len cp) := (blk_cell HX1.out 0).trans rfl
            have z0 := blk_frozen HX0.out
            clear r1 r2 hcv0
            cases bz with
            | true =>
              have HNE : Hid (encV (xs.map FC.d) ≠ bs) := fun e => by have := HBZ.out; rw [decide_eq_true e] at this; cases this
              go_wp2_with fail
              refine bodyPost_ret (v := .agg #[nl]) (by simp [results, Tryz.results17, go_sem, c0]) rfl (SDec.zero (DecP.not HQ.out HNE.out) ?_)
              exact HBX.out.setCell (p := ⟨w.heap.size, 0, none⟩) (Nat.le_refl _) _
            | false =>
              have HEQ : Hid (encV (xs.map FC.d) = bs) := by
                have := HBZ.out
                by_cases hh : encV (xs.map FC.d) = bs
                · exact hh
                · rw [decide_eq_false hh] at this; cases this
              go_wp2_with fail
              refine bodyPost_ret (v := .agg #[.slice a len cp]) (by simp [results, Tryz.results17, go_sem, c0]) rfl ?_
              have hD := DecP.of (n := n) hn2 HDI.out HQ.out HEQ.out HBN.out
              refine ⟨⟨a, cp, xs, by rw [HXL.out], ?_, hD⟩, HBX.out.setCell (p := ⟨w.heap.size, 0, none⟩) (Nat.le_refl _) _⟩
              exact code_at (HAX.out.1.put HX0.out (by decide) _ _) (fun x hx => (HAX.out.2 x hx).put HX0.out (by decide) (by decide) (by decide) (by decide) _ _) HDI.out hn2 HSZ.out.1 HSZ.out.2
end Go.Proofs.YtfkeklndcjkgcaaGreatDoor
