/- Limiting some sums. No statement is proved here. -/
import Derived.Test.YtbcifmddbhnkhaaLimClo
import Derived.Test.YtbcifmddbhnkhaaLx
namespace Go.Proofs.Ytbcifmddbhnkhaa
open Go.ChangeShapes Go.WideShapes Go.ChangeAt Go.RowKit
set_option linter.unusedVariables false
set_option linter.unusedSimpArgs false

theorem rowV_full {n : Nat} {o : List Int} (h : o.length = n) : rowV n o = o.map (Value.int .i32) := by unfold rowV; rw [h, Nat.sub_self]; simp
theorem k4drew {w : World} {p1 p2 p3 p4 : Addr} {x1 x2 x3 x4 : Value} (h : w.cell? p1 = some x1 ∧ w.cell? p2 = some x2 ∧ w.cell? p3 = some x3 ∧ w.cell? p4 = some x4) : w.drew.cell? p1 = some x1 ∧ w.drew.cell? p2 = some x2 ∧ w.drew.cell? p3 = some x3 ∧ w.drew.cell? p4 = some x4 := h
theorem k4set {w : World} {p : Addr} {v : Value} {p1 p2 p3 p4 : Addr} {x1 x2 x3 x4 : Value} (h : w.cell? p1 = some x1 ∧ w.cell? p2 = some x2 ∧ w.cell? p3 = some x3 ∧ w.cell? p4 = some x4) (h1 : p.block ≠ p1.block) (h2 : p.block ≠ p2.block) (h3 : p.block ≠ p3.block) (h4 : p.block ≠ p4.block) :
    (w.setCell p v).cell? p1 = some x1 ∧ (w.setCell p v).cell? p2 = some x2 ∧ (w.setCell p v).cell? p3 = some x3 ∧ (w.setCell p v).cell? p4 = some x4 :=
  ⟨(World.cell?_setCell_far _ _ _ _ h1).trans h.1, (World.cell?_setCell_far _ _ _ _ h2).trans h.2.1, (World.cell?_setCell_far _ _ _ _ h3).trans h.2.2.1, (World.cell?_setCell_far _ _ _ _ h4).trans h.2.2.2⟩
set_option maxRecDepth 100000 in
set_option maxHeartbeats 16000000 in
theorem lrun_any (t r g : Int) (c M : Nat) (a : Option Addr) (cap : Nat) (l : List Int) (w : World) (ht : 1 ≤ t ∧ t ≤ 8388607) (hr : 1 ≤ r ∧ r ≤ 65536) (hg : 0 ≤ g ∧ g ≤ 65536) (hc : 1 ≤ c ∧ c ≤ 8) (hM : M ≤ 65536)
    (hs : Sl .i64 w a (M * c) cap l) (hb : ∀ s ∈ l, -1099511627776 ≤ s ∧ s ≤ 1099511627776) :
    Calls Try.prog 12 #[.agg #[.int .i64 t, .int .i64 r, .int .i64 g], .int .i64 (c : Int), .slice a (M * c) cap] w fun e w' => ∃ G : Nat, e = .returned (.tuple #[.agg #[.int .i64 (c : Int), .slice (some ⟨G, 0, none⟩) (M * c) (M * c)], .agg #[.int .i64 t, .int .i64 r, .int .i64 (runL c t r M g l).2], .int .i64 0]) ∧ Blk w' G ((runL c t r M g l).1.map (Value.int .i32)) 21 ∧ w.heap.size ≤ G ∧ Below w.heap.size w w' := by
  have HS := hid hs
  have HB := hid hb
  have hz := hs.1
  obtain ⟨c1, c8⟩ := hc
  have hlen : M * c ≤ 524288 := Nat.le_trans (Nat.mul_le_mul hM c8) (by omega)
  have hcap : M * c ≤ cap := hs.2.1
  have hcm : cap ≤ 9223372036854775807 := by have := hs.2.2.1; unfold maxLen at this; omega
  have hmd : ((M * c : Nat) : Int).tmod (c : Int) = 0 := by rw [Int.tmod_eq_emod_of_nonneg (by omega), Int.natCast_mul]; exact Int.mul_emod_left _ _
  have hqo : ((M * c : Nat) : Int) / (c : Int) ≤ 65536 := by rw [Int.natCast_mul, Int.mul_ediv_cancel _ (by omega)]; omega
  have cv := hid (fun w => lvalid_any t r g w)
  rw [limB_iff.2 ⟨ht, hr, hg⟩] at cv
  have cf := hid (fun (w : World) (h : Sl .i64 w a (M * c) cap l) => fits_ok (c : Int) (by omega) (by omega) a (M * c) cap l w h hmd hqo hb)
  have HX0 := hid (Lx.alloc (vs := [.int .i64 0, .int .i64 0, .int .i64 0]) (T := 23) (Lx.alloc (vs := [.int .i64 0, .slice none 0 0]) (T := 36) (Lx.alloc (vs := [.int .i64 t, .int .i64 r, .int .i64 g]) (T := 23) (Lx.start w))))
  have hmk : ∀ w : World, (Instr.makeSlice 34 (.int .i64 0) (.int .i64 ((M * c : Nat) : Int))).run Try.prog w = .ok (.slice (some ⟨w.heap.size, 0, none⟩) 0 (M * c)) (w.alloc (.cells (List.replicate (M * c) (Value.int .i32 0)).toArray 21)) := by
    intro w
    have h := run_make_lc (P := Try.prog) (t := 34) (e := 21) (z := .int .i32 0) (bs := 4) Try.underlying34 (by kernel_rfl) (0 : Int) ((M * c : Nat) : Int) 0 (M * c) rfl rfl (Nat.zero_le _) (by omega) (by omega) w
    have e : madeCells (Value.int .i32 0).cells (M * c) = (List.replicate (M * c) (Value.int .i32 0)).toArray := by
      apply Array.ext'
      exact toList_madeCells_one (Value.int .i32 0) (M * c)
    rw [e] at h
    exact h
  have HT := hid ht
  have HR := hid hr
  have HG := hid hg
  obtain ⟨n, hn⟩ : ∃ n, M * c = n := ⟨_, rfl⟩
  have HN := hid hn
  rw [hn] at HS hlen hcap cf hmk ⊢
  clear hs hb hz hmd hqo ht hr hg hn
  go_enter Try.func12, Try.ntmps12
  go_wp2_with fail
  (with_reducible refine (cv.out _).mono ?_); rintro e w1 ⟨rfl, hb⟩; have HX1 := hid (HX0.out.kept hb); clear hb HX0 cv
  go_wp2_with fail
  (with_reducible refine (cf.out _ (HX1.out.slN HS.out)).mono ?_); rintro e w2 ⟨rfl, rfl⟩; clear cf
  have hX := HX1.out
  simp only [World.size_alloc] at hX
  clear HX1
  go_wp2_with fail
  have hX3 := ((hX.alloc (vs := List.replicate n (.int .i32 0)) (T := 21)).alloc (vs := [.slice (some ⟨w1.heap.size, 0, none⟩) 0 n]) (T := 34)).re ((List.Perm.swap _ _ _).trans ((List.perm_append_comm (l₁ := [_, _]) (l₂ := [_])).cons _ |>.cons _))
  simp only [World.size_alloc, List.toArray_replicate, List.singleton_append, List.cons_append, List.nil_append] at hX3
  clear hX hmk
  generalize (w1.alloc (Obj.cells (Array.replicate n (Value.int IntKind.i32 0)) 21)).alloc (Obj.cells #[Value.slice (some ⟨w1.heap.size, 0, none⟩) 0 n] 34) = W2 at *
  generalize w1.heap.size + 1 = O at *
  generalize w1.heap.size = G at *
  have HX3 := hid hX3
  clear hX3
  go_loopw [11] (fun v wr => ∃ m : Nat, m ≤ M ∧ v = .int .i64 ((m * c : Nat) : Int) ∧ Hid (Lx w wr none [(G, rowV n ((runL c t r m g l).1), 21), (O, [.slice (some ⟨G, 0, none⟩) (m * c) n], 34), (w.heap.size, [.int .i64 t, .int .i64 r, .int .i64 ((runL c t r m g l).2)], 23), (w.heap.size + 1 + 1, [.int .i64 0, .int .i64 0, .int .i64 0], 23), (w.heap.size + 1, [.int .i64 0, .slice none 0 0], 36)])) (fun v _ => n - (intOf v).toNat)
  case atStart => exact ⟨0, by omega, by simp, by have h := HX3.out; simp only [Nat.zero_mul, runL, rowV, List.map_nil, List.nil_append, List.length_nil, Nat.sub_zero]; exact h⟩
  case round =>
    obtain ⟨m, hm, rfl, hl⟩ := hrel
    clear HX3
    obtain ⟨wo, rfl⟩ : ∃ wo : World, wo = wr := ⟨_, rfl⟩
    by_cases hlt : m < M
    · have hkn : m * c + c ≤ n := by have := Nat.mul_le_mul_right c (show m + 1 ≤ M from hlt); rw [Nat.add_mul, HN.out] at this; omega
      have hsn := hid (runL_snoc c t r m g l)
      have hol := runL_len c t r m g l (by rw [HS.out.1]; omega)
      have hgb := runL_gain c HT.out HR.out m g l HG.out HB.out
      have hk1 : (m + 1) * c = m * c + c := by rw [Nat.add_mul]; omega
      have HK1 := hid hk1
      clear hk1
      obtain ⟨k, hk⟩ : ∃ k, m * c = k := ⟨_, rfl⟩
      rw [hk] at hl hkn hsn hol HK1
      simp only [hk]
      clear hk
      obtain ⟨gm, hgm⟩ : ∃ gm, (runL c t r m g l).2 = gm := ⟨_, rfl⟩
      obtain ⟨outs, hou⟩ : ∃ outs, (runL c t r m g l).1 = outs := ⟨_, rfl⟩
      rw [hgm, hou] at hsn
      rw [hgm] at hl hgb
      rw [hou] at hl hol
      clear hgm hou
      rcases HS.out.2.2.2.2.2 with h6 | ⟨b, off, rfl, hbl, hcs⟩
      · omega
      have hF := HS.out.sub k c hkn
      have hGO := hl.out.ne 0 1 rfl rfl (by omega)
      have hGB := hl.out.ne 0 2 rfl rfl (by omega)
      have hOB := hl.out.ne 1 2 rfl rfl (by omega)
      have cl := hid (limit_any w wo (some ⟨b, off + k, none⟩) c (cap - k) ((l.drop k).take c) t r gm G O w.heap.size n outs _ HT.out HR.out hgb hF (fun s hs => HB.out s (mem_frame hs)) (by rw [hol]; exact hl.out.lv) (hl.out.ge 0 rfl) (hl.out.ge 1 rfl) (Nat.le_refl _) hGO hGB hOB
        (by intro y hy; simp at hy; rcases hy with rfl | rfl <;> first | exact (hl.out.ne 0 3 rfl rfl (by omega)).symm | exact (hl.out.ne 0 4 rfl rfl (by omega)).symm)
        (by intro y hy; simp at hy; rcases hy with rfl | rfl <;> first | exact (hl.out.ne 1 3 rfl rfl (by omega)).symm | exact (hl.out.ne 1 4 rfl rfl (by omega)).symm)
        (by intro y hy; simp at hy; rcases hy with rfl | rfl <;> simp <;> omega) (by omega) (by omega))
      rw [hol] at cl
      have hkb : decide ((k : Int) < (n : Int)) = true := by simp; omega
      have hkz : (k : Int) < (n : Int) := by omega
      have u1 : IntKind.i64.wrap ((k : Int) + (c : Int)) = (k : Int) + (c : Int) := IntWalk.i64_in _ (by omega)
      have e9 : k + c - k = c := by omega
      clear hcs hF hGO hGB hOB
      go_wp2_with fail
      (with_reducible refine cl.out.mono ?_); rintro e w3 ⟨rfl, hv⟩
      have HX4 := hid (hl.out.ofLv hv rfl)
      clear hv cl hl
      go_wp2_with fail
      go_roundw
      case rel => exact ⟨m + 1, by omega, by rw [HK1.out]; go_num, by rw [hsn.out, HK1.out]; exact HX4⟩
      case measure => simp [intOf] <;> omega
    · obtain rfl : m = M := by omega
      rw [HN.out] at hl ⊢
      have hkb : decide ((n : Int) < (n : Int)) = false := by simp
      have hL := hl.out.facts
      simp only [liveAt, cellsAt, and_true, Nat.zero_add, Nat.reduceAdd] at hL
      go_upto_region 11 with (fail)
      have hd := hl.out.drew
      have hq : wo.drew.cell? ⟨O, 0, none⟩ = some (.slice (some ⟨G, 0, none⟩) n n) ∧ wo.drew.cell? ⟨w.heap.size, 0, none⟩ = some (.int .i64 t) ∧ wo.drew.cell? ⟨w.heap.size, 1, none⟩ = some (.int .i64 r) ∧ wo.drew.cell? ⟨w.heap.size, 2, none⟩ = some (.int .i64 (runL c t r m g l).2) := ⟨hd.cell 1 0 rfl rfl, hd.cell 2 0 rfl rfl, hd.cell 2 1 rfl rfl, hd.cell 2 2 rfl rfl⟩
      have k1 := hd.ne 1 4 rfl rfl (by omega)
      have k2 := hd.ne 1 3 rfl rfl (by omega)
      have k3 := Ne.symm k1
      have k4 := Ne.symm k2
      have hlr := runL_len c t r m g l (by rw [HS.out.1, HN.out]; exact Nat.le_refl _)
      obtain ⟨gm, hgm⟩ : ∃ gm, (runL c t r m g l).2 = gm := ⟨_, rfl⟩
      rw [hgm] at hq hl hd
      have HGM := hid hgm
      clear hgm
      have hqn : wo.cell? ⟨O, 0, none⟩ = some (.slice (some ⟨G, 0, none⟩) n n) ∧ wo.cell? ⟨w.heap.size, 0, none⟩ = some (.int .i64 t) ∧ wo.cell? ⟨w.heap.size, 1, none⟩ = some (.int .i64 r) ∧ wo.cell? ⟨w.heap.size, 2, none⟩ = some (.int .i64 gm) := hq
      have hLn := hl.out.facts
      simp only [liveAt, cellsAt, and_true, Nat.zero_add, Nat.reduceAdd] at hLn
      have hL := hd.facts
      simp only [liveAt, cellsAt, and_true, Nat.zero_add, Nat.reduceAdd] at hL
      have HX := hid hl.out
      clear hl hd
      go_region_held3 (fun w' => w'.cell? ⟨O, 0, none⟩ = some (.slice (some ⟨G, 0, none⟩) n n) ∧ w'.cell? ⟨w.heap.size, 0, none⟩ = some (.int .i64 t) ∧ w'.cell? ⟨w.heap.size, 1, none⟩ = some (.int .i64 r) ∧ w'.cell? ⟨w.heap.size, 2, none⟩ = some (.int .i64 gm)) (first | (with_reducible assumption) | (with_reducible exact k4drew (k4set (k4set hqn (by (try simp only []); omega) (by (try simp only []); omega) (by (try simp only []); omega) (by (try simp only []); omega)) (by (try simp only []); omega) (by (try simp only []); omega) (by (try simp only []); omega) (by (try simp only []); omega))) | (with_reducible exact k4drew (k4set (k4set (k4set hqn (by (try simp only []); omega) (by (try simp only []); omega) (by (try simp only []); omega) (by (try simp only []); omega)) (by (try simp only []); omega) (by (try simp only []); omega) (by (try simp only []); omega) (by (try simp only []); omega)) (by (try simp only []); omega) (by (try simp only []); omega) (by (try simp only []); omega) (by (try simp only []); omega))) | (with_reducible exact k4drew (k4set (k4set (k4set (k4set (k4set hqn (by (try simp only []); omega) (by (try simp only []); omega) (by (try simp only []); omega) (by (try simp only []); omega)) (by (try simp only []); omega) (by (try simp only []); omega) (by (try simp only []); omega) (by (try simp only []); omega)) (by (try simp only []); omega) (by (try simp only []); omega) (by (try simp only []); omega) (by (try simp only []); omega)) (by (try simp only []); omega) (by (try simp only []); omega) (by (try simp only []); omega) (by (try simp only []); omega)) (by (try simp only []); omega) (by (try simp only []); omega) (by (try simp only []); omega) (by (try simp only []); omega)))) (fail)
      have hf := (((((HX.out.set 4 0 (.int .i64 (c : Int)) rfl).set 4 1 (.slice (some ⟨G, 0, none⟩) n n) rfl).set 3 0 (.int .i64 t) rfl).set 3 1 (.int .i64 r) rfl).set 3 2 (.int .i64 gm) rfl).drew
      simp only [List.set_cons_zero, List.set_cons_succ] at hf
      have HF := hid hf
      rename_i hHeld
      clear hHeld
      clear hf HX hL hLn hq hqn
      generalize (((((wo.setCell ⟨w.heap.size + 1, 0, none⟩ (Value.int IntKind.i64 (c : Int))).setCell ⟨w.heap.size + 1, 1, none⟩ (Value.slice (some ⟨G, 0, none⟩) n n)).setCell ⟨w.heap.size + 1 + 1, 0, none⟩ (Value.int IntKind.i64 t)).setCell ⟨w.heap.size + 1 + 1, 1, none⟩ (Value.int IntKind.i64 r)).setCell ⟨w.heap.size + 1 + 1, 2, none⟩ (Value.int IntKind.i64 gm)).drew = wz at *
      have hL := HF.out.facts
      simp only [liveAt, cellsAt, and_true, Nat.zero_add, Nat.reduceAdd] at hL
      go_wp2_with fail
      refine bodyPost_ret (by simp [results, Try.results12, go_sem, *]; try rfl) rfl ?_
      exact ⟨G, by rw [HGM.out], by have h := HF.out.blk 0 rfl; rw [rowV_full (by rw [hlr, HN.out])] at h; exact h, HF.out.ge 0 rfl, HF.out.below⟩
end Go.Proofs.Ytbcifmddbhnkhaa
