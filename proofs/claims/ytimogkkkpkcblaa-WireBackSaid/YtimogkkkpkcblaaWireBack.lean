/- The law WireBack returns true: the walk. -/
import Derived.Test.YtimogkkkpkcblaaWireSane
import Derived.Test.YtimogkkkpkcblaaWireText
import Derived.Test.YtimogkkkpkcblaaWireConcat
namespace Go.Proofs.Ytimogkkkpkcblaa
open Go.ChangeShapes Go.WideShapes Go.ChangeAt Go.RowKit
set_option linter.unusedVariables false

theorem leNat_le (n k : Nat) : leNat (le n k) = n % 2 ^ (8 * k) := by
  induction k with
  | zero => simp [le, leNat, Nat.mod_one]
  | succ k ih =>
    rw [le, leNat_snoc, ih, le_length, Int.toNat_natCast, Nat.mul_add, Nat.pow_add, Nat.mul_comm (n / 2 ^ (8 * k) % 256)]
    exact (Nat.mod_mul (x := n) (a := 2 ^ (8 * k)) (b := 256)).symm
theorem getN_at (p q r : List Int) : getN (p ++ (q ++ r)) p.length q.length = (leNat q, (p.length : Int) + (q.length : Int), 0) := by
  rw [getN_ok (by simp), List.drop_left, List.take_left]
theorem getText_at (p q r : List Int) (x : Nat) (hx : x = q.length) (h : x ≤ 64) : getText (p ++ ((x : Int) :: (q ++ r))) p.length = (q, (p.length : Int) + 1 + (x : Int), 0) := by
  have h0 : (p ++ ((x : Int) :: (q ++ r))).getD p.length 0 = (x : Int) := by
    rw [List.getD_eq_getElem?_getD, List.getElem?_append_right (Nat.le_refl _), Nat.sub_self]; rfl
  rw [getText_ok h0 h (by simp; omega), ← List.drop_drop, List.drop_left]
  subst hx; simp
theorem Made.take {b : Nat} {w : World} {v : Value} {l : List Int} (h : Made b .u8 w v l) : ∃ (a : Option Addr) (m k : Nat), v = .slice a m k ∧ Hid (m = l.length) ∧ Hid (Sl .u8 w a m k l) := by
  obtain ⟨a, k, e, s, _⟩ := h
  exact ⟨a, _, k, e, rfl, s⟩
theorem back_made {B b m5 len2 : Nat} {w7 : World} {v7 : Value} {l5 m L : List Int} (hL : l5 ++ m = L) (h5 : m5 = l5.length) (hm : m.length = len2) (hw : ∀ x ∈ L, (Lit.int .u8 x).wf = true) (hB : b ≤ B)
    (ho : w7.ownsRow B 5 1 v7 (0 + m5 + len2) ([] ++ l5.map (Value.int .u8) ++ m.map (Value.int .u8))) : Made b .u8 w7 v7 L := by
  subst hL
  obtain ⟨x, y, e, h1, h2⟩ := made_of_own (k := .u8) (l := l5 ++ m) (by simp) hw (by simp; omega) ho
  exact ⟨x, y, e, h1, fun ad had => Nat.le_trans hB (h2 ad had)⟩
theorem Put32_any (a : Option Addr) (len cap : Nat) (l : List Int) (n : Nat) (hn : n < 4294967296) (w : World) (hs : Sl .u8 w a len cap l) (hlen : len ≤ 100000) :
    Calls Try.prog 14 #[.slice a len cap, .int .u32 n] w fun e w' => ∃ v, e = .returned v ∧ Hid (Made w.heap.size .u8 w' v (l ++ le n 4)) ∧ Below w.heap.size w w' := by
  go_enter Try.func14, Try.ntmps14
  go_wp2_with (go_at_call 33; refine (put32_any a len cap l n hn w hs hlen).mono ?_; rintro e w' ⟨v, rfl, hv, hb⟩)
  go_ret
  exact ⟨_, rfl, by assumption, by assumption⟩
theorem Put64_any (a : Option Addr) (len cap : Nat) (l : List Int) (n : Nat) (hn : Hid (n < 18446744073709551616)) (w : World) (hs : Sl .u8 w a len cap l) (hlen : len ≤ 100000) :
    Calls Try.prog 16 #[.slice a len cap, .int .u64 n] w fun e w' => ∃ v, e = .returned v ∧ Hid (Made w.heap.size .u8 w' v (l ++ le n 8)) ∧ Below w.heap.size w w' := by
  go_enter Try.func16, Try.ntmps16
  go_wp2_with (go_at_call 34; refine (put64_any a len cap l n hn.out w hs hlen).mono ?_; rintro e w' ⟨v, rfl, hv, hb⟩)
  go_ret
  exact ⟨_, rfl, by assumption, by assumption⟩
/-- the values that come of a slice of so many bytes, as a contract for whatever world -/
theorem back_list (l m : List Int) (n : Nat) (s : ByteArray) (hs : s.size ≤ 64) (hn : n < 18446744073709551616) :
    let L := ((((l ++ le (n % 65536) 2) ++ le (n % 4294967296) 4) ++ le n 8) ++ (s.size : Int) :: sBytes s) ++ m
    getN L l.length 2 = (n % 65536, (l.length : Int) + 2, 0) ∧ getN L ((l.length : Int) + 2) 4 = (n % 4294967296, (l.length : Int) + 2 + 4, 0) ∧ getN L ((l.length : Int) + 2 + 4) 8 = (n, (l.length : Int) + 2 + 4 + 8, 0) ∧
      getText L ((l.length : Int) + 2 + 4 + 8) = (sBytes s, (l.length : Int) + 2 + 4 + 8 + 1 + s.size, 0) ∧ L.length = l.length + 15 + s.size + m.length := by
  intro L
  have e1 : L = l ++ (le (n % 65536) 2 ++ (le (n % 4294967296) 4 ++ (le n 8 ++ ((s.size : Int) :: (sBytes s ++ m))))) := by simp [L]
  have e2 : L = (l ++ le (n % 65536) 2) ++ (le (n % 4294967296) 4 ++ (le n 8 ++ ((s.size : Int) :: (sBytes s ++ m)))) := by simp [L]
  have e3 : L = ((l ++ le (n % 65536) 2) ++ le (n % 4294967296) 4) ++ (le n 8 ++ ((s.size : Int) :: (sBytes s ++ m))) := by simp [L]
  have e4 : L = (((l ++ le (n % 65536) 2) ++ le (n % 4294967296) 4) ++ le n 8) ++ ((s.size : Int) :: (sBytes s ++ m)) := by simp [L]
  have g1 := getN_at l (le (n % 65536) 2) (le (n % 4294967296) 4 ++ (le n 8 ++ ((s.size : Int) :: (sBytes s ++ m))))
  have g2 := getN_at (l ++ le (n % 65536) 2) (le (n % 4294967296) 4) (le n 8 ++ ((s.size : Int) :: (sBytes s ++ m)))
  have g3 := getN_at ((l ++ le (n % 65536) 2) ++ le (n % 4294967296) 4) (le n 8) ((s.size : Int) :: (sBytes s ++ m))
  have g4 := getText_at (((l ++ le (n % 65536) 2) ++ le (n % 4294967296) 4) ++ le n 8) (sBytes s) m s.size (sBytes_length s).symm hs
  rw [← e1, leNat_le, le_length] at g1
  rw [← e2, leNat_le, le_length, List.length_append, le_length] at g2
  rw [← e3, leNat_le, le_length, List.length_append, List.length_append, le_length, le_length] at g3
  rw [← e4, List.length_append, List.length_append, List.length_append, le_length, le_length, le_length] at g4
  refine ⟨?_, ?_, ?_, ?_, ?_⟩
  · rw [g1]; simp
  · have : ((l.length + 2 : Nat) : Int) = (l.length : Int) + 2 := by omega
    rw [this] at g2; rw [g2]; simp
  · have : ((l.length + 2 + 4 : Nat) : Int) = (l.length : Int) + 2 + 4 := by omega
    rw [this] at g3; rw [g3]
    have : n % 2 ^ (8 * 8) = n := Nat.mod_eq_of_lt (by simpa using hn)
    rw [this]; rfl
  · have : ((l.length + 2 + 4 + 8 : Nat) : Int) = (l.length : Int) + 2 + 4 + 8 := by omega
    rw [this] at g4; rw [g4]
  · simp [L, le_length, sBytes_length]; omega

set_option maxRecDepth 100000 in
set_option maxHeartbeats 8000000 in
theorem wireBack_walk (ad : Option Addr) (len cap : Nat) (l : List Int) (n : Nat) (hn : Hid (n < 18446744073709551616)) (s : ByteArray) (hs64 : s.size ≤ 9223372036854775807) (ad2 : Option Addr) (len2 cap2 : Nat) (m : List Int) (w : World) (hs : Sl .u8 w ad len cap l) (ht : Sl .u8 w ad2 len2 cap2 m) :
    Calls Try.prog 6 #[.slice ad len cap, .int .u64 n, .string s, .slice ad2 len2 cap2] w fun e w' => e = .returned (.bool true) ∧ Below w.heap.size w w' := by
  have hm : Hid (len ≤ 9223372036854775807 ∧ len2 ≤ 9223372036854775807) := by
    have h1 := hs.2.1; have h2 := hs.2.2.1; have h3 := ht.2.1; have h4 := ht.2.2.1; unfold maxLen at h2 h4; exact ⟨by omega, by omega⟩
  by_cases hlen : len ≤ 200
  · by_cases hsz : s.size ≤ 64
    · by_cases hlen2 : len2 ≤ 100
      · have hd1 : ¬ (200 < (len : Int)) := by omega
        have hd2 : ¬ (64 < (s.size : Int)) := by omega
        have hd3 : ¬ (100 < (len2 : Int)) := by omega
        have HS := hid hs
        have HT := hid ht
        have HZ := hid hs.1
        have HZ2 := hid ht.1
        obtain ⟨b1, b2, b3, b4, b5⟩ := back_list l m n s hsz hn.out
        have hw : ∀ x ∈ ((((l ++ le (n % 65536) 2) ++ le (n % 4294967296) 4) ++ le n 8) ++ (s.size : Int) :: sBytes s) ++ m, (Lit.int .u8 x).wf = true := by
          intro x hx
          rcases List.mem_append.1 hx with h | h
          · refine wf_append (wf_append (wf_append (wf_append hs.2.2.2.1 (le_byte _ _)) (le_byte _ _)) (le_byte _ _)) ?_ x h
            intro y hy
            rcases List.mem_cons.1 hy with rfl | h
            · omega
            · exact sBytes_byte s y h
          · exact ht.2.2.2.1 x h
        have HW := hid hw
        obtain ⟨L, hL⟩ : ∃ L, ((((l ++ le (n % 65536) 2) ++ le (n % 4294967296) 4) ++ le n 8) ++ (s.size : Int) :: sBytes s) ++ m = L := ⟨_, rfl⟩
        rw [hL] at b1 b2 b3 b4 b5 HW
        rw [hs.1] at b1 b2 b3 b4 b5
        rw [ht.1] at b5
        have HL := hid hL
        have c1 : Hid (∀ w1 v, Made w.heap.size .u8 w1 v L → Calls Try.prog 18 #[v, .int .i64 len] w1 fun e w' => e = .returned (.tuple #[.int .u16 ((n % 65536 : Nat) : Int), .int .i64 ((len : Int) + 2), .int .i64 0]) ∧ w1 = w') := by
          intro w1 v hv
          obtain ⟨a, c, rfl, h1, _⟩ := hv
          have h := Get16_any a _ c L w1 len h1 (by omega) (by omega)
          rw [b1] at h; exact h
        have c2 : Hid (∀ w1 v, Made w.heap.size .u8 w1 v L → Calls Try.prog 20 #[v, .int .i64 ((len : Int) + 2)] w1 fun e w' => e = .returned (.tuple #[.int .u32 ((n % 4294967296 : Nat) : Int), .int .i64 ((len : Int) + 2 + 4), .int .i64 0]) ∧ w1 = w') := by
          intro w1 v hv
          obtain ⟨a, c, rfl, h1, _⟩ := hv
          have h := Get32_any a _ c L w1 ((len : Int) + 2) h1 (by omega) (by omega)
          rw [b2] at h; exact h
        have c3 : Hid (∀ w1 v, Made w.heap.size .u8 w1 v L → Calls Try.prog 22 #[v, .int .i64 ((len : Int) + 2 + 4)] w1 fun e w' => e = .returned (.tuple #[.int .u64 (n : Int), .int .i64 ((len : Int) + 2 + 4 + 8), .int .i64 0]) ∧ w1 = w') := by
          intro w1 v hv
          obtain ⟨a, c, rfl, h1, _⟩ := hv
          have h := Get64_any a _ c L w1 ((len : Int) + 2 + 4) h1 (by omega) (by omega)
          rw [b3] at h; exact h
        have c4 : Hid (∀ w1 v, Made w.heap.size .u8 w1 v L → Calls Try.prog 24 #[v, .int .i64 ((len : Int) + 2 + 4 + 8)] w1 fun e w' => e = .returned (.tuple #[.string s, .int .i64 ((len : Int) + 2 + 4 + 8 + 1 + s.size), .int .i64 0]) ∧ w1 = w') := by
          intro w1 v hv
          obtain ⟨a, c, rfl, h1, _⟩ := hv
          have h := getText_any a _ c L w1 ((len : Int) + 2 + 4 + 8) h1 (by omega) (by omega)
          rw [b4, sBytes_str] at h; exact h
        have hb5 := hid b5
        have e16 : IntKind.u16.wrap (n : Int) = ((n % 65536 : Nat) : Int) := by rw [IntKind.wrap_u16]; omega
        have e32 : (n : Int) % 4294967296 = ((n % 4294967296 : Nat) : Int) := by omega
        have u16b : n % 65536 < 65536 := Nat.mod_lt _ (by omega)
        have u32b : n % 4294967296 < 4294967296 := Nat.mod_lt _ (by omega)
        obtain ⟨n16, h16⟩ : ∃ x, n % 65536 = x := ⟨_, rfl⟩
        obtain ⟨n32, h32⟩ : ∃ x, n % 4294967296 = x := ⟨_, rfl⟩
        rw [h16] at c1 e16 u16b HL
        rw [h32] at c2 e32 u32b HL
        clear b1 b2 b3 b4 b5 hw hL hs ht h16 h32 hm
        go_enter Try.func6, Try.ntmps6
        go_wp2_with (first
          | (go_at_call 9; refine (sane_any w).mono ?_; rintro e w1 ⟨rfl, hb⟩; have HB := hid hb; clear hb)
          | (go_at_call 12; refine (Put16_any ad len cap l n16 u16b _ (HS.out.below HB.out) (by omega)).mono ?_; rintro e w2 ⟨v2, rfl, hv, hb⟩; have HB2 := hid (HB.out.trans (hb.mono HB.out.size)); obtain ⟨a2, m2, k2, rfl, M2, S2⟩ := hv.out.take; clear hb hv)
          | (go_at_call 14; refine (Put32_any a2 _ k2 _ n32 u32b _ S2.out (by have := HZ.out; have := M2.out; simp [le_length] at this; omega)).mono ?_; rintro e w3 ⟨v3, rfl, hv, hb⟩; have HB3 := hid (HB2.out.trans (hb.mono HB2.out.size)); obtain ⟨a3, m3, k3, rfl, M3, S3⟩ := hv.out.take; clear hb hv)
          | (go_at_call 16; refine (Put64_any a3 _ k3 _ n hn _ S3.out (by have := HZ.out; have := M3.out; simp [le_length] at this; omega)).mono ?_; rintro e w4 ⟨v4, rfl, hv, hb⟩; have HB4 := hid (HB3.out.trans (hb.mono HB3.out.size)); obtain ⟨a4, m4, k4, rfl, M4, S4⟩ := hv.out.take; clear hb hv)
          | (go_at_call 10; refine (putText_any a4 _ k4 _ s _ S4.out (by have := HZ.out; have := M4.out; simp [le_length] at this; omega) hs64).mono ?_; rintro e w5 ⟨v5, hor, hb⟩; have HB5 := hid (HB4.out.trans (hb.mono HB4.out.size)); rcases hor with ⟨hor, _⟩ | ⟨_, rfl, hv⟩; exact absurd hor (by omega); obtain ⟨a5, m5, k5, rfl, M5, S5⟩ := hv.take; have N5 := hid (show m5 ≤ 400 by have := M5.out; have := HZ.out; simp [le_length, sBytes_length] at *; omega); clear hb hv)
          | (at_builtin; refine wpList_append_sl _ rfl (.const (.slice none 0 0)) (.tmp 49) 22 rfl .u8 5 (.int .u8 0) 1 Try.underlying22 info_u8 rfl w5.heap.size (.slice none 0 0) 0 [] (World.ownsRow_nil _ _ 5 1) rfl a5 m5 k5 _ rfl S5.out (by have := N5.out; unfold maxLen; omega) (by have := N5.out; omega) (Nat.le_refl _) ?_; intro v6 w6 ho6 hg6; have HG5 := hid ((Below.refl w5.heap.size w5).grown hg6.out (Nat.le_refl _) (by intro k hk; cases hk)); have HB6 := hid (HB5.out.trans (HG5.out.mono HB5.out.size)); have HG6 := hid HG5.out.size; clear hg6)
          | (at_builtin; refine wpList_append_sl _ rfl (.tmp 50) (.tmp 51) 22 rfl .u8 5 (.int .u8 0) 1 Try.underlying22 info_u8 rfl w5.heap.size v6 (0 + m5) _ ho6.out rfl ad2 len2 cap2 m rfl (HT.out.below HB6.out) (by have := N5.out; unfold maxLen; omega) (by have := N5.out; omega) HG6.out ?_; intro v7 w7 ho7 hg7; have HB7 := hid (HB6.out.grown hg7.out HB6.out.size (fun k hk => Nat.le_trans HB5.out.size (ho6.out.lt k hk).1)); have MV := hid (back_made HL.out M5.out HZ2.out HW.out HB5.out.size ho7.out); clear hg7 ho7 ho6; obtain ⟨a7, m7, k7, rfl, M7, S7⟩ := MV.out.take)
          | (go_at_call 18; refine (c1.out _ _ MV.out).mono ?_; rintro e w8 ⟨rfl, rfl⟩)
          | (go_at_call 20; refine (c2.out _ _ MV.out).mono ?_; rintro e w8 ⟨rfl, rfl⟩)
          | (go_at_call 22; refine (c3.out _ _ MV.out).mono ?_; rintro e w8 ⟨rfl, rfl⟩)
          | (go_at_call 24; refine (c4.out _ _ MV.out).mono ?_; rintro e w8 ⟨rfl, rfl⟩))
        have e7 : wrap64 ((m7 : Int) - len2) = (len : Int) + 2 + 4 + 8 + 1 + s.size := by
          have e : (m7 : Int) - len2 = (len : Int) + 2 + 4 + 8 + 1 + s.size := by have := M7.out; have := hb5.out; omega
          rw [e]; exact (by unfold wrap64; omega)
        have hfin : ((len : Int) + 2 + 4 + 8 + 1 + s.size == wrap64 ((m7 : Int) - len2)) = true := by rw [e7]; exact beq_self_eq_true _
        go_ret
        exact ⟨by rw [hfin]; rfl, HB7.out⟩
      · have hd1 : ¬ (200 < (len : Int)) := by omega
        have hd2 : ¬ (64 < (s.size : Int)) := by omega
        have hd3 : 100 < (len2 : Int) := by omega
        clear hs ht hm
        go_enter Try.func6, Try.ntmps6
        go_wp2_with (go_at_call 9; refine (sane_any w).mono ?_; rintro e w1 ⟨rfl, hb⟩; have HB := hid hb; clear hb)
        go_ret
        exact ⟨rfl, HB.out⟩
    · have hd1 : ¬ (200 < (len : Int)) := by omega
      have hd2 : 64 < (s.size : Int) := by omega
      clear hs ht hm
      go_enter Try.func6, Try.ntmps6
      go_wp2_with (go_at_call 9; refine (sane_any w).mono ?_; rintro e w1 ⟨rfl, hb⟩; have HB := hid hb; clear hb)
      go_ret
      exact ⟨rfl, HB.out⟩
  · have hd1 : 200 < (len : Int) := by omega
    clear hs ht hm
    go_enter Try.func6, Try.ntmps6
    go_wp2_with (go_at_call 9; refine (sane_any w).mono ?_; rintro e w1 ⟨rfl, hb⟩; have HB := hid hb; clear hb)
    go_ret
    exact ⟨rfl, HB.out⟩
theorem wireBack_int (ad : Option Addr) (len cap : Nat) (l : List Int) (n : Int) (hn : 0 ≤ n ∧ n ≤ 18446744073709551615) (s : ByteArray) (hs64 : s.size ≤ 9223372036854775807) (ad2 : Option Addr) (len2 cap2 : Nat) (m : List Int) (w : World) (hs : Sl .u8 w ad len cap l) (ht : Sl .u8 w ad2 len2 cap2 m) :
    Calls Try.prog 6 #[.slice ad len cap, .int .u64 n, .string s, .slice ad2 len2 cap2] w fun e w' => e = .returned (.bool true) ∧ Below w.heap.size w w' := by
  obtain ⟨k, rfl⟩ : ∃ k : Nat, n = k := ⟨n.toNat, by omega⟩
  exact wireBack_walk ad len cap l k (by show _ < _; omega) s hs64 ad2 len2 cap2 m w hs ht
end Go.Proofs.Ytimogkkkpkcblaa
