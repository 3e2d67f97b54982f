/- A memory told by names: texts: how long, parts, one behind another. No statement is proved here. -/
import Derived.Test.YtkjmlililpgamaaZAmS
import Derived.Laws.Strings3
import Derived.Laws.IdiomStrings
namespace Go.Proofs.Ytkjmlililpgamaa
open Go.ChangeShapes Go.WideShapes Go.ChangeAt Go.RowKit
open List renaming mem_cons_self → ka7
set_option linter.unusedVariables false
set_option linter.unusedSimpArgs false
section
variable {cx : Cx} {o : Oper} {l : List (Nat × PV)} {g : EH}
def lF (P : Program) (h : H) (st : TypeId) : PV → R
 | .e (.c (.d (.lit (.string s)))) => match iM P st, h with
  | true, .i z => dO [((s.size : Nat) : Int) = z] (LV (.int .i64 z))
  | _, _ => none
 | _ => none
theorem nO {h : H} {x : Operand} {st : TypeId} (ho : o.op = .call { callee := .builtin .len, args := #[x], argTypes := #[st] }) {u : PV} (hu : Ev l x u) : OKR cx o l g (lF Try.prog h st u) := by
 unfold lF
 split
 ·split
  ·rename_i hq
   refine OKR.some fun hp => kJ fun ρ a w hs => ?_
   have hq := dC hq
   have e := kG (hu.rep hs (by rw [ho]; simp [Op.operands, Call.operands]))
   have hp := (kN _).1 hp _ (ka7 ..)
   subst hp
   exact ⟨_, by unfold execOp; simp [ho, resolve, invoke, builtin, e, run_len_string, hq, goInt], qC rfl⟩
  ·exact OKR.none
 ·exact OKR.none
def zM (P : Program) (h : H) (l : List (Nat × PV)) (t : TypeId) (lo hi mx : Option Operand) : PV → R := fun _ => none
theorem rL {h : H} {t : TypeId} {x : Operand} {lo hi mx : Option Operand} (ho : o.op = .slice t x lo hi mx) {u : PV} (hu : Ev l x u) : OKR cx o l g (zM Try.prog h l t lo hi mx u) := OKR.none
def zR (P : Program) (op : BinOp) (h : H) : PV → PV → R := fun _ _ => none
theorem sN {op : BinOp} {h : H} {xt yt : TypeId} {x y : Operand} (ho : o.op = .binOp op xt x y yt) {u v : PV} (hu : Ev l x u) (hv : Ev l y v) : OKR cx o l g (zR Try.prog op h u v) := OKR.none
def c5 (s : ByteArray) : List Int := s.data.toList.map fun b => (b.toNat : Int)
theorem k0b {g : List (Nat × Option Bk)} {src dst e : TypeId} {x : Operand} {s : ByteArray} {ls : List Int} {n nx : Nat} (ho : o.op = .convert src dst x) (hs' : Try.prog.underlying src = some .string) (hd : Try.prog.underlying dst = some (.slice e)) (he : Try.prog.underlying e = some (.int .u8)) (hx : Ev l x (LV (.string s))) (hn : c5 s = ls) (hl : ls.length = n) (h63 : n ≤ maxLen) :
  OpOK cx o (S l) (S g) ⟨.e (.c (.own nx 0 n 1 true)), [(nx, some (e, (dI .u8 ls).map .d))], [nx], []⟩ := by
 intro Q ρ a w hL hs hf hnews hh hk hdf K hK
 have e1 := kG (hx.rep hs (by rw [ho]; simp [Op.operands]))
 have hr := run_bytes_of_string (P := Try.prog) w src dst e s hs' hd he
 have hsz : s.size = n := by rw [← hl, ← hn]; unfold c5; rw [List.length_map, Array.length_toList]; rfl
 have hcells : (s.data.map (fun b => Value.int .u8 (b.toNat : Int))).toList = ls.map (Value.int .u8) := by
  rw [← hn]; unfold c5; simp [Function.comp_def]
 have hge := grownCap_ge w s.size 0 e
 have hcm := grownCap_le_maxLen w s.size 0 e (by rw [hsz]; exact h63)
 have q1 : OwnM (w.drew.alloc (.cells (bytesRow s (grownCap w s.size 0 e)) e ((bytesRow s (grownCap w s.size 0 e)).size, (bytesRow s (grownCap w s.size 0 e)).size + 1))) 0 e 1 (.slice (some ⟨w.heap.size, 0, none⟩) s.size (grownCap w s.size 0 e)) n (ls.map (Value.int .u8)) := by
  refine ⟨by simp [hl], .inr ⟨w.heap.size, _, _, _, by rw [hsz], Nat.zero_le _, heap_alloc_new w.drew _, .inr (Nat.le_refl _), by omega, hcm, ?_, ?_⟩⟩
  ·unfold bytesRow; rw [Array.size_append, Array.size_map, Array.size_replicate, Nat.mul_one]; have h9 : s.data.size = s.size := rfl; omega
  ·unfold bytesRow
   rw [Array.toList_append, hcells, Nat.mul_one, List.take_append_of_le_length (by simp [hl]), List.take_of_length_le (by simp [hl])]
 have q2 : w.grownBy (w.drew.alloc (.cells (bytesRow s (grownCap w s.size 0 e)) e ((bytesRow s (grownCap w s.size 0 e)).size, (bytesRow s (grownCap w s.size 0 e)).size + 1))) (Value.ownBlock vI) := ⟨rfl, rfl, rfl, by simp, fun k hk _ => Below.heap_alloc w.drew _ k hk⟩
 have h2 : All2 (RepC cx.p ρ w) ((dI .u8 ls).map .d) (ls.map (Value.int .u8)) := by
  unfold dI
  refine All2.mk (by simp) ?_
  intro i c v hc hv
  simp only [List.map_map, List.getElem?_map] at hc hv
  cases hi : ls[i]? with
  | none => rw [hi] at hc; cases hc
  | some z =>
   rw [hi] at hc hv
   cases hc; cases hv
   exact .d (.lit _ rfl)
 obtain ⟨ρ', p1, p2, p3, p4, p5⟩ := hh.regrow hk (hnews nx (by simp)) (kill := []) (fun x => .inl rfl) rfl q1 q2 (.inr (fun g hg => by simp [Value.ownBlock] at hg; omega)) (fun g h => by cases h) h2 (fun g h => by cases h)
 unfold Oper.wp execOp
 simp only [ho, Sem.run_bind, Sem.run_pure, Result.andThen_ok, e1, hr]
 exact hK _ _ ρ' p1 (fun b hb hn => p2 b (by simpa using hb) hn) p3 p4 p5
def sR (P : Program) (h : H) (nx : Nat) (src dst : TypeId) (u : PV) : R := match u with
 | .e (.c (.d (.lit (.string s)))) => match iM P src, P.underlying dst, h with
  | true, some (.slice e), .st none ls => match nJ P e with
   | true => some ([c5 s = ls, ls.length ≤ 9223372036854775807], ⟨.e (.c (.own nx 0 ls.length 1 true)), [(nx, some (e, .ds (dI .u8 ls)))], [nx], []⟩)
   | false => none
  | true, some (.slice e), .mk n _ _ => none
  | _, _, _ => none
 | _ => none
theorem sQ {h : H} {nx : Nat} {src dst : TypeId} {x : Operand} (ho : o.op = .convert src dst x) {u : PV} (hu : Ev l x u) : OKR cx o l g (sR Try.prog h nx src dst u) := by
 unfold sR
 split
 ·split
  ·rename_i h1 h2
   split
   ·rename_i h3
    refine OKR.some fun hp => ?_
    have hp := (kN _).1 hp
    have hp1 : c5 _ = _ := hp _ (ka7 ..)
    have hp2 : _ ≤ _ := hp _ (List.mem_cons_of_mem _ (ka7 ..))
    unfold nJ at h3
    split at h3
    ·rename_i h4
     exact k0b ho (dC h1) h2 h4 hu hp1 rfl (by unfold maxLen; exact hp2)
    ·cases h3
   ·exact OKR.none
  ·exact OKR.none
  ·exact OKR.none
 ·exact OKR.none
theorem nI {w : World} {g : Nat} {cur : Array Value} {T : TypeId} {fz : Nat × Nat} (hg : w.heap[g]? = some (.cells cur T fz)) (hf : Hm fz cur.size) : ∃ fz', (w.freeze ⟨g, cur.size, none⟩ 1).heap[g]? = some (.cells cur T fz') ∧ Hm fz' cur.size := by
 obtain ⟨hlt, hv⟩ := Array.getElem?_eq_some_iff.1 hg
 have e : (w.freeze ⟨g, cur.size, none⟩ 1).heap[g]? = some (.cells cur T (if fz.1 == fz.2 then (cur.size, cur.size + 1) else (min fz.1 cur.size, max fz.2 (cur.size + 1)))) := by
  unfold World.freeze
  rw [if_neg (by decide)]
  show (w.heap.modify g _)[g]? = _
  rw [Array.getElem?_eq_getElem (by simpa using hlt), Array.getElem_modify_self, hv]
 refine ⟨_, e, ?_⟩
 split
 ·exact .inr (Nat.le_refl _)
 ·rename_i hne
  rcases hf with rfl | hf
  ·exact absurd rfl hne
  ·exact .inr (by show cur.size ≤ min fz.1 cur.size; omega)
theorem nH (w : World) (g k : Nat) : Only g w (w.freeze ⟨g, k, none⟩ 1) := by
 unfold World.freeze
 rw [if_neg (by decide)]
 refine ⟨rfl, rfl, rfl, by simp, fun j hj hne => ?_⟩
 show (w.heap.modify g _)[j]? = _
 rw [Array.getElem?_modify, if_neg (fun e => hne e.symm)]
theorem wN {g : List (Nat × Option Bk)} {t e : TypeId} {x : Operand} {b n : Nat} {T : TypeId} {cs : List C} (ho : o.op = .convert t t x) (ht : Try.prog.underlying t = some (.slice e)) (he : Try.prog.underlying e = some (.int .u8)) (hx : Ev l x (.e (.c (.own b 0 n 1 true)))) (hb : Look g b (some (T, cs))) (hn : 1 ≤ n) :
  OpOK cx o (S l) (S g) ⟨.e (.c (.own b 0 n 1 true)), [(b, some (T, cs))], [], [b]⟩ := by
 intro Q ρ a w hL hs hfoot _ hh hk hdf K hK
 obtain ⟨m, cap, hm, hnl, ev, h3, h4, h5⟩ := uY (by omega) (hx.rep hs (by rw [ho]; simp [Op.operands]))
 have hb' : hL b = some (T, cs) := by rw [hfoot b (by simp), hb.S]
 obtain ⟨vs, rest, ⟨fz, q1, qf⟩, q2, q3⟩ := (hh.at hb' hm hnl).1
 have hsz : (vs ++ rest).toArray.size = (vs ++ rest).length := List.size_toArray
 obtain ⟨fz', r1, r2⟩ := nI q1 (by rw [hsz]; exact qf)
 have hO := nH w m.g (vs ++ rest).toArray.size
 have hgo : Goes cx.p ρ ρ w (w.freeze ⟨m.g, (vs ++ rest).toArray.size, none⟩ 1) := ⟨fun _ _ h => h, fun _ h => h, hO.size, fun k hp hlt => hO.block k hlt (fun e => hp.elim (fun hp => cx.pm k hp (e ▸ (hh.at hb' hm hnl).2)) (fun hz => hh.zf b m (by rw [hb']; simp) hm hnl (e ▸ hz)))⟩
 have hrow : Row cx.p ρ (w.freeze ⟨m.g, (vs ++ rest).toArray.size, none⟩ 1) m T cs := ⟨vs, rest, ⟨fz', r1, by rw [← hsz]; exact r2⟩, q2, q3.imp fun _ _ => RepC.mono hgo⟩
 obtain ⟨p1, p2, p3⟩ := HRep.write hh hk hb' hm hnl hO hrow
 have hshape : w.shape? m.g = some (T, (vs ++ rest).toArray.size) := by unfold World.shape?; rw [q1]
 have hr : (convert t t (.slice (some ⟨m.g, 0, none⟩) n cap)).run Try.prog w = .ok (.slice (some ⟨m.g, 0, none⟩) n cap) (w.freeze ⟨m.g, (vs ++ rest).toArray.size, none⟩ 1) := by
  simp [convert, run_underlying ht, run_underlying he, markStringish, hshape]
 unfold Oper.wp execOp
 simp only [ho, ev, Sem.run_bind, Sem.run_pure, Result.andThen_ok, hr]
 exact hK _ _ ρ p1 (fun _ _ h => h) p2 p3 (.own b 0 n 1 true m cap hm hnl h3 h4 h5)
def lD (P : Program) (g : EH) (src dst : TypeId) (u : PV) : R := match u with
 | .e (.c (.own b 0 n 1 true)) => match Nat.beq src dst, P.underlying src, g.lookup b with
  | true, some (.slice e), some (some (T, .ds ds)) => match nJ P e with
   | true => some ([1 ≤ n], ⟨.e (.c (.own b 0 n 1 true)), [(b, some (T, .ds ds))], [], [b]⟩)
   | false => none
  | _, _, _ => none
 | _ => none
theorem nM {src dst : TypeId} {x : Operand} (ho : o.op = .convert src dst x) {u : PV} (hu : Ev l x u) : OKR cx o l g (lD Try.prog g src dst u) := by
 unfold lD
 split
 ·split
  ·rename_i h1 h2 h3
   split
   ·rename_i h4
    refine OKR.some fun hp => ?_
    have hp := (kN _).1 hp
    have hn : 1 ≤ _ := hp _ (ka7 ..)
    obtain rfl := Nat.eq_of_beq_eq_true h1
    unfold nJ at h4
    split at h4
    ·rename_i h5
     exact wN ho h2 h5 hu (kX h3) hn
    ·cases h4
   ·exact OKR.none
  ·exact OKR.none
 ·exact OKR.none
end
end Go.Proofs.Ytkjmlililpgamaa
