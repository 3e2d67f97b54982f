/- A memory told by names: slices and nil, slices made shorter, empty literal slices, capacities. No statement is proved here. -/
import Derived.Test.YtkjmlililpgamaaZAmS
namespace Go.Proofs.Ytkjmlililpgamaa
open Go.ChangeShapes Go.WideShapes Go.ChangeAt Go.RowKit
open List renaming append_assoc → kf3, length_take → kb8, replicate → kb0, take_append_drop → ki8
open Nat renaming le_refl → kc1
set_option linter.unusedVariables false
set_option linter.unusedSimpArgs false
theorem bX (w : World) (d : Nat) (t e : TypeId) (a : Option Addr) (n c n' c' : Nat) (h : Try.prog.underlying t = some (.slice e)) : (Op.equalIn (d + 1) t (.slice a n c) (.slice none n' c')).run Try.prog w = .ok a.isNone w := by
 cases a with
 | none => simp [Op.equalIn, run_underlying h]
 | some a => simp [Op.equalIn, run_underlying h]
theorem v9 (w : World) (t e : TypeId) (a : Option Addr) (n c n' c' : Nat) (h : Try.prog.underlying t = some (.slice e)) : (Op.equal t (.slice a n c) (.slice none n' c')).run Try.prog w = .ok a.isNone w := bX w 9999 t e a n c n' c' h
theorem k01 {xt e : TypeId} {x y : Operand} {a : Option Addr} {n c n' c' : Nat} (h : Try.prog.underlying xt = some (.slice e)) : dR .eql xt x y (.slice a n c) (.slice none n' c') (.bool a.isNone) := by
 intro w; simp [eqGuard, binOp, v9 (h := h)]
theorem k00 {xt e : TypeId} {x y : Operand} {a : Option Addr} {n c n' c' : Nat} (h : Try.prog.underlying xt = some (.slice e)) : dR .neq xt x y (.slice a n c) (.slice none n' c') (.bool (!a.isNone)) := by
 intro w; simp [eqGuard, binOp, v9 (h := h)]
section
variable {cx : Cx} {o : Oper} {l : List (Nat × PV)} {g : EH}
theorem l9 {g : List (Nat × Option Bk)} {xt yt e : TypeId} {x y : Operand} {op : BinOp} {u : PV} {b r : Bool} (ho : o.op = .binOp op xt x y yt) (hu : Try.prog.underlying xt = some (.slice e)) (hx : Ev l x u) (hy : Ev l y (LV vI))
  (hn : ∀ p ρ w v, RepPV p ρ w u v → ∃ a n c, v = .slice a n c ∧ a.isNone = b) (hop : (op = .eql ∧ r = b) ∨ (op = .neq ∧ r = !b)) : OpOK cx o (S l) (S g) ⟨LV (.bool r), [], [], []⟩ :=
 kJ fun ρ a w hs => ⟨.bool r, by
  obtain ⟨ad, n, c, e1, e3⟩ := hn _ _ _ _ (hx.rep hs (by rw [ho]; simp [Op.operands]))
  have e2 := kG (hy.rep hs (by rw [ho]; simp [Op.operands]))
  unfold execOp
  rcases hop with ⟨rfl, rfl⟩ | ⟨rfl, rfl⟩
  ·simp only [ho, e1, e2]
   rw [Sem.run_bind, k01 (h := hu) w, e3]; rfl
  ·simp only [ho, e1, e2]
   rw [Sem.run_bind, k00 (h := hu) w, e3]; rfl, qC rfl⟩
def eK (P : Program) (t : TypeId) : Option TypeId := match P.underlying t with
 | some (.slice e) => some e
 | _ => none
theorem vL {t e : TypeId} (h : eK Try.prog t = some e) : Try.prog.underlying t = some (.slice e) := by
 unfold eK at h
 split at h
 ·rename_i h1; cases h; exact h1
 ·cases h
def pL : PV → Option (List Prop × Bool)
 | .e (.c (.d (.sl _ n))) => some ([1 ≤ n], false)
 | .e (.c (.own _ _ n _ _)) => some ([1 ≤ n], false)
 | .e (.c (.d (.lit (.slice none _ _)))) => some ([], true)
 | .e (.c (.d (.lit (.slice (some _) _ _)))) => some ([], false)
 | _ => none
theorem iG {u : PV} {ps : List Prop} {b : Bool} (h : pL u = some (ps, b)) (hp : AllP ps) : ∀ p ρ w v, RepPV p ρ w u v → ∃ a n c, v = .slice a n c ∧ a.isNone = b := by
 unfold pL at h
 intro p ρ w v hr
 split at h
 ·rename_i ds n
  cases h
  have hn : 1 ≤ n := hp
  obtain ⟨a, cap, e, h1, _, h2, h3⟩ := fM hr
  rcases h3 with ⟨_, h3⟩ | ⟨us, b', off, h3, _⟩
  ·omega
  ·exact ⟨a, n, cap, e, by rw [h3]; rfl⟩
 ·rename_i b' off n s wh
  cases h
  have hn : 1 ≤ n := hp
  obtain ⟨m, cap, _, _, e, _⟩ := uY (by omega) hr
  exact ⟨_, n, cap, e, rfl⟩
 ·cases h; exact ⟨_, _, _, kG hr, rfl⟩
 ·cases h; exact ⟨_, _, _, kG hr, rfl⟩
 ·cases h
def f3 : PV → Bool
 | .e (.c (.d (.lit (.slice none 0 0)))) => true
 | _ => false
theorem bI {u : PV} (h : f3 u = true) : u = LV vI := by
 unfold f3 at h
 split at h
 ·rfl
 ·cases h
def rQ (P : Program) (op : BinOp) (xt : TypeId) (u v : PV) : R := match eK P xt, f3 v, pL u, op with
 | some _, true, some (ps, b), .eql => dO ps (LV (.bool b))
 | some _, true, some (ps, b), .neq => dO ps (LV (.bool (!b)))
 | _, _, _, _ => none
theorem rP {op : BinOp} {xt yt : TypeId} {x y : Operand} (ho : o.op = .binOp op xt x y yt) {u v : PV} (hu : Ev l x u) (hv : Ev l y v) : OKR cx o l g (rQ Try.prog op xt u v) := by
 unfold rQ
 split
 ·rename_i h1 h2 h3
  obtain rfl := bI h2
  exact OKR.some fun hp => l9 ho (vL h1) hu hv (iG h3 hp) (.inl ⟨rfl, rfl⟩)
 ·rename_i h1 h2 h3
  obtain rfl := bI h2
  exact OKR.some fun hp => l9 ho (vL h1) hu hv (iG h3 hp) (.inr ⟨rfl, rfl⟩)
 ·exact OKR.none
theorem cQ {t e : TypeId} {bb : Bool} {s : Nat} (hu : Try.prog.underlying t = some (.slice e)) (he : qM Try.prog e = some (bb, s)) (w : World) (b off n cap H : Nat) (k : IntKind) (h2 : H ≤ n) (h3 : n ≤ cap) :
  (Instr.sliceAt t (.slice (some ⟨b, off, none⟩) n cap) none (some (.int k (H : Int))) none).run Try.prog w = .ok (.slice (some ⟨b, off, none⟩) H cap) w := by
 have h4 : Try.prog.underlying t = some (.slice (Try.prog.elem t)) := by rw [uB hu]; exact hu
 rw [run_sliceAt_slice (h := h4), run_slice_h (ht := h4) (h0 := by omega) (h2 := by omega), uB hu, k9 he]
 simp [sliced, Result.andThen, Addr.add]
theorem jZ {g : List (Nat × Option Bk)} {t e : TypeId} {bb : Bool} {x y : Operand} {b n s H : Nat} {T : TypeId} {cs cs' : List C} {k : IntKind} {i : Int} (ho : o.op = .slice t x none (some y) none) (hu : Try.prog.underlying t = some (.slice e)) (he : qM Try.prog e = some (bb, s)) (hx : Ev l x (.e (.c (.own b 0 n s true)))) (hy : Ev l y (LV (.int k i))) (hi : i = (H : Int)) (hb : Look g b (some (T, cs))) (h2 : H ≤ n) (hc : cs.take (H * s) = cs') :
  OpOK cx o (S l) (S g) ⟨.e (.c (.own b 0 H s true)), [(b, some (T, cs'))], [], [b]⟩ := by
 intro Q ρ a w hL hs hfoot _ hh hk hdf K hK
 have hrep := hx.rep hs (by rw [ho]; simp [Op.operands])
 obtain ⟨vx, ev⟩ : ∃ vx, a.eval x = vx := ⟨_, rfl⟩
 rw [ev] at hrep
 have hrep' : RepC cx.p ρ w (.own b 0 n s true) vx := hrep
 cases hrep' with
 | ownn _ _ m hm hnl =>
  have hb' : hL b = some (T, cs) := by rw [hfoot b (by simp), hb.S]
  have hH : H = 0 := by omega
  subst hH
  have hcs0 : cs = [] := by
   obtain ⟨m2, k1, k2 | ⟨k2, _⟩⟩ := hh.row b T cs hb'
   ·exact k2.2
   ·rw [hm] at k1; cases k1; rw [hnl] at k2; cases k2
  subst hcs0
  have hc' : cs' = [] := by rw [← hc]; simp
  subst hc'
  obtain ⟨M, q1, q2, q3, q4⟩ := y3 ho hu he (.no) (.yes hy hi) (.no) (kc1 0) (kc1 0) hs ev (kc1 0)
  have hM : M = 0 := by omega
  subst hM
  have hL' : (fun x => (([(b, some (T, ([] : List C)))] : List (Nat × Option Bk)).lookup x).getD (hL x)) = hL := by
   funext x'
   by_cases e : x' = b
   ·subst e; simp [hb']
   ·simp [List.lookup_cons, show (x' == b) = false by simpa using e]
  refine cH _ q4 (hK _ _ ρ (Goes.refl _ _ _) (fun _ _ h => h) (by rw [hL']; exact hh) hk (.ownn b s m hm hnl))
 | own _ _ _ _ _ m cap hm hnl h3 h4 h5 =>
  have ey := kG (hy.rep hs (by rw [ho]; simp [Op.operands]))
  have hb' : hL b = some (T, cs) := by rw [hfoot b (by simp), hb.S]
  obtain ⟨vs, rest, q1, q2, q3⟩ := (hh.at hb' hm hnl).1
  have hcl : cs.length = vs.length := q3.len
  have hrow : Row cx.p ρ w m T cs' := by
   refine ⟨vs.take (H * s), vs.drop (H * s) ++ rest, by rw [← kf3, ki8]; exact q1, by rw [← kf3, ki8]; exact q2, ?_⟩
   rw [← hc]
   exact All2.mk (by rw [kb8, kb8, hcl]) fun j c u hj hu' => by
    rw [List.getElem?_take] at hj hu'
    split at hj
    ·rename_i hlt
     rw [if_pos hlt] at hu'
     exact q3.get j c u hj hu'
    ·cases hj
  obtain ⟨p1, p2, p3⟩ := HRep.write hh hk hb' hm hnl (Only.refl m.g w) (cs' := cs') hrow
  have hr := cQ hu he w m.g 0 n cap H k h2 h3
  unfold Oper.wp execOp
  simp only [ho, ev, ey, hi, Option.map_none, Option.map_some, Sem.run_bind, hr, Result.andThen_ok, Sem.run_pure, Oper.upon_value]
  exact hK _ _ ρ p1 (fun _ _ h => h) p2 p3 (.own b 0 H s true m cap hm hnl (by omega) h4 h5)
def rK (P : Program) (h : H) (l : List (Nat × PV)) (g : EH) (t : TypeId) (lo hi mx : Option Operand) : PV → R
 | .e (.c (.own b 0 n s true)) => match eK P t, h, lo, hi, mx with
  | some e, .mk H _ r, none, some y, none => match qM P e, uA l y, g.lookup b with
   | some (_, s'), some (.e (.c (.d (.lit (.int _ i))))), some (some (T, .ds ds)) => match Nat.beq s' s with
    | true => some ([i = (H : Int), H ≤ n, ds.take (H * s) = r], ⟨.e (.c (.own b 0 H s true)), [(b, some (T, .ds r))], [], [b]⟩)
    | false => none
   | _, _, _ => none
  | _, _, _, _, _ => none
 | _ => none
theorem rJ {h : H} {t : TypeId} {x : Operand} {lo hi mx : Option Operand} (ho : o.op = .slice t x lo hi mx) {u : PV} (hu : Ev l x u) : OKR cx o l g (rK Try.prog h l g t lo hi mx u) := by
 unfold rK
 split
 ·split
  ·rename_i h1
   split
   ·rename_i he hy hg
    split
    ·rename_i hs
     have hs := Nat.eq_of_beq_eq_true hs
     subst hs
     refine OKR.some fun hp => ?_
     obtain ⟨p1, p3, p4⟩ := hp
     have p4 := congrArg (List.map C.d) (show List.take _ _ = _ from p4)
     rw [List.map_take] at p4
     exact jZ ho (vL h1) he hu (bK hy) p1 (kX hg) p3 p4
    ·exact OKR.none
   ·exact OKR.none
  ·exact OKR.none
 ·exact OKR.none
def sP (P : Program) (st : TypeId) (u : PV) : R := match eK P st, f3 u with
 | some _, true => pv (LV (.int .i64 0))
 | _, _ => none
theorem sO {x : Operand} {st : TypeId} (ho : o.op = .call { callee := .builtin .cap, args := #[x], argTypes := #[st] }) {u : PV} (hu : Ev l x u) : OKR cx o l g (sP Try.prog st u) := by
 unfold sP
 split
 ·rename_i h1 h2
  obtain rfl := bI h2
  have h1 := vL h1
  exact OKR.some fun _ => kJ fun ρ a w hs => by
   have e := kG (hu.rep hs (by rw [ho]; simp [Op.operands, Call.operands]))
   exact ⟨.int .i64 0, by unfold execOp; simp [ho, resolve, invoke, builtin, e, Builtin.cap_, run_underlying h1, goInt], qC rfl⟩
 ·exact OKR.none
def sZ (P : Program) (nx : Nat) (t : TypeId) (n : Nat) (parts : Array (Nat × Operand)) : R := match eK P t, n, parts.toList with
 | some e, 0, [] => match qM P e with
  | some (_, s) => some ([], ⟨.e (.c (.own nx 0 0 s true)), [(nx, some (e, .ds []))], [nx], []⟩)
  | none => none
 | _, _, _ => none
theorem sY {nx : Nat} {t : TypeId} {n : Nat} {parts : Array (Nat × Operand)} (ho : o.op = .buildSlice t n parts) : OKR cx o l g (sZ Try.prog nx t n parts) := by
 unfold sZ
 split
 ·rename_i e h1 h2
  have hp : parts = #[] := by simpa using h2
  subst hp
  split
  ·rename_i bb s he
   have h1 := vL h1
   refine OKR.some fun _ => ?_
   refine vU (xs := []) fun ρ a w hs => ⟨[], [], 0, ?_, trivial, kc1 0, by simp [maxLen], by simp⟩
   unfold execOp
   simp [ho, Instr.buildSlice, run_underlying h1, k9 he, Instr.fill, newRow]
   rw [show Array.map (fun _ : Nat => (default : Value)) (Array.range 0) = #[] from Array.ext' (by simp)]
  ·exact OKR.none
 ·exact OKR.none
theorem fQ {g : List (Nat × Option Bk)} {t tn e : TypeId} {z : Value} {bs m nx : Nat} {kn kq : IntKind} {x y : Operand} {iy : Int} {cs' : List C} (ho : o.op = .call { callee := .builtin .append, args := #[x, y], argTypes := #[t, tn] }) (hu : Try.prog.underlying t = some (.slice e)) (htn : Try.prog.underlying tn = some (.int kn)) (hi : (Try.prog.info? e).map (fun i => (i.zero, i.size, i.bytes)) = some (some z, 1, bs)) (hz1 : z.oneCell' = true)
  (hx : Ev l x (LV vI)) (hy : Ev l y (LV (.int kq iy))) (ey : iy = (m : Int)) (h63 : m ≤ maxLen) (hbytes : m * bs ≤ 140737488355328) (hcat : kb0 m (LC z) = cs') : OpOK cx o (S l) (S g) ⟨.e (.c (.own nx 0 m 1 true)), [(nx, some (e, cs'))], [nx], []⟩ := by
 subst hcat; subst ey
 intro Q ρ a w hL hs hf hnews hh hk hdf K hK
 have e2 := kG (hy.rep hs (by rw [ho]; simp [Op.operands, Call.operands]))
 have e1 := kG (hx.rep hs (by rw [ho]; simp [Op.operands, Call.operands]))
 obtain ⟨v', w', hr, q1, q2, q3⟩ := yO (kq := kq) hu htn hi hz1 (w := w) (v := vI) (n := 0) (xs := []) ⟨by simp, .inl ⟨rfl, rfl⟩⟩ m (by omega) (by rw [Nat.zero_add]; exact hbytes) o.type
 rw [Nat.zero_add, List.nil_append] at q1
 have hz0 : All2 (RepC cx.p ρ w) (kb0 m (LC z)) (kb0 m z) := by
  refine All2.mk (by simp) ?_
  intro j p q hj hq
  rw [List.getElem?_replicate] at hj hq
  split at hj
  ·rename_i hlt
   rw [if_pos hlt] at hq
   cases hj; cases hq
   exact .d (.lit _ hz1)
  ·cases hj
 obtain ⟨ρ', p1, p2, p3, p4, p5⟩ := hh.regrow hk (hnews nx (by simp)) (kill := []) (fun x => .inl rfl) rfl (v4 q1) q2 q3 (fun g h => by cases h) hz0 (fun g h => by cases h)
 unfold Oper.wp execOp
 simp only [ho, resolve, invoke, builtin, Sem.run_bind, Sem.run_pure, Result.andThen_ok, List.map_toArray, List.map_cons, List.map_nil, e1, e2, hr]
 exact hK v' w' ρ' p1 (fun b hb hn => p2 b (by simpa using hb) hn) p3 p4 p5
def rD (P : Program) (h : H) (nx : Nat) (t tn : TypeId) : PV → PV → R
 | .e (.c (.d (.lit (.slice none 0 0)))), .e (.c (.d (.lit (.int _ iy)))) => match P.underlying t, P.underlying tn, h with
  | some (.slice e), some (.int _), .az m _ r => match lO P e with
   | some (z, 1, bs) => match z.oneCell' && Nat.ble 1 bs with
    | true => some ([iy = (m : Int), m * bs ≤ 140737488355328, kb0 m (.lit z) = r], ⟨.e (.c (.own nx 0 m 1 true)), [(nx, some (e, .ds r))], [nx], []⟩)
    | false => none
   | _ => none
  | _, _, _ => none
 | _, _ => none
theorem rC {h : H} {nx : Nat} {x y : Operand} {t tn : TypeId} (ho : o.op = .call { callee := .builtin .append, args := #[x, y], argTypes := #[t, tn] }) {u v : PV} (hu : Ev l x u) (hv : Ev l y v) : OKR cx o l g (rD Try.prog h nx t tn u v) := by
 unfold rD
 split
 ·split
  ·rename_i ht htn
   split
   ·rename_i he
    split
    ·rename_i hc
     simp only [Bool.and_eq_true] at hc
     obtain ⟨c2, c3⟩ := hc
     have c3 := Nat.le_of_ble_eq_true c3
     refine OKR.some fun hp => ?_
     obtain ⟨h1, h3, h4⟩ := hp
     have h4 := congrArg (List.map C.d) (show kb0 _ _ = _ from h4)
     rw [List.map_replicate] at h4
     exact fQ ho ht htn (y7 he) c2 hu hv h1 (vK h3 c3) h3 h4
    ·exact OKR.none
   ·exact OKR.none
  ·exact OKR.none
 ·exact OKR.none
end
end Go.Proofs.Ytkjmlililpgamaa
