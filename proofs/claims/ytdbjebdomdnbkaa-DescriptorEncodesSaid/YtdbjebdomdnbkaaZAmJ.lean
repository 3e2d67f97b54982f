/- Merged texts. -/
import Derived.Test.YtdbjebdomdnbkaaZAmS
import Derived.Test.YtdbjebdomdnbkaaZAmI
import Derived.Test.YtdbjebdomdnbkaaZAmL
import Derived.Test.YtdbjebdomdnbkaaZAmX
import Derived.Test.YtdbjebdomdnbkaaZAmP
namespace Go.Proofs.Ytdbjebdomdnbkaa
open Go.ChangeShapes Go.WideShapes Go.ChangeAt Go.RowKit
set_option linter.unusedVariables false
set_option linter.unusedSimpArgs false
theorem jH (w : World) (d : Nat) (t e : TypeId) (a : Option Addr) (n c n' c' : Nat) (h : Try.prog.underlying t = some (.slice e)) : (Op.equalIn (d + 1) t (.slice a n c) (.slice none n' c')).run Try.prog w = .ok a.isNone w := by
 cases a with
 | none => simp [Op.equalIn, run_underlying h]
 | some a => simp [Op.equalIn, run_underlying h]
theorem fK (w : World) (t e : TypeId) (a : Option Addr) (n c n' c' : Nat) (h : Try.prog.underlying t = some (.slice e)) : (Op.equal t (.slice a n c) (.slice none n' c')).run Try.prog w = .ok a.isNone w := jH w 9999 t e a n c n' c' h
theorem u1n {xt e : TypeId} {x y : Operand} {a : Option Addr} {n c n' c' : Nat} (h : Try.prog.underlying xt = some (.slice e)) : mZ .eql xt x y (.slice a n c) (.slice none n' c') (.bool a.isNone) := by
 intro w; simp [eqGuard, binOp, fK (h := h)]
theorem u1m {xt e : TypeId} {x y : Operand} {a : Option Addr} {n c n' c' : Nat} (h : Try.prog.underlying xt = some (.slice e)) : mZ .neq xt x y (.slice a n c) (.slice none n' c') (.bool (!a.isNone)) := by
 intro w; simp [eqGuard, binOp, fK (h := h)]
section
variable {cx : Cx} {o : Oper} {l : List (Nat × PV)} {g : EH}
theorem k07 {g : List (Nat × Option Bk)} {xt yt e : TypeId} {x y : Operand} {op : BinOp} {u : PV} {b r : Bool} (ho : o.op = .binOp op xt x y yt) (hu : Try.prog.underlying xt = some (.slice e)) (hx : Ev l x u) (hy : Ev l y (LV aT))
  (hn : ∀ p ρ w v, RepPV p ρ w u v → ∃ a n c, v = .slice a n c ∧ a.isNone = b) (hop : (op = .eql ∧ r = b) ∨ (op = .neq ∧ r = !b)) : OpOK cx o (S l) (S g) ⟨LV (.bool r), [], [], []⟩ :=
 qK fun ρ a w hs => ⟨.bool r, by
  obtain ⟨ad, n, c, e1, e3⟩ := hn _ _ _ _ (hx.rep hs (by rw [ho]; simp [Op.operands]))
  have e2 := qC (hy.rep hs (by rw [ho]; simp [Op.operands]))
  unfold execOp
  rcases hop with ⟨rfl, rfl⟩ | ⟨rfl, rfl⟩
  ·simp only [ho, e1, e2]
   rw [Sem.run_bind, u1n (h := hu) w, e3]; rfl
  ·simp only [ho, e1, e2]
   rw [Sem.run_bind, u1m (h := hu) w, e3]; rfl, uN rfl⟩
def oE (P : Program) (t : TypeId) : Option TypeId := match P.underlying t with
 | some (.slice e) => some e
 | _ => none
theorem eJ {t e : TypeId} (h : oE Try.prog t = some e) : Try.prog.underlying t = some (.slice e) := by
 unfold oE at h
 split at h
 ·rename_i h1; cases h; exact h1
 ·cases h
def k3u : PV → Option (List Prop × Bool)
 | .e (.c (.d (.sl _ n))) => some ([1 ≤ n], false)
 | .e (.c (.own _ _ n _ _)) => some ([1 ≤ n], false)
 | .e (.c (.d (.lit (.slice none _ _)))) => some ([], true)
 | .e (.c (.d (.lit (.slice (some _) _ _)))) => some ([], false)
 | _ => none
theorem tO {u : PV} {ps : List Prop} {b : Bool} (h : k3u u = some (ps, b)) (hp : AllP ps) : ∀ p ρ w v, RepPV p ρ w u v → ∃ a n c, v = .slice a n c ∧ a.isNone = b := by
 unfold k3u at h
 intro p ρ w v hr
 split at h
 ·rename_i ds n
  cases h
  have hn : 1 ≤ n := hp
  obtain ⟨a, cap, e, h1, _, h2, h3⟩ := pQ hr
  rcases h3 with ⟨_, h3⟩ | ⟨us, b', off, h3, _⟩
  ·omega
  ·exact ⟨a, n, cap, e, by rw [h3]; rfl⟩
 ·rename_i b' off n s wh
  cases h
  have hn : 1 ≤ n := hp
  obtain ⟨m, cap, _, _, e, _⟩ := bW (by omega) hr
  exact ⟨_, n, cap, e, rfl⟩
 ·cases h; exact ⟨_, _, _, qC hr, rfl⟩
 ·cases h; exact ⟨_, _, _, qC hr, rfl⟩
 ·cases h
def rJ : PV → Bool
 | .e (.c (.d (.lit (.slice none 0 0)))) => true
 | _ => false
theorem iS {u : PV} (h : rJ u = true) : u = LV aT := by
 unfold rJ at h
 split at h
 ·rfl
 ·cases h
def k4z (P : Program) (op : BinOp) (xt : TypeId) (u v : PV) : R := match oE P xt, rJ v, k3u u, op with
 | some _, true, some (ps, b), .eql => mU ps (LV (.bool b))
 | some _, true, some (ps, b), .neq => mU ps (LV (.bool (!b)))
 | _, _, _, _ => none
theorem k4y {op : BinOp} {xt yt : TypeId} {x y : Operand} (ho : o.op = .binOp op xt x y yt) {u v : PV} (hu : Ev l x u) (hv : Ev l y v) : OKR cx o l g (k4z Try.prog op xt u v) := by
 unfold k4z
 split
 ·rename_i h1 h2 h3
  obtain rfl := iS h2
  exact OKR.some fun hp => k07 ho (eJ h1) hu hv (tO h3 hp) (.inl ⟨rfl, rfl⟩)
 ·rename_i h1 h2 h3
  obtain rfl := iS h2
  exact OKR.some fun hp => k07 ho (eJ h1) hu hv (tO h3 hp) (.inr ⟨rfl, rfl⟩)
 ·exact OKR.none
theorem lP {t e : TypeId} {bb : Bool} {s : Nat} (hu : Try.prog.underlying t = some (.slice e)) (he : yL Try.prog e = some (bb, s)) (w : World) (b off n cap H : Nat) (k : IntKind) (h2 : H ≤ n) (h3 : n ≤ cap) :
  (Instr.sliceAt t (.slice (some ⟨b, off, none⟩) n cap) none (some (.int k (H : Int))) none).run Try.prog w = .ok (.slice (some ⟨b, off, none⟩) H cap) w := by
 have h4 : Try.prog.underlying t = some (.slice (Try.prog.elem t)) := by rw [aA hu]; exact hu
 rw [run_sliceAt_slice (h := h4), run_slice_h (ht := h4) (h0 := by omega) (h2 := by omega), aA hu, uH he]
 simp [sliced, Result.andThen, Addr.add]
theorem xG {g : List (Nat × Option Bk)} {t e : TypeId} {bb : Bool} {x y : Operand} {b n s H : Nat} {T : TypeId} {cs cs' : List C} {k : IntKind} {i : Int} (ho : o.op = .slice t x none (some y) none) (hu : Try.prog.underlying t = some (.slice e)) (he : yL Try.prog e = some (bb, s)) (hx : Ev l x (.e (.c (.own b 0 n s true)))) (hy : Ev l y (LV (.int k i))) (hi : i = (H : Int)) (hb : Look g b (some (T, cs))) (h2 : H ≤ n) (hc : cs.take (H * s) = cs') :
  OpOK cx o (S l) (S g) ⟨.e (.c (.own b 0 H s true)), [(b, some (T, cs'))], [], [b]⟩ := by
 intro Q ρ a w hL hs hfoot _ hh hk hdf K hK
 have hrep := hx.rep hs (by rw [ho]; simp [Op.operands])
 obtain ⟨vx, ev⟩ : ∃ vx, a.eval x = vx := ⟨_, rfl⟩
 rw [ev] at hrep
 have hrep' : RepC cx.p ρ w (.own b 0 n s true) vx := hrep
 cases hrep' with
 | ownn _ _ m hm hnl =>
  have hb' : hL b = some (T, cs) := by rw [hfoot b (by simp), hb.S]
  have hH : H = 0 := by omega
  subst hH
  have hcs0 : cs = [] := by
   obtain ⟨m2, k1, k2 | ⟨k2, _⟩⟩ := hh.row b T cs hb'
   ·exact k2.2
   ·rw [hm] at k1; cases k1; rw [hnl] at k2; cases k2
  subst hcs0
  have hc' : cs' = [] := by rw [← hc]; simp
  subst hc'
  obtain ⟨M, q1, q2, q3, q4⟩ := c9 ho hu he (.no) (.yes hy hi) (.no) (Nat.le_refl 0) (Nat.le_refl 0) hs ev (Nat.le_refl 0)
  have hM : M = 0 := by omega
  subst hM
  have hL' : (fun x => (([(b, some (T, ([] : List C)))] : List (Nat × Option Bk)).lookup x).getD (hL x)) = hL := by
   funext x'
   by_cases e : x' = b
   ·subst e; simp [hb']
   ·simp [List.lookup_cons, show (x' == b) = false by simpa using e]
  refine lD _ q4 (hK _ _ ρ (Goes.refl _ _ _) (fun _ _ h => h) (by rw [hL']; exact hh) hk (.ownn b s m hm hnl))
 | own _ _ _ _ _ m cap hm hnl h3 h4 h5 =>
  have ey := qC (hy.rep hs (by rw [ho]; simp [Op.operands]))
  have hb' : hL b = some (T, cs) := by rw [hfoot b (by simp), hb.S]
  obtain ⟨vs, rest, q1, q2, q3⟩ := (hh.at hb' hm hnl).1
  have hcl : cs.length = vs.length := q3.len
  have hrow : Row cx.p ρ w m T cs' := by
   refine ⟨vs.take (H * s), vs.drop (H * s) ++ rest, by rw [← List.append_assoc, List.take_append_drop]; exact q1, by rw [← List.append_assoc, List.take_append_drop]; exact q2, ?_⟩
   rw [← hc]
   exact All2.mk (by rw [List.length_take, List.length_take, hcl]) fun j c u hj hu' => by
    rw [List.getElem?_take] at hj hu'
    split at hj
    ·rename_i hlt
     rw [if_pos hlt] at hu'
     exact q3.get j c u hj hu'
    ·cases hj
  obtain ⟨p1, p2, p3⟩ := HRep.write hh hk hb' hm hnl (Only.refl m.g w) (cs' := cs') hrow
  have hr := lP hu he w m.g 0 n cap H k h2 h3
  unfold Oper.wp execOp
  simp only [ho, ev, ey, hi, Option.map_none, Option.map_some, Sem.run_bind, hr, Result.andThen_ok, Sem.run_pure, Oper.upon_value]
  exact hK _ _ ρ p1 (fun _ _ h => h) p2 p3 (.own b 0 H s true m cap hm hnl (by omega) h4 h5)
def k4t (P : Program) (h : H) (l : List (Nat × PV)) (g : EH) (t : TypeId) (lo hi mx : Option Operand) : PV → R
 | .e (.c (.own b 0 n s true)) => match oE P t, h, lo, hi, mx with
  | some e, .mk H _ r, none, some y, none => match yL P e, aC l y, g.lookup b with
   | some (_, s'), some (.e (.c (.d (.lit (.int _ i))))), some (some (T, .ds ds)) => match Nat.beq s' s with
    | true => some ([i = (H : Int), H ≤ n, ds.take (H * s) = r], ⟨.e (.c (.own b 0 H s true)), [(b, some (T, .ds r))], [], [b]⟩)
    | false => none
   | _, _, _ => none
  | _, _, _, _, _ => none
 | _ => none
theorem k4s {h : H} {t : TypeId} {x : Operand} {lo hi mx : Option Operand} (ho : o.op = .slice t x lo hi mx) {u : PV} (hu : Ev l x u) : OKR cx o l g (k4t Try.prog h l g t lo hi mx u) := by
 unfold k4t
 split
 ·split
  ·rename_i h1
   split
   ·rename_i he hy hg
    split
    ·rename_i hs
     have hs := Nat.eq_of_beq_eq_true hs
     subst hs
     refine OKR.some fun hp => ?_
     obtain ⟨p1, p3, p4⟩ := hp
     have p4 := congrArg (List.map C.d) (show List.take _ _ = _ from p4)
     rw [List.map_take] at p4
     exact xG ho (eJ h1) he hu (iU hy) p1 (qV hg) p3 p4
    ·exact OKR.none
   ·exact OKR.none
  ·exact OKR.none
 ·exact OKR.none
def k5q (P : Program) (st : TypeId) (u : PV) : R := match oE P st, rJ u with
 | some _, true => pv (LV (.int .i64 0))
 | _, _ => none
theorem k5p {x : Operand} {st : TypeId} (ho : o.op = .call { callee := .builtin .cap, args := #[x], argTypes := #[st] }) {u : PV} (hu : Ev l x u) : OKR cx o l g (k5q Try.prog st u) := by
 unfold k5q
 split
 ·rename_i h1 h2
  obtain rfl := iS h2
  have h1 := eJ h1
  exact OKR.some fun _ => qK fun ρ a w hs => by
   have e := qC (hu.rep hs (by rw [ho]; simp [Op.operands, Call.operands]))
   exact ⟨.int .i64 0, by unfold execOp; simp [ho, resolve, invoke, builtin, e, Builtin.cap_, run_underlying h1, goInt], uN rfl⟩
 ·exact OKR.none
def k5y (P : Program) (nx : Nat) (t : TypeId) (n : Nat) (parts : Array (Nat × Operand)) : R := match oE P t, n, parts.toList with
 | some e, 0, [] => match yL P e with
  | some (_, s) => some ([], ⟨.e (.c (.own nx 0 0 s true)), [(nx, some (e, .ds []))], [nx], []⟩)
  | none => none
 | _, _, _ => none
theorem k5x {nx : Nat} {t : TypeId} {n : Nat} {parts : Array (Nat × Operand)} (ho : o.op = .buildSlice t n parts) : OKR cx o l g (k5y Try.prog nx t n parts) := by
 unfold k5y
 split
 ·rename_i e h1 h2
  have hp : parts = #[] := by simpa using h2
  subst hp
  split
  ·rename_i bb s he
   have h1 := eJ h1
   refine OKR.some fun _ => ?_
   refine eV (xs := []) fun ρ a w hs => ⟨[], [], 0, ?_, trivial, Nat.le_refl 0, by simp [maxLen], by simp⟩
   unfold execOp
   simp [ho, Instr.buildSlice, run_underlying h1, uH he, Instr.fill, newRow]
   rw [show Array.map (fun _ : Nat => (default : Value)) (Array.range 0) = #[] from Array.ext' (by simp)]
  ·exact OKR.none
 ·exact OKR.none
theorem pV {g : List (Nat × Option Bk)} {t tn e : TypeId} {z : Value} {bs m nx : Nat} {kn kq : IntKind} {x y : Operand} {iy : Int} {cs' : List C} (ho : o.op = .call { callee := .builtin .append, args := #[x, y], argTypes := #[t, tn] }) (hu : Try.prog.underlying t = some (.slice e)) (htn : Try.prog.underlying tn = some (.int kn)) (hi : (Try.prog.info? e).map (fun i => (i.zero, i.size, i.bytes)) = some (some z, 1, bs)) (hz1 : z.oneCell' = true)
  (hx : Ev l x (LV aT)) (hy : Ev l y (LV (.int kq iy))) (ey : iy = (m : Int)) (h63 : m ≤ maxLen) (hbytes : m * bs ≤ 140737488355328) (hcat : List.replicate m (LC z) = cs') : OpOK cx o (S l) (S g) ⟨.e (.c (.own nx 0 m 1 true)), [(nx, some (e, cs'))], [nx], []⟩ := by
 subst hcat; subst ey
 intro Q ρ a w hL hs hf hnews hh hk hdf K hK
 have e2 := qC (hy.rep hs (by rw [ho]; simp [Op.operands, Call.operands]))
 have e1 := qC (hx.rep hs (by rw [ho]; simp [Op.operands, Call.operands]))
 obtain ⟨v', w', hr, q1, q2, q3⟩ := cC (kq := kq) hu htn hi hz1 (w := w) (v := aT) (n := 0) (xs := []) ⟨by simp, .inl ⟨rfl, rfl⟩⟩ m (by omega) (by rw [Nat.zero_add]; exact hbytes) o.type
 rw [Nat.zero_add, List.nil_append] at q1
 have hz0 : All2 (RepC cx.p ρ w) (List.replicate m (LC z)) (List.replicate m z) := by
  refine All2.mk (by simp) ?_
  intro j p q hj hq
  rw [List.getElem?_replicate] at hj hq
  split at hj
  ·rename_i hlt
   rw [if_pos hlt] at hq
   cases hj; cases hq
   exact .d (.lit _ hz1)
  ·cases hj
 obtain ⟨ρ', p1, p2, p3, p4, p5⟩ := hh.regrow hk (hnews nx (by simp)) (kill := []) (fun x => .inl rfl) rfl (fE q1) q2 q3 (fun g h => by cases h) hz0 (fun g h => by cases h)
 unfold Oper.wp execOp
 simp only [ho, resolve, invoke, builtin, Sem.run_bind, Sem.run_pure, Result.andThen_ok, List.map_toArray, List.map_cons, List.map_nil, e1, e2, hr]
 exact hK v' w' ρ' p1 (fun b hb hn => p2 b (by simpa using hb) hn) p3 p4 p5
def k4m (P : Program) (h : H) (nx : Nat) (t tn : TypeId) : PV → PV → R
 | .e (.c (.d (.lit (.slice none 0 0)))), .e (.c (.d (.lit (.int _ iy)))) => match P.underlying t, P.underlying tn, h with
  | some (.slice e), some (.int _), .az m _ r => match zK P e with
   | some (z, 1, bs) => match z.oneCell' && Nat.ble 1 bs with
    | true => some ([iy = (m : Int), m * bs ≤ 140737488355328, List.replicate m (.lit z) = r], ⟨.e (.c (.own nx 0 m 1 true)), [(nx, some (e, .ds r))], [nx], []⟩)
    | false => none
   | _ => none
  | _, _, _ => none
 | _, _ => none
theorem k4l {h : H} {nx : Nat} {x y : Operand} {t tn : TypeId} (ho : o.op = .call { callee := .builtin .append, args := #[x, y], argTypes := #[t, tn] }) {u v : PV} (hu : Ev l x u) (hv : Ev l y v) : OKR cx o l g (k4m Try.prog h nx t tn u v) := by
 unfold k4m
 split
 ·split
  ·rename_i ht htn
   split
   ·rename_i he
    split
    ·rename_i hc
     simp only [Bool.and_eq_true] at hc
     obtain ⟨c2, c3⟩ := hc
     have c3 := Nat.le_of_ble_eq_true c3
     refine OKR.some fun hp => ?_
     obtain ⟨h1, h3, h4⟩ := hp
     have h4 := congrArg (List.map C.d) (show List.replicate _ _ = _ from h4)
     rw [List.map_replicate] at h4
     exact pV ho ht htn (bY he) c2 hu hv h1 (bL h3 c3) h3 h4
    ·exact OKR.none
   ·exact OKR.none
  ·exact OKR.none
 ·exact OKR.none
end
end Go.Proofs.Ytdbjebdomdnbkaa
namespace Go.Proofs.Ytdbjebdomdnbkaa
open Go.ChangeShapes Go.WideShapes Go.ChangeAt Go.RowKit
set_option linter.unusedVariables false
set_option linter.unusedSimpArgs false
abbrev FnT := FuncId → List E1 → List (Nat × Option Bk) → Nat → PV → List (Nat × Option Bk) → Nat → Prop
def u2u (P : Program) (h : H) (l : List (Nat × PV)) (g : EH) (nx : Nat) (b : Builtin) (args : List Operand) (ts : List TypeId) : R := match b, args, ts with
 | .len, [x], [st] => bo (aC l x) fun u => m7 (k5c P st u) (zB P h st u)
 | .min, [x, y], _ => bo (aC l x) fun u => bo (aC l y) fun v => k54 h u v
 | .max, [x, y], _ => bo (aC l x) fun u => bo (aC l y) fun v => k57 h u v
 | .max, [x, y, z], _ => bo (aC l x) fun u => bo (aC l y) fun v => bo (aC l z) fun w => k56 h u v w
 | .append, [x, y], [t, t'] => match Nat.beq t t' with
  | true => bo (aC l x) fun u => bo (aC l y) fun v => u2v P h g nx t u v
  | false => bo (aC l x) fun u => bo (aC l y) fun v => m7 (k62 P h g nx t t' u v) (m7 (k4m P h nx t t' u v) (u2h P h g nx t t' u v))
 | .copy, [x, y], [t, _] => bo (aC l x) fun u => bo (aC l y) fun v => u2r P h g t u v
 | .cap, [x], [st] => bo (aC l x) (k5q P st)
 | .unsafeSliceData, [x], [_] => bo (aC l x) u65
 | .unsafeString, [x, y], [pt, _] => bo (aC l x) fun u => bo (aC l y) fun v => u63 P h g pt u v
 | _, _, _ => none
def k5j (P : Program) (h : H) (f : FuncId) (us : Option (List E1)) : R := none
theorem k1y {cx : Cx} {o : Oper} {l : List (Nat × PV)} {g : EH} {h : H} {f : FuncId} {args : Array Operand} {ts : Array TypeId} (ho : o.op = .call { callee := .value (.func f), args := args, argTypes := ts }) : OKR cx o l g (k5j Try.prog h f (iW l args.toList)) := OKR.none
theorem zC {cx : Cx} {o : Oper} {l : List (Nat × PV)} {g : EH} {h : H} {f : FuncId} {args : Array Operand} {ts : Array TypeId} (ho : o.op = .call { callee := .value (.func f), args := args, argTypes := ts }) : OKR cx o l g (k5l Try.prog h f (iW l args.toList)) := OKR.none
def evC (P : Program) (Fn : FnT) (h : H) (l : List (Nat × PV)) (g : EH) (nx : Nat) (c : Call) : R := match c with
 | ⟨.builtin b, args, ts⟩ => u2u P h l g nx b args.toList ts.toList
 | ⟨.value (.func f), args, _⟩ => m7 (k5l P h f (iW l args.toList)) (m7 (k5j P h f (iW l args.toList)) (eM P Fn h g nx f (iW l args.toList)))
 | ⟨.value x, args, _⟩ => bo (aC l x) fun u => match u2f u with
  | some (f, qs) => match Nat.blt f nE with
   | true => eM P Fn h g nx f (k60 l args.toList qs)
   | false => eM P Fn h g nx (fnU f) (k5z l args.toList qs)
  | none => none
 | _ => none
theorem u1r {cx : Cx} {o : Oper} {l : List (Nat × PV)} {g : List (Nat × Option Bk)} {xt : TypeId} {x : Operand} {n r : Int} (ho : o.op = .unOp .xor xt x) (hx : Ev l x (LV (.int .u32 n))) (hc : qR .xor .u32 4294967295 n = r) : OpOK cx o (S l) (S g) ⟨LV (.int .u32 r), [], [], []⟩ :=
 qK fun ρ a w hs => ⟨.int .u32 r, by
  have e := qC (hx.rep hs (by rw [ho]; simp [Op.operands]))
  subst hc
  unfold execOp; simp only [ho, e]; rfl, uN rfl⟩
def k4o (h : H) : PV → R
 | .e (.c (.d (.lit (.int .u32 n)))) => match h with
  | .i r => mU [qR .xor .u32 4294967295 n = r] (LV (.int .u32 r))
  | _ => none
 | _ => none
theorem k4n {cx : Cx} {o : Oper} {l : List (Nat × PV)} {g : EH} {h : H} {xt : TypeId} {x : Operand} (ho : o.op = .unOp .xor xt x) {u : PV} (hu : Ev l x u) : OKR cx o l g (k4o h u) := by
 unfold k4o
 split
 ·split
  ·refine OKR.some fun hp => ?_
   exact u1r ho hu hp
  ·exact OKR.none
 ·exact OKR.none
def k0p (P : Program) (Fn : FnT) (h : H) (l : List (Nat × PV)) (g : EH) (nx : Nat) : Op → R
 | .move x => bo (aC l x) pv
 | .assign x => bo (aC l x) pv
 | .nilCheck x => bo (aC l x) fun u => match u with
  | .e (.c (.ptr b off)) => pv (.e (.c (.ptr b off)))
  | _ => none
 | .unOp .not _ x => bo (aC l x) (k4x h)
 | .unOp .neg _ x => bo (aC l x) (k51 h)
 | .unOp .xor _ x => bo (aC l x) (k4o h)
 | .pick c x y => bo (aC l c) fun u => xY h u (aC l x) (aC l y)
 | .binOp op xt x y _ => bo (aC l x) fun u => bo (aC l y) fun v => m7 (k4z P op xt u v) (m7 (u0g P op xt u v) (m7 (zH P op h xt u v) (u0h P op h u v)))
 | .convert s d x => bo (aC l x) fun u => m7 (k4r P h g s d u) (m7 (k5s P h nx s d u) (m7 (xZ P g s d u) (m7 (u0b P g s d u) (zD P h s d u))))
 | .extract x i => bo (aC l x) (k5m i)
 | .fieldAddr t x i => bo (aC l x) (u2q P t i)
 | .field t x i => bo (aC l x) (k5i P t i)
 | .load ty x => bo (aC l x) (zA P h g ty)
 | .store ty x y => bo (aC l x) fun u => bo (aC l y) fun v => rU P h g ty u v
 | .alloc T => rZ P nx T
 | .box T x => bo (aC l x) (k5u nx T)
 | .build t ps => m7 (rY P l t ps) (wC P l t ps)
 | .buildSlice t n ps => m7 (k5y P nx t n ps) (u2t P l nx t n ps)
 | .makeSlice t x y => bo (aC l x) fun u => bo (aC l y) fun v => u2m P h nx t u v
 | .indexAddr t x y => bo (aC l x) fun u => bo (aC l y) fun v => m7 (u0e P h t u v) (u2o P h t u v)
 | .index t x y => bo (aC l x) fun u => bo (aC l y) fun v => m7 (u0f P h t u v) (k5f P h t u v)
 | .slice t x lo hi mx => bo (aC l x) fun u => m7 (u0d P t lo hi mx u) <| m7 (k4t P h l g t lo hi mx u) (m7 (u2j P h l t lo hi mx u) (u0c P h l t lo hi mx u))
 | .call c => evC P Fn h l g nx c
 | .makeFunc (.func f) first caps => match first.toList with
  | [] => u2n l f caps.toList
  | _ => match caps.toList with
   | [] => k59 l f first.toList
   | _ => none
 | _ => none
section
variable {cx : Cx} {o : Oper} {l : List (Nat × PV)} {g : EH}
theorem f5 {α : Type} {a : Array α} {l : List α} (h : a.toList = l) : a = l.toArray := by subst h; simp
theorem k8v {h : H} {nx : Nat} {b : Builtin} {args : Array Operand} {ts : Array TypeId} (ho : o.op = .call { callee := .builtin b, args := args, argTypes := ts }) : OKR cx o l g (u2u Try.prog h l g nx b args.toList ts.toList) := by
 unfold u2u
 split
 ·rename_i h1 h2
  rw [f5 h1, f5 h2] at ho
  exact OKR.bo fun u hu => OKR.or (k5b ho hu) (k1x ho hu)
 ·rename_i h1
  rw [f5 h1] at ho
  exact OKR.bo fun u hu => OKR.bo fun v hv => k53 ho hu hv
 ·rename_i h1
  rw [f5 h1] at ho
  exact OKR.bo fun u hu => OKR.bo fun v hv => k55 ho hu hv
 ·rename_i h1
  rw [f5 h1] at ho
  exact OKR.bo fun u hu => OKR.bo fun v hv => OKR.bo fun w hw => k1u ho hu hv hw
 ·rename_i h1 h2
  rw [f5 h1, f5 h2] at ho
  split
  ·rename_i ht
   have ht := Nat.eq_of_beq_eq_true ht
   subst ht
   exact OKR.bo fun u hu => OKR.bo fun v hv => k8w ho hu hv
  ·exact OKR.bo fun u hu => OKR.bo fun v hv => OKR.or (k61 ho hu hv) (OKR.or (k4l ho hu hv) (k8h ho hu hv))
 ·rename_i h1 h2
  rw [f5 h1, f5 h2] at ho
  exact OKR.bo fun u hu => OKR.bo fun v hv => k8s ho hu hv
 ·rename_i h1 h2
  rw [f5 h1, f5 h2] at ho
  exact OKR.bo fun u hu => k5p ho hu
 ·rename_i h1 h2
  rw [f5 h1, f5 h2] at ho
  exact OKR.bo fun u hu => k8m ho hu
 ·rename_i h1 h2
  rw [f5 h1, f5 h2] at ho
  exact OKR.bo fun u hu => OKR.bo fun v hv => k8i ho hu hv
 ·exact OKR.none
theorem wA {h : H} {nx : Nat} {op : Op} (ho : o.op = op) : OKR cx o l g (k0p Try.prog Fun h l g nx op) := by
 unfold k0p
 split
 ·exact OKR.bo fun u hu => OKR.some fun _ => k7n ho hu
 ·exact OKR.bo fun u hu => OKR.some fun _ => k1f ho hu
 ·refine OKR.bo fun u hu => ?_
  split
  ·exact OKR.some fun _ => tJ ho hu
  ·exact OKR.none
 ·exact OKR.bo fun u hu => k4w ho hu
 ·exact OKR.bo fun u hu => k50 ho hu
 ·exact OKR.bo fun u hu => k4n ho hu
 ·exact OKR.bo fun u hu => k1t ho hu
 ·exact OKR.bo fun u hu => OKR.bo fun v hv => OKR.or (k4y ho hu hv) (OKR.or (k5n ho hu hv) (OKR.or (k22 ho hu hv) (k5o ho hu hv)))
 ·exact OKR.bo fun u hu => OKR.or (k4q ho hu) (OKR.or (k5r ho hu) (OKR.or (k1v ho hu) (OKR.or (k4p ho hu) (k1z ho hu))))
 ·exact OKR.bo fun u hu => k5k ho hu
 ·exact OKR.bo fun u hu => k8r ho hu
 ·exact OKR.bo fun u hu => k5h ho hu
 ·exact OKR.bo fun u hu => k1w ho hu
 ·exact OKR.bo fun u hu => OKR.bo fun v hv => xX ho hu hv
 ·exact zI ho
 ·exact OKR.bo fun u hu => k5t ho hu
 ·exact OKR.or (zG ho) (wB ho)
 ·exact OKR.or (k5x ho) (k8u ho)
 ·exact OKR.bo fun u hu => OKR.bo fun v hv => k8o ho hu hv
 ·exact OKR.bo fun u hu => OKR.bo fun v hv => OKR.or (k5d ho hu hv) (k8q ho hu hv)
 ·exact OKR.bo fun u hu => OKR.bo fun v hv => OKR.or (k5g ho hu hv) (k5e ho hu hv)
 ·exact OKR.bo fun u hu => OKR.or (k4v ho hu) <| OKR.or (k4s ho hu) (OKR.or (k8j ho hu) (k4u ho hu))
 ·unfold evC
  split
  ·exact k8v ho
  ·exact OKR.or (zC ho) (OKR.or (k1y ho) (k20 ho))
  ·refine OKR.bo fun u hu => ?_
   split
   ·rename_i hf
    have := k8e hf
    subst this
    split
    ·rename_i hlo; exact zE ho hu hlo
    ·rename_i hlo; exact zF ho hu hlo
   ·exact OKR.none
  ·exact OKR.none
 ·split
  ·rename_i h0; exact k8p ho h0
  ·split
   ·rename_i h1; exact k58 ho h1
   ·exact OKR.none
 ·exact OKR.none
theorem wN {ds : List D} {T : TypeId} {n s nx : Nat} {wr : List (Nat × Option Bk)} {news foot : List Nat} {h0 : Hp} {τ : Nat → PV} (hnx : wr.lookup nx = none) (hl : ds.length = n * s) (h : OpOK cx o τ h0 ⟨.e (.c (.own nx 0 n s true)), wr ++ [(nx, some (T, ds.map .d))], news, foot⟩) :
  OpOK cx o τ h0 ⟨.e (.c (.d (.sl ds n))), wr ++ [(nx, none)], news, foot⟩ := by
 intro Q ρ a w hL hs hf hn hh hk hd K hK
 refine h Q ρ a w hL hs hf hn hh hk hd K ?_
 intro v w' ρ' g1 g2 g3 g4 g5
 have hx : ((wr ++ [(nx, some (T, ds.map C.d))]).lookup nx).getD (hL nx) = some (T, ds.map C.d) := by rw [vG, hnx]; simp
 have hx' : ((wr ++ [(nx, none)]).lookup nx).getD (hL nx) = none := by rw [vG, hnx]; simp
 have hne : ∀ x, x ≠ nx → ((wr ++ [(nx, none)]).lookup x).getD (hL x) = ((wr ++ [(nx, some (T, ds.map C.d))]).lookup x).getD (hL x) := by
  intro x hxn
  rw [vG, vG]
  simp only [List.lookup_cons, show (x == nx) = false by simpa using hxn, List.lookup_nil]
 have hsub : ∀ x, ((wr ++ [(nx, none)]).lookup x).getD (hL x) ≠ none → x ≠ nx ∧ ((wr ++ [(nx, some (T, ds.map C.d))]).lookup x).getD (hL x) ≠ none := by
  intro x hq
  have : x ≠ nx := fun e => hq (by rw [e]; exact hx')
  exact ⟨this, by rw [← hne x this]; exact hq⟩
 have hsub2 : ∀ x T' cs, ((wr ++ [(nx, none)]).lookup x).getD (hL x) = some (T', cs) → x ≠ nx ∧ ((wr ++ [(nx, some (T, ds.map C.d))]).lookup x).getD (hL x) = some (T', cs) := by
  intro x T' cs hq
  have hq2 := hsub x (by rw [hq]; simp)
  exact ⟨hq2.1, by rw [← hne x hq2.1]; exact hq⟩
 obtain ⟨m, k1, k2⟩ := g3.row nx T _ hx
 rcases k2 with ⟨k2, k3⟩ | ⟨k2, ⟨vs, rest, r1, r2, r3⟩, k4⟩
 ·have hds : ds = [] := List.map_eq_nil_iff.1 k3
  subst hds
  refine hK v w' ρ' g1 g2 ⟨fun b T' cs hb => g3.row b T' cs (hsub2 b T' cs hb).2, fun b b' m m' hb hb' => g3.inj b b' m m' (hsub b hb).2 (hsub b' hb').2, fun b m hb => g3.zf b m (hsub b hb).2, g3.zm, g3.zl⟩ g4 ?_
  have g5' : RepC cx.p ρ' w' (.own nx 0 n s true) v := g5
  cases g5' with
  | own _ _ _ _ _ m2 cap hm hn' => rw [k1] at hm; cases hm; rw [k2] at hn'; cases hn'
  | ownn => exact .d (.nil none 0 (Nat.zero_le _) (fun _ => rfl))
 ·have hgo : Goes cx.p ρ' ⟨ρ'.f, fun k => ρ'.z k ∨ k = m.g⟩ w' w' := ⟨fun _ _ h => h, fun _ h => .inl h, Nat.le_refl _, fun _ _ _ => rfl⟩
  have hg1 : Goes cx.p ρ ⟨ρ'.f, fun k => ρ'.z k ∨ k = m.g⟩ w w' := ⟨g1.ext, fun k hz => .inl (g1.zext k hz), g1.size, g1.old⟩
  refine hK v w' ⟨ρ'.f, fun k => ρ'.z k ∨ k = m.g⟩ hg1 g2 ⟨?_, fun b b' m m' hb hb' => g3.inj b b' m m' (hsub b hb).2 (hsub b' hb').2, ?_, ?_, ?_⟩ g4 ?_
  ·intro b T' cs hb
   obtain ⟨m', p1, p2⟩ := g3.row b T' cs (hsub2 b T' cs hb).2
   exact ⟨m', p1, p2.imp id fun p => ⟨p.1, p.2.1.mono hgo rfl, p.2.2⟩⟩
  ·intro b m1 hb hm1 hn1 hz
   rcases hz with hz | hz
   ·exact g3.zf b m1 (hsub b hb).2 hm1 hn1 hz
   ·exact (hsub b hb).1 (g3.inj b nx m1 m (hsub b hb).2 (by rw [hx]; simp) hm1 k1 hn1 k2 hz)
  ·intro k hz
   rcases hz with hz | hz
   ·exact g3.zm k hz
   ·exact hz ▸ k4
  ·intro k hz
   rcases hz with hz | hz
   ·exact g3.zl k hz
   ·exact hz ▸ r1.lt
  ·have g5' : RepC cx.p ρ' w' (.own nx 0 n s true) v := g5
   cases g5' with
   | own _ _ _ _ _ m2 cap hm hn' h1 h2 h3 =>
    rw [k1] at hm; cases hm
    have hvl : vs.length = ds.length := by have := r3.len; simpa using this.symm
    refine .d (.sl ds vs m.g 0 n cap hvl ?_ ?_ (.inr (.inr rfl)) r1.lt h1 h2)
    ·intro i u hu
     rw [Nat.zero_add]
     exact BlkM.cell (vs := vs ++ rest) r1 i (by rw [List.getElem?_append_left (List.getElem?_eq_some_iff.1 hu).1]; exact hu)
    ·intro i d u hd' hu
     have := (r3.imp fun _ _ => RepC.mono hgo).get i (.d d) u (by rw [List.getElem?_map, hd']; rfl) hu
     cases this with
     | d h => exact h
   | ownn _ _ m2 hm hn' => rw [k1] at hm; cases hm; rw [k2] at hn'; cases hn'
def fzR : R → R
 | some (ps, ⟨.e (.c (.own b 0 n s true)), wr, news, foot⟩) => match wr with
  | [(b', some (T, .ds ds))] => match Nat.beq b' b with
   | true => some (ps ++ [ds.length = n * s], ⟨.e (.c (.d (.sl ds n))), [(b, none)], news, foot⟩)
   | false => none
  | [(b0, none), (b', some (T, .ds ds))] => match Nat.beq b' b, Nat.beq b b0 with
   | true, false => some (ps ++ [ds.length = n * s], ⟨.e (.c (.d (.sl ds n))), [(b0, none), (b, none)], news, foot⟩)
   | _, _ => none
  | _ => none
 | _ => none
theorem u2d {r : R} (h : OKR cx o l g r) : OKR cx o l g (fzR r) := by
 unfold fzR
 split
 ·rename_i ps b n s wr news foot
  split
  ·split
   ·rename_i hb
    refine OKR.some fun hp => ?_
    have hp := (qI _).1 hp
    have hl : _ = _ := hp _ (List.mem_append_right _ (List.mem_cons_self ..))
    obtain rfl := Nat.eq_of_beq_eq_true hb
    exact wN (wr := []) rfl hl (h _ _ rfl ((qI _).2 fun p hpp => hp p (List.mem_append_left _ hpp)))
   ·exact OKR.none
  ·split
   ·rename_i hb hb0
    refine OKR.some fun hp => ?_
    have hp := (qI _).1 hp
    have hl : _ = _ := hp _ (List.mem_append_right _ (List.mem_cons_self ..))
    obtain rfl := Nat.eq_of_beq_eq_true hb
    refine wN (wr := [(_, none)]) ?_ hl (h _ _ rfl ((qI _).2 fun p hpp => hp p (List.mem_append_left _ hpp)))
    have hne := Nat.ne_of_beq_eq_false hb0
    have e9 := beq_eq_false_iff_ne.2 hne
    rw [List.lookup_cons, e9]; rfl
   ·exact OKR.none
  ·exact OKR.none
 ·exact OKR.none
def u2l (P : Program) (Fn : FnT) (h : H) (l : List (Nat × PV)) (g : EH) (nx : Nat) (op : Op) : R := match h with
 | .fz h' => fzR (k0p P Fn h' l g nx op)
 | h => k0p P Fn h l g nx op
theorem k8n {h : H} {nx : Nat} {op : Op} (ho : o.op = op) : OKR cx o l g (u2l Try.prog Fun h l g nx op) := by
 unfold u2l
 split
 ·exact u2d (wA ho)
 ·exact wA ho
end
def stepG (ops : List Oper) (l : List (Nat × PV)) (o : Oper) : Option Bool := match o.guard with
 | none => some true
 | some (gi, b) => match ops[gi]? with
  | some og => match og.dst with
   | some dg => match l.lookup dg with
    | some (.e (.c (.d (.lit (.bool b'))))) => some (b' == b)
    | some (.tup []) => some false
    | _ => none
   | none => none
  | none => none
theorem l8 {X : Type} [Inhabited X] {l : List (Nat × X)} {t : Nat} {u : X} (h : l.lookup t = some u) : S l t = u := (yQ h).S
theorem k16 {cx : Cx} {ops : List Oper} {l : List (Nat × PV)} {g : List (Nat × Option Bk)} {o : Oper} {t : OT} (h : stepG ops l o = some true) (hok : OpOK cx o (S l) (S g) t) : StepO cx ops o l g t := by
 unfold stepG at h
 unfold StepO
 split at h
 ·rename_i hg; rw [hg]; exact hok
 ·rename_i gi b hg
  rw [hg]
  split at h
  ·rename_i og hog
   split at h
   ·rename_i dg hdg
    split at h
    ·rename_i b' hl
     refine ⟨dg, og, hog, hdg, .inl ⟨b', l8 hl, ?_⟩⟩
     have : b' = b := by simpa using h
     rw [if_pos this]; exact hok
    ·cases h
    ·cases h
   ·cases h
  ·cases h
theorem k2v {cx : Cx} {ops : List Oper} {l : List (Nat × PV)} {g : List (Nat × Option Bk)} {o : Oper} (h : stepG ops l o = some false) : StepO cx ops o l g ⟨.tup [], [], [], []⟩ := by
 unfold stepG at h
 unfold StepO
 split at h
 ·cases h
 ·rename_i gi b hg
  rw [hg]
  split at h
  ·rename_i og hog
   split at h
   ·rename_i dg hdg
    split at h
    ·rename_i b' hl
     refine ⟨dg, og, hog, hdg, .inl ⟨b', l8 hl, ?_⟩⟩
     have : ¬ b' = b := by simpa using h
     rw [if_neg this]; exact ⟨rfl, rfl, rfl⟩
    ·rename_i hl
     exact ⟨dg, og, hog, hdg, .inr ⟨l8 hl, rfl, rfl, rfl⟩⟩
    ·cases h
   ·cases h
  ·cases h
def lR (P : Program) (Fn : FnT) (ops : List Oper) : List Oper → List H → List (Nat × PV) → EH → Nat → Option (List Prop × List OTe × List (Nat × PV) × EH × Nat)
 | [], _, l, g, nx => some ([], [], l, g, nx)
 | o :: os, hs, l, g, nx => match stepG ops l o with
  | some true => match hs with
   | h :: hs => match u2l P Fn h l g nx o.op with
    | some (ps, t) => match lR P Fn ops os hs (fG o t.u ++ l) (t.wr ++ g) (nx + t.news.length) with
     | some (ps', ts, r) => some (ps ++ ps', t :: ts, r)
     | none => none
    | none => none
   | [] => none
  | some false => match lR P Fn ops os hs (fG o (.tup []) ++ l) g nx with
   | some (ps', ts, r) => some (ps', ⟨.tup [], [], [], []⟩ :: ts, r)
   | none => none
  | none => none
theorem iM {cx : Cx} {ops : List Oper} : ∀ {os : List Oper} {hs : List H} {l lf : List (Nat × PV)} {g gf : EH} {nx nf : Nat} {ps : List Prop} {ts : List OTe}, lR Try.prog Fun ops os hs l g nx = some (ps, ts, lf, gf, nf) → (∀ p ∈ ps, p) → Steps cx ops os (ts.map OTe.to) l (kF g) lf (kF gf)
 | [], _, _, _, _, _, _, _, _, _, h, _ => by cases h; exact .nil _ _
 | o :: os, hs, l, lf, g, gf, nx, nf, ps, ts, h, hp => by
  unfold lR at h
  split at h
  ·rename_i hg
   split at h
   ·split at h
    ·rename_i he
     split at h
     ·rename_i hr
      cases h
      rw [List.map_cons]
      refine .cons (k16 hg (k8n rfl _ _ he ((qI _).2 fun p h => hp p (List.mem_append_left _ h)))) ?_
      have := iM (cx := cx) hr (fun p h => hp p (List.mem_append_right _ h))
      rw [z0] at this
      exact this
     ·cases h
    ·cases h
   ·cases h
  ·rename_i hg
   split at h
   ·rename_i hr
    cases h
    rw [List.map_cons]
    exact .cons (k2v hg) (iM (cx := cx) hr hp)
   ·cases h
  ·cases h
def k2z (lf : List (Nat × PV)) : List Nat → List (Nat × PV)
 | [] => []
 | t :: ts => match lf.lookup t with
  | some u => (t, u) :: k2z lf ts
  | none => k2z lf ts
theorem pN {lf : List (Nat × PV)} {t : Nat} {u : PV} : ∀ {ts : List Nat}, (k2z lf ts).lookup t = some u → lf.lookup t = some u
 | [], h => by cases h
 | a :: ts, h => by
  unfold k2z at h
  split at h
  ·rename_i v hv
   rw [List.lookup_cons] at h
   split at h
   ·rename_i hb; simp at hb; subst hb; cases h; exact hv
   ·exact pN h
  ·exact pN h
def k30 (gf : EH) : List Nat → EH
 | [] => []
 | t :: ts => match gf.lookup t with
  | some (some u) => (t, some u) :: k30 gf ts
  | _ => k30 gf ts
theorem pO {gf : EH} {t : Nat} {u : EBk} : ∀ {ts : List Nat}, (k30 gf ts).lookup t = some (some u) → gf.lookup t = some (some u)
 | [], h => by cases h
 | a :: ts, h => by
  unfold k30 at h
  split at h
  ·rename_i v hv
   rw [List.lookup_cons] at h
   split at h
   ·rename_i hb; simp at hb; subst hb; cases h; exact hv
   ·exact pO h
  ·exact pO h
theorem Mod.weak {cx : Cx} {n nx : Nat} {l l' : List (Nat × PV)} {g g' : EH} (hl : ∀ t u, l'.lookup t = some u → l.lookup t = some u) (hg : ∀ t u, g'.lookup t = some (some u) → g.lookup t = some (some u)) {a : Act} {w : World} (h : Mod cx n l (kF g) nx a w) : Mod cx n l' (kF g') nx a w := by
 obtain ⟨ρ, h1, h2, h3, h4, h5, h6, h9⟩ := h
 have hgg : ∀ b x, S (kF g') b = some x → S (kF g) b = some x := by
  intro b x hx
  unfold Proofs.Ytdbjebdomdnbkaa.S at hx ⊢
  rw [fU] at hx ⊢
  cases hb : g'.lookup b with
  | none => rw [hb] at hx; cases hx
  | some o =>
   cases o with
   | none => rw [hb] at hx; cases hx
   | some v => rw [hg b v hb]; rw [hb] at hx; exact hx
 refine ⟨ρ, h1, ⟨fun b T cs hb => h2.row b T cs (hgg b _ hb), fun b b' m m' hb hb' => h2.inj b b' m m' ?_ ?_, fun b m hb => h2.zf b m ?_, h2.zm, h2.zl⟩, ?_, h4, h5, h6, h9⟩
 ·obtain ⟨x, hx⟩ := Option.ne_none_iff_exists'.1 hb; rw [hgg b x hx]; simp
 ·obtain ⟨x, hx⟩ := Option.ne_none_iff_exists'.1 hb'; rw [hgg b' x hx]; simp
 ·obtain ⟨x, hx⟩ := Option.ne_none_iff_exists'.1 hb; rw [hgg b x hx]; simp
 ·intro t
  unfold Proofs.Ytdbjebdomdnbkaa.S
  cases hb : l'.lookup t with
  | none => exact trivial
  | some u => have := h3 t; rw [l8 (hl t u hb)] at this; exact this
def lQ (P : Program) (Fn : FnT) (n : Nat) (ops : List Oper) (hs : List H) (l : List (Nat × PV)) (g : EH) (nx : Nat) (live kb : List Nat) : Option (Prop × List (Nat × PV) × EH × Nat) := match sA ops n with
 | true => match lR P Fn ops ops hs l g nx with
  | some (ps, ts, lf, gf, nf) => match iN ops (ts.map OTe.to) nx nf with
   | true => some (AllP ps, k2z lf live, k30 gf kb, nf)
   | false => none
  | none => none
 | false => none
theorem AW.rg {cx : Cx} {n id nx nx' : Nat} {draw : Bool} {ops : List Oper} {Q : yP} {l l' : List (Nat × PV)} {g g' : EH} (hs : List H) (live kb : List Nat) {P : Prop} (h : lQ Try.prog Fun n ops hs l g nx live kb = some (P, l', g', nx')) (hP : P) (hQ : Q .normal ⟨l', kF g', nx'⟩) : AW cx n (.region id ops.toArray draw) Q ⟨l, kF g, nx⟩ := by
 unfold lQ at h
 split at h
 ·rename_i hd
  split at h
  ·rename_i hr
   split at h
   ·rename_i hc
    cases h
    intro a w hm
    exact nS (by kernel_rfl) hd (iM (cx := cx) hr ((qI _).1 hP)) hc (fun a' w' h => ⟨_, hQ, h.weak (fun t u => pN) (fun t u => pO)⟩) hm
   ·cases h
  ·cases h
 ·cases h
theorem sP {cx : Cx} {n id nx nx' : Nat} {draw : Bool} {ops : List Oper} {Q : yP} {c : Code} {l l' : List (Nat × PV)} {g g' : EH} (hs : List H) (live kb : List Nat) {P : Prop} (h : lQ Try.prog Fun n ops hs l g nx live kb = some (P, l', g', nx')) (hP : P) (hQ : AW cx n c Q ⟨l', kF g', nx'⟩) : AW cx n (.seq (.region id ops.toArray draw) c) Q ⟨l, kF g, nx⟩ :=
 AW.seq (AW.rg hs live kb h hP hQ)
/-! what is the same -/
def eqB (σ : Nat → Nat) : BC → BC → Option (List Prop)
 | .ds x, .ds y => some [x = y]
 | .cs x, .cs y => eqL σ x y
 | _, _ => none
theorem u2y {σ : Nat → Nat} {v v' : BC} {ps : List Prop} (h : eqB σ v v' = some ps) (hp : ∀ p ∈ ps, p) : v.to.map (aK σ) = v'.to := by
 unfold eqB at h
 split at h
 ·cases h
  have e := hp (_ = _) (List.mem_cons_self ..)
  subst e
  show List.map _ (List.map C.d _) = List.map C.d _
  rw [List.map_map]; rfl
 ·exact zJ h hp
 ·cases h
def sg (m : List (Nat × Nat)) (b : Nat) : Nat := match m.lookup b with
 | some c => c
 | none => b
def z7 (σ : Nat → Nat) (nx2 : Nat) (l : List (Nat × PV)) : List (Nat × PV) → Option (List Prop)
 | [] => some []
 | (t, u) :: l2 => match l.lookup t, oB nx2 u with
  | some v, true => sD (k8x σ u v) (z7 σ nx2 l l2)
  | _, _ => none
theorem s7 {σ : Nat → Nat} {nx2 : Nat} {l : List (Nat × PV)} : ∀ {l2 : List (Nat × PV)} {ps : List Prop}, z7 σ nx2 l l2 = some ps → (∀ p ∈ ps, p) → RenS σ nx2 l l2
 | [], _, _, _ => trivial
 | (t, u) :: l2, _, h, hp => by
  unfold z7 at h
  split at h
  ·rename_i h1 h2
   obtain ⟨p, q, e1, e2, e3, e4⟩ := fC h hp
   exact ⟨⟨h2, _, yQ h1, k0q e1 e3⟩, s7 e2 e4⟩
  ·cases h
def u5u (n : Nat) : BC → Bool
 | .ds _ => true
 | .cs l => l.all (eI n)
theorem k7y {n : Nat} {b : BC} (h : u5u n b = true) : b.to.all (eI n) = true := by
 cases b with
 | ds l => show (List.map C.d l).all _ = true; rw [List.all_map]; exact List.all_eq_true.2 fun _ _ => rfl
 | cs l => exact h
def lN (σ : Nat → Nat) (nx2 : Nat) (g : EH) : EH → Option (List Prop)
 | [] => some []
 | (b, some (T, bc)) :: g2 => match Nat.blt b nx2 && (u5u nx2 bc && g2.all fun y => !(σ y.1 == σ b)), g.lookup (σ b) with
  | true, some (some (T', bc')) => match Nat.beq T T' with
   | true => sD (eqB σ bc bc') (lN σ nx2 g g2)
   | false => none
  | _, _ => none
 | (b, none) :: g2 => match g2.all fun y => !(σ y.1 == σ b) with
  | true => lN σ nx2 g g2
  | false => none
theorem RenG.gone {n0 : Nat} {σ : Nat → Nat} {g g2 : List (Nat × Option Bk)} {nx2 b : Nat} (h : RenG n0 σ g g2 nx2) (hi : (g2.all fun y => !(σ y.1 == σ b)) = true) : RenG n0 σ g ((b, none) :: g2) nx2 := by
 rw [List.all_eq_true] at hi
 refine ⟨?_, ?_, h.fix, h.low⟩
 ·intro x hx T' cs' he
  rcases List.mem_cons.1 hx with rfl | hx
  ·cases he
  ·exact h.blk x hx T' cs' he
 ·intro x hx y hy he
  rcases List.mem_cons.1 hx with rfl | hx
  ·rcases List.mem_cons.1 hy with rfl | hy
   ·rfl
   ·have := hi y hy; simp [he] at this
  ·rcases List.mem_cons.1 hy with rfl | hy
   ·have := hi x hx; simp [he] at this
   ·exact h.inj x hx y hy he
theorem pF (p : Nat → Bool) : ∀ g : EH, ((kF g).all fun y => p y.1) = g.all fun y => p y.1
 | [] => rfl
 | x :: g => by show ((x.1, s6 x.2) :: kF g).all _ = _; rw [List.all_cons, List.all_cons, pF p g]
theorem gE {n0 : Nat} {σ : Nat → Nat} {nx2 : Nat} {g : EH} (hf : ∀ b, b < n0 → σ b = b) (hl : n0 ≤ nx2) : ∀ {g2 : EH} {ps : List Prop}, lN σ nx2 g g2 = some ps → (∀ p ∈ ps, p) → RenG n0 σ (kF g) (kF g2) nx2
 | [], _, _, _ => .base hf hl
 | (b, some (T, bc)) :: g2, _, h, hp => by
  unfold lN at h
  split at h
  ·rename_i h1 h2
   simp only [Bool.and_eq_true] at h1
   obtain ⟨c1, c2, c3⟩ := h1
   split at h
   ·rename_i hT
    have hT := Nat.eq_of_beq_eq_true hT
    subst hT
    obtain ⟨p, q, e1, e2, e3, e4⟩ := fC h hp
    exact .cons (gE hf hl e2 e4) c1 rfl (qV h2) (u2y e1 e3) (k7y c2) (by rw [pF (fun y => !(σ y == σ b))]; exact c3)
   ·cases h
  ·cases h
 | (b, none) :: g2, _, h, hp => by
  unfold lN at h
  split at h
  ·rename_i h1
   exact (gE hf hl h hp).gone (by rw [pF (fun y => !(σ y == σ b))]; exact h1)
  ·cases h
structure ES where
 l : List (Nat × PV)
 g : EH
 nx : Nat
def ES.st (s : ES) : St := ⟨s.l, kF s.g, s.nx⟩
def k8g (n0 : Nat) (m : List (Nat × Nat)) : Bool := m.all fun x => Nat.ble n0 x.1
theorem rO {n0 : Nat} : ∀ {m : List (Nat × Nat)}, k8g n0 m = true → ∀ b, b < n0 → sg m b = b
 | [], _, _, _ => rfl
 | (k, c) :: m, h, b, hb => by
  unfold k8g at h
  rw [List.all_cons, Bool.and_eq_true] at h
  have h1 : n0 ≤ k := Nat.le_of_ble_eq_true h.1
  unfold sg
  rw [List.lookup_cons, show (b == k) = false by simp; omega]
  exact rO (m := m) h.2 b hb
def z8 (n0 : Nat) (m : List (Nat × Nat)) (l : List (Nat × PV)) (g : EH) (s : ES) : Option Prop := match k8g n0 m && Nat.ble n0 s.nx with
 | true => match sD (z7 (sg m) s.nx l s.l) (lN (sg m) s.nx g s.g) with
  | some ps => some (AllP ps)
  | none => none
 | false => none
theorem s8 {n0 : Nat} {m : List (Nat × Nat)} {l : List (Nat × PV)} {g : EH} {nx : Nat} {s : ES} {P : Prop} (h : z8 n0 m l g s = some P) (hP : P) : k6s n0 ⟨l, kF g, nx⟩ s.st := by
 unfold z8 at h
 split at h
 ·rename_i hc
  rw [Bool.and_eq_true] at hc
  split at h
  ·rename_i hb
   cases h
   obtain ⟨p, q, e1, e2, e3, e4⟩ := fC hb ((qI _).1 hP)
   exact ⟨sg m, s7 e1 e3, gE (rO hc.1) (Nat.le_of_ble_eq_true hc.2) e2 e4⟩
  ·cases h
 ·cases h
def Rd {α : Type} (n0 : Nat) (I : α → ES) (dec : α → Prop) (s : St) : Prop := ∃ y, k6s n0 s (I y).st ∧ dec y
theorem kX {α : Type} {cx : Cx} {n nx : Nat} {c : Code} {Q : yP} {l : List (Nat × PV)} {g : EH} (n0 : Nat) (hn : cx.n0 = n0) (I : α → ES) (μ : α → Nat) (x0 : α) (m : List (Nat × Nat)) {P : Prop} (h0 : z8 n0 m l g (I x0) = some P) (hP : P) (round : ∀ x, AW cx n c (i6 (Rd n0 I (fun y => μ y < μ x)) Q) (I x).st) : AW cx n (.loop c) Q ⟨l, kF g, nx⟩ :=
 AW.loop n0 hn (fun x => (I x).st) μ x0 (s8 h0 hP) (fun x => (round x).mono fun e s' h => by
  cases e with
  | normal => exact h
  | _ => exact h)
theorem qE {α : Type} {n0 nx : Nat} {I : α → ES} {dec : α → Prop} {l : List (Nat × PV)} {g : EH} (y : α) (m : List (Nat × Nat)) {P : Prop} (h : z8 n0 m l g (I y) = some P) (hP : P) (hd : dec y) : Rd n0 I dec ⟨l, kF g, nx⟩ := ⟨y, s8 h hP, hd⟩
/-! results -/
def u1h (P : Program) (l : List (Nat × PV)) (g : EH) : ResultVar → Option E1
 | .tmp t => match l.lookup t with
  | some (.e e) => some e
  | _ => none
 | .cell a ty => match l.lookup a, yL P ty with
  | some (.e (.c (.ptr b off))), some (false, 1) => match g.lookup b with
   | some (some (_, bc)) => match bc.to[off]? with
    | some c => some (.c c)
    | none => none
   | _ => none
  | some (.e (.c (.ptr b off))), some (true, n) => match g.lookup b with
   | some (some (_, bc)) => match Nat.beq ((bc.to.drop off).take n).length n with
    | true => some (.agg ((bc.to.drop off).take n))
    | false => none
   | _ => none
  | _, _ => none
theorem k7g {l : List (Nat × PV)} {g : EH} {r : ResultVar} {e : E1} (h : u1h Try.prog l g r = some e) : ResE l (kF g) r e := by
 unfold u1h at h
 split at h
 ·split at h
  ·rename_i hl; cases h; exact .tmp (yQ hl)
  ·cases h
 ·split at h
  ·rename_i hl ht
   split at h
   ·rename_i hb
    split at h
    ·rename_i hc; cases h; exact .cell (yQ hl) ht (qV hb) hc
    ·cases h
   ·cases h
  ·rename_i hl ht
   split at h
   ·rename_i hb
    split at h
    ·rename_i hc; cases h; exact .agg (yQ hl) ht (qV hb) rfl (Nat.eq_of_beq_eq_true hc)
    ·cases h
   ·cases h
  ·cases h
def k7f (P : Program) (l : List (Nat × PV)) (g : EH) : List ResultVar → Option (List E1)
 | [] => some []
 | r :: rs => match u1h P l g r, k7f P l g rs with
  | some e, some es => some (e :: es)
  | _, _ => none
theorem z9 {l : List (Nat × PV)} {g : EH} : ∀ {rs : List ResultVar} {es : List E1}, k7f Try.prog l g rs = some es → ResL l (kF g) rs es
 | [], _, h => by cases h; exact .nil
 | r :: rs, _, h => by
  unfold k7f at h
  split at h
  ·rename_i h1 h2; cases h; exact .cons (k7g h1) (z9 h2)
  ·cases h
def u4u (P : Program) (n0 : Nat) (m : List (Nat × Nat)) (rs : List ResultVar) (l : List (Nat × PV)) (g : EH) (y : PV) (g1 : EH) (nx1 : Nat) : Option Prop := match k7f P l g rs, k8g n0 m && (Nat.ble n0 nx1 && oB nx1 y) with
 | some es, true => match sD (k8x (sg m) y (u1q es)) (lN (sg m) nx1 g g1) with
  | some ps => some (AllP ps)
  | none => none
 | _, _ => none
theorem kC {n0 nx nx1 : Nat} {e : Exit} (he : e = .normal ∨ e = .ret) {rs : List ResultVar} {l : List (Nat × PV)} {g g1 : EH} {y : PV} (m : List (Nat × Nat)) {P : Prop} (h : u4u Try.prog n0 m rs l g y g1 nx1 = some P) (hP : P) : EndP n0 rs y (kF g1) nx1 e ⟨l, kF g, nx⟩ := by
 unfold u4u at h
 split at h
 ·rename_i h1 hc
  simp only [Bool.and_eq_true] at hc
  obtain ⟨c1, c2, c3⟩ := hc
  split at h
  ·rename_i hb
   cases h
   obtain ⟨p, q, e1, e2, e3, e4⟩ := fC hb ((qI _).1 hP)
   exact ⟨he, _, sg m, z9 h1, k0q e1 e3, c3, gE (rO c1) (Nat.le_of_ble_eq_true c2) e2 e4⟩
  ·cases h
 ·cases h
end Go.Proofs.Ytdbjebdomdnbkaa
