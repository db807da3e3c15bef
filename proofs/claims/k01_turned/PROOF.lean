import PyProof.Rows.All
import Wide.All
import OpenK.AllK
import Wide.FinOn
import HandS.ForMost
import HandS.ForExc
import HandS.IsInst
import HandS.Evl
import PySem.Challenge.RW_turnwriter_k01_turned
set_option Elab.async false
set_option linter.all false
set_option maxRecDepth 100000
set_option maxHeartbeats 1000000
/-! General lemmas of my own: heaps, data, machines. -/
namespace Tw
open PySem L2

/-! ### heaps -/
section
variable {K : PySem.W.Frag} {H H' H1 H2 : Hp} {a p : Addr} {o u : HO} {xs : List V}
theorem same_up (h : H p = none) : Same H (upd H p o) := fun b x e => by
  rw [upd_ne (ne_of_none e h)]
  exact e
theorem same_mut (e : Same H H') (h : H p = none) : Same H (upd H' p o) := fun b x q => by
  rw [upd_ne (ne_of_none q h)]
  exact e _ _ q
theorem same_sqT (e : Same H H') (h : SqT K H a xs) : SqT K H' a xs := by
  rcases h with (h | ⟨o, h⟩) | h
  · exact .inl (.inl (e _ _ h))
  · exact .inl (.inr ⟨o, e _ _ h⟩)
  · exact .inr h
theorem same_sqL (e : Same H H') (h : SqL K H a xs) : SqL K H' a xs := e.seq h
/-- what may not change stands -/
def Keep (H H' : Hp) : Prop := (∀ b xs, H b = some (.tup xs) → H' b = some (.tup xs)) ∧ ∀ b o u, H b = some (.frz o u) → H' b = some (.frz o u)
theorem Keep.refl (H : Hp) : Keep H H := ⟨fun _ _ h => h, fun _ _ _ h => h⟩
theorem Keep.trans (a : Keep H H1) (b : Keep H1 H2) : Keep H H2 := ⟨fun c xs h => b.1 _ _ (a.1 c xs h), fun c o u h => b.2 _ _ _ (a.2 c o u h)⟩
theorem keep_of (e : Same H H') : Keep H H' := ⟨fun b xs h => e _ _ h, fun b o u h => e _ _ h⟩
theorem keep_lst {ys : List V} (h : H p = some (.lst ys)) : Keep H (upd H p o) :=
  ⟨fun b xs e => by rw [upd_ne (ne_of e h (by intro z; cases z))]; exact e, fun b o u e => by rw [upd_ne (ne_of e h (by intro z; cases z))]; exact e⟩
theorem keep_sqT (e : Keep H H') (h : SqT K H a xs) : SqT K H' a xs := by
  rcases h with (h | ⟨o, h⟩) | h
  · exact .inl (.inl (e.1 _ _ h))
  · exact .inl (.inr ⟨o, e.2 _ _ _ h⟩)
  · exact .inr h
end

/-! ### data -/
section
variable {K : PySem.W.Frag} {H H' : Hp}
mutual
theorem dp_same (e : Same H H') : ∀ {v : V} {d : PyData}, Dp K H v d → Dp K H' v d
  | _, _, .non => .non
  | _, _, .bl b => .bl b
  | _, _, .int i => .int i
  | _, _, .str x => .str x
  | _, _, .lst s r => .lst (same_sqL e s) (dpAll_same e r)
  | _, _, .tup s r => .tup (same_sqT e s) (dpAll_same e r)
theorem dpAll_same (e : Same H H') : ∀ {vs : List V} {ds : List PyData}, DpAll K H vs ds → DpAll K H' vs ds
  | _, _, .nil => .nil
  | _, _, .cons x r => .cons (dp_same e x) (dpAll_same e r)
end
mutual
/-- data without lists -/
def hard : PyData → Bool
  | .none => true
  | .bool _ => true
  | .int _ => true
  | .str _ => true
  | .list _ => false
  | .tuple ds => hards ds
  | .dict _ => false
def hards : List PyData → Bool
  | [] => true
  | d :: ds => hard d && hards ds
end
mutual
theorem dp_keep (e : Keep H H') : ∀ {v : V} {d : PyData}, hard d = true → Dp K H v d → Dp K H' v d
  | _, _, _, .non => .non
  | _, _, _, .bl b => .bl b
  | _, _, _, .int i => .int i
  | _, _, _, .str x => .str x
  | _, _, h, .lst s r => by cases h
  | _, _, h, .tup s r => .tup (keep_sqT e s) (dpAll_keep e h r)
theorem dpAll_keep (e : Keep H H') : ∀ {vs : List V} {ds : List PyData}, hards ds = true → DpAll K H vs ds → DpAll K H' vs ds
  | _, _, _, .nil => .nil
  | _, _, h, .cons x r => by
    have h2 : hard _ = true ∧ hards _ = true := Bool.and_eq_true_iff.mp h
    exact .cons (dp_keep e h2.1 x) (dpAll_keep e h2.2 r)
end
theorem dpAll_app : ∀ {vs ws : List V} {ds es : List PyData}, DpAll K H vs ds → DpAll K H ws es → DpAll K H (vs ++ ws) (ds ++ es)
  | _, _, _, _, .nil, r => r
  | _, _, _, _, .cons x q, r => .cons x (dpAll_app q r)
theorem dpAll_one {v : V} {d : PyData} (h : Dp K H v d) : DpAll K H [v] [d] := .cons h .nil
theorem dpAll_len : ∀ {vs : List V} {ds : List PyData}, DpAll K H vs ds → vs.length = ds.length
  | _, _, .nil => rfl
  | _, _, .cons _ r => congrArg Nat.succ (dpAll_len r)
theorem dpAll_get : ∀ {vs : List V} {ds : List PyData} {i : Nat} {v : V}, DpAll K H vs ds → vs[i]? = some v → ∃ d, ds[i]? = some d ∧ Dp K H v d
  | _, _, _, _, .nil, h => by simp at h
  | _, _, 0, _, .cons x _, h => by
    simp at h
    subst h
    exact ⟨_, rfl, x⟩
  | _, _, i + 1, _, .cons _ r, h => by
    obtain ⟨d, e, q⟩ := dpAll_get (i := i) r (by simpa using h)
    exact ⟨d, by simpa using e, q⟩
theorem dp_int {v : V} {i : Int} (h : Dp K H v (.int i)) : v = .int i := by cases h; rfl
theorem dp_str {v : V} {x : Str} (h : Dp K H v (.str x)) : v = .str x := by cases h; rfl
theorem dp_lst {v : V} {ds : List PyData} (h : Dp K H v (.list ds)) : ∃ a xs, v = .ref a ∧ SqL K H a xs ∧ DpAll K H xs ds := by
  cases h with
  | lst s r => exact ⟨_, _, rfl, s, r⟩
theorem dp_tup {v : V} {ds : List PyData} (h : Dp K H v (.tuple ds)) : ∃ a xs, v = .ref a ∧ SqT K H a xs ∧ DpAll K H xs ds := by
  cases h with
  | tup s r => exact ⟨_, _, rfl, s, r⟩
theorem dpAll_ints : ∀ {l : List Int} {vs : List V}, DpAll K H vs (l.map .int) → vs = l.map V.int
  | [], _, .nil => rfl
  | i :: l, _, .cons x r => by
    rw [dp_int x, dpAll_ints r]
    rfl
theorem dpAll_of_ints : ∀ {l : List Int}, DpAll K H (l.map V.int) (l.map .int)
  | [] => .nil
  | i :: l => .cons (.int i) dpAll_of_ints
theorem dp_ints {v : V} {l : List Int} (h : Dp K H v (.list (l.map .int))) : ∃ a, v = .ref a ∧ SqL K H a (l.map V.int) := by
  obtain ⟨a, xs, e, s, r⟩ := dp_lst h
  rw [dpAll_ints r] at s
  exact ⟨a, e, s⟩
end

/-! ### types -/
section
variable {K : PySem.W.Frag} {H : Hp} {a : Addr} {xs : List V}
theorem ty_tup (h : SqT K H a xs) : TyX K H (.ref a) (.type "tuple") := by
  rcases h with (h | ⟨o, h⟩) | ⟨o, _, _, h, c, _⟩
  · exact .base (.tup h)
  · exact .fTuple h
  · exact .kTuple h c
theorem ty_lst (h : SqL K H a xs) : TyX K H (.ref a) (.type "list") := by
  rcases h with (h | ⟨o, h⟩) | ⟨o, _, _, h, c, _⟩
  · exact .base (.lst h)
  · exact .base (.frz h)
  · exact .kList h c
end

/-! ### machines -/
structure Mv where
  s : Int
  r : Str
  w : Str
  g : Int
structure Mc where
  n : Int
  b : Int
  ends : List Int
  moves : List Mv
def mvD (m : Mv) : PyData := .tuple [.int m.s, .str m.r, .str m.w, .int m.g]
def mcD (M : Mc) : PyData := .tuple [.int M.n, .int M.b, .list (M.ends.map .int), .list (M.moves.map mvD)]
theorem hard_mv (m : Mv) : hard (mvD m) = true := rfl
theorem hards_mv : ∀ ms : List Mv, hards (ms.map mvD) = true
  | [] => rfl
  | m :: ms => by
    show (hard (mvD m) && hards (ms.map mvD)) = true
    rw [hard_mv, hards_mv ms]
    rfl
/-- a state of a machine of so many -/
def St? (n i : Int) : Prop := 0 ≤ i ∧ i < n
structure Mc.Ok (M : Mc) : Prop where
  n1 : 1 ≤ M.n
  n2 : M.n ≤ 100
  b : St? M.n M.b
  e : ∀ i ∈ M.ends, St? M.n i
  el : M.ends.length ≤ 1000
  ml : M.moves.length ≤ 1000
  s : ∀ m ∈ M.moves, St? M.n m.s
  g : ∀ m ∈ M.moves, St? M.n m.g
  r : ∀ m ∈ M.moves, m.r.length ≤ 1
  w : ∀ m ∈ M.moves, m.w.length ≤ 1
section
variable {K : PySem.W.Frag} {H H' : Hp}
theorem dp_mv {v : V} {m : Mv} (h : Dp K H v (mvD m)) : ∃ a, v = .ref a ∧ SqT K H a [.int m.s, .str m.r, .str m.w, .int m.g] := by
  obtain ⟨a, xs, e, s, r⟩ := dp_tup h
  cases r with
  | cons r1 r =>
    cases r with
    | cons r2 r =>
      cases r with
      | cons r3 r =>
        cases r with
        | cons r4 r =>
          cases r
          rw [dp_int r1, dp_str r2, dp_str r3, dp_int r4] at s
          exact ⟨a, e, s⟩
theorem mv_dp {a : Addr} {m : Mv} (h : SqT K H a [.int m.s, .str m.r, .str m.w, .int m.g]) : Dp K H (.ref a) (mvD m) :=
  .tup h (.cons (.int _) (.cons (.str _) (.cons (.str _) (.cons (.int _) .nil))))
/-- a machine that stands: its tuple, its two lists -/
structure McAt (K : PySem.W.Frag) (H : Hp) (v : V) (M : Mc) (a e l : Addr) (qs : List V) : Prop where
  v : v = .ref a
  t : SqT K H a [.int M.n, .int M.b, .ref e, .ref l]
  e : SqL K H e (M.ends.map V.int)
  l : SqL K H l qs
  q : DpAll K H qs (M.moves.map mvD)
theorem dp_mc {v : V} {M : Mc} (h : Dp K H v (mcD M)) : ∃ a e l qs, McAt K H v M a e l qs := by
  obtain ⟨a, xs, e, s, r⟩ := dp_tup h
  cases r with
  | cons r1 r =>
    cases r with
    | cons r2 r =>
      cases r with
      | cons r3 r =>
        cases r with
        | cons r4 r =>
          cases r
          obtain ⟨e', rfl, s3⟩ := dp_ints r3
          obtain ⟨l, qs, rfl, s4, r4⟩ := dp_lst r4
          rw [dp_int r1, dp_int r2] at s
          exact ⟨a, e', l, qs, e, s, s3, s4, r4⟩
theorem McAt.dp {v : V} {M : Mc} {a e l : Addr} {qs : List V} (h : McAt K H v M a e l qs) : Dp K H v (mcD M) := by
  obtain ⟨rfl, t, e, l, q⟩ := h
  exact .tup t (.cons (.int _) (.cons (.int _) (.cons (.lst e dpAll_of_ints) (.cons (.lst l q) .nil))))
theorem McAt.same {v : V} {M : Mc} {a e l : Addr} {qs : List V} (h : McAt K H v M a e l qs) (k : Same H H') : McAt K H' v M a e l qs :=
  ⟨h.v, same_sqT k h.t, same_sqL k h.e, same_sqL k h.l, dpAll_same k h.q⟩
/-- the i-th move -/
theorem McAt.mv {v : V} {M : Mc} {a e l : Addr} {qs : List V} (h : McAt K H v M a e l qs) {i : Nat} {x : V} (g : qs[i]? = some x) :
    ∃ m q, M.moves[i]? = some m ∧ x = .ref q ∧ SqT K H q [.int m.s, .str m.r, .str m.w, .int m.g] := by
  obtain ⟨d, h1, h2⟩ := dpAll_get h.q g
  rw [List.getElem?_map] at h1
  cases hm : M.moves[i]? with
  | none =>
    rw [hm] at h1
    cases h1
  | some m =>
    rw [hm] at h1
    cases h1
    obtain ⟨q, e, s⟩ := dp_mv h2
    exact ⟨m, q, rfl, e, s⟩
theorem McAt.len {v : V} {M : Mc} {a e l : Addr} {qs : List V} (h : McAt K H v M a e l qs) : qs.length = M.moves.length := by
  rw [dpAll_len h.q, List.length_map]
end
/-! ### the data's shape, for == -/
theorem shape_mvs : ∀ ms : List Mv, (∀ m ∈ ms, PyData.strOk m.r = true ∧ PyData.strOk m.w = true) → PyData.canLayAll0 (ms.map mvD) = true ∧ PyData.depthAll (ms.map mvD) ≤ 1
  | [], _ => by simp [PyData.canLayAll0, PyData.depthAll]
  | m :: ms, h => by
    have ih := shape_mvs ms fun x hx => h x (List.mem_cons_of_mem _ hx)
    have hm := h m List.mem_cons_self
    constructor
    · simp [PyData.canLayAll0, PyData.canLay0, mvD, ih.1, hm.1, hm.2]
    · have h1 : PyData.depth (mvD m) = 1 := by simp [PyData.depth, PyData.depthAll, mvD]
      rw [List.map_cons, PyData.depthAll, h1]
      omega
theorem shape_ints : ∀ l : List Int, PyData.canLayAll0 (l.map PyData.int) = true ∧ PyData.depthAll (l.map PyData.int) = 0
  | [] => by simp [PyData.canLayAll0, PyData.depthAll]
  | m :: ms => by
    have ih := shape_ints ms
    constructor
    · simp [PyData.canLayAll0, PyData.canLay0, ih.1]
    · rw [List.map_cons, PyData.depthAll, ih.2, PyData.depth]
      omega
theorem shaped_mc (M : Mc) (h : ∀ m ∈ M.moves, PyData.strOk m.r = true ∧ PyData.strOk m.w = true) : SeqAt.shaped (mcD M) = true := by
  unfold SeqAt.shaped mcD
  rw [Bool.and_eq_true]
  constructor
  · simp [PyData.canLayAll0, PyData.canLay0, (shape_ints M.ends).1, (shape_mvs M.moves h).1]
  · refine decide_eq_true ?_
    have h1 := (shape_mvs M.moves h).2
    have h2 := (shape_ints M.ends).2
    simp only [PyData.depthAll, PyData.depth]
    omega
theorem eqv_mc (M : Mc) (h : ∀ m ∈ M.moves, PyData.strOk m.r = true ∧ PyData.strOk m.w = true) : PyData.eqv (mcD M) (mcD M) = true := SeqAt.eqv_refl _ (SeqAt.canLay_of_shaped (shaped_mc M h))
end Tw

/-! My own words for calls of defs; the readings' steps one by one, by the head. -/
namespace Tw
open PySem L2

/-! ### defs -/
/-- a def of the text stands under its name and keeps its promise -/
structure Cal (P : Program) (w : World) (K : PySem.W.Frag) (mg : Str → Option Value) (base : Heap) (CX : CXT) (k : Nat) (x : Str) (ps : List Str) (sp : Sp) : Prop where
  ex : ∃ (f : Addr) (fd : FuncData), FnOk P w K mg base CX k f fd ps sp ∧ mg x = some (.ref f) ∧ PySem.W.keepIn K (.ref f) = true ∧ Binds K fd ps []
/-- a def of the text stands under its name -/
structure FunAt (K : PySem.W.Frag) (mg : Str → Option Value) (x : Str) (st : Stmt) : Prop where
  ex : ∃ (f : Addr) (fd : FuncData), Fun K x x st f fd ∧ mg x = some (.ref f)
section
variable {P : Program} {w : World} {K : PySem.W.Frag} {mg : Str → Option Value} {base : Heap} {X : Cx} {CX : CXT} {k j : Nat} {x : Str} {ps N : List Str} {sp : Sp} {p pos : Pos} {e : Expr} {es : List Expr} {t : TA} {st : Stmt}
theorem Cal.imp {sp' : Sp} (c : Cal P w K mg base CX k x ps sp) (h : ∀ vs H Q E, sp' vs H Q E → sp vs H Q E) : Cal P w K mg base CX k x ps sp' := by
  obtain ⟨f, fd, F, a, b, d⟩ := c.ex
  exact ⟨f, fd, F.imp h, a, b, d⟩
theorem pe_callC (c : Cal X.prog X.w X.K X.mg X.base CX0 j x ps sp) (hr : Room k X.A) (hj : j ≤ k) (hg : Gl X x) (ha : PA X (e :: es) t) (hdb : (x == ("__debug__" : Str)) = false := by decide)
    (he : starEach (e :: es) X.env = (false, eval e X.env) :: starEach es X.env := by rfl) (hpl : (backTo pos (starEach es X.env)).any (·.1) = false := by rfl) :
    PE X (.Call (.Name x p) (e :: es) [] pos) (tCall sp [] E0 t) := by
  obtain ⟨f, fd, F, a, b, d⟩ := c.ex
  exact pe_call F (hr.mono hj) hg a b d .nil pass0 ha hdb he hpl
theorem pe_globI {i : Int} (hg : Gl X x) (hm : ∃ t, X.mg x = some (.int i t)) (hd : (x == ("__debug__" : Str)) = false := by decide) : PE X (.Name x pos) (tC (.int i)) := by
  obtain ⟨t, hm⟩ := hm
  exact pe_glob hg hm ⟨t, rfl⟩ hd
theorem FunAt.cal (F : FunAt K mg x st) (S : FnScope N ps (defScope st))
    (hb : ∀ (kV doc pm : Value) (an : Option Addr) (cdv ct : Value) (us : List Value), us.length = ps.length → bindArgs (PySem.W.fnOf x x (defArgs st) (defBody st) (defScope st) .none kV doc pm an cdv ct) ⟨us, []⟩ = pure (ps.zip us))
    (len : ∀ vs H Q E, sp vs H Q E → vs.length = ps.length)
    (hbody : ∀ (f : Addr) (cdv : Value) (A : Around) (outer : List Env) (s : Shared) (H : Hp) (vs : List V) (Q : VK) (E : XK), Room k (A.deeper (PyProof.Rows.envOfC x (defScope st) s.heap.objs.size f cdv)) → sp vs H Q E →
      ∃ t, PSs (cxOf CX0 P w K mg base N x (defScope st) f cdv A outer s H E).nox (defBody st) t ∧ t { nx := fun _ H' => Q .non H', rt := Q } (start N vs) H) : Cal P w K mg base CX0 (k + 1) x ps sp := by
  obtain ⟨f, fd, F, m⟩ := F.ex
  exact ⟨f, fd, F.ok S len (hbody f), m, F.kp, F.binds hb⟩
end

/-! ### the end: defs as the top has left them -/
section
variable {K : PySem.W.Frag} {h : Heap} {mg : Str → Option Value} {f : Addr} {x : Str} {st : Stmt} {od an : Option Addr} {sl : Array (Option Value)} {oc kV dc pm cd ct : Value}
theorem fun_at (X : K.In h) (G : h.Ns mainGlobals mg) (a : PySem.W.nsIn K mainGlobals x = some (some (.ref f)))
    (l : K.lookup f = some ⟨oc, od, .func (PySem.W.fnOf x x (defArgs st) (defBody st) (defScope st) .none kV dc pm an cd ct), sl⟩) (c : PySem.W.codeIn K cd x = true) (k : PySem.W.keepIn K (.ref f) = true) : FunAt K mg x st :=
  ⟨f, _, fun_mk l c k, PySem.W.mg_of X G a⟩
theorem law_at {lw : PySem.W.OpenLaw} {w : World} {fa : Addr} {n : Nat} {p : Str} {sp : Sp} (X : K.In h) (G : h.Ns mainGlobals mg) (hfa : mg x = some (.ref fa)) (a : PySem.W.nsIn K mainGlobals x = some (some (.ref f)))
    (l : K.lookup f = some ⟨oc, od, .func (PySem.W.fnOf x x (defArgs st) (defBody st) (defScope st) .none kV dc pm an cd ct), sl⟩) (c : PySem.W.codeIn K cd x = true) (k : PySem.W.keepIn K (.ref f) = true)
    (hb : ∀ (s : Shared) (u : Value), BindsTo s (PySem.W.fnOf x x (defArgs st) (defBody st) (defScope st) .none kV dc pm an cd ct) ⟨[u], []⟩ [(p, u)])
    (ok : ∀ (base : Heap) (f : Addr) (fd : FuncData), Fun K x x st f fd → FnOk lw.prog w K mg base CX0 n f fd [p] sp) :
    ∃ fd : FuncData, (∀ (s : Shared) (u : Value), BindsTo s fd ⟨[u], []⟩ [(p, u)]) ∧ ∀ base : Heap, K.In base → base.Ns mainGlobals mg → FnOk lw.prog w K mg base CX0 n fa fd [p] sp := by
  have e := hfa.symm.trans (PySem.W.mg_of X G a)
  cases e
  exact ⟨_, hb, fun base _ _ => ok base _ _ (fun_mk l c k)⟩
end

/-! ### readings, step by step -/
section
variable {K : PySem.W.Frag} {σ : St} {H : Hp} {D : Ends} {t u : TS} {te ta tb tc : TE} {tt tu : TT} {ts tr : TA} {Q : VK} {x y v : V} {i : Nat} {r : R2}
theorem r_seq (h : t { D with nx := u D } σ H) : tSeq t u D σ H := h
theorem r_cut (Mid : St → Hp → Prop) (h : t { D with nx := Mid } σ H) (k : ∀ σ' H', Mid σ' H' → u D σ' H') : Evl.tCut t u D σ H := ⟨Mid, h, k⟩
theorem r_next (h : D.nx σ H) : tNext D σ H := h
theorem r_asg {g : TG} (h : te σ H fun x H1 => g x σ H1 D.nx) : tAsg te g D σ H := h
theorem r_drop (h : te σ H fun _ H1 => D.nx σ H1) : tDrop te D σ H := h
theorem r_ret (h : te σ H D.rt) : tRet te D σ H := h
theorem r_ifS (h : tt σ H fun b H1 => if b = true then t D σ H1 else u D σ H1) : tIfS tt t u D σ H := h
theorem r_test {Q : Bool → Hp → Prop} (h : te σ H fun x H' => ∃ k, x = .bl k ∧ Q k H') : tTest te σ H Q := h
theorem r_tB {Q : Bool → Hp → Prop} (h : te σ H fun x H' => ∃ k, x = .bl k ∧ Q k H') : tB te σ H Q := h
theorem r_bl {Q : Bool → Hp → Prop} {k : Bool} (h : Q k H) : ∃ k', V.bl k = V.bl k' ∧ Q k' H := ⟨k, rfl, h⟩
theorem r_var (hv : σ[i]? = some (some v)) (h : Q v H) : tVar i σ H Q := ⟨v, hv, h⟩
theorem r_c (h : Q v H) : tC v σ H Q := h
theorem r_op (h : ta σ H fun x H1 => tb σ H1 fun y H2 => r x y H2 Q) : tOp r ta tb σ H Q := h
theorem r_un {r : V → Hp → VK → Prop} (h : ta σ H fun x H1 => r x H1 Q) : tUn r ta σ H Q := h
theorem r_I0 {g : Int → Int → V} {a b : Int} (h : Q (g a b) H) : rI0 g (.int a) (.int b) H Q := ⟨a, b, rfl, rfl, h⟩
theorem r_I {C : Int → Int → Prop} {g : Int → Int → V} {a b : Int} (c : C a b) (h : Q (g a b) H) : rI C g (.int a) (.int b) H Q := ⟨a, b, rfl, rfl, c, h⟩
theorem r_eq (s : scal x y = true) (h : Q (.bl (decide (x = y))) H) : rEq x y H Q := ⟨s, h⟩
theorem r_ne (s : scal x y = true) (h : Q (.bl (!decide (x = y))) H) : rNe x y H Q := ⟨s, h⟩
theorem r_nil {Q : List V → Hp → Prop} (h : Q [] H) : tNil σ H Q := h
theorem r_cons {Q : List V → Hp → Prop} (h : ta σ H fun x H1 => tr σ H1 fun xs H2 => Q (x :: xs) H2) : tCons ta tr σ H Q := h
theorem r_tup (h : ts σ H fun xs H1 => xs.length ≤ sizeLine ∧ ∀ p, H1 p = none → Q (.ref p) (upd H1 p (.tup xs))) : tTup ts σ H Q := h
theorem r_lst (h : ts σ H fun xs H1 => xs.length ≤ sizeLine ∧ ∀ p, H1 p = none → Q (.ref p) (upd H1 p (.lst xs))) : tLst ts σ H Q := h
theorem r_new {xs : List V} {P : Prop} (hl : xs.length ≤ 1000) (h : P) : xs.length ≤ sizeLine ∧ P := ⟨Nat.le_trans hl (by decide), h⟩
theorem r_CB {r : List V → Hp → VK → Prop} (h : ts σ H fun vs H1 => r vs H1 Q) : tCB r ts σ H Q := h
theorem r_call {sp : Sp} {dvs : List V} {E : XK} (h : ts σ H fun vs H1 => sp (vs ++ dvs) H1 Q E) : tCall sp dvs E ts σ H Q := h
theorem r_chain {r' : R2} (h : ta σ H fun x H1 => tb σ H1 fun y H2 => r x y H2 fun z H3 => ∃ k, z = .bl k ∧ (if k = true then tc σ H3 fun w' H4 => r' y w' H4 Q else Q (.bl false) H3)) : tChain r r' ta tb tc σ H Q := h
theorem r_not {Q : Bool → Hp → Prop} (h : tt σ H fun c H1 => Q (!c) H1) : tNot tt σ H Q := h
theorem r_and {Q : Bool → Hp → Prop} (h : tt σ H fun c H1 => if c = true then tu σ H1 Q else Q false H1) : tAnd tt tu σ H Q := h
theorem r_or {Q : Bool → Hp → Prop} (h : tt σ H fun c H1 => if c = true then Q true H1 else tu σ H1 Q) : tOr tt tu σ H Q := h
theorem r_if (h : tt σ H fun c H1 => if c = true then ta σ H1 Q else tb σ H1 Q) : tIf tt ta tb σ H Q := h
theorem r_andV (h : ta σ H fun x H1 => ∃ c, x = .bl c ∧ if c = true then tb σ H1 Q else Q (.bl false) H1) : tAndV ta tb σ H Q := h
theorem r_orV (h : ta σ H fun x H1 => ∃ c, x = .bl c ∧ if c = true then Q (.bl true) H1 else tb σ H1 Q) : tOrV ta tb σ H Q := h
theorem r_notV (h : ta σ H fun x H1 => ∃ c, x = .bl c ∧ Q (.bl (!c)) H1) : tNotV ta σ H Q := h
theorem r_bl2 {P : Bool → Prop} {k : Bool} (h : P k) : ∃ c, V.bl k = V.bl c ∧ P c := ⟨k, rfl, h⟩
theorem r_gtup {n : Nat} {t : TGs} {a : Addr} {xs : List V} {Q : St → Hp → Prop} (hs : SqT K H a xs) (hl : xs.length = n) (h : t xs σ H Q) : gTup K n t (.ref a) σ H Q := ⟨a, xs, rfl, hs, hl, h⟩
theorem r_gcons {t : TG} {u : TGs} {vs : List V} {Q : St → Hp → Prop} (h : t v σ H fun σ' H' => u vs σ' H' Q) : gCons t u (v :: vs) σ H Q := ⟨v, vs, rfl, h⟩
theorem r_gnil {Q : St → Hp → Prop} (h : Q σ H) : gNil [] σ H Q := ⟨rfl, h⟩
theorem r_gname {Q : St → Hp → Prop} {σ' : St} (e : σ.set i (some v) = σ') (h : Q σ' H) : gName i v σ H Q := by
  subst e
  exact h
theorem r_start {N : List Str} {vs : List V} {σ' : St} (e : L2.start N vs = σ') (h : t D σ' H) : t D (L2.start N vs) H := by
  subst e
  exact h
theorem r_ixL {p : Addr} {xs : List V} {j : Int} (hs : SqL K H p xs) (ha : atI xs j = some v) (h : Q v H) : rIxL K (.ref p) (.int j) H Q := ⟨p, xs, j, v, rfl, rfl, hs, ha, h⟩
theorem r_ixT {p : Addr} {xs : List V} {j : Int} (hs : SqT K H p xs) (ha : atI xs j = some v) (h : Q v H) : rIxT K (.ref p) (.int j) H Q := ⟨p, xs, j, v, rfl, rfl, hs, ha, h⟩
theorem r_true {P R : Prop} (h : P) : if true = true then P else R := by
  rw [if_pos rfl]
  exact h
theorem r_false {P R : Prop} (h : R) : if false = true then P else R := by
  rw [if_neg Bool.false_ne_true]
  exact h
theorem r_is {c : Bool} {P R : Prop} (e : c = true) (h : P) : if c = true then P else R := by
  rw [if_pos e]
  exact h
theorem r_isnt {c : Bool} {P R : Prop} (e : c = false) (h : R) : if c = true then P else R := by
  rw [e, if_neg Bool.false_ne_true]
  exact h
theorem r_isN {p : Prop} [Decidable p] {P R : Prop} (e : p) (h : R) : if (!decide p) = true then P else R := by
  rw [decide_eq_true e, if_neg (by decide)]
  exact h
theorem r_isntN {p : Prop} [Decidable p] {P R : Prop} (e : ¬ p) (h : P) : if (!decide p) = true then P else R := by
  rw [decide_eq_false e, if_pos (by decide)]
  exact h
theorem r_nt {P R : Prop} (h : R) : if (!true) = true then P else R := by
  rw [if_neg (by decide)]
  exact h
theorem r_nf {P R : Prop} (h : P) : if (!false) = true then P else R := by
  rw [if_pos (by decide)]
  exact h
/-- both ways of a test -/
theorem r_both {p : Prop} [Decidable p] {P R : Prop} (h1 : p → P) (h2 : ¬ p → R) : if decide p = true then P else R := by
  by_cases h : p
  · rw [if_pos (decide_eq_true h)]
    exact h1 h
  · rw [if_neg (fun z => h (of_decide_eq_true z))]
    exact h2 h
theorem r_bothN {p : Prop} [Decidable p] {P R : Prop} (h1 : ¬ p → P) (h2 : p → R) : if (!decide p) = true then P else R := by
  by_cases h : p
  · rw [decide_eq_true h, if_neg (by decide)]
    exact h2 h
  · rw [decide_eq_false h, if_pos (by decide)]
    exact h1 h
end
/-! ### built-ins -/
/-- len of a list or a tuple -/
abbrev rSeqLen (K : PySem.W.Frag) : List V → Hp → VK → Prop := fun xs H Q => ∃ p ys, xs = [.ref p] ∧ (SqL K H p ys ∨ SqT K H p ys) ∧ Q (.int ys.length) H
theorem call_lenQ {X : Cx} : CallR X (.builtin "len") (rSeqLen X.K) := call_len_seq
section
variable {K : PySem.W.Frag} {σ : St} {H : Hp} {te : TE} {tl th : TO} {Q : VK} {x y v : V}
theorem r_lenS {z : Str} {R : Str → Prop} (hl : z.length ≤ sizeLine) (h : R z) : ∃ z', [V.str z] = [V.str z'] ∧ z'.length ≤ sizeLine ∧ R z' := ⟨z, rfl, hl, h⟩
theorem r_seqL {a : Addr} {xs : List V} {R : Addr → List V → Prop} (hs : SqL K H a xs) (h : R a xs) : ∃ p ys, [V.ref a] = [V.ref p] ∧ (SqL K H p ys ∨ SqT K H p ys) ∧ R p ys := ⟨a, xs, rfl, .inl hs, h⟩
theorem r_seqT {a : Addr} {xs : List V} {R : Addr → List V → Prop} (hs : SqT K H a xs) (h : R a xs) : ∃ p ys, [V.ref a] = [V.ref p] ∧ (SqL K H p ys ∨ SqT K H p ys) ∧ R p ys := ⟨a, xs, rfl, .inr hs, h⟩
theorem r_isi {a b : String} {r : Bool} (ty : TyX K H x (.type a)) (e : kitB a b = some r) (h : Q (.bl r) H) : rIsi K [x, .ty b] H Q := ⟨x, .ty b, .type a, .type b, r, rfl, .ty b, ty, kit_ty e, h⟩
theorem r_addS {a b : Str} {R : Str → Str → Prop} (hl : a.length + b.length ≤ sizeLine) (h : R a b) : ∃ i j, V.str a = V.str i ∧ V.str b = V.str j ∧ i.length + j.length ≤ sizeLine ∧ R i j := ⟨a, b, rfl, rfl, hl, h⟩
theorem r_sl {r : V → Option Int → Option Int → Hp → VK → Prop} (h : te σ H fun x H1 => tl σ H1 fun l H2 => th σ H2 fun u H3 => r x l u H3 Q) : tSl r te tl th σ H Q := h
theorem r_part {R : Option Int → Hp → Prop} (h : te σ H fun x H1 => ∃ i, x = .int i ∧ R (some i) H1) : tPart te σ H R := h
theorem r_int1 {i : Int} {R : Int → Prop} (h : R i) : ∃ j, V.int i = V.int j ∧ R j := ⟨i, rfl, h⟩
theorem r_noPart {R : Option Int → Hp → Prop} (h : R none H) : tNoPart σ H R := h
theorem r_slL {a : Addr} {xs : List V} {lo hi : Option Int} (hs : SqL K H a xs) (h : ∀ p, H p = none → Q (.ref p) (upd H p (.lst (cutV xs lo hi)))) : rSlL K (.ref a) lo hi H Q := ⟨a, xs, rfl, hs, h⟩
theorem r_slS {z : Str} {lo hi : Option Int} (hl : z.length ≤ sizeLine) (h : Q (.str (cutS z lo hi)) H) : rSlS (.str z) lo hi H Q := ⟨z, rfl, hl, h⟩
theorem r_bm {T : String} {r : V → List V → Hp → VK → Prop} {to : TE} {t : TA} (h : to σ H fun x H1 => tyV K T x H1 ∧ t σ H1 fun xs H2 => r x xs H2 Q) : tBM K T r to t σ H Q := h
theorem r_bm0 {T : String} {r : V → List V → Hp → VK → Prop} {to : TE} (h : to σ H fun x H1 => tyV K T x H1 ∧ r x [] H1 Q) : tBM0 K T r to σ H Q := h
theorem r_tyL {a : Addr} {xs : List V} {P : Prop} (hs : SqL K H a xs) (h : P) : tyV K "list" (.ref a) H ∧ P := ⟨.inl ⟨rfl, _, hs⟩, h⟩
theorem r_app {l : Addr} {xs : List V} (hl : H l = some (.lst xs)) (hz : xs.length < sizeLine) (h : Q .non (upd H l (.lst (xs ++ [y])))) : rAppend (.ref l) [y] H Q := ⟨l, xs, y, rfl, rfl, hl, hz, h⟩
theorem r_clear {l : Addr} {xs : List V} (hl : H l = some (.lst xs)) (h : Q .non (upd H l (.lst []))) : rClear (.ref l) [] H Q := ⟨l, xs, rfl, rfl, hl, h⟩
theorem r_ixS {z : Str} {j : Int} {c : Nat} (hl : z.length ≤ sizeLine) (ha : atI z.cps.toList j = some c) (h : Q (.str ⟨#[c]⟩) H) : rIxS (.str z) (.int j) H Q := ⟨z, j, c, rfl, rfl, hl, ha, h⟩
theorem r_yes {R : Bool → Hp → Prop} (h : R true H) : tYes σ H R := h
end
/-! ### places in lists -/
theorem atI_mem {α : Type} {l : List α} {j : Int} (h0 : 0 ≤ j) (h1 : j < l.length) : ∃ v, v ∈ l ∧ atI l j = some v := by
  have h2 : j.toNat < l.length := by omega
  refine ⟨l[j.toNat], List.getElem_mem h2, ?_⟩
  have e : ((j.toNat : Nat) : Int) = j := Int.toNat_of_nonneg h0
  have q := atI_nat (List.getElem?_eq_getElem h2)
  rw [e] at q
  exact q
theorem cutV_map {α : Type} (f : α → V) (l : List α) (lo hi : Option Int) : ∃ l' : List α, cutV (l.map f) lo hi = l'.map f ∧ l'.length ≤ l.length ∧ ∀ x ∈ l', x ∈ l := by
  refine ⟨(l.drop (HT.sIx l.length 0 lo)).take (HT.sIx l.length l.length hi - HT.sIx l.length 0 lo), ?_, ?_, fun x hx => List.mem_of_mem_drop (List.mem_of_mem_take hx)⟩
  · unfold cutV
    rw [List.length_map, List.map_take, List.map_drop]
  · rw [List.length_take, List.length_drop]
    omega
/-! ### a list of data without lists that grows -/
theorem hards_app : ∀ (ds es : List PyData), hards ds = true → hards es = true → hards (ds ++ es) = true
  | [], _, _, h => h
  | d :: ds, es, h1, h2 => by
    have q : hard d = true ∧ hards ds = true := Bool.and_eq_true_iff.mp h1
    show (hard d && hards (ds ++ es)) = true
    rw [q.1, hards_app ds es q.2 h2]
    rfl
/-- H0: ahead of the list; at L the data ds stand -/
structure Gro (K : PySem.W.Frag) (H0 : Hp) (L : Addr) (ds : List PyData) (H : Hp) : Prop where
  s : Same H0 H
  n : H0 L = none
  h : ∃ vs, H L = some (.lst vs) ∧ DpAll K H vs ds
  hd : hards ds = true
theorem Gro.new {K : PySem.W.Frag} {H : Hp} {L : Addr} (h : H L = none) : Gro K H L [] (upd H L (.lst [])) := ⟨same_up h, h, ⟨[], upd_same, .nil⟩, rfl⟩
theorem Gro.same {K : PySem.W.Frag} {H0 H H' : Hp} {L : Addr} {ds : List PyData} (g : Gro K H0 L ds H) (e : Same H H') : Gro K H0 L ds H' := by
  obtain ⟨vs, h1, h2⟩ := g.h
  exact ⟨g.s.trans e, g.n, ⟨vs, e _ _ h1, dpAll_same e h2⟩, g.hd⟩
/-- L.append(y): the reading of append -/
theorem Gro.app {K : PySem.W.Frag} {H0 H : Hp} {L : Addr} {ds : List PyData} {y : V} {d : PyData} {Q : VK} (g : Gro K H0 L ds H) (hy : Dp K H y d) (hh : hard d = true) (hl : ds.length < 1000000)
    (q : ∀ H', Gro K H0 L (ds ++ [d]) H' → Keep H H' → (∀ b, b ≠ L → H' b = H b) → Q .non H') : rAppend (.ref L) [y] H Q := by
  obtain ⟨vs, h1, h2⟩ := g.h
  have kp : Keep H (upd H L (.lst (vs ++ [y]))) := keep_lst h1
  refine r_app h1 ?_ (q _ ⟨same_mut g.s g.n, g.n, ⟨vs ++ [y], upd_same, dpAll_app (dpAll_keep kp g.hd h2) (dpAll_one (dp_keep kp hh hy))⟩, ?_⟩ kp fun b hb => upd_ne hb)
  · rw [dpAll_len h2]
    exact Nat.lt_trans hl (by decide)
  · refine hards_app _ _ g.hd ?_
    show (hard d && true) = true
    rw [hh]
    rfl
theorem Gro.dp {K : PySem.W.Frag} {H0 H : Hp} {L : Addr} {ds : List PyData} (g : Gro K H0 L ds H) : Dp K H (.ref L) (.list ds) := by
  obtain ⟨vs, h1, h2⟩ := g.h
  exact .lst (SqL.of h1) h2
/-! ### loops and comprehensions -/
section
variable {K : PySem.W.Frag} {σ : St} {H : Hp} {D : Ends} {g : TG} {tb : TS} {tl te : TE} {ta : TA} {tt : TT} {Q : VK} {js : List Nat}
/-- for x in a list that stands at a name -/
theorem r_forL {a : Addr} {xs : List V} (Pv : Nat → St → Hp → Prop) (hl : ∀ R : VK, R (.ref a) H → tl σ H R) (hs : SqL K H a xs) (h0 : Pv 0 σ H) (h1 : ∀ i σ H, i ≤ xs.length → Pv i σ H → SqL K H a xs)
    (h2 : ∀ i x σ H, xs[i]? = some x → Pv i σ H → g x σ H fun σ2 H2 => tb { D with nx := Pv (i + 1), ct := Pv (i + 1), bk := D.nx } σ2 H2) (h3 : ∀ σ H, Pv xs.length σ H → D.nx σ H) : tFor (iList K tl) g tb D σ H :=
  hl _ ⟨a, rfl, ⟨xs, hs⟩, for_list Pv h0 h1 h2 h3⟩
theorem r_forLv {i : Nat} {a : Addr} {xs : List V} (Pv : Nat → St → Hp → Prop) (hv : σ[i]? = some (some (.ref a))) (hs : SqL K H a xs) (h0 : Pv 0 σ H) (h1 : ∀ i σ H, i ≤ xs.length → Pv i σ H → SqL K H a xs)
    (h2 : ∀ i x σ H, xs[i]? = some x → Pv i σ H → g x σ H fun σ2 H2 => tb { D with nx := Pv (i + 1), ct := Pv (i + 1), bk := D.nx } σ2 H2) (h3 : ∀ σ H, Pv xs.length σ H → D.nx σ H) : tFor (iList K (tVar i)) g tb D σ H :=
  ⟨_, hv, a, rfl, ⟨xs, hs⟩, for_list Pv h0 h1 h2 h3⟩
/-- for x in range(n): the argument's reading told -/
theorem r_forR {n : Int} (Pv : Nat → St → Hp → Prop) (ha : ∀ Q : List V → Hp → Prop, Q [.int n] H → ta σ H Q) (hm : -1000000 ≤ n) (hn : n ≤ 1000000) (h0 : Pv 0 σ H)
    (h2 : ∀ (i : Nat) σ H, (i : Int) < n → Pv i σ H → g (.int (i : Int)) σ H fun σ2 H2 => tb { D with nx := Pv (i + 1), ct := Pv (i + 1), bk := D.nx } σ2 H2) (h3 : ∀ σ H, Pv n.toNat σ H → D.nx σ H) : tFor (iRng1 ta) g tb D σ H := by
  refine ha _ ⟨n, rfl, by omega, by omega, for_range (lo := 0) (n := n.toNat) Pv h0 (fun i σ' H' hi p => ?_) h3⟩
  have e : (0 : Int) + (i : Int) = (i : Int) := Int.zero_add _
  rw [e]
  exact h2 i σ' H' (by omega) p
theorem hards_fm {f : Nat → Option PyData} (hf : ∀ i d, f i = some d → hard d = true) : ∀ l : List Nat, hards (l.filterMap f) = true
  | [] => rfl
  | j :: l => by
    cases e : f j with
    | none => rw [List.filterMap_cons_none e]; exact hards_fm hf l
    | some d =>
      rw [List.filterMap_cons_some e]
      show (hard d && hards (l.filterMap f)) = true
      rw [hf j d e, hards_fm hf l]
      rfl
/-- what stands between two turns of a comprehension: the list made so far, told by data -/
def Lcd (K : PySem.W.Frag) (H : Hp) (f : Nat → Option PyData) (D0 : Addr) (i : Nat) (H' : Hp) : Prop := Same H H' ∧ H D0 = none ∧ ∃ acc, H' D0 = some (.lst acc) ∧ DpAll K H' acc ((List.range i).filterMap f)
theorem lcd_no {f : Nat → Option PyData} {D0 : Addr} {i : Nat} {H' H3 : Hp} (p : Lcd K H f D0 i H') (s3 : Same H' H3) (e : f i = none) : Lcd K H f D0 (i + 1) H3 := by
  obtain ⟨s1, d0, acc, hacc, hd⟩ := p
  refine ⟨s1.trans s3, d0, acc, s3 _ _ hacc, ?_⟩
  rw [List.range_succ, List.filterMap_append, List.filterMap_cons_none e, List.filterMap_nil, List.append_nil]
  exact dpAll_same s3 hd
theorem lcd_yes {f : Nat → Option PyData} {D0 : Addr} {i n : Nat} {H' H4 : Hp} {y : V} {d : PyData} (hf : ∀ i d, f i = some d → hard d = true) (hn : n ≤ 1000000) (hi : i < n) (p : Lcd K H f D0 i H') (s4 : Same H' H4) (e : f i = some d) (hdy : Dp K H4 y d) :
    ∃ acc, H4 D0 = some (.lst acc) ∧ acc.length < sizeLine ∧ Lcd K H f D0 (i + 1) (upd H4 D0 (.lst (acc ++ [y]))) := by
  obtain ⟨s1, d0, acc, hacc, hd⟩ := p
  have h4 := s4 _ _ hacc
  refine ⟨acc, h4, ?_, same_mut (s1.trans s4) d0, d0, acc ++ [y], upd_same, ?_⟩
  · have hl := dpAll_len hd
    have hl2 := List.length_filterMap_le f (List.range i)
    rw [List.length_range] at hl2
    refine Nat.lt_of_le_of_lt (m := 1000000) ?_ (by decide)
    omega
  · rw [List.range_succ, List.filterMap_append, List.filterMap_cons_some e, List.filterMap_nil]
    have kp : Keep H4 (upd H4 D0 (.lst (acc ++ [y]))) := keep_lst h4
    exact dpAll_app (dpAll_keep kp (hards_fm hf _) (dpAll_same s4 hd)) (dpAll_one (dp_keep kp (hf i d e) hdy))
/-- [e for x in a list if t], told by data without lists -/
theorem r_lcL {a : Addr} {xs : List V} {σw : St} (f : Nat → Option PyData) (hw : wipe σ js = σw) (hl : ∀ R : VK, R (.ref a) H → tl σ H R) (hs : SqL K H a xs) (hn : xs.length ≤ 1000000) (hf : ∀ i d, f i = some d → hard d = true)
    (ht : ∀ i x H' (QY : VK) (QN : Hp → Prop), xs[i]? = some x → Same H H' → (∀ y H4 d, Same H' H4 → f i = some d → Dp K H4 y d → QY y H4) → (∀ H3, Same H' H3 → f i = none → QN H3) →
      g x σw H' fun σ2 H2 => wipe σ2 js = σw ∧ tt σ2 H2 fun b H3 => if b = true then te σ2 H3 QY else QN H3)
    (hd : ∀ H' D acc, Same H H' → H D = none → H' D = some (.lst acc) → DpAll K H' acc ((List.range xs.length).filterMap f) → Q (.ref D) H') : tLc (iList K tl) g tt te js σ H Q := by
  subst hw
  refine hl _ ⟨a, rfl, ⟨xs, hs⟩, fun D0 hD => ?_⟩
  refine lc_list (xs := xs) (Lcd K H f D0) ⟨same_up hD, hD, [], upd_same, .nil⟩ (fun i H' _ p => same_sqL p.1 hs) (fun i x H' hx p => ?_) (fun H' p => ?_)
  · have hi : i < xs.length := (List.getElem?_eq_some_iff.mp hx).1
    exact ht i x H' _ _ hx p.1 (fun y H4 d s4 e hdy => lcd_yes hf hn hi p s4 e hdy) (fun H3 s3 e => lcd_no p s3 e)
  · obtain ⟨s1, d0, acc, e, q⟩ := p
    exact hd H' D0 acc s1 d0 e q
/-- [e for x in range(n) if t] -/
theorem r_lcR {n : Int} {σw : St} (f : Nat → Option PyData) (hw : wipe σ js = σw) (ha : ∀ Q : List V → Hp → Prop, Q [.int n] H → ta σ H Q) (hm : -1000000 ≤ n) (hn : n ≤ 1000000) (hf : ∀ i d, f i = some d → hard d = true)
    (ht : ∀ (i : Nat) H' (QY : VK) (QN : Hp → Prop), (i : Int) < n → Same H H' → (∀ y H4 d, Same H' H4 → f i = some d → Dp K H4 y d → QY y H4) → (∀ H3, Same H' H3 → f i = none → QN H3) →
      g (.int (i : Int)) σw H' fun σ2 H2 => wipe σ2 js = σw ∧ tt σ2 H2 fun b H3 => if b = true then te σ2 H3 QY else QN H3)
    (hd : ∀ H' D acc, Same H H' → H D = none → H' D = some (.lst acc) → DpAll K H' acc ((List.range n.toNat).filterMap f) → Q (.ref D) H') : tLc (iRng1 ta) g tt te js σ H Q := by
  subst hw
  refine ha _ ⟨n, rfl, by omega, by omega, fun D0 hD => ?_⟩
  refine lc_range (lo := 0) (n := n.toNat) (Lcd K H f D0) ⟨same_up hD, hD, [], upd_same, .nil⟩ (fun i H' hi p => ?_) (fun H' p => ?_)
  · have e : (0 : Int) + (i : Int) = (i : Int) := Int.zero_add _
    rw [e]
    exact ht i H' _ _ (by omega) p.1 (fun y H4 d s4 e hdy => lcd_yes hf (by omega) hi p s4 e hdy) (fun H3 s3 e => lcd_no p s3 e)
  · obtain ⟨s1, d0, acc, e, q⟩ := p
    exact hd H' D0 acc s1 d0 e q
end
theorem range_fm {α β : Type} (l : List α) (g : α → β) : ∀ n : Nat, (List.range n).filterMap (fun i => l[i]?.map g) = (l.take n).map g
  | 0 => rfl
  | n + 1 => by
    rw [List.range_succ, List.filterMap_append, range_fm l g n, List.take_add_one, List.map_append]
    cases h : l[n]? with
    | none =>
      rw [List.filterMap_cons_none (by rw [h]; rfl)]
      rfl
    | some x =>
      rw [List.filterMap_cons_some (b := g x) (by rw [h]; rfl)]
      rfl
theorem range_fm_all {α β : Type} (l : List α) (g : α → β) {n : Nat} (h : n = l.length) : (List.range n).filterMap (fun i => l[i]?.map g) = l.map g := by
  rw [range_fm, h, List.take_length]
theorem sqT_up {K : PySem.W.Frag} {H : Hp} {p a : Addr} {o : HO} {xs : List V} (hp : H p = none) (h : SqT K H a xs) : SqT K (upd H p o) a xs := same_sqT (same_up hp) h
theorem sqL_up {K : PySem.W.Frag} {H : Hp} {p a : Addr} {o : HO} {xs : List V} (hp : H p = none) (h : SqL K H a xs) : SqL K (upd H p o) a xs := same_sqL (same_up hp) h
end Tw

local macro_rules | `(tactic| walk_at "sq") => `(tactic| first
  | assumption
  | exact Or.inl (Or.inl L2.upd_same)
  | ((with_reducible refine' Tw.sqT_up ?s ?r); (case s => assumption); (case r => walk_at "sq"))
  | ((with_reducible refine' Tw.sqL_up ?s ?r); (case s => assumption); (case r => walk_at "sq"))
  | ((with_reducible refine' Tw.same_sqT ?s ?r); (case s => assumption); (case r => walk_at "sq"))
  | ((with_reducible refine' Tw.same_sqL ?s ?r); (case s => assumption); (case r => walk_at "sq")))
local macro_rules | `(tactic| walk_at "dp") => `(tactic| first
  | assumption
  | ((with_reducible refine' Tw.dp_same (Tw.same_up ?s) ?r); (case s => assumption); (case r => walk_at "dp"))
  | ((with_reducible refine' Tw.dp_same ?s ?r); (case s => assumption); (case r => walk_at "dp")))
local macro_rules | `(tactic| walk_at "side") => `(tactic| first
  | assumption | rfl | decide | (exact Nat.le_trans (by assumption) (by decide)) | exact ⟨by decide, by decide⟩ | exact Or.inr ⟨by decide, by decide⟩ | exact Or.inl ⟨by decide, by decide⟩ | omega | exact ⟨by omega, by omega⟩ | exact Or.inl ⟨by omega, by omega⟩ | exact Or.inr ⟨by omega, by omega⟩)
local macro_rules | `(tactic| walk_at "ty") => `(tactic| first
  | exact .base (.int _) | exact .base (.str _) | exact .base (.bl _) | exact .base .non
  | ((with_reducible refine' Tw.ty_tup ?r); (case r => walk_at "sq")) | ((with_reducible refine' Tw.ty_lst ?r); (case r => walk_at "sq")))
local macro_rules | `(tactic| walk_at "rd1") => `(tactic| first
  | with_reducible refine Tw.r_seq ?_
  | with_reducible refine Tw.r_asg ?_
  | ((with_reducible refine' Tw.r_var ?hv ?_); (case hv => rfl))
  | with_reducible refine Tw.r_c ?_
  | with_reducible refine Tw.r_op ?_
  | with_reducible refine Tw.r_I0 ?_
  | ((with_reducible refine' Tw.r_I ?c ?_); (case c => walk_at "side"))
  | ((with_reducible refine' Tw.r_eq ?s ?_); (case s => rfl))
  | ((with_reducible refine' Tw.r_ne ?s ?_); (case s => rfl))
  | with_reducible refine Tw.r_bl ?_
  | with_reducible refine Tw.r_bl2 ?_
  | with_reducible refine Tw.r_ifS ?_
  | with_reducible refine Tw.r_test ?_
  | with_reducible refine Tw.r_tB ?_
  | with_reducible refine Tw.r_drop ?_
  | with_reducible refine Tw.r_ret ?_
  | with_reducible refine Tw.r_nil ?_
  | with_reducible refine Tw.r_cons ?_
  | with_reducible refine Tw.r_tup ?_
  | with_reducible refine Tw.r_lst ?_
  | with_reducible refine Tw.r_CB ?_
  | with_reducible refine Tw.r_call ?_
  | with_reducible refine Tw.r_chain ?_
  | with_reducible refine Tw.r_not ?_
  | with_reducible refine Tw.r_and ?_
  | with_reducible refine Tw.r_or ?_
  | with_reducible refine Tw.r_if ?_
  | with_reducible refine Tw.r_andV ?_
  | with_reducible refine Tw.r_orV ?_
  | with_reducible refine Tw.r_notV ?_
  | with_reducible refine Tw.r_un ?_
  | ((with_reducible refine' Tw.r_gtup ?hs ?hl ?_); (case hs => walk_at "sq"); (case hl => rfl))
  | with_reducible refine Tw.r_gcons ?_
  | with_reducible refine Tw.r_gnil ?_
  | ((with_reducible refine' Tw.r_gname ?e ?_); (case e => first | (dsimp only [List.set_cons_succ, List.set_cons_zero]; done) | (dsimp only [List.set_cons_succ, List.set_cons_zero]; rfl)))
  | ((with_reducible refine' Tw.r_ixT ?hs ?ha ?_); (case hs => walk_at "sq"); (case ha => rfl))
  | ((with_reducible refine' Tw.r_lenS ?hl ?_); (case hl => walk_at "side"))
  | ((with_reducible refine' Tw.r_seqL ?hs ?_); (case hs => walk_at "sq"))
  | ((with_reducible refine' Tw.r_seqT ?hs ?_); (case hs => walk_at "sq"))
  | ((with_reducible refine' Tw.r_isi (r := true) ?ty ?e ?_); (case ty => walk_at "ty"); (case e => decide +kernel))
  | ((with_reducible refine' Tw.r_isi (r := false) ?ty ?e ?_); (case ty => walk_at "ty"); (case e => decide +kernel))
  | ((with_reducible refine' Tw.r_addS ?hl ?_); (case hl => walk_at "side"))
  | with_reducible refine Tw.r_sl ?_
  | with_reducible refine Tw.r_part ?_
  | with_reducible refine Tw.r_noPart ?_
  | with_reducible refine Tw.r_int1 ?_
  | ((with_reducible refine' Tw.r_slL ?hs ?_); (case hs => walk_at "sq"))
  | ((with_reducible refine' Tw.r_slS ?hl ?_); (case hl => walk_at "side"))
  | with_reducible refine Tw.r_bm ?_
  | with_reducible refine Tw.r_bm0 ?_
  | ((with_reducible refine' Tw.r_tyL ?hs ?_); (case hs => walk_at "sq"))
  | with_reducible refine Tw.r_yes ?_
  | with_reducible refine Tw.r_true ?_
  | with_reducible refine Tw.r_false ?_
  | with_reducible refine Tw.r_nt ?_
  | with_reducible refine Tw.r_nf ?_
  | ((with_reducible refine' Tw.r_is (decide_eq_true ?p) ?_); (case p => first | assumption | rfl | omega))
  | ((with_reducible refine' Tw.r_isnt (decide_eq_false ?p) ?_); (case p => first | assumption | omega))
  | ((with_reducible refine' Tw.r_isN ?p ?_); (case p => first | assumption | rfl | omega))
  | ((with_reducible refine' Tw.r_isntN ?p ?_); (case p => first | assumption | omega))
  | with_reducible refine Tw.r_next ?_)
local macro_rules | `(tactic| walk_at "rd") => `(tactic| repeat walk_at "rd1")
namespace Tw
open PySem L2
def top (i : Nat) : Stmt := PySem.Challenge.pw_turnwriter_k01_turned.main.body.getD i (.Pass ⟨0, 0, 0, 0⟩)
structure Txt (K : PySem.W.Frag) (mg : Str → Option Value) : Prop where
  c_MOST_STATES : ∃ t, mg "MOST_STATES" = some (.int 100 t)
  c_MOST_MOVES : ∃ t, mg "MOST_MOVES" = some (.int 1000 t)
  n_len : mg "len" = none
  n_list : mg "list" = none
  n_range : mg "range" = none
  n_isinstance : mg "isinstance" = none
  n_int : mg "int" = none
  n_bool : mg "bool" = none
  n_tuple : mg "tuple" = none
  n_str : mg "str" = none
section
variable {P : Program} {w : World} {K : PySem.W.Frag} {mg : Str → Option Value} {base : Heap}
-- check_state
abbrev s_check_state : Stmt := top 7
abbrev N_check_state : List Str := ["state", "states"]
theorem sc_check_state : FnScope N_check_state ["state", "states"] (defScope s_check_state) := ⟨rfl, rfl, rfl, by decide +kernel, rfl, by decide +kernel, by decide +kernel⟩

def spState : Sp := fun vs H Q _ => ∃ (a n : Int), vs = [.int a, .int n] ∧ 0 ≤ a ∧ a < n ∧ Q .non H
theorem ok_check_state (F : FunAt K mg "check_state" s_check_state) : Cal P w K mg base CX0 1 "check_state" ["state", "states"] spState := by
  refine F.cal sc_check_state (fun _ _ _ _ _ _ us hl => match us, hl with | [_, _], _ => rfl) (fun vs H Q E h => by obtain ⟨_, _, rfl, _⟩ := h; rfl) (fun f cdv A outer s H vs Q E hr h => ?_)
  obtain ⟨a, n, rfl, h0, h1, q⟩ := h
  refine ⟨_, (pss_one (ps_if (pt_not (pt_chain op_le op_lt pe_int (pv 0) (pv 1)))
    (pss_one ps_never)
    pss_nil)), ?_⟩
  refine r_start (σ' := [some (.int a), some (.int n)]) rfl ?_
  walk_at "rd"
  exact q
-- check_sign
abbrev s_check_sign : Stmt := top 8
abbrev N_check_sign : List Str := ["text"]
theorem sc_check_sign : FnScope N_check_sign ["text"] (defScope s_check_sign) := ⟨rfl, rfl, rfl, by decide +kernel, rfl, by decide +kernel, by decide +kernel⟩

def spSign : Sp := fun vs H Q _ => ∃ (x : Str), vs = [.str x] ∧ x.length ≤ 1 ∧ Q .non H
theorem ok_check_sign (F : FunAt K mg "check_sign" s_check_sign) (T : Txt K mg) : Cal P w K mg base CX0 1 "check_sign" ["text"] spSign := by
  refine F.cal sc_check_sign (fun _ _ _ _ _ _ us hl => match us, hl with | [_], _ => rfl) (fun vs H Q E h => by obtain ⟨_, rfl, _⟩ := h; rfl) (fun f cdv A outer s H vs Q E hr h => ?_)
  obtain ⟨x, rfl, h0, q⟩ := h
  refine ⟨_, (pss_one (ps_if (pt_cmpR op_gt (pe_callB call_len_str (by rfl) T.n_len PySem.boot_len (pa_cons (pv 0) pa_nil)) pe_int (nomark _))
    (pss_one ps_never)
    pss_nil)), ?_⟩
  refine r_start (σ' := [some (.str x)]) rfl ?_
  walk_at "rd"
  exact q

-- check_machine
abbrev s_check_machine : Stmt := top 6
abbrev N_check_machine : List Str := ["machine", "states", "begin", "ends", "moves", "end", "start", "read", "write", "goal"]
theorem sc_check_machine : FnScope N_check_machine ["machine"] (defScope s_check_machine) := ⟨rfl, rfl, rfl, by decide +kernel, rfl, by decide +kernel, by decide +kernel⟩

def spCheck (K : PySem.W.Frag) : Sp := fun vs H Q _ => ∃ (v : V) (M : Mc), vs = [v] ∧ Dp K H v (mcD M) ∧ M.Ok ∧ Q .non H
theorem ok_check_machine (F : FunAt K mg "check_machine" s_check_machine) (T : Txt K mg) (c_check_state : Cal P w K mg base CX0 1 "check_state" ["state", "states"] spState) (c_check_sign : Cal P w K mg base CX0 1 "check_sign" ["text"] spSign) :
    Cal P w K mg base CX0 2 "check_machine" ["machine"] (spCheck K) := by
  refine F.cal sc_check_machine (fun _ _ _ _ _ _ us hl => match us, hl with | [_], _ => rfl) (fun vs H Q E h => by obtain ⟨_, _, rfl, _⟩ := h; rfl) (fun f cdv A outer s H vs Q E hr h => ?_)
  obtain ⟨v, M, rfl, hd, ok, q⟩ := h
  obtain ⟨a, e, l, qs, A⟩ := dp_mc hd
  obtain ⟨rfl, ht, he, hl, hq⟩ := id A
  have n1 := ok.n1
  have n2 := ok.n2
  have ml := ok.ml
  have b := ok.b
  have ln := A.len
  refine ⟨_, (pss_cons (ps_asg (pv 0) (pg_tup (by rfl) (pgs_cons (pg_name (i := 1) sc_check_machine.nd rfl (Or.inl rfl)) (pgs_cons (pg_name (i := 2) sc_check_machine.nd rfl (Or.inl rfl)) (pgs_cons (pg_name (i := 3) sc_check_machine.nd rfl (Or.inl rfl)) (pgs_cons (pg_name (i := 4) sc_check_machine.nd rfl (Or.inl rfl)) pgs_nil))))))
  (pss_cons (ps_if (pt_not (pt_chain op_le op_le pe_int (pv 1) (pe_globI (by rfl) T.c_MOST_STATES)))
    (pss_one ps_never)
    pss_nil)
  (pss_cons (ps_if (pt_cmpR op_gt (pe_callB call_lenQ (by rfl) T.n_len PySem.boot_len (pa_cons (pv 4) pa_nil)) (pe_globI (by rfl) T.c_MOST_MOVES) (nomark _))
    (pss_one ps_never)
    pss_nil)
  (pss_cons (ps_expr (pe_callC c_check_state hr (by decide) (by rfl) (pa_cons (pv 2) (pa_cons (pv 1) pa_nil))))
  (pss_cons (ps_for PassesOwn.never rfl (pi_list (pv 3)) (pg_name (i := 5) sc_check_machine.nd rfl (Or.inl rfl))
    (pss_one (ps_expr (pe_callC c_check_state hr (by decide) (by rfl) (pa_cons (pv 5) (pa_cons (pv 1) pa_nil))))))
  (pss_one (ps_for PassesOwn.never rfl (pi_list (pv 4)) (pg_tup (by rfl) (pgs_cons (pg_name (i := 6) sc_check_machine.nd rfl (Or.inl rfl)) (pgs_cons (pg_name (i := 7) sc_check_machine.nd rfl (Or.inl rfl)) (pgs_cons (pg_name (i := 8) sc_check_machine.nd rfl (Or.inl rfl)) (pgs_cons (pg_name (i := 9) sc_check_machine.nd rfl (Or.inl rfl)) pgs_nil)))))
    (pss_cons (ps_expr (pe_callC c_check_state hr (by decide) (by rfl) (pa_cons (pv 6) (pa_cons (pv 1) pa_nil))))
  (pss_cons (ps_expr (pe_callC c_check_sign hr (by decide) (by rfl) (pa_cons (pv 7) pa_nil)))
  (pss_cons (ps_expr (pe_callC c_check_sign hr (by decide) (by rfl) (pa_cons (pv 8) pa_nil)))
  (pss_one (ps_expr (pe_callC c_check_state hr (by decide) (by rfl) (pa_cons (pv 9) (pa_cons (pv 1) pa_nil))))))))))))))), ?_⟩
  refine r_start (σ' := [some (.ref a), none, none, none, none, none, none, none, none, none]) rfl ?_
  walk_at "rd"
  refine ⟨_, _, rfl, b.1, b.2, ?_⟩
  walk_at "rd"
  refine r_forLv (a := e) (xs := M.ends.map V.int) (fun i σ H' => H' = H ∧ ∃ x, σ = [some (.ref a), some (.int M.n), some (.int M.b), some (.ref e), some (.ref l), x, none, none, none, none]) rfl he ⟨rfl, none, rfl⟩ (fun _ _ _ _ p => by rw [p.1]; exact he) (fun i x σ H' hx p => ?_) (fun σ H' p => ?_)
  · obtain ⟨rfl, x0, rfl⟩ := p
    rw [List.getElem?_map] at hx
    obtain ⟨z, hz, rfl⟩ := Option.map_eq_some_iff.mp hx
    have sz := ok.e z (List.mem_of_getElem? hz)
    walk_at "rd"
    refine ⟨_, _, rfl, sz.1, sz.2, ?_⟩
    exact ⟨rfl, _, rfl⟩
  · obtain ⟨rfl, x0, rfl⟩ := p
    refine r_forLv (a := l) (xs := qs) (fun i σ H'' => H'' = H' ∧ ∃ x1 x2 x3 x4, σ = [some (.ref a), some (.int M.n), some (.int M.b), some (.ref e), some (.ref l), x0, x1, x2, x3, x4]) rfl hl ⟨rfl, none, none, none, none, rfl⟩ (fun _ _ _ _ p => by rw [p.1]; exact hl) (fun i x σ H'' hx p => ?_) (fun σ H'' p => ?_)
    · obtain ⟨rfl, x1, x2, x3, x4, rfl⟩ := p
      obtain ⟨m, qa, hm, rfl, hs⟩ := A.mv hx
      have mm := List.mem_of_getElem? hm
      have ms := ok.s m mm
      have mg' := ok.g m mm
      walk_at "rd"
      refine ⟨_, _, rfl, ms.1, ms.2, ?_⟩
      walk_at "rd"
      refine ⟨_, rfl, ok.r m mm, ?_⟩
      walk_at "rd"
      refine ⟨_, rfl, ok.w m mm, ?_⟩
      walk_at "rd"
      refine ⟨_, _, rfl, mg'.1, mg'.2, ?_⟩
      exact ⟨rfl, _, _, _, _, rfl⟩
    · obtain ⟨rfl, x1, x2, x3, x4, rfl⟩ := p
      exact q
-- turned
abbrev s_turned : Stmt := top 9
abbrev N_turned : List Str := ["machine", "states", "begin", "ends", "moves", "other_way", "start", "read", "write", "goal"]
theorem sc_turned : FnScope N_turned ["machine"] (defScope s_turned) := ⟨rfl, rfl, rfl, by decide +kernel, rfl, by decide +kernel, by decide +kernel⟩

def Mv.turn (m : Mv) : Mv := ⟨m.s, m.w, m.r, m.g⟩
def Mc.turn (M : Mc) : Mc := ⟨M.n, M.b, M.ends, M.moves.map Mv.turn⟩
def spTurned (K : PySem.W.Frag) : Sp := fun vs H Q _ => ∃ (v : V) (M : Mc), vs = [v] ∧ Dp K H v (mcD M) ∧ M.Ok ∧ ∀ (H' : Hp) (t e l : Addr) (qs : List V), Same H H' → H e = none → H l = none → e ≠ l →
  H' t = some (.tup [.int M.n, .int M.b, .ref e, .ref l]) → H' e = some (.lst (M.ends.map V.int)) → H' l = some (.lst qs) → DpAll K H' qs (M.turn.moves.map mvD) → Q (.ref t) H'
theorem ok_turned (F : FunAt K mg "turned" s_turned) (T : Txt K mg) (c_check_machine : Cal P w K mg base CX0 2 "check_machine" ["machine"] (spCheck K)) :
    Cal P w K mg base CX0 3 "turned" ["machine"] (spTurned K) := by
  refine F.cal sc_turned (fun _ _ _ _ _ _ us hl => match us, hl with | [_], _ => rfl) (fun vs H Q E h => by obtain ⟨_, _, rfl, _⟩ := h; rfl) (fun f cdv A outer s H vs Q E hr h => ?_)
  obtain ⟨v, M, rfl, hd, ok, q⟩ := h
  obtain ⟨a, e, l, qs, A⟩ := dp_mc hd
  obtain ⟨rfl, ht, he, hl, hq⟩ := id A
  have ln := A.len
  have ml := ok.ml
  refine ⟨_, (pss_cons (ps_expr (pe_callC c_check_machine hr (by decide) (by rfl) (pa_cons (pv 0) pa_nil)))
  (pss_cons (ps_asg (pv 0) (pg_tup (by rfl) (pgs_cons (pg_name (i := 1) sc_turned.nd rfl (Or.inl rfl)) (pgs_cons (pg_name (i := 2) sc_turned.nd rfl (Or.inl rfl)) (pgs_cons (pg_name (i := 3) sc_turned.nd rfl (Or.inl rfl)) (pgs_cons (pg_name (i := 4) sc_turned.nd rfl (Or.inl rfl)) pgs_nil))))))
  (pss_cons (ps_setLc (i := 5) (own := [("start", 6), ("read", 7), ("write", 8), ("goal", 9)]) (g := gTup K 4 (gCons (gName 6) (gCons (gName 7) (gCons (gName 8) (gCons (gName 9) gNil))))) (tt := tYes) rfl sc_turned.nd rfl rfl (sw_true rfl rfl rfl (by decide +kernel)) (pi_list (pv 4)) (blkOk_by (N := N_turned) (sc := defScope s_turned) (by decide +kernel)) (fun _ _ _ _ _ => (pg_tup (by rfl) (pgs_cons (pg_name (i := 6) sc_turned.nd rfl (Or.inl rfl)) (pgs_cons (pg_name (i := 7) sc_turned.nd rfl (Or.inl rfl)) (pgs_cons (pg_name (i := 8) sc_turned.nd rfl (Or.inl rfl)) (pgs_cons (pg_name (i := 9) sc_turned.nd rfl (Or.inl rfl)) pgs_nil)))))) (fun _ _ _ _ _ => pts_nil) (fun _ _ _ _ _ => (pe_tup (pa_cons (pv 6) (pa_cons (pv 8) (pa_cons (pv 7) (pa_cons (pv 9) pa_nil)))))))
  (pss_one (ps_ret (pe_tup (pa_cons (pv 1) (pa_cons (pv 2) (pa_cons (pe_callTy call_list_of (by rfl) T.n_list (by decide +kernel) (pa_cons (pv 3) pa_nil)) (pa_cons (pv 5) pa_nil)))))))))), ?_⟩
  refine r_start (σ' := [some (.ref a), none, none, none, none, none, none, none, none, none]) rfl ?_
  walk_at "rd"
  refine ⟨_, _, rfl, hd, ok, ?_⟩
  walk_at "rd"
  refine r_lcL (a := l) (xs := qs) (fun i => M.moves[i]?.map fun m => mvD m.turn) (σw := [some (.ref a), some (.int M.n), some (.int M.b), some (.ref e), some (.ref l), none, none, none, none, none]) rfl (fun R h => ⟨_, rfl, h⟩) hl (by omega) (fun i d h => ?_) (fun i x H' QY QN hx s1 hy hn => ?_) (fun H' D acc s1 d0 hD hA => ?_)
  · obtain ⟨m, _, rfl⟩ := Option.map_eq_some_iff.mp h
    rfl
  · obtain ⟨m, qa, hm, rfl, hs⟩ := (A.same s1).mv hx
    walk_at "rd"
    refine ⟨rfl, ?_⟩
    walk_at "rd"
    refine r_new (Nat.le_of_ble_eq_true rfl) (fun p hp => ?_)
    exact hy _ _ _ (same_up hp) (by rw [hm]; rfl) (mv_dp (m := m.turn) (SqT.of upd_same))
  · rw [range_fm_all M.moves (fun m => mvD m.turn) ln] at hA
    walk_at "rd"
    intro l2 hl2
    walk_at "rd"
    refine r_new (Nat.le_of_ble_eq_true rfl) (fun p hp => ?_)
    have s2 : Same H' (upd H' l2 (.lst (M.ends.map V.int))) := same_up hl2
    have s3 : Same (upd H' l2 (.lst (M.ends.map V.int))) (upd (upd H' l2 (.lst (M.ends.map V.int))) p (.tup [.int M.n, .int M.b, .ref l2, .ref D])) := same_up hp
    refine q _ p l2 D acc (s1.trans (s2.trans s3)) (s1.free hl2) d0 (fun z => ?_) upd_same (s3 _ _ upd_same) (s3 _ _ (s2 _ _ hD)) (dpAll_same s3 (dpAll_same s2 ?_))
    · rw [z, hD] at hl2
      cases hl2
    · rw [show M.turn.moves.map mvD = M.moves.map (fun m => mvD m.turn) from List.map_map]
      exact hA
end
end Tw


namespace Tw
open PySem L2
section
variable {P : Program} {w : World} {K : PySem.W.Frag} {mg : Str → Option Value} {base : Heap}
-- _law_whole
abbrev s__law_whole : Stmt := top 11
abbrev N__law_whole : List Str := ["_law_found"]
theorem sc__law_whole : FnScope N__law_whole ["_law_found"] (defScope s__law_whole) := ⟨rfl, rfl, rfl, by decide +kernel, rfl, by decide +kernel, by decide +kernel⟩

def spWhole : Sp := fun vs H Q _ => ∃ (i : Int), vs = [.int i] ∧ Q (.bl true) H
theorem ok__law_whole (F : FunAt K mg "_law_whole" s__law_whole) (T : Txt K mg) : Cal P w K mg base CX0 1 "_law_whole" ["_law_found"] spWhole := by
  refine F.cal sc__law_whole (fun _ _ _ _ _ _ us hl => match us, hl with | [_], _ => rfl) (fun vs H Q E h => by obtain ⟨_, rfl, _⟩ := h; rfl) (fun f cdv A outer s H vs Q E hr h => ?_)
  obtain ⟨i, rfl, q⟩ := h
  refine ⟨_, (pss_one (ps_ret (pe_and (pe_callB call_isi (by rfl) T.n_isinstance (by decide +kernel) (pa_cons (pv 0) (pa_cons (pe_bltn (v := .ty "int") (by rfl) T.n_int (by decide +kernel) rfl) pa_nil))) (pe_one (pe_not (pe_callB call_isi (by rfl) T.n_isinstance (by decide +kernel) (pa_cons (pv 0) (pa_cons (pe_bltn (v := .ty "bool") (by rfl) T.n_bool (by decide +kernel) rfl) pa_nil)))))))), ?_⟩
  refine r_start (σ' := [some (.int i)]) rfl ?_
  walk_at "rd"
  exact q
-- _law_cell
abbrev s__law_cell : Stmt := top 12
abbrev N__law_cell : List Str := ["_law_script", "_law_k"]
theorem sc__law_cell : FnScope N__law_cell ["_law_script", "_law_k"] (defScope s__law_cell) := ⟨rfl, rfl, rfl, by decide +kernel, rfl, by decide +kernel, by decide +kernel⟩

def cell (ns : List Int) (k : Nat) : Int := ns.getD k 0
def spCell' (K : PySem.W.Frag) : Sp := fun vs H Q _ => ∃ (a : Addr) (ns : List Int) (k : Int), vs = [.ref a, .int k] ∧ SqL K H a (ns.map V.int) ∧ 0 ≤ k ∧ Q (.int (cell ns k.toNat)) H
theorem ok__law_cell (F : FunAt K mg "_law_cell" s__law_cell) (T : Txt K mg) : Cal P w K mg base CX0 1 "_law_cell" ["_law_script", "_law_k"] (spCell' K) := by
  refine F.cal sc__law_cell (fun _ _ _ _ _ _ us hl => match us, hl with | [_, _], _ => rfl) (fun vs H Q E h => by obtain ⟨_, _, _, rfl, _⟩ := h; rfl) (fun f cdv A outer s H vs Q E hr h => ?_)
  obtain ⟨a, ns, k, rfl, hs, hk, q⟩ := h
  refine ⟨_, (pss_cons (ps_if (pt_cmpR op_lt (pv 1) (pe_callB call_lenQ (by rfl) T.n_len PySem.boot_len (pa_cons (pv 0) pa_nil)) (nomark _))
    (pss_one (ps_ret (pe_ix ix_list (pv 0) (pv 1) (fun _ _ => rfl))))
    pss_nil)
  (pss_one (ps_ret pe_int))), ?_⟩
  refine r_start (σ' := [some (.ref a), some (.int k)]) rfl ?_
  walk_at "rd"
  refine r_both (fun h => ?_) (fun h => ?_)
  · walk_at "rd"
    rw [List.length_map] at h
    have h2 : k.toNat < ns.length := by omega
    refine r_ixL (v := .int (cell ns k.toNat)) hs ?_ q
    have e : ((k.toNat : Nat) : Int) = k := Int.toNat_of_nonneg hk
    have g : (ns.map V.int)[k.toNat]? = some (.int (cell ns k.toNat)) := by
      rw [List.getElem?_map, List.getElem?_eq_getElem h2]
      simp [cell, h2]
    have g2 := atI_nat g
    rw [e] at g2
    exact g2
  · walk_at "rd"
    rw [List.length_map] at h
    have e : cell ns k.toNat = 0 := by
      unfold cell
      rw [List.getD_eq_getElem?_getD, List.getElem?_eq_none (by omega)]
      rfl
    rw [e] at q
    exact q
-- _law_signs
abbrev s__law_signs : Stmt := top 13
abbrev N__law_signs : List Str := ["_law_cell_here", "_law_some", "_law_second", "_law_third"]
theorem sc__law_signs : FnScope N__law_signs ["_law_cell_here"] (defScope s__law_signs) := ⟨rfl, rfl, rfl, by decide +kernel, rfl, by decide +kernel, by decide +kernel⟩

structure SignOk (x : Str) : Prop where
  len : x.length ≤ 1
  ok : PyData.strOk x = true
/-- ninety-four signs -/
def signsOk (z : Str) : Bool := decide (z.cps.toList.length = 94) && PyData.strOk z
theorem r_sign {H : Hp} {Q : VK} {z : Str} {j : Int} (hz : signsOk z = true) (h0 : 0 ≤ j) (h1 : j < 94) (h : ∀ c, SignOk ⟨#[c]⟩ → Q (.str ⟨#[c]⟩) H) : rIxS (.str z) (.int j) H Q := by
  unfold signsOk at hz
  rw [Bool.and_eq_true] at hz
  have hl := of_decide_eq_true hz.1
  obtain ⟨c, hc, ha⟩ := atI_mem (l := z.cps.toList) h0 (by omega)
  have e : z.length = 94 := by
    show z.cps.size = 94
    rw [← Array.length_toList]
    exact hl
  refine r_ixS (by rw [e]; decide) ha (h c ⟨Nat.le_refl 1, ?_⟩)
  have h2 := hz.2
  unfold PyData.strOk at h2 ⊢
  rw [Array.all_eq_true'] at h2
  have h3 := h2 c (Array.mem_def.mpr hc)
  simpa using h3
theorem signOk_nil : SignOk (Str.ofString "") := ⟨by decide, by decide +kernel⟩
def spSigns : Sp := fun vs H Q _ => ∃ (c : Int), vs = [.int c] ∧ ∀ (H' : Hp) (p : Addr) (ss : List Str), Same H H' → H p = none → ss.length = 4 → (∀ x ∈ ss, SignOk x) → H' p = some (.lst (ss.map V.str)) → Q (.ref p) H'
theorem ok__law_signs (F : FunAt K mg "_law_signs" s__law_signs) : Cal P w K mg base CX0 1 "_law_signs" ["_law_cell_here"] spSigns := by
  refine F.cal sc__law_signs (fun _ _ _ _ _ _ us hl => match us, hl with | [_], _ => rfl) (fun vs H Q E h => by obtain ⟨_, rfl, _⟩ := h; rfl) (fun f cdv A outer s H vs Q E hr h => ?_)
  obtain ⟨c, rfl, q⟩ := h
  refine ⟨_, (pss_cons (ps_set (i := 1) sc__law_signs.nd rfl (Or.inl rfl) pe_str)
  (pss_cons (ps_set (i := 1) sc__law_signs.nd rfl (Or.inl rfl) (pe_op op_add_str (pv 1) pe_str))
  (pss_cons (ps_set (i := 2) sc__law_signs.nd rfl (Or.inl rfl) (pe_op op_mod (pe_op op_add (pe_op op_add (pv 0) pe_int) (pe_op op_mod (pe_op op_fdiv (pv 0) pe_int) pe_int)) pe_int))
  (pss_cons (ps_set (i := 3) sc__law_signs.nd rfl (Or.inl rfl) (pe_op op_mod (pe_op op_add (pe_op op_add (pv 0) pe_int) (pe_op op_mod (pe_op op_fdiv (pv 0) pe_int) pe_int)) pe_int))
  (pss_one (ps_ret (pe_lst (pa_cons pe_str (pa_cons (pe_ix ix_str (pv 1) (pe_op op_mod (pv 0) pe_int) (fun _ _ => rfl)) (pa_cons (pe_ix ix_str (pv 1) (pv 2) (fun _ _ => rfl)) (pa_cons (pe_ix ix_str (pv 1) (pv 3) (fun _ _ => rfl)) pa_nil))))))))))), ?_⟩
  refine r_start (σ' := [some (.int c), none, none, none]) rfl ?_
  walk_at "rd"
  refine r_sign (by decide +kernel) (by omega) (by omega) (fun c1 k1 => ?_)
  walk_at "rd"
  refine r_sign (by decide +kernel) (by omega) (by omega) (fun c2 k2 => ?_)
  walk_at "rd"
  refine r_sign (by decide +kernel) (by omega) (by omega) (fun c3 k3 => ?_)
  walk_at "rd"
  refine r_new (Nat.le_of_ble_eq_true rfl) (fun p hp => ?_)
  refine q _ p [Str.ofString "", ⟨#[c1]⟩, ⟨#[c2]⟩, ⟨#[c3]⟩] (same_up hp) hp rfl (fun x hx => ?_) upd_same
  simp only [List.mem_cons, List.not_mem_nil, or_false] at hx
  rcases hx with rfl | rfl | rfl | rfl
  · exact signOk_nil
  · exact k1
  · exact k2
  · exact k3
-- _law_moves
abbrev s__law_moves : Stmt := top 14
abbrev N__law_moves : List Str := ["_law_script", "_law_states", "_law_signs_here", "_law_cells", "_law_moves_here", "_law_cell_here", "_law_read", "_law_write", "_law_k"]
theorem sc__law_moves : FnScope N__law_moves ["_law_script", "_law_states", "_law_signs_here"] (defScope s__law_moves) := ⟨rfl, rfl, rfl, by decide +kernel, rfl, by decide +kernel, by decide +kernel⟩

/-- a move of a machine of n states -/
structure MvOk (n : Int) (m : Mv) : Prop where
  s : St? n m.s
  g : St? n m.g
  r : SignOk m.r
  w : SignOk m.w
/-- a new list of new moves -/
def RetMoves (K : PySem.W.Frag) (n : Int) (most : Nat) (H : Hp) (Q : VK) : Prop := ∀ (H' : Hp) (l : Addr) (qs : List V) (ms : List Mv), Same H H' → H l = none → H' l = some (.lst qs) → DpAll K H' qs (ms.map mvD) → (∀ m ∈ ms, MvOk n m) → ms.length ≤ most → Q (.ref l) H'
def spMoves (K : PySem.W.Frag) : Sp := fun vs H Q _ => ∃ (a p : Addr) (ns : List Int) (n : Int) (ss : List Str), vs = [.ref a, .int n, .ref p] ∧ SqL K H a (ns.map V.int) ∧ ns.length ≤ 63 ∧ 1 ≤ n ∧ n ≤ 100 ∧ SqL K H p (ss.map V.str) ∧ ss.length = 4 ∧ (∀ x ∈ ss, SignOk x) ∧ RetMoves K n 300 H Q
theorem r_pick {K : PySem.W.Frag} {H : Hp} {Q : VK} {p : Addr} {ss : List Str} {j : Int} (hs : SqL K H p (ss.map V.str)) (h0 : 0 ≤ j) (h1 : j < ss.length) (h : ∀ x, x ∈ ss → Q (.str x) H) : rIxL K (.ref p) (.int j) H Q := by
  obtain ⟨v, hv, ha⟩ := atI_mem (l := ss.map V.str) h0 (by rw [List.length_map]; exact h1)
  obtain ⟨x, hx, rfl⟩ := List.mem_map.mp hv
  exact r_ixL hs ha (h x hx)
theorem ok__law_moves (F : FunAt K mg "_law_moves" s__law_moves) (T : Txt K mg) (c__law_cell : Cal P w K mg base CX0 1 "_law_cell" ["_law_script", "_law_k"] (spCell' K)) :
    Cal P w K mg base CX0 2 "_law_moves" ["_law_script", "_law_states", "_law_signs_here"] (spMoves K) := by
  refine F.cal sc__law_moves (fun _ _ _ _ _ _ us hl => match us, hl with | [_, _, _], _ => rfl) (fun vs H Q E h => by obtain ⟨_, _, _, _, _, rfl, _⟩ := h; rfl) (fun f cdv A outer s H vs Q E hr h => ?_)
  obtain ⟨a, p, ns, n, ss, rfl, hs, hl63, hn1, hn2, hp, hl4, hok, q⟩ := h
  refine ⟨_, (pss_cons (ps_set (i := 3) sc__law_moves.nd rfl (Or.inl rfl) (pe_slice sl_list (pv 0) (po_some pe_int) (po_some pe_int)))
  (Evl.pss_cut (ps_if (pt_cmpR op_eq (pe_op op_mod (pe_callC c__law_cell hr (by decide) (by rfl) (pa_cons (pv 0) (pa_cons pe_int pa_nil))) pe_int) pe_int (nomark _))
    (pss_one (ps_setLc (i := 3) (own := [("_law_k", 8)]) (g := gName 8) (tt := tYes) rfl sc__law_moves.nd rfl rfl (sw_true rfl rfl rfl (by decide +kernel)) (pi_range1 (by rfl) T.n_range (pa_cons pe_int pa_nil)) (blkOk_by (N := N__law_moves) (sc := defScope s__law_moves) (by decide +kernel)) (fun _ _ _ _ _ => (pg_name (i := 8) sc__law_moves.nd rfl (Or.inl rfl))) (fun _ _ _ _ _ => pts_nil) (fun _ _ _ _ _ => (pe_op op_add (pe_callC c__law_cell hr (by decide) (by rfl) (pa_cons (pv 0) (pa_cons pe_int pa_nil))) (pe_op op_mul (pe_op op_mul pe_int (pv 8)) (pv 8))))))
    pss_nil)
  (pss_cons (ps_set (i := 4) sc__law_moves.nd rfl (Or.inl rfl) (pe_lst pa_nil))
  (pss_cons (ps_for PassesOwn.never rfl (pi_list (pv 3)) (pg_name (i := 5) sc__law_moves.nd rfl (Or.inl rfl))
    (pss_cons (ps_set (i := 5) sc__law_moves.nd rfl (Or.inl rfl) (pe_op op_mod (pe_op op_mul (pv 5) pe_int) pe_int))
  (pss_cons (ps_set (i := 6) sc__law_moves.nd rfl (Or.inl rfl) (pe_ix ix_list (pv 2) (pe_op op_mod (pv 5) pe_int) (fun _ _ => rfl)))
  (pss_cons (ps_set (i := 7) sc__law_moves.nd rfl (Or.inl rfl) (pe_ix ix_list (pv 2) (pe_op op_mod (pe_op op_fdiv (pv 5) pe_int) pe_int) (fun _ _ => rfl)))
  (pss_one (ps_expr (pe_bm PySem.F.plainAttrs_list PySem.F.slot_list_append PySem.F.type_list_append mt_append (pv 4) (pa_cons (pe_tup (pa_cons (pe_op op_mod (pe_op op_fdiv (pv 5) pe_int) (pv 1)) (pa_cons (pv 6) (pa_cons (pv 7) (pa_cons (pe_op op_mod (pe_op op_fdiv (pe_op op_fdiv (pv 5) pe_int) (pv 1)) (pv 1)) pa_nil))))) pa_nil))))))))
  (pss_one (ps_ret (pv 4))))))), ?_⟩
  refine r_start (σ' := [some (.ref a), some (.int n), some (.ref p), none, none, none, none, none, none]) rfl ?_
  walk_at "rd"
  intro c hc
  obtain ⟨l1, e1, hl1, _⟩ := cutV_map V.int ns (some 4) (some 64)
  rw [e1]
  have sc : Same H (upd H c (.lst (l1.map V.int))) := same_up hc
  walk_at "rd"
  refine r_cut (fun σ H' => ∃ (c : Addr) (cs : List Int) (x : Option V), σ = [some (.ref a), some (.int n), some (.ref p), some (.ref c), none, none, none, none, x] ∧ Same H H' ∧ SqL K H' c (cs.map V.int) ∧ cs.length ≤ 300) ?_ ?_
  · walk_at "rd"
    refine ⟨a, ns, 3, rfl, by walk_at "sq", by decide, ?_⟩
    walk_at "rd"
    refine r_both (fun h => ?_) (fun h => ?_)
    · walk_at "rd"
      refine r_lcR (K := K) (n := 300) (σw := [some (.ref a), some (.int n), some (.ref p), some (.ref c), none, none, none, none, none]) (fun i => some (.int (cell ns 3 + 7919 * (i : Int) * (i : Int)))) rfl (fun Q h => h) (by decide) (by decide) (fun i d h => by cases h; rfl) (fun i H' QY QN hi s1 hy hn => ?_) (fun H' D acc s1 d0 hD hA => ?_)
      · walk_at "rd"
        refine ⟨rfl, ?_⟩
        walk_at "rd"
        refine ⟨a, ns, 3, rfl, same_sqL (sc.trans s1) hs, by decide, ?_⟩
        walk_at "rd"
        exact hy _ _ _ (Same.refl _) rfl (.int _)
      · rw [show (List.range (Int.toNat 300)).filterMap (fun (i : Nat) => some (PyData.int (cell ns 3 + 7919 * (i : Int) * (i : Int)))) = ((List.range 300).map fun (i : Nat) => cell ns 3 + 7919 * (i : Int) * (i : Int)).map PyData.int by
          rw [List.map_map, ← List.filterMap_eq_map]
          rfl] at hA
        have ea := dpAll_ints hA
        rw [ea] at hD
        walk_at "rd"
        exact ⟨D, _, _, rfl, sc.trans s1, SqL.of hD, by rw [List.length_map, List.length_range]; exact Nat.le_refl _⟩
    · walk_at "rd"
      exact ⟨c, l1, none, rfl, sc, SqL.of upd_same, by omega⟩
  · rintro σ' H' ⟨c, cs, x, rfl, s1, hcs, hl⟩
    walk_at "rd"
    refine r_new (Nat.le_of_ble_eq_true rfl) (fun L hL => ?_)
    walk_at "rd"
    refine r_forLv (a := c) (xs := cs.map V.int) (fun i σ H'' => ∃ (ms : List Mv) (x5 x6 x7 : Option V), σ = [some (.ref a), some (.int n), some (.ref p), some (.ref c), some (.ref L), x5, x6, x7, x] ∧ Gro K H' L (ms.map mvD) H'' ∧ (∀ m ∈ ms, MvOk n m) ∧ ms.length = i) rfl (by walk_at "sq")
      ⟨[], none, none, none, rfl, Gro.new hL, (fun _ h => nomatch h), rfl⟩ (fun i σ H'' _ ⟨_, _, _, _, _, g, _⟩ => same_sqL g.s hcs) (fun i z σ H'' hz p => ?_) (fun σ H'' p => ?_)
    · obtain ⟨ms, x5, x6, x7, rfl, g, hm, hi⟩ := p
      have hil := (List.getElem?_eq_some_iff.mp hz).1
      rw [List.length_map] at hil
      rw [List.getElem?_map] at hz
      obtain ⟨z, _, rfl⟩ := Option.map_eq_some_iff.mp hz
      have gs := g.s
      walk_at "rd"
      refine r_pick (same_sqL (s1.trans gs) hp) (by omega) (by omega) (fun y1 hy1 => ?_)
      walk_at "rd"
      refine r_pick (same_sqL (s1.trans gs) hp) (by omega) (by omega) (fun y2 hy2 => ?_)
      have hvs : ∃ vs, SqL K H'' L vs := ⟨_, SqL.of g.h.choose_spec.1⟩
      obtain ⟨vs, hvs⟩ := hvs
      walk_at "rd"
      refine r_new (Nat.le_of_ble_eq_true rfl) (fun t ht => ?_)
      walk_at "rd"
      have st : Same H'' (upd H'' t (.tup [.int (z * 48271 % 2147483647 / 16 % n), .str y1, .str y2, .int (z * 48271 % 2147483647 / 16 / n % n)])) := same_up ht
      refine (g.same st).app (mv_dp (m := ⟨z * 48271 % 2147483647 / 16 % n, y1, y2, z * 48271 % 2147483647 / 16 / n % n⟩) (SqT.of upd_same)) (hard_mv _) (by rw [List.length_map]; omega) (fun H3 g3 _ _ => ?_)
      refine ⟨ms ++ [⟨z * 48271 % 2147483647 / 16 % n, y1, y2, z * 48271 % 2147483647 / 16 / n % n⟩], _, _, _, rfl, ?_, fun m hmm => ?_, ?_⟩
      · rw [List.map_append]
        exact g3
      · rcases List.mem_append.mp hmm with h | h
        · exact hm m h
        · rw [List.mem_singleton.mp h]
          exact ⟨⟨Int.emod_nonneg _ (by omega), Int.emod_lt_of_pos _ (by omega)⟩, ⟨Int.emod_nonneg _ (by omega), Int.emod_lt_of_pos _ (by omega)⟩, hok y1 hy1, hok y2 hy2⟩
      · rw [List.length_append, List.length_singleton, hi]
    · obtain ⟨ms, x5, x6, x7, rfl, g, hm, hi⟩ := p
      rw [List.length_map] at hi
      obtain ⟨vs, h1, h2⟩ := g.h
      walk_at "rd"
      exact q _ L vs ms (s1.trans g.s) (s1.free hL) h1 h2 hm (by omega)
-- _law_machine
abbrev s__law_machine : Stmt := top 15
abbrev N__law_machine : List Str := ["_law_script", "_law_states", "_law_begin", "_law_bits", "_law_ends", "_law_state"]
theorem sc__law_machine : FnScope N__law_machine ["_law_script"] (defScope s__law_machine) := ⟨rfl, rfl, rfl, by decide +kernel, rfl, by decide +kernel, by decide +kernel⟩

def RetMachine (K : PySem.W.Frag) (most : Nat) (H : Hp) (Q : VK) : Prop := ∀ (H' : Hp) (v : V) (M : Mc), Same H H' → Dp K H' v (mcD M) → 1 ≤ M.n → M.n ≤ 100 → St? M.n M.b → (∀ i ∈ M.ends, St? M.n i) → M.ends.length ≤ 1000 → (∀ m ∈ M.moves, MvOk M.n m) → M.moves.length ≤ most → Q v H'
def spMachine (K : PySem.W.Frag) : Sp := fun vs H Q _ => ∃ (a : Addr) (ns : List Int), vs = [.ref a] ∧ SqL K H a (ns.map V.int) ∧ ns.length ≤ 63 ∧ RetMachine K 300 H Q
theorem ok__law_machine (F : FunAt K mg "_law_machine" s__law_machine) (T : Txt K mg) (c__law_cell : Cal P w K mg base CX0 1 "_law_cell" ["_law_script", "_law_k"] (spCell' K)) (c__law_signs : Cal P w K mg base CX0 1 "_law_signs" ["_law_cell_here"] spSigns)
    (c__law_moves : Cal P w K mg base CX0 2 "_law_moves" ["_law_script", "_law_states", "_law_signs_here"] (spMoves K)) : Cal P w K mg base CX0 3 "_law_machine" ["_law_script"] (spMachine K) := by
  refine F.cal sc__law_machine (fun _ _ _ _ _ _ us hl => match us, hl with | [_], _ => rfl) (fun vs H Q E h => by obtain ⟨_, _, rfl, _⟩ := h; rfl) (fun f cdv A outer s H vs Q E hr h => ?_)
  obtain ⟨a, ns, rfl, hs, hl63, q⟩ := h
  refine ⟨_, (pss_cons (ps_set (i := 1) sc__law_machine.nd rfl (Or.inl rfl) (pe_op op_add pe_int (pe_op op_mod (pe_callC c__law_cell hr (by decide) (by rfl) (pa_cons (pv 0) (pa_cons pe_int pa_nil))) pe_int)))
  (pss_cons (ps_set (i := 2) sc__law_machine.nd rfl (Or.inl rfl) (pe_op op_mod (pe_op op_fdiv (pe_callC c__law_cell hr (by decide) (by rfl) (pa_cons (pv 0) (pa_cons pe_int pa_nil))) pe_int) (pv 1)))
  (pss_cons (ps_set (i := 3) sc__law_machine.nd rfl (Or.inl rfl) (pe_callC c__law_cell hr (by decide) (by rfl) (pa_cons (pv 0) (pa_cons pe_int pa_nil))))
  (pss_cons (ps_set (i := 4) sc__law_machine.nd rfl (Or.inl rfl) (pe_lst pa_nil))
  (pss_cons (ps_for PassesOwn.never rfl (pi_range1 (by rfl) T.n_range (pa_cons (pv 1) pa_nil)) (pg_name (i := 5) sc__law_machine.nd rfl (Or.inl rfl))
    (Evl.pss_cut (ps_if (pt_cmpR op_eq (pe_op op_mod (pv 3) pe_int) pe_int (nomark _))
    (pss_one (ps_expr (pe_bm PySem.F.plainAttrs_list PySem.F.slot_list_append PySem.F.type_list_append mt_append (pv 4) (pa_cons (pv 5) pa_nil))))
    pss_nil)
  (pss_one (ps_set (i := 3) sc__law_machine.nd rfl (Or.inl rfl) (pe_op op_fdiv (pv 3) pe_int)))))
  (Evl.pss_cut (ps_if (pt_cmpR op_eq (pe_op op_mod (pv 3) pe_int) pe_int (nomark _))
    (pss_one (ps_set (i := 4) sc__law_machine.nd rfl (Or.inl rfl) (pe_op op_cat (pv 4) (pe_slice sl_list (pv 4) po_none (po_some pe_int)))))
    pss_nil)
  (pss_one (ps_ret (pe_tup (pa_cons (pv 1) (pa_cons (pv 2) (pa_cons (pv 4) (pa_cons (pe_callC c__law_moves hr (by decide) (by rfl) (pa_cons (pv 0) (pa_cons (pv 1) (pa_cons (pe_callC c__law_signs hr (by decide) (by rfl) (pa_cons (pe_callC c__law_cell hr (by decide) (by rfl) (pa_cons (pv 0) (pa_cons pe_int pa_nil))) pa_nil)) pa_nil)))) pa_nil))))))))))))), ?_⟩
  refine r_start (σ' := [some (.ref a), none, none, none, none, none]) rfl ?_
  walk_at "rd"
  refine ⟨a, ns, 1, rfl, by walk_at "sq", by decide, ?_⟩
  walk_at "rd"
  refine ⟨a, ns, 1, rfl, by walk_at "sq", by decide, ?_⟩
  generalize cell ns (Int.toNat 1) = c1
  have hn1 : 1 ≤ 1 + c1 % 60 := by omega
  have hn2 : 1 + c1 % 60 ≤ 60 := by omega
  generalize hn : 1 + c1 % 60 = n at *
  walk_at "rd"
  have hb : St? n (c1 / 60 % n) := ⟨Int.emod_nonneg _ (by omega), Int.emod_lt_of_pos _ (by omega)⟩
  generalize c1 / 60 % n = b at *
  refine ⟨a, ns, 2, rfl, by walk_at "sq", by decide, ?_⟩
  generalize cell ns (Int.toNat 2) = bits
  walk_at "rd"
  refine r_new (Nat.le_of_ble_eq_true rfl) (fun L hL => ?_)
  walk_at "rd"
  refine r_forR (n := n) (fun i σ H' => ∃ (es : List Int) (z : Int) (x5 : Option V), σ = [some (.ref a), some (.int n), some (.int b), some (.int z), some (.ref L), x5] ∧ Gro K H L (es.map PyData.int) H' ∧ (∀ e ∈ es, St? n e) ∧ es.length ≤ i) (fun Q h => ⟨_, rfl, h⟩) (by omega) (by omega)
    ⟨[], bits, none, rfl, Gro.new hL, (fun _ h => nomatch h), Nat.le_refl _⟩ (fun i σ H' hi p => ?_) (fun σ H' p => ?_)
  · obtain ⟨es, z, x5, rfl, g, he, hl⟩ := p
    have hvs : ∃ vs, SqL K H' L vs := ⟨_, SqL.of g.h.choose_spec.1⟩
    obtain ⟨vs, hvs⟩ := hvs
    walk_at "rd"
    refine r_cut (fun σ H' => ∃ (es : List Int), σ = [some (.ref a), some (.int n), some (.int b), some (.int z), some (.ref L), some (.int (i : Int))] ∧ Gro K H L (es.map PyData.int) H' ∧ (∀ e ∈ es, St? n e) ∧ es.length ≤ i + 1) ?_ ?_
    · walk_at "rd"
      refine r_both (fun h => ?_) (fun h => ?_)
      · walk_at "rd"
        refine g.app (.int _) rfl (by rw [List.length_map]; omega) (fun H3 g3 _ _ => ?_)
        refine ⟨es ++ [(i : Int)], rfl, by rw [List.map_append]; exact g3, fun e h => ?_, by rw [List.length_append, List.length_singleton]; omega⟩
        rcases List.mem_append.mp h with h | h
        · exact he e h
        · rw [List.mem_singleton.mp h]
          exact ⟨by omega, by omega⟩
      · walk_at "rd"
        exact ⟨es, rfl, g, he, by omega⟩
    · rintro σ' H3 ⟨es, rfl, g, he, hl⟩
      walk_at "rd"
      exact ⟨es, _, _, rfl, g, he, hl⟩
  · obtain ⟨es, z, x5, rfl, g, he, hl⟩ := p
    refine r_cut (fun σ H3 => ∃ (es : List Int) (L : Addr), σ = [some (.ref a), some (.int n), some (.int b), some (.int z), some (.ref L), x5] ∧ Same H H3 ∧ H3 L = some (.lst (es.map V.int)) ∧ (∀ e ∈ es, St? n e) ∧ es.length ≤ 61) ?_ ?_
    · obtain ⟨vs, h1, h2⟩ := g.h
      rw [dpAll_ints h2] at h1
      have hvs : SqL K H' L (es.map V.int) := SqL.of h1
      walk_at "rd"
      refine r_both (fun h => ?_) (fun h => ?_)
      · walk_at "rd"
        intro p hp
        obtain ⟨l1, e1, hl1, hi1⟩ := cutV_map V.int es none (some 1)
        rw [e1]
        have hl2 : l1.length ≤ 1 := by
          have q := congrArg List.length e1
          rw [List.length_map] at q
          rw [← q]
          unfold cutV
          rw [List.length_take]
          have q2 : HT.sIx (List.map V.int es).length (List.map V.int es).length (some 1) ≤ 1 := by
            rw [show (1 : Int) = ((1 : Nat) : Int) from rfl, HT.sIx_nat]
            omega
          omega
        have npL : L ≠ p := ne_of_none h1 hp
        refine ⟨L, p, _, _, rfl, rfl, by rw [upd_ne npL]; exact h1, upd_same, ?_, fun r hr => ?_⟩
        · rw [List.length_map, List.length_map]
          exact Nat.le_trans (m := 1000) (by omega) (by decide)
        · walk_at "rd"
          refine ⟨es ++ l1, r, rfl, (g.s.trans (same_up hp)).trans (same_up hr), by rw [List.map_append]; exact upd_same, fun e h => ?_, by rw [List.length_append]; omega⟩
          rcases List.mem_append.mp h with h | h
          · exact he e h
          · exact he e (hi1 e h)
      · walk_at "rd"
        exact ⟨es, L, rfl, g.s, h1, he, by omega⟩
    · rintro σ' H3 ⟨es, L, rfl, s3, h3, he, hl⟩
      walk_at "rd"
      refine ⟨a, ns, 0, rfl, by walk_at "sq", by decide, ?_⟩
      walk_at "rd"
      refine ⟨_, rfl, fun H4 p ss s4 hp hss hok h4 => ?_⟩
      walk_at "rd"
      refine ⟨a, p, ns, n, ss, rfl, by walk_at "sq", hl63, hn1, by omega, SqL.of h4, hss, hok, fun H5 l qs ms s5 hl0 h5 hd hm hml => ?_⟩
      walk_at "rd"
      refine r_new (Nat.le_of_ble_eq_true rfl) (fun t ht => ?_)
      have s6 : Same H5 (upd H5 t (.tup [.int n, .int b, .ref L, .ref l])) := same_up ht
      refine q _ (.ref t) ⟨n, b, es, ms⟩ (s3.trans (s4.trans (s5.trans s6))) ?_ hn1 (show n ≤ 100 by omega) hb he (show es.length ≤ 1000 by omega) hm hml
      exact McAt.dp (a := t) (e := L) (l := l) (qs := qs) ⟨rfl, SqT.of upd_same, SqL.of (s6 _ _ (s5 _ _ (s4 _ _ h3))), SqL.of (s6 _ _ h5), dpAll_same s6 hd⟩
-- _law_alike
abbrev s__law_alike : Stmt := top 16
abbrev N__law_alike : List Str := ["_law_found", "_law_due", "_law_move", "_law_state"]
theorem sc__law_alike : FnScope N__law_alike ["_law_found", "_law_due"] (defScope s__law_alike) := ⟨rfl, rfl, rfl, by decide +kernel, rfl, by decide +kernel, by decide +kernel⟩

def strsOk (M : Mc) : Prop := ∀ m ∈ M.moves, PyData.strOk m.r = true ∧ PyData.strOk m.w = true
def spAlike (K : PySem.W.Frag) : Sp := fun vs H Q _ => ∃ (v u : V) (M : Mc), vs = [v, u] ∧ Dp K H v (mcD M) ∧ Dp K H u (mcD M) ∧ strsOk M ∧ M.ends.length ≤ 1000 ∧ M.moves.length ≤ 1000 ∧ ∀ H', Same H H' → Q (.bl true) H'
theorem ok__law_alike (F : FunAt K mg "_law_alike" s__law_alike) (T : Txt K mg) (c__law_whole : Cal P w K mg base CX0 1 "_law_whole" ["_law_found"] spWhole) : Cal P w K mg base CX0 2 "_law_alike" ["_law_found", "_law_due"] (spAlike K) := by
  refine F.cal sc__law_alike (fun _ _ _ _ _ _ us hl => match us, hl with | [_, _], _ => rfl) (fun vs H Q E h => by obtain ⟨_, _, _, rfl, _⟩ := h; rfl) (fun f cdv A outer s H vs Q E hr h => ?_)
  obtain ⟨v, u, M, rfl, hv, hu, hstr, hel, hml, q⟩ := h
  obtain ⟨a, e, l, qs, Av⟩ := dp_mc hv
  obtain ⟨a2, e2, l2, qs2, Au⟩ := dp_mc hu
  obtain ⟨rfl, ht, he, hl, hq⟩ := id Av
  obtain ⟨rfl, ht2, he2, hl2, hq2⟩ := id Au
  have hlen : V.int (qs.length : Int) = V.int (qs2.length : Int) := by rw [Av.len, Au.len]
  refine ⟨_, (pss_cons (ps_if (PW.pt (pw_or (pt_not (pt_val (pe_callB call_isi (by rfl) T.n_isinstance (by decide +kernel) (pa_cons (pv 0) (pa_cons (pe_bltn (v := .ty "tuple") (by rfl) T.n_tuple (by decide +kernel) rfl) pa_nil))))) (pw_or (pt_cmpR op_ne (pe_callB call_lenQ (by rfl) T.n_len PySem.boot_len (pa_cons (pv 0) pa_nil)) pe_int (nomark _)) (pw_or (pt_not (pt_val (pe_callC c__law_whole hr (by decide) (by rfl) (pa_cons (pe_ix ix_tup (pv 0) pe_int (fun _ _ => rfl)) pa_nil)))) (pw_or1 (pt_not (pt_val (pe_callC c__law_whole hr (by decide) (by rfl) (pa_cons (pe_ix ix_tup (pv 0) pe_int (fun _ _ => rfl)) pa_nil)))))))))
    (pss_one (ps_ret pe_bl))
    pss_nil)
  (pss_cons (ps_if (PW.pt (pw_or (pt_not (pt_val (pe_callB call_isi (by rfl) T.n_isinstance (by decide +kernel) (pa_cons (pe_ix ix_tup (pv 0) pe_int (fun _ _ => rfl)) (pa_cons (pe_bltn (v := .ty "list") (by rfl) T.n_list (by decide +kernel) rfl) pa_nil))))) (pw_or (pt_not (pt_val (pe_callB call_isi (by rfl) T.n_isinstance (by decide +kernel) (pa_cons (pe_ix ix_tup (pv 0) pe_int (fun _ _ => rfl)) (pa_cons (pe_bltn (v := .ty "list") (by rfl) T.n_list (by decide +kernel) rfl) pa_nil))))) (pw_or1 (pt_cmpR op_ne (pe_callB call_lenQ (by rfl) T.n_len PySem.boot_len (pa_cons (pe_ix ix_tup (pv 0) pe_int (fun _ _ => rfl)) pa_nil)) (pe_callB call_lenQ (by rfl) T.n_len PySem.boot_len (pa_cons (pe_ix ix_tup (pv 1) pe_int (fun _ _ => rfl)) pa_nil)) (nomark _))))))
    (pss_one (ps_ret pe_bl))
    pss_nil)
  (pss_cons (ps_if (pt_cmpR (op_neD hr.units) (pe_lc (own := [("_law_state", 3)]) (g := gName 3) rfl sc__law_alike.nd (pi_list (pe_ix ix_tup (pv 0) pe_int (fun _ _ => rfl))) (blkOk_by (N := N__law_alike) (sc := defScope s__law_alike) (by decide +kernel)) (fun _ _ _ _ _ => (pg_name (i := 3) sc__law_alike.nd rfl (Or.inl rfl))) (fun _ _ _ _ _ => pts_one (pt_not (pt_val (pe_callC c__law_whole hr (by decide) (by rfl) (pa_cons (pv 3) pa_nil))))) (fun _ _ _ _ _ => (pv 3))) (pe_lst pa_nil) (nomark _))
    (pss_one (ps_ret pe_bl))
    pss_nil)
  (pss_cons (ps_for PassesOwn.never rfl (pi_list (pe_ix ix_tup (pv 0) pe_int (fun _ _ => rfl))) (pg_name (i := 2) sc__law_alike.nd rfl (Or.inl rfl))
    (pss_cons (ps_if (PW.pt (pw_or (pt_not (pt_val (pe_callB call_isi (by rfl) T.n_isinstance (by decide +kernel) (pa_cons (pv 2) (pa_cons (pe_bltn (v := .ty "tuple") (by rfl) T.n_tuple (by decide +kernel) rfl) pa_nil))))) (pw_or (pt_cmpR op_ne (pe_callB call_lenQ (by rfl) T.n_len PySem.boot_len (pa_cons (pv 2) pa_nil)) pe_int (nomark _)) (pw_or (pt_not (pt_val (pe_callC c__law_whole hr (by decide) (by rfl) (pa_cons (pe_ix ix_tup (pv 2) pe_int (fun _ _ => rfl)) pa_nil)))) (pw_or1 (pt_not (pt_val (pe_callC c__law_whole hr (by decide) (by rfl) (pa_cons (pe_ix ix_tup (pv 2) pe_int (fun _ _ => rfl)) pa_nil)))))))))
    (pss_one (ps_ret pe_bl))
    pss_nil)
  (pss_one (ps_if (PW.pt (pw_or (pt_not (pt_val (pe_callB call_isi (by rfl) T.n_isinstance (by decide +kernel) (pa_cons (pe_ix ix_tup (pv 2) pe_int (fun _ _ => rfl)) (pa_cons (pe_bltn (v := .ty "str") (by rfl) T.n_str (by decide +kernel) rfl) pa_nil))))) (pw_or1 (pt_not (pt_val (pe_callB call_isi (by rfl) T.n_isinstance (by decide +kernel) (pa_cons (pe_ix ix_tup (pv 2) pe_int (fun _ _ => rfl)) (pa_cons (pe_bltn (v := .ty "str") (by rfl) T.n_str (by decide +kernel) rfl) pa_nil))))))))
    (pss_one (ps_ret pe_bl))
    pss_nil))))
  (pss_one (ps_ret (pe_cmpR (op_eqD hr.units) (pv 0) (pv 1) (nomark _)))))))), ?_⟩
  refine r_start (σ' := [some (.ref a), some (.ref a2), none, none]) rfl ?_
  walk_at "rd"
  refine ⟨_, rfl, ?_⟩
  walk_at "rd"
  refine ⟨_, rfl, ?_⟩
  walk_at "rd"
  refine r_lcL (a := e) (xs := M.ends.map V.int) (σw := [some (.ref a), some (.ref a2), none, none]) (fun _ => none) rfl (fun R h => by walk_at "rd"; exact h) he (by rw [List.length_map]; omega) (fun i d h => nomatch h) (fun i x H' QY QN hx s1 hy hn => ?_) (fun H1 D acc s1 d0 hD hA => ?_)
  · rw [List.getElem?_map] at hx
    obtain ⟨z, _, rfl⟩ := Option.map_eq_some_iff.mp hx
    walk_at "rd"
    refine ⟨rfl, ?_⟩
    walk_at "rd"
    refine ⟨_, rfl, ?_⟩
    walk_at "rd"
    exact hn _ (Same.refl _) rfl
  · have ef : (List.range (M.ends.map V.int).length).filterMap (fun _ => (none : Option PyData)) = [] := by
      generalize List.range (M.ends.map V.int).length = l
      induction l with
      | nil => rfl
      | cons x r ih => exact ih
    rw [ef] at hA
    walk_at "rd"
    refine r_new (Nat.le_of_ble_eq_true rfl) (fun p hp => ?_)
    refine ⟨.list [], .list [], .lst (SqL.of (by rw [upd_ne (ne_of_none hD hp)]; exact hD)) (dpAll_same (same_up hp) hA), .lst (SqL.of upd_same) .nil, by decide +kernel, by decide +kernel, ?_⟩
    have s2 : Same H1 (upd H1 p (.lst [])) := same_up hp
    walk_at "rd"
    refine r_isnt (by decide +kernel) ?_
    walk_at "rd"
    refine r_forL (a := l) (xs := qs) (fun i σ H' => H' = upd H1 p (.lst []) ∧ ∃ x, σ = [some (.ref a), some (.ref a2), x, none]) (fun R h => by walk_at "rd"; exact h) (by walk_at "sq") ⟨rfl, none, rfl⟩ (fun _ _ _ _ p => by rw [p.1]; exact same_sqL (s1.trans s2) hl) (fun i x σ H' hx p => ?_) (fun σ H' p => ?_)
    · obtain ⟨rfl, x0, rfl⟩ := p
      obtain ⟨m, qa, hm, rfl, hs⟩ := (Av.same (s1.trans s2)).mv hx
      walk_at "rd"
      refine ⟨_, rfl, ?_⟩
      walk_at "rd"
      refine ⟨_, rfl, ?_⟩
      walk_at "rd"
      exact ⟨rfl, _, rfl⟩
    · obtain ⟨rfl, x0, rfl⟩ := p
      walk_at "rd"
      refine ⟨mcD M, mcD M, dp_same (s1.trans s2) hv, dp_same (s1.trans s2) hu, shaped_mc M hstr, shaped_mc M hstr, ?_⟩
      rw [eqv_mc M hstr]
      exact q _ (s1.trans s2)
end
/-! ### the law -/
theorem Mv.turn_turn (m : Mv) : m.turn.turn = m := rfl
theorem Mc.turn_turn (M : Mc) : M.turn.turn = M := by
  obtain ⟨n, b, e, l⟩ := M
  unfold Mc.turn
  have h : (l.map Mv.turn).map Mv.turn = l := by
    rw [List.map_map]
    exact List.map_id l
  rw [h]
theorem Mc.Ok.turn {M : Mc} (h : M.Ok) : M.turn.Ok := by
  obtain ⟨n1, n2, b, e, el, ml, s, g, r, w⟩ := h
  have f : ∀ m ∈ M.turn.moves, ∃ m0 ∈ M.moves, m = m0.turn := fun m hm => by
    obtain ⟨m0, h0, rfl⟩ := List.mem_map.mp hm
    exact ⟨m0, h0, rfl⟩
  refine ⟨n1, n2, b, e, el, by show (M.moves.map Mv.turn).length ≤ 1000; rw [List.length_map]; exact ml, fun m hm => ?_, fun m hm => ?_, fun m hm => ?_, fun m hm => ?_⟩
  · obtain ⟨m0, h0, rfl⟩ := f m hm
    exact s m0 h0
  · obtain ⟨m0, h0, rfl⟩ := f m hm
    exact g m0 h0
  · obtain ⟨m0, h0, rfl⟩ := f m hm
    exact w m0 h0
  · obtain ⟨m0, h0, rfl⟩ := f m hm
    exact r m0 h0
theorem strsOk.turn {M : Mc} (h : strsOk M) : strsOk M.turn := fun m hm => by
  obtain ⟨m0, h0, rfl⟩ := List.mem_map.mp hm
  exact ⟨(h m0 h0).2, (h m0 h0).1⟩
section
variable {P : Program} {w : World} {K : PySem.W.Frag} {mg : Str → Option Value} {base : Heap}
-- law
abbrev s_law : Stmt := top 17
abbrev N_law : List Str := ["_law_script", "_law_machine_here", "_law_handed", "_law_due", "_law_found", "_law_move"]
theorem sc_law : FnScope N_law ["_law_script"] (defScope s_law) := ⟨rfl, rfl, rfl, by decide +kernel, rfl, by decide +kernel, by decide +kernel⟩

def spLaw (K : PySem.W.Frag) : Sp := fun vs H Q _ => ∃ (a : Addr) (ns : List Int), vs = [.ref a] ∧ SqL K H a (ns.map V.int) ∧ ns.length ≤ 63 ∧ ∀ H', Q (.bl true) H'
theorem ok_law {f : Addr} {fd : FuncData} (F : Fun K "law" "law" s_law f fd) (T : Txt K mg) (c__law_machine : Cal P w K mg base CX0 3 "_law_machine" ["_law_script"] (spMachine K)) (c_turned : Cal P w K mg base CX0 3 "turned" ["machine"] (spTurned K))
    (c__law_alike : Cal P w K mg base CX0 2 "_law_alike" ["_law_found", "_law_due"] (spAlike K)) : FnOk P w K mg base CX0 4 f fd ["_law_script"] (spLaw K) := by
  refine F.ok sc_law (fun vs H Q E h => by obtain ⟨_, _, rfl, _⟩ := h; rfl) (fun cdv A outer s H vs Q E hr h => ?_)
  obtain ⟨a0, ns, rfl, hs, hl63, q⟩ := h
  refine ⟨_, (pss_cons (ps_set (i := 1) sc_law.nd rfl (Or.inl rfl) (pe_callC c__law_machine hr (by decide) (by rfl) (pa_cons (pv 0) pa_nil)))
  (pss_cons (ps_set (i := 2) sc_law.nd rfl (Or.inl rfl) (pe_tup (pa_cons (pe_ix ix_tup (pv 1) pe_int (fun _ _ => rfl)) (pa_cons (pe_ix ix_tup (pv 1) pe_int (fun _ _ => rfl)) (pa_cons (pe_callTy call_list_of (by rfl) T.n_list (by decide +kernel) (pa_cons (pe_ix ix_tup (pv 1) pe_int (fun _ _ => rfl)) pa_nil)) (pa_cons (pe_callTy call_list_of (by rfl) T.n_list (by decide +kernel) (pa_cons (pe_ix ix_tup (pv 1) pe_int (fun _ _ => rfl)) pa_nil)) pa_nil))))))
  (pss_cons (ps_set (i := 3) sc_law.nd rfl (Or.inl rfl) (pe_tup (pa_cons (pe_ix ix_tup (pv 1) pe_int (fun _ _ => rfl)) (pa_cons (pe_ix ix_tup (pv 1) pe_int (fun _ _ => rfl)) (pa_cons (pe_ix ix_tup (pv 1) pe_int (fun _ _ => rfl)) (pa_cons (pe_lc (own := [("_law_move", 5)]) (g := gName 5) (tt := tYes) (te := (tTup (tCons (tOp (rIxT K) (tVar 5) (tC _)) (tCons (tOp (rIxT K) (tVar 5) (tC _)) (tCons (tOp (rIxT K) (tVar 5) (tC _)) (tCons (tOp (rIxT K) (tVar 5) (tC _)) tNil)))))) rfl sc_law.nd (pi_list (pe_ix ix_tup (pv 1) pe_int (fun _ _ => rfl))) (blkOk_by (N := N_law) (sc := defScope s_law) (by decide +kernel)) (fun _ _ _ _ _ => (pg_name (i := 5) sc_law.nd rfl (Or.inl rfl))) (fun _ _ _ _ _ => pts_nil) (fun _ _ _ _ _ => (pe_tup (pa_cons (pe_ix ix_tup (pv 5) pe_int (fun _ _ => rfl)) (pa_cons (pe_ix ix_tup (pv 5) pe_int (fun _ _ => rfl)) (pa_cons (pe_ix ix_tup (pv 5) pe_int (fun _ _ => rfl)) (pa_cons (pe_ix ix_tup (pv 5) pe_int (fun _ _ => rfl)) pa_nil))))))) pa_nil))))))
  (pss_cons (ps_set (i := 4) sc_law.nd rfl (Or.inl rfl) (pe_callC c_turned hr (by decide) (by rfl) (pa_cons (pv 2) pa_nil)))
  (pss_cons (ps_if (PW.pt (pw_or (pt_not (pt_val (pe_callC c__law_alike hr (by decide) (by rfl) (pa_cons (pv 4) (pa_cons (pv 3) pa_nil))))) (pw_or (pt_cmpR (op_neD hr.units) (pv 2) (pv 1) (nomark _)) (pw_or1 (pt_not (pt_val (pe_callC c__law_alike hr (by decide) (by rfl) (pa_cons (pe_callC c_turned hr (by decide) (by rfl) (pa_cons (pv 4) pa_nil)) (pa_cons (pv 1) pa_nil)))))))))
    (pss_one (ps_ret pe_bl))
    pss_nil)
  (pss_cons (ps_expr (pe_bm PySem.F.plainAttrs_list PySem.F.slot_list_append PySem.F.type_list_append mt_append (pe_ix ix_tup (pv 4) pe_int (fun _ _ => rfl)) (pa_cons pe_int pa_nil)))
  (pss_cons (ps_expr (pe_bm0 PySem.F.plainAttrs_list PySem.F.slot_list_clear PySem.F.type_list_clear mt_clear (pe_ix ix_tup (pv 4) pe_int (fun _ _ => rfl))))
  (pss_one (ps_ret (pe_and (pe_cmpR (op_eqD hr.units) (pv 2) (pv 1) (nomark _)) (pe_one (pe_callC c__law_alike hr (by decide) (by rfl) (pa_cons (pe_callC c_turned hr (by decide) (by rfl) (pa_cons (pv 2) pa_nil)) (pa_cons (pv 3) pa_nil)))))))))))))), ?_⟩
  refine r_start (σ' := [some (.ref a0), none, none, none, none, none]) rfl ?_
  walk_at "rd"
  refine ⟨a0, ns, rfl, hs, hl63, fun H1 v M s1 hv hn1 hn2 hb he hel hm hml => ?_⟩
  have ok : M.Ok := ⟨hn1, hn2, hb, he, hel, by omega, fun m h => (hm m h).s, fun m h => (hm m h).g, fun m h => (hm m h).r.len, fun m h => (hm m h).w.len⟩
  have hstr : strsOk M := fun m h => ⟨(hm m h).r.ok, (hm m h).w.ok⟩
  obtain ⟨a, e, l, qs, Av⟩ := dp_mc hv
  obtain ⟨rfl, ht, he1, hl1, hq⟩ := id Av
  walk_at "rd"
  intro e2 he2
  walk_at "rd"
  intro l2 hl2
  walk_at "rd"
  refine r_new (Nat.le_of_ble_eq_true rfl) (fun t2 ht2 => ?_)
  have s2 : Same H1 (upd H1 e2 (.lst (M.ends.map V.int))) := same_up he2
  have s3 : Same (upd H1 e2 (.lst (M.ends.map V.int))) (upd (upd H1 e2 (.lst (M.ends.map V.int))) l2 (.lst qs)) := same_up hl2
  have s4 : Same (upd (upd H1 e2 (.lst (M.ends.map V.int))) l2 (.lst qs)) (upd (upd (upd H1 e2 (.lst (M.ends.map V.int))) l2 (.lst qs)) t2 (.tup [.int M.n, .int M.b, .ref e2, .ref l2])) := same_up ht2
  have s14 := s2.trans (s3.trans s4)
  have Ah : McAt K (upd (upd (upd H1 e2 (.lst (M.ends.map V.int))) l2 (.lst qs)) t2 (.tup [.int M.n, .int M.b, .ref e2, .ref l2])) (.ref t2) M t2 e2 l2 qs :=
    ⟨rfl, SqT.of upd_same, SqL.of (s4 _ _ (s3 _ _ upd_same)), SqL.of (s4 _ _ upd_same), dpAll_same s14 hq⟩
  generalize upd (upd (upd H1 e2 (.lst (M.ends.map V.int))) l2 (.lst qs)) t2 (.tup [.int M.n, .int M.b, .ref e2, .ref l2]) = H2 at s14 Ah ⊢
  have Av2 := Av.same s14
  obtain ⟨_, ht', he', hl', hq'⟩ := id Av2
  walk_at "rd"
  refine r_lcL (a := l) (xs := qs) (σw := [some (.ref a0), some (.ref a), some (.ref t2), none, none, none]) (fun i => M.moves[i]?.map fun m => mvD m.turn) rfl (fun R h => by walk_at "rd"; exact h) hl' (by rw [Av.len]; omega) (fun i d h => ?_) (fun i x H' QY QN hx s1 hy hn => ?_) (fun H3 D acc s5 d0 hD hA => ?_)
  · obtain ⟨m, _, rfl⟩ := Option.map_eq_some_iff.mp h
    rfl
  · obtain ⟨m, qa, hm, rfl, hs⟩ := (Av2.same s1).mv hx
    walk_at "rd"
    refine ⟨rfl, ?_⟩
    walk_at "rd"
    refine r_new (Nat.le_of_ble_eq_true rfl) (fun p hp => ?_)
    exact hy _ _ _ (same_up hp) (by rw [hm]; rfl) (mv_dp (m := m.turn) (SqT.of upd_same))
  rw [range_fm_all M.moves (fun m => mvD m.turn) Av.len] at hA
  have hA : DpAll K H3 acc (M.turn.moves.map mvD) := by
    rw [show M.turn.moves.map mvD = M.moves.map (fun m => mvD m.turn) from List.map_map]
    exact hA
  walk_at "rd"
  refine r_new (Nat.le_of_ble_eq_true rfl) (fun t3 ht3 => ?_)
  have s6 : Same H3 (upd H3 t3 (.tup [.int M.n, .int M.b, .ref e, .ref D])) := same_up ht3
  have Ad : McAt K (upd H3 t3 (.tup [.int M.n, .int M.b, .ref e, .ref D])) (.ref t3) M.turn t3 e D acc :=
    ⟨rfl, SqT.of upd_same, same_sqL (s5.trans s6) he', SqL.of (s6 _ _ hD), dpAll_same s6 hA⟩
  have Ah3 := Ah.same (s5.trans s6)
  have Av3 := Av2.same (s5.trans s6)
  generalize upd H3 t3 (.tup [.int M.n, .int M.b, .ref e, .ref D]) = H4 at Ad Ah3 Av3 ⊢
  have hml2 : M.turn.moves.length ≤ 1000 := by show (M.moves.map Mv.turn).length ≤ 1000; rw [List.length_map]; omega
  -- turned(handed)
  walk_at "rd"
  refine ⟨_, M, rfl, Ah3.dp, ok, fun H5 t5 e5 l5 qs5 s7 ne5 nl5 nel h5t h5e h5l h5q => ?_⟩
  have Af : McAt K H5 (.ref t5) M.turn t5 e5 l5 qs5 := ⟨rfl, SqT.of h5t, SqL.of h5e, SqL.of h5l, h5q⟩
  walk_at "rd"
  refine ⟨_, _, M.turn, rfl, Af.dp, (Ad.same s7).dp, hstr.turn, hel, hml2, fun H6 s8 => ?_⟩
  walk_at "rd"
  refine ⟨mcD M, mcD M, (Ah3.same (s7.trans s8)).dp, (Av3.same (s7.trans s8)).dp, shaped_mc M hstr, shaped_mc M hstr, ?_⟩
  rw [eqv_mc M hstr]
  walk_at "rd"
  refine ⟨_, M.turn, rfl, (Af.same s8).dp, ok.turn, fun H7 t7 e7 l7 qs7 s9 ne7 nl7 _ h7t h7e h7l h7q => ?_⟩
  have Ag : McAt K H7 (.ref t7) M.turn.turn t7 e7 l7 qs7 := ⟨rfl, SqT.of h7t, SqL.of h7e, SqL.of h7l, h7q⟩
  have dg := Ag.dp
  rw [Mc.turn_turn] at dg
  walk_at "rd"
  refine ⟨_, _, M, rfl, dg, (Av3.same (s7.trans (s8.trans s9))).dp, hstr, hel, by omega, fun H8 s10 => ?_⟩
  have s58 := s8.trans (s9.trans s10)
  have h8t := s58 _ _ h5t
  have h8e := s58 _ _ h5e
  have h8l := s58 _ _ h5l
  have q8t : SqT K H8 t5 [.int M.n, .int M.b, .ref e5, .ref l5] := SqT.of h8t
  have q8e : SqL K H8 e5 (M.ends.map V.int) := SqL.of h8e
  walk_at "rd"
  refine r_app h8e (by rw [List.length_map]; exact Nat.lt_of_le_of_lt hel (by decide)) ?_
  have nte : t5 ≠ e5 := ne_of h8t h8e (by intro z; cases z)
  have q9t : SqT K (upd H8 e5 (.lst (M.ends.map V.int ++ [.int 0]))) t5 [.int M.n, .int M.b, .ref e5, .ref l5] := SqT.of (by rw [upd_ne nte]; exact h8t)
  have h9l : (upd H8 e5 (.lst (M.ends.map V.int ++ [.int 0]))) l5 = some (.lst qs5) := by rw [upd_ne (Ne.symm nel)]; exact h8l
  have q9l : SqL K (upd H8 e5 (.lst (M.ends.map V.int ++ [.int 0]))) l5 qs5 := SqL.of h9l
  walk_at "rd"
  refine r_clear h9l ?_
  have s410 : Same H4 (upd (upd H8 e5 (.lst (M.ends.map V.int ++ [.int 0]))) l5 (.lst [])) := same_mut (same_mut (s7.trans s58) ne5) nl5
  have Ah4 := Ah3.same s410
  have Av4 := Av3.same s410
  have Ad4 := Ad.same s410
  generalize upd (upd H8 e5 (.lst (M.ends.map V.int ++ [.int 0]))) l5 (.lst []) = H10 at Ah4 Av4 Ad4 ⊢
  walk_at "rd"
  refine ⟨mcD M, mcD M, Ah4.dp, Av4.dp, shaped_mc M hstr, shaped_mc M hstr, ?_⟩
  rw [eqv_mc M hstr]
  walk_at "rd"
  refine ⟨_, M, rfl, Ah4.dp, ok, fun H11 t11 e11 l11 qs11 s11 _ _ _ h11t h11e h11l h11q => ?_⟩
  have Ai : McAt K H11 (.ref t11) M.turn t11 e11 l11 qs11 := ⟨rfl, SqT.of h11t, SqL.of h11e, SqL.of h11l, h11q⟩
  walk_at "rd"
  refine ⟨_, _, M.turn, rfl, Ai.dp, (Ad4.same s11).dp, hstr.turn, hel, hml2, fun H12 s12 => ?_⟩
  exact q _
end
end Tw

namespace Tw
open PySem L2
theorem all_mk {lw : PySem.W.OpenLaw} {w : World} {K : PySem.W.Frag} {h : Heap} {mg : Str → Option Value} {fa : Addr} (X : K.In h) (G : h.Ns mainGlobals mg) (hfa : mg "law" = some (.ref fa))
    {f0 f1 f2 f3 f4 f5 f6 f7 f8 f9 f10 : Addr}
    {od0 an0 od1 an1 od2 an2 od3 an3 od4 an4 od5 an5 od6 an6 od7 an7 od8 an8 od9 an9 od10 an10 : Option Addr} {sl0 sl1 sl2 sl3 sl4 sl5 sl6 sl7 sl8 sl9 sl10 : Array (Option Value)} {oc0 kV0 dc0 pm0 cd0 ct0 oc1 kV1 dc1 pm1 cd1 ct1 oc2 kV2 dc2 pm2 cd2 ct2 oc3 kV3 dc3 pm3 cd3 ct3 oc4 kV4 dc4 pm4 cd4 ct4 oc5 kV5 dc5 pm5 cd5 ct5 oc6 kV6 dc6 pm6 cd6 ct6 oc7 kV7 dc7 pm7 cd7 ct7 oc8 kV8 dc8 pm8 cd8 ct8 oc9 kV9 dc9 pm9 cd9 ct9 oc10 kV10 dc10 pm10 cd10 ct10 : Value}
    {t_MOST_STATES : Tok}
    {t_MOST_MOVES : Tok}
    (a0 : PySem.W.nsIn K mainGlobals "check_state" = some (some (.ref f0))) (l0 : K.lookup f0 = some ⟨oc0, od0, .func (PySem.W.fnOf "check_state" "check_state" (defArgs s_check_state) (defBody s_check_state) (defScope s_check_state) .none kV0 dc0 pm0 an0 cd0 ct0), sl0⟩) (c0 : PySem.W.codeIn K cd0 "check_state" = true) (k0 : PySem.W.keepIn K (.ref f0) = true)
    (a1 : PySem.W.nsIn K mainGlobals "check_sign" = some (some (.ref f1))) (l1 : K.lookup f1 = some ⟨oc1, od1, .func (PySem.W.fnOf "check_sign" "check_sign" (defArgs s_check_sign) (defBody s_check_sign) (defScope s_check_sign) .none kV1 dc1 pm1 an1 cd1 ct1), sl1⟩) (c1 : PySem.W.codeIn K cd1 "check_sign" = true) (k1 : PySem.W.keepIn K (.ref f1) = true)
    (a2 : PySem.W.nsIn K mainGlobals "check_machine" = some (some (.ref f2))) (l2 : K.lookup f2 = some ⟨oc2, od2, .func (PySem.W.fnOf "check_machine" "check_machine" (defArgs s_check_machine) (defBody s_check_machine) (defScope s_check_machine) .none kV2 dc2 pm2 an2 cd2 ct2), sl2⟩) (c2 : PySem.W.codeIn K cd2 "check_machine" = true) (k2 : PySem.W.keepIn K (.ref f2) = true)
    (a3 : PySem.W.nsIn K mainGlobals "turned" = some (some (.ref f3))) (l3 : K.lookup f3 = some ⟨oc3, od3, .func (PySem.W.fnOf "turned" "turned" (defArgs s_turned) (defBody s_turned) (defScope s_turned) .none kV3 dc3 pm3 an3 cd3 ct3), sl3⟩) (c3 : PySem.W.codeIn K cd3 "turned" = true) (k3 : PySem.W.keepIn K (.ref f3) = true)
    (a4 : PySem.W.nsIn K mainGlobals "_law_whole" = some (some (.ref f4))) (l4 : K.lookup f4 = some ⟨oc4, od4, .func (PySem.W.fnOf "_law_whole" "_law_whole" (defArgs s__law_whole) (defBody s__law_whole) (defScope s__law_whole) .none kV4 dc4 pm4 an4 cd4 ct4), sl4⟩) (c4 : PySem.W.codeIn K cd4 "_law_whole" = true) (k4 : PySem.W.keepIn K (.ref f4) = true)
    (a5 : PySem.W.nsIn K mainGlobals "_law_cell" = some (some (.ref f5))) (l5 : K.lookup f5 = some ⟨oc5, od5, .func (PySem.W.fnOf "_law_cell" "_law_cell" (defArgs s__law_cell) (defBody s__law_cell) (defScope s__law_cell) .none kV5 dc5 pm5 an5 cd5 ct5), sl5⟩) (c5 : PySem.W.codeIn K cd5 "_law_cell" = true) (k5 : PySem.W.keepIn K (.ref f5) = true)
    (a6 : PySem.W.nsIn K mainGlobals "_law_signs" = some (some (.ref f6))) (l6 : K.lookup f6 = some ⟨oc6, od6, .func (PySem.W.fnOf "_law_signs" "_law_signs" (defArgs s__law_signs) (defBody s__law_signs) (defScope s__law_signs) .none kV6 dc6 pm6 an6 cd6 ct6), sl6⟩) (c6 : PySem.W.codeIn K cd6 "_law_signs" = true) (k6 : PySem.W.keepIn K (.ref f6) = true)
    (a7 : PySem.W.nsIn K mainGlobals "_law_moves" = some (some (.ref f7))) (l7 : K.lookup f7 = some ⟨oc7, od7, .func (PySem.W.fnOf "_law_moves" "_law_moves" (defArgs s__law_moves) (defBody s__law_moves) (defScope s__law_moves) .none kV7 dc7 pm7 an7 cd7 ct7), sl7⟩) (c7 : PySem.W.codeIn K cd7 "_law_moves" = true) (k7 : PySem.W.keepIn K (.ref f7) = true)
    (a8 : PySem.W.nsIn K mainGlobals "_law_machine" = some (some (.ref f8))) (l8 : K.lookup f8 = some ⟨oc8, od8, .func (PySem.W.fnOf "_law_machine" "_law_machine" (defArgs s__law_machine) (defBody s__law_machine) (defScope s__law_machine) .none kV8 dc8 pm8 an8 cd8 ct8), sl8⟩) (c8 : PySem.W.codeIn K cd8 "_law_machine" = true) (k8 : PySem.W.keepIn K (.ref f8) = true)
    (a9 : PySem.W.nsIn K mainGlobals "_law_alike" = some (some (.ref f9))) (l9 : K.lookup f9 = some ⟨oc9, od9, .func (PySem.W.fnOf "_law_alike" "_law_alike" (defArgs s__law_alike) (defBody s__law_alike) (defScope s__law_alike) .none kV9 dc9 pm9 an9 cd9 ct9), sl9⟩) (c9 : PySem.W.codeIn K cd9 "_law_alike" = true) (k9 : PySem.W.keepIn K (.ref f9) = true)
    (a10 : PySem.W.nsIn K mainGlobals "law" = some (some (.ref f10))) (l10 : K.lookup f10 = some ⟨oc10, od10, .func (PySem.W.fnOf "law" "law" (defArgs s_law) (defBody s_law) (defScope s_law) .none kV10 dc10 pm10 an10 cd10 ct10), sl10⟩) (c10 : PySem.W.codeIn K cd10 "law" = true) (k10 : PySem.W.keepIn K (.ref f10) = true)
    (u_MOST_STATES : PySem.W.nsIn K mainGlobals "MOST_STATES" = some (some (.int 100 t_MOST_STATES)))
    (u_MOST_MOVES : PySem.W.nsIn K mainGlobals "MOST_MOVES" = some (some (.int 1000 t_MOST_MOVES)))
    (z_len : PySem.W.nsIn K mainGlobals "len" = some none)
    (z_list : PySem.W.nsIn K mainGlobals "list" = some none)
    (z_range : PySem.W.nsIn K mainGlobals "range" = some none)
    (z_isinstance : PySem.W.nsIn K mainGlobals "isinstance" = some none)
    (z_int : PySem.W.nsIn K mainGlobals "int" = some none)
    (z_bool : PySem.W.nsIn K mainGlobals "bool" = some none)
    (z_tuple : PySem.W.nsIn K mainGlobals "tuple" = some none)
    (z_str : PySem.W.nsIn K mainGlobals "str" = some none)
    : ∃ fd : FuncData, (∀ (s : Shared) (u : Value), BindsTo s fd ⟨[u], []⟩ [("_law_script", u)]) ∧ ∀ base : Heap, K.In base → base.Ns mainGlobals mg → FnOk lw.prog w K mg base CX0 4 fa fd ["_law_script"] (spLaw K) := by
  have T : Txt K mg := { c_MOST_STATES := ⟨_, PySem.W.mg_of X G u_MOST_STATES⟩, c_MOST_MOVES := ⟨_, PySem.W.mg_of X G u_MOST_MOVES⟩, n_len := PySem.W.mg_none_of X G z_len, n_list := PySem.W.mg_none_of X G z_list, n_range := PySem.W.mg_none_of X G z_range, n_isinstance := PySem.W.mg_none_of X G z_isinstance, n_int := PySem.W.mg_none_of X G z_int, n_bool := PySem.W.mg_none_of X G z_bool, n_tuple := PySem.W.mg_none_of X G z_tuple, n_str := PySem.W.mg_none_of X G z_str }
  refine law_at (st := s_law) X G hfa a10 l10 c10 k10 (fun s u => .of_eq rfl) (fun base f fd F => ?_)
  have F_check_state : FunAt K mg "check_state" s_check_state := fun_at X G a0 l0 c0 k0
  have F_check_sign : FunAt K mg "check_sign" s_check_sign := fun_at X G a1 l1 c1 k1
  have F_check_machine : FunAt K mg "check_machine" s_check_machine := fun_at X G a2 l2 c2 k2
  have F_turned : FunAt K mg "turned" s_turned := fun_at X G a3 l3 c3 k3
  have F__law_whole : FunAt K mg "_law_whole" s__law_whole := fun_at X G a4 l4 c4 k4
  have F__law_cell : FunAt K mg "_law_cell" s__law_cell := fun_at X G a5 l5 c5 k5
  have F__law_signs : FunAt K mg "_law_signs" s__law_signs := fun_at X G a6 l6 c6 k6
  have F__law_moves : FunAt K mg "_law_moves" s__law_moves := fun_at X G a7 l7 c7 k7
  have F__law_machine : FunAt K mg "_law_machine" s__law_machine := fun_at X G a8 l8 c8 k8
  have F__law_alike : FunAt K mg "_law_alike" s__law_alike := fun_at X G a9 l9 c9 k9
  have C_check_state := ok_check_state (P := lw.prog) (w := w) (base := base) F_check_state 
  have C_check_sign := ok_check_sign (P := lw.prog) (w := w) (base := base) F_check_sign T
  have C_check_machine := ok_check_machine (P := lw.prog) (w := w) (base := base) F_check_machine T C_check_state C_check_sign
  have C_turned := ok_turned (P := lw.prog) (w := w) (base := base) F_turned T C_check_machine
  have C__law_whole := ok__law_whole (P := lw.prog) (w := w) (base := base) F__law_whole T
  have C__law_cell := ok__law_cell (P := lw.prog) (w := w) (base := base) F__law_cell T
  have C__law_signs := ok__law_signs (P := lw.prog) (w := w) (base := base) F__law_signs 
  have C__law_moves := ok__law_moves (P := lw.prog) (w := w) (base := base) F__law_moves T C__law_cell
  have C__law_machine := ok__law_machine (P := lw.prog) (w := w) (base := base) F__law_machine T C__law_cell C__law_signs C__law_moves
  have C__law_alike := ok__law_alike (P := lw.prog) (w := w) (base := base) F__law_alike T C__law_whole
  exact ok_law F T C__law_machine C_turned C__law_alike
end Tw
open PySem PySem.W PyProof.Rows in
set_option maxRecDepth 100000 in
set_option maxHeartbeats 0 in
theorem PySem.Challenge.cw_turnwriter_k01_turned_holds : PySem.Challenge.rw_turnwriter_k01_turned.Holds := by
  w_on; o_law; k_head; (case hw => w_witness2)
  k_fill
  refine L2.walk_of (l := PySem.Challenge.rw_turnwriter_k01_turned) (n := 63) (k := 4) (x := "_law_script") (CX := fun _ => L2.CX0) (sp := fun w => Tw.spLaw _) rfl (by decide) rfl ⟨rfl, by decide, by decide⟩ (fun w h Y => PySem.W.kIn_of Y) ?F (fun _ _ a ns hl _ hS => ⟨a, ns, rfl, hS, hl, fun _ => rfl⟩) (fun _ _ _ _ _ h => h)
  case F =>
    intro w mg fa h KX G hmg
    refine' Tw.all_mk KX G hmg ?a0 ?l0 ?c0 ?k0 ?a1 ?l1 ?c1 ?k1 ?a2 ?l2 ?c2 ?k2 ?a3 ?l3 ?c3 ?k3 ?a4 ?l4 ?c4 ?k4 ?a5 ?l5 ?c5 ?k5 ?a6 ?l6 ?c6 ?k6 ?a7 ?l7 ?c7 ?k7 ?a8 ?l8 ?c8 ?k8 ?a9 ?l9 ?c9 ?k9 ?a10 ?l10 ?c10 ?k10 ?u_MOST_STATES ?u_MOST_MOVES ?z_len ?z_list ?z_range ?z_isinstance ?z_int ?z_bool ?z_tuple ?z_str
    (case a0 => k_is)
    (case l0 => k_is)
    (case c0 => k_is)
    (case k0 => k_is)
    (case a1 => k_is)
    (case l1 => k_is)
    (case c1 => k_is)
    (case k1 => k_is)
    (case a2 => k_is)
    (case l2 => k_is)
    (case c2 => k_is)
    (case k2 => k_is)
    (case a3 => k_is)
    (case l3 => k_is)
    (case c3 => k_is)
    (case k3 => k_is)
    (case a4 => k_is)
    (case l4 => k_is)
    (case c4 => k_is)
    (case k4 => k_is)
    (case a5 => k_is)
    (case l5 => k_is)
    (case c5 => k_is)
    (case k5 => k_is)
    (case a6 => k_is)
    (case l6 => k_is)
    (case c6 => k_is)
    (case k6 => k_is)
    (case a7 => k_is)
    (case l7 => k_is)
    (case c7 => k_is)
    (case k7 => k_is)
    (case a8 => k_is)
    (case l8 => k_is)
    (case c8 => k_is)
    (case k8 => k_is)
    (case a9 => k_is)
    (case l9 => k_is)
    (case c9 => k_is)
    (case k9 => k_is)
    (case a10 => k_is)
    (case l10 => k_is)
    (case c10 => k_is)
    (case k10 => k_is)
    (case u_MOST_STATES => k_is)
    (case u_MOST_MOVES => k_is)
    (case z_len => k_is)
    (case z_list => k_is)
    (case z_range => k_is)
    (case z_isinstance => k_is)
    (case z_int => k_is)
    (case z_bool => k_is)
    (case z_tuple => k_is)
    (case z_str => k_is)

