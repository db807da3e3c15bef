import PyProof.Rows.All
import Wide.All
import OpenK.AllK
import Wide.FinOn
import HandS.ForMost
import HandS.ForExc
import HandS.IsInst
import HandS.Evl
import HandS.Style
import HandS.Conv
import HandS.ExcIs
import HandS.TryOnly
import HandS.Walk
import HandS.DictComp
import HandS.DictTup
import PyProof.Rows.SortShellAny
import KE.KDictPairs
import KE.KDictCopyH
import KE.SortData
import HandS.TupLen
import HandS.Deep
import PySem.Challenge.RW_turnwriter_k12_one_writes_later
set_option Elab.async false
set_option linter.all false
set_option maxRecDepth 100000
set_option maxHeartbeats 1000000
/-! General lemmas of my own: heaps, data, machines. -/
namespace Tw
open PySem L2

/-! ### heaps -/
section
variable {K : PySem.W.Frag} {H H' H1 H2 : Hp} {a p : Addr} {o u : HO} {xs : List V}
theorem same_up (h : H p = none) : Same H (upd H p o) := fun b x e => by
  rw [upd_ne (ne_of_none e h)]
  exact e
theorem same_mut (e : Same H H') (h : H p = none) : Same H (upd H' p o) := fun b x q => by
  rw [upd_ne (ne_of_none q h)]
  exact e _ _ q
theorem same_sqT (e : Same H H') (h : SqT K H a xs) : SqT K H' a xs := by
  rcases h with (h | ⟨o, h⟩) | h
  · exact .inl (.inl (e _ _ h))
  · exact .inl (.inr ⟨o, e _ _ h⟩)
  · exact .inr h
theorem same_sqL (e : Same H H') (h : SqL K H a xs) : SqL K H' a xs := e.seq h
/-- what may not change stands -/
def Keep (H H' : Hp) : Prop := (∀ b xs, H b = some (.tup xs) → H' b = some (.tup xs)) ∧ ∀ b o u, H b = some (.frz o (.tup u)) → H' b = some (.frz o (.tup u))
theorem Keep.refl (H : Hp) : Keep H H := ⟨fun _ _ h => h, fun _ _ _ h => h⟩
theorem Keep.trans (a : Keep H H1) (b : Keep H1 H2) : Keep H H2 := ⟨fun c xs h => b.1 _ _ (a.1 c xs h), fun c o u h => b.2 _ _ _ (a.2 c o u h)⟩
theorem keep_of (e : Same H H') : Keep H H' := ⟨fun b xs h => e _ _ h, fun b o u h => e _ _ h⟩
theorem keep_lst {ys : List V} (h : H p = some (.lst ys)) : Keep H (upd H p o) :=
  ⟨fun b xs e => by rw [upd_ne (ne_of e h (by intro z; cases z))]; exact e, fun b o u e => by rw [upd_ne (ne_of e h (by intro z; cases z))]; exact e⟩
theorem keep_sqT (e : Keep H H') (h : SqT K H a xs) : SqT K H' a xs := by
  rcases h with (h | ⟨o, h⟩) | h
  · exact .inl (.inl (e.1 _ _ h))
  · exact .inl (.inr ⟨o, e.2 _ _ _ h⟩)
  · exact .inr h
end

/-! ### data -/
section
variable {K : PySem.W.Frag} {H H' : Hp}
mutual
theorem dp_same (e : Same H H') : ∀ {v : V} {d : PyData}, Dp K H v d → Dp K H' v d
  | _, _, .non => .non
  | _, _, .bl b => .bl b
  | _, _, .int i => .int i
  | _, _, .str x => .str x
  | _, _, .lst s r => .lst (same_sqL e s) (dpAll_same e r)
  | _, _, .tup s r => .tup (same_sqT e s) (dpAll_same e r)
theorem dpAll_same (e : Same H H') : ∀ {vs : List V} {ds : List PyData}, DpAll K H vs ds → DpAll K H' vs ds
  | _, _, .nil => .nil
  | _, _, .cons x r => .cons (dp_same e x) (dpAll_same e r)
end
mutual
/-- data without lists -/
def hard : PyData → Bool
  | .none => true
  | .bool _ => true
  | .int _ => true
  | .str _ => true
  | .list _ => false
  | .tuple ds => hards ds
  | .dict _ => false
def hards : List PyData → Bool
  | [] => true
  | d :: ds => hard d && hards ds
end
mutual
theorem dp_keep (e : Keep H H') : ∀ {v : V} {d : PyData}, hard d = true → Dp K H v d → Dp K H' v d
  | _, _, _, .non => .non
  | _, _, _, .bl b => .bl b
  | _, _, _, .int i => .int i
  | _, _, _, .str x => .str x
  | _, _, h, .lst s r => by cases h
  | _, _, h, .tup s r => .tup (keep_sqT e s) (dpAll_keep e h r)
theorem dpAll_keep (e : Keep H H') : ∀ {vs : List V} {ds : List PyData}, hards ds = true → DpAll K H vs ds → DpAll K H' vs ds
  | _, _, _, .nil => .nil
  | _, _, h, .cons x r => by
    have h2 : hard _ = true ∧ hards _ = true := Bool.and_eq_true_iff.mp h
    exact .cons (dp_keep e h2.1 x) (dpAll_keep e h2.2 r)
end
theorem dpAll_app : ∀ {vs ws : List V} {ds es : List PyData}, DpAll K H vs ds → DpAll K H ws es → DpAll K H (vs ++ ws) (ds ++ es)
  | _, _, _, _, .nil, r => r
  | _, _, _, _, .cons x q, r => .cons x (dpAll_app q r)
theorem dpAll_one {v : V} {d : PyData} (h : Dp K H v d) : DpAll K H [v] [d] := .cons h .nil
theorem dpAll_len : ∀ {vs : List V} {ds : List PyData}, DpAll K H vs ds → vs.length = ds.length
  | _, _, .nil => rfl
  | _, _, .cons _ r => congrArg Nat.succ (dpAll_len r)
theorem dpAll_get : ∀ {vs : List V} {ds : List PyData} {i : Nat} {v : V}, DpAll K H vs ds → vs[i]? = some v → ∃ d, ds[i]? = some d ∧ Dp K H v d
  | _, _, _, _, .nil, h => by simp at h
  | _, _, 0, _, .cons x _, h => by
    simp at h
    subst h
    exact ⟨_, rfl, x⟩
  | _, _, i + 1, _, .cons _ r, h => by
    obtain ⟨d, e, q⟩ := dpAll_get (i := i) r (by simpa using h)
    exact ⟨d, by simpa using e, q⟩
theorem dp_int {v : V} {i : Int} (h : Dp K H v (.int i)) : v = .int i := by cases h; rfl
theorem dp_str {v : V} {x : Str} (h : Dp K H v (.str x)) : v = .str x := by cases h; rfl
theorem dp_lst {v : V} {ds : List PyData} (h : Dp K H v (.list ds)) : ∃ a xs, v = .ref a ∧ SqL K H a xs ∧ DpAll K H xs ds := by
  cases h with
  | lst s r => exact ⟨_, _, rfl, s, r⟩
theorem dp_tup {v : V} {ds : List PyData} (h : Dp K H v (.tuple ds)) : ∃ a xs, v = .ref a ∧ SqT K H a xs ∧ DpAll K H xs ds := by
  cases h with
  | tup s r => exact ⟨_, _, rfl, s, r⟩
theorem dpAll_ints : ∀ {l : List Int} {vs : List V}, DpAll K H vs (l.map .int) → vs = l.map V.int
  | [], _, .nil => rfl
  | i :: l, _, .cons x r => by
    rw [dp_int x, dpAll_ints r]
    rfl
theorem dpAll_of_ints : ∀ {l : List Int}, DpAll K H (l.map V.int) (l.map .int)
  | [] => .nil
  | i :: l => .cons (.int i) dpAll_of_ints
theorem dp_ints {v : V} {l : List Int} (h : Dp K H v (.list (l.map .int))) : ∃ a, v = .ref a ∧ SqL K H a (l.map V.int) := by
  obtain ⟨a, xs, e, s, r⟩ := dp_lst h
  rw [dpAll_ints r] at s
  exact ⟨a, e, s⟩
end

/-! ### types -/
section
variable {K : PySem.W.Frag} {H : Hp} {a : Addr} {xs : List V}
theorem ty_tup (h : SqT K H a xs) : TyX K H (.ref a) (.type "tuple") := by
  rcases h with (h | ⟨o, h⟩) | ⟨o, _, _, h, c, _⟩
  · exact .base (.tup h)
  · exact .fTuple h
  · exact .kTuple h c
theorem ty_lst (h : SqL K H a xs) : TyX K H (.ref a) (.type "list") := by
  rcases h with (h | ⟨o, h⟩) | ⟨o, _, _, h, c, _⟩
  · exact .base (.lst h)
  · exact .base (.frz h)
  · exact .kList h c
end

/-! ### machines -/
structure Mv where
  s : Int
  r : Str
  w : Str
  g : Int
structure Mc where
  n : Int
  b : Int
  ends : List Int
  moves : List Mv
def mvD (m : Mv) : PyData := .tuple [.int m.s, .str m.r, .str m.w, .int m.g]
def mcD (M : Mc) : PyData := .tuple [.int M.n, .int M.b, .list (M.ends.map .int), .list (M.moves.map mvD)]
theorem hard_mv (m : Mv) : hard (mvD m) = true := rfl
theorem hards_mv : ∀ ms : List Mv, hards (ms.map mvD) = true
  | [] => rfl
  | m :: ms => by
    show (hard (mvD m) && hards (ms.map mvD)) = true
    rw [hard_mv, hards_mv ms]
    rfl
/-- a state of a machine of so many -/
def St? (n i : Int) : Prop := 0 ≤ i ∧ i < n
structure Mc.Ok (M : Mc) : Prop where
  n1 : 1 ≤ M.n
  n2 : M.n ≤ 100
  b : St? M.n M.b
  e : ∀ i ∈ M.ends, St? M.n i
  el : M.ends.length ≤ 1000
  ml : M.moves.length ≤ 1000
  s : ∀ m ∈ M.moves, St? M.n m.s
  g : ∀ m ∈ M.moves, St? M.n m.g
  r : ∀ m ∈ M.moves, m.r.length ≤ 1
  w : ∀ m ∈ M.moves, m.w.length ≤ 1
section
variable {K : PySem.W.Frag} {H H' : Hp}
theorem dp_mv {v : V} {m : Mv} (h : Dp K H v (mvD m)) : ∃ a, v = .ref a ∧ SqT K H a [.int m.s, .str m.r, .str m.w, .int m.g] := by
  obtain ⟨a, xs, e, s, r⟩ := dp_tup h
  cases r with
  | cons r1 r =>
    cases r with
    | cons r2 r =>
      cases r with
      | cons r3 r =>
        cases r with
        | cons r4 r =>
          cases r
          rw [dp_int r1, dp_str r2, dp_str r3, dp_int r4] at s
          exact ⟨a, e, s⟩
theorem mv_dp {a : Addr} {m : Mv} (h : SqT K H a [.int m.s, .str m.r, .str m.w, .int m.g]) : Dp K H (.ref a) (mvD m) :=
  .tup h (.cons (.int _) (.cons (.str _) (.cons (.str _) (.cons (.int _) .nil))))
/-- a machine that stands: its tuple, its two lists -/
structure McAt (K : PySem.W.Frag) (H : Hp) (v : V) (M : Mc) (a e l : Addr) (qs : List V) : Prop where
  v : v = .ref a
  t : SqT K H a [.int M.n, .int M.b, .ref e, .ref l]
  e : SqL K H e (M.ends.map V.int)
  l : SqL K H l qs
  q : DpAll K H qs (M.moves.map mvD)
theorem dp_mc {v : V} {M : Mc} (h : Dp K H v (mcD M)) : ∃ a e l qs, McAt K H v M a e l qs := by
  obtain ⟨a, xs, e, s, r⟩ := dp_tup h
  cases r with
  | cons r1 r =>
    cases r with
    | cons r2 r =>
      cases r with
      | cons r3 r =>
        cases r with
        | cons r4 r =>
          cases r
          obtain ⟨e', rfl, s3⟩ := dp_ints r3
          obtain ⟨l, qs, rfl, s4, r4⟩ := dp_lst r4
          rw [dp_int r1, dp_int r2] at s
          exact ⟨a, e', l, qs, e, s, s3, s4, r4⟩
theorem McAt.dp {v : V} {M : Mc} {a e l : Addr} {qs : List V} (h : McAt K H v M a e l qs) : Dp K H v (mcD M) := by
  obtain ⟨rfl, t, e, l, q⟩ := h
  exact .tup t (.cons (.int _) (.cons (.int _) (.cons (.lst e dpAll_of_ints) (.cons (.lst l q) .nil))))
theorem McAt.same {v : V} {M : Mc} {a e l : Addr} {qs : List V} (h : McAt K H v M a e l qs) (k : Same H H') : McAt K H' v M a e l qs :=
  ⟨h.v, same_sqT k h.t, same_sqL k h.e, same_sqL k h.l, dpAll_same k h.q⟩
/-- the i-th move -/
theorem McAt.mv {v : V} {M : Mc} {a e l : Addr} {qs : List V} (h : McAt K H v M a e l qs) {i : Nat} {x : V} (g : qs[i]? = some x) :
    ∃ m q, M.moves[i]? = some m ∧ x = .ref q ∧ SqT K H q [.int m.s, .str m.r, .str m.w, .int m.g] := by
  obtain ⟨d, h1, h2⟩ := dpAll_get h.q g
  rw [List.getElem?_map] at h1
  cases hm : M.moves[i]? with
  | none =>
    rw [hm] at h1
    cases h1
  | some m =>
    rw [hm] at h1
    cases h1
    obtain ⟨q, e, s⟩ := dp_mv h2
    exact ⟨m, q, rfl, e, s⟩
theorem McAt.len {v : V} {M : Mc} {a e l : Addr} {qs : List V} (h : McAt K H v M a e l qs) : qs.length = M.moves.length := by
  rw [dpAll_len h.q, List.length_map]
end
/-! ### the data's shape, for == -/
theorem shape_mvs : ∀ ms : List Mv, (∀ m ∈ ms, PyData.strOk m.r = true ∧ PyData.strOk m.w = true) → PyData.canLayAll0 (ms.map mvD) = true ∧ PyData.depthAll (ms.map mvD) ≤ 1
  | [], _ => by simp [PyData.canLayAll0, PyData.depthAll]
  | m :: ms, h => by
    have ih := shape_mvs ms fun x hx => h x (List.mem_cons_of_mem _ hx)
    have hm := h m List.mem_cons_self
    constructor
    · simp [PyData.canLayAll0, PyData.canLay0, mvD, ih.1, hm.1, hm.2]
    · have h1 : PyData.depth (mvD m) = 1 := by simp [PyData.depth, PyData.depthAll, mvD]
      rw [List.map_cons, PyData.depthAll, h1]
      omega
theorem shape_ints : ∀ l : List Int, PyData.canLayAll0 (l.map PyData.int) = true ∧ PyData.depthAll (l.map PyData.int) = 0
  | [] => by simp [PyData.canLayAll0, PyData.depthAll]
  | m :: ms => by
    have ih := shape_ints ms
    constructor
    · simp [PyData.canLayAll0, PyData.canLay0, ih.1]
    · rw [List.map_cons, PyData.depthAll, ih.2, PyData.depth]
      omega
theorem shaped_mc (M : Mc) (h : ∀ m ∈ M.moves, PyData.strOk m.r = true ∧ PyData.strOk m.w = true) : SeqAt.shaped (mcD M) = true := by
  unfold SeqAt.shaped mcD
  rw [Bool.and_eq_true]
  constructor
  · simp [PyData.canLayAll0, PyData.canLay0, (shape_ints M.ends).1, (shape_mvs M.moves h).1]
  · refine decide_eq_true ?_
    have h1 := (shape_mvs M.moves h).2
    have h2 := (shape_ints M.ends).2
    simp only [PyData.depthAll, PyData.depth]
    omega
theorem eqv_mc (M : Mc) (h : ∀ m ∈ M.moves, PyData.strOk m.r = true ∧ PyData.strOk m.w = true) : PyData.eqv (mcD M) (mcD M) = true := SeqAt.eqv_refl _ (SeqAt.canLay_of_shaped (shaped_mc M h))
end Tw

/-! My own words for calls of defs; the readings' steps one by one, by the head. -/
namespace Tw
open PySem L2

/-! ### defs -/
/-- a def of the text stands under its name and keeps its promise -/
structure Cal (P : Program) (w : World) (K : PySem.W.Frag) (mg : Str → Option Value) (base : Heap) (CX : CXT) (k : Nat) (x : Str) (ps : List Str) (sp : Sp) : Prop where
  ex : ∃ (f : Addr) (fd : FuncData), FnOk P w K mg base CX k f fd ps sp ∧ mg x = some (.ref f) ∧ PySem.W.keepIn K (.ref f) = true ∧ Binds K fd ps []
/-- a def of the text stands under its name -/
structure FunAt (K : PySem.W.Frag) (mg : Str → Option Value) (x : Str) (st : Stmt) : Prop where
  ex : ∃ (f : Addr) (fd : FuncData), Fun K x x st f fd ∧ mg x = some (.ref f)
section
variable {P : Program} {w : World} {K : PySem.W.Frag} {mg : Str → Option Value} {base : Heap} {X : Cx} {CX : CXT} {k j : Nat} {x : Str} {ps N : List Str} {sp : Sp} {p pos : Pos} {e : Expr} {es : List Expr} {t : TA} {st : Stmt}
theorem Cal.imp {sp' : Sp} (c : Cal P w K mg base CX k x ps sp) (h : ∀ vs H Q E, sp' vs H Q E → sp vs H Q E) : Cal P w K mg base CX k x ps sp' := by
  obtain ⟨f, fd, F, a, b, d⟩ := c.ex
  exact ⟨f, fd, F.imp h, a, b, d⟩
theorem pe_callC (c : Cal X.prog X.w X.K X.mg X.base CX0 j x ps sp) (hr : Room k X.A) (hj : j ≤ k) (hg : Gl X x) (ha : PA X (e :: es) t) (hdb : (x == ("__debug__" : Str)) = false := by decide)
    (he : starEach (e :: es) X.env = (false, eval e X.env) :: starEach es X.env := by rfl) (hpl : (backTo pos (starEach es X.env)).any (·.1) = false := by rfl) :
    PE X (.Call (.Name x p) (e :: es) [] pos) (tCall sp [] E0 t) := by
  obtain ⟨f, fd, F, a, b, d⟩ := c.ex
  exact pe_call F (hr.mono hj) hg a b d .nil pass0 ha hdb he hpl
theorem pe_globI {i : Int} (hg : Gl X x) (hm : ∃ t, X.mg x = some (.int i t)) (hd : (x == ("__debug__" : Str)) = false := by decide) : PE X (.Name x pos) (tC (.int i)) := by
  obtain ⟨t, hm⟩ := hm
  exact pe_glob hg hm ⟨t, rfl⟩ hd
theorem FunAt.cal (F : FunAt K mg x st) (S : FnScope N ps (defScope st))
    (hb : ∀ (kV doc pm : Value) (an : Option Addr) (cdv ct : Value) (us : List Value), us.length = ps.length → bindArgs (PySem.W.fnOf x x (defArgs st) (defBody st) (defScope st) .none kV doc pm an cdv ct) ⟨us, []⟩ = pure (ps.zip us))
    (len : ∀ vs H Q E, sp vs H Q E → vs.length = ps.length)
    (hbody : ∀ (f : Addr) (cdv : Value) (A : Around) (outer : List Env) (s : Shared) (H : Hp) (vs : List V) (Q : VK) (E : XK), Room k (A.deeper (PyProof.Rows.envOfC x (defScope st) s.heap.objs.size f cdv)) → sp vs H Q E →
      ∃ t, PSs (cxOf CX0 P w K mg base N x (defScope st) f cdv A outer s H E).nox (defBody st) t ∧ t { nx := fun _ H' => Q .non H', rt := Q } (start N vs) H) : Cal P w K mg base CX0 (k + 1) x ps sp := by
  obtain ⟨f, fd, F, m⟩ := F.ex
  exact ⟨f, fd, F.ok S len (hbody f), m, F.kp, F.binds hb⟩
end

/-! ### the end: defs as the top has left them -/
section
variable {K : PySem.W.Frag} {h : Heap} {mg : Str → Option Value} {f : Addr} {x : Str} {st : Stmt} {od an : Option Addr} {sl : Array (Option Value)} {oc kV dc pm cd ct : Value}
theorem fun_at (X : K.In h) (G : h.Ns mainGlobals mg) (a : PySem.W.nsIn K mainGlobals x = some (some (.ref f)))
    (l : K.lookup f = some ⟨oc, od, .func (PySem.W.fnOf x x (defArgs st) (defBody st) (defScope st) .none kV dc pm an cd ct), sl⟩) (c : PySem.W.codeIn K cd x = true) (k : PySem.W.keepIn K (.ref f) = true) : FunAt K mg x st :=
  ⟨f, _, fun_mk l c k, PySem.W.mg_of X G a⟩
theorem law_at {lw : PySem.W.OpenLaw} {w : World} {fa : Addr} {n : Nat} {p : Str} {sp : Sp} (X : K.In h) (G : h.Ns mainGlobals mg) (hfa : mg x = some (.ref fa)) (a : PySem.W.nsIn K mainGlobals x = some (some (.ref f)))
    (l : K.lookup f = some ⟨oc, od, .func (PySem.W.fnOf x x (defArgs st) (defBody st) (defScope st) .none kV dc pm an cd ct), sl⟩) (c : PySem.W.codeIn K cd x = true) (k : PySem.W.keepIn K (.ref f) = true)
    (hb : ∀ (s : Shared) (u : Value), BindsTo s (PySem.W.fnOf x x (defArgs st) (defBody st) (defScope st) .none kV dc pm an cd ct) ⟨[u], []⟩ [(p, u)])
    (ok : ∀ (base : Heap) (f : Addr) (fd : FuncData), Fun K x x st f fd → FnOk lw.prog w K mg base CX0 n f fd [p] sp) :
    ∃ fd : FuncData, (∀ (s : Shared) (u : Value), BindsTo s fd ⟨[u], []⟩ [(p, u)]) ∧ ∀ base : Heap, K.In base → base.Ns mainGlobals mg → FnOk lw.prog w K mg base CX0 n fa fd [p] sp := by
  have e := hfa.symm.trans (PySem.W.mg_of X G a)
  cases e
  exact ⟨_, hb, fun base _ _ => ok base _ _ (fun_mk l c k)⟩
end

/-! ### readings, step by step -/
section
variable {K : PySem.W.Frag} {σ : St} {H : Hp} {D : Ends} {t u : TS} {te ta tb tc : TE} {tt tu : TT} {ts tr : TA} {Q : VK} {x y v : V} {i : Nat} {r : R2}
theorem r_seq (h : t { D with nx := u D } σ H) : tSeq t u D σ H := h
theorem r_cut (Mid : St → Hp → Prop) (h : t { D with nx := Mid } σ H) (k : ∀ σ' H', Mid σ' H' → u D σ' H') : Evl.tCut t u D σ H := ⟨Mid, h, k⟩
theorem r_next (h : D.nx σ H) : tNext D σ H := h
theorem r_asg {g : TG} (h : te σ H fun x H1 => g x σ H1 D.nx) : tAsg te g D σ H := h
theorem r_drop (h : te σ H fun _ H1 => D.nx σ H1) : tDrop te D σ H := h
theorem r_ret (h : te σ H D.rt) : tRet te D σ H := h
theorem r_ifS (h : tt σ H fun b H1 => if b = true then t D σ H1 else u D σ H1) : tIfS tt t u D σ H := h
theorem r_test {Q : Bool → Hp → Prop} (h : te σ H fun x H' => ∃ k, x = .bl k ∧ Q k H') : tTest te σ H Q := h
theorem r_tB {Q : Bool → Hp → Prop} (h : te σ H fun x H' => ∃ k, x = .bl k ∧ Q k H') : tB te σ H Q := h
theorem r_bl {Q : Bool → Hp → Prop} {k : Bool} (h : Q k H) : ∃ k', V.bl k = V.bl k' ∧ Q k' H := ⟨k, rfl, h⟩
theorem r_var (hv : σ[i]? = some (some v)) (h : Q v H) : tVar i σ H Q := ⟨v, hv, h⟩
theorem r_c (h : Q v H) : tC v σ H Q := h
theorem r_op (h : ta σ H fun x H1 => tb σ H1 fun y H2 => r x y H2 Q) : tOp r ta tb σ H Q := h
theorem r_un {r : V → Hp → VK → Prop} (h : ta σ H fun x H1 => r x H1 Q) : tUn r ta σ H Q := h
theorem r_I0 {g : Int → Int → V} {a b : Int} (h : Q (g a b) H) : rI0 g (.int a) (.int b) H Q := ⟨a, b, rfl, rfl, h⟩
theorem r_I {C : Int → Int → Prop} {g : Int → Int → V} {a b : Int} (c : C a b) (h : Q (g a b) H) : rI C g (.int a) (.int b) H Q := ⟨a, b, rfl, rfl, c, h⟩
theorem r_eq (s : scal x y = true) (h : Q (.bl (decide (x = y))) H) : rEq x y H Q := ⟨s, h⟩
theorem r_ne (s : scal x y = true) (h : Q (.bl (!decide (x = y))) H) : rNe x y H Q := ⟨s, h⟩
theorem r_nil {Q : List V → Hp → Prop} (h : Q [] H) : tNil σ H Q := h
theorem r_cons {Q : List V → Hp → Prop} (h : ta σ H fun x H1 => tr σ H1 fun xs H2 => Q (x :: xs) H2) : tCons ta tr σ H Q := h
theorem r_tup (h : ts σ H fun xs H1 => xs.length ≤ sizeLine ∧ ∀ p, H1 p = none → Q (.ref p) (upd H1 p (.tup xs))) : tTup ts σ H Q := h
theorem r_lst (h : ts σ H fun xs H1 => xs.length ≤ sizeLine ∧ ∀ p, H1 p = none → Q (.ref p) (upd H1 p (.lst xs))) : tLst ts σ H Q := h
theorem r_new {xs : List V} {P : Prop} (hl : xs.length ≤ 1000) (h : P) : xs.length ≤ sizeLine ∧ P := ⟨Nat.le_trans hl (by decide), h⟩
theorem r_CB {r : List V → Hp → VK → Prop} (h : ts σ H fun vs H1 => r vs H1 Q) : tCB r ts σ H Q := h
theorem r_call {sp : Sp} {dvs : List V} {E : XK} (h : ts σ H fun vs H1 => sp (vs ++ dvs) H1 Q E) : tCall sp dvs E ts σ H Q := h
theorem r_chain {r' : R2} (h : ta σ H fun x H1 => tb σ H1 fun y H2 => r x y H2 fun z H3 => ∃ k, z = .bl k ∧ (if k = true then tc σ H3 fun w' H4 => r' y w' H4 Q else Q (.bl false) H3)) : tChain r r' ta tb tc σ H Q := h
theorem r_not {Q : Bool → Hp → Prop} (h : tt σ H fun c H1 => Q (!c) H1) : tNot tt σ H Q := h
theorem r_and {Q : Bool → Hp → Prop} (h : tt σ H fun c H1 => if c = true then tu σ H1 Q else Q false H1) : tAnd tt tu σ H Q := h
theorem r_or {Q : Bool → Hp → Prop} (h : tt σ H fun c H1 => if c = true then Q true H1 else tu σ H1 Q) : tOr tt tu σ H Q := h
theorem r_if (h : tt σ H fun c H1 => if c = true then ta σ H1 Q else tb σ H1 Q) : tIf tt ta tb σ H Q := h
theorem r_andV (h : ta σ H fun x H1 => ∃ c, x = .bl c ∧ if c = true then tb σ H1 Q else Q (.bl false) H1) : tAndV ta tb σ H Q := h
theorem r_orV (h : ta σ H fun x H1 => ∃ c, x = .bl c ∧ if c = true then Q (.bl true) H1 else tb σ H1 Q) : tOrV ta tb σ H Q := h
theorem r_notV (h : ta σ H fun x H1 => ∃ c, x = .bl c ∧ Q (.bl (!c)) H1) : tNotV ta σ H Q := h
theorem r_bl2 {P : Bool → Prop} {k : Bool} (h : P k) : ∃ c, V.bl k = V.bl c ∧ P c := ⟨k, rfl, h⟩
theorem r_gtup {n : Nat} {t : TGs} {a : Addr} {xs : List V} {Q : St → Hp → Prop} (hs : SqT K H a xs) (hl : xs.length = n) (h : t xs σ H Q) : gTup K n t (.ref a) σ H Q := ⟨a, xs, rfl, hs, hl, h⟩
theorem r_gcons {t : TG} {u : TGs} {vs : List V} {Q : St → Hp → Prop} (h : t v σ H fun σ' H' => u vs σ' H' Q) : gCons t u (v :: vs) σ H Q := ⟨v, vs, rfl, h⟩
theorem r_gnil {Q : St → Hp → Prop} (h : Q σ H) : gNil [] σ H Q := ⟨rfl, h⟩
theorem r_gname {Q : St → Hp → Prop} {σ' : St} (e : σ.set i (some v) = σ') (h : Q σ' H) : gName i v σ H Q := by
  subst e
  exact h
theorem r_start {N : List Str} {vs : List V} {σ' : St} (e : L2.start N vs = σ') (h : t D σ' H) : t D (L2.start N vs) H := by
  subst e
  exact h
theorem r_ixL {p : Addr} {xs : List V} {j : Int} (hs : SqL K H p xs) (ha : atI xs j = some v) (h : Q v H) : rIxL K (.ref p) (.int j) H Q := ⟨p, xs, j, v, rfl, rfl, hs, ha, h⟩
theorem r_ixT {p : Addr} {xs : List V} {j : Int} (hs : SqT K H p xs) (ha : atI xs j = some v) (h : Q v H) : rIxT K (.ref p) (.int j) H Q := ⟨p, xs, j, v, rfl, rfl, hs, ha, h⟩
theorem r_true {P R : Prop} (h : P) : if true = true then P else R := by
  rw [if_pos rfl]
  exact h
theorem r_false {P R : Prop} (h : R) : if false = true then P else R := by
  rw [if_neg Bool.false_ne_true]
  exact h
theorem r_is {c : Bool} {P R : Prop} (e : c = true) (h : P) : if c = true then P else R := by
  rw [if_pos e]
  exact h
theorem r_isnt {c : Bool} {P R : Prop} (e : c = false) (h : R) : if c = true then P else R := by
  rw [e, if_neg Bool.false_ne_true]
  exact h
theorem r_isN {p : Prop} [Decidable p] {P R : Prop} (e : p) (h : R) : if (!decide p) = true then P else R := by
  rw [decide_eq_true e, if_neg (by decide)]
  exact h
theorem r_isntN {p : Prop} [Decidable p] {P R : Prop} (e : ¬ p) (h : P) : if (!decide p) = true then P else R := by
  rw [decide_eq_false e, if_pos (by decide)]
  exact h
theorem r_nt {P R : Prop} (h : R) : if (!true) = true then P else R := by
  rw [if_neg (by decide)]
  exact h
theorem r_nf {P R : Prop} (h : P) : if (!false) = true then P else R := by
  rw [if_pos (by decide)]
  exact h
/-- both ways of a test -/
theorem r_both {p : Prop} [Decidable p] {P R : Prop} (h1 : p → P) (h2 : ¬ p → R) : if decide p = true then P else R := by
  by_cases h : p
  · rw [if_pos (decide_eq_true h)]
    exact h1 h
  · rw [if_neg (fun z => h (of_decide_eq_true z))]
    exact h2 h
theorem r_bothN {p : Prop} [Decidable p] {P R : Prop} (h1 : ¬ p → P) (h2 : p → R) : if (!decide p) = true then P else R := by
  by_cases h : p
  · rw [decide_eq_true h, if_neg (by decide)]
    exact h2 h
  · rw [decide_eq_false h, if_pos (by decide)]
    exact h1 h
end
/-! ### built-ins -/
/-- len of a list or a tuple -/
abbrev rSeqLen (K : PySem.W.Frag) : List V → Hp → VK → Prop := fun xs H Q => ∃ p ys, xs = [.ref p] ∧ (SqL K H p ys ∨ SqT K H p ys) ∧ Q (.int ys.length) H
theorem call_lenQ {X : Cx} : CallR X (.builtin "len") (rSeqLen X.K) := call_len_seq
section
variable {K : PySem.W.Frag} {σ : St} {H : Hp} {te : TE} {tl th : TO} {Q : VK} {x y v : V}
theorem r_lenS {z : Str} {R : Str → Prop} (hl : z.length ≤ sizeLine) (h : R z) : ∃ z', [V.str z] = [V.str z'] ∧ z'.length ≤ sizeLine ∧ R z' := ⟨z, rfl, hl, h⟩
theorem r_seqL {a : Addr} {xs : List V} {R : Addr → List V → Prop} (hs : SqL K H a xs) (h : R a xs) : ∃ p ys, [V.ref a] = [V.ref p] ∧ (SqL K H p ys ∨ SqT K H p ys) ∧ R p ys := ⟨a, xs, rfl, .inl hs, h⟩
theorem r_seqT {a : Addr} {xs : List V} {R : Addr → List V → Prop} (hs : SqT K H a xs) (h : R a xs) : ∃ p ys, [V.ref a] = [V.ref p] ∧ (SqL K H p ys ∨ SqT K H p ys) ∧ R p ys := ⟨a, xs, rfl, .inr hs, h⟩
theorem r_isi {a b : String} {r : Bool} (ty : TyX K H x (.type a)) (e : kitB a b = some r) (h : Q (.bl r) H) : rIsi K [x, .ty b] H Q := ⟨x, .ty b, .type a, .type b, r, rfl, .ty b, ty, kit_ty e, h⟩
theorem r_addS {a b : Str} {R : Str → Str → Prop} (hl : a.length + b.length ≤ sizeLine) (h : R a b) : ∃ i j, V.str a = V.str i ∧ V.str b = V.str j ∧ i.length + j.length ≤ sizeLine ∧ R i j := ⟨a, b, rfl, rfl, hl, h⟩
theorem r_sl {r : V → Option Int → Option Int → Hp → VK → Prop} (h : te σ H fun x H1 => tl σ H1 fun l H2 => th σ H2 fun u H3 => r x l u H3 Q) : tSl r te tl th σ H Q := h
theorem r_part {R : Option Int → Hp → Prop} (h : te σ H fun x H1 => ∃ i, x = .int i ∧ R (some i) H1) : tPart te σ H R := h
theorem r_int1 {i : Int} {R : Int → Prop} (h : R i) : ∃ j, V.int i = V.int j ∧ R j := ⟨i, rfl, h⟩
theorem r_noPart {R : Option Int → Hp → Prop} (h : R none H) : tNoPart σ H R := h
theorem r_slL {a : Addr} {xs : List V} {lo hi : Option Int} (hs : SqL K H a xs) (h : ∀ p, H p = none → Q (.ref p) (upd H p (.lst (cutV xs lo hi)))) : rSlL K (.ref a) lo hi H Q := ⟨a, xs, rfl, hs, h⟩
theorem r_slS {z : Str} {lo hi : Option Int} (hl : z.length ≤ sizeLine) (h : Q (.str (cutS z lo hi)) H) : rSlS (.str z) lo hi H Q := ⟨z, rfl, hl, h⟩
theorem r_bm {T : String} {r : V → List V → Hp → VK → Prop} {to : TE} {t : TA} (h : to σ H fun x H1 => tyV K T x H1 ∧ t σ H1 fun xs H2 => r x xs H2 Q) : tBM K T r to t σ H Q := h
theorem r_bm0 {T : String} {r : V → List V → Hp → VK → Prop} {to : TE} (h : to σ H fun x H1 => tyV K T x H1 ∧ r x [] H1 Q) : tBM0 K T r to σ H Q := h
theorem r_tyL {a : Addr} {xs : List V} {P : Prop} (hs : SqL K H a xs) (h : P) : tyV K "list" (.ref a) H ∧ P := ⟨.inl ⟨rfl, _, hs⟩, h⟩
theorem r_app {l : Addr} {xs : List V} (hl : H l = some (.lst xs)) (hz : xs.length < sizeLine) (h : Q .non (upd H l (.lst (xs ++ [y])))) : rAppend (.ref l) [y] H Q := ⟨l, xs, y, rfl, rfl, hl, hz, h⟩
theorem r_clear {l : Addr} {xs : List V} (hl : H l = some (.lst xs)) (h : Q .non (upd H l (.lst []))) : rClear (.ref l) [] H Q := ⟨l, xs, rfl, rfl, hl, h⟩
theorem r_ixS {z : Str} {j : Int} {c : Nat} (hl : z.length ≤ sizeLine) (ha : atI z.cps.toList j = some c) (h : Q (.str ⟨#[c]⟩) H) : rIxS (.str z) (.int j) H Q := ⟨z, j, c, rfl, rfl, hl, ha, h⟩
theorem r_yes {R : Bool → Hp → Prop} (h : R true H) : tYes σ H R := h
end
section
variable {K : PySem.W.Frag} {H : Hp} {Q : VK} {x y v : V}
theorem r_U {g : Int → V} {i : Int} (h : Q (g i) H) : rU g (.int i) H Q := ⟨i, rfl, h⟩
theorem r_nn {P : Prop} (h : P) : V.non = V.non ∧ P := ⟨rfl, h⟩
theorem inV_ints (i : Int) : ∀ ns : List Int, inV (.int i) (ns.map V.int) = decide (i ∈ ns)
  | [] => by
    rw [decide_eq_false (fun h => nomatch h)]
    rfl
  | n :: ns => by
    show (eqV (.int n) (.int i) || inV (.int i) (ns.map V.int)) = decide (i ∈ n :: ns)
    rw [inV_ints i ns]
    show ((n == i) || decide (i ∈ ns)) = decide (i ∈ n :: ns)
    by_cases e : n = i
    · subst e
      simp
    · have e2 : ¬ i = n := fun z => e z.symm
      simp [e, e2]
theorem flat_ints : ∀ ns : List Int, (ns.map V.int).all flatV = true
  | [] => rfl
  | n :: ns => by
    show (true && (ns.map V.int).all flatV) = true
    rw [flat_ints ns]
    rfl
theorem r_in {p : Addr} {ns : List Int} {i : Int} (hs : SqL K H p (ns.map V.int)) (h : Q (.bl (decide (i ∈ ns))) H) : rIn K false (.int i) (.ref p) H Q := by
  refine ⟨p, _, rfl, .inl hs, rfl, flat_ints ns, ?_⟩
  rw [if_neg Bool.false_ne_true, inV_ints]
  exact h
theorem r_notIn {p : Addr} {ns : List Int} {i : Int} (hs : SqL K H p (ns.map V.int)) (h : Q (.bl (!decide (i ∈ ns))) H) : rIn K true (.int i) (.ref p) H Q := by
  refine ⟨p, _, rfl, .inl hs, rfl, flat_ints ns, ?_⟩
  rw [if_pos rfl, inV_ints]
  exact h
/-- a list of ints against a new empty one -/
theorem shaped_ints' : ∀ ns : List Int, PyData.canLayAll0 (ns.map PyData.int) = true ∧ PyData.depthAll (ns.map PyData.int) = 0 := shape_ints
theorem eqv_nil (ds : List PyData) : PyData.eqv (.list ds) (.list []) = ds.isEmpty := by
  cases ds with
  | nil => simp [PyData.eqv, PyData.eqvAll]
  | cons d ds => simp [PyData.eqv, PyData.eqvAll]
theorem shaped_list {ds : List PyData} (h1 : PyData.canLayAll0 ds = true) (h2 : PyData.depthAll ds ≤ 63) : SeqAt.shaped (.list ds) = true := by
  unfold SeqAt.shaped
  rw [Bool.and_eq_true]
  exact ⟨by simpa [PyData.canLay0] using h1, decide_eq_true (by rw [PyData.depth]; omega)⟩
theorem r_eqNil {p q : Addr} {ns : List Int} (hs : SqL K H p (ns.map V.int)) (hq : SqL K H q []) (h : Q (.bl ns.isEmpty) H) : rEqD K (.ref p) (.ref q) H Q := by
  refine ⟨.list (ns.map .int), .list [], .lst hs dpAll_of_ints, .lst hq .nil, shaped_list (shape_ints ns).1 (by rw [(shape_ints ns).2]; decide), by decide +kernel, ?_⟩
  rw [eqv_nil, show (ns.map PyData.int).isEmpty = ns.isEmpty by cases ns <;> rfl]
  exact h
theorem r_isB {a b : Bool} (h : Q (.bl (decide (a = b))) H) : rIsB (.bl a) (.bl b) H Q := ⟨a, b, rfl, rfl, h⟩
theorem r_notB {a b : Bool} (h : Q (.bl (!decide (a = b))) H) : rNotB (.bl a) (.bl b) H Q := ⟨a, b, rfl, rfl, h⟩
theorem dpAll_strs {K : PySem.W.Frag} {H : Hp} : ∀ {l : List Str} {vs : List V}, DpAll K H vs (l.map .str) → vs = l.map V.str
  | [], _, .nil => rfl
  | i :: l, _, .cons x r => by
    rw [dp_str x, dpAll_strs r]
    rfl
theorem dpAll_of_strs {K : PySem.W.Frag} {H : Hp} : ∀ {l : List Str}, DpAll K H (l.map V.str) (l.map .str)
  | [] => .nil
  | i :: l => .cons (.str i) dpAll_of_strs
end
theorem McAt.mvAt {K : PySem.W.Frag} {H : Hp} {v : V} {M : Mc} {a e l : Addr} {qs : List V} (h : McAt K H v M a e l qs) {k : Nat} {m : Mv} (g : M.moves[k]? = some m) :
    ∃ q, atI qs (k : Int) = some (.ref q) ∧ SqT K H q [.int m.s, .str m.r, .str m.w, .int m.g] := by
  have hk : k < qs.length := by
    rw [h.len]
    exact (List.getElem?_eq_some_iff.mp g).1
  obtain ⟨m', q, e1, e2, e3⟩ := h.mv (List.getElem?_eq_getElem hk)
  rw [g] at e1
  cases e1
  refine ⟨q, ?_, e3⟩
  rw [← e2]
  exact atI_nat (List.getElem?_eq_getElem hk)
section
variable {K : PySem.W.Frag} {σ : St} {H : Hp} {Q : VK}
theorem r_tM1 {r : V → List V → Hp → VK → Prop} {to te : TE} (h : to σ H fun x H1 => (∃ a, x = .str a) ∧ te σ H1 fun y H2 => r x [y] H2 Q) : tM1 r to te σ H Q := h
theorem r_exS {z : Str} {P : Prop} (h : P) : (∃ a, V.str z = .str a) ∧ P := ⟨⟨z, rfl⟩, h⟩
theorem r_join {z : Str} {D : Addr} {ys : List Str} {R : Str → List Str → Prop} (hs : SqL K H D (ys.map V.str)) (hb : (ys.map (·.length)).sum + ys.length * z.length ≤ 16777216) (h : R z ys) :
    ∃ a p, ∃ ys : List Str, V.str z = .str a ∧ [V.ref D] = [.ref p] ∧ (SqL K H p (ys.map V.str) ∨ SqT K H p (ys.map V.str)) ∧ (ys.map (·.length)).sum + ys.length * a.length ≤ 16777216 ∧ R a ys := ⟨z, D, ys, rfl, rfl, .inl hs, hb, h⟩
end
/-! ### places in lists -/
theorem atI_mem {α : Type} {l : List α} {j : Int} (h0 : 0 ≤ j) (h1 : j < l.length) : ∃ v, v ∈ l ∧ atI l j = some v := by
  have h2 : j.toNat < l.length := by omega
  refine ⟨l[j.toNat], List.getElem_mem h2, ?_⟩
  have e : ((j.toNat : Nat) : Int) = j := Int.toNat_of_nonneg h0
  have q := atI_nat (List.getElem?_eq_getElem h2)
  rw [e] at q
  exact q
theorem cutV_map {α : Type} (f : α → V) (l : List α) (lo hi : Option Int) : ∃ l' : List α, cutV (l.map f) lo hi = l'.map f ∧ l'.length ≤ l.length ∧ ∀ x ∈ l', x ∈ l := by
  refine ⟨(l.drop (HT.sIx l.length 0 lo)).take (HT.sIx l.length l.length hi - HT.sIx l.length 0 lo), ?_, ?_, fun x hx => List.mem_of_mem_drop (List.mem_of_mem_take hx)⟩
  · unfold cutV
    rw [List.length_map, List.map_take, List.map_drop]
  · rw [List.length_take, List.length_drop]
    omega
theorem cutV_map2 {α : Type} (f : α → V) (l : List α) (lo hi : Nat) : ∃ l' : List α, cutV (l.map f) (some (lo : Int)) (some (hi : Int)) = l'.map f ∧ l'.length ≤ hi - lo ∧ ∀ x ∈ l', x ∈ l := by
  refine ⟨(l.drop (HT.sIx l.length 0 (some (lo : Int)))).take (HT.sIx l.length l.length (some (hi : Int)) - HT.sIx l.length 0 (some (lo : Int))), ?_, ?_, fun x hx => List.mem_of_mem_drop (List.mem_of_mem_take hx)⟩
  · unfold cutV
    rw [List.length_map, List.map_take, List.map_drop]
  · rw [List.length_take, HT.sIx_nat, HT.sIx_nat, List.length_drop]
    omega
/-! ### a list of data without lists that grows -/
theorem hards_app : ∀ (ds es : List PyData), hards ds = true → hards es = true → hards (ds ++ es) = true
  | [], _, _, h => h
  | d :: ds, es, h1, h2 => by
    have q : hard d = true ∧ hards ds = true := Bool.and_eq_true_iff.mp h1
    show (hard d && hards (ds ++ es)) = true
    rw [q.1, hards_app ds es q.2 h2]
    rfl
/-- H0: ahead of the list; at L the data ds stand -/
structure Gro (K : PySem.W.Frag) (H0 : Hp) (L : Addr) (ds : List PyData) (H : Hp) : Prop where
  s : Same H0 H
  n : H0 L = none
  h : ∃ vs, H L = some (.lst vs) ∧ DpAll K H vs ds
  hd : hards ds = true
theorem Gro.new {K : PySem.W.Frag} {H : Hp} {L : Addr} (h : H L = none) : Gro K H L [] (upd H L (.lst [])) := ⟨same_up h, h, ⟨[], upd_same, .nil⟩, rfl⟩
theorem Gro.same {K : PySem.W.Frag} {H0 H H' : Hp} {L : Addr} {ds : List PyData} (g : Gro K H0 L ds H) (e : Same H H') : Gro K H0 L ds H' := by
  obtain ⟨vs, h1, h2⟩ := g.h
  exact ⟨g.s.trans e, g.n, ⟨vs, e _ _ h1, dpAll_same e h2⟩, g.hd⟩
/-- L.append(y): the reading of append -/
theorem Gro.app {K : PySem.W.Frag} {H0 H : Hp} {L : Addr} {ds : List PyData} {y : V} {d : PyData} {Q : VK} (g : Gro K H0 L ds H) (hy : Dp K H y d) (hh : hard d = true) (hl : ds.length < 16000000)
    (q : ∀ H', Gro K H0 L (ds ++ [d]) H' → Keep H H' → (∀ b, b ≠ L → H' b = H b) → Q .non H') : rAppend (.ref L) [y] H Q := by
  obtain ⟨vs, h1, h2⟩ := g.h
  have kp : Keep H (upd H L (.lst (vs ++ [y]))) := keep_lst h1
  refine r_app h1 ?_ (q _ ⟨same_mut g.s g.n, g.n, ⟨vs ++ [y], upd_same, dpAll_app (dpAll_keep kp g.hd h2) (dpAll_one (dp_keep kp hh hy))⟩, ?_⟩ kp fun b hb => upd_ne hb)
  · rw [dpAll_len h2]
    exact Nat.lt_trans hl (by decide)
  · refine hards_app _ _ g.hd ?_
    show (hard d && true) = true
    rw [hh]
    rfl
theorem Gro.dp {K : PySem.W.Frag} {H0 H : Hp} {L : Addr} {ds : List PyData} (g : Gro K H0 L ds H) : Dp K H (.ref L) (.list ds) := by
  obtain ⟨vs, h1, h2⟩ := g.h
  exact .lst (SqL.of h1) h2
/-- L.pop(): the reading of pop -/
theorem hards_init : ∀ (ds : List PyData) (d : PyData), hards (ds ++ [d]) = true → hards ds = true ∧ hard d = true
  | [], d, h => by
    have q : hard d = true ∧ hards [] = true := Bool.and_eq_true_iff.mp h
    exact ⟨rfl, q.1⟩
  | e :: ds, d, h => by
    have q : hard e = true ∧ hards (ds ++ [d]) = true := Bool.and_eq_true_iff.mp h
    have r := hards_init ds d q.2
    refine ⟨?_, r.2⟩
    show (hard e && hards ds) = true
    rw [q.1, r.1]
    rfl
theorem dpAll_snoc {K : PySem.W.Frag} {H : Hp} : ∀ {vs : List V} {ds : List PyData} {d : PyData}, DpAll K H vs (ds ++ [d]) → ∃ ws v, vs = ws ++ [v] ∧ DpAll K H ws ds ∧ Dp K H v d
  | _, [], d, h => by
    cases h with
    | cons h1 h2 =>
      cases h2
      exact ⟨[], _, rfl, .nil, h1⟩
  | _, e :: ds, d, h => by
    cases h with
    | cons h1 h2 =>
      obtain ⟨ws, v, e1, q1, q2⟩ := dpAll_snoc h2
      exact ⟨_ :: ws, v, by rw [e1]; rfl, .cons h1 q1, q2⟩
theorem r_pop {K : PySem.W.Frag} {H0 H : Hp} {L : Addr} {ds : List PyData} {d : PyData} {Q : VK} (g : Gro K H0 L (ds ++ [d]) H)
    (q : ∀ y H', Gro K H0 L ds H' → Keep H H' → Dp K H' y d → (∀ b, b ≠ L → H' b = H b) → Q y H') : rPop (.ref L) [] H Q := by
  obtain ⟨vs, h1, h2⟩ := g.h
  obtain ⟨ws, v, e, q1, q2⟩ := dpAll_snoc h2
  obtain ⟨hh1, hh2⟩ := hards_init _ _ g.hd
  subst e
  have kp : Keep H (upd H L (.lst ws)) := keep_lst h1
  refine ⟨L, ws ++ [v], v, rfl, rfl, h1, ?_, ?_⟩
  · rw [List.length_append, List.length_singleton]
    simp
  · rw [List.dropLast_concat]
    exact q v _ ⟨same_mut g.s g.n, g.n, ⟨ws, upd_same, dpAll_keep kp hh1 q1⟩, hh1⟩ kp (dp_keep kp hh2 q2) fun b hb => upd_ne hb
/-- int(..) of a truth value -/
theorem r_intB {b : Bool} {R : Int → Prop} {S : Bool → Prop} (h : S b) : (∃ i, [V.bl b] = [.int i] ∧ R i) ∨ ∃ k, [V.bl b] = [.bl k] ∧ S k := .inr ⟨b, rfl, h⟩
theorem eqv_nilN (ds : List PyData) : (!PyData.eqv (.list ds) (.list [])) = !ds.isEmpty := by rw [eqv_nil]
theorem r_neNilD {K : PySem.W.Frag} {H : Hp} {Q : VK} {p q : Addr} {xs : List V} {ds : List PyData} (hs : SqL K H p xs) (hd : DpAll K H xs ds) (h1 : PyData.canLayAll0 ds = true) (h2 : PyData.depthAll ds ≤ 63) (hq : SqL K H q []) (h : Q (.bl (!ds.isEmpty)) H) : rNeD K (.ref p) (.ref q) H Q := by
  refine ⟨.list ds, .list [], .lst hs hd, .lst hq .nil, shaped_list h1 h2, by decide +kernel, ?_⟩
  rw [eqv_nilN]
  exact h
/-! ### loops and comprehensions -/
section
variable {K : PySem.W.Frag} {σ : St} {H : Hp} {D : Ends} {g : TG} {tb : TS} {tl te : TE} {ta : TA} {tt : TT} {Q : VK} {js : List Nat}
/-- for x in a list that stands at a name -/
theorem r_forL {a : Addr} {xs : List V} (Pv : Nat → St → Hp → Prop) (hl : ∀ R : VK, R (.ref a) H → tl σ H R) (hs : SqL K H a xs) (h0 : Pv 0 σ H) (h1 : ∀ i σ H, i ≤ xs.length → Pv i σ H → SqL K H a xs)
    (h2 : ∀ i x σ H, xs[i]? = some x → Pv i σ H → g x σ H fun σ2 H2 => tb { D with nx := Pv (i + 1), ct := Pv (i + 1), bk := D.nx } σ2 H2) (h3 : ∀ σ H, Pv xs.length σ H → D.nx σ H) : tFor (iList K tl) g tb D σ H :=
  hl _ ⟨a, rfl, ⟨xs, hs⟩, for_list Pv h0 h1 h2 h3⟩
theorem r_forLv {i : Nat} {a : Addr} {xs : List V} (Pv : Nat → St → Hp → Prop) (hv : σ[i]? = some (some (.ref a))) (hs : SqL K H a xs) (h0 : Pv 0 σ H) (h1 : ∀ i σ H, i ≤ xs.length → Pv i σ H → SqL K H a xs)
    (h2 : ∀ i x σ H, xs[i]? = some x → Pv i σ H → g x σ H fun σ2 H2 => tb { D with nx := Pv (i + 1), ct := Pv (i + 1), bk := D.nx } σ2 H2) (h3 : ∀ σ H, Pv xs.length σ H → D.nx σ H) : tFor (iList K (tVar i)) g tb D σ H :=
  ⟨_, hv, a, rfl, ⟨xs, hs⟩, for_list Pv h0 h1 h2 h3⟩
/-- for x in range(n): the argument's reading told -/
theorem r_forR {n : Int} (Pv : Nat → St → Hp → Prop) (ha : ∀ Q : List V → Hp → Prop, Q [.int n] H → ta σ H Q) (hm : -1000000 ≤ n) (hn : n ≤ 1000000) (h0 : Pv 0 σ H)
    (h2 : ∀ (i : Nat) σ H, (i : Int) < n → Pv i σ H → g (.int (i : Int)) σ H fun σ2 H2 => tb { D with nx := Pv (i + 1), ct := Pv (i + 1), bk := D.nx } σ2 H2) (h3 : ∀ σ H, Pv n.toNat σ H → D.nx σ H) : tFor (iRng1 ta) g tb D σ H := by
  refine ha _ ⟨n, rfl, by omega, by omega, for_range (lo := 0) (n := n.toNat) Pv h0 (fun i σ' H' hi p => ?_) h3⟩
  have e : (0 : Int) + (i : Int) = (i : Int) := Int.zero_add _
  rw [e]
  exact h2 i σ' H' (by omega) p
theorem hards_fm {f : Nat → Option PyData} (hf : ∀ i d, f i = some d → hard d = true) : ∀ l : List Nat, hards (l.filterMap f) = true
  | [] => rfl
  | j :: l => by
    cases e : f j with
    | none => rw [List.filterMap_cons_none e]; exact hards_fm hf l
    | some d =>
      rw [List.filterMap_cons_some e]
      show (hard d && hards (l.filterMap f)) = true
      rw [hf j d e, hards_fm hf l]
      rfl
/-- what stands between two turns of a comprehension: the list made so far, told by data -/
def Lcd (K : PySem.W.Frag) (H : Hp) (f : Nat → Option PyData) (D0 : Addr) (i : Nat) (H' : Hp) : Prop := Same H H' ∧ H D0 = none ∧ ∃ acc, H' D0 = some (.lst acc) ∧ DpAll K H' acc ((List.range i).filterMap f)
theorem lcd_no {f : Nat → Option PyData} {D0 : Addr} {i : Nat} {H' H3 : Hp} (p : Lcd K H f D0 i H') (s3 : Same H' H3) (e : f i = none) : Lcd K H f D0 (i + 1) H3 := by
  obtain ⟨s1, d0, acc, hacc, hd⟩ := p
  refine ⟨s1.trans s3, d0, acc, s3 _ _ hacc, ?_⟩
  rw [List.range_succ, List.filterMap_append, List.filterMap_cons_none e, List.filterMap_nil, List.append_nil]
  exact dpAll_same s3 hd
theorem lcd_yes {f : Nat → Option PyData} {D0 : Addr} {i n : Nat} {H' H4 : Hp} {y : V} {d : PyData} (hf : ∀ i d, f i = some d → hard d = true) (hn : n ≤ 16000000) (hi : i < n) (p : Lcd K H f D0 i H') (s4 : Same H' H4) (e : f i = some d) (hdy : Dp K H4 y d) :
    ∃ acc, H4 D0 = some (.lst acc) ∧ acc.length < sizeLine ∧ Lcd K H f D0 (i + 1) (upd H4 D0 (.lst (acc ++ [y]))) := by
  obtain ⟨s1, d0, acc, hacc, hd⟩ := p
  have h4 := s4 _ _ hacc
  refine ⟨acc, h4, ?_, same_mut (s1.trans s4) d0, d0, acc ++ [y], upd_same, ?_⟩
  · have hl := dpAll_len hd
    have hl2 := List.length_filterMap_le f (List.range i)
    rw [List.length_range] at hl2
    refine Nat.lt_of_le_of_lt (m := 16000000) ?_ (by decide)
    omega
  · rw [List.range_succ, List.filterMap_append, List.filterMap_cons_some e, List.filterMap_nil]
    have kp : Keep H4 (upd H4 D0 (.lst (acc ++ [y]))) := keep_lst h4
    exact dpAll_app (dpAll_keep kp (hards_fm hf _) (dpAll_same s4 hd)) (dpAll_one (dp_keep kp (hf i d e) hdy))
/-- [e for x in a list if t], told by data without lists -/
theorem r_lcL {a : Addr} {xs : List V} {σw : St} (f : Nat → Option PyData) (hw : wipe σ js = σw) (hl : ∀ R : VK, R (.ref a) H → tl σ H R) (hs : SqL K H a xs) (hn : xs.length ≤ 16000000) (hf : ∀ i d, f i = some d → hard d = true)
    (ht : ∀ i x H' (QY : VK) (QN : Hp → Prop), xs[i]? = some x → Same H H' → (∀ y H4 d, Same H' H4 → f i = some d → Dp K H4 y d → QY y H4) → (∀ H3, Same H' H3 → f i = none → QN H3) →
      g x σw H' fun σ2 H2 => wipe σ2 js = σw ∧ tt σ2 H2 fun b H3 => if b = true then te σ2 H3 QY else QN H3)
    (hd : ∀ H' D acc, Same H H' → H D = none → H' D = some (.lst acc) → DpAll K H' acc ((List.range xs.length).filterMap f) → Q (.ref D) H') : tLc (iList K tl) g tt te js σ H Q := by
  subst hw
  refine hl _ ⟨a, rfl, ⟨xs, hs⟩, fun D0 hD => ?_⟩
  refine lc_list (xs := xs) (Lcd K H f D0) ⟨same_up hD, hD, [], upd_same, .nil⟩ (fun i H' _ p => same_sqL p.1 hs) (fun i x H' hx p => ?_) (fun H' p => ?_)
  · have hi : i < xs.length := (List.getElem?_eq_some_iff.mp hx).1
    exact ht i x H' _ _ hx p.1 (fun y H4 d s4 e hdy => lcd_yes hf hn hi p s4 e hdy) (fun H3 s3 e => lcd_no p s3 e)
  · obtain ⟨s1, d0, acc, e, q⟩ := p
    exact hd H' D0 acc s1 d0 e q
/-- [e for x in range(n) if t] -/
theorem r_lcR {n : Int} {σw : St} (f : Nat → Option PyData) (hw : wipe σ js = σw) (ha : ∀ Q : List V → Hp → Prop, Q [.int n] H → ta σ H Q) (hm : -16000000 ≤ n) (hn : n ≤ 16000000) (hf : ∀ i d, f i = some d → hard d = true)
    (ht : ∀ (i : Nat) H' (QY : VK) (QN : Hp → Prop), (i : Int) < n → Same H H' → (∀ y H4 d, Same H' H4 → f i = some d → Dp K H4 y d → QY y H4) → (∀ H3, Same H' H3 → f i = none → QN H3) →
      g (.int (i : Int)) σw H' fun σ2 H2 => wipe σ2 js = σw ∧ tt σ2 H2 fun b H3 => if b = true then te σ2 H3 QY else QN H3)
    (hd : ∀ H' D acc, Same H H' → H D = none → H' D = some (.lst acc) → DpAll K H' acc ((List.range n.toNat).filterMap f) → Q (.ref D) H') : tLc (iRng1 ta) g tt te js σ H Q := by
  subst hw
  refine ha _ ⟨n, rfl, by omega, by omega, fun D0 hD => ?_⟩
  refine lc_range (lo := 0) (n := n.toNat) (Lcd K H f D0) ⟨same_up hD, hD, [], upd_same, .nil⟩ (fun i H' hi p => ?_) (fun H' p => ?_)
  · have e : (0 : Int) + (i : Int) = (i : Int) := Int.zero_add _
    rw [e]
    exact ht i H' _ _ (by omega) p.1 (fun y H4 d s4 e hdy => lcd_yes hf (by omega) hi p s4 e hdy) (fun H3 s3 e => lcd_no p s3 e)
  · obtain ⟨s1, d0, acc, e, q⟩ := p
    exact hd H' D0 acc s1 d0 e q
end
theorem range_fm {α β : Type} (l : List α) (g : α → β) : ∀ n : Nat, (List.range n).filterMap (fun i => l[i]?.map g) = (l.take n).map g
  | 0 => rfl
  | n + 1 => by
    rw [List.range_succ, List.filterMap_append, range_fm l g n, List.take_add_one, List.map_append]
    cases h : l[n]? with
    | none =>
      rw [List.filterMap_cons_none (by rw [h]; rfl)]
      rfl
    | some x =>
      rw [List.filterMap_cons_some (b := g x) (by rw [h]; rfl)]
      rfl
theorem range_fm_all {α β : Type} (l : List α) (g : α → β) {n : Nat} (h : n = l.length) : (List.range n).filterMap (fun i => l[i]?.map g) = l.map g := by
  rw [range_fm, h, List.take_length]
theorem sqT_up {K : PySem.W.Frag} {H : Hp} {p a : Addr} {o : HO} {xs : List V} (hp : H p = none) (h : SqT K H a xs) : SqT K (upd H p o) a xs := same_sqT (same_up hp) h
theorem sqL_up {K : PySem.W.Frag} {H : Hp} {p a : Addr} {o : HO} {xs : List V} (hp : H p = none) (h : SqL K H a xs) : SqL K (upd H p o) a xs := same_sqL (same_up hp) h
end Tw

/-! Ways of a machine, as plain mathematics. -/
namespace Tw
open PySem L2
abbrev tl (x : Str) : List Nat := x.cps.toList
/-- a way from a state to a state: the places of its moves, what it reads, what it writes -/
inductive Path (M : Mc) : Int → List Nat → Int → List Nat → List Nat → Prop
  | nil (s : Int) : Path M s [] s [] []
  | cons {k : Nat} {m : Mv} {ks : List Nat} {t : Int} {r w : List Nat} : M.moves[k]? = some m → Path M m.g ks t r w → Path M m.s (k :: ks) t (tl m.r ++ r) (tl m.w ++ w)
def IsWay (M : Mc) (ks : List Nat) (r w : List Nat) : Prop := ∃ t, Path M M.b ks t r w ∧ t ∈ M.ends
section
variable {M : Mc} {s t u : Int} {ks js : List Nat} {r w r' w' : List Nat}
theorem Path.step {k : Nat} {m : Mv} (h : M.moves[k]? = some m) : Path M m.s [k] m.g (tl m.r) (tl m.w) := by
  have p := Path.cons h (Path.nil (M := M) m.g)
  rw [List.append_nil, List.append_nil] at p
  exact p
theorem Path.app (p : Path M s ks t r w) : ∀ {js : List Nat} {u : Int} {r' w' : List Nat}, Path M t js u r' w' → Path M s (ks ++ js) u (r ++ r') (w ++ w') := by
  induction p with
  | nil s => intro js u r' w' q; exact q
  | cons h _ ih =>
    intro js u r' w' q
    have z := Path.cons h (ih q)
    rw [List.append_assoc, List.append_assoc]
    exact z
theorem Path.snoc {k : Nat} {m : Mv} (p : Path M s ks t r w) (h : M.moves[k]? = some m) (e : m.s = t) : Path M s (ks ++ [k]) m.g (r ++ tl m.r) (w ++ tl m.w) := by
  subst e
  exact p.app (Path.step h)
theorem Path.nil_inv (p : Path M s [] t r w) : t = s ∧ r = [] ∧ w = [] := by
  cases p
  exact ⟨rfl, rfl, rfl⟩
theorem Path.cons_inv {k : Nat} (p : Path M s (k :: ks) t r w) : ∃ m r' w', M.moves[k]? = some m ∧ m.s = s ∧ Path M m.g ks t r' w' ∧ r = tl m.r ++ r' ∧ w = tl m.w ++ w' := by
  cases p with
  | cons h q => exact ⟨_, _, _, h, rfl, q, rfl, rfl⟩
theorem Path.fn : ∀ {ks : List Nat} {s t t' : Int} {r w r' w' : List Nat}, Path M s ks t r w → Path M s ks t' r' w' → t = t' ∧ r = r' ∧ w = w'
  | [], _, _, _, _, _, _, _, p, q => by
    obtain ⟨rfl, rfl, rfl⟩ := p.nil_inv
    obtain ⟨rfl, rfl, rfl⟩ := q.nil_inv
    exact ⟨rfl, rfl, rfl⟩
  | k :: ks, _, _, _, _, _, _, _, p, q => by
    obtain ⟨m, r1, w1, h, _, p1, e1, e2⟩ := p.cons_inv
    obtain ⟨m', r2, w2, h', _, q1, e3, e4⟩ := q.cons_inv
    rw [h] at h'
    cases h'
    obtain ⟨e5, e6, e7⟩ := Path.fn p1 q1
    exact ⟨e5, by rw [e1, e3, e6], by rw [e2, e4, e7]⟩
theorem Path.lt : ∀ {ks : List Nat} {s t : Int} {r w : List Nat}, Path M s ks t r w → ∀ k ∈ ks, k < M.moves.length
  | [], _, _, _, _, _, _, h => nomatch h
  | k :: ks, _, _, _, _, p, j, h => by
    obtain ⟨m, r1, w1, hm, _, p1, _, _⟩ := p.cons_inv
    rcases List.mem_cons.mp h with e | h
    · rw [e]
      exact (List.getElem?_eq_some_iff.mp hm).1
    · exact p1.lt j h
/-- what a way reads is no longer than it -/
theorem Path.rlen (hr : ∀ m ∈ M.moves, m.r.length ≤ 1) : ∀ {ks : List Nat} {s t : Int} {r w : List Nat}, Path M s ks t r w → r.length ≤ ks.length
  | [], _, _, _, _, p => by
    obtain ⟨rfl, rfl, rfl⟩ := p.nil_inv
    exact Nat.le_refl _
  | k :: ks, _, _, _, _, p => by
    obtain ⟨m, r1, w1, hm, _, p1, e1, e2⟩ := p.cons_inv
    have h1 := hr m (List.mem_of_getElem? hm)
    have h2 := p1.rlen hr
    have h3 : (tl m.r).length = m.r.length := by
      show m.r.cps.toList.length = m.r.cps.size
      exact Array.length_toList
    rw [e1, List.length_append, List.length_cons]
    omega
theorem Path.wlen (hr : ∀ m ∈ M.moves, m.w.length ≤ 1) : ∀ {ks : List Nat} {s t : Int} {r w : List Nat}, Path M s ks t r w → w.length ≤ ks.length
  | [], _, _, _, _, p => by
    obtain ⟨rfl, rfl, rfl⟩ := p.nil_inv
    exact Nat.le_refl _
  | k :: ks, _, _, _, _, p => by
    obtain ⟨m, r1, w1, hm, _, p1, e1, e2⟩ := p.cons_inv
    have h1 := hr m (List.mem_of_getElem? hm)
    have h2 := p1.wlen hr
    have h3 : (tl m.w).length = m.w.length := by
      show m.w.cps.toList.length = m.w.cps.size
      exact Array.length_toList
    rw [e2, List.length_append, List.length_cons]
    omega
end
theorem tl_len (x : Str) : (tl x).length = x.length := by
  show x.cps.toList.length = x.cps.size
  exact Array.length_toList
theorem tl_inj {x y : Str} (h : tl x = tl y) : x = y := by
  obtain ⟨a⟩ := x
  obtain ⟨b⟩ := y
  have e : a.toList = b.toList := h
  rw [Array.toList_inj.mp e]
theorem tl_cat (x y : Str) : tl (x ++ y) = tl x ++ tl y := by
  show (x.cps ++ y.cps).toList = _
  exact Array.toList_append
theorem tl_nil : tl (Str.ofString "") = [] := by decide +kernel
/-- texts glued -/
theorem tl_glue : ∀ ys : List Str, tl (Str.join (Str.ofString "") ys) = (ys.map tl).flatten
  | [] => rfl
  | [x] => by
    show tl x = tl x ++ []
    rw [List.append_nil]
  | x :: z :: r => by
    show tl (x ++ Str.ofString "" ++ Str.join (Str.ofString "") (z :: r)) = tl x ++ ((z :: r).map tl).flatten
    rw [tl_cat, tl_cat, tl_nil, List.append_nil, tl_glue (z :: r)]
/-! ### what the functions of the program promise -/
/-- the places of a way, as data, as values -/
def ksD (ks : List Nat) : List PyData := ks.map fun (k : Nat) => PyData.int (k : Int)
def ksV (ks : List Nat) : List V := ks.map fun (k : Nat) => V.int (k : Int)
theorem ksV_len (ks : List Nat) : (ksV ks).length = ks.length := List.length_map _
theorem ks_of {K : PySem.W.Frag} {H : Hp} : ∀ {ks : List Nat} {vs : List V}, DpAll K H vs (ksD ks) → vs = ksV ks
  | [], _, .nil => rfl
  | k :: ks, _, .cons x r => by
    rw [dp_int x, ks_of r]
    rfl
theorem ks_dp {K : PySem.W.Frag} {H : Hp} : ∀ ks : List Nat, DpAll K H (ksV ks) (ksD ks)
  | [] => .nil
  | k :: ks => .cons (.int _) (ks_dp ks)
/-- a way with as few moves as any comes back, or None where there is none -/
def RetWay (M : Mc) (r w : List Nat) (H : Hp) (Q : VK) : Prop := (∀ H', Same H H' → (∀ ks, ¬ IsWay M ks r w) → Q .non H') ∧
  ∀ (H' : Hp) (p : Addr) (ks : List Nat), Same H H' → H p = none → H' p = some (.lst (ksV ks)) → IsWay M ks r w → (∀ ks', IsWay M ks' r w → ks.length ≤ ks'.length) → ks.length ≤ 10000000 → Q (.ref p) H'
def spWay (K : PySem.W.Frag) : Sp := fun vs H Q _ => ∃ (v : V) (M : Mc) (x y : Str), vs = [v, .str x, .str y] ∧ Dp K H v (mcD M) ∧ M.Ok ∧ M.n.toNat * (x.length + 1) * (y.length + 1) ≤ 10000000 ∧ RetWay M (tl x) (tl y) H Q
def spReads (K : PySem.W.Frag) : Sp := fun vs H Q _ => ∃ (v : V) (M : Mc) (x : Str), vs = [v, .str x] ∧ Dp K H v (mcD M) ∧ M.Ok ∧ M.n.toNat * (x.length + 1) ≤ 10000000 ∧
  ∀ (H' : Hp) (b : Bool), Same H H' → (b = true ↔ ∃ ks w, IsWay M ks (tl x) w) → Q (.bl b) H'

/-! ### the moves of a way, their texts -/
def mvsOf (M : Mc) (ks : List Nat) : List Mv := ks.filterMap fun k => M.moves[k]?
theorem Path.rtext {M : Mc} {s t : Int} {ks : List Nat} {r w : List Nat} (p : Path M s ks t r w) : ((mvsOf M ks).map fun m => tl m.r).flatten = r ∧ ((mvsOf M ks).map fun m => tl m.w).flatten = w ∧ (mvsOf M ks).length = ks.length := by
  induction p with
  | nil s => exact ⟨rfl, rfl, rfl⟩
  | @cons k m ks t r w h _ ih =>
    have e : mvsOf M (k :: ks) = m :: mvsOf M ks := by
      unfold mvsOf
      rw [List.filterMap_cons_some h]
    rw [e]
    refine ⟨?_, ?_, ?_⟩
    · rw [List.map_cons, List.flatten_cons, ih.1]
    · rw [List.map_cons, List.flatten_cons, ih.2.1]
    · rw [List.length_cons, List.length_cons, ih.2.2]
theorem mvsOf_mem {M : Mc} {ks : List Nat} {m : Mv} (h : m ∈ mvsOf M ks) : m ∈ M.moves := by
  obtain ⟨k, _, e⟩ := List.mem_filterMap.mp h
  exact List.mem_of_getElem? e
theorem range_fmb {α β : Type} (l : List α) (g : α → Option β) : ∀ n : Nat, (List.range n).filterMap (fun i => l[i]?.bind g) = (l.take n).filterMap g
  | 0 => rfl
  | n + 1 => by
    rw [List.range_succ, List.filterMap_append, range_fmb l g n, List.take_add_one, List.filterMap_append]
    cases h : l[n]? with
    | none =>
      rw [List.filterMap_cons_none (by rw [h]; rfl)]
      rfl
    | some x =>
      cases h2 : g x with
      | none =>
        rw [List.filterMap_cons_none (by rw [h]; exact h2), List.filterMap_nil]
        show _ ++ [] = _ ++ List.filterMap g [x]
        rw [List.filterMap_cons_none h2, List.filterMap_nil]
      | some y =>
        rw [List.filterMap_cons_some (b := y) (by rw [h]; exact h2), List.filterMap_nil]
        show _ ++ [y] = _ ++ List.filterMap g [x]
        rw [List.filterMap_cons_some h2, List.filterMap_nil]
theorem sum_len1 : ∀ ys : List Str, (∀ y ∈ ys, y.length ≤ 1) → (ys.map (·.length)).sum ≤ ys.length
  | [], _ => Nat.le_refl _
  | y :: ys, h => by
    rw [List.map_cons, List.sum_cons, List.length_cons]
    have h1 := h y List.mem_cons_self
    have h2 := sum_len1 ys fun z hz => h z (List.mem_cons_of_mem _ hz)
    omega
/-! ### signs that may stand in a text -/
theorem strOk_iff (x : Str) : PyData.strOk x = true ↔ ∀ c ∈ tl x, c < 0x110000 := by
  unfold PyData.strOk
  rw [Array.all_eq_true']
  constructor
  · intro h c hc
    simpa using h c (Array.mem_def.mpr hc)
  · intro h c hc
    simpa using h c (Array.mem_def.mp hc)
theorem Path.strs {M : Mc} {s t : Int} {ks : List Nat} {r w : List Nat} (hs : ∀ m ∈ M.moves, PyData.strOk m.r = true ∧ PyData.strOk m.w = true) (p : Path M s ks t r w) : (∀ c ∈ r, c < 0x110000) ∧ ∀ c ∈ w, c < 0x110000 := by
  induction p with
  | nil s => exact ⟨(fun _ h => nomatch h), (fun _ h => nomatch h)⟩
  | @cons k m ks t r w h _ ih =>
    have hm := hs m (List.mem_of_getElem? h)
    constructor
    · intro c hc
      rcases List.mem_append.mp hc with hc | hc
      · exact (strOk_iff _).mp hm.1 c hc
      · exact ih.1 c hc
    · intro c hc
      rcases List.mem_append.mp hc with hc | hc
      · exact (strOk_iff _).mp hm.2 c hc
      · exact ih.2 c hc
/-- two texts as a tuple -/
theorem shaped_two {x y : Str} (h1 : PyData.strOk x = true) (h2 : PyData.strOk y = true) : SeqAt.shaped (.tuple [.str x, .str y]) = true := by
  unfold SeqAt.shaped
  rw [Bool.and_eq_true]
  exact ⟨(by simp [PyData.canLay0, PyData.canLayAll0, h1, h2]), decide_eq_true (show PyData.depth (.tuple [.str x, .str y]) ≤ 64 by simp [PyData.depth, PyData.depthAll])⟩
theorem two_dp {K : PySem.W.Frag} {H : Hp} {p : Addr} {x y : Str} (h : SqT K H p [.str x, .str y]) : Dp K H (.ref p) (.tuple [.str x, .str y]) := .tup h (.cons (.str _) (.cons (.str _) .nil))
theorem eqv_self {d : PyData} (h : SeqAt.shaped d = true) : PyData.eqv d d = true := SeqAt.eqv_refl _ (SeqAt.canLay_of_shaped h)
theorem tl_join (ys : List Str) : tl (Txt.join (Str.ofString "") ys) = (ys.map tl).flatten := by
  rw [TL.join_eq]
  exact tl_glue ys
/-! ### what a machine writes -/
def Writes (M : Mc) (r w : List Nat) : Prop := ∃ ks, IsWay M ks r w
def Mv.turn (m : Mv) : Mv := ⟨m.s, m.w, m.r, m.g⟩
def Mc.turn (M : Mc) : Mc := ⟨M.n, M.b, M.ends, M.moves.map Mv.turn⟩
theorem Mc.turn_turn (M : Mc) : M.turn.turn = M := by
  obtain ⟨n, b, e, l⟩ := M
  unfold Mc.turn
  have h : (l.map Mv.turn).map Mv.turn = l := by
    rw [List.map_map]
    exact List.map_id l
  rw [h]
theorem Path.turn {M : Mc} {s t : Int} {ks : List Nat} {r w : List Nat} (p : Path M s ks t r w) : Path M.turn s ks t w r := by
  induction p with
  | nil s => exact .nil s
  | @cons k m ks t r w h _ ih =>
    exact Path.cons (M := M.turn) (m := m.turn) (by show (M.moves.map Mv.turn)[k]? = _; rw [List.getElem?_map, h]; rfl) ih
theorem IsWay.turn {M : Mc} {ks : List Nat} {r w : List Nat} (h : IsWay M ks r w) : IsWay M.turn ks w r := by
  obtain ⟨t, p, e⟩ := h
  exact ⟨t, p.turn, e⟩
theorem IsWay.unturn {M : Mc} {ks : List Nat} {r w : List Nat} (h : IsWay M.turn ks w r) : IsWay M ks r w := by
  have q := h.turn
  rw [Mc.turn_turn] at q
  exact q
theorem Writes.turn {M : Mc} {r w : List Nat} (h : Writes M r w) : Writes M.turn w r := by
  obtain ⟨ks, h⟩ := h
  exact ⟨ks, h.turn⟩
theorem Mc.Ok.turn {M : Mc} (h : M.Ok) : M.turn.Ok := by
  obtain ⟨n1, n2, b, e, el, ml, s, g, r, w⟩ := h
  have f : ∀ m ∈ M.turn.moves, ∃ m0 ∈ M.moves, m = m0.turn := fun m hm => by
    obtain ⟨m0, h0, rfl⟩ := List.mem_map.mp hm
    exact ⟨m0, h0, rfl⟩
  refine ⟨n1, n2, b, e, el, by show (M.moves.map Mv.turn).length ≤ 1000; rw [List.length_map]; exact ml, fun m hm => ?_, fun m hm => ?_, fun m hm => ?_, fun m hm => ?_⟩
  · obtain ⟨m0, h0, rfl⟩ := f m hm
    exact s m0 h0
  · obtain ⟨m0, h0, rfl⟩ := f m hm
    exact g m0 h0
  · obtain ⟨m0, h0, rfl⟩ := f m hm
    exact w m0 h0
  · obtain ⟨m0, h0, rfl⟩ := f m hm
    exact r m0 h0
/-- the joined machine of both may be made -/
structure Fits (A B : Mc) : Prop where
  st : A.n * B.n ≤ 100
  mv : (A.moves.length + A.n) * (B.moves.length + B.n) ≤ 1000
/-- J is a joined machine of A and B -/
structure Joins (A B J : Mc) : Prop where
  ok : J.Ok
  n : J.n ≤ A.n * B.n
  wr : ∀ r w, Writes J r w ↔ ∃ m, Writes A r m ∧ Writes B m w
def spJoined (K : PySem.W.Frag) : Sp := fun vs H Q _ => ∃ (v u : V) (A B : Mc), vs = [v, u] ∧ Dp K H v (mcD A) ∧ Dp K H u (mcD B) ∧ A.Ok ∧ B.Ok ∧ Fits A B ∧ ∀ (H' : Hp) (x : V) (J : Mc), Same H H' → Dp K H' x (mcD J) → Joins A B J → Q x H'
def spTurned' (K : PySem.W.Frag) : Sp := fun vs H Q _ => ∃ (v : V) (M : Mc), vs = [v] ∧ Dp K H v (mcD M) ∧ M.Ok ∧ ∀ (H' : Hp) (x : V), Same H H' → Dp K H' x (mcD M.turn) → Q x H'

/-! ### two machines, one behind the other, step by step -/
structure JS where
  p : Int
  q : Int
  r : Str
  w : Str
def jsD (s : JS) : PyData := .tuple [.int s.p, .int s.q, .str s.r, .str s.w]
theorem hard_js (s : JS) : hard (jsD s) = true := rfl
theorem js_dp {K : PySem.W.Frag} {H : Hp} {a : Addr} {s : JS} (h : SqT K H a [.int s.p, .int s.q, .str s.r, .str s.w]) : Dp K H (.ref a) (jsD s) :=
  .tup h (.cons (.int _) (.cons (.int _) (.cons (.str _) (.cons (.str _) .nil))))
theorem dp_js {K : PySem.W.Frag} {H : Hp} {v : V} {m : JS} (h : Dp K H v (jsD m)) : ∃ a, v = .ref a ∧ SqT K H a [.int m.p, .int m.q, .str m.r, .str m.w] := by
  obtain ⟨a, xs, e, s, r⟩ := dp_tup h
  cases r with
  | cons r1 r =>
    cases r with
    | cons r2 r =>
      cases r with
      | cons r3 r =>
        cases r with
        | cons r4 r =>
          cases r
          rw [dp_int r1, dp_int r2, dp_str r3, dp_str r4] at s
          exact ⟨a, e, s⟩
/-- a step of both that stand at p and q -/
def JStep (A B : Mc) (p q : Int) (s : JS) : Prop := ∃ ks js m, Path A p ks s.p (tl s.r) m ∧ Path B q js s.q m (tl s.w) ∧ s.r.length ≤ 1 ∧ s.w.length ≤ 1 ∧ PyData.strOk s.r = true ∧ PyData.strOk s.w = true
theorem js_canLay : ∀ l : List JS, (∀ s ∈ l, PyData.strOk s.r = true ∧ PyData.strOk s.w = true) → PyData.canLayAll0 (l.map jsD) = true ∧ PyData.depthAll (l.map jsD) ≤ 1
  | [], _ => by simp [PyData.canLayAll0, PyData.depthAll]
  | m :: ms, h => by
    have ih := js_canLay ms fun x hx => h x (List.mem_cons_of_mem _ hx)
    have hm := h m List.mem_cons_self
    constructor
    · simp [PyData.canLayAll0, PyData.canLay0, jsD, ih.1, hm.1, hm.2]
    · have h1 : PyData.depth (jsD m) = 1 := by simp [PyData.depth, PyData.depthAll, jsD]
      rw [List.map_cons, PyData.depthAll, h1]
      omega
/-- a list of steps against a new empty list -/
theorem r_eqNilD {K : PySem.W.Frag} {H : Hp} {Q : VK} {p q : Addr} {xs : List V} {ds : List PyData} (hs : SqL K H p xs) (hd : DpAll K H xs ds) (h1 : PyData.canLayAll0 ds = true) (h2 : PyData.depthAll ds ≤ 63) (hq : SqL K H q []) (h : Q (.bl ds.isEmpty) H) : rEqD K (.ref p) (.ref q) H Q := by
  refine ⟨.list ds, .list [], .lst hs hd, .lst hq .nil, shaped_list h1 h2, by decide +kernel, ?_⟩
  rw [eqv_nil]
  exact h
/-- an item of a list, told by data -/
theorem pickD {α : Type} {K : PySem.W.Frag} {H : Hp} {f : α → PyData} {xs : List V} {ss : List α} {j : Int} (hd : DpAll K H xs (ss.map f)) (h0 : 0 ≤ j) (h1 : j < xs.length) : ∃ x s, s ∈ ss ∧ atI xs j = some x ∧ Dp K H x (f s) := by
  have h2 : j.toNat < xs.length := by omega
  obtain ⟨d, e, q⟩ := dpAll_get hd (List.getElem?_eq_getElem h2)
  rw [List.getElem?_map] at e
  obtain ⟨s, hs, rfl⟩ := Option.map_eq_some_iff.mp e
  refine ⟨_, s, List.mem_of_getElem? hs, ?_, q⟩
  have e2 : ((j.toNat : Nat) : Int) = j := Int.toNat_of_nonneg h0
  have q2 := atI_nat (List.getElem?_eq_getElem h2)
  rw [e2] at q2
  exact q2
/-- two ways that have come to p and q, one behind the other -/
def JPath (A B : Mc) (p q : Int) (x y : Str) : Prop := ∃ ks js m, Path A A.b ks p (tl x) m ∧ Path B B.b js q m (tl y)
theorem JPath.step {A B : Mc} {p q : Int} {x y : Str} {s : JS} (h : JPath A B p q x y) (g : JStep A B p q s) : JPath A B s.p s.q (x ++ s.r) (y ++ s.w) := by
  obtain ⟨ks, js, m, p1, p2⟩ := h
  obtain ⟨ks', js', m', q1, q2, _⟩ := g
  refine ⟨ks ++ ks', js ++ js', m ++ m', ?_, ?_⟩
  · rw [tl_cat]
    exact p1.app q1
  · rw [tl_cat]
    exact p2.app q2
theorem JPath.writes {A B : Mc} {p q : Int} {x y : Str} (h : JPath A B p q x y) (hp : p ∈ A.ends) (hq : q ∈ B.ends) : ∃ m, Writes A (tl x) m ∧ Writes B m (tl y) := by
  obtain ⟨ks, js, m, p1, p2⟩ := h
  exact ⟨m, ⟨ks, _, p1, hp⟩, ⟨js, _, p2, hq⟩⟩
theorem len_cat (x y : Str) : (x ++ y).length = x.length + y.length := by
  rw [← tl_len, tl_cat, List.length_append, tl_len, tl_len]
theorem strOk_cat {x y : Str} (hx : PyData.strOk x = true) (hy : PyData.strOk y = true) : PyData.strOk (x ++ y) = true := by
  rw [strOk_iff] at hx hy ⊢
  intro c hc
  rw [tl_cat] at hc
  rcases List.mem_append.mp hc with h | h
  · exact hx c h
  · exact hy c h
/-! ### what way tells, as one -/
def WayRes (M : Mc) (r w : List Nat) (x : V) (H : Hp) : Prop := (x = .non ∧ ∀ ks, ¬ IsWay M ks r w) ∨ ∃ p ks, x = .ref p ∧ H p = some (.lst (ksV ks)) ∧ IsWay M ks r w ∧ (∀ ks', IsWay M ks' r w → ks.length ≤ ks'.length) ∧ ks.length ≤ 10000000
theorem RetWay.of {M : Mc} {r w : List Nat} {H : Hp} {Q : VK} (h : ∀ H' x, Same H H' → WayRes M r w x H' → Q x H') : RetWay M r w H Q :=
  ⟨fun H' s no => h H' _ s (.inl ⟨rfl, no⟩), fun H' p ks s _ e i m b => h H' _ s (.inr ⟨p, ks, rfl, e, i, m, b⟩)⟩
/-- a way's moves told, -1 where there is none -/
def MovesN (K : PySem.W.Frag) (H : Hp) (v : V) (n : Int) : Prop := (v = .non ∧ n = -1) ∨ ∃ p ks, v = .ref p ∧ SqL K H p (ksV ks) ∧ n = (ks.length : Int)
theorem WayRes.moves {K : PySem.W.Frag} {M : Mc} {r w : List Nat} {x : V} {H : Hp} (h : WayRes M r w x H) : ∃ n, MovesN K H x n ∧ ((n = -1 ∧ ∀ ks, ¬ IsWay M ks r w) ∨ ∃ ks, n = ((List.length ks : Nat) : Int) ∧ IsWay M ks r w ∧ ∀ ks', IsWay M ks' r w → ks.length ≤ ks'.length) := by
  rcases h with ⟨rfl, no⟩ | ⟨p, ks, rfl, e, i, m, b⟩
  · exact ⟨-1, .inl ⟨rfl, rfl⟩, .inl ⟨rfl, no⟩⟩
  · exact ⟨_, .inr ⟨p, ks, rfl, SqL.of e, rfl⟩, .inr ⟨ks, rfl, i, m⟩⟩
theorem moves_turn {M : Mc} {r w : List Nat} {n1 n2 : Int} (h1 : (n1 = -1 ∧ ∀ ks, ¬ IsWay M ks r w) ∨ ∃ ks, n1 = ((List.length ks : Nat) : Int) ∧ IsWay M ks r w ∧ ∀ ks', IsWay M ks' r w → ks.length ≤ ks'.length)
    (h2 : (n2 = -1 ∧ ∀ ks, ¬ IsWay M.turn ks w r) ∨ ∃ ks, n2 = ((List.length ks : Nat) : Int) ∧ IsWay M.turn ks w r ∧ ∀ ks', IsWay M.turn ks' w r → ks.length ≤ ks'.length) : n1 = n2 := by
  rcases h1 with ⟨e1, no1⟩ | ⟨ks1, e1, i1, m1⟩
  · rcases h2 with ⟨e2, no2⟩ | ⟨ks2, e2, i2, m2⟩
    · rw [e1, e2]
    · exact absurd i2.unturn (no1 ks2)
  · rcases h2 with ⟨e2, no2⟩ | ⟨ks2, e2, i2, m2⟩
    · exact absurd i1.turn (no2 ks1)
    · have a := m1 ks2 i2.unturn
      have b := m2 ks1 i1.turn
      omega
theorem WayRes.some {M : Mc} {r w : List Nat} {x : V} {H : Hp} (h : WayRes M r w x H) (hw : Writes M r w) : ∃ p ks, x = .ref p ∧ H p = some (.lst (ksV ks)) ∧ IsWay M ks r w ∧ ks.length ≤ 10000000 ∧ ∀ ks', IsWay M ks' r w → ks.length ≤ ks'.length := by
  rcases h with ⟨rfl, no⟩ | ⟨p, ks, rfl, e, i, m, b⟩
  · obtain ⟨ks, i⟩ := hw
    exact absurd i (no ks)
  · exact ⟨p, ks, rfl, e, i, b, m⟩
end Tw

/-! Errors: calls that may raise, a clause that catches. -/
namespace Tw
open PySem L2
section
variable {X : Cx} {k j : Nat} {x : Str} {ps : List Str} {sp : Sp} {p pos : Pos} {e : Expr} {es : List Expr} {t : TA} {E : St → XK}
theorem passE0 : Passes (L2.CX X.prog X.w) X E0 := fun _ _ _ _ _ _ _ h => by
  obtain ⟨_, _, _, _, _, _, _, _, _, _, _, _, z⟩ := h
  exact z.elim
/-- a call that could raise, but does not here -/
theorem pe_callL (c : Cal X.prog X.w X.K X.mg X.base (L2.CX X.prog X.w) j x ps sp) (hr : Room k X.A) (hj : j ≤ k) (hg : Gl X x) (ha : PA X (e :: es) t) (hdb : (x == ("__debug__" : Str)) = false := by decide)
    (he : starEach (e :: es) X.env = (false, eval e X.env) :: starEach es X.env := by rfl) (hpl : (backTo pos (starEach es X.env)).any (·.1) = false := by rfl) :
    PE X (.Call (.Name x p) (e :: es) [] pos) (tCall sp [] E0 t) := by
  obtain ⟨f, fd, F, a, b, d⟩ := c.ex
  exact pe_call F (hr.mono hj) hg a b d .nil passE0 ha hdb he hpl
/-- a call that may raise, in a try -/
theorem pe_callSC (c : Cal X.prog X.w X.K X.mg X.base (L2.CX X.prog X.w) j x ps sp) (hr : Room k X.A) (hj : j ≤ k) (hg : Gl X x) (hx : ∀ σ, PassesAt (L2.CX X.prog X.w) X σ (E σ)) (ha : PA X (e :: es) t) (hdb : (x == ("__debug__" : Str)) = false := by decide)
    (he : starEach (e :: es) X.env = (false, eval e X.env) :: starEach es X.env := by rfl) (hpl : (backTo pos (starEach es X.env)).any (·.1) = false := by rfl) :
    PE X (.Call (.Name x p) (e :: es) [] pos) (tCallS sp E t) := by
  obtain ⟨f, fd, F, a, b, d⟩ := c.ex
  exact pe_callS F (hr.mono hj) hg a b d hx ha hdb he hpl
theorem pss_when {X : Cx} {q : Prop} {ss : List Stmt} {t : TS} (h : q → PSs X ss t) : PSs X ss (fun D σ H => q ∧ t D σ H) :=
  ⟨fun pins s σ H D I z => (h z.1).run pins s σ H D I z.2⟩
theorem zc_of {cls c : Value} {d d' : Option Addr} {oe : Obj} (h : cls = c ∧ d = d') (z : Zc cls d oe) : Zc c d' oe := by
  obtain ⟨rfl, rfl⟩ := h
  exact z
end
section
variable {K : PySem.W.Frag} {σ : St} {H : Hp} {Q : VK} {t : TA} {sp : Sp} {E : St → XK} {D a B : Addr}
theorem r_callS (h : t σ H fun vs H1 => sp vs H1 Q (E σ)) : tCallS sp E t σ H Q := h
theorem r_isE {b : Bool} (e : PySem.W.kitOne K (.ref D) (.ref B) = some b) (h : Q (.bl b) H) : rIsE K D a [.ref a, .ref B] H Q := ⟨.ref B, .ref B, b, rfl, (fun u r => r), e, h⟩
theorem r_isEty {b : Bool} {n : String} (e : PySem.W.kitOne K (.ref D) (.type n) = some b) (h : Q (.bl b) H) : rIsE K D a [.ref a, .ty n] H Q := ⟨.ty n, .type n, b, rfl, (fun u r => r), e, h⟩
end
/-- the four classes of refusals -/
structure Errs (K : PySem.W.Frag) (mg : Str → Option Value) (M B G T : Addr) : Prop where
  gM : mg "MachineError" = some (.ref M)
  gB : mg "BadMachine" = some (.ref B)
  gG : mg "TooGreat" = some (.ref G)
  gT : mg "Twofold" = some (.ref T)
  n_ValueError : mg "ValueError" = none
  bM : PySem.W.subIn K (.ref M) (.type "BaseException") = some true
  dM : PySem.W.hasDictIn K M = true
  yM : PySem.W.typeIn K (.ref M) = some (.type "type")
  eB : ExcC K B
  eG : ExcC K G
  eT : ExcC K T
  yB : PySem.W.typeIn K (.ref B) = some (.type "type")
  yG : PySem.W.typeIn K (.ref G) = some (.type "type")
  yT : PySem.W.typeIn K (.ref T) = some (.type "type")
  sBM : PySem.W.subIn K (.ref B) (.ref M) = some true
  sGM : PySem.W.subIn K (.ref G) (.ref M) = some true
  sTM : PySem.W.subIn K (.ref T) (.ref M) = some true
  zTT : PySem.W.subIn K (.ref T) (.ref T) = some true
  sBG : PySem.W.subIn K (.ref B) (.ref G) = some false
  sBT : PySem.W.subIn K (.ref B) (.ref T) = some false
  sGB : PySem.W.subIn K (.ref G) (.ref B) = some false
  sGT : PySem.W.subIn K (.ref G) (.ref T) = some false
  sTB : PySem.W.subIn K (.ref T) (.ref B) = some false
  sTG : PySem.W.subIn K (.ref T) (.ref G) = some false
  vB : PySem.W.subIn K (.ref B) (.type "ValueError") = some true
  vG : PySem.W.subIn K (.ref G) (.type "ValueError") = some true
  vT : PySem.W.subIn K (.ref T) (.type "ValueError") = some true
  nBG : B ≠ G
  nBT : B ≠ T
  nGT : G ≠ T
section
variable {K : PySem.W.Frag} {mg : Str → Option Value} {M B G T C D : Addr} {b : Bool}
theorem kit_self : PySem.W.kitOne K (.ref D) (.ref D) = some true := by
  unfold PySem.W.kitOne
  rw [if_pos (by simp)]
theorem clsIn_of (hd : PySem.W.hasDictIn K C = true) : (PySem.W.clsIn K C).isSome = true := by
  obtain ⟨cd, hc, _⟩ := PySem.W.any_some hd
  rw [hc]
  rfl
theorem kit_ref (hd : PySem.W.hasDictIn K C = true) (hy : PySem.W.typeIn K (.ref C) = some (.type "type")) (hs : PySem.W.subIn K (.ref D) (.ref C) = some b) (hn : D ≠ C) : PySem.W.kitOne K (.ref D) (.ref C) = some b := by
  unfold PySem.W.kitOne
  rw [if_neg (fun z => hn (by cases (beq_iff_eq.mp z); rfl))]
  show (if ((PySem.W.clsIn K C).isSome && PySem.W.typeIn K (.ref C) == some (.type "type")) = true then PySem.W.subIn K (.ref D) (.ref C) else none) = some b
  rw [clsIn_of hd, hy, hs]
  rfl
theorem Errs.mB (e : Errs K mg M B G T) : PySem.W.exmOne K (.ref B) (.ref M) = some true := PySem.W.exm_ref e.bM e.dM e.yM e.sBM
theorem Errs.mG (e : Errs K mg M B G T) : PySem.W.exmOne K (.ref G) (.ref M) = some true := PySem.W.exm_ref e.bM e.dM e.yM e.sGM
theorem Errs.mT (e : Errs K mg M B G T) : PySem.W.exmOne K (.ref T) (.ref M) = some true := PySem.W.exm_ref e.bM e.dM e.yM e.sTM
theorem Errs.sTT (e : Errs K mg M B G T) : PySem.W.exmOne K (.ref T) (.ref T) = some true := PySem.W.exm_ref e.eT.hs e.eT.hd e.yT e.zTT
theorem kit_val {D : Addr} (hs : PySem.W.subIn K (.ref D) (.type "ValueError") = some true) : PySem.W.kitOne K (.ref D) (.type "ValueError") = some true := by
  unfold PySem.W.kitOne
  have h : ((Value.ref D : Value) == Value.type "ValueError") = false := beq_eq_false_iff_ne.mpr (fun z => by cases z)
  rw [h, if_neg Bool.false_ne_true]
  show (if PySem.W.kitMeta "ValueError" = true then PySem.W.subIn K (.ref D) (.type "ValueError") else none) = some true
  rw [if_pos (by decide +kernel)]
  exact hs
theorem Errs.tB (e : Errs K mg M B G T) : PySem.W.kitOne K (.ref T) (.ref B) = some false := kit_ref e.eB.hd e.yB e.sTB (Ne.symm e.nBT)
theorem Errs.tG (e : Errs K mg M B G T) : PySem.W.kitOne K (.ref T) (.ref G) = some false := kit_ref e.eG.hd e.yG e.sTG (Ne.symm e.nGT)
theorem Errs.tT (e : Errs K mg M B G T) : PySem.W.kitOne K (.ref T) (.ref T) = some true := kit_self
theorem Errs.tV (e : Errs K mg M B G T) : PySem.W.kitOne K (.ref T) (.type "ValueError") = some true := kit_val e.vT
theorem Errs.bB (e : Errs K mg M B G T) : PySem.W.kitOne K (.ref B) (.ref B) = some true := kit_self
theorem Errs.bG (e : Errs K mg M B G T) : PySem.W.kitOne K (.ref B) (.ref G) = some false := kit_ref e.eG.hd e.yG e.sBG e.nBG
theorem Errs.bT (e : Errs K mg M B G T) : PySem.W.kitOne K (.ref B) (.ref T) = some false := kit_ref e.eT.hd e.yT e.sBT e.nBT
theorem Errs.bV (e : Errs K mg M B G T) : PySem.W.kitOne K (.ref B) (.type "ValueError") = some true := kit_val e.vB
theorem Errs.hB (e : Errs K mg M B G T) : PySem.W.kitOne K (.ref G) (.ref B) = some false := kit_ref e.eB.hd e.yB e.sGB (Ne.symm e.nBG)
theorem Errs.hG (e : Errs K mg M B G T) : PySem.W.kitOne K (.ref G) (.ref G) = some true := kit_self
theorem Errs.hT (e : Errs K mg M B G T) : PySem.W.kitOne K (.ref G) (.ref T) = some false := kit_ref e.eT.hd e.yT e.sGT e.nGT
theorem Errs.hV (e : Errs K mg M B G T) : PySem.W.kitOne K (.ref G) (.type "ValueError") = some true := kit_val e.vG
end
/-! ### more lists -/
theorem r_cat {H : Hp} {Q : VK} {l b : Addr} {xs zs : List V} (hl : H l = some (.lst xs)) (hb : H b = some (.lst zs)) (hz : xs.length + zs.length ≤ 1000) (h : ∀ p, H p = none → Q (.ref p) (upd H p (.lst (xs ++ zs)))) : rCat (.ref l) (.ref b) H Q :=
  ⟨l, b, xs, zs, rfl, rfl, hl, hb, Nat.le_trans hz (by decide), h⟩
theorem atI_last {α : Type} {ws : List α} {v : α} : atI (ws ++ [v]) (-1) = some v := by
  have e : ixN (ws ++ [v]).length (-1) = some ws.length := by
    unfold ixN
    simp
    try omega
  unfold atI
  rw [e]
  simp
theorem rgV_ints (n : Nat) : rgV 0 (n : Int) = ((List.range n).map fun (i : Nat) => (i : Int)).map V.int := by
  unfold rgV
  simp
theorem r_listRg {ta : TE} {σ : St} {K : PySem.W.Frag} {H : Hp} {Q : VK} {n : Nat} (hn : n ≤ 1000) (ha : ∀ R : VK, R (.int (n : Int)) H → ta σ H R) (h : ∀ p, H p = none → Q (.ref p) (upd H p (.lst (((List.range n).map fun (i : Nat) => (i : Int)).map V.int)))) : tLstRg (tRg1 ta) σ H Q := by
  refine ha _ ⟨_, rfl, RgOk.of_le (by omega) (by omega) (by omega) (by omega), fun q hq => ?_⟩
  rw [rgV_ints]
  exact h q hq
/-- the last item of a list that grows -/
theorem Gro.last {K : PySem.W.Frag} {H0 H : Hp} {L : Addr} {ds : List PyData} {d : PyData} (g : Gro K H0 L (ds ++ [d]) H) : ∃ vs v, SqL K H L vs ∧ atI vs (-1) = some v ∧ Dp K H v d := by
  obtain ⟨vs, h1, h2⟩ := g.h
  obtain ⟨ws, v, e, q1, q2⟩ := dpAll_snoc h2
  subst e
  exact ⟨_, v, SqL.of h1, atI_last, q2⟩
theorem Gro.sq {K : PySem.W.Frag} {H0 H : Hp} {L : Addr} {ds : List PyData} (g : Gro K H0 L ds H) : ∃ vs, SqL K H L vs ∧ DpAll K H vs ds := by
  obtain ⟨vs, h1, h2⟩ := g.h
  exact ⟨vs, SqL.of h1, h2⟩
theorem snoc_of {α : Type} {l : List α} (h : l.isEmpty = false) : ∃ ws v, l = ws ++ [v] := by
  rcases List.eq_nil_or_concat l with rfl | ⟨ws, v, e⟩
  · cases h
  · exact ⟨ws, v, by rw [e]; simp⟩
/-! ### twofold -/
def Twof (M : Mc) : Prop := ∃ r w w', Writes M r w ∧ Writes M r w' ∧ w ≠ w'
def spTwofold (K : PySem.W.Frag) : Sp := fun vs H Q _ => ∃ (v : V) (M : Mc), vs = [v] ∧ Dp K H v (mcD M) ∧ M.Ok ∧ (∀ m ∈ M.moves, PyData.strOk m.r = true ∧ PyData.strOk m.w = true) ∧ (∀ H', Same H H' → ¬ Twof M → Q .non H') ∧
  ∀ (H' : Hp) (p p1 p2 : Addr) (x : Str) (ks js : List Nat) (w w' : List Nat), Same H H' → H' p = some (.tup [.str x, .ref p1, .ref p2]) → H' p1 = some (.lst (ksV ks)) → H' p2 = some (.lst (ksV js)) → IsWay M ks (tl x) w → IsWay M js (tl x) w' → w ≠ w' → ks.length ≤ 10000000 → js.length ≤ 10000000 → Q (.ref p) H'
/-- two states stand together -/
def Live (M : Mc) (p q : Int) : Prop := ∃ ks js t u x m y, Path M.turn p ks t x m ∧ Path M q js u m y ∧ t ∈ M.ends ∧ u ∈ M.ends
def Tog (M : Mc) (p q : Int) : Prop := (∃ x y, JPath M.turn M p q x y) ∧ Live M p q
/-- what ahead tells -/
structure AheadOk (M : Mc) (rows : List JS) : Prop where
  srt : rows.Pairwise fun a b => a.p < b.p ∨ (a.p = b.p ∧ a.q < b.q)
  mem : ∀ p q, (∃ e ∈ rows, e.p = p ∧ e.q = q) ↔ Tog M p q
  one : ∀ e ∈ rows, e.r = Str.ofString "" ∨ e.w = Str.ofString ""
  txt : ∀ e ∈ rows, ∀ x y, JPath M.turn M e.p e.q x y → x ++ e.w = y ++ e.r
  len : rows.length ≤ 10000
  ok : ∀ e ∈ rows, PyData.strOk e.r = true ∧ PyData.strOk e.w = true
def spAhead (K : PySem.W.Frag) (T : Addr) : Sp := fun vs H Q E => ∃ (v : V) (M : Mc), vs = [v] ∧ Dp K H v (mcD M) ∧ M.Ok ∧ (∀ m ∈ M.moves, PyData.strOk m.r = true ∧ PyData.strOk m.w = true) ∧ (Twof M → ∀ H', Same H H' → E (.ref T) none H') ∧
  (¬ Twof M → ∀ (H' : Hp) (p : Addr) (xs : List V) (rows : List JS), Same H H' → H' p = some (.lst xs) → DpAll K H' xs (rows.map jsD) → AheadOk M rows → Q (.ref p) H')
end Tw

/-! Ways step by step over (state, places read, places written): the least number of moves. -/
namespace Tw
open PySem L2
theorem Path.unsnoc {M : Mc} : ∀ {ks : List Nat} {s t : Int} {r w : List Nat} {k : Nat}, Path M s (ks ++ [k]) t r w → ∃ m r' w', Path M s ks m.s r' w' ∧ M.moves[k]? = some m ∧ m.g = t ∧ r = r' ++ tl m.r ∧ w = w' ++ tl m.w
  | [], s, t, r, w, k, p => by
    obtain ⟨m, r1, w1, hm, hs, p1, e1, e2⟩ := p.cons_inv
    obtain ⟨rfl, rfl, rfl⟩ := p1.nil_inv
    subst hs
    exact ⟨m, [], [], .nil _, hm, rfl, by rw [e1, List.append_nil]; rfl, by rw [e2, List.append_nil]; rfl⟩
  | k0 :: ks, s, t, r, w, k, p => by
    obtain ⟨m, r1, w1, hm, hs, p1, e1, e2⟩ := p.cons_inv
    obtain ⟨m', r2, w2, p2, hm', hg, e3, e4⟩ := Path.unsnoc (ks := ks) p1
    subst hs
    exact ⟨m', _, _, Path.cons hm p2, hm', hg, by rw [e1, e3, List.append_assoc], by rw [e2, e4, List.append_assoc]⟩
/-- a state, places read, places written -/
structure Cf where
  s : Int
  i : Nat
  j : Nat
def Rch (M : Mc) (x y : List Nat) (t : Nat) (c : Cf) : Prop := ∃ ks, List.length ks = t ∧ Path M M.b ks c.s (x.take c.i) (y.take c.j) ∧ c.i ≤ x.length ∧ c.j ≤ y.length
def Stp (M : Mc) (x y : List Nat) (c d : Cf) : Prop := ∃ (k : Nat) (m : Mv), M.moves[k]? = some m ∧ m.s = c.s ∧ d = ⟨m.g, c.i + m.r.length, c.j + m.w.length⟩ ∧ (x.drop c.i).take m.r.length = tl m.r ∧ (y.drop c.j).take m.w.length = tl m.w
theorem take_more {l a : List Nat} {i n : Nat} (h : (l.drop i).take n = a) : l.take i ++ a = l.take (i + n) := by
  rw [← h, List.take_add]
theorem take_len {l a : List Nat} {i n : Nat} (h : (l.drop i).take n = a) (hn : a.length = n) (hi : i ≤ l.length) : i + n ≤ l.length := by
  have e := congrArg List.length h
  rw [List.length_take, List.length_drop, hn] at e
  omega
section
variable {M : Mc} {x y : List Nat} {c d : Cf} {t : Nat}
theorem Rch.step (h : Rch M x y t c) (g : Stp M x y c d) : Rch M x y (t + 1) d := by
  obtain ⟨ks, hl, p, hi, hj⟩ := h
  obtain ⟨k, m, hm, hs, rfl, e1, e2⟩ := g
  refine ⟨ks ++ [k], by rw [List.length_append, hl]; rfl, ?_, take_len e1 (tl_len _) hi, take_len e2 (tl_len _) hj⟩
  show Path M M.b (ks ++ [k]) m.g (x.take (c.i + m.r.length)) (y.take (c.j + m.w.length))
  rw [← take_more e1, ← take_more e2]
  exact p.snoc hm hs
theorem Rch.zero : Rch M x y 0 ⟨M.b, 0, 0⟩ := ⟨[], rfl, .nil _, Nat.zero_le _, Nat.zero_le _⟩
theorem take_nil {l : List Nat} {i : Nat} (h : l.take i = []) (hi : i ≤ l.length) : i = 0 := by
  have e := congrArg List.length h
  rw [List.length_take, List.length_nil] at e
  omega
theorem Rch.zero_inv (h : Rch M x y 0 c) : c = ⟨M.b, 0, 0⟩ := by
  obtain ⟨ks, hl, p, hi, hj⟩ := h
  obtain rfl := List.length_eq_zero_iff.mp hl
  obtain ⟨e1, e2, e3⟩ := p.nil_inv
  obtain ⟨s, i, j⟩ := c
  have z1 := take_nil e2 hi
  have z2 := take_nil e3 hj
  dsimp only at e1 z1 z2
  rw [e1, z1, z2]
theorem split_take {l r' a : List Nat} {i : Nat} (h : l.take i = r' ++ a) (hi : i ≤ l.length) : r' = l.take (i - a.length) ∧ (l.drop (i - a.length)).take a.length = a ∧ a.length ≤ i := by
  have hl := congrArg List.length h
  rw [List.length_take, List.length_append, Nat.min_eq_left hi] at hl
  have h1 : i - a.length = r'.length := by omega
  have h2 : l.take i = l.take (i - a.length) ++ (l.drop (i - a.length)).take a.length := by
    rw [← List.take_add]
    congr 1
    omega
  rw [h2] at h
  have h3 : (l.take (i - a.length)).length = r'.length := by
    rw [List.length_take]
    omega
  obtain ⟨e1, e2⟩ := List.append_inj h h3
  exact ⟨e1.symm, e2, by omega⟩
theorem Rch.inv (h : Rch M x y (t + 1) d) : ∃ c, Rch M x y t c ∧ Stp M x y c d := by
  obtain ⟨ks, hl, p, hi, hj⟩ := h
  rcases List.eq_nil_or_concat ks with rfl | ⟨ks', k, rfl⟩
  · cases hl
  · rw [List.concat_eq_append] at p hl
    obtain ⟨m, r', w', p1, hm, hg, e1, e2⟩ := p.unsnoc
    obtain ⟨a1, a2, a3⟩ := split_take e1 hi
    obtain ⟨b1, b2, b3⟩ := split_take e2 hj
    rw [tl_len] at a1 a2 a3 b1 b2 b3
    refine ⟨⟨m.s, d.i - m.r.length, d.j - m.w.length⟩, ⟨ks', by rw [List.length_append] at hl; exact Nat.succ.inj hl, ?_, by show d.i - m.r.length ≤ _; omega, by show d.j - m.w.length ≤ _; omega⟩, k, m, hm, rfl, ?_, a2, b2⟩
    · show Path M M.b ks' m.s (x.take (d.i - m.r.length)) (y.take (d.j - m.w.length))
      rw [← a1, ← b1]
      exact p1
    · obtain ⟨s, i, j⟩ := d
      dsimp only at hg a3 b3 ⊢
      rw [hg]
      congr 1 <;> omega
theorem way_rch {t : Nat} : (∃ ks, IsWay M ks x y ∧ ks.length = t) ↔ ∃ e ∈ M.ends, Rch M x y t ⟨e, x.length, y.length⟩ := by
  constructor
  · rintro ⟨ks, ⟨e, p, he⟩, hl⟩
    exact ⟨e, he, ks, hl, by show Path M M.b ks e (x.take x.length) (y.take y.length); rw [List.take_length, List.take_length]; exact p, Nat.le_refl _, Nat.le_refl _⟩
  · rintro ⟨e, he, ks, hl, p, _, _⟩
    have p2 : Path M M.b ks e (x.take x.length) (y.take y.length) := p
    rw [List.take_length, List.take_length] at p2
    exact ⟨ks, ⟨e, p2, he⟩, hl⟩
/-- in just so many steps, and in no fewer -/
def Mn (M : Mc) (x y : List Nat) (t : Nat) (c : Cf) : Prop := Rch M x y t c ∧ ∀ u, u < t → ¬ Rch M x y u c
theorem Mn.prev (h : Mn M x y (t + 1) d) : ∃ c, Mn M x y t c ∧ Stp M x y c d := by
  obtain ⟨c, h1, h2⟩ := h.1.inv
  exact ⟨c, ⟨h1, fun u hu z => h.2 (u + 1) (by omega) (z.step h2)⟩, h2⟩
theorem Mn.of : ∀ {t : Nat} {c : Cf}, Rch M x y t c → ∃ u, u ≤ t ∧ Mn M x y u c := by
  intro t
  induction t using Nat.strongRecOn with
  | ind t ih =>
    intro c h
    by_cases z : ∃ u, u < t ∧ Rch M x y u c
    · obtain ⟨u, hu, hr⟩ := z
      obtain ⟨v, hv, m⟩ := ih u hu hr
      exact ⟨v, by omega, m⟩
    · exact ⟨t, Nat.le_refl _, h, fun u hu hr => z ⟨u, hu, hr⟩⟩
theorem Mn.eq {t u : Nat} (h : Mn M x y t c) (g : Mn M x y u c) : t = u := by
  rcases Nat.lt_trichotomy t u with z | z | z
  · exact absurd h.1 (g.2 t z)
  · exact z
  · exact absurd g.1 (h.2 u z)
theorem Mn.line : ∀ {t : Nat} {c : Cf}, Mn M x y t c → ∃ f : Nat → Cf, ∀ u, u ≤ t → Mn M x y u (f u)
  | 0, c, h => ⟨fun _ => c, fun u hu => by
    obtain rfl : u = 0 := by omega
    exact h⟩
  | t + 1, c, h => by
    obtain ⟨c', h1, _⟩ := h.prev
    obtain ⟨f, hf⟩ := Mn.line h1
    refine ⟨fun u => if u = t + 1 then c else f u, fun u hu => ?_⟩
    by_cases z : u = t + 1
    · subst z
      dsimp only
      rw [if_pos rfl]
      exact h
    · dsimp only
      rw [if_neg z]
      exact hf u (by omega)
end
theorem nodup_lt : ∀ (N : Nat) (l : List Nat), l.Nodup → (∀ a ∈ l, a < N) → l.length ≤ N
  | 0, l, _, h => by
    cases l with
    | nil => exact Nat.le_refl _
    | cons a l => exact absurd (h a List.mem_cons_self) (by omega)
  | N + 1, l, hn, h => by
    have ih := nodup_lt N (l.erase N) (hn.erase N) (fun a ha => by
      have := hn.mem_erase_iff.mp ha
      have := h a this.2
      omega)
    have h2 : l.length ≤ (l.erase N).length + 1 := by
      by_cases hm : N ∈ l
      · rw [List.length_erase_of_mem hm]
        omega
      · rw [List.erase_of_not_mem hm]
        omega
    omega
/-- a code of a configuration, below the number of all -/
def cfCode (x y : List Nat) (c : Cf) : Nat := (c.s.toNat * (x.length + 1) + c.i) * (y.length + 1) + c.j
theorem code_inj {a b n i j : Nat} (hi : i < n) (hj : j < n) (h : a * n + i = b * n + j) : a = b ∧ i = j := by
  have h1 : (a * n + i) % n = i := by rw [Nat.mul_comm, Nat.mul_add_mod, Nat.mod_eq_of_lt hi]
  have h2 : (b * n + j) % n = j := by rw [Nat.mul_comm, Nat.mul_add_mod, Nat.mod_eq_of_lt hj]
  have h3 : (a * n + i) / n = a := by rw [Nat.mul_comm, Nat.mul_add_div (by omega), Nat.div_eq_of_lt hi, Nat.add_zero]
  have h4 : (b * n + j) / n = b := by rw [Nat.mul_comm, Nat.mul_add_div (by omega), Nat.div_eq_of_lt hj, Nat.add_zero]
  rw [h] at h1 h3
  exact ⟨h3.symm.trans h4, h1.symm.trans h2⟩
theorem Path.state {M : Mc} (ok : M.Ok) : ∀ {ks : List Nat} {s t : Int} {r w : List Nat}, St? M.n s → Path M s ks t r w → St? M.n t
  | [], s, t, r, w, hs, p => by
    obtain ⟨rfl, _, _⟩ := p.nil_inv
    exact hs
  | k :: ks, s, t, r, w, hs, p => by
    obtain ⟨m, r1, w1, hm, _, p1, _, _⟩ := p.cons_inv
    exact Path.state ok (ok.g m (List.mem_of_getElem? hm)) p1
theorem rch_lt {M : Mc} {x y : List Nat} {t : Nat} {c : Cf} (ok : M.Ok) (h : Rch M x y t c) : cfCode x y c < M.n.toNat * (x.length + 1) * (y.length + 1) ∧ St? M.n c.s ∧ c.i ≤ x.length ∧ c.j ≤ y.length := by
  obtain ⟨ks, _, p, hi, hj⟩ := h
  have hs := p.state ok ok.b
  refine ⟨?_, hs, hi, hj⟩
  obtain ⟨h0, h1⟩ := hs
  have a1 : c.s.toNat + 1 ≤ M.n.toNat := by omega
  have a2 : c.s.toNat * (x.length + 1) + c.i + 1 ≤ M.n.toNat * (x.length + 1) := by
    have := Nat.mul_le_mul_right (x.length + 1) a1
    rw [Nat.add_mul, Nat.one_mul] at this
    omega
  have a3 := Nat.mul_le_mul_right (y.length + 1) a2
  rw [Nat.add_mul, Nat.one_mul] at a3
  show (c.s.toNat * (x.length + 1) + c.i) * (y.length + 1) + c.j < _
  omega
theorem code_eq {x y : List Nat} {c d : Cf} (hc : 0 ≤ c.s ∧ c.i ≤ x.length ∧ c.j ≤ y.length) (hd : 0 ≤ d.s ∧ d.i ≤ x.length ∧ d.j ≤ y.length) (h : cfCode x y c = cfCode x y d) : c = d := by
  obtain ⟨c1, c2, c3⟩ := hc
  obtain ⟨d1, d2, d3⟩ := hd
  obtain ⟨e1, e2⟩ := code_inj (by omega) (by omega) h
  obtain ⟨e3, e4⟩ := code_inj (by omega) (by omega) e1
  obtain ⟨s, i, j⟩ := c
  obtain ⟨s', i', j'⟩ := d
  dsimp only at e2 e3 e4 c1 d1
  have : s = s' := by omega
  rw [this, e4, e2]
/-- what is come to is come to in fewer steps than there are configurations -/
theorem Mn.few {M : Mc} {x y : List Nat} {t : Nat} {c : Cf} (ok : M.Ok) (h : Mn M x y t c) : t < M.n.toNat * (x.length + 1) * (y.length + 1) := by
  obtain ⟨f, hf⟩ := h.line
  have nd : ((List.range (t + 1)).map fun u => cfCode x y (f u)).Nodup := by
    refine List.pairwise_map.mpr (List.Pairwise.imp_of_mem (R := fun a b => a ≠ b) (fun {a b} ha hb hne e => ?_) List.nodup_range)
    have ha' := hf a (by have := List.mem_range.mp ha; omega)
    have hb' := hf b (by have := List.mem_range.mp hb; omega)
    obtain ⟨_, s1, i1, j1⟩ := rch_lt ok ha'.1
    obtain ⟨_, s2, i2, j2⟩ := rch_lt ok hb'.1
    have z := code_eq ⟨s1.1, i1, j1⟩ ⟨s2.1, i2, j2⟩ e
    rw [z] at ha'
    exact hne (ha'.eq hb')
  have := nodup_lt (M.n.toNat * (x.length + 1) * (y.length + 1)) _ nd (fun a ha => by
    obtain ⟨u, hu, rfl⟩ := List.mem_map.mp ha
    exact (rch_lt ok (hf u (by have := List.mem_range.mp hu; omega)).1).1)
  rw [List.length_map, List.length_range] at this
  omega
/-- the machine that writes nothing -/
def Mc.mute (M : Mc) : Mc := ⟨M.n, M.b, M.ends, M.moves.map fun m => ⟨m.s, m.r, Str.ofString "", m.g⟩⟩
theorem Path.mute {M : Mc} {s t : Int} {ks : List Nat} {r w : List Nat} (p : Path M s ks t r w) : Path M.mute s ks t r [] := by
  induction p with
  | nil s => exact .nil s
  | @cons k m ks t r w h _ ih =>
    have z := Path.cons (M := M.mute) (k := k) (m := ⟨m.s, m.r, Str.ofString "", m.g⟩) (by show (M.moves.map _)[k]? = _; rw [List.getElem?_map, h]; rfl) ih
    dsimp only at z
    rw [tl_nil, List.append_nil] at z
    exact z
theorem Path.unmute {M : Mc} : ∀ {ks : List Nat} {s t : Int} {r w : List Nat}, Path M.mute s ks t r w → ∃ w', Path M s ks t r w'
  | [], s, t, r, w, p => by
    obtain ⟨rfl, rfl, rfl⟩ := p.nil_inv
    exact ⟨[], .nil _⟩
  | k :: ks, s, t, r, w, p => by
    obtain ⟨m0, r1, w1, hm, hs, p1, e1, e2⟩ := p.cons_inv
    have hm' : (M.moves.map fun m => (⟨m.s, m.r, Str.ofString "", m.g⟩ : Mv))[k]? = some m0 := hm
    rw [List.getElem?_map] at hm'
    obtain ⟨m, hm2, rfl⟩ := Option.map_eq_some_iff.mp hm'
    obtain ⟨w', p2⟩ := Path.unmute p1
    subst hs
    have z := Path.cons (M := M) (m := m) hm2 p2
    exact ⟨_, by rw [e1]; exact z⟩
theorem reads_mute {M : Mc} {x : List Nat} : (∃ ks w, IsWay M ks x w) ↔ ∃ ks, IsWay M.mute ks x [] := by
  constructor
  · rintro ⟨ks, w, t, p, e⟩
    exact ⟨ks, t, p.mute, e⟩
  · rintro ⟨ks, t, p, e⟩
    obtain ⟨w, p2⟩ := p.unmute
    exact ⟨ks, w, t, p2, e⟩
theorem Mc.Ok.mute {M : Mc} (h : M.Ok) : M.mute.Ok := by
  obtain ⟨n1, n2, b, e, el, ml, s, g, r, w⟩ := h
  have f : ∀ m ∈ M.mute.moves, ∃ m0 ∈ M.moves, m = ⟨m0.s, m0.r, Str.ofString "", m0.g⟩ := fun m hm => by
    obtain ⟨m0, h0, rfl⟩ := List.mem_map.mp hm
    exact ⟨m0, h0, rfl⟩
  refine ⟨n1, n2, b, e, el, by show (M.moves.map _).length ≤ 1000; rw [List.length_map]; exact ml, fun m hm => ?_, fun m hm => ?_, fun m hm => ?_, fun m hm => ?_⟩
  · obtain ⟨m0, h0, rfl⟩ := f m hm
    exact s m0 h0
  · obtain ⟨m0, h0, rfl⟩ := f m hm
    exact g m0 h0
  · obtain ⟨m0, h0, rfl⟩ := f m hm
    exact r m0 h0
  · obtain ⟨m0, h0, rfl⟩ := f m hm
    show (Str.ofString "").length ≤ 1
    decide +kernel
end Tw

/-! Dicts with tuples as keys: a display of one pair, dict(pairs), dict(d), d.update. -/
namespace Tw
open PySem L2 PySem.Spec PyProof.Rows
section
variable {X : Cx} {pins : List (Addr × Obj)} {σ : L2.St} {H : Hp} {s : Shared} {a b : Addr} {v : V} {r : Value} {A : Around} {E : Value → Shared → Prop} {kvs : List (List Key × V)} {k : List Key}
theorem d_setT {Q : Unit → Shared → Prop} (hu : A.units < cLine) (I : Inv X pins σ H s) (e : H a = some (.dT kvs)) (eb : H b = some (.tup (k.map kV))) (l : kvs.length < sizeLine) (rv : RelV v r) (h : ∀ s', Inv X pins σ (upd H a (.dT (putK kvs k v))) s' → Q () s') :
    wpAny (model X.prog X.w) A (dictSet a (.ref b) r) Q E s := by
  obtain ⟨z, hd, xs, rel, dd⟩ := dt_of I.hok e
  have hz : xs.length ≤ sizeLine := by rw [← Paired.length rel]; exact z
  have hl : (putK kvs k v).length ≤ sizeLine := by have := length_putK kvs k v; omega
  refine wpAny_dictSet_heap (hsz := hz) (knd := tupleKind (mixKind X.prog X.w)) hu (key_of I.hok eb) dd fun h' dd' hs => h _ ?_
  obtain ⟨q, es, ep, hq, h2, h3, h4, _, h5⟩ := dd'
  refine d_write I (by rw [e]; exact True.intro) hs ⟨q, hq⟩ ⟨hl, hd, _, (rel.put k eb rv).keeps fun c ys ec => ?_, q, es, ep, hq, h2, h3, h4, h5⟩
  rw [upd_ne (ne_of ec e (fun z => nomatch z))]
  exact ec
end
/-- {k: v}, k a tuple -/
def tDispT1 (tk tv : TE) : TE := fun σ H Q => ∀ p, H p = none → tk σ (upd H p (.dT [])) fun y H1 => tv σ H1 fun v H2 => ∃ b k, y = .ref b ∧ H2 b = some (.tup (k.map kV)) ∧ H2 p = some (.dT []) ∧ Q (.ref p) (upd H2 p (.dT [(k, v)]))
theorem pe_dispT1 {X : Cx} {ke ve : Expr} {tk tv : TE} {pos : Pos} (hu : X.A.units < cLine) (hk : PE X ke tk) (hv : PE X ve tv) : PE X (.Dict [some ke] [ve] pos) (tDispT1 tk tv) := by
  refine ⟨fun pins s σ H Q I q => ?_⟩
  have hn := I.hok.fresh (Nat.le_refl s.heap.objs.size)
  have I1 := I.laid (a := s.heap.objs.size) (o := .dT []) (h' := s.heap.push { cls := .type "dict", data := .dict #[] }) (t' := s.toks) (fun _ _ q => Heap.get?_push_of_some _ q) (Nat.le_refl _) (dt_empty s.heap I.big)
  have hp : PPs X pos [some ke] [ve] [(tk, tv)] := pps_cons hk hv pps_nil
  refine wpAny_Dict_any rfl rfl (by intro z; cases z) (Nat.le_of_ble_eq_true rfl) (thn (hp.run pins _ σ _ (fun ps H2 => match ps with | [(y, v)] => ∃ b k, y = .ref b ∧ H2 b = some (.tup (k.map kV)) ∧ H2 s.heap.objs.size = some (.dT []) ∧ Q (.ref s.heap.objs.size) (upd H2 s.heap.objs.size (.dT [(k, v)])) | _ => False) I1 (q _ hn)) fun ws s2 z => ?_)
  obtain ⟨ps, H2, I2, rel, z⟩ := z
  match ps, z with
  | [(y, v)], z =>
    obtain ⟨b, k, rfl, eb, e, z⟩ := z
    cases rel with
    | @cons p q _ _ hh t =>
      cases t
      obtain ⟨u, w'⟩ := q
      obtain ⟨h1, h2⟩ := hh
      cases (show u = Value.ref b from h1)
      unfold storeAll
      rw [List.forIn_cons]
      refine wpAny_bind (wpAny_bind (d_setT hu I2 e eb (by rw [sizeLine_eq]; decide) h2 fun s3 I3 => wpAny_pure ?_))
      dsimp only
      rw [List.forIn_nil]
      exact wpAny_pure ⟨.ref s.heap.objs.size, _, I3, rfl, z⟩
/-- sorted(xs), texts, any number of them -/
def rSortedSA (K : PySem.W.Frag) : List V → Hp → VK → Prop := fun vs H Q => ∃ (a : Addr) (xs : List Str), vs = [V.ref a] ∧ SqL K H a (xs.map V.str) ∧
  ∀ (ys : List Str) (p : Addr), ys.Perm xs → PyProof.Rows.sortedS ys = true → H p = none → Q (.ref p) (upd H p (.lst (ys.map V.str)))
theorem cr_sortedSA {X : Cx} : CallR X (.builtin "sorted") (rSortedSA X.K) := by
  intro pins s σ H vs us Q I r h
  obtain ⟨a, xs, rfl, hs, q⟩ := h
  obtain ⟨its, rv, hl, hz⟩ := I.list hs
  rw [Vals.ref1 r]
  have hlen0 := rv.length
  refine PyProof.Rows.sorted_strsAny hl.isList rv.strs (by rw [← hlen0]; exact hz) fun out ys h1 h2 h3 => ?_
  obtain ⟨ep, he'⟩ := PyProof.Rows.sortedAll_at s.heap its out
  have hlen : (ys.map V.str).length ≤ sizeLine := by
    rw [List.length_map, h2.length_eq]
    rw [List.length_map] at hz
    exact hz
  exact ⟨.ref _, upd H (s.heap.objs.size + 1) (.lst (ys.map V.str)), I.laid (t' := s.toks) (fun _ _ => PyProof.Rows.sortedAll_old) (Nat.le_succ _) ⟨hlen, out.toList, ep, vals_of_strs h1, he'⟩, rfl, q ys _ h2 h3 (I.hok.fresh (Nat.le_succ _))⟩
end Tw

/-! Dicts with tuples as keys: dict(pairs), dict(d), d.update(d2), d.pop(k). -/
namespace Tw
open PySem L2
/-- one behind the other, the later wins -/
def mergeT (kvs more : List (List Key × V)) : List (List Key × V) := more.foldl (fun acc kv => putK acc kv.1 kv.2) kvs
theorem length_mergeT : ∀ (more kvs : List (List Key × V)), (mergeT kvs more).length ≤ kvs.length + more.length
  | [], kvs => Nat.le_refl _
  | p :: r, kvs => by
    have h1 := length_mergeT r (putK kvs p.1 p.2)
    have h2 := length_putK kvs p.1 p.2
    show (mergeT (putK kvs p.1 p.2) r).length ≤ _
    rw [List.length_cons]
    omega
theorem kt_merge {H : Hp} : ∀ {more : List (List Key × V)} {prs : List (List Key × Addr × Value)} {kvs : List (List Key × V)} {xs : List (List Key × Addr × Value)}, KT H more prs → KT H kvs xs → KT H (mergeT kvs more) (storedAllH xs prs)
  | [], _, _, _, .nil, q => q
  | p :: r, _, kvs, xs, .cons (b := z) h t, q => by
    show KT H (mergeT (putK kvs p.1 p.2) r) (storedAllH (storedH xs z.1 z.2.1 z.2.2) _)
    refine kt_merge t ?_
    rw [← h.1]
    exact q.put p.1 h.2.1 h.2.2
section
variable {X : Cx}
theorem kt_is {pins : List (Addr × Obj)} {σ : L2.St} {H : Hp} {s : Shared} {a : Addr} {kvs : List (List Key × V)} {xs : List (List Key × Addr × Value)} (I : Inv X pins σ H s) (r : KT H kvs xs) {h' : Heap} (hk : ∀ b o, b ≠ a → s.heap.get? b = some o → h'.get? b = some o) (na : H a = none ∨ ∃ ys, H a = some (.dT ys)) :
    ∀ x ∈ xs, (tupleKind (mixKind X.prog X.w)).is h' x.1 x.2.1 := by
  induction r with
  | nil => exact fun x h => nomatch h
  | @cons p q ps qs h t ih =>
    intro x hx
    rcases List.mem_cons.mp hx with rfl | hx
    · have h2 := h.2.1
      rw [h.1] at h2
      obtain ⟨o, its, n, h3, h4, h5, h6⟩ := key_of I.hok h2
      refine ⟨o, its, n, hk _ _ (fun z => ?_) h3, h4, h5, h6⟩
      rw [z] at h2
      rcases na with na | ⟨ys, na⟩
      · rw [na] at h2
        cases h2
      · rw [na] at h2
        cases h2
    · exact ih x hx
theorem prsT_of {pins : List (Addr × Obj)} {σ : L2.St} {H : Hp} {s : Shared} (I : Inv X pins σ H s) : ∀ {ps : List Addr} {kvs : List (List Key × V)}, Paired (fun p kv => ∃ b, SqT X.K H p [.ref b, kv.2] ∧ H b = some (.tup (kv.1.map kV))) ps kvs →
    ∃ prs : List (List Key × Addr × Value), KT H kvs prs ∧ prs.length = ps.length ∧ ∀ (j : Nat) (q : List Key × Addr × Value), prs[j]? = some q → ∃ b : Addr, ps[j]? = some b ∧ PyProof.Rows.IsTup s.heap b #[.ref q.2.1, q.2.2]
  | _, _, .nil => ⟨[], .nil, rfl, fun j q e => by simp at e⟩
  | _, _, .cons (a := p) (b := kv) h t => by
    obtain ⟨prs, r, hl, hp⟩ := prsT_of I t
    obtain ⟨b, h1, h2⟩ := h
    obtain ⟨its, rv, ht, _⟩ := I.tuple h1
    obtain ⟨u, y, ei, ru, ry⟩ := vals2 rv
    subst ei
    cases (show u = Value.ref b from ru)
    refine ⟨(kv.1, b, y) :: prs, .cons ⟨rfl, h2, ry⟩ r, by rw [List.length_cons, List.length_cons, hl], fun j q e => ?_⟩
    cases j with
    | zero =>
      have e' : (kv.1, b, y) = q := Option.some.inj e
      subst e'
      exact ⟨p, rfl, ht⟩
    | succ j =>
      obtain ⟨b', e1, e2⟩ := hp j q (by simpa using e)
      exact ⟨b', by simpa using e1, e2⟩
/-- dict(xs), xs a list of pairs (tuple, value) -/
def rDictPT (K : PySem.W.Frag) : List V → Hp → VK → Prop := fun xs H Q => ∃ (a : Addr) (ps : List Addr) (kvs : List (List Key × V)), xs = [.ref a] ∧ SqL K H a (ps.map V.ref) ∧ Paired (fun p kv => ∃ b, SqT K H p [.ref b, kv.2] ∧ H b = some (.tup (kv.1.map kV))) ps kvs ∧
    ∀ p, H p = none → Q (.ref p) (upd H p (.dT (mergeT [] kvs)))
theorem call_dictPT (hcalm : X.calm = true) (hu : X.A.units + 64 < cLine) : CallR X (.type "dict") (rDictPT X.K) := by
  intro pins s σ H xs us Q I r q
  obtain ⟨a, ps, kvs, ex, hq, hp, q⟩ := q
  subst ex
  obtain ⟨u, eu, rx⟩ := vals1 r
  subst eu
  cases rx
  obtain ⟨its, rv, pl, hz⟩ := I.list hq
  have ei := refs_at rv
  subst ei
  rw [List.length_map] at hz
  obtain ⟨prs, rel, hl, hpr⟩ := prsT_of I hp
  obtain ⟨o, n, ho, hc, hd, hdat⟩ := pl
  have hf := I.hok.fresh (Nat.le_refl s.heap.objs.size)
  refine call_dict_pairsH (knd := tupleKind (mixKind X.prog X.w)) (ps := prs) (PairArg.list a (ps.map Value.ref).toArray (fun j => ps.getD j 0) (prs.map fun q => ((.ref q.2.1 : Value), q.2.2))) (I.ok.hd hcalm) (show X.A.units + 2 < cLine by omega) ⟨⟨o, n, ho, hc, hd, hdat⟩, ?_⟩ ?_ ?_ (by rw [List.length_map, hl]; exact hz) fun h' tk hd' k => ?_
  · refine ⟨by simp [hl], fun j k v e => ?_⟩
    rw [List.getElem?_map] at e
    obtain ⟨x, hx, e2⟩ := Option.map_eq_some_iff.mp e
    cases e2
    obtain ⟨b, e1, e3⟩ := hpr j x hx
    have e4 : ps.getD j 0 = b := by
      rw [List.getD_eq_getElem?_getD, e1]
      rfl
    exact ⟨by simp [e1, e4], .inl (by dsimp only; rw [e4]; exact e3)⟩
  · refine ⟨by rw [List.length_map], fun i key v e => ?_⟩
    have e' : (prs.map fun q => ((.ref q.2.1 : Value), q.2.2))[i]? = some (key, v) := e
    rw [List.getElem?_map] at e'
    obtain ⟨x, hx, e2⟩ := Option.map_eq_some_iff.mp e'
    cases e2
    exact ⟨x.1, x.2.1, hx, rfl⟩
  · exact fun h' hk => kt_is I rel (a := s.heap.objs.size) (fun b o hb e => hk b o hb (fun z => nomatch z) e) (.inl hf)
  · have hm : (s.heap.objs.size == sysModules) = false := beq_eq_false_iff_ne.mpr (Nat.ne_of_gt I.big)
    have hlen : (mergeT [] kvs).length ≤ sizeLine := by
      refine Nat.le_trans (length_mergeT kvs []) ?_
      rw [List.length_nil, Nat.zero_add, Paired.length rel, hl]
      exact hz
    obtain ⟨ob, es, ep, hq, h2, h3, h4, _, h5⟩ := hd'
    exact ⟨.ref s.heap.objs.size, upd H s.heap.objs.size (.dT (mergeT [] kvs)), I.laid (t' := tk) (fun b o e => k b o (fun z => nomatch z) e) (Nat.le_refl _) (show ObjOk X.prog X.w _ _ _ (.dT (mergeT [] kvs)) from ⟨hlen, hm, _, (kt_merge rel .nil).keeps (fun c ys ec => by rw [upd_ne (ne_of_none ec hf)]; exact ec), ob, es, ep, hq, h2, h3, h4, h5⟩), rfl, q _ hf⟩
/-- d.update(d2) -/
def rUpdT : V → List V → Hp → VK → Prop := fun x xs H Q => ∃ (a b : Addr) (kvs more : List (List Key × V)), x = .ref a ∧ xs = [.ref b] ∧ a ≠ b ∧ H a = some (.dT kvs) ∧ H b = some (.dT more) ∧ kvs ≠ [] ∧ kvs.length + more.length ≤ sizeLine ∧ Q .non (upd H a (.dT (mergeT kvs more)))
theorem mt_updT (hu : X.A.units + 64 < cLine) : MtR X "dict.update" rUpdT := by
  intro pins s σ H x xs v us Q I rx rxs h
  obtain ⟨a, b, kvs, more, rfl, rfl, hab, ha, hb, hne, hsz, q⟩ := h
  cases rx
  obtain ⟨u, rfl, ru⟩ := vals1 rxs
  cases ru
  obtain ⟨z, hd, xa, rel, dd⟩ := dt_of I.hok ha
  obtain ⟨zb, hdb, xb, relb, ddb⟩ := dt_of I.hok hb
  have la := Paired.length rel
  have lb := Paired.length relb
  refine call_update_dictH (knd := tupleKind (mixKind X.prog X.w)) (show X.A.units + 1 < cLine by omega) hab hdb dd ddb (.inl fun e => hne ?_) (by rw [← la, ← lb]; exact hsz) fun h' dd' ddb' hs => ?_
  · rw [e] at la
    exact List.length_eq_zero_iff.mp la
  · obtain ⟨ob, es, ep, hq, h2, h3, h4, _, h5⟩ := dd'
    refine ⟨.non, upd H a (.dT (mergeT kvs more)), ?_, rfl, q⟩
    refine d_write (t' := s.toks) I (by rw [ha]; exact True.intro) hs ⟨ob, hq⟩ ⟨Nat.le_trans (length_mergeT more kvs) hsz, hd, _, (kt_merge relb rel).keeps (fun c ys ec => ?_), ob, es, ep, hq, h2, h3, h4, h5⟩
    rw [upd_ne (ne_of ec ha (fun z => nomatch z))]
    exact ec
/-- d.pop(k), there -/
def rPopT1 : V → List V → Hp → VK → Prop := fun x xs H Q => ∃ (a : Addr) (kvs : List (List Key × V)) (k : List Key) (b : Addr) (v : V), x = .ref a ∧ xs = [.ref b] ∧ H a = some (.dT kvs) ∧ H b = some (.tup (k.map kV)) ∧ valV kvs k = some v ∧ Q v (upd H a (.dT (dropK kvs k)))
theorem mt_popT1 (hu : X.A.units + 64 < cLine) : MtR X "dict.pop" rPopT1 := by
  intro pins s σ H x xs v us Q I rx rxs h
  obtain ⟨a, kvs, k, b, d, rfl, rfl, ha, hb, hv, q⟩ := h
  cases rx
  obtain ⟨u, rfl, ru⟩ := vals1 rxs
  cases ru
  obtain ⟨z, hd, xa, rel, dd⟩ := dt_of I.hok ha
  have hz : xa.length ≤ sizeLine := by rw [← Paired.length rel]; exact z
  have r := rel.val k
  rw [hv] at r
  obtain ⟨p, hp, rp⟩ : ∃ p, atKey xa k = some p ∧ RelV d p.2 := by
    cases e : atKey xa k with
    | none =>
      rw [e] at r
      exact (show False from r).elim
    | some p =>
      rw [e] at r
      exact ⟨p, rfl, r⟩
  refine call_pop_heap (hsz := hz) (knd := tupleKind (mixKind X.prog X.w)) (.inl rfl) (PySem.F.args_dict_pop_2 _ _) (tupleKind_room_in1 (by omega)) (key_of I.hok hb) hd dd hp fun h' dd' hs => ?_
  obtain ⟨ob, es, ep, hq, h2, h3, h4, _, h5⟩ := dd'
  refine ⟨d, upd H a (.dT (dropK kvs k)), ?_, rp, q⟩
  refine d_write I (by rw [ha]; exact True.intro) hs ⟨ob, hq⟩ ⟨Nat.le_trans (dropK_le kvs k) z, hd, _, (L2.DX.KT_drop k rel).keeps (fun c ys ec => ?_), ob, es, ep, hq, h2, h3, h4, h5⟩
  rw [upd_ne (ne_of ec ha (fun z => nomatch z))]
  exact ec
end
theorem lt64 {n m : Nat} (h : n + 64 < m) : n + 1 < m := by omega
/-! ### comprehensions whose items are told by what stands -/
def Lcp (H : Hp) (Pd : Nat → V → Hp → Prop) (D0 : Addr) (i : Nat) (H' : Hp) : Prop := Same H H' ∧ H D0 = none ∧ ∃ acc : List V, H' D0 = some (.lst acc) ∧ acc.length = i ∧ ∀ j y, acc[j]? = some y → Pd j y H'
theorem r_lcP {K : PySem.W.Frag} {σ : L2.St} {H : Hp} {g : TG} {tl te : TE} {tt : TT} {Q : VK} {js : List Nat} {a : Addr} {xs : List V} {σw : L2.St} (Pd : Nat → V → Hp → Prop) (kp : ∀ i y H H', Keep H H' → Pd i y H → Pd i y H') (hw : wipe σ js = σw) (hl : ∀ R : VK, R (.ref a) H → tl σ H R) (hs : SqL K H a xs) (hn : xs.length ≤ 16000000)
    (ht : ∀ i x H' (QY : VK) (QN : Hp → Prop), xs[i]? = some x → Same H H' → (∀ y H4, Same H' H4 → Pd i y H4 → QY y H4) → g x σw H' fun σ2 H2 => wipe σ2 js = σw ∧ tt σ2 H2 fun b H3 => if b = true then te σ2 H3 QY else QN H3)
    (hd : ∀ H' D (acc : List V), Same H H' → H D = none → H' D = some (.lst acc) → acc.length = xs.length → (∀ i y, acc[i]? = some y → Pd i y H') → Q (.ref D) H') : tLc (iList K tl) g tt te js σ H Q := by
  subst hw
  refine hl _ ⟨a, rfl, ⟨xs, hs⟩, fun D0 hD => ?_⟩
  refine lc_list (xs := xs) (Lcp H Pd D0) ⟨same_up hD, hD, [], upd_same, rfl, fun j y h => by simp at h⟩ (fun i H' _ p => same_sqL p.1 hs) (fun i x H' hx p => ?_) (fun H' p => ?_)
  · have hi : i < xs.length := (List.getElem?_eq_some_iff.mp hx).1
    obtain ⟨s1, d0, acc, h1, h2, h3⟩ := p
    refine ht i x H' _ _ hx s1 (fun y H4 s4 hy => ?_)
    have h4 := s4 _ _ h1
    have kp4 : Keep H4 (upd H4 D0 (.lst (acc ++ [y]))) := keep_lst h4
    refine ⟨acc, h4, ?_, same_mut (s1.trans s4) d0, d0, acc ++ [y], upd_same, by rw [List.length_append, List.length_singleton, h2], fun j z hz => ?_⟩
    · rw [h2]
      exact Nat.lt_of_lt_of_le hi (Nat.le_trans hn (by decide))
    · rcases Nat.lt_or_ge j acc.length with hj | hj
      · rw [List.getElem?_append_left hj] at hz
        exact kp _ _ _ _ ((keep_of s4).trans kp4) (h3 j z hz)
      · rw [List.getElem?_append_right hj] at hz
        have hj2 : j = acc.length := by
          have := (List.getElem?_eq_some_iff.mp hz).1
          rw [List.length_singleton] at this
          omega
        subst hj2
        rw [Nat.sub_self, List.getElem?_cons_zero] at hz
        cases hz
        rw [h2]
        exact kp _ _ _ _ kp4 hy
  · obtain ⟨s1, d0, acc, h1, h2, h3⟩ := p
    exact hd H' D0 acc s1 d0 h1 h2 h3
theorem r_get1 {td ty : TE} {σ : L2.St} {H : Hp} {Q : VK} {a : Addr} {kvs : List (List Key × V)} (hx : ∀ R : VK, R (.ref a) H → td σ H R) (ha : H a = some (.dT kvs)) (hy : ty σ H fun y H2 => ∃ b k, y = .ref b ∧ H2 b = some (.tup (k.map kV)) ∧ H2 a = some (.dT kvs) ∧ Q ((valV kvs k).getD .non) H2) (mono : ∀ (R R' : VK), (∀ y H, R y H → R' y H) → ty σ H R → ty σ H R') : tDGet1 td ty σ H Q :=
  hx _ ⟨a, rfl, .inr ⟨kvs, .inl ha⟩, mono _ _ (fun y H2 z => by
    obtain ⟨b, k, rfl, h1, h2, h3⟩ := z
    exact ⟨_, DGet.t h2 h1, h3⟩) hy⟩
theorem r_lcIt {K : PySem.W.Frag} {σ : L2.St} {H : Hp} {g : TG} {tl te : TE} {tt : TT} {Q : VK} {js : List Nat} (h : tl σ H fun v H1 => tLc (iList K (tC v)) g tt te js σ H1 Q) : tLc (iList K tl) g tt te js σ H Q := h
theorem valV_merge_not {k : List Key} : ∀ (kvs acc : List (List Key × V)), k ∉ kvs.map (·.1) → valV (mergeT acc kvs) k = valV acc k
  | [], acc, _ => rfl
  | p :: r, acc, h => by
    rw [List.map_cons, List.mem_cons, not_or] at h
    show valV (mergeT (putK acc p.1 p.2) r) k = _
    rw [valV_merge_not r _ h.2, valV_put, if_neg h.1]
theorem valV_merge {k : List Key} {v : V} : ∀ (kvs acc : List (List Key × V)), (kvs.map (·.1)).Nodup → (k, v) ∈ kvs → valV (mergeT acc kvs) k = some v
  | [], acc, _, h => nomatch h
  | p :: r, acc, hn, h => by
    rw [List.map_cons, List.nodup_cons] at hn
    show valV (mergeT (putK acc p.1 p.2) r) k = _
    rcases List.mem_cons.mp h with e | h
    · subst e
      rw [valV_merge_not r _ hn.1, valV_put, if_pos rfl]
    · exact valV_merge r _ hn.2 h
/-- dict(d), d of one key -/
def rDictT1 : List V → Hp → VK → Prop := fun xs H Q => ∃ (a : Addr) (k : List Key) (v : V), xs = [.ref a] ∧ H a = some (.dT [(k, v)]) ∧ ∀ p, H p = none → Q (.ref p) (upd H p (.dT [(k, v)]))
theorem call_dictT1 {X : Cx} (hu : X.A.units + 64 < cLine) : CallR X (.type "dict") rDictT1 := by
  intro pins s σ H xs us Q I r h
  obtain ⟨a, k, v, rfl, ha, q⟩ := h
  obtain ⟨u, rfl, ru⟩ := vals1 r
  cases ru
  obtain ⟨z, hd, xa, rel, dd⟩ := dt_of I.hok ha
  have hf := I.hok.fresh (Nat.le_refl s.heap.objs.size)
  have hlt : a < s.heap.objs.size := Heap.DictOfH.lt_size dd
  have k0 : ∀ b o, s.heap.get? b = some o → (s.heap.push { cls := .type "dict", data := .dict #[] }).get? b = some o := fun b o e => Heap.get?_push_of_some _ e
  cases rel with
  | @cons p0 x0 _ _ hx t =>
    cases t
    have hkey := key_of I.hok hx.2.1
    have ht0 : ∃ o, s.heap.get? x0.2.1 = some o ∧ o.cls = .type "tuple" := let ⟨o, _, _, h1, h2, _⟩ := hkey; ⟨o, h1, h2⟩
    have ddn := dd.at' (k0 a) (kt_is (a := s.heap.objs.size) I (.cons hx .nil) (fun b o _ e => k0 b o e) (.inl hf))
    refine callType_codes (Q₁ := fun obj s₁ => obj = .ref s.heap.objs.size ∧ s₁ = { s with heap := s.heap.push { cls := .type "dict", data := .dict #[] } }) PySem.F.kt_called_dict (PySem.F.kt_typeCall_dict_1 _) PySem.F.entry_dict_init (kt_code_dict_new _ ⟨rfl, rfl⟩) ?_
    rintro obj s₁ ⟨rfl, rfl⟩
    have hT : Shared.TypeIs { s with heap := s.heap.push { cls := .type "dict", data := .dict #[] } } (.ref s.heap.objs.size) "dict" := ⟨_, Heap.get?_push_size _ rfl, rfl⟩
    refine ⟨hT, PySem.F.args_dict_init_2 _ _, ?_⟩
    unfold Builtin.«dict.__init__»
    refine wpAny_bind ?_
    unfold Builtin.Dict.selfAndRest
    refine wpAny_bind (wpAny_notOrdered_dict hT ?_)
    show wpAny _ _ (pure (s.heap.objs.size, [Value.ref a])) _ _ _
    refine wpAny_pure ?_
    refine updateFrom_dictH (knd := tupleKind (mixKind X.prog X.w)) (A := X.A.in1) (kvs := []) (more := [x0]) .none (show X.A.units + 2 < cLine by omega) (Nat.ne_of_gt hlt) hd (Heap.DictOfH.new s.heap) ddn (.inr ⟨fun x hx1 => ?_, by simp⟩) (by rw [sizeLine_eq]; exact (by decide : 1 ≤ 16777216)) fun h' dd' _ hs => ?_
    · rw [List.mem_singleton.mp hx1]
      obtain ⟨o, h1, h2⟩ := ht0
      exact ⟨o, k0 _ _ h1, h2⟩
    · refine ⟨rfl, ?_⟩
      obtain ⟨ob, es, ep, hq, h2, h3, h4, _, h5⟩ := dd'
      have hm : (s.heap.objs.size == sysModules) = false := beq_eq_false_iff_ne.mpr (Nat.ne_of_gt I.big)
      refine ⟨.ref s.heap.objs.size, upd H s.heap.objs.size (.dT [(k, v)]), I.laid (t' := s.toks) (fun b o e => (hs.2 b (Nat.ne_of_lt (Heap.lt_size e))).trans (k0 b o e)) (Nat.le_refl _) (show ObjOk X.prog X.w _ _ _ (.dT [(k, v)]) from ⟨by rw [sizeLine_eq]; exact (by decide : 1 ≤ 16777216), hm, [x0], ?_, ob, es, ep, hq, h2, h3, h4, h5⟩), rfl, q _ hf⟩
      exact KT.keeps (Paired.cons hx .nil) (fun c ys ec => by rw [upd_ne (ne_of_none ec hf)]; exact ec)
end Tw


/-! Comprehensions over a dict with tuples as keys. -/
namespace Tw
open PySem L2
/-- tuples stand -/
def Kt (H H' : Hp) : Prop := ∀ b xs, H b = some (.tup xs) → H' b = some (.tup xs)
theorem Kt.trans {H H1 H2 : Hp} (a : Kt H H1) (b : Kt H1 H2) : Kt H H2 := fun c xs h => b _ _ (a c xs h)
theorem kt_same {H H' : Hp} (e : Same H H') : Kt H H' := fun b xs h => e _ _ h
/-- [e for k in d if t]: Pd tells the list made so far, by the number of keys walked; d is locked within -/
theorem r_lcT {σ : L2.St} {H : Hp} {g : TG} {td te : TE} {tt : TT} {Q : VK} {js : List Nat} {d : Addr} {kvs : List (List Key × V)} {σw : L2.St} (Pd : Nat → List V → Hp → Prop) (kp : ∀ i acc H H', Kt H H' → Pd i acc H → Pd i acc H')
    (hw : wipe σ js = σw) (hd : H d = some (.dT kvs)) (hl : ∀ (H : Hp) (R : VK), R (.ref d) H → td σ H R) (h0 : ∀ H', Pd 0 [] H') (hlen : ∀ i acc H, Pd i acc H → acc.length ≤ i) (hz : kvs.length ≤ 16000000)
    (ht : ∀ i k q u H' (QY : VK) (QN : Hp → Prop) acc, kvs[i]? = some (k, u) → H' q = some (.tup (k.map kV)) → (∀ b o, b ≠ d → H b = some o → H' b = some o) → (∃ o, H' d = some (.frz o (.dT kvs))) → Pd i acc H' →
      (∀ y H4, Same H' H4 → Pd (i + 1) (acc ++ [y]) H4 → QY y H4) → (∀ H4, Same H' H4 → Pd (i + 1) acc H4 → QN H4) → g (.ref q) σw H' fun σ2 H2 => wipe σ2 js = σw ∧ tt σ2 H2 fun b H3 => if b = true then te σ2 H3 QY else QN H3)
    (fin : ∀ H' D acc, Same H H' → H D = none → H' D = some (.lst acc) → Pd kvs.length acc H' → Q (.ref D) H') : tLockE (tLc (iKeys td) g tt te js) σ H Q := by
  subst hw
  refine ⟨d, .dT kvs, hd, trivial, fun od => ?_⟩
  refine hl _ _ ⟨d, od, rfl, .inr ⟨kvs, upd_same, fun D0 hD0 => ?_⟩⟩
  have nd : D0 ≠ d := fun e => by
    rw [e, upd_same] at hD0
    cases hD0
  have hD : H D0 = none := by
    rw [upd_ne nd] at hD0
    exact hD0
  have s0 : Same (upd H d (.frz od (.dT kvs))) (upd (upd H d (.frz od (.dT kvs))) D0 (.lst [])) := same_up hD0
  refine lc_it walk_keysT (fun i H' => Same (upd H d (.frz od (.dT kvs))) H' ∧ ∃ acc, H' D0 = some (.lst acc) ∧ Pd i acc H') ⟨s0, [], upd_same, h0 _⟩ (fun i H' _ p => p.1 _ _ upd_same) (fun i x H' H'' hi p y => ?_) (fun H' p => ?_)
  · obtain ⟨rfl, k, u, q, e1, rfl, e2⟩ := y
    obtain ⟨s1, acc, ha, hp⟩ := p
    refine ht i k q u H'' _ _ acc e1 e2 (fun b o hb h => s1 _ _ (by rw [upd_ne hb]; exact h)) ⟨od, s1 _ _ upd_same⟩ hp (fun y H4 s4 hp4 => ?_) (fun H4 s4 hp4 => ?_)
    · have ha4 := s4 _ _ ha
      refine ⟨acc, ha4, ?_, same_mut (s1.trans s4) hD0, acc ++ [y], upd_same, kp _ _ _ _ (keep_lst ha4).1 hp4⟩
      have z := hlen _ _ _ hp
      exact Nat.lt_of_le_of_lt z (Nat.lt_of_lt_of_le hi (Nat.le_trans hz (by decide)))
    · exact ⟨s1.trans s4, acc, s4 _ _ ha, hp4⟩
  · obtain ⟨s1, acc, ha, hp⟩ := p
    have hdd := s1 _ _ (upd_same (H := H) (a := d) (o := .frz od (.dT kvs)))
    refine ⟨hdd, fin (upd H' d (.dT kvs)) D0 acc (fun b o hb => ?_) hD (by rw [upd_ne nd]; exact ha) (kp _ _ _ _ (fun b xs h => ?_) hp)⟩
    · by_cases e : b = d
      · subst e
        rw [hd] at hb
        cases hb
        exact upd_same
      · rw [upd_ne e]
        exact s1 _ _ (by rw [upd_ne e]; exact hb)
    · rw [upd_ne (ne_of h hdd (by intro z; cases z))]
      exact h
end Tw

/-! Words for classes: methods as promises, instances by their fields. -/
namespace Tw
open PySem L2
/-- a method of the class stands under its name and keeps its promise -/
structure CalM (P : Program) (w : World) (K : PySem.W.Frag) (mg : Str → Option Value) (base : Heap) (CX : CXT) (k : Nat) (C : Addr) (m : Str) (ps : List Str) (sp : Sp) : Prop where
  ex : ∃ (f : Addr) (fd : FuncData), FnOk P w K mg base CX k f fd ps sp ∧ Meth K C m f ∧ Binds K fd ps []
/-- the class is made by an __init__ that keeps its promise -/
structure CalI (P : Program) (w : World) (K : PySem.W.Frag) (mg : Str → Option Value) (base : Heap) (CX : CXT) (k : Nat) (C : Addr) (x : Str) (ps : List Str) (sp : Sp) : Prop where
  ex : ∃ (f : Addr) (fd : FuncData), FnOk P w K mg base CX k f fd ps sp ∧ Mk K C f ∧ Binds K fd ps [] ∧ mg x = some (.ref C)
/-- a method stands -/
structure MetAt (K : PySem.W.Frag) (C : Addr) (m q : Str) (st : Stmt) : Prop where
  ex : ∃ (f : Addr) (fd : FuncData), Fun K m q st f fd ∧ Meth K C m f
structure MakAt (K : PySem.W.Frag) (mg : Str → Option Value) (C : Addr) (x q : Str) (st : Stmt) : Prop where
  ex : ∃ (f : Addr) (fd : FuncData), Fun K "__init__" q st f fd ∧ Mk K C f ∧ mg x = some (.ref C)
section
variable {P : Program} {w : World} {K : PySem.W.Frag} {mg : Str → Option Value} {base : Heap} {X : Cx} {CX : CXT} {k j : Nat} {C : Addr} {x m q : Str} {ps N : List Str} {sp : Sp} {p pos apos : Pos} {o e : Expr} {es : List Expr} {t : TA} {ta : TE} {st : Stmt}
theorem CalM.imp {sp' : Sp} (c : CalM P w K mg base CX k C m ps sp) (h : ∀ vs H Q E, sp' vs H Q E → sp vs H Q E) : CalM P w K mg base CX k C m ps sp' := by
  obtain ⟨f, fd, F, a, b⟩ := c.ex
  exact ⟨f, fd, F.imp h, a, b⟩
theorem pe_methC {pl : Sem Bool} (cl : Cls X.K C) (c : CalM X.prog X.w X.K X.mg X.base CX0 j C m ps sp) (hr : Room k X.A) (hj : j ≤ k) (ho : PE X o ta) (ha : PA X (e :: es) t) (hst : starEach (e :: es) X.env = (false, eval e X.env) :: starEach es X.env := by rfl)
    (hpl : (backTo pos (starEach es X.env)).any (·.1) = false := by rfl) (ht : eval (.Call (.Attribute o m apos) (e :: es) [] pos) X.env = (do let ov ← eval o X.env; standAt apos.atName; let (f, first) ← holding [ov] (getMethod ov m pl); callWith pos f first (backTo pos (starEach (e :: es) X.env)) (backToKw pos (keywordEach [] X.env))) := by rfl) :
    PE X (.Call (.Attribute o m apos) (e :: es) [] pos) (tMeth C m sp [] E0 ta t) := by
  obtain ⟨f, fd, F, hm, b⟩ := c.ex
  exact pe_meth ho cl hm F (hr.mono hj) b .nil pass0 ha hst hpl ht
theorem pe_meth0C {pl : Sem Bool} (cl : Cls X.K C) (c : CalM X.prog X.w X.K X.mg X.base CX0 j C m ps sp) (hr : Room k X.A) (hj : j ≤ k) (ho : PE X o ta)
    (ht : eval (.Call (.Attribute o m apos) [] [] pos) X.env = (do let ov ← eval o X.env; standAt apos.atName; let (f, first) ← holding [ov] (getMethod ov m pl); callWith pos f first (backTo pos (starEach [] X.env)) (backToKw pos (keywordEach [] X.env))) := by rfl) :
    PE X (.Call (.Attribute o m apos) [] [] pos) (tMeth C m sp [] E0 ta tNil) := by
  obtain ⟨f, fd, F, hm, b⟩ := c.ex
  exact pe_meth0 ho cl hm F (hr.mono hj) b .nil pass0 ht
theorem pe_makeC (c : CalI X.prog X.w X.K X.mg X.base CX0 j C x ps sp) (hr : Room k X.A) (hj : j + 1 ≤ k) (hg : Gl X x) (ha : PA X (e :: es) t) (hdb : (x == ("__debug__" : Str)) = false := by decide)
    (he : starEach (e :: es) X.env = (false, eval e X.env) :: starEach es X.env := by rfl) (hpl : (backTo pos (starEach es X.env)).any (·.1) = false := by rfl) : PE X (.Call (.Name x p) (e :: es) [] pos) (tMake C sp [] E0 t) := by
  obtain ⟨f, fd, F, M, b, hm⟩ := c.ex
  exact pe_make M F (hr.mono hj) hg hm b .nil pass0 ha hdb he hpl
/-- a call of a def without arguments -/
theorem MetAt.cal (F : MetAt K C m q st) (S : FnScope N ps (defScope st))
    (hb : ∀ (kV doc pm : Value) (an : Option Addr) (cdv ct : Value) (us : List Value), us.length = ps.length → bindArgs (PySem.W.fnOf m q (defArgs st) (defBody st) (defScope st) .none kV doc pm an cdv ct) ⟨us, []⟩ = pure (ps.zip us))
    (len : ∀ vs H Q E, sp vs H Q E → vs.length = ps.length)
    (hbody : ∀ (f : Addr) (cdv : Value) (A : Around) (outer : List Env) (s : Shared) (H : Hp) (vs : List V) (Q : VK) (E : XK), Room k (A.deeper (PyProof.Rows.envOfC q (defScope st) s.heap.objs.size f cdv)) → sp vs H Q E →
      ∃ t, PSs (cxOf CX0 P w K mg base N q (defScope st) f cdv A outer s H E).nox (defBody st) t ∧ t { nx := fun _ H' => Q .non H', rt := Q } (start N vs) H) : CalM P w K mg base CX0 (k + 1) C m ps sp := by
  obtain ⟨f, fd, F, M⟩ := F.ex
  exact ⟨f, fd, F.ok S len (hbody f), M, F.binds hb⟩
theorem MakAt.cal (F : MakAt K mg C x q st) (S : FnScope N ps (defScope st))
    (hb : ∀ (kV doc pm : Value) (an : Option Addr) (cdv ct : Value) (us : List Value), us.length = ps.length → bindArgs (PySem.W.fnOf "__init__" q (defArgs st) (defBody st) (defScope st) .none kV doc pm an cdv ct) ⟨us, []⟩ = pure (ps.zip us))
    (len : ∀ vs H Q E, sp vs H Q E → vs.length = ps.length)
    (hbody : ∀ (f : Addr) (cdv : Value) (A : Around) (outer : List Env) (s : Shared) (H : Hp) (vs : List V) (Q : VK) (E : XK), Room k (A.deeper (PyProof.Rows.envOfC q (defScope st) s.heap.objs.size f cdv)) → sp vs H Q E →
      ∃ t, PSs (cxOf CX0 P w K mg base N q (defScope st) f cdv A outer s H E).nox (defBody st) t ∧ t { nx := fun _ H' => Q .non H', rt := Q } (start N vs) H) : CalI P w K mg base CX0 (k + 1) C x ps sp := by
  obtain ⟨f, fd, F, M, hm⟩ := F.ex
  exact ⟨f, fd, F.ok S len (hbody f), M, F.binds hb, hm⟩
end
/-! ### the end: methods as the top has left them -/
section
variable {K : PySem.W.Frag} {h : Heap} {mg : Str → Option Value} {f C : Addr} {x m q : Str} {st : Stmt} {od an : Option Addr} {sl : Array (Option Value)} {oc kV dc pm cd ct : Value}
theorem met_at (a : PySem.W.findIn K (.ref C) m = some (some (.ref f))) (i : PySem.W.isFn K (.ref f) = true)
    (l : K.lookup f = some ⟨oc, od, .func (PySem.W.fnOf m q (defArgs st) (defBody st) (defScope st) .none kV dc pm an cd ct), sl⟩) (c : PySem.W.codeIn K cd q = true) (k : PySem.W.keepIn K (.ref f) = true) : MetAt K C m q st :=
  ⟨f, _, fun_mk l c k, ⟨a, i, k⟩⟩
theorem mak_at (X : K.In h) (G : h.Ns mainGlobals mg) (g : PySem.W.nsIn K mainGlobals x = some (some (.ref C))) (mk : PySem.W.makesIn K C = true) (a : PySem.W.findIn K (.ref C) "__init__" = some (some (.ref f))) (i : PySem.W.isFn K (.ref f) = true) (kc : PySem.W.keepIn K (.ref C) = true)
    (l : K.lookup f = some ⟨oc, od, .func (PySem.W.fnOf "__init__" q (defArgs st) (defBody st) (defScope st) .none kV dc pm an cd ct), sl⟩) (c : PySem.W.codeIn K cd q = true) (k : PySem.W.keepIn K (.ref f) = true) : MakAt K mg C x q st :=
  ⟨f, _, fun_mk l c k, ⟨mk, a, i, kc⟩, PySem.W.mg_of X G g⟩
end
/-! ### an instance by its fields -/
/-- the field f of the object at x is v -/
def Fld (K : PySem.W.Frag) (H : Hp) (x : Addr) (f : Str) (v : V) : Prop := ∃ C dx fs, H x = some (.ins C dx fs) ∧ Cls K C ∧ NoAttr K C f ∧ fs.lookup f = some v
/-- the object at x is one of C; its own name m stands for nothing -/
def Mth (H : Hp) (x C : Addr) (m : Str) : Prop := ∃ dx fs, H x = some (.ins C dx fs) ∧ fs.lookup m = none
section
variable {K : PySem.W.Frag} {σ : St} {H H' : Hp} {D : Ends} {ta tv : TE} {t : TA} {Q : VK} {x C : Addr} {f m : Str} {v : V} {sp : Sp}
theorem Fld.same (h : Fld K H x f v) (e : Same H H') : Fld K H' x f v := by
  obtain ⟨C, dx, fs, h1, h2⟩ := h
  exact ⟨C, dx, fs, e _ _ h1, h2⟩
theorem Mth.same (h : Mth H x C m) (e : Same H H') : Mth H' x C m := by
  obtain ⟨dx, fs, h1, h2⟩ := h
  exact ⟨dx, fs, e _ _ h1, h2⟩
theorem r_fld (h : ta σ H fun x H1 => ∃ a C dx fs v, x = .ref a ∧ H1 a = some (.ins C dx fs) ∧ Cls K C ∧ NoAttr K C f ∧ fs.lookup f = some v ∧ Q v H1) : tFld K ta f σ H Q := h
theorem r_fldv {R : V → Prop} (h : Fld K H x f v) (q : R v) : ∃ a C dx fs v, V.ref x = .ref a ∧ H a = some (.ins C dx fs) ∧ Cls K C ∧ NoAttr K C f ∧ fs.lookup f = some v ∧ R v := by
  obtain ⟨C, dx, fs, h1, h2, h3, h4⟩ := h
  exact ⟨x, C, dx, fs, v, rfl, h1, h2, h3, h4, q⟩
theorem r_meth (h : ta σ H fun x H1 => ∃ a dx fs, x = .ref a ∧ H1 a = some (.ins C dx fs) ∧ fs.lookup m = none ∧ t σ H1 fun vs H2 => sp (x :: (vs ++ [])) H2 Q E0) : tMeth C m sp [] E0 ta t σ H Q := h
theorem r_methv {R : Prop} (h : Mth H x C m) (q : R) : ∃ a dx fs, V.ref x = .ref a ∧ H a = some (.ins C dx fs) ∧ fs.lookup m = none ∧ R := by
  obtain ⟨dx, fs, h1, h2⟩ := h
  exact ⟨x, dx, fs, rfl, h1, h2, q⟩
theorem r_make (h : t σ H fun vs H1 => ∀ x dx, H1 x = none → H1 dx = none → dx ≠ x → sp (.ref x :: (vs ++ [])) (upd (upd H1 dx (.own x)) x (.ins C dx [])) (fun v H2 => v = .non ∧ Q (.ref x) H2) E0) : tMake C sp [] E0 t σ H Q := h
theorem r_sfld (h : tv σ H fun y H1 => ta σ H1 fun x H2 => ∃ a C dx fs, x = .ref a ∧ H2 a = some (.ins C dx fs) ∧ Cls K C ∧ NoAttr K C f ∧ fs.length < 1000 ∧ D.nx σ (upd H2 a (.ins C dx (putF f y fs)))) : sFld K ta tv f D σ H := h
end
end Tw

/-! More rules: a target that is an attribute; x += text; t[::-1] of a tuple. -/
namespace Tw
open PySem L2 PySem.Spec PyProof.Rows
/-! ### a, self.f = .. -/
def gFld (K : PySem.W.Frag) (ta : TE) (f : Str) : TG := fun v σ H Q => ta σ H fun x H2 => ∃ a C dx fs, x = .ref a ∧ H2 a = some (.ins C dx fs) ∧ Cls K C ∧ NoAttr K C f ∧ fs.length < 1000 ∧ Q σ (upd H2 a (.ins C dx (putF f v fs)))
theorem pg_fld {X : Cx} {o : Expr} {f : Str} {pos : Pos} {ta : TE} (ha : PE X o ta) : PG X (.Attribute o f pos) (gFld X.K ta f) := by
  refine ⟨fun pins s σ H v u Q I r h => ?_⟩
  rw [PySem.assign_Attribute]
  refine wpAny_bind (wpAny_holding (thn (ha.run pins s σ H _ I h) fun ov s2 ⟨x, H2, I2, rx, a, C, dx, fs, ex, ea, c, n, l, q2⟩ => ?_))
  subst ex
  obtain rfl : ov = Value.ref a := rx
  refine wpAny_bind (wpAny_standAt (wpAny_bind (wpAny_holding ?_)))
  exact setattr_ok I2 ea c n l r fun s3 I3 => wpAny_release ⟨σ, _, I3, q2⟩
def ipS : TIp := fun x y H Q => ∃ i j, x = .str i ∧ y = .str j ∧ i.length + j.length ≤ sizeLine ∧ Q (.str (i ++ j)) H
theorem ip_addS {X : Cx} : PIp X .Add ipS := fun pins s σ H x y v u Q I r1 r2 h => iop_add_str pins s σ H x y v u Q I r1 r2 h
/-! ### t[::-1] -/
section
variable {prog : Program} {w : World} {A : Around} {E : Value → Shared → Prop} {s : Shared}
theorem adjust_back (n : Nat) : Builtin.Slice.sliceAdjust none none (-1) (n : Int) = ((n : Int) - 1, -1) := by
  unfold Builtin.Slice.sliceAdjust
  simp
theorem places_back (n : Nat) : Builtin.Slice.slicePlaces ((n : Int) - 1) (-1) (-1) = n := by
  unfold Builtin.Slice.slicePlaces
  have h1 : ¬ ((-1 : Int) > 0) := by decide
  simp only [h1, if_false]
  split
  · rw [show (-(-1) : Int) = 1 by decide, Int.ediv_one]
    omega
  · omega
theorem pick_back (xs : Array Value) : (List.range xs.size).filterMap (fun (m : Nat) => xs[(((xs.size : Int) - 1) + (m : Int) * (-1)).toNat]?) = xs.toList.reverse := by
  have e : ∀ m ∈ List.range xs.size, xs[(((xs.size : Int) - 1) + (m : Int) * (-1)).toNat]? = ((fun x => xs[x]?) ∘ fun k => xs.size - 1 - k) m := fun m hm => by
    have hlt := List.mem_range.mp hm
    have : (((xs.size : Int) - 1) + (m : Int) * (-1)).toNat = xs.size - 1 - m := by omega
    show _ = xs[xs.size - 1 - m]?
    rw [this]
  have z : ∀ l : List Nat, (∀ m ∈ l, m ∈ List.range xs.size) → l.filterMap (fun (m : Nat) => xs[(((xs.size : Int) - 1) + (m : Int) * (-1)).toNat]?) = l.filterMap ((fun x => xs[x]?) ∘ fun k => xs.size - 1 - k) := by
    intro l hl
    induction l with
    | nil => rfl
    | cons a l ih => rw [List.filterMap_cons, List.filterMap_cons, e a (hl a List.mem_cons_self), ih fun m hm => hl m (List.mem_cons_of_mem _ hm)]
  rw [z _ fun _ h => h, ← List.filterMap_map, PySem.W.krv_range, List.filterMap_reverse, PySem.W.krv_all]
theorem slice_back {sl : Addr} {vs : Value} {n : Nat} {Q : Int × Int × Nat → Shared → Prop} (hs : s.heap.IsSliceOf sl .none .none vs) (ps : IsPart vs (some (-1))) (h : Q ((n : Int) - 1, -1, n) s) :
    wpAny (model prog w) A (Builtin.Slice.sliceApplied (.ref sl) (pure (n : Int))) Q E s := by
  obtain ⟨os, hos, _, hds⟩ := id hs
  unfold Builtin.Slice.sliceApplied Builtin.Slice.sliceFields
  refine wpAny_bind (wpAny_bind (wpAny_field hos hds (x := .none) rfl (wpAny_bind (wpAny_field hos hds (x := .none) rfl (wpAny_bind (wpAny_field hos hds (x := vs) rfl (wpAny_pure ?_)))))))
  refine wpAny_bind (HT.slicePart_ ps ?_)
  show wpAny _ _ (if ((-1 : Int) == 0) = true then _ else _) _ _ s
  rw [if_neg (by decide)]
  refine wpAny_bind (HT.slicePart_ .none (wpAny_bind (HT.slicePart_ .none (wpAny_bind (wpAny_pure ?_)))))
  show wpAny _ _ (match Builtin.Slice.sliceAdjust none none (-1) (n : Int) with | (lo, hi) => pure (lo, (-1 : Int), Builtin.Slice.slicePlaces lo hi (-1))) _ _ s
  rw [adjust_back]
  show wpAny _ _ (pure ((n : Int) - 1, (-1 : Int), Builtin.Slice.slicePlaces ((n : Int) - 1) (-1) (-1))) _ _ s
  rw [places_back]
  exact wpAny_pure h
theorem tuple_back {t sl : Addr} {items : Array Value} {vs : Value} {Q : Value → Shared → Prop} (ht : IsTup s.heap t items) (hs : s.heap.IsSliceOf sl .none .none vs) (ps : IsPart vs (some (-1))) (hsz : items.size ≤ sizeLine)
    (h : Q (.ref s.heap.objs.size) { s with heap := s.heap.push { cls := .type "tuple", data := .seq items.toList.reverse.toArray } }) : wpAny (model prog w) A (getItem (.ref t) (.ref sl)) Q E s := by
  have hok : sizeOk (.seq items.toList.reverse.toArray) := by
    show items.toList.reverse.toArray.size ≤ sizeLine
    rw [List.size_toArray, List.length_reverse, Array.length_toList]; exact hsz
  have hTs : s.TypeIs (.ref sl) "slice" := let ⟨os, hos, hcs, _⟩ := hs; ⟨os, hos, hcs⟩
  unfold getItem
  with_reducible refine wpAny_holding ?_
  refine wpAny_bind (wpAny_sequenceKey ht.typeIs (by decide) (wpAny_bind (wpAny_callSpecial?_slot (name := Str.ofString "__getitem__") ht.typeIs PyProof.Rows.slot_tuple_getitem (wpAny_call_entry PyProof.Rows.slot_tuple_getitem ht.typeIs entry_tuple_getitem ?_ (args_tuple_getitem _ _)))))
  show wpAny _ _ (Builtin.Tuple.tupleItemsOf (.ref t) >>= _) _ _ s
  refine wpAny_bind (tupleItemsOf_ ht (wpAny_bind (wpAny_typeOf hTs ?_)))
  rw [if_pos (by decide)]
  refine wpAny_bind (slice_back hs ps ?_)
  have hno : ¬ ((((items.size : Int) - 1) == 0 && (-1 : Int) == 1 && items.size == items.size) = true) := by
    intro q
    rw [Bool.and_eq_true, Bool.and_eq_true] at q
    exact absurd q.1.2 (by decide)
  show wpAny _ _ (if (((items.size : Int) - 1) == 0 && (-1 : Int) == 1 && items.size == items.size) = true then _ else _) _ _ s
  rw [if_neg hno, pick_back]
  first
    | exact wpAny_bind (m := Builtin.Tuple.tupleExact _) (wpAny_newObj_type (wpAny_bind (wpAny_pure (wpAny_pure ⟨_, rfl, wpAny_pure h⟩))) hok) | exact wpAny_bind (m := Builtin.Tuple.tupleExact _) (wpAny_newObj_type (wpAny_pure ⟨_, rfl, wpAny_pure h⟩) hok)
    | exact wpAny_bind (wpAny_bind (m := Builtin.Tuple.tupleExact _) (wpAny_newObj_type (wpAny_pure (wpAny_pure ⟨_, rfl, wpAny_pure h⟩)) hok)) | exact wpAny_bind (wpAny_bind (m := Builtin.Tuple.tupleExact _) (wpAny_newObj_type (wpAny_pure ⟨_, rfl, wpAny_pure h⟩) hok))
end
def tRevT (K : PySem.W.Frag) (te : TE) : TE := fun σ H Q => te σ H fun x H1 => ∃ a xs, x = .ref a ∧ SqT K H1 a xs ∧ ∀ p, H1 p = none → Q (.ref p) (upd H1 p (.tup xs.reverse))
theorem pe_revT {X : Cx} {e : Expr} {te : TE} {k : Nat} {p1 p2 p3 pos : Pos} (he : PE X e te) : PE X (.Subscript e (.Slice none none (some (.UnaryOp .USub (.Constant (.int 1) k p1) p2)) p3) pos) (tRevT X.K te) := by
  refine ⟨fun pins s σ H Q I h => ?_⟩
  refine Subscript_ (thn (he.run pins s σ H _ I h) fun v s1 ⟨x, H1, I1, r1, a, xs, ex, hx, q⟩ => ?_)
  subst ex; cases r1
  have hst : PO X (some (.UnaryOp .USub (.Constant (.int 1) k p1) p2)) (tPart (tUn (rU fun i => .int (-i)) (tC (.int 1)))) := po_some (pe_un un_neg pe_int)
  refine wpAny_Slice (thn (po_none.run pins s1 σ H1 (fun o H2 => o = none ∧ H2 = H1) I1 ⟨rfl, rfl⟩) fun vl s2 ⟨l, H2, I2, pl, el, e2⟩ => ?_)
  subst el e2; cases pl
  refine thn (po_none.run pins s2 σ H2 (fun o H3 => o = none ∧ H3 = H2) I2 ⟨rfl, rfl⟩) fun vu s3 ⟨u, H3, I3, pu, eu, e3⟩ => ?_
  subst eu e3; cases pu
  refine thn (hst.run pins s3 σ H3 (fun o H4 => o = some (-1) ∧ H4 = H3) I3 ⟨1, rfl, -1, rfl, rfl, rfl⟩) fun vs s4 ⟨o, H4, I4, ps, eo, e4⟩ => ?_
  subst eo e4
  have I5 : Inv X pins σ H4 { s4 with heap := s4.heap.push { cls := .type "slice", data := .fields #[.none, .none, vs] } } := I4.kept (t' := s4.toks) fun b ob q => Heap.get?_push_of_some _ q
  obtain ⟨its, r, ht, hz⟩ := I5.tuple hx
  have hlen := r.length
  show wpAny (model X.prog X.w) X.A (subscriptTail e (.Slice none none (some (.UnaryOp .USub (.Constant (.int 1) k p1) p2)) p3) (.ref a) (.ref s4.heap.objs.size)) (EP X pins σ Q) X.xe { s4 with heap := s4.heap.push { cls := .type "slice", data := .fields #[.none, .none, vs] } }
  refine tail_any (ops := [.ref a, .ref s4.heap.objs.size]) ht.typeIs (PyProof.Rows.slot_tuple_getitem.lookup) ?_ (by with_unfolding_all rfl)
  refine tuple_back ht (Heap.IsSliceOf.new _ .none .none vs) ps (by rw [List.size_toArray]; omega) ?_
  refine ⟨.ref _, _, I5.laid (t' := s4.toks) (o := .tup xs.reverse) (fun b ob q => Heap.get?_push_of_some _ q) (Nat.le_refl _) ?_, rfl, q _ (I5.hok.fresh (Nat.le_refl _))⟩
  exact ⟨by rw [List.length_reverse]; exact hz, _, r.reverse, IsTup.new _ _⟩
end Tw

/-! Dicts with tuples as keys: the walk over items, comprehensions. -/
namespace Tw
open PySem L2 PySem.Spec PyProof.Rows
/-! ### for k, v in d.items() -/
def ItiT (d : Addr) (o : Obj) (kvs : List (List Key × V)) : It :=
  ⟨fun i H => H d = some (.frz o (.dT kvs)) ∧ i < kvs.length, fun i H x H' => ∃ T k v q, kvs[i]? = some (k, v) ∧ x = .ref T ∧ H T = none ∧ H q = some (.tup (k.map kV)) ∧ H' = upd H T (.tup [.ref q, v]), fun i H => H d = some (.frz o (.dT kvs)) ∧ kvs.length ≤ i⟩
theorem frz_rows {X : Cx} {pins : List (Addr × Obj)} {σ : L2.St} {H : Hp} {s : Shared} {d : Addr} {o : Obj} {kvs : List (List Key × V)} (I : Inv X pins σ H s) (h : H d = some (.frz o (.dT kvs))) :
    (d == sysModules) = false ∧ s.heap.get? d = some o ∧ ∃ (es : Array DictEntry) (ep : Nat), o.data = .dict es ep ∧ DT.Raw s.heap d es ep ∧ es.size = kvs.length ∧
      ∀ (i : Nat) (k : List Key) (v : V), kvs[i]? = some (k, v) → ∃ (hi : i < es.size) (q : Addr), es[i].key = .ref q ∧ RelV v es[i].val ∧ H q = some (.tup (k.map kV)) := by
  obtain ⟨hd, _, hs, xs, pr, o', es, ep, ho, hx, hdt, he, _⟩ := I.hok d _ h
  rw [hd] at ho
  cases ho
  have l1 : es.size = xs.length := size_of_entries he
  have l2 : kvs.length = xs.length := Paired.length pr
  refine ⟨hs, hd, es, ep, hdt, ⟨o, hd, hx, hdt⟩, by omega, fun i k v e => ?_⟩
  have hi : i < es.size := by
    have := (List.getElem?_eq_some_iff.mp e).1
    omega
  obtain ⟨b, hb, e1, e2, e3⟩ := paired_get pr e
  have q := entry_at he i
  rw [hb, Array.getElem?_eq_getElem hi] at q
  have q' := Option.some.inj q
  exact ⟨hi, b.2.1, by rw [q']; rfl, by rw [q']; exact e3, e2⟩
theorem turn_itemsT {P : Program} {w : World} {K : PySem.W.Frag} {d : Addr} {o : Obj} {es : Array DictEntry} {ep : Nat} {kvs : List (List Key × V)} {elts : List Expr} {kk : Nat} {tpos : Pos} (it : Addr) (hod : o.data = .dict es ep) (hes : es.size = kvs.length) :
    Turn P w K (.Tuple elts kk tpos) (ItiT d o kvs) [it] it (fun i h => ∃ ok ov, IsItemIter h it d i es.size ep ok ov) where
  mem := List.mem_singleton.mpr rfl
  obj := fun i h st b hb => by
    obtain ⟨ok, ov, e⟩ := st
    obtain rfl := List.mem_singleton.mp hb
    exact ⟨_, e, fun v z => nomatch z⟩
  keep := fun i h h' st k => by
    obtain ⟨ok, ov, e⟩ := st
    exact ⟨ok, ov, k it (List.mem_singleton.mpr rfl) _ e⟩
  item := by
    intro X hP hw hK hc i pins s σ H E I hf st hg
    subst hP hw hK
    obtain ⟨hs, hgd, es', ep', hdt, hraw, hsz, ent⟩ := frz_rows I hg.1
    obtain ⟨rfl, rfl⟩ := dict_ep hod hdt
    have hi0 : i < kvs.length := hg.2
    obtain ⟨⟨k, v⟩, hkv⟩ : ∃ p, kvs[i]? = some p := ⟨kvs[i], List.getElem?_eq_getElem hi0⟩
    obtain ⟨hi, q, hk, hv, hq⟩ := ent i k v hkv
    obtain ⟨ok, ov, he⟩ := st
    have hlt : it < s.heap.objs.size := Heap.lt_size he
    refine DT.nextI he hraw hi fun h' ho hT hz hk' => ⟨_, rfl, wpAny_letOwnedTupleGo_items (s := { s with heap := h' }) ho fun h'' he' sb => ?_⟩
    have hT2 : h''.get? s.heap.objs.size = some { cls := .type "tuple", data := .seq #[es'[i].key, es'[i].val] } := (sb.2 _ (Nat.ne_of_gt hlt)).trans hT
    have new : ObjOk X.prog X.w (upd H s.heap.objs.size (.tup [.ref q, v])) h'' s.heap.objs.size (.tup [.ref q, v]) := ⟨by show 2 ≤ sizeLine; decide, [es'[i].key, es'[i].val], .cons hk (.cons hv .nil), ⟨_, hT2, rfl, _, rfl⟩⟩
    have I1 : Inv X pins σ (upd H s.heap.objs.size (.tup [.ref q, v])) { s with heap := h'' } :=
      I.turnedNew (t' := s.toks) (ch := [it]) (fun b ob hb e => (sb.2 b (fun z => hb (List.mem_singleton.mpr z))).trans (hk' b ob (fun z => hb (List.mem_singleton.mpr z)) e)) hf (Nat.le_refl _) new
    refine ⟨.ref s.heap.objs.size, _, I1, rfl, ⟨_, k, v, q, hkv, rfl, I.hok.fresh (Nat.le_refl _), hq, rfl⟩, ⟨_, _, he'⟩, fun b hb => ?_⟩
    rw [List.mem_singleton.mp hb, upd_ne (Nat.ne_of_lt hlt)]
    exact (hf it (List.mem_singleton.mpr rfl)).1
  done := by
    intro X hP hw hK hc i pins s σ H E I hf st hg
    subst hP hw hK
    obtain ⟨f0, f1, f2, f3, f4, f5⟩ := hf it (List.mem_singleton.mpr rfl)
    obtain ⟨hs, hgd, es', ep', hdt, hraw, hsz, ent⟩ := frz_rows I hg.1
    obtain ⟨rfl, rfl⟩ := dict_ep hod hdt
    obtain ⟨ok, ov, he⟩ := st
    exact DT.endI (I.ok.hd hc) he hraw (by rw [hes]; exact hg.2) fun h' eb => ⟨rfl, I.turned (t' := s.toks) (fun b ob hb e => eb b ob hb e) f0 f1 f3 f4 f5⟩
  self := fun A i s Q E st h => by
    obtain ⟨_, _, e⟩ := st
    exact PySem.W.kcp_self e h
def iItemsT (td : TE) : TI := fun σ H R => td σ H fun x H1 => ∃ d o kvs, x = .ref d ∧ H1 d = some (.frz o (.dT kvs)) ∧ R (ItiT d o kvs) H1
theorem pi_itemsT {X : Cx} {e : Expr} {td : TE} {apos cpos : Pos} {elts : List Expr} {kk : Nat} {tpos : Pos} (he : PE X e td) (hbase : attributeBase e "items" X.env (eval e X.env) = eval e X.env := by rfl) (hline : (apos.endLine == cpos.line) = true := by rfl) :
    PI X (.Tuple elts kk tpos) (.Call (.Attribute e "items" apos) [] [] cpos) (iItemsT td) := by
  refine ⟨fun pins s σ H R I h => wpAny_Call_method (T := "dict") (id := "dict.items") hbase rfl hline F.plainAttrs_dict F.slot_dict_items F.type_dict_items (thn (he.run pins s σ H _ I h) fun u s1 ⟨x, H1, I1, rx, d, o, kvs, ex, hd, q⟩ => ?_)⟩
  subst ex
  obtain rfl : u = Value.ref d := rx
  obtain ⟨hs, hgd, es, ep, hdt, hraw, hsz, ent⟩ := frz_rows I1 hd
  obtain ⟨oo, hoo, hox, _⟩ := id hraw
  refine ⟨hraw.typeIs, fun a ea => by cases ea; exact ⟨oo, hoo, hox.2.1⟩, ?_⟩
  have I2 : Inv X pins σ H1 { s1 with heap := s1.heap.push { cls := .type "dict_items", data := .fields #[.ref d] } } := I1.kept (t' := s1.toks) fun b ob q => Heap.get?_push_of_some _ q
  have fin : wpAny (model X.prog X.w) X.A (pyIter (.ref s1.heap.objs.size)) (PIE X pins σ (.Tuple elts kk tpos) R) X.xe { s1 with heap := s1.heap.push { cls := .type "dict_items", data := .fields #[.ref d] } } :=
    DT.iterI (d := d) ⟨_, Heap.get?_push_size _ rfl, rfl, rfl⟩ (hraw.push _) (pi_one (tk := s1.toks) I2 _ (turn_itemsT _ hdt hsz) ⟨.none, .none, Heap.get?_push_size _ rfl⟩ q)
  show wpAny _ _ (callWith cpos (.builtin "dict.items") [.ref d] [] []) _ X.xe s1
  exact method_meetsIn F.slot_dict_items F.entry_dict_items rfl (PySem.evalArgs_none ⟨rfl, hraw.typeIs, F.args_dict_items_1 _, _, DT.meetsItems (es := es) (ep := ep) hs, ⟨hraw, fin⟩⟩)
/-! ### {k: v for .. in .. if ..}, a dict of any kind: Em what an empty one is, Put what a store leaves -/
structure DKind (X : Cx) (Em : HO) (Put : Hp → Addr → V → V → Hp → Prop) : Prop where
  emp : ∀ (H : Hp) (h : Heap), sysModules < h.objs.size → ObjOk X.prog X.w H (h.push { cls := .type "dict", data := .dict #[] }) h.objs.size Em
  put : ∀ (Y : Cx), Y.prog = X.prog → Y.w = X.w → Y.A = X.A → ∀ (pins : List (Addr × Obj)) (s : Shared) (σ : L2.St) (H H' : Hp) (D : Addr) (y z : V) (u r : Value) (E : Value → Shared → Prop) (Q : Unit → Shared → Prop), Inv Y pins σ H s → Put H D y z H' → RelV y u → RelV z r →
    (∀ s', Inv Y pins σ H' s' → Q () s') → wpAny (model X.prog X.w) X.A (dictSet D u r) Q E s
section
variable {X : Cx}
def tDcP (Em : HO) (Put : Hp → Addr → V → V → Hp → Prop) (wi : TI) (g : TG) (tt : TT) (tk tv : TE) (js : List Nat) : TE := fun σ H Q => wi σ H fun J H1 => ∀ D, H1 D = none → ∃ W : Nat → Nat → Hp → Prop, (∃ m, W 0 m (upd H1 D Em)) ∧ ∀ i m H, W i m H →
  (J.stop i H ∧ Q (.ref D) H) ∨ (J.go i H ∧ ∃ N : Hp → Prop, (∀ H', N H' → ∃ m', m' < m ∧ W (i + 1) m' H') ∧ ∀ x H', J.yld i H x H' → g x (wipe σ js) H' fun σ2 H2 => wipe σ2 js = wipe σ js ∧ tt σ2 H2 fun b H3 =>
    if b = true then tk σ2 H3 fun y H4 => tv σ2 H4 fun z H5 => ∃ H6, Put H5 D y z H6 ∧ N H6 else N H3)
theorem dcp_core {pins : List (Addr × Obj)} {s : Shared} {σ : L2.St} {H : Hp} {Q : VK} {Em : HO} {Put : Hp → Addr → V → V → Hp → Prop} {kx vx tg iter : Expr} {ifs : List Expr} {scope : Scope} {own : List (Str × Nat)} {pos pos' : Pos} {wi : TI} {g : TG} {tt : TT} {tk tv : TE} {use : Option (Value → Sem Unit)} {Qf : Value → Shared → Prop}
    (dk : DKind X Em Put) (calm : X.calm = true) (nd : X.N.Nodup) (I : Inv X pins σ H s) (hi : PI X tg iter wi) (ok : BlkOk X.N X.env.scope scope own)
    (hg : ∀ (s : Shared) (H : Hp) (C : Addr) (cl : List (Str × Addr)) (fp : List Addr), PG (X.blk s H scope (compEnvC scope cl C X.env) fp) tg g) (ht : ∀ (s : Shared) (H : Hp) (C : Addr) (cl : List (Str × Addr)) (fp : List Addr), PTs (X.blk s H scope (compEnvC scope cl C X.env) fp) ifs tt)
    (hk : ∀ (s : Shared) (H : Hp) (C : Addr) (cl : List (Str × Addr)) (fp : List Addr), PE (X.blk s H scope (compEnvC scope cl C X.env) fp) kx tk) (he : ∀ (s : Shared) (H : Hp) (C : Addr) (cl : List (Str × Addr)) (fp : List Addr), PE (X.blk s H scope (compEnvC scope cl C X.env) fp) vx tv)
    (fold : ∀ x, foldedSetIterable iter X.env x = pure x) (h : tDcP Em Put wi g tt tk tv (own.map (·.2)) σ H Q)
    (out : ∀ D C s' m H', Inv X pins σ H' s' → Q (.ref D) H' → s'.heap.Ns C m → FpOk X pins H' C → compPost (model X.prog X.w) X.A X.xe use Qf (.ref D) C (.ok .next) s') :
    wpAny (model X.prog X.w) X.A (comprehension (.DictComp kx vx [⟨tg, iter, ifs, 0⟩] scope pos) scope X.env pos' newDict false (eval iter X.env) use) Qf X.xe s := by
  have cells : ∀ y ∈ scope.names, y.2 = .free → ∃ c, X.env.cells.lookup y.1 = some c := fun y hy e => (ok.free y hy e).elim (fun k => I.ok.has _ (.inl k)) fun k => I.ok.has _ (.inr k)
  refine wpAny_comprehension_free (use := use) rfl fold (closure_ok cells) ok.kind (fun y hy e => by rw [ok.uniq y hy, e]) (thn (hi.run pins s σ H _ I h) fun xv s1 hx => thn hx fun itv s2 h2 => ?_)
  obtain ⟨it, fp, tn, J, H2, e, I2, T, t2, f2, q⟩ := h2
  subst e
  refine wpAny_newObj_type (newEnv_comp ?_)
  generalize hD : s2.heap.objs.size = D
  have fr : H2 D = none := I2.hok.fresh (Nat.le_of_eq hD)
  obtain ⟨W, ⟨m0, w0⟩, turn⟩ := q D fr
  generalize hs3 : ({ s2 with heap := s2.heap.push { cls := .type "dict", data := .dict #[] } } : Shared) = s3
  have hh3 : s3.heap = s2.heap.push { cls := .type "dict", data := .dict #[] } := by rw [← hs3]
  have kp3 : ∀ b o, s2.heap.get? b = some o → s3.heap.get? b = some o := fun b o e => by rw [hh3]; exact Heap.get?_push_of_some _ e
  have I3 : Inv X pins σ (upd H2 D Em) s3 := by
    rw [← hs3, ← hD]
    exact I2.laid (t' := s2.toks) (fun b o e => Heap.get?_push_of_some _ e) (Nat.le_refl _) (dk.emp _ s2.heap I2.big)
  have small : ∀ b ∈ fp, b < D := fun b hb => by
    obtain ⟨o, e, _⟩ := T.obj _ _ t2 b hb
    rw [← hD]
    exact Heap.lt_size e
  generalize hH3 : upd H2 D Em = H3 at I3 w0
  have f3 : ∀ b ∈ fp, FpOk X pins H3 b ∧ b < s3.heap.objs.size := fun b hb => by
    refine ⟨⟨?_, (f2 b hb).2⟩, by rw [hh3, Heap.size_push, hD]; exact Nat.lt_succ_of_lt (small b hb)⟩
    rw [← hH3, upd_ne (Nat.ne_of_lt (small b hb))]
    exact (f2 b hb).1
  have t3 : tn 0 s3.heap := T.keep _ _ _ t2 fun b _ o e => kp3 b o e
  have I4 := block_start I3 ok nd f3
  generalize hcl : cellsFrom (s3.heap.objs.size + 1) scope.names (cloFrom X.env.cells scope.names []) = cl at I4
  have pg := hg s3 H3 s3.heap.objs.size cl fp
  have pt := ht s3 H3 s3.heap.objs.size cl fp
  have pk := hk s3 H3 s3.heap.objs.size cl fp
  have pe := he s3 H3 s3.heap.objs.size cl fp
  show codeAny _ _ (.compStart (.DictComp kx vx [⟨tg, iter, ifs, 0⟩] scope pos) 0 (.ref it) (.ref D) (compEnvC scope cl s3.heap.objs.size X.env)) (compPost (model X.prog X.w) X.A X.xe use Qf (.ref D) s3.heap.objs.size) { s3 with heap := pushCells (s3.heap.push { cls := .type "dict", data := .dict #[] }) scope.names }
  generalize hce : compEnvC scope cl s3.heap.objs.size X.env = ce at I4 pg pt pk pe ⊢
  have loc : ce.locals = s3.heap.objs.size := by subst hce; rfl
  generalize hs4 : ({ s3 with heap := pushCells (s3.heap.push { cls := .type "dict", data := .dict #[] }) scope.names } : Shared) = s4 at I4 ⊢
  have t4 : tn 0 s4.heap := T.keep _ _ _ t3 fun b _ o e => by rw [← hs4]; exact pushCells_keeps _ _ _ _ (Heap.get?_push_of_some _ e)
  have fpo : ∀ {τ : L2.St} {H' : Hp} {s' : Shared}, Inv (X.blk s3 H3 scope ce fp) [] τ H' s' → (∀ b ∈ fp, H' b = none) → ∀ b ∈ fp, FpOk (X.blk s3 H3 scope ce fp) [] H' b := fun I' n b hb => ⟨n b hb, (I'.ok.exf b hb).1, I'.ok.exfs b hb, .inl hb, fun x c e => (I'.ok.exf b hb).2 x c e, fun p hp => absurd (show p ∈ ([] : List (Addr × Obj)) from hp) (by simp)⟩
  refine codeAny_compStart_dict ?_ (T.self X.A 0 _ _ _ t4 ?_)
  all_goals refine compLoop_anyD (fun n s' => ∃ i H', Inv (X.blk s3 H3 scope ce fp) [] (wipe σ (own.map (·.2))) H' s' ∧ tn i s'.heap ∧ (∀ b ∈ fp, H' b = none) ∧ W i n H') ?_ m0 ⟨0, H3, I4, t4, fun b hb => (f3 b hb).1.1, w0⟩
  all_goals
    rintro n s5 ⟨i, H5, I5, t5, n5, w5⟩
    rcases turn i n H5 w5 with ⟨stop, qq⟩ | ⟨go, N, hN, step⟩
    · refine thnF (T.done (X.blk s3 H3 scope ce fp) rfl rfl rfl calm i [] s5 _ H5 (fun _ _ => False) I5 (fpo I5 n5) t5 stop) fun r s6 ⟨hr, I6⟩ => ?_
      subst hr
      have I7 : Inv X pins σ H5 s6 := I3.call' (ch := fp) I6.os I6.base I6.hok I6.bare fun b hb => ⟨(f3 b hb).1.2.2.2.1, (f3 b hb).1.2.1, (f3 b hb).1.2.2.2.2.1, (f3 b hb).1.2.2.2.2.2⟩
      have nC : H5 s3.heap.objs.size = none := by
        have z : H5 ce.locals = none := I6.free
        rw [loc] at z; exact z
      obtain ⟨m, hn, _⟩ := I6.loc
      have hn : s6.heap.Ns ce.locals m := hn
      rw [loc] at hn
      exact out D _ s6 m H5 I7 qq hn (I3.fpOk (Nat.le_refl _) nC)
    · refine thnF (T.item (X.blk s3 H3 scope ce fp) rfl rfl rfl calm i [] s5 _ H5 (fun _ _ => False) I5 (fpo I5 n5) t5 go) fun r s6 ⟨u, hr, h6⟩ => ?_
      subst hr
      refine thnF h6 fun _ s7 ⟨x, H7, I7, r7, y7, t7, n7⟩ => ?_
      refine thnF (pg.run _ s7 _ H7 x u _ (I7.pinned (fpo I7 n7) (T.obj _ _ t7)) r7 (step x H7 y7)) fun _ s8 ⟨σ8, H8, I8, hw8, q8⟩ => ?_
      refine thnF (pt.run _ s8 σ8 H8 _ I8 q8) fun b s9 ⟨H9, I9, q9⟩ => ?_
      have fin : ∀ {s' : Shared} {H' : Hp}, Inv (X.blk s3 H3 scope ce fp) ([] ++ pinsAt fp s7.heap) σ8 H' s' → N H' → ∃ m, m < n ∧ ∃ i H', Inv (X.blk s3 H3 scope ce fp) [] (wipe σ (own.map (·.2))) H' s' ∧ tn i s'.heap ∧ (∀ b ∈ fp, H' b = none) ∧ W i m H' := fun {s' H'} I' nx => by
        obtain ⟨m', hm, w'⟩ := hN H' nx
        have pin : ∀ b ∈ fp, ∀ o, s7.heap.get? b = some o → s'.heap.get? b = some o ∧ H' b = none := fun b hb o e => let z := I'.pin (b, o) (List.mem_append_right _ (List.mem_append_right _ (mem_pinsAt hb e))); ⟨z.1, z.2.1⟩
        refine ⟨m', hm, i + 1, H', (I'.unpinned (pins := [])).weak (by rw [← hw8, wipe_length]) (fun j v e => ?_), T.keep _ _ _ t7 fun b hb o e => (pin b hb o e).1, fun b hb => ?_, w'⟩
        · rw [← hw8] at e; exact (wipe_some e).1
        · obtain ⟨o, e, _⟩ := T.obj _ _ t7 b hb
          exact (pin b hb o e).2
      cases b with
      | false =>
        simp only [Bool.false_eq_true, if_false] at q9
        exact fin I9 q9
      | true =>
        simp only [if_true] at q9
        refine thnF (pk.run _ s9 σ8 H9 _ I9 q9) fun z s10 ⟨yk, H10, I10, r10, q10⟩ => ?_
        refine thnF (pe.run _ s10 σ8 H10 _ I10 q10) fun z2 s11 ⟨yv, H11, I11, r11, H12, hput, nx⟩ => ?_
        exact dk.put (X.blk s3 H3 scope ce fp) rfl rfl rfl _ _ _ _ _ _ _ _ _ _ _ _ I11 hput r10 r11 fun s12 I12 => fin I12 nx
theorem pe_dcP {Em : HO} {Put : Hp → Addr → V → V → Hp → Prop} {kx vx tg iter : Expr} {ifs : List Expr} {scope : Scope} {own : List (Str × Nat)} {pos : Pos} {wi : TI} {g : TG} {tt : TT} {tk tv : TE} (dk : DKind X Em Put) (calm : X.calm = true) (nd : X.N.Nodup) (hi : PI X tg iter wi) (ok : BlkOk X.N X.env.scope scope own)
    (hg : ∀ (s : Shared) (H : Hp) (C : Addr) (cl : List (Str × Addr)) (fp : List Addr), PG (X.blk s H scope (compEnvC scope cl C X.env) fp) tg g) (ht : ∀ (s : Shared) (H : Hp) (C : Addr) (cl : List (Str × Addr)) (fp : List Addr), PTs (X.blk s H scope (compEnvC scope cl C X.env) fp) ifs tt)
    (hk : ∀ (s : Shared) (H : Hp) (C : Addr) (cl : List (Str × Addr)) (fp : List Addr), PE (X.blk s H scope (compEnvC scope cl C X.env) fp) kx tk) (he : ∀ (s : Shared) (H : Hp) (C : Addr) (cl : List (Str × Addr)) (fp : List Addr), PE (X.blk s H scope (compEnvC scope cl C X.env) fp) vx tv)
    (fold : ∀ x, foldedSetIterable iter X.env x = pure x := by intro _; rfl) : PE X (.DictComp kx vx [⟨tg, iter, ifs, 0⟩] scope pos) (tDcP Em Put wi g tt tk tv (own.map (·.2))) := by
  refine ⟨fun pins s σ H Q I h => ?_⟩
  rw [arm_eval_DictComp]
  refine dcp_core dk calm nd I hi ok hg ht hk he fold h fun D C s' m H' I' q hn f => ⟨m, hn, fun h'' sb => ?_⟩
  obtain ⟨g0, g1, _, g3, g4, g5⟩ := f
  exact ⟨.ref D, H', I'.turned (t' := s'.toks) (fun b o hb e => (sb.2 b hb).trans e) g0 g1 g3 g4 g5, rfl, q⟩
/-- name = {..}, the name a local -/
theorem ps_setDcP {i : Nat} {y : Str} {py spos : Pos} {Em : HO} {Put : Hp → Addr → V → V → Hp → Prop} {kx vx tg iter : Expr} {ifs : List Expr} {scope : Scope} {own : List (Str × Nat)} {pos : Pos} {wi : TI} {g : TG} {tt : TT} {tk tv : TE} (dk : DKind X Em Put) (calm : X.calm = true) (nd : X.N.Nodup) (hy : X.N[i]? = some y) (hyl : X.env.scope.names.lookup y = some .local)
    (hsw : swapsWith (.DictComp kx vx [⟨tg, iter, ifs, 0⟩] scope pos) (some (.Name y py)) spos.line X.env = pure true) (hi : PI X tg iter wi) (ok : BlkOk X.N X.env.scope scope own)
    (hg : ∀ (s : Shared) (H : Hp) (C : Addr) (cl : List (Str × Addr)) (fp : List Addr), PG (X.blk s H scope (compEnvC scope cl C X.env) fp) tg g) (ht : ∀ (s : Shared) (H : Hp) (C : Addr) (cl : List (Str × Addr)) (fp : List Addr), PTs (X.blk s H scope (compEnvC scope cl C X.env) fp) ifs tt)
    (hk : ∀ (s : Shared) (H : Hp) (C : Addr) (cl : List (Str × Addr)) (fp : List Addr), PE (X.blk s H scope (compEnvC scope cl C X.env) fp) kx tk) (he : ∀ (s : Shared) (H : Hp) (C : Addr) (cl : List (Str × Addr)) (fp : List Addr), PE (X.blk s H scope (compEnvC scope cl C X.env) fp) vx tv)
    (fold : ∀ x, foldedSetIterable iter X.env x = pure x := by intro _; rfl) : PS X (.Assign [.Name y py] (.DictComp kx vx [⟨tg, iter, ifs, 0⟩] scope pos) spos) (tAsg (tDcP Em Put wi g tt tk tv (own.map (·.2))) (gName i)) := by
  refine ⟨fun pins s σ H D I h => ?_⟩
  rw [exec_Assign_Name_used _ _ _ _ hsw]
  refine wpAny_bind (wpAny_standAt (wpAny_bind ?_))
  show wpAny _ X.A (do let _ ← comprehension (.DictComp kx vx [⟨tg, iter, ifs, 0⟩] scope pos) scope X.env (firstIterPos [⟨tg, iter, ifs, 0⟩] pos) newDict false (eval iter X.env) (some (assign (.Name y py) X.env))) _ _ s
  have h : tDcP Em Put wi g tt tk tv (own.map (·.2)) σ H (fun x H1 => gName i x σ H1 D.nx) := h
  refine wpAny_bind (thn (dcp_core (Qf := fun _ s' => SP X pins D .next s') dk calm nd I hi ok hg ht hk he fold h fun L C s' m H' I' q hn f => ?_) fun _ s' hq => wpAny_pure (wpAny_pure hq))
  show wpAny _ _ (assign (.Name y py) X.env (.ref L)) _ _ _
  refine wpAny_assign_Name (store_ok2 (v := V.ref L) I' nd hy (.inl hyl) rfl (fun s2 I2 ⟨a, sb, ha⟩ => ?_) (.inr hyl))
  obtain ⟨g0, g1, _, g3, g4, g5⟩ := f
  have haC : C ≠ a := ha.elim (fun z => by rw [z]; exact g1) fun z e => g4 y a z e.symm
  exact ⟨m, hn.sameBut sb haC, fun h3 sb3 => ⟨_, H', I2.turned (t' := s2.toks) (fun b o hb e => (sb3.2 b hb).trans e) g0 g1 g3 g4 g5, q⟩⟩
theorem sw_trueD {kx vx : Expr} {gs : List Comprehension} {scope : Scope} {pos py : Pos} {y : Str} {l : Nat} {env : Env} (hk : env.scope.kind = .function) (hy : env.scope.names.lookup y = some .local) (hl : (py.line == pos.line) = true)
    (ha : (scope.names.any fun (n, k) => n == y && (k == .local || k == .cell)) = false) : swapsWith (.DictComp kx vx gs scope pos) (some (.Name y py)) l env = pure true := by
  have ky : env.kindOf y = some .local := hy
  have hb : env.blockKind = .function := by unfold Env.blockKind; rw [hk]; rfl
  unfold swapsWith
  simp only [hb, ky, ha, Expr.pos, hl]
  rfl
/-- keys that are tuples of ints and texts -/
def PutT (H : Hp) (D : Addr) (y z : V) (H' : Hp) : Prop := ∃ kvs k b, y = .ref b ∧ H D = some (.dT kvs) ∧ H b = some (.tup (k.map kV)) ∧ kvs.length < sizeLine ∧ H' = upd H D (.dT (putK kvs k z))
theorem dkT (hu : X.A.units < cLine) : DKind X (.dT []) PutT where
  emp := fun H h hb => dt_empty h hb
  put := fun Y e1 e2 e3 pins s σ H H' D y z u r E Q I hp ru rr q => by
    obtain ⟨kvs, k, b, rfl, h1, h2, h3, rfl⟩ := hp
    cases (show u = Value.ref b from ru)
    have := d_setT (A := X.A) (E := E) (Q := Q) hu I h1 h2 h3 rr q
    rw [e1, e2] at this
    exact this
end
end Tw

/-! sorted(xs): items that are told as data. -/
namespace Tw
open PySem L2 PySem.Spec PyProof.Rows
section
variable {X : Cx} {β : Type} {enc : β → PyData}
theorem each_of_dp {K : PySem.W.Frag} {H : Hp} : ∀ {xs : List V} {us : List Value} {bs : List β}, Vals xs us → DpAll K H xs (bs.map enc) → PySem.W.EachIs (fun v b => ∃ x, RelV x v ∧ Dp K H x (enc b)) us bs
  | _, _, [], r, h => by
    cases h
    cases r
    exact .nil
  | _, _, b :: bs, r, h => by
    cases h with
    | cons h1 h2 =>
      cases r with
      | cons r1 r2 => exact .cons ⟨_, r1, h1⟩ (each_of_dp r2 h2)
theorem dp_of_each {K : PySem.W.Frag} {H : Hp} : ∀ {us : List Value} {bs : List β}, PySem.W.EachIs (fun v b => ∃ x, RelV x v ∧ Dp K H x (enc b)) us bs → ∃ ys, Vals ys us ∧ DpAll K H ys (bs.map enc)
  | _, _, .nil => ⟨[], .nil, .nil⟩
  | _, _, .cons ⟨x, r, h⟩ t => by
    obtain ⟨ys, r2, h2⟩ := dp_of_each t
    exact ⟨x :: ys, .cons r r2, .cons h h2⟩
/-- sorted(xs), xs told by bs -/
def rSortedD (K : PySem.W.Frag) (enc : β → PyData) : List V → Hp → VK → Prop := fun vs H Q => ∃ (a : Addr) (xs : List V) (bs : List β), vs = [V.ref a] ∧ SqL K H a xs ∧ DpAll K H xs (bs.map enc) ∧ PySem.W.AllAlike (bs.map enc) ∧ PySem.W.Sortable (bs.map enc) ∧ (∀ b ∈ bs, (enc b).depth ≤ 8) ∧
  ∀ (ys : List V) (p : Addr), DpAll K H ys ((bs.mergeSort (PySem.W.dataLe false enc)).map enc) → H p = none → Q (.ref p) (upd H p (.lst ys))
theorem cr_sortedD (enc : β → PyData) (hu : X.A.units + 64 < cLine) : CallR X (.builtin "sorted") (rSortedD X.K enc) := by
  intro pins s σ H vs us Q I r h
  obtain ⟨a, xs, bs, rfl, hs, hd, hal, hk, hz, q⟩ := h
  obtain ⟨its, rv, hl, hzl⟩ := I.list hs
  rw [Vals.ref1 r]
  have hlen := rv.length
  have hbl : bs.length = its.length := by rw [← hlen, dpAll_len hd, List.length_map]
  refine PySem.W.sorted_data (s := s) (enc := enc) hl.isList (each_of_dp rv hd) ((each_of_dp rv hd).mono fun v b ⟨x, r1, h1⟩ => Dp.reads I _ _ _ h1 r1) hal hk (by rw [hbl, ← hlen]; exact hzl) (fun b hb => by
    have := hz b hb
    show X.A.units + 2 + (enc b).depth < cLine
    omega) fun out ho eo => ?_
  obtain ⟨ys, r2, h2⟩ := dp_of_each eo
  obtain ⟨ep, he'⟩ := PyProof.Rows.sortedAll_at s.heap its out.toArray
  refine ⟨.ref _, upd H (s.heap.objs.size + 1) (.lst ys), I.laid (t' := s.toks) (fun _ _ => PyProof.Rows.sortedAll_old) (Nat.le_succ _) ⟨?_, out, ep, r2, he'⟩, rfl, q ys _ h2 (I.hok.fresh (Nat.le_succ _))⟩
  rw [r2.length, ho, hbl, ← hlen]
  exact hzl
end
/-! ### two states and two texts -/
theorem js_alike (rows : List JS) : PySem.W.AllAlike (rows.map jsD) := by
  intro d hd d' hd'
  obtain ⟨a, _, rfl⟩ := List.mem_map.mp hd
  obtain ⟨b, _, rfl⟩ := List.mem_map.mp hd'
  simp [jsD, PySem.W.alike, PySem.W.alikeAll]
theorem js_sortable (rows : List JS) : PySem.W.Sortable (rows.map jsD) := .inl fun d hd => by
  obtain ⟨a, _, rfl⟩ := List.mem_map.mp hd
  exact ⟨_, _, rfl⟩
theorem js_depth (s : JS) : (jsD s).depth ≤ 8 := by
  simp [jsD, PyData.depth, PyData.depthAll]
theorem js_le {a b : JS} (h : PySem.W.dataLe false jsD a b = true) : a.p < b.p ∨ (a.p = b.p ∧ a.q ≤ b.q) := by
  unfold PySem.W.dataLe PySem.W.sortLe at h
  simp only [cond_false, Bool.not_eq_true'] at h
  have e : ∀ s : JS, PySem.W.keyToks (jsD s) = [.inl 1, .inl s.p, .inl 1, .inl s.q, .inl 1, .inr s.r.cps.toList, .inl 1, .inr s.w.cps.toList, .inl 0] := fun s => by simp [jsD, PySem.W.keyToks, PySem.W.keyToksAll]
  rw [e a, e b] at h
  have h1 : (decide ((1 : Int) < 1) || (!decide ((1 : Int) < 1) && (decide (b.p < a.p) || (!decide (a.p < b.p) && (decide ((1 : Int) < 1) || (!decide ((1 : Int) < 1) && (decide (b.q < a.q) || (!decide (a.q < b.q) &&
    lexLt itemOrd [.inl 1, .inr b.r.cps.toList, .inl 1, .inr b.w.cps.toList, .inl 0] [.inl 1, .inr a.r.cps.toList, .inl 1, .inr a.w.cps.toList, .inl 0]))))))))  = false := h
  by_cases z1 : b.p < a.p
  · simp [z1] at h1
  · by_cases z2 : a.p < b.p
    · exact .inl z2
    · by_cases z3 : b.q < a.q
      · simp [z1, z2, z3] at h1
      · exact .inr ⟨by omega, by omega⟩
/-- sorted by two states, all pairs unlike: strictly rising -/
theorem js_sorted {rows : List JS} (hn : rows.Pairwise fun a b => ¬ (a.p = b.p ∧ a.q = b.q)) : (rows.mergeSort (PySem.W.dataLe false jsD)).Pairwise fun a b => a.p < b.p ∨ (a.p = b.p ∧ a.q < b.q) := by
  have T := PySem.W.sortLe_total (listOrd itemOrd) false fun b : JS => PySem.W.keyToks (jsD b)
  have h1 : (rows.mergeSort (PySem.W.dataLe false jsD)).Pairwise fun a b => PySem.W.dataLe false jsD a b = true := List.pairwise_mergeSort (fun a b c => T.trans a b c) (fun a b => by
    have := T.total a b
    rw [Bool.or_eq_true]
    exact this) rows
  have h2 : (rows.mergeSort (PySem.W.dataLe false jsD)).Pairwise fun a b => ¬ (a.p = b.p ∧ a.q = b.q) := ((List.mergeSort_perm rows _).symm.pairwise_iff (fun {a b} h z => h ⟨z.1.symm, z.2.symm⟩)).mp hn
  refine (h1.and h2).imp fun {a b} h => ?_
  rcases js_le h.1 with z | ⟨z1, z2⟩
  · exact .inl z
  · refine .inr ⟨z1, ?_⟩
    have := fun e => h.2 ⟨z1, e⟩
    omega
end Tw

/-! Lists and dicts that change, told by what their items are. -/
namespace Tw
open PySem L2
/-- a relation that stays while tuples and what is locked stand -/
class Stay {α : Type} (R : Hp → V → α → Prop) : Prop where
  st : ∀ {H H' : Hp} {v : V} {x : α}, Keep H H' → R H v x → R H' v x
section
variable {α κ τ : Type} {R : Hp → V → α → Prop} {H H0 H1 H' : Hp} {vs ws : List V} {xs ys : List α} {v : V} {x : α} {a b : Addr}
/-- item by item -/
structure Al (R : Hp → V → α → Prop) (H : Hp) (vs : List V) (xs : List α) : Prop where
  len : vs.length = xs.length
  at_ : ∀ (i : Nat) (v : V) (x : α), vs[i]? = some v → xs[i]? = some x → R H v x
theorem Al.nil : Al R H [] [] := ⟨rfl, fun i v x h => by simp at h⟩
theorem Al.keep [Stay R] (h : Al R H vs xs) (k : Keep H H') : Al R H' vs xs := ⟨h.len, fun i v x e1 e2 => Stay.st k (h.at_ i v x e1 e2)⟩
theorem Al.snoc (h : Al R H vs xs) (hr : R H v x) : Al R H (vs ++ [v]) (xs ++ [x]) := by
  refine ⟨by rw [List.length_append, List.length_append, h.len]; rfl, fun i v' x' e1 e2 => ?_⟩
  rcases Nat.lt_trichotomy i vs.length with hi | hi | hi
  · rw [List.getElem?_append_left hi] at e1
    rw [List.getElem?_append_left (by rw [← h.len]; exact hi)] at e2
    exact h.at_ i _ _ e1 e2
  · rw [List.getElem?_append_right (by omega), hi, Nat.sub_self] at e1
    rw [List.getElem?_append_right (by rw [← h.len]; omega), hi, h.len, Nat.sub_self] at e2
    cases e1
    cases e2
    exact hr
  · rw [List.getElem?_eq_none (by rw [List.length_append]; exact hi)] at e1
    cases e1
theorem Al.app (h : Al R H vs xs) (g : Al R H ws ys) : Al R H (vs ++ ws) (xs ++ ys) := by
  refine ⟨by rw [List.length_append, List.length_append, h.len, g.len], fun i v' x' e1 e2 => ?_⟩
  rcases Nat.lt_or_ge i vs.length with hi | hi
  · rw [List.getElem?_append_left hi] at e1
    rw [List.getElem?_append_left (by rw [← h.len]; exact hi)] at e2
    exact h.at_ i _ _ e1 e2
  · rw [List.getElem?_append_right hi] at e1
    rw [List.getElem?_append_right (by rw [← h.len]; exact hi), ← h.len] at e2
    exact g.at_ _ _ _ e1 e2
theorem Al.one (hr : R H v x) : Al R H [v] [x] := Al.nil.snoc hr
theorem Al.get (h : Al R H vs xs) {i : Nat} (e : xs[i]? = some x) : ∃ v, vs[i]? = some v ∧ R H v x := by
  have hi : i < vs.length := by rw [h.len]; exact (List.getElem?_eq_some_iff.mp e).1
  exact ⟨vs[i], List.getElem?_eq_getElem hi, h.at_ i _ _ (List.getElem?_eq_getElem hi) e⟩
theorem Al.getv (h : Al R H vs xs) {i : Nat} (e : vs[i]? = some v) : ∃ x, xs[i]? = some x ∧ R H v x := by
  have hi : i < xs.length := by rw [← h.len]; exact (List.getElem?_eq_some_iff.mp e).1
  exact ⟨xs[i], List.getElem?_eq_getElem hi, h.at_ i _ _ e (List.getElem?_eq_getElem hi)⟩
theorem Al.ix (h : Al R H vs xs) {i : Nat} (e : xs[i]? = some x) : ∃ v, atI vs (i : Int) = some v ∧ R H v x := by
  obtain ⟨v, h1, h2⟩ := h.get e
  exact ⟨v, atI_nat h1, h2⟩
theorem Al.init (h : Al R H (vs ++ [v]) (xs ++ [x])) : Al R H vs xs ∧ R H v x := by
  have hl : vs.length = xs.length := by
    have := h.len
    rw [List.length_append, List.length_append] at this
    exact Nat.succ.inj this
  refine ⟨⟨hl, fun i v' x' e1 e2 => h.at_ i v' x' ?_ ?_⟩, h.at_ vs.length v x ?_ ?_⟩
  · rw [List.getElem?_append_left (List.getElem?_eq_some_iff.mp e1).1]; exact e1
  · rw [List.getElem?_append_left (List.getElem?_eq_some_iff.mp e2).1]; exact e2
  · rw [List.getElem?_append_right (Nat.le_refl _), Nat.sub_self]; rfl
  · rw [hl, List.getElem?_append_right (Nat.le_refl _), Nat.sub_self]; rfl
theorem Al.unsnoc (h : Al R H vs (xs ++ [x])) : ∃ ws v, vs = ws ++ [v] ∧ Al R H ws xs ∧ R H v x := by
  rcases List.eq_nil_or_concat vs with rfl | ⟨ws, v, rfl⟩
  · have := h.len
    rw [List.length_append] at this
    simp at this
  · rw [List.concat_eq_append] at h ⊢
    exact ⟨ws, v, rfl, h.init.1, h.init.2⟩
theorem Al.reverse (h : Al R H vs xs) : Al R H vs.reverse xs.reverse := by
  refine ⟨by rw [List.length_reverse, List.length_reverse, h.len], fun i v x e1 e2 => ?_⟩
  have hi : i < vs.length := by
    have := (List.getElem?_eq_some_iff.mp e1).1
    rwa [List.length_reverse] at this
  rw [List.getElem?_reverse hi] at e1
  rw [List.getElem?_reverse (by rw [← h.len]; exact hi), ← h.len] at e2
  exact h.at_ _ _ _ e1 e2
theorem Al.imp {S : Hp → V → α → Prop} (h : Al R H vs xs) (f : ∀ v x, R H v x → S H' v x) : Al S H' vs xs := ⟨h.len, fun i v x e1 e2 => f v x (h.at_ i v x e1 e2)⟩
theorem Al.map {β : Type} {S : Hp → V → β → Prop} {g : α → β} (h : Al R H vs xs) (f : ∀ v x, R H v x → S H v (g x)) : Al S H vs (xs.map g) := by
  refine ⟨by rw [List.length_map, h.len], fun i v y e1 e2 => ?_⟩
  rw [List.getElem?_map] at e2
  obtain ⟨x, hx, rfl⟩ := Option.map_eq_some_iff.mp e2
  exact f v x (h.at_ i v x e1 hx)
theorem Al.dp {K : PySem.W.Frag} {enc : α → PyData} (h : Al R H vs xs) (f : ∀ v x, R H v x → Dp K H v (enc x)) : DpAll K H vs (xs.map enc) := by
  induction xs generalizing vs with
  | nil =>
    have := h.len
    rw [List.length_nil, List.length_eq_zero_iff] at this
    subst this
    exact .nil
  | cons y ys ih =>
    cases vs with
    | nil => have := h.len; simp at this
    | cons u us =>
      refine .cons (f _ _ (h.at_ 0 u y rfl rfl)) (ih ⟨by have := h.len; simpa using this, fun i v x e1 e2 => h.at_ (i + 1) v x (by simpa using e1) (by simpa using e2)⟩)
/-! ### lists -/
/-- the list at a, told by xs -/
def LsAt (R : Hp → V → α → Prop) (a : Addr) (xs : List α) (H : Hp) : Prop := ∃ vs, H a = some (.lst vs) ∧ Al R H vs xs
theorem LsAt.same [Stay R] (h : LsAt R a xs H) (e : Same H H') : LsAt R a xs H' := by
  obtain ⟨vs, h1, h2⟩ := h
  exact ⟨vs, e _ _ h1, h2.keep (keep_of e)⟩
theorem LsAt.fr [Stay R] (h : LsAt R a xs H) (k : Keep H H') (e : H' a = H a) : LsAt R a xs H' := by
  obtain ⟨vs, h1, h2⟩ := h
  exact ⟨vs, by rw [e]; exact h1, h2.keep k⟩
theorem LsAt.new [Stay R] : LsAt R a [] (upd H a (.lst [])) := ⟨[], upd_same, .nil⟩
theorem LsAt.app [Stay R] {Q : VK} (h : LsAt R a xs H) (hv : R H v x) (hl : xs.length < 16777216) (q : ∀ H', LsAt R a (xs ++ [x]) H' → Keep H H' → (∀ b, b ≠ a → H' b = H b) → Q .non H') : rAppend (.ref a) [v] H Q := by
  obtain ⟨vs, h1, h2⟩ := h
  have kp : Keep H (upd H a (.lst (vs ++ [v]))) := keep_lst h1
  exact r_app h1 (by rw [h2.len]; exact hl) (q _ ⟨_, upd_same, (h2.keep kp).snoc (Stay.st kp hv)⟩ kp fun b hb => upd_ne hb)
theorem LsAt.pop [Stay R] {Q : VK} (h : LsAt R a (xs ++ [x]) H) (q : ∀ y H', R H' y x → LsAt R a xs H' → Keep H H' → (∀ b, b ≠ a → H' b = H b) → Q y H') : rPop (.ref a) [] H Q := by
  obtain ⟨vs, h1, h2⟩ := h
  obtain ⟨ws, y, rfl, h3, h4⟩ := h2.unsnoc
  have kp : Keep H (upd H a (.lst ws)) := keep_lst h1
  refine ⟨a, ws ++ [y], y, rfl, rfl, h1, by rw [List.length_append, List.length_singleton]; simp, ?_⟩
  rw [List.dropLast_concat]
  exact q y _ (Stay.st kp h4) ⟨ws, upd_same, h3.keep kp⟩ kp fun b hb => upd_ne hb
theorem LsAt.ne_tup {zs : List V} (h : LsAt R a xs H) (g : H b = some (.tup zs)) : b ≠ a := by
  obtain ⟨vs, h1, _⟩ := h
  exact ne_of g h1 (by intro z; cases z)
theorem LsAt.ne_none (h : LsAt R a xs H) (g : H b = none) : a ≠ b := by
  obtain ⟨vs, h1, _⟩ := h
  exact ne_of_none h1 g
/-! ### dicts: keys by a function, values told -/
def asc (kf : κ → τ) (ks : List κ) (vs : List V) : List (τ × V) := (ks.map kf).zip vs
theorem asc_len {kf : κ → τ} {ks : List κ} (h : ks.length = vs.length) : (asc kf ks vs).length = ks.length := by
  unfold asc
  rw [List.length_zip, List.length_map, h, Nat.min_self]
theorem asc_snoc {kf : κ → τ} {ks : List κ} {k : κ} (h : ks.length = vs.length) : asc kf (ks ++ [k]) (vs ++ [v]) = asc kf ks vs ++ [(kf k, v)] := by
  unfold asc
  rw [List.map_append, List.zip_append (by rw [List.length_map]; exact h)]
  rfl
variable [DecidableEq τ]
theorem asc_none {kf : κ → τ} (inj : ∀ a b, kf a = kf b → a = b) {k : κ} : ∀ {ks : List κ} {vs : List V}, ks.length = vs.length → k ∉ ks → valV (asc kf ks vs) (kf k) = none
  | [], _, _, _ => rfl
  | j :: ks, [], h, _ => by simp at h
  | j :: ks, u :: vs, h, hk => by
    rw [List.mem_cons, not_or] at hk
    show valV ((kf j, u) :: asc kf ks vs) (kf k) = none
    rw [valV_neg (fun e => hk.1 (inj _ _ e).symm)]
    exact asc_none inj (by simpa using h) hk.2
theorem asc_some {kf : κ → τ} (inj : ∀ a b, kf a = kf b → a = b) {k : κ} : ∀ {ks : List κ} {vs : List V} {i : Nat}, ks.Nodup → ks[i]? = some k → vs[i]? = some v → valV (asc kf ks vs) (kf k) = some v
  | [], _, _, _, h, _ => by simp at h
  | j :: ks, [], _, _, _, h => by simp at h
  | j :: ks, u :: vs, 0, _, h1, h2 => by
    simp at h1 h2
    subst h1
    subst h2
    exact valV_pos rfl
  | j :: ks, u :: vs, i + 1, hn, h1, h2 => by
    have h1' : ks[i]? = some k := by simpa using h1
    have hm : k ∈ ks := List.mem_of_getElem? h1'
    show valV ((kf j, u) :: asc kf ks vs) (kf k) = some v
    rw [valV_neg (fun e => (List.nodup_cons.mp hn).1 (by rw [inj _ _ e]; exact hm))]
    exact asc_some inj (List.nodup_cons.mp hn).2 h1' (by simpa using h2)
theorem asc_val {kf : κ → τ} (inj : ∀ a b, kf a = kf b → a = b) {ks : List κ} {k : κ} (hn : ks.Nodup) (hl : ks.length = vs.length) : (k ∉ ks ∧ valV (asc kf ks vs) (kf k) = none) ∨ ∃ (i : Nat) (v : V), ks[i]? = some k ∧ vs[i]? = some v ∧ valV (asc kf ks vs) (kf k) = some v := by
  by_cases h : k ∈ ks
  · obtain ⟨i, hi⟩ := List.getElem?_of_mem h
    have hi2 : i < vs.length := by rw [← hl]; exact (List.getElem?_eq_some_iff.mp hi).1
    exact .inr ⟨i, vs[i], hi, List.getElem?_eq_getElem hi2, asc_some inj hn hi (List.getElem?_eq_getElem hi2)⟩
  · exact .inl ⟨h, asc_none inj hl h⟩
end
theorem keep_dT' {H : Hp} {p : Addr} {o : HO} {kvs : List (List Key × V)} (h : H p = some (.dT kvs)) : Keep H (upd H p o) :=
  ⟨fun b xs e => by rw [upd_ne (ne_of e h (by intro z; cases z))]; exact e, fun b o u e => by rw [upd_ne (ne_of e h (by intro z; cases z))]; exact e⟩
theorem keep_dK' {H : Hp} {p : Addr} {o : HO} {kvs : List (Key × V)} (h : H p = some (.dK kvs)) : Keep H (upd H p o) :=
  ⟨fun b xs e => by rw [upd_ne (ne_of e h (by intro z; cases z))]; exact e, fun b o u e => by rw [upd_ne (ne_of e h (by intro z; cases z))]; exact e⟩
theorem keep_ins {H : Hp} {p C dx : Addr} {o : HO} {fs : List (Str × V)} (h : H p = some (.ins C dx fs)) : Keep H (upd H p o) :=
  ⟨fun b xs e => by rw [upd_ne (ne_of e h (by intro z; cases z))]; exact e, fun b o u e => by rw [upd_ne (ne_of e h (by intro z; cases z))]; exact e⟩
/-- a key that is a tuple, with an injective writing of it -/
class TKey (κ : Type) where
  kf : κ → List Key
  inj : ∀ a b, kf a = kf b → a = b
section
variable {α κ : Type} [TKey κ] {R : Hp → V → α → Prop} {H H0 H1 H' : Hp} {vs ws : List V} {xs ys : List α} {v : V} {x : α} {a b d : Addr} {ks : List κ} {k : κ}
/-- the value v is the key k -/
def KAt (H : Hp) (v : V) (k : κ) : Prop := ∃ b, v = .ref b ∧ H b = some (.tup ((TKey.kf k).map kV))
instance : Stay (KAt (κ := κ)) := ⟨fun k ⟨b, e, h⟩ => ⟨b, e, k.1 _ _ h⟩⟩
structure Td (R : Hp → V → α → Prop) (d : Addr) (ks : List κ) (xs : List α) (H : Hp) : Prop where
  h : ∃ vs, H d = some (.dT (asc TKey.kf ks vs)) ∧ Al R H vs xs
  len : ks.length = xs.length
  nd : ks.Nodup
theorem Td.same [Stay R] (h : Td R d ks xs H) (e : Same H H') : Td R d ks xs H' := by
  obtain ⟨vs, h1, h2⟩ := h.h
  exact ⟨⟨vs, e _ _ h1, h2.keep (keep_of e)⟩, h.len, h.nd⟩
theorem Td.fr [Stay R] (h : Td R d ks xs H) (k : Keep H H') (e : H' d = H d) : Td R d ks xs H' := by
  obtain ⟨vs, h1, h2⟩ := h.h
  exact ⟨⟨vs, by rw [e]; exact h1, h2.keep k⟩, h.len, h.nd⟩
theorem Td.new : Td R d ([] : List κ) [] (upd H d (.dT [])) := ⟨⟨[], upd_same, .nil⟩, rfl, List.nodup_nil⟩
theorem Td.ne_tup {zs : List V} (h : Td R d ks xs H) (g : H b = some (.tup zs)) : b ≠ d := by
  obtain ⟨vs, h1, _⟩ := h.h
  exact ne_of g h1 (by intro z; cases z)
theorem Td.ne_lst {zs : List V} (h : Td R d ks xs H) (g : H b = some (.lst zs)) : b ≠ d := by
  obtain ⟨vs, h1, _⟩ := h.h
  exact ne_of g h1 (by intro z; cases z)
/-- k in d -/
theorem Td.in_ (h : Td R d ks xs H) (hk : KAt H v k) : ∃ o, DGet H d v o ∧ (o.isSome = true ↔ k ∈ ks) := by
  obtain ⟨vs, h1, h2⟩ := h.h
  obtain ⟨b, rfl, hb⟩ := hk
  refine ⟨_, DGet.t h1 hb, ?_⟩
  rcases asc_val TKey.inj (k := k) h.nd (h.len.trans h2.len.symm) with ⟨e1, e2⟩ | ⟨i, u, e1, e2, e3⟩
  · rw [e2]
    exact ⟨fun z => by simp at z, fun z => absurd z e1⟩
  · rw [e3]
    exact ⟨fun _ => List.mem_of_getElem? e1, fun _ => rfl⟩
/-- d[k], there -/
theorem Td.get (h : Td R d ks xs H) (hk : KAt H v k) {i : Nat} (e : ks[i]? = some k) : ∃ u x, DGet H d v (some u) ∧ xs[i]? = some x ∧ R H u x := by
  obtain ⟨vs, h1, h2⟩ := h.h
  obtain ⟨b, rfl, hb⟩ := hk
  have hi : i < vs.length := by rw [h2.len, ← h.len]; exact (List.getElem?_eq_some_iff.mp e).1
  have hi2 : i < xs.length := by rw [← h2.len]; exact hi
  refine ⟨vs[i], xs[i], ?_, List.getElem?_eq_getElem hi2, h2.at_ i _ _ (List.getElem?_eq_getElem hi) (List.getElem?_eq_getElem hi2)⟩
  rw [← asc_some TKey.inj h.nd e (List.getElem?_eq_getElem hi)]
  exact DGet.t h1 hb
/-- d[k] = v, new -/
theorem Td.put [Stay R] {u : V} (h : Td R d ks xs H) (hk : KAt H v k) (hn : k ∉ ks) (hu : R H u x) (hl : ks.length < 16777216) :
    ∃ H', DPut H d v u H' ∧ Td R d (ks ++ [k]) (xs ++ [x]) H' ∧ Keep H H' ∧ ∀ b, b ≠ d → H' b = H b := by
  obtain ⟨vs, h1, h2⟩ := h.h
  obtain ⟨b, rfl, hb⟩ := hk
  have hlv : ks.length = vs.length := h.len.trans h2.len.symm
  have kp : ∀ o, Keep H (upd H d o) := fun o => keep_dT' h1
  refine ⟨_, DPut.t h1 hb (by rw [asc_len hlv]; exact hl), ⟨⟨vs ++ [u], ?_, (h2.keep (kp _)).snoc (Stay.st (kp _) hu)⟩, by rw [List.length_append, List.length_append, h.len]; rfl, ?_⟩, kp _, fun b hb => upd_ne hb⟩
  · rw [upd_same, asc_snoc hlv, putK_new _ (asc_none TKey.inj hlv hn)]
  · exact List.nodup_append.mpr ⟨h.nd, by simp, fun a ha b hb e => by
      rw [List.mem_singleton.mp hb] at e
      exact hn (e ▸ ha)⟩
end
/-! ### dicts whose keys are ints or texts -/
class KKey (κ : Type) where
  kf : κ → Key
  inj : ∀ a b, kf a = kf b → a = b
instance : KKey Int := ⟨Sum.inl, fun a b h => Sum.inl.inj h⟩
instance : KKey Nat := ⟨fun n => Sum.inl (n : Int), fun a b h => by have := Sum.inl.inj h; omega⟩
instance : KKey Str := ⟨Sum.inr, fun a b h => Sum.inr.inj h⟩
section
variable {α κ : Type} [KKey κ] {R : Hp → V → α → Prop} {H H0 H1 H' : Hp} {vs ws : List V} {xs ys : List α} {v : V} {x : α} {a b d : Addr} {ks : List κ} {k : κ}
structure Kd (R : Hp → V → α → Prop) (d : Addr) (ks : List κ) (xs : List α) (H : Hp) : Prop where
  h : ∃ vs, H d = some (.dK (asc KKey.kf ks vs)) ∧ Al R H vs xs
  len : ks.length = xs.length
  nd : ks.Nodup
theorem Kd.same [Stay R] (h : Kd R d ks xs H) (e : Same H H') : Kd R d ks xs H' := by
  obtain ⟨vs, h1, h2⟩ := h.h
  exact ⟨⟨vs, e _ _ h1, h2.keep (keep_of e)⟩, h.len, h.nd⟩
theorem Kd.fr [Stay R] (h : Kd R d ks xs H) (k : Keep H H') (e : H' d = H d) : Kd R d ks xs H' := by
  obtain ⟨vs, h1, h2⟩ := h.h
  exact ⟨⟨vs, by rw [e]; exact h1, h2.keep k⟩, h.len, h.nd⟩
theorem Kd.new : Kd R d ([] : List κ) [] (upd H d (.dK [])) := ⟨⟨[], upd_same, .nil⟩, rfl, List.nodup_nil⟩
theorem Kd.in_ (h : Kd R d ks xs H) (k : κ) : ∃ o, DGet H d (kV (KKey.kf k)) o ∧ (o.isSome = true ↔ k ∈ ks) := by
  obtain ⟨vs, h1, h2⟩ := h.h
  refine ⟨_, DGet.k h1, ?_⟩
  rcases asc_val KKey.inj (k := k) h.nd (h.len.trans h2.len.symm) with ⟨e1, e2⟩ | ⟨i, u, e1, e2, e3⟩
  · rw [e2]
    exact ⟨fun z => by simp at z, fun z => absurd z e1⟩
  · rw [e3]
    exact ⟨fun _ => List.mem_of_getElem? e1, fun _ => rfl⟩
theorem Kd.get (h : Kd R d ks xs H) {i : Nat} (e : ks[i]? = some k) : ∃ u x, DGet H d (kV (KKey.kf k)) (some u) ∧ xs[i]? = some x ∧ R H u x := by
  obtain ⟨vs, h1, h2⟩ := h.h
  have hi : i < vs.length := by rw [h2.len, ← h.len]; exact (List.getElem?_eq_some_iff.mp e).1
  have hi2 : i < xs.length := by rw [← h2.len]; exact hi
  refine ⟨vs[i], xs[i], ?_, List.getElem?_eq_getElem hi2, h2.at_ i _ _ (List.getElem?_eq_getElem hi) (List.getElem?_eq_getElem hi2)⟩
  rw [← asc_some KKey.inj h.nd e (List.getElem?_eq_getElem hi)]
  exact DGet.k h1
theorem Kd.put [Stay R] {u : V} (h : Kd R d ks xs H) (hn : k ∉ ks) (hu : R H u x) (hl : ks.length < 16777216) :
    ∃ H', DPut H d (kV (KKey.kf k)) u H' ∧ Kd R d (ks ++ [k]) (xs ++ [x]) H' ∧ Keep H H' ∧ ∀ b, b ≠ d → H' b = H b := by
  obtain ⟨vs, h1, h2⟩ := h.h
  have hlv : ks.length = vs.length := h.len.trans h2.len.symm
  have kp : ∀ o, Keep H (upd H d o) := fun o => keep_dK' h1
  refine ⟨_, DPut.k h1 (by rw [asc_len hlv]; exact hl), ⟨⟨vs ++ [u], ?_, (h2.keep (kp _)).snoc (Stay.st (kp _) hu)⟩, by rw [List.length_append, List.length_append, h.len]; rfl, ?_⟩, kp _, fun b hb => upd_ne hb⟩
  · rw [upd_same, asc_snoc hlv, putK_new _ (asc_none KKey.inj hlv hn)]
  · exact List.nodup_append.mpr ⟨h.nd, by simp, fun a ha b hb e => by
      rw [List.mem_singleton.mp hb] at e
      exact hn (e ▸ ha)⟩
end
end Tw

/-! Pairs of ways that read the same, step by step: the square of a machine. -/
namespace Tw
open PySem L2
abbrev emS : Str := Str.ofString ""
theorem em_of {z : Str} (h : z.length = 0) : z = emS := by
  apply tl_inj
  rw [tl_nil]
  exact List.length_eq_zero_iff.mp (by rw [tl_len]; exact h)
theorem em_len : emS.length = 0 := by rw [← tl_len, tl_nil]; rfl
theorem em_or {z : Str} (h : z.length ≤ 1) : z = emS ∨ ∃ c, tl z = [c] := by
  by_cases e : z.length = 0
  · exact .inl (em_of e)
  · refine .inr (List.length_eq_one_iff.mp ?_)
    rw [tl_len]
    omega
structure Sq where
  p : Int
  q : Int
  o : Str
deriving DecidableEq
structure Sm where
  b : Bool
  k : Nat
  t : Sq
/-- a step from s: b which way goes on, k the move -/
def SStep (M : Mc) (s : Sq) (e : Sm) : Prop := (e.b = false ∧ s.o = emS ∧ ∃ m, M.moves[e.k]? = some m ∧ m.s = s.p ∧ e.t = ⟨m.g, s.q, m.r⟩) ∨ (e.b = true ∧ ∃ m, M.moves[e.k]? = some m ∧ m.s = s.q ∧ m.r = s.o ∧ e.t = ⟨s.p, m.g, emS⟩)
def wOf (M : Mc) (k : Nat) : List Nat := match M.moves[k]? with | some m => tl m.w | none => []
theorem wOf_at {M : Mc} {k : Nat} {m : Mv} (h : M.moves[k]? = some m) : wOf M k = tl m.w := by unfold wOf; rw [h]
def xUp (b : Bool) (x w : List Nat) : List Nat := if b = true then x else x ++ w
def yUp (b : Bool) (y w : List Nat) : List Nat := if b = true then y ++ w else y
inductive SPath (M : Mc) : Sq → List (Bool × Nat) → Sq → List Nat → List Nat → Prop
  | nil (s : Sq) : SPath M s [] s [] []
  | cons {s t : Sq} {e : Sm} {mv : List (Bool × Nat)} {x y : List Nat} : SStep M s e → SPath M e.t mv t x y → SPath M s ((e.b, e.k) :: mv) t (xUp e.b [] (wOf M e.k) ++ x) (yUp e.b [] (wOf M e.k) ++ y)
def oneOf (mv : List (Bool × Nat)) : List Nat := mv.filterMap fun e => if e.1 = false then some e.2 else none
def otherOf (mv : List (Bool × Nat)) : List Nat := mv.filterMap fun e => if e.1 = true then some e.2 else none
section
variable {M : Mc} {s t u : Sq} {mv mv' : List (Bool × Nat)} {x y x' y' : List Nat} {e : Sm}
theorem oneOf_app : oneOf (mv ++ mv') = oneOf mv ++ oneOf mv' := List.filterMap_append
theorem otherOf_app : otherOf (mv ++ mv') = otherOf mv ++ otherOf mv' := List.filterMap_append
theorem SPath.app (p : SPath M s mv t x y) : ∀ {mv' u x' y'}, SPath M t mv' u x' y' → SPath M s (mv ++ mv') u (x ++ x') (y ++ y') := by
  induction p with
  | nil s => intro _ _ _ _ q; exact q
  | cons h _ ih =>
    intro _ _ _ _ q
    have z := SPath.cons h (ih q)
    rw [← List.append_assoc, ← List.append_assoc] at z
    exact z
theorem SPath.one (h : SStep M s e) : SPath M s [(e.b, e.k)] e.t (xUp e.b [] (wOf M e.k)) (yUp e.b [] (wOf M e.k)) := by
  have z := SPath.cons h (SPath.nil e.t)
  rw [List.append_nil, List.append_nil] at z
  exact z
theorem xUp_eq (b : Bool) (x w : List Nat) : xUp b x w = x ++ xUp b [] w := by cases b <;> simp [xUp]
theorem yUp_eq (b : Bool) (y w : List Nat) : yUp b y w = y ++ yUp b [] w := by cases b <;> simp [yUp]
theorem SPath.snoc (p : SPath M s mv t x y) (h : SStep M t e) : SPath M s (mv ++ [(e.b, e.k)]) e.t (xUp e.b x (wOf M e.k)) (yUp e.b y (wOf M e.k)) := by
  rw [xUp_eq, yUp_eq]
  exact p.app (SPath.one h)
theorem SPath.cons_inv {a : Bool × Nat} (p : SPath M s (a :: mv) t x y) : ∃ e x0 y0, SStep M s e ∧ a = (e.b, e.k) ∧ SPath M e.t mv t x0 y0 ∧ x = xUp e.b [] (wOf M e.k) ++ x0 ∧ y = yUp e.b [] (wOf M e.k) ++ y0 := by
  cases p with
  | cons h q => exact ⟨_, _, _, h, rfl, q, rfl, rfl⟩
theorem SPath.nil_inv (p : SPath M s [] t x y) : t = s ∧ x = [] ∧ y = [] := by
  cases p
  exact ⟨rfl, rfl, rfl⟩
theorem SPath.unsnoc : ∀ {mv : List (Bool × Nat)} {s t : Sq} {x y : List Nat} {a : Bool × Nat}, SPath M s (mv ++ [a]) t x y → ∃ e t0 x0 y0, SPath M s mv t0 x0 y0 ∧ SStep M t0 e ∧ a = (e.b, e.k) ∧ t = e.t ∧ x = xUp e.b x0 (wOf M e.k) ∧ y = yUp e.b y0 (wOf M e.k)
  | [], s, t, x, y, a, p => by
    obtain ⟨e, x0, y0, h1, h2, h3, h4, h5⟩ := p.cons_inv
    obtain ⟨e1, e2, e3⟩ := h3.nil_inv
    subst e2 e3
    rw [List.append_nil] at h4 h5
    exact ⟨e, s, [], [], .nil _, h1, h2, e1, h4, h5⟩
  | c :: mv, s, t, x, y, a, p => by
    obtain ⟨e, x0, y0, h1, h2, h3, h4, h5⟩ := p.cons_inv
    obtain ⟨e', t0, x1, y1, g1, g2, g3, g4, g5, g6⟩ := SPath.unsnoc h3
    refine ⟨e', t0, _, _, by rw [h2]; exact SPath.cons h1 g1, g2, g3, g4, ?_, ?_⟩
    · rw [h4, g5, xUp_eq e'.b x1, xUp_eq e'.b (_ ++ x1), List.append_assoc]
    · rw [h5, g6, yUp_eq e'.b y1, yUp_eq e'.b (_ ++ y1), List.append_assoc]
theorem SPath.lt (p : SPath M s mv t x y) : ∀ a ∈ mv, a.2 < M.moves.length := by
  induction p with
  | nil s => exact fun a h => nomatch h
  | cons h _ ih =>
    intro a ha
    rcases List.mem_cons.mp ha with rfl | ha
    · rcases h with ⟨_, _, m, hm, _⟩ | ⟨_, m, hm, _⟩
      · exact (List.getElem?_eq_some_iff.mp hm).1
      · exact (List.getElem?_eq_some_iff.mp hm).1
    · exact ih a ha
/-- both ways, each by itself -/
theorem SPath.paths (p : SPath M s mv t x y) : ∃ r1 r2, Path M s.p (oneOf mv) t.p r1 x ∧ Path M s.q (otherOf mv) t.q r2 y ∧ tl s.o ++ r1 = r2 ++ tl t.o := by
  induction p with
  | nil s => exact ⟨[], [], .nil _, .nil _, by rw [List.append_nil, List.nil_append]⟩
  | @cons s t e mv x y h _ ih =>
    obtain ⟨r1, r2, p1, p2, eq⟩ := ih
    rcases h with ⟨hb, ho, m, hm, hs, ht⟩ | ⟨hb, m, hm, hs, hr, ht⟩
    · rw [ht] at p1 p2 eq
      refine ⟨tl m.r ++ r1, r2, ?_, ?_, ?_⟩
      · have e1 : oneOf ((e.b, e.k) :: mv) = e.k :: oneOf mv := by unfold oneOf; rw [List.filterMap_cons_some (b := e.k) (by rw [hb]; rfl)]
        have e2 : xUp e.b [] (wOf M e.k) = tl m.w := by rw [wOf_at hm, hb]; rfl
        rw [e1, e2, ← hs]
        exact Path.cons hm p1
      · have e1 : otherOf ((e.b, e.k) :: mv) = otherOf mv := by unfold otherOf; rw [List.filterMap_cons_none (by rw [hb]; rfl)]
        have e2 : yUp e.b [] (wOf M e.k) = [] := by rw [hb]; rfl
        rw [e1, e2, List.nil_append]
        exact p2
      · rw [ho, tl_nil, List.nil_append]
        exact eq
    · rw [ht] at p1 p2 eq
      refine ⟨r1, tl m.r ++ r2, ?_, ?_, ?_⟩
      · have e1 : oneOf ((e.b, e.k) :: mv) = oneOf mv := by unfold oneOf; rw [List.filterMap_cons_none (by rw [hb]; rfl)]
        have e2 : xUp e.b [] (wOf M e.k) = [] := by rw [hb]; rfl
        rw [e1, e2, List.nil_append]
        exact p1
      · have e1 : otherOf ((e.b, e.k) :: mv) = e.k :: otherOf mv := by unfold otherOf; rw [List.filterMap_cons_some (b := e.k) (by rw [hb]; rfl)]
        have e2 : yUp e.b [] (wOf M e.k) = tl m.w := by rw [wOf_at hm, hb]; rfl
        rw [e1, e2, ← hs]
        exact Path.cons hm p2
      · dsimp only at eq
        rw [tl_nil, List.nil_append] at eq
        rw [eq, hr, List.append_assoc]
theorem step1 {k : Nat} {m : Mv} (hm : M.moves[k]? = some m) (q : Int) : SStep M ⟨m.s, q, emS⟩ ⟨false, k, ⟨m.g, q, m.r⟩⟩ := .inl ⟨rfl, rfl, m, hm, rfl, rfl⟩
theorem step2 {k : Nat} {m : Mv} (hm : M.moves[k]? = some m) (p : Int) {o : Str} (ho : m.r = o) : SStep M ⟨p, m.s, o⟩ ⟨true, k, ⟨p, m.g, emS⟩⟩ := .inr ⟨rfl, m, hm, rfl, ho, rfl⟩
/-- two ways that read the same, woven into one -/
theorem SPath.of (hr : ∀ m ∈ M.moves, m.r.length ≤ 1) : ∀ (n : Nat) {ks js : List Nat} {p0 p q0 q : Int} {r x y : List Nat}, ks.length + js.length = n → Path M p0 ks p r x → Path M q0 js q r y → ∃ mv, SPath M ⟨p0, q0, emS⟩ mv ⟨p, q, emS⟩ x y := by
  intro n
  induction n using Nat.strongRecOn with
  | ind n ih =>
    intro ks js p0 p q0 q r x y hn P1 P2
    have second : ∀ {j : Nat} {js' : List Nat} {m : Mv} {r' w' : List Nat}, js = j :: js' → M.moves[j]? = some m → m.s = q0 → Path M m.g js' q r' w' → r = tl m.r ++ r' → y = tl m.w ++ w' → m.r = emS → ∃ mv, SPath M ⟨p0, q0, emS⟩ mv ⟨p, q, emS⟩ x y := by
      intro j js' m r' w' ej hm hs P2' er ey hre
      subst hs
      rw [hre, tl_nil, List.nil_append] at er
      subst er
      obtain ⟨mv, hp⟩ := ih (ks.length + js'.length) (by rw [← hn, ej, List.length_cons]; omega) rfl P1 P2'
      have z := SPath.cons (step2 hm p0 hre) hp
      refine ⟨(true, j) :: mv, ?_⟩
      rw [ey]
      have e2 : yUp true [] (wOf M j) = tl m.w := by rw [wOf_at hm]; rfl
      rw [← e2]
      exact z
    cases ks with
    | nil =>
      obtain ⟨rfl, rfl, rfl⟩ := P1.nil_inv
      cases js with
      | nil =>
        obtain ⟨rfl, _, rfl⟩ := P2.nil_inv
        exact ⟨[], .nil _⟩
      | cons j js' =>
        obtain ⟨m, r', w', hm, hs, P2', er, ey⟩ := P2.cons_inv
        have he : tl m.r = [] := (List.append_eq_nil_iff.mp er.symm).1
        exact second rfl hm hs P2' er ey (tl_inj (by rw [he, tl_nil]))
    | cons k ks' =>
      obtain ⟨m, r', w', hm, hs, P1', er, ex⟩ := P1.cons_inv
      rcases em_or (hr m (List.mem_of_getElem? hm)) with h0 | ⟨c, hc⟩
      · subst hs
        rw [h0, tl_nil, List.nil_append] at er
        subst er
        obtain ⟨mv, hp⟩ := ih (ks'.length + js.length) (by rw [← hn, List.length_cons]; omega) rfl P1' P2
        have st : SStep M ⟨m.s, q0, emS⟩ ⟨false, k, ⟨m.g, q0, emS⟩⟩ := by
          have z := step1 hm q0
          rw [h0] at z
          exact z
        have z := SPath.cons st hp
        refine ⟨(false, k) :: mv, ?_⟩
        rw [ex]
        have e2 : xUp false [] (wOf M k) = tl m.w := by rw [wOf_at hm]; rfl
        rw [← e2]
        exact z
      · cases js with
        | nil =>
          obtain ⟨_, e, _⟩ := P2.nil_inv
          rw [e, hc] at er
          cases er
        | cons j js' =>
          obtain ⟨m2, r2, w2, hm2, hs2, P2', er2, ey⟩ := P2.cons_inv
          rcases em_or (hr m2 (List.mem_of_getElem? hm2)) with h2 | ⟨c2, hc2⟩
          · exact second rfl hm2 hs2 P2' er2 ey h2
          · rw [hc] at er
            rw [hc2, er] at er2
            have e1 : c = c2 := (List.cons.inj er2).1
            have e2 : r' = r2 := (List.cons.inj er2).2
            subst e1 e2
            have em : m2.r = m.r := tl_inj (by rw [hc, hc2])
            subst hs hs2
            obtain ⟨mv, hp⟩ := ih (ks'.length + js'.length) (by rw [← hn, List.length_cons, List.length_cons]; omega) rfl P1' P2'
            have z := SPath.cons (step1 hm m2.s) (SPath.cons (step2 hm2 m.g em) hp)
            refine ⟨(false, k) :: (true, j) :: mv, ?_⟩
            rw [ex, ey]
            have a1 : xUp false [] (wOf M k) = tl m.w := by rw [wOf_at hm]; rfl
            have a2 : yUp true [] (wOf M j) = tl m2.w := by rw [wOf_at hm2]; rfl
            rw [← a1, ← a2]
            exact z
end
/-! ### come to, live -/
def fstOf (M : Mc) : Sq := ⟨M.b, M.b, emS⟩
def LastS (M : Mc) (t : Sq) : Prop := t.o = emS ∧ t.p ∈ M.ends ∧ t.q ∈ M.ends
instance (M : Mc) (t : Sq) : Decidable (LastS M t) := inferInstanceAs (Decidable (_ ∧ _))
def RcS (M : Mc) (s : Sq) : Prop := ∃ mv x y, SPath M (fstOf M) mv s x y
def LvS (M : Mc) (s : Sq) : Prop := ∃ mv t x y, SPath M s mv t x y ∧ LastS M t
section
variable {M : Mc} {s t : Sq} {e : Sm}
theorem RcS.first : RcS M (fstOf M) := ⟨[], [], [], .nil _⟩
theorem RcS.step (h : RcS M s) (g : SStep M s e) : RcS M e.t := by
  obtain ⟨mv, x, y, p⟩ := h
  exact ⟨_, _, _, p.snoc g⟩
theorem LvS.last (h : LastS M s) : LvS M s := ⟨[], s, [], [], .nil _, h⟩
theorem LvS.step (h : LvS M e.t) (g : SStep M s e) : LvS M s := by
  obtain ⟨mv, t, x, y, p, l⟩ := h
  exact ⟨_, t, _, _, SPath.cons g p, l⟩
def toS (x : List Nat) : Str := ⟨x.toArray⟩
theorem tl_toS (x : List Nat) : tl (toS x) = x := rfl
theorem tog_iff (hr : ∀ m ∈ M.moves, m.r.length ≤ 1) {p q : Int} : Tog M p q ↔ RcS M ⟨p, q, emS⟩ ∧ LvS M ⟨p, q, emS⟩ := by
  constructor
  · rintro ⟨⟨x, y, ks, js, m, P1, P2⟩, ks', js', t, u, x', m', y', Q1, Q2, ht, hu⟩
    have P1' : Path M M.b ks p m (tl x) := by
      have z := P1.turn
      rw [Mc.turn_turn] at z
      exact z
    have Q1' : Path M p ks' t m' x' := by
      have z := Q1.turn
      rw [Mc.turn_turn] at z
      exact z
    obtain ⟨mv, h1⟩ := SPath.of hr _ rfl P1' P2
    obtain ⟨mv', h2⟩ := SPath.of hr _ rfl Q1' Q2
    exact ⟨⟨mv, _, _, h1⟩, mv', _, _, _, h2, rfl, ht, hu⟩
  · rintro ⟨⟨mv, x, y, h1⟩, mv', t, x', y', h2, l1, l2, l3⟩
    obtain ⟨r1, r2, P1, P2, e1⟩ := h1.paths
    obtain ⟨s1, s2, Q1, Q2, e2⟩ := h2.paths
    have e1' : r1 = r2 := by
      simp only [fstOf, tl_nil, List.nil_append, List.append_nil] at e1
      exact e1
    have e2' : s1 = s2 := by
      rw [l1] at e2
      simp only [tl_nil, List.nil_append, List.append_nil] at e2
      exact e2
    subst e1' e2'
    exact ⟨⟨toS x, toS y, _, _, r1, P1.turn, P2⟩, _, _, _, _, _, _, _, Q1.turn, Q2, l2, l3⟩
theorem j_spath (hr : ∀ m ∈ M.moves, m.r.length ≤ 1) {p q : Int} {x y : Str} (h : JPath M.turn M p q x y) : ∃ mv, SPath M (fstOf M) mv ⟨p, q, emS⟩ (tl x) (tl y) := by
  obtain ⟨ks, js, m, P1, P2⟩ := h
  have P1' : Path M M.b ks p m (tl x) := by
    have z := P1.turn
    rw [Mc.turn_turn] at z
    exact z
  exact SPath.of hr _ rfl P1' P2
end
/-! ### gaps -/
def Gp (g : Str × Str) (x y : List Nat) : Prop := x ++ tl g.2 = y ++ tl g.1 ∧ (g.1 = emS ∨ g.2 = emS)
def swp (b : Bool) (g : Str × Str) : Str × Str := if b = true then (g.2, g.1) else g
def gapF (g : Str × Str) (b : Bool) (w : Str) : Option (Str × Str) :=
  if (swp b g).2 = emS then some (swp b ((swp b g).1 ++ w, (swp b g).2)) else if Txt.startswith (swp b g).2 w = true then some (swp b ((swp b g).1, cutS (swp b g).2 (some (w.length : Int)) none)) else none
theorem swp_swp (b : Bool) (g : Str × Str) : swp b (swp b g) = g := by cases b <;> rfl
theorem Gp.swp {b : Bool} {g : Str × Str} {x y : List Nat} (h : Gp g x y) : Gp (swp b g) (if b = true then y else x) (if b = true then x else y) := by
  cases b with
  | false => exact h
  | true => exact ⟨h.1.symm, h.2.symm⟩
theorem gp_no : Gp (emS, emS) [] [] := ⟨rfl, .inl rfl⟩
theorem gp_eq {x y : List Nat} (h : Gp (emS, emS) x y) : x = y := by
  have e := h.1
  dsimp only at e
  rw [tl_nil, List.append_nil, List.append_nil] at e
  exact e
theorem gp_shape {g : Str × Str} {x y : List Nat} (h : Gp g x y) : (g.2 = emS ∧ x = y ++ tl g.1) ∨ (g.1 = emS ∧ y = x ++ tl g.2) := by
  obtain ⟨e, h | h⟩ := h
  · refine .inr ⟨h, ?_⟩
    rw [h, tl_nil, List.append_nil] at e
    exact e.symm
  · refine .inl ⟨h, ?_⟩
    rw [h, tl_nil, List.append_nil] at e
    exact e
/-- a rest makes up for one gap at most -/
theorem gp_one {g g' : Str × Str} {x y x' y' u v : List Nat} (h : Gp g x y) (h' : Gp g' x' y') (e : x ++ u = y ++ v) (e' : x' ++ u = y' ++ v) : g = g' := by
  have pr : ∀ {g : Str × Str} {x y : List Nat}, Gp g x y → x ++ u = y ++ v → (g.2 = emS ∧ v = tl g.1 ++ u) ∨ (g.1 = emS ∧ u = tl g.2 ++ v) := by
    intro g x y h e
    rcases gp_shape h with ⟨h1, h2⟩ | ⟨h1, h2⟩
    · rw [h2, List.append_assoc] at e
      exact .inl ⟨h1, (List.append_cancel_left e).symm⟩
    · rw [h2, List.append_assoc] at e
      exact .inr ⟨h1, List.append_cancel_left e⟩
  have zero : ∀ {a b : Str}, v = tl a ++ u → u = tl b ++ v → a = emS ∧ b = emS := by
    intro a b e1 e2
    have l1 := congrArg List.length e1
    have l2 := congrArg List.length e2
    rw [List.length_append, tl_len] at l1 l2
    exact ⟨em_of (by omega), em_of (by omega)⟩
  obtain ⟨g1, g2⟩ := g
  obtain ⟨g1', g2'⟩ := g'
  rcases pr h e with ⟨a1, a2⟩ | ⟨a1, a2⟩ <;> rcases pr h' e' with ⟨b1, b2⟩ | ⟨b1, b2⟩ <;> dsimp only at a1 a2 b1 b2
  · rw [a2] at b2
    rw [a1, b1, tl_inj (List.append_cancel_right b2)]
  · obtain ⟨z1, z2⟩ := zero a2 b2
    rw [a1, b1, z1, z2]
  · obtain ⟨z1, z2⟩ := zero b2 a2
    rw [a1, b1, z1, z2]
  · rw [a2] at b2
    rw [a1, b1, tl_inj (List.append_cancel_right b2)]
end Tw

/-! The square of a machine, further: how gaps go on, what a closed table of gaps says, bounds. -/
namespace Tw
open PySem L2
theorem starts_iff (x y : Str) : Txt.startswith x y = true ↔ ∃ r, tl x = tl y ++ r := by
  unfold Txt.startswith
  rw [Bool.and_eq_true, PySem.StrLaws.subAt_eq, List.drop_zero, beq_iff_eq, decide_eq_true_iff]
  constructor
  · rintro ⟨h1, h2⟩
    refine ⟨(tl x).drop y.length, ?_⟩
    have e : (tl x).take y.length = tl y := h2
    conv => lhs; rw [← List.take_append_drop y.length (tl x), e]
  · rintro ⟨r, hr⟩
    have hl := congrArg List.length hr
    rw [List.length_append, tl_len, tl_len] at hl
    refine ⟨by omega, ?_⟩
    show (tl x).take y.length = tl y
    rw [← tl_len y, hr, List.take_left]
theorem cut_from (z : Str) (n : Nat) : tl (cutS z (some (n : Int)) none) = (tl z).drop n := by
  show ((z.cps.toList.drop (HT.sIx z.length 0 (some (n : Int)))).take (HT.sIx z.length z.length none - HT.sIx z.length 0 (some (n : Int)))) = z.cps.toList.drop n
  rw [HT.sIx_nat, HT.sIx_none]
  have h : z.length = z.cps.toList.length := (Array.length_toList).symm
  rw [h]
  generalize z.cps.toList = l
  rcases Nat.le_total n l.length with hi | hi
  · rw [Nat.min_eq_left hi, List.take_of_length_le (by rw [List.length_drop]; exact Nat.le_refl _)]
  · rw [Nat.min_eq_right hi, List.drop_length, List.drop_eq_nil_of_le hi, List.take_nil]
section
variable {M : Mc} {g g' : Str × Str} {b : Bool} {w : Str} {x y : List Nat}
theorem gap_some0 {g g' : Str × Str} {w : Str} {x y : List Nat} (h : Gp g x y) (e : gapF g false w = some g') : Gp g' (x ++ tl w) y := by
  unfold gapF at e
  have s0 : ∀ g : Str × Str, swp false g = g := fun _ => rfl
  rw [s0, s0] at e
  obtain ⟨mine, others⟩ := g
  dsimp only at e
  by_cases ho : others = emS
  · rw [if_pos ho] at e
    cases e
    refine ⟨?_, .inr ho⟩
    rcases gp_shape h with ⟨_, h2⟩ | ⟨h1, h2⟩
    · dsimp only at h2 ⊢
      rw [ho, tl_nil, List.append_nil, h2, tl_cat, List.append_assoc]
    · dsimp only at h1 h2 ⊢
      rw [ho, tl_nil, List.append_nil] at h2 ⊢
      rw [h1, tl_cat, tl_nil, h2, List.nil_append]
  · rw [if_neg ho] at e
    by_cases hs : Txt.startswith others w = true
    · rw [if_pos hs, s0] at e
      cases e
      obtain ⟨r, hr⟩ := (starts_iff _ _).mp hs
      rcases h.2 with h1 | h1
      · dsimp only at h1
        subst h1
        refine ⟨?_, .inl rfl⟩
        have q := h.1
        dsimp only at q ⊢
        rw [cut_from, hr, ← tl_len w, List.drop_left, List.append_assoc, ← hr]
        exact q
      · exact absurd h1 ho
    · rw [if_neg hs] at e
      cases e
theorem gap_none0 {g : Str × Str} {w : Str} {x y u v : List Nat} (hw : w.length ≤ 1) (h : Gp g x y) (e : gapF g false w = none) : x ++ tl w ++ u ≠ y ++ v := by
  unfold gapF at e
  have s0 : ∀ g : Str × Str, swp false g = g := fun _ => rfl
  rw [s0, s0] at e
  obtain ⟨mine, others⟩ := g
  dsimp only at e
  by_cases ho : others = emS
  · rw [if_pos ho] at e
    cases e
  · rw [if_neg ho] at e
    by_cases hs : Txt.startswith others w = true
    · rw [if_pos hs] at e
      cases e
    · intro z
      rcases gp_shape h with ⟨h1, _⟩ | ⟨h1, h2⟩
      · exact ho h1
      · dsimp only at h2
        rw [h2, List.append_assoc, List.append_assoc] at z
        have z2 := List.append_cancel_left z
        apply hs
        refine (starts_iff _ _).mpr ?_
        rcases em_or hw with hw | ⟨c, hc⟩
        · exact ⟨tl others, by rw [hw, tl_nil, List.nil_append]⟩
        · rw [hc] at z2 ⊢
          cases ot : tl others with
          | nil => exact absurd (tl_inj (by rw [ot, tl_nil])) ho
          | cons d r =>
            rw [ot] at z2
            have := (List.cons.inj z2).1
            exact ⟨r, by rw [this]; rfl⟩
theorem gapF_swp (g : Str × Str) (w : Str) : gapF g true w = (gapF (swp true g) false w).map (swp true) := by
  unfold gapF
  have s0 : ∀ g : Str × Str, swp false g = g := fun _ => rfl
  simp only [s0]
  split
  · rfl
  · split
    · rfl
    · rfl
theorem gap_some (h : Gp g x y) (e : gapF g b w = some g') : Gp g' (xUp b x (tl w)) (yUp b y (tl w)) := by
  cases b with
  | false => exact gap_some0 h e
  | true =>
    rw [gapF_swp] at e
    obtain ⟨g2, e2, rfl⟩ := Option.map_eq_some_iff.mp e
    have q := gap_some0 (h.swp (b := true)) e2
    exact q.swp (b := true)
theorem gap_none {u v : List Nat} (hw : w.length ≤ 1) (h : Gp g x y) (e : gapF g b w = none) : xUp b x (tl w) ++ u ≠ yUp b y (tl w) ++ v := by
  cases b with
  | false => exact gap_none0 hw h e
  | true =>
    rw [gapF_swp] at e
    have e2 := Option.map_eq_none_iff.mp e
    have q := gap_none0 (u := v) (v := u) hw (h.swp (b := true)) e2
    exact fun z => q z.symm
end
/-- a table of gaps: closed under steps to what is live -/
structure GTab (M : Mc) (F : List Sq) (G : List (Str × Str)) : Prop where
  z : F[0]? = some (fstOf M) ∧ G[0]? = some (emS, emS)
  cl : ∀ (i : Nat) s g, F[i]? = some s → G[i]? = some g → ∀ e m, SStep M s e → M.moves[e.k]? = some m → LvS M e.t → ∃ (j : Nat) (g' : Str × Str), F[j]? = some e.t ∧ G[j]? = some g' ∧ gapF g e.b m.w = some g' ∧ (LastS M e.t → g' = (emS, emS))
theorem SStep.mv {M : Mc} {s : Sq} {e : Sm} (h : SStep M s e) : ∃ m, M.moves[e.k]? = some m := by
  rcases h with ⟨_, _, m, hm, _⟩ | ⟨_, m, hm, _⟩ <;> exact ⟨m, hm⟩
theorem GTab.path {M : Mc} {F : List Sq} {G : List (Str × Str)} (T : GTab M F G) : ∀ (n : Nat) {mv : List (Bool × Nat)} {t : Sq} {x y : List Nat}, mv.length = n → SPath M (fstOf M) mv t x y → LvS M t → ∃ (j : Nat) (g : Str × Str), F[j]? = some t ∧ G[j]? = some g ∧ Gp g x y ∧ (LastS M t → g = (emS, emS)) := by
  intro n
  induction n with
  | zero =>
    intro mv t x y hn p l
    obtain rfl := List.length_eq_zero_iff.mp hn
    obtain ⟨rfl, rfl, rfl⟩ := p.nil_inv
    exact ⟨0, _, T.z.1, T.z.2, gp_no, fun _ => rfl⟩
  | succ n ih =>
    intro mv t x y hn p l
    rcases List.eq_nil_or_concat mv with rfl | ⟨mv0, a, rfl⟩
    · cases hn
    · rw [List.concat_eq_append] at p hn
      obtain ⟨e, t0, x0, y0, p0, st, _, rfl, rfl, rfl⟩ := p.unsnoc
      obtain ⟨j, g, h1, h2, h3, _⟩ := ih (by rw [List.length_append] at hn; exact Nat.succ.inj hn) p0 (l.step st)
      obtain ⟨m, hm⟩ := st.mv
      obtain ⟨j', g', k1, k2, k3, k4⟩ := T.cl j t0 g h1 h2 e m st hm l
      refine ⟨j', g', k1, k2, ?_, k4⟩
      rw [wOf_at hm]
      exact gap_some h3 k3
theorem GTab.not_two {M : Mc} {F : List Sq} {G : List (Str × Str)} (hr : ∀ m ∈ M.moves, m.r.length ≤ 1) (T : GTab M F G) : ¬ Twof M := by
  rintro ⟨r, w, w', ⟨ks, p, P1, e1⟩, ⟨js, q, P2, e2⟩, ne⟩
  obtain ⟨mv, h⟩ := SPath.of hr _ rfl P1 P2
  have l : LastS M ⟨p, q, emS⟩ := ⟨rfl, e1, e2⟩
  obtain ⟨j, g, _, _, h3, h4⟩ := T.path _ rfl h (.last l)
  have h3' := h3
  rw [h4 l] at h3'
  exact ne (gp_eq h3')
/-- no live spot come to: none is twofold -/
theorem dead_not_two {M : Mc} (hr : ∀ m ∈ M.moves, m.r.length ≤ 1) (h : ¬ LvS M (fstOf M)) : ¬ Twof M := by
  rintro ⟨r, w, w', ⟨ks, p, P1, e1⟩, ⟨js, q, P2, e2⟩, ne⟩
  obtain ⟨mv, hp⟩ := SPath.of hr _ rfl P1 P2
  exact h ⟨mv, _, _, _, hp, rfl, e1, e2⟩
/-- what two ways to an end prove -/
theorem two_ways {M : Mc} {mv : List (Bool × Nat)} {t : Sq} {x y : List Nat} (p : SPath M (fstOf M) mv t x y) (l : LastS M t) : ∃ r, IsWay M (oneOf mv) r x ∧ IsWay M (otherOf mv) r y := by
  obtain ⟨r1, r2, P1, P2, e⟩ := p.paths
  rw [l.1] at e
  simp only [fstOf, tl_nil, List.nil_append, List.append_nil] at e
  subst e
  exact ⟨r1, ⟨_, P1, l.2.1⟩, ⟨_, P2, l.2.2⟩⟩
/-! ### how many -/
def sqOk (M : Mc) (s : Sq) : Prop := St? M.n s.p ∧ St? M.n s.q ∧ (s.o = emS ∨ ∃ m ∈ M.moves, m.g = s.p ∧ m.r = s.o)
theorem sqOk.first {M : Mc} (ok : M.Ok) : sqOk M (fstOf M) := ⟨ok.b, ok.b, .inl rfl⟩
theorem sqOk.step {M : Mc} (ok : M.Ok) {s : Sq} {e : Sm} (h : sqOk M s) (g : SStep M s e) : sqOk M e.t := by
  rcases g with ⟨_, _, m, hm, _, ht⟩ | ⟨_, m, hm, _, _, ht⟩
  · rw [ht]
    have := List.mem_of_getElem? hm
    exact ⟨ok.g m this, h.2.1, .inr ⟨m, this, rfl, rfl⟩⟩
  · rw [ht]
    exact ⟨h.1, ok.g m (List.mem_of_getElem? hm), .inl rfl⟩
def oCode (M : Mc) (p : Int) (o : Str) : Nat := (M.moves.map fun m => (m.g, m.r)).idxOf (p, o)
def sqCode (M : Mc) (s : Sq) : Nat := if s.o = emS then s.p.toNat * 100 + s.q.toNat else 10000 + (oCode M s.p s.o * 100 + s.q.toNat)
theorem oCode_mem {M : Mc} {s : Sq} (h : sqOk M s) (ho : ¬ s.o = emS) : (s.p, s.o) ∈ M.moves.map fun m => (m.g, m.r) := by
  rcases h.2.2 with e | ⟨m, hm, e1, e2⟩
  · exact absurd e ho
  · exact List.mem_map.mpr ⟨m, hm, by rw [e1, e2]⟩
theorem sqCode_inj {M : Mc} (ok : M.Ok) {s t : Sq} (h : sqOk M s) (g : sqOk M t) (e : sqCode M s = sqCode M t) : s = t := by
  have n2 := ok.n2
  obtain ⟨⟨a1, a2⟩, ⟨a3, a4⟩, _⟩ := id h
  obtain ⟨⟨b1, b2⟩, ⟨b3, b4⟩, _⟩ := id g
  unfold sqCode at e
  by_cases h1 : s.o = emS
  · by_cases h2 : t.o = emS
    · rw [if_pos h1, if_pos h2] at e
      obtain ⟨e3, e4⟩ := code_inj (by omega) (by omega) e
      obtain ⟨p, q, o⟩ := s
      obtain ⟨p', q', o'⟩ := t
      dsimp only at *
      have : p = p' := by omega
      have : q = q' := by omega
      subst_vars
      rfl
    · rw [if_pos h1, if_neg h2] at e
      omega
  · by_cases h2 : t.o = emS
    · rw [if_neg h1, if_pos h2] at e
      omega
    · rw [if_neg h1, if_neg h2] at e
      obtain ⟨e3, e4⟩ := code_inj (n := 100) (by omega) (by omega) (Nat.add_left_cancel e)
      have k1 := List.getElem_idxOf (List.idxOf_lt_length_of_mem (oCode_mem h h1))
      have k2 := List.getElem_idxOf (List.idxOf_lt_length_of_mem (oCode_mem g h2))
      have e5 : (s.p, s.o) = (t.p, t.o) := by
        rw [← k1, ← k2]
        congr 1
      obtain ⟨p, q, o⟩ := s
      obtain ⟨p', q', o'⟩ := t
      dsimp only at *
      have : q = q' := by omega
      injection e5 with e6 e7
      subst_vars
      rfl
theorem sq_few {M : Mc} (ok : M.Ok) {W : List Sq} (hn : W.Nodup) (h : ∀ s ∈ W, sqOk M s) : W.length ≤ 110000 := by
  have ml := ok.ml
  have h2 := nodup_lt 110000 (W.map (sqCode M)) ?_ ?_
  · rw [List.length_map] at h2
    exact h2
  · exact List.pairwise_map.mpr (List.Pairwise.imp_of_mem (fun {a b} ha hb hne e => hne (sqCode_inj ok (h a ha) (h b hb) e)) hn)
  · intro c hc
    obtain ⟨s, hs, rfl⟩ := List.mem_map.mp hc
    have hk := h s hs
    have n2 := ok.n2
    obtain ⟨⟨a1, a2⟩, ⟨a3, a4⟩, _⟩ := id hk
    unfold sqCode
    by_cases h1 : s.o = emS
    · rw [if_pos h1]
      omega
    · rw [if_neg h1]
      have := List.idxOf_lt_length_of_mem (oCode_mem hk h1)
      rw [List.length_map] at this
      show 10000 + ((M.moves.map fun m => (m.g, m.r)).idxOf (s.p, s.o) * 100 + s.q.toNat) < 110000
      omega
end Tw

/-! The square's objects: spots, steps, lists of lists. -/
namespace Tw
open PySem L2
instance : TKey Sq := ⟨fun s => [.inl s.p, .inl s.q, .inr s.o], fun a b h => by
  obtain ⟨p, q, o⟩ := a
  obtain ⟨p', q', o'⟩ := b
  simp at h
  obtain ⟨rfl, rfl, rfl⟩ := h
  rfl⟩
abbrev RSpot : Hp → V → Sq → Prop := KAt
theorem spot_at {H : Hp} {v : V} {s : Sq} (h : RSpot H v s) : ∃ a, v = .ref a ∧ H a = some (.tup [.int s.p, .int s.q, .str s.o]) := h
theorem at_spot {H : Hp} {a : Addr} {s : Sq} (h : H a = some (.tup [.int s.p, .int s.q, .str s.o])) : RSpot H (.ref a) s := ⟨a, rfl, h⟩
def bI (b : Bool) : Int := if b = true then 1 else 0
def RStep (H : Hp) (v : V) (e : Sm) : Prop := ∃ a t, v = .ref a ∧ H a = some (.tup [.int (bI e.b), .int (e.k : Int), t]) ∧ RSpot H t e.t
instance : Stay RStep := ⟨fun k ⟨a, t, e, h, g⟩ => ⟨a, t, e, k.1 _ _ h, Stay.st k g⟩⟩
/-- an entry: the spot ahead, the way, the move -/
structure En where
  s : Sq
  b : Bool
  k : Nat
def REn (H : Hp) (v : V) (e : En) : Prop := ∃ a t, v = .ref a ∧ H a = some (.tup [t, .int (bI e.b), .int (e.k : Int)]) ∧ RSpot H t e.s
instance : Stay REn := ⟨fun k ⟨a, t, e, h, g⟩ => ⟨a, t, e, k.1 _ _ h, Stay.st k g⟩⟩
/-- a move that leaves a state: its place, what it reads, its goal -/
structure Lv where
  k : Nat
  r : Str
  g : Int
def RLv (H : Hp) (v : V) (e : Lv) : Prop := ∃ a, v = .ref a ∧ H a = some (.tup [.int (e.k : Int), .str e.r, .int e.g])
instance : Stay RLv := ⟨fun k ⟨a, e, h⟩ => ⟨a, e, k.1 _ _ h⟩⟩
def RMv (H : Hp) (v : V) (e : Bool × Nat) : Prop := ∃ a, v = .ref a ∧ H a = some (.tup [.int (bI e.1), .int (e.2 : Int)])
instance : Stay RMv := ⟨fun k ⟨a, e, h⟩ => ⟨a, e, k.1 _ _ h⟩⟩
def ROpt {α : Type} (R : Hp → V → α → Prop) (H : Hp) (v : V) (o : Option α) : Prop := (o = none ∧ v = .non) ∨ ∃ x, o = some x ∧ R H v x
instance {α : Type} {R : Hp → V → α → Prop} [Stay R] : Stay (ROpt R) := ⟨fun k h => by
  rcases h with h | ⟨x, e, h⟩
  · exact .inl h
  · exact .inr ⟨x, e, Stay.st k h⟩⟩
def RRef (_ : Hp) (v : V) (a : Addr) : Prop := v = .ref a
instance : Stay RRef := ⟨fun _ h => h⟩
def RAny (_ : Hp) (_ : V) (_ : Unit) : Prop := True
instance : Stay RAny := ⟨fun _ h => h⟩
def RInt (_ : Hp) (v : V) (i : Int) : Prop := v = .int i
instance : Stay RInt := ⟨fun _ h => h⟩
def RNat (_ : Hp) (v : V) (i : Nat) : Prop := v = .int (i : Int)
instance : Stay RNat := ⟨fun _ h => h⟩
/-- a gap: both texts -/
def RGap (K : PySem.W.Frag) (H : Hp) (v : V) (g : Str × Str) : Prop := ∃ a, v = .ref a ∧ SqT K H a [.str g.1, .str g.2]
instance {K : PySem.W.Frag} : Stay (RGap K) := ⟨fun k ⟨a, e, h⟩ => ⟨a, e, keep_sqT k h⟩⟩
/-! ### lists of lists -/
section
variable {α : Type} {R : Hp → V → α → Prop} {H H' : Hp} {as : List Addr} {xss : List (List α)} {a : Addr} {xs : List α} {x : α} {v : V}
structure LL (R : Hp → V → α → Prop) (as : List Addr) (xss : List (List α)) (H : Hp) : Prop where
  len : as.length = xss.length
  nd : as.Nodup
  at_ : ∀ (i : Nat) a xs, as[i]? = some a → xss[i]? = some xs → LsAt R a xs H
theorem LL.nil : LL R [] [] H := ⟨rfl, List.nodup_nil, fun i a xs h => by simp at h⟩
theorem LL.fr [Stay R] (h : LL R as xss H) (k : Keep H H') (e : ∀ a ∈ as, H' a = H a) : LL R as xss H' := ⟨h.len, h.nd, fun i a xs e1 e2 => (h.at_ i a xs e1 e2).fr k (e a (List.mem_of_getElem? e1))⟩
theorem LL.same [Stay R] (h : LL R as xss H) (e : Same H H') : LL R as xss H' := ⟨h.len, h.nd, fun i a xs e1 e2 => (h.at_ i a xs e1 e2).same e⟩
theorem LL.get (h : LL R as xss H) {i : Nat} (e : xss[i]? = some xs) : ∃ a, as[i]? = some a ∧ LsAt R a xs H := by
  have hi : i < as.length := by rw [h.len]; exact (List.getElem?_eq_some_iff.mp e).1
  exact ⟨as[i], List.getElem?_eq_getElem hi, h.at_ i _ _ (List.getElem?_eq_getElem hi) e⟩
theorem LL.push (h : LL R as xss H) (g : LsAt R a xs H) (n : a ∉ as) : LL R (as ++ [a]) (xss ++ [xs]) H := by
  refine ⟨by rw [List.length_append, List.length_append, h.len]; rfl, List.nodup_append.mpr ⟨h.nd, by simp, fun c hc b hb e => by
    rw [List.mem_singleton.mp hb] at e
    exact n (e ▸ hc)⟩, fun i a' xs' e1 e2 => ?_⟩
  rcases Nat.lt_trichotomy i as.length with hi | hi | hi
  · rw [List.getElem?_append_left hi] at e1
    rw [List.getElem?_append_left (by rw [← h.len]; exact hi)] at e2
    exact h.at_ i _ _ e1 e2
  · rw [List.getElem?_append_right (by omega), hi, Nat.sub_self] at e1
    rw [List.getElem?_append_right (by rw [← h.len]; omega), hi, h.len, Nat.sub_self] at e2
    cases e1
    cases e2
    exact g
  · rw [List.getElem?_eq_none (by rw [List.length_append]; exact hi)] at e1
    cases e1
theorem LL.mem_lst (h : LL R as xss H) (ha : a ∈ as) : ∃ vs, H a = some (.lst vs) := by
  obtain ⟨i, hi⟩ := List.getElem?_of_mem ha
  have hi2 : i < xss.length := by rw [← h.len]; exact (List.getElem?_eq_some_iff.mp hi).1
  obtain ⟨vs, h1, _⟩ := h.at_ i a _ hi (List.getElem?_eq_getElem hi2)
  exact ⟨vs, h1⟩
/-- the list at place i grows -/
theorem LL.app [Stay R] {Q : VK} (h : LL R as xss H) {i : Nat} (ea : as[i]? = some a) (ex : xss[i]? = some xs) (hv : R H v x) (hl : xs.length < 16777216)
    (q : ∀ H', LL R as (xss.set i (xs ++ [x])) H' → Keep H H' → (∀ b, b ≠ a → H' b = H b) → Q .non H') : rAppend (.ref a) [v] H Q := by
  refine (h.at_ i a xs ea ex).app hv hl (fun H' g kp ne => q H' ⟨by rw [List.length_set, h.len], h.nd, fun j b ys e1 e2 => ?_⟩ kp ne)
  by_cases hj : j = i
  · subst hj
    rw [ea] at e1
    cases e1
    have hlt : j < xss.length := (List.getElem?_eq_some_iff.mp ex).1
    rw [List.getElem?_set_self hlt] at e2
    cases e2
    exact g
  · rw [List.getElem?_set_ne (fun e => hj e.symm)] at e2
    have hb : b ≠ a := fun e => by
      subst e
      have h1 := (List.getElem?_eq_some_iff.mp e1)
      have h2 := (List.getElem?_eq_some_iff.mp ea)
      obtain ⟨l1, g1⟩ := h1
      obtain ⟨l2, g2⟩ := h2
      exact hj ((List.getElem_inj h.nd).mp (g1.trans g2.symm))
    exact (h.at_ j b ys e1 e2).fr kp (ne b hb)
end
/-! ### what the functions tell -/
/-- the moves that leave p among the first n -/
def leaveF (M : Mc) (p : Int) (n : Nat) : List Lv := (List.range n).filterMap fun k => (M.moves[k]?).bind fun m => if m.s = p then some ⟨k, m.r, m.g⟩ else none
theorem leave_succ (M : Mc) (p : Int) {n : Nat} {m : Mv} (h : M.moves[n]? = some m) : leaveF M p (n + 1) = leaveF M p n ++ if m.s = p then [⟨n, m.r, m.g⟩] else [] := by
  unfold leaveF
  rw [List.range_succ, List.filterMap_append]
  congr 1
  by_cases e : m.s = p
  · rw [if_pos e, List.filterMap_cons_some (b := ⟨n, m.r, m.g⟩) (by rw [h]; show (if m.s = p then _ else _) = _; rw [if_pos e])]
    rfl
  · rw [if_neg e, List.filterMap_cons_none (by rw [h]; show (if m.s = p then _ else _) = _; rw [if_neg e])]
    rfl
theorem leave_mem {M : Mc} {p : Int} {e : Lv} : e ∈ leaveF M p M.moves.length ↔ ∃ m, M.moves[e.k]? = some m ∧ m.s = p ∧ m.r = e.r ∧ m.g = e.g := by
  unfold leaveF
  rw [List.mem_filterMap]
  constructor
  · rintro ⟨k, hk, h⟩
    cases hm : M.moves[k]? with
    | none => rw [hm] at h; cases h
    | some m =>
      rw [hm] at h
      have h' : (if m.s = p then some (⟨k, m.r, m.g⟩ : Lv) else none) = some e := h
      by_cases hs : m.s = p
      · rw [if_pos hs] at h'
        cases h'
        exact ⟨m, hm, hs, rfl, rfl⟩
      · rw [if_neg hs] at h'
        cases h'
  · rintro ⟨m, hm, hs, hr, hg⟩
    refine ⟨e.k, List.mem_range.mpr (List.getElem?_eq_some_iff.mp hm).1, ?_⟩
    rw [hm]
    show (if m.s = p then some (⟨e.k, m.r, m.g⟩ : Lv) else none) = some e
    rw [if_pos hs, hr, hg]
theorem leave_len (M : Mc) (p : Int) (n : Nat) : (leaveF M p n).length ≤ n := by
  unfold leaveF
  have := List.length_filterMap_le (fun k => (M.moves[k]?).bind fun m => if m.s = p then some (⟨k, m.r, m.g⟩ : Lv) else none) (List.range n)
  rwa [List.length_range] at this
theorem fm_nodup {α β γ : Type} {f : α → Option β} {ka : α → γ} {kb : β → γ} (hf : ∀ a b, f a = some b → kb b = ka a) : ∀ l : List α, (l.map ka).Nodup → ((l.filterMap f).map kb).Nodup
  | [], _ => List.nodup_nil
  | a :: l, h => by
    rw [List.map_cons, List.nodup_cons] at h
    cases e : f a with
    | none =>
      rw [List.filterMap_cons_none e]
      exact fm_nodup hf l h.2
    | some b =>
      rw [List.filterMap_cons_some e, List.map_cons, List.nodup_cons]
      refine ⟨fun hm => ?_, fm_nodup hf l h.2⟩
      obtain ⟨c, hc, ec⟩ := List.mem_map.mp hm
      obtain ⟨a', ha', ea⟩ := List.mem_filterMap.mp hc
      refine h.1 (List.mem_map.mpr ⟨a', ha', ?_⟩)
      rw [← hf _ _ ea, ec, hf _ _ e]
theorem leave_nodup (M : Mc) (p : Int) (n : Nat) : ((leaveF M p n).map Lv.k).Nodup := by
  refine fm_nodup (ka := id) (fun k b h => ?_) _ (by rw [List.map_id]; exact List.nodup_range)
  obtain ⟨m, _, h2⟩ := Option.bind_eq_some_iff.mp h
  split at h2
  · cases h2; rfl
  · cases h2
/-- the steps from a spot, in the program's order -/
def stepsF (M : Mc) (s : Sq) : List Sm := (if s.o = emS then (leaveF M s.p M.moves.length).map fun e => ⟨false, e.k, ⟨e.g, s.q, e.r⟩⟩ else []) ++ (leaveF M s.q M.moves.length).filterMap fun e => if e.r = s.o then some ⟨true, e.k, ⟨s.p, e.g, emS⟩⟩ else none
theorem steps_mem {M : Mc} {s : Sq} {e : Sm} : e ∈ stepsF M s ↔ SStep M s e := by
  unfold stepsF SStep
  rw [List.mem_append]
  have h1 : e ∈ (if s.o = emS then (leaveF M s.p M.moves.length).map fun e => (⟨false, e.k, ⟨e.g, s.q, e.r⟩⟩ : Sm) else []) ↔ (e.b = false ∧ s.o = emS ∧ ∃ m, M.moves[e.k]? = some m ∧ m.s = s.p ∧ e.t = ⟨m.g, s.q, m.r⟩) := by
    by_cases ho : s.o = emS
    · rw [if_pos ho, List.mem_map]
      constructor
      · rintro ⟨l, hl, rfl⟩
        obtain ⟨m, hm, hs, hr, hg⟩ := leave_mem.mp hl
        exact ⟨rfl, ho, m, hm, hs, by rw [hr, hg]⟩
      · rintro ⟨hb, _, m, hm, hs, ht⟩
        refine ⟨⟨e.k, m.r, m.g⟩, leave_mem.mpr ⟨m, hm, hs, rfl, rfl⟩, ?_⟩
        obtain ⟨b, k, t⟩ := e
        dsimp only at hb ht ⊢
        rw [hb, ht]
    · rw [if_neg ho]
      exact ⟨fun h => (nomatch h), fun h => absurd h.2.1 ho⟩
  have h2 : e ∈ ((leaveF M s.q M.moves.length).filterMap fun e => if e.r = s.o then some (⟨true, e.k, ⟨s.p, e.g, emS⟩⟩ : Sm) else none) ↔ (e.b = true ∧ ∃ m, M.moves[e.k]? = some m ∧ m.s = s.q ∧ m.r = s.o ∧ e.t = ⟨s.p, m.g, emS⟩) := by
    rw [List.mem_filterMap]
    constructor
    · rintro ⟨l, hl, h⟩
      obtain ⟨m, hm, hs, hr, hg⟩ := leave_mem.mp hl
      by_cases ho : l.r = s.o
      · rw [if_pos ho] at h
        cases h
        exact ⟨rfl, m, hm, hs, hr.trans ho, by rw [hg]⟩
      · rw [if_neg ho] at h
        cases h
    · rintro ⟨hb, m, hm, hs, hr, ht⟩
      refine ⟨⟨e.k, m.r, m.g⟩, leave_mem.mpr ⟨m, hm, hs, rfl, rfl⟩, ?_⟩
      dsimp only
      rw [if_pos hr]
      obtain ⟨b, k, t⟩ := e
      dsimp only at hb ht ⊢
      rw [hb, ht]
  rw [h1, h2]
theorem steps_len (M : Mc) (s : Sq) : (stepsF M s).length ≤ 2 * M.moves.length := by
  unfold stepsF
  rw [List.length_append]
  have a1 := leave_len M s.p M.moves.length
  have a2 := leave_len M s.q M.moves.length
  have a3 := List.length_filterMap_le (fun e : Lv => if e.r = s.o then some (⟨true, e.k, ⟨s.p, e.g, emS⟩⟩ : Sm) else none) (leaveF M s.q M.moves.length)
  have a4 : (if s.o = emS then (leaveF M s.p M.moves.length).map fun e => (⟨false, e.k, ⟨e.g, s.q, e.r⟩⟩ : Sm) else []).length ≤ (leaveF M s.p M.moves.length).length := by
    split
    · rw [List.length_map]; exact Nat.le_refl _
    · exact Nat.zero_le _
  omega
theorem steps_nodup (M : Mc) (s : Sq) : ((stepsF M s).map fun e => (e.b, e.k)).Nodup := by
  unfold stepsF
  rw [List.map_append]
  have n1 := leave_nodup M s.p M.moves.length
  have n2 := leave_nodup M s.q M.moves.length
  refine List.nodup_append.mpr ⟨?_, ?_, fun a ha b hb e => ?_⟩
  · split
    · rw [List.map_map]
      have : ((fun e : Sm => (e.b, e.k)) ∘ fun e : Lv => (⟨false, e.k, ⟨e.g, s.q, e.r⟩⟩ : Sm)) = (fun k => (false, k)) ∘ Lv.k := rfl
      rw [this, ← List.map_map]
      exact List.pairwise_map.mpr (List.Pairwise.imp (fun h e => h (Prod.mk.inj e).2) n1)
    · exact List.nodup_nil
  · refine fm_nodup (ka := fun e : Lv => (true, e.k)) (fun a b h => ?_) _ ?_
    · split at h
      · cases h; rfl
      · cases h
    · have : (fun e : Lv => (true, e.k)) = (fun k => (true, k)) ∘ Lv.k := rfl
      rw [this, ← List.map_map]
      exact List.pairwise_map.mpr (List.Pairwise.imp (fun h e => h (Prod.mk.inj e).2) n2)
  · have hf : a.1 = false := by
      obtain ⟨x, hx, rfl⟩ := List.mem_map.mp ha
      split at hx
      · obtain ⟨y, _, rfl⟩ := List.mem_map.mp hx
        rfl
      · cases hx
    have ht : b.1 = true := by
      obtain ⟨x, hx, rfl⟩ := List.mem_map.mp hb
      obtain ⟨y, _, hy⟩ := List.mem_filterMap.mp hx
      split at hy
      · cases hy; rfl
      · cases hy
    rw [e, ht] at hf
    cases hf
end Tw

/-! Loops and comprehensions over what is told item by item. -/
namespace Tw
open PySem L2
theorem fm_some {α β : Type} (g : α → β) : ∀ l : List α, l.filterMap (fun e => some (g e)) = l.map g
  | [] => rfl
  | a :: l => by
    show g a :: l.filterMap (fun e => some (g e)) = g a :: l.map g
    rw [fm_some g l]
section
variable {K : PySem.W.Frag} {σ : St} {H : Hp} {D : Ends} {g : TG} {tb : TS} {tl te tk tv td : TE} {ta : TA} {tt c : TT} {Q : VK} {js : List Nat} {a : Addr} {vs : List V}
theorem r_while (W : Nat → St → Hp → Prop) (m0 : Nat) (w0 : W m0 σ H) (h : ∀ m σ H, W m σ H → ∀ QT : Bool → Hp → Prop, (∀ H1, tb { D with nx := fun σ' H' => ∃ m', m' < m ∧ W m' σ' H', ct := fun σ' H' => ∃ m', m' < m ∧ W m' σ' H', bk := D.nx } σ H1 → QT true H1) → (∀ H1, D.nx σ H1 → QT false H1) → c σ H QT) : tWhile c tb D σ H :=
  ⟨W, ⟨m0, w0⟩, fun m σ H w => h m σ H w _ (fun H1 z => by
    rw [if_pos rfl]
    exact ⟨_, fun _ _ q => q, z⟩) (fun H1 z => by
    rw [if_neg Bool.false_ne_true]
    exact z)⟩
theorem r_qt {p : Prop} [Decidable p] {QT : Bool → Hp → Prop} (h1 : p → QT true H) (h2 : ¬ p → QT false H) : QT (decide p) H := by
  by_cases h : p
  · rw [decide_eq_true h]; exact h1 h
  · rw [decide_eq_false h]; exact h2 h
theorem r_qtN {p : Prop} [Decidable p] {QT : Bool → Hp → Prop} (h1 : ¬ p → QT true H) (h2 : p → QT false H) : QT (!decide p) H := by
  by_cases h : p
  · rw [decide_eq_true h]; exact h2 h
  · rw [decide_eq_false h]; exact h1 h
/-- what stands while a list is walked -/
def Std (a : Addr) (H H' : Hp) : Prop := Keep H H' ∧ H' a = H a
theorem Std.refl (a : Addr) (H : Hp) : Std a H H := ⟨Keep.refl H, rfl⟩
section
variable {α : Type} {R : Hp → V → α → Prop} [Stay R] {xs : List α}
/-- for x in a list, told by xs -/
theorem r_forA (Pv : Nat → St → Hp → Prop) (hl : ∀ Q : VK, Q (.ref a) H → tl σ H Q) (hs : LsAt R a xs H) (h0 : Pv 0 σ H) (h1 : ∀ i σ H', i ≤ xs.length → Pv i σ H' → Std a H H')
    (h2 : ∀ i v x σ H', xs[i]? = some x → R H' v x → Pv i σ H' → g v σ H' fun σ2 H2 => tb { D with nx := Pv (i + 1), ct := Pv (i + 1), bk := D.nx } σ2 H2) (h3 : ∀ σ H', Pv xs.length σ H' → D.nx σ H') : tFor (iList K tl) g tb D σ H := by
  obtain ⟨vs, e1, e2⟩ := hs
  have hl' := e2.len
  refine r_forL (a := a) (xs := vs) Pv hl (SqL.of e1) h0 (fun i σ' H' hi p => ?_) (fun i v σ' H' hv p => ?_) (fun σ' H' p => h3 σ' H' (by rw [← hl']; exact p))
  · have z := h1 i σ' H' (by rw [← hl']; exact hi) p
    exact SqL.of (z.2.trans e1)
  · obtain ⟨x, hx, hr⟩ := e2.getv hv
    have hi : i < xs.length := (List.getElem?_eq_some_iff.mp hx).1
    have z := h1 i σ' H' (Nat.le_of_lt hi) p
    exact h2 i v x σ' H' hx (Stay.st z.1 hr) p
/-- a comprehension over a list that is told by xs; its items told by f -/
def LcA {β : Type} (S : Hp → V → β → Prop) (H : Hp) (D0 : Addr) (ys : List β) (H' : Hp) : Prop := Same H H' ∧ H D0 = none ∧ LsAt S D0 ys H'
theorem lcA_yes {β : Type} {S : Hp → V → β → Prop} [Stay S] {D0 : Addr} {ys : List β} {H' H4 : Hp} {v : V} {y : β} (hn : ys.length < 16777216) (p : LcA S H D0 ys H') (s4 : Same H' H4) (hy : S H4 v y) :
    ∃ acc, H4 D0 = some (.lst acc) ∧ acc.length < sizeLine ∧ LcA S H D0 (ys ++ [y]) (upd H4 D0 (.lst (acc ++ [v]))) := by
  obtain ⟨s1, d0, acc, e, al⟩ := p
  have h4 := s4 _ _ e
  have kp : Keep H4 (upd H4 D0 (.lst (acc ++ [v]))) := keep_lst h4
  refine ⟨acc, h4, by rw [al.len]; exact hn, same_mut (s1.trans s4) d0, d0, acc ++ [v], upd_same, ?_⟩
  exact ((al.keep (keep_of s4)).snoc hy).keep kp
theorem LcA.same {β : Type} {S : Hp → V → β → Prop} [Stay S] {D0 : Addr} {ys : List β} {H' H4 : Hp} (p : LcA S H D0 ys H') (s4 : Same H' H4) : LcA S H D0 ys H4 := ⟨p.1.trans s4, p.2.1, p.2.2.same s4⟩
theorem r_lcA {β : Type} {S : Hp → V → β → Prop} [Stay S] {σw : St} (f : α → Option β) (hw : wipe σ js = σw) (hl : ∀ Q : VK, Q (.ref a) H → tl σ H Q) (hs : ∃ vs, SqL K H a vs ∧ Al R H vs xs) (hn : xs.length < 16777216)
    (ht : ∀ (i : Nat) v x H' (QY : VK) (QN : Hp → Prop), xs[i]? = some x → R H' v x → Same H H' → (∀ y H4 b, Same H' H4 → f x = some b → S H4 y b → QY y H4) → (∀ H3, Same H' H3 → f x = none → QN H3) →
      g v σw H' fun σ2 H2 => wipe σ2 js = σw ∧ tt σ2 H2 fun b H3 => if b = true then te σ2 H3 QY else QN H3)
    (hd : ∀ H' D, Same H H' → H D = none → LsAt S D (xs.filterMap f) H' → Q (.ref D) H') : tLc (iList K tl) g tt te js σ H Q := by
  subst hw
  obtain ⟨vs, e1, e2⟩ := hs
  have hlen := e2.len
  refine hl _ ⟨a, rfl, ⟨vs, e1⟩, fun D0 hD => ?_⟩
  refine lc_list (xs := vs) (fun i => LcA S H D0 ((xs.take i).filterMap f)) ⟨same_up hD, hD, LsAt.new⟩ (fun i H' _ p => same_sqL p.1 e1) (fun i v H' hv p => ?_) (fun H' p => ?_)
  · obtain ⟨x, hx, hr⟩ := e2.getv hv
    have hi : i < xs.length := (List.getElem?_eq_some_iff.mp hx).1
    have tk : xs.take (i + 1) = xs.take i ++ [x] := by rw [List.take_add_one, hx]; rfl
    have lt : ((xs.take i).filterMap f).length < 16777216 := by
      refine Nat.lt_of_le_of_lt (List.length_filterMap_le _ _) ?_
      rw [List.length_take]
      omega
    refine ht i v x H' _ _ hx (Stay.st (keep_of p.1) hr) p.1 (fun y H4 b s4 e hy => ?_) (fun H3 s3 e => ?_)
    · obtain ⟨acc, z1, z2, z3⟩ := lcA_yes lt p s4 hy
      refine ⟨acc, z1, z2, ?_⟩
      rw [tk, List.filterMap_append, List.filterMap_cons_some e, List.filterMap_nil]
      exact z3
    · rw [tk, List.filterMap_append, List.filterMap_cons_none e, List.filterMap_nil, List.append_nil]
      exact p.same s3
  · rw [hlen, List.take_length] at p
    exact hd H' D0 p.1 p.2.1 p.2.2
theorem LsAt.sq {a : Addr} (h : LsAt R a xs H) : ∃ vs, SqL K H a vs ∧ Al R H vs xs := by
  obtain ⟨vs, e1, e2⟩ := h
  exact ⟨vs, SqL.of e1, e2⟩
end
/-- extend -/
theorem LsAt.ext {α : Type} {R : Hp → V → α → Prop} [Stay R] {a b : Addr} {xs ys : List α} (h : LsAt R a xs H) (g : LsAt R b ys H) (hl : xs.length + ys.length ≤ 16777216) (q : ∀ H', LsAt R a (xs ++ ys) H' → Keep H H' → (∀ b, b ≠ a → H' b = H b) → Q .non H') : rExtend (.ref a) [.ref b] H Q := by
  obtain ⟨vs, e1, e2⟩ := h
  obtain ⟨ws, g1, g2⟩ := g
  have kp : Keep H (upd H a (.lst (vs ++ ws))) := keep_lst e1
  exact ⟨a, b, vs, ws, rfl, rfl, e1, g1, by rw [e2.len, g2.len]; exact hl, q _ ⟨_, upd_same, (e2.app g2).keep kp⟩ kp fun b hb => upd_ne hb⟩
/-- [[] for _ in range(n)] -/
def LcN (H : Hp) (D0 : Addr) (n : Nat) (H' : Hp) : Prop := Same H H' ∧ H D0 = none ∧ ∃ as : List Addr, H' D0 = some (.lst (as.map V.ref)) ∧ as.length = n ∧ as.Nodup ∧ ∀ a ∈ as, H a = none ∧ H' a = some (.lst [])
theorem r_lcN {n : Int} {σw : St} (hw : wipe σ js = σw) (ha : ∀ Q : List V → Hp → Prop, Q [.int n] H → ta σ H Q) (hm : 0 ≤ n) (hn : n ≤ 1000000)
    (ht : ∀ (i : Nat) H', g (.int (i : Int)) σw H' fun σ2 H2 => H2 = H' ∧ wipe σ2 js = σw)
    (hd : ∀ H' D (as : List Addr), Same H H' → H D = none → H' D = some (.lst (as.map V.ref)) → as.length = n.toNat → as.Nodup → (∀ a ∈ as, H a = none ∧ a ≠ D ∧ H' a = some (.lst [])) → Q (.ref D) H')
    (mono : ∀ v σ H (R R' : St → Hp → Prop), (∀ σ H, R σ H → R' σ H) → g v σ H R → g v σ H R') : tLc (iRng1 ta) g tYes (tLst tNil) js σ H Q := by
  subst hw
  refine ha _ ⟨n, rfl, by omega, by omega, fun D0 hD => ?_⟩
  refine lc_range (lo := 0) (n := n.toNat) (LcN H D0) ⟨same_up hD, hD, [], upd_same, rfl, List.nodup_nil, fun a h => nomatch h⟩ (fun i H' hi p => ?_) (fun H' p => ?_)
  · have e : (0 : Int) + (i : Int) = (i : Int) := Int.zero_add _
    rw [e]
    refine mono _ _ _ _ _ (fun σ2 H2 z => ?_) (ht i H')
    obtain ⟨rfl, hw2⟩ := z
    refine ⟨hw2, ?_⟩
    refine r_yes ?_
    rw [if_pos rfl]
    refine ⟨by decide, fun b hb => ?_⟩
    obtain ⟨s1, d0, as, h1, h2, h3, h4⟩ := p
    have nb : b ≠ D0 := fun e => by rw [e, h1] at hb; cases hb
    have hna : b ∉ as := fun hm => by
      have := (h4 b hm).2
      rw [hb] at this
      cases this
    have sb : Same H (upd H2 b (.lst [])) := s1.trans (same_up hb)
    have hD2 : upd H2 b (.lst []) D0 = some (.lst (as.map V.ref)) := by rw [upd_ne nb.symm]; exact h1
    refine ⟨as.map V.ref, hD2, by rw [List.length_map, h2]; exact Nat.lt_of_lt_of_le hi (Nat.le_trans (show n.toNat ≤ 1000000 by omega) (by decide)), same_mut sb d0, d0, as ++ [b], ?_, ?_, ?_, fun c hc => ?_⟩
    · rw [upd_same, List.map_append]
      rfl
    · rw [List.length_append, h2]; rfl
    · exact List.nodup_append.mpr ⟨h3, by simp, fun x hx y hy e => by
        rw [List.mem_singleton.mp hy] at e
        exact hna (e ▸ hx)⟩
    · rcases List.mem_append.mp hc with hc | hc
      · obtain ⟨q1, q2⟩ := h4 c hc
        have n1 : c ≠ D0 := fun e => by
          rw [e, h1] at q2
          have := Option.some.inj q2
          injection this with z
          have z2 := congrArg List.length z
          rw [List.length_map, List.length_nil] at z2
          rw [List.length_eq_zero_iff.mp z2] at hc
          cases hc
        refine ⟨q1, ?_⟩
        rw [upd_ne n1, upd_ne (show c ≠ b from fun e => hna (by rw [← e]; exact hc))]
        exact q2
      · rw [List.mem_singleton.mp hc]
        refine ⟨?_, by rw [upd_ne nb, upd_same]⟩
        cases q : H b with
        | none => rfl
        | some o => rw [s1 _ _ q] at hb; cases hb
  · obtain ⟨s1, d0, as, h1, h2, h3, h4⟩ := p
    refine hd H' D0 as s1 d0 h1 h2 h3 fun c hc => ⟨(h4 c hc).1, fun e => ?_, (h4 c hc).2⟩
    have q2 := (h4 c hc).2
    rw [e, h1] at q2
    have := Option.some.inj q2
    injection this with z
    have z2 := congrArg List.length z
    rw [List.length_map, List.length_nil] at z2
    rw [List.length_eq_zero_iff.mp z2] at hc
    cases hc
/-! ### dicts, step by step -/
section
variable {ty : TE}
theorem r_din (h : ty σ H fun y H1 => td σ H1 fun x H2 => ∃ a o, x = .ref a ∧ DGet H2 a y o ∧ Q (.bl o.isSome) H2) : tDIn ty td σ H Q := h
theorem r_dnin (h : ty σ H fun y H1 => td σ H1 fun x H2 => ∃ a o, x = .ref a ∧ DGet H2 a y o ∧ Q (.bl (!o.isSome)) H2) : tDNotIn ty td σ H Q := h
theorem r_dgt (h : td σ H fun x H1 => ty σ H1 fun y H2 => ∃ a v, x = .ref a ∧ DGet H2 a y (some v) ∧ Q v H2) : tDGet td ty σ H Q := h
theorem r_aug {i : Nat} {x : V} {ti : TIp} (hv : σ[i]? = some (some x)) (h : te σ H fun y H1 => ti x y H1 fun z H2 => D.nx (σ.set i (some z)) H2) : tAug i te ti D σ H := ⟨x, hv, h⟩
theorem r_ipI {f : Int → Int → Int} {a b : Int} (h : Q (.int (f a b)) H) : ipI f (.int a) (.int b) H Q := ⟨a, b, rfl, rfl, h⟩
theorem r_ipS {a b : Str} (hl : a.length + b.length ≤ sizeLine) (h : Q (.str (a ++ b)) H) : ipS (.str a) (.str b) H Q := ⟨a, b, rfl, rfl, hl, h⟩
theorem r_dgr {x : V} {a : Addr} {y v : V} {R : V → Prop} (g : DGet H a y (some v)) (h : R v) : ∃ b u, V.ref a = .ref b ∧ DGet H b y (some u) ∧ R u := ⟨a, v, rfl, g, h⟩
theorem r_dput (h : tv σ H fun v H1 => td σ H1 fun x H2 => ty σ H2 fun y H3 => ∃ a H4, x = .ref a ∧ DPut H3 a y v H4 ∧ D.nx σ H4) : sDPut td ty tv D σ H := h
theorem r_dgt2 {tx : TE} (h : td σ H fun x H1 => ∃ a, x = .ref a ∧ IsD H1 a ∧ ty σ H1 fun y H2 => tx σ H2 fun z H3 => ∃ o, DGet H3 a y o ∧ Q (o.getD z) H3) : tDGet2 td ty tx σ H Q := h
theorem r_revL (h : te σ H fun x H1 => ∃ a xs, x = .ref a ∧ SqL K H1 a xs ∧ ∀ p, H1 p = none → Q (.ref p) (upd H1 p (.lst xs.reverse))) : tRevL K te σ H Q := h
theorem r_revT (h : te σ H fun x H1 => ∃ a xs, x = .ref a ∧ SqT K H1 a xs ∧ ∀ p, H1 p = none → Q (.ref p) (upd H1 p (.tup xs.reverse))) : tRevT K te σ H Q := h
end
end
end Tw

/-! The tables before and rest of a square. -/
namespace Tw
open PySem L2
theorem r_forV {K : PySem.W.Frag} {σ : St} {H : Hp} {D : Ends} {g : TG} {tb : TS} {tl : TE} (h : tl σ H fun v H1 => tFor (iList K (tC v)) g tb D σ H1) : tFor (iList K tl) g tb D σ H := h
def ents1 (s : Sq) (es : List Sm) (t : Sq) : List En := es.filterMap fun e => if e.t = t then some ⟨s, e.b, e.k⟩ else none
def entsF (M : Mc) (Ws : List Sq) (t : Sq) : List En := Ws.flatMap fun s => ents1 s (stepsF M s) t
theorem ents1_snoc (s : Sq) (es : List Sm) (e : Sm) (t : Sq) : ents1 s (es ++ [e]) t = ents1 s es t ++ if e.t = t then [⟨s, e.b, e.k⟩] else [] := by
  unfold ents1
  rw [List.filterMap_append]
  congr 1
  by_cases h : e.t = t
  · rw [if_pos h, List.filterMap_cons_some (b := ⟨s, e.b, e.k⟩) (by rw [if_pos h])]; rfl
  · rw [if_neg h, List.filterMap_cons_none (by rw [if_neg h])]; rfl
theorem ents1_mem {s : Sq} {es : List Sm} {t : Sq} {a : En} : a ∈ ents1 s es t ↔ a.s = s ∧ ∃ e ∈ es, e.t = t ∧ a.b = e.b ∧ a.k = e.k := by
  unfold ents1
  rw [List.mem_filterMap]
  constructor
  · rintro ⟨e, he, h⟩
    by_cases ht : e.t = t
    · rw [if_pos ht] at h
      cases h
      exact ⟨rfl, e, he, ht, rfl, rfl⟩
    · rw [if_neg ht] at h
      cases h
  · rintro ⟨rfl, e, he, ht, h1, h2⟩
    refine ⟨e, he, ?_⟩
    rw [if_pos ht]
    obtain ⟨s, b, k⟩ := a
    dsimp only at h1 h2 ⊢
    rw [h1, h2]
section
variable {M : Mc} {Ws : List Sq} {s t : Sq} {a : En}
theorem ents_mem : a ∈ entsF M Ws t ↔ a.s ∈ Ws ∧ SStep M a.s ⟨a.b, a.k, t⟩ := by
  unfold entsF
  rw [List.mem_flatMap]
  constructor
  · rintro ⟨s, hs, h⟩
    obtain ⟨rfl, e, he, rfl, h1, h2⟩ := ents1_mem.mp h
    refine ⟨hs, ?_⟩
    rw [h1, h2]
    exact steps_mem.mp he
  · rintro ⟨hs, st⟩
    exact ⟨a.s, hs, ents1_mem.mpr ⟨rfl, _, steps_mem.mpr st, rfl, rfl, rfl⟩⟩
theorem ents_snoc (M : Mc) (Ws : List Sq) (s t : Sq) : entsF M (Ws ++ [s]) t = entsF M Ws t ++ ents1 s (stepsF M s) t := by
  unfold entsF
  rw [List.flatMap_append, List.flatMap_cons, List.flatMap_nil, List.append_nil]
/-- the step tells where it came from -/
theorem SStep.src {s s' : Sq} {b : Bool} {k : Nat} (h : SStep M s ⟨b, k, t⟩) (g : SStep M s' ⟨b, k, t⟩) : s = s' := by
  obtain ⟨p, q, o⟩ := s
  obtain ⟨p', q', o'⟩ := s'
  rcases h with ⟨hb, ho, m, hm, hs, ht⟩ | ⟨hb, m, hm, hs, hr, ht⟩ <;> rcases g with ⟨gb, go, n, gm, gs, gt⟩ | ⟨gb, n, gm, gs, gr, gt⟩
  · dsimp only at *
    rw [hm] at gm
    cases gm
    rw [ht] at gt
    injection gt with e1 e2 e3
    subst ho go
    rw [← hs, ← gs, e2]
  · rw [hb] at gb; cases gb
  · rw [hb] at gb; cases gb
  · dsimp only at *
    rw [hm] at gm
    cases gm
    rw [ht] at gt
    injection gt with e1 e2 e3
    rw [← hs, ← gs, e1, ← hr, ← gr]
theorem ents1_nodup (M : Mc) (s t : Sq) : ((ents1 s (stepsF M s) t).map fun e => (e.b, e.k)).Nodup := by
  refine fm_nodup (ka := fun e : Sm => (e.b, e.k)) (fun a b h => ?_) _ (steps_nodup M s)
  split at h
  · cases h; rfl
  · cases h
theorem ents_nodup : ∀ {Ws : List Sq}, Ws.Nodup → ((entsF M Ws t).map fun e => (e.b, e.k)).Nodup
  | [], _ => List.nodup_nil
  | s :: Ws, h => by
    rw [List.nodup_cons] at h
    have e : entsF M (s :: Ws) t = ents1 s (stepsF M s) t ++ entsF M Ws t := by unfold entsF; rw [List.flatMap_cons]
    rw [e, List.map_append]
    refine List.nodup_append.mpr ⟨ents1_nodup M s t, ents_nodup h.2, fun x hx y hy exy => ?_⟩
    obtain ⟨c, hc, rfl⟩ := List.mem_map.mp hx
    obtain ⟨c', hc', rfl⟩ := List.mem_map.mp hy
    obtain ⟨rfl, e0, he0, ht0, h1, h2⟩ := ents1_mem.mp hc
    obtain ⟨g1, g2⟩ := ents_mem.mp hc'
    have st : SStep M c.s ⟨c.b, c.k, t⟩ := by
      rw [h1, h2, ← ht0]
      exact steps_mem.mp he0
    have : c.s = c'.s := by
      injection exy with z1 z2
      rw [← z1, ← z2] at g2
      exact st.src g2
    exact h.1 (by rw [this]; exact g1)
theorem ents_few (ok : M.Ok) (h : Ws.Nodup) : (entsF M Ws t).length ≤ 2000 := by
  have ml := ok.ml
  have h2 := nodup_lt 2000 ((entsF M Ws t).map fun e => if e.b = true then 1000 + e.k else e.k) ?_ ?_
  · rw [List.length_map] at h2
    exact h2
  · have hn := ents_nodup (M := M) (t := t) h
    rw [List.nodup_iff_pairwise_ne, List.pairwise_map] at hn ⊢
    refine List.Pairwise.imp_of_mem (fun {a b} ha hb hne e => ?_) hn
    obtain ⟨_, sa⟩ := ents_mem.mp ha
    obtain ⟨_, sb⟩ := ents_mem.mp hb
    obtain ⟨m1, k1⟩ := sa.mv
    obtain ⟨m2, k2⟩ := sb.mv
    have l1 := (List.getElem?_eq_some_iff.mp k1).1
    have l2 := (List.getElem?_eq_some_iff.mp k2).1
    dsimp only at l1 l2
    apply hne
    obtain ⟨s1, b1, c1⟩ := a
    obtain ⟨s2, b2, c2⟩ := b
    dsimp only at e l1 l2 ⊢
    cases b1 <;> cases b2 <;> simp at e ⊢ <;> omega
  · intro c hc
    obtain ⟨a, ha, rfl⟩ := List.mem_map.mp hc
    obtain ⟨_, sa⟩ := ents_mem.mp ha
    obtain ⟨m1, k1⟩ := sa.mv
    have l1 := (List.getElem?_eq_some_iff.mp k1).1
    dsimp only at l1
    split <;> omega
theorem RcS.ok (ok : M.Ok) (h : RcS M s) : sqOk M s := by
  obtain ⟨mv, x, y, p⟩ := h
  have : ∀ {s t : Sq} {mv x y}, SPath M s mv t x y → sqOk M s → sqOk M t := by
    intro s t mv x y p
    induction p with
    | nil s => exact id
    | cons st _ ih => exact fun k => ih (k.step ok st)
  exact this p (sqOk.first ok)
end
theorem map_set {α β : Type} {l : List α} {f g : α → β} {i : Nat} {a : α} (hn : l.Nodup) (ha : l[i]? = some a) (h : ∀ t ∈ l, t ≠ a → f t = g t) : (l.map f).set i (g a) = l.map g := by
  refine List.ext_getElem? fun j => ?_
  by_cases e : j = i
  · subst e
    have hl : j < (l.map f).length := by rw [List.length_map]; exact (List.getElem?_eq_some_iff.mp ha).1
    rw [List.getElem?_set_self hl, List.getElem?_map, ha]
    rfl
  · rw [List.getElem?_set_ne (fun z => e z.symm), List.getElem?_map, List.getElem?_map]
    cases hj : l[j]? with
    | none => rfl
    | some b =>
      have hb : b ≠ a := fun z => by
        subst z
        obtain ⟨l1, g1⟩ := List.getElem?_eq_some_iff.mp hj
        obtain ⟨l2, g2⟩ := List.getElem?_eq_some_iff.mp ha
        exact e ((List.getElem_inj hn).mp (g1.trans g2.symm))
      show some (f b) = some (g b)
      rw [h b (List.mem_of_getElem? hj) hb]
end Tw

/-! Dicts with tuples as keys: list(d), {k: .. for k in d if ..}, [.. for k, v in d.items() if ..]. -/
namespace Tw
open PySem L2
section
variable {α κ : Type} [TKey κ] {R : Hp → V → α → Prop} {H H' : Hp} {d : Addr} {W : List κ} {xs : List α}
theorem keys_al : ∀ {W : List κ} {vs : List V} {bs : List Addr}, W.length = vs.length → IsKeys H (asc TKey.kf W vs) bs → Al KAt H (bs.map V.ref) W
  | [], [], _, _, .nil => Al.nil
  | [], _ :: _, _, h, _ => by simp at h
  | _ :: _, [], _, h, _ => by simp at h
  | k :: W, u :: vs, bs, h, p => by
    have p' : IsKeys H ((TKey.kf k, u) :: asc TKey.kf W vs) bs := p
    cases p' with
    | cons h1 h2 =>
      have ih := keys_al (W := W) (vs := vs) (by simpa using h) h2
      refine ⟨by simpa using ih.len, fun i v x e1 e2 => ?_⟩
      cases i with
      | zero =>
        simp at e1 e2
        subst e1 e2
        exact ⟨_, rfl, h1⟩
      | succ i => exact ih.at_ i v x (by simpa using e1) (by simpa using e2)
theorem r_listT {G : Addr → List Addr → Prop} (h : Td R d W xs H) (q : ∀ (p : Addr) (bs : List Addr), H p = none → LsAt KAt p W (upd H p (.lst (bs.map V.ref))) → G p bs) :
    ∃ d' kvs, [V.ref d] = [V.ref d'] ∧ Rd H d' (.dT kvs) ∧ ∀ (p : Addr) (bs : List Addr), H p = none → IsKeys H kvs bs → G p bs := by
  obtain ⟨vs, h1, h2⟩ := h.h
  refine ⟨d, _, rfl, .inl h1, fun p bs hp hk => q p bs hp ⟨_, upd_same, ?_⟩⟩
  exact (keys_al (h.len.trans h2.len.symm) hk).keep (keep_of (same_up hp))
end
theorem asc_at {κ τ : Type} {kf : κ → τ} {W : List κ} {vs : List V} {i : Nat} {k : τ} {v : V} (h : (asc kf W vs)[i]? = some (k, v)) : ∃ w, W[i]? = some w ∧ k = kf w ∧ vs[i]? = some v := by
  unfold asc at h
  rw [List.getElem?_zip_eq_some, List.getElem?_map] at h
  obtain ⟨h1, h2⟩ := h
  obtain ⟨w, hw, rfl⟩ := Option.map_eq_some_iff.mp h1
  exact ⟨w, hw, rfl, h2⟩
section
variable {α β κ : Type} [TKey κ] {R0 : Hp → V → β → Prop} {R : Hp → V → α → Prop} [Stay R] {σ : St} {H : Hp} {Q : VK} {js : List Nat} {g : TG} {td tk tv te : TE} {tt : TT} {d : Addr} {W : List κ} {bs : List β} {σw : St}
theorem filter_snoc {f : κ → Option α} {W : List κ} {k : κ} {x : α} (h : f k = some x) : (W ++ [k]).filter (fun k => (f k).isSome) = W.filter (fun k => (f k).isSome) ++ [k] := by
  rw [List.filter_append, List.filter_cons_of_pos (by rw [h]; rfl), List.filter_nil]
theorem filter_snoc_no {f : κ → Option α} {W : List κ} {k : κ} (h : f k = none) : (W ++ [k]).filter (fun k => (f k).isSome) = W.filter (fun k => (f k).isSome) := by
  rw [List.filter_append, List.filter_cons_of_neg (by simp [h]), List.filter_nil, List.append_nil]
theorem r_lockS {D : Ends} {i : Nat} {t : TE} (h : tLockE t σ H (fun v H' => D.nx (σ.set i (some v)) H')) : tLock (tAsg t (gName i)) D σ H := h
/-- {k: .. for k in d if ..} -/
theorem r_dcT (f : κ → Option α) (hw : wipe σ js = σw) (hd : Td R0 d W bs H) (hl : ∀ (H : Hp) (Q : VK), Q (.ref d) H → td σ H Q) (hz : W.length < 16777216)
    (ht : ∀ (k : κ) v H' (QY : V → V → Hp → Prop) (QN : Hp → Prop), k ∈ W → KAt H' v k → (∀ b o, b ≠ d → H b = some o → H' b = some o) → (∀ y z H5 x, Same H' H5 → KAt H5 y k → f k = some x → R H5 z x → QY y z H5) → (∀ H3, Same H' H3 → f k = none → QN H3) →
      g v σw H' fun σ2 H2 => wipe σ2 js = σw ∧ tt σ2 H2 fun b H3 => if b = true then tk σ2 H3 fun y H4 => tv σ2 H4 fun z H5 => QY y z H5 else QN H3)
    (fin : ∀ H' D, Same H H' → H D = none → Td R D (W.filter fun k => (f k).isSome) (W.filterMap f) H' → Q (.ref D) H') : tLockE (tDcP (.dT []) PutT (iKeys td) g tt tk tv js) σ H Q := by
  subst hw
  obtain ⟨vs, h1, h2⟩ := hd.h
  have hlv : W.length = vs.length := hd.len.trans h2.len.symm
  have hal : (asc TKey.kf W vs).length = W.length := asc_len hlv
  refine ⟨d, .dT (asc TKey.kf W vs), h1, trivial, fun od => ?_⟩
  refine hl _ _ ⟨d, od, rfl, .inr ⟨_, upd_same, fun D0 hD0 => ?_⟩⟩
  have nd : D0 ≠ d := fun e => by
    rw [e, upd_same] at hD0
    cases hD0
  have hD : H D0 = none := by
    rw [upd_ne nd] at hD0
    exact hD0
  refine ⟨fun i m H' => m = W.length - i ∧ i ≤ W.length ∧ Same (upd H d (.frz od (.dT (asc TKey.kf W vs)))) H' ∧ Td R D0 ((W.take i).filter fun k => (f k).isSome) ((W.take i).filterMap f) H', ⟨_, rfl, Nat.zero_le _, same_up hD0, Td.new⟩, ?_⟩
  rintro i m H' ⟨rfl, hi, s1, T1⟩
  have hdd := s1 _ _ (upd_same (H := H) (a := d) (o := .frz od (.dT (asc TKey.kf W vs))))
  by_cases hlt : i < W.length
  · refine .inr ⟨⟨hdd, by rw [hal]; exact hlt⟩, fun H'' => Same (upd H d (.frz od (.dT (asc TKey.kf W vs)))) H'' ∧ Td R D0 ((W.take (i + 1)).filter fun k => (f k).isSome) ((W.take (i + 1)).filterMap f) H'', fun H'' z => ⟨_, by omega, rfl, hlt, z.1, z.2⟩, fun v H'' y => ?_⟩
    obtain ⟨rfl, k, u, q, e1, rfl, e2⟩ := y
    obtain ⟨k', hk', rfl, _⟩ := asc_at e1
    have tk1 : W.take (i + 1) = W.take i ++ [k'] := by rw [List.take_add_one, hk']; rfl
    have old : ∀ b o, b ≠ d → H b = some o → H'' b = some o := fun b o hb h => s1 _ _ (by rw [upd_ne hb]; exact h)
    have main := ht k' (.ref q) H'' (fun y z H5 => ∃ H6, PutT H5 D0 y z H6 ∧ (Same (upd H d (.frz od (.dT (asc TKey.kf W vs)))) H6 ∧ Td R D0 ((W.take (i + 1)).filter fun k => (f k).isSome) ((W.take (i + 1)).filterMap f) H6))
      (fun H3 => Same (upd H d (.frz od (.dT (asc TKey.kf W vs)))) H3 ∧ Td R D0 ((W.take (i + 1)).filter fun k => (f k).isSome) ((W.take (i + 1)).filterMap f) H3)
      (List.mem_of_getElem? hk') ⟨q, rfl, e2⟩ old (fun y z H5 x s5 hy hx hz5 => ?_) (fun H3 s3 hx => ?_)
    · exact main
    · have T5 := T1.same s5
      have hnew : k' ∉ (W.take i).filter fun k => (f k).isSome := fun hm => by
        have hm' := (List.mem_filter.mp hm).1
        obtain ⟨j, hj⟩ := List.getElem?_of_mem hm'
        rw [List.getElem?_take] at hj
        split at hj
        · obtain ⟨l1, g1⟩ := List.getElem?_eq_some_iff.mp hj
          obtain ⟨l2, g2⟩ := List.getElem?_eq_some_iff.mp hk'
          have := (List.getElem_inj hd.nd).mp (g1.trans g2.symm)
          omega
        · cases hj
      have hlen : ((W.take i).filter fun k => (f k).isSome).length < 16777216 := by
        refine Nat.lt_of_le_of_lt (List.length_filter_le _ _) ?_
        rw [List.length_take]
        omega
      obtain ⟨ws, w1, w2⟩ := T5.h
      obtain ⟨b, rfl, hb⟩ := hy
      have hlw : ((W.take i).filter fun k => (f k).isSome).length = ws.length := T5.len.trans w2.len.symm
      have kp : ∀ o, Keep H5 (upd H5 D0 o) := fun o => keep_dT' w1
      refine ⟨_, ⟨_, TKey.kf k', b, rfl, w1, hb, by rw [asc_len hlw]; exact hlen, rfl⟩, same_mut (s1.trans s5) hD0, ?_⟩
      rw [tk1, filter_snoc hx, List.filterMap_append, List.filterMap_cons_some hx, List.filterMap_nil]
      refine ⟨⟨ws ++ [z], ?_, (w2.keep (kp _)).snoc (Stay.st (kp _) hz5)⟩, by rw [List.length_append, List.length_append, T5.len]; rfl, List.nodup_append.mpr ⟨T5.nd, by simp, fun a ha c hc e => by
        rw [List.mem_singleton.mp hc] at e
        exact hnew (e ▸ ha)⟩⟩
      rw [upd_same, asc_snoc hlw, putK_new _ (asc_none TKey.inj hlw hnew)]
    · refine ⟨s1.trans s3, ?_⟩
      rw [tk1, filter_snoc_no hx, List.filterMap_append, List.filterMap_cons_none hx, List.filterMap_nil, List.append_nil]
      exact T1.same s3
  · have e : i = W.length := by omega
    subst e
    rw [List.take_length] at T1
    refine .inl ⟨⟨hdd, by rw [hal]; exact Nat.le_refl _⟩, hdd, ?_⟩
    have s2 : Same H (upd H' d (.dT (asc TKey.kf W vs))) := fun b o hb => by
      by_cases e : b = d
      · subst e
        rw [h1] at hb
        cases hb
        exact upd_same
      · rw [upd_ne e]
        exact s1 _ _ (by rw [upd_ne e]; exact hb)
    refine fin _ D0 s2 hD (T1.fr ⟨fun b xs h => ?_, fun b o u h => ?_⟩ (upd_ne nd))
    · rw [upd_ne (ne_of h hdd (by intro z; cases z))]
      exact h
    · rw [upd_ne (ne_of h hdd (by intro z; injection z with _ z2; cases z2))]
      exact h
end
end Tw

/-! enumerate; {k: True for k in ints}; an attribute as a target. -/
namespace Tw
open PySem L2
section
variable {K : PySem.W.Frag} {σ : St} {H : Hp} {D : Ends} {g : TG} {tb : TS} {tl te tk tv td : TE} {ta : TA} {tt c : TT} {Q : VK} {js : List Nat} {a : Addr} {xs : List V}
theorem r_forE (Pv : Nat → St → Hp → Prop) (hl : ∀ Q : List V → Hp → Prop, Q [.ref a] H → ta σ H Q) (hs : SqL K H a xs) (h0 : Pv 0 σ H) (h1 : ∀ i σ H', i ≤ xs.length → Pv i σ H' → SqL K H' a xs)
    (h2 : ∀ (i : Nat) y σ H' T, xs[i]? = some y → H' T = none → Pv i σ H' → g (.ref T) σ (upd H' T (.tup [.int (i : Int), y])) fun σ2 H2 => tb { D with nx := Pv (i + 1), ct := Pv (i + 1), bk := D.nx } σ2 H2) (h3 : ∀ σ H', Pv xs.length σ H' → D.nx σ H') : tFor (iEnum K ta) g tb D σ H := by
  refine hl _ ⟨a, xs, rfl, hs, ?_⟩
  refine for_it walk_enum Pv h0 h1 (fun i v σ' H' H'' hi p y => ?_) h3
  obtain ⟨T, x, z, rfl, hT, rfl, e1, e2⟩ := y
  cases e1
  exact h2 i z σ' H' T e2 hT p
theorem r_gfld {ta : TE} {f : Str} {v : V} {Q : St → Hp → Prop} (h : ta σ H fun x H2 => ∃ a C dx fs, x = .ref a ∧ H2 a = some (.ins C dx fs) ∧ Cls K C ∧ NoAttr K C f ∧ fs.length < 1000 ∧ Q σ (upd H2 a (.ins C dx (putF f v fs)))) : gFld K ta f v σ H Q := h
theorem r_sfv {f : Str} {x C dx : Addr} {fs : List (Str × V)} {G : Addr → Addr → Addr → List (Str × V) → Prop} (hx : H x = some (.ins C dx fs)) (cl : Cls K C) (na : NoAttr K C f) (hl : fs.length ≤ 20) (h : G x C dx fs) :
    ∃ a C dx fs, V.ref x = .ref a ∧ H a = some (.ins C dx fs) ∧ Cls K C ∧ NoAttr K C f ∧ fs.length < 1000 ∧ G a C dx fs := ⟨x, C, dx, fs, rfl, hx, cl, na, by omega, h⟩
end
theorem putK_old {κ τ : Type} [DecidableEq τ] {kf : κ → τ} {v : V} : ∀ {ks : List κ} {vs : List V} {k : κ}, ∃ vs', (asc kf ks vs).map (fun kv => if kv.1 = kf k then (kv.1, v) else kv) = asc kf ks vs' ∧ vs'.length = vs.length
  | [], vs, _ => ⟨vs, rfl, rfl⟩
  | j :: ks, [], _ => ⟨[], rfl, rfl⟩
  | j :: ks, u :: vs, k => by
    obtain ⟨ws, h1, h2⟩ := putK_old (kf := kf) (v := v) (ks := ks) (vs := vs) (k := k)
    refine ⟨(if kf j = kf k then v else u) :: ws, ?_, by simp [h2]⟩
    show (if kf j = kf k then (kf j, v) else (kf j, u)) :: (asc kf ks vs).map (fun kv => if kv.1 = kf k then (kv.1, v) else kv) = (kf j, if kf j = kf k then v else u) :: asc kf ks ws
    rw [h1]
    split <;> rfl
section
variable {H : Hp} {d : Addr}
/-- d[k] = v, of any old or new key -/
theorem Kd.any {κ : Type} [KKey κ] [DecidableEq κ] {ks : List κ} {us : List Unit} (h : Kd RAny d ks us H) (k : κ) (v : V) (kvs : List (Key × V)) (e : H d = some (.dK kvs)) : ∃ ks' us', Kd RAny d ks' us' (upd H d (.dK (putK kvs (KKey.kf k) v))) ∧ (∀ j, j ∈ ks' ↔ j ∈ ks ∨ j = k) ∧ ks'.length ≤ ks.length + 1 := by
  obtain ⟨vs, h1, h2⟩ := h.h
  rw [h1] at e
  cases e
  have hl : ks.length = vs.length := h.len.trans h2.len.symm
  rcases asc_val (vs := vs) (KKey.inj (κ := κ)) (k := k) h.nd hl with ⟨a1, a2⟩ | ⟨i, w, a1, a2, a3⟩
  · refine ⟨ks ++ [k], us ++ [()], ⟨⟨vs ++ [v], ?_, ?_⟩, by rw [List.length_append, List.length_append, h.len]; rfl, ?_⟩, fun j => by rw [List.mem_append, List.mem_singleton], by rw [List.length_append]; exact Nat.le_refl _⟩
    · rw [upd_same, putK_new _ a2, asc_snoc hl]
    · exact (h2.snoc (v := v) (x := ()) trivial).imp (fun _ _ _ => trivial)
    · exact List.nodup_append.mpr ⟨h.nd, by simp, fun a ha b hb e => by
        rw [List.mem_singleton.mp hb] at e
        exact a1 (e ▸ ha)⟩
  · have hm := List.mem_of_getElem? a1
    obtain ⟨ws, w1, w2⟩ := putK_old (kf := KKey.kf) (v := v) (ks := ks) (vs := vs) (k := k)
    refine ⟨ks, us, ⟨⟨ws, ?_, ⟨by rw [w2]; exact h2.len, fun _ _ _ _ _ => trivial⟩⟩, h.len, h.nd⟩, fun j => ⟨.inl, fun z => z.elim id (fun e => e ▸ hm)⟩, Nat.le_succ _⟩
    rw [upd_same, ← w1]
    congr 2
    unfold putK
    rw [if_pos]
    rw [valV_any, a3]
    rfl
end
/-- {k: True for k in ints} -/
theorem r_dcK {K : PySem.W.Frag} {σ : St} {H : Hp} {g : TG} {tl tk tv : TE} {Q : VK} {js : List Nat} {a : Addr} {ns : List Int} {σw : St} (kf : Int → Int) (hw : wipe σ js = σw) (hl : ∀ Q : VK, Q (.ref a) H → tl σ H Q) (hs : SqL K H a (ns.map V.int)) (hn : ns.length ≤ 1000000)
    (ht : ∀ (z : Int) H' (QY : V → V → Hp → Prop), z ∈ ns → Same H H' → (∀ u, QY (.int (kf z)) u H') → g (.int z) σw H' fun σ2 H2 => wipe σ2 js = σw ∧ tk σ2 H2 fun y H4 => tv σ2 H4 fun z H5 => QY y z H5)
    (fin : ∀ H' D (ks : List Int) us, Same H H' → H D = none → Kd RAny D ks us H' → (∀ k, k ∈ ks ↔ ∃ z ∈ ns, kf z = k) → Q (.ref D) H')
    (mono : ∀ v σ H (A B : St → Hp → Prop), (∀ σ H, A σ H → B σ H) → g v σ H A → g v σ H B) : tDc (iList K tl) g tYes tk tv js σ H Q := by
  subst hw
  refine hl _ ⟨a, rfl, ⟨_, hs⟩, fun D0 hD => ?_⟩
  have hlen : (ns.map V.int).length = ns.length := List.length_map _
  refine ⟨fun i m H' => m = ns.length - i ∧ i ≤ ns.length ∧ Same H H' ∧ ∃ (ks : List Int) (us : List Unit), Kd RAny D0 ks us H' ∧ (∀ k, k ∈ ks ↔ ∃ z ∈ ns.take i, kf z = k) ∧ ks.length ≤ i, ⟨_, rfl, Nat.zero_le _, same_up hD, [], [], Kd.new, fun k => by simp, Nat.le_refl _⟩, ?_⟩
  rintro i m H' ⟨rfl, hi, s1, ks, us, T1, mem, kl⟩
  have hs' := same_sqL s1 hs
  by_cases hlt : i < ns.length
  · obtain ⟨z, hz⟩ : ∃ z, ns[i]? = some z := ⟨ns[i], List.getElem?_eq_getElem hlt⟩
    have tk1 : ns.take (i + 1) = ns.take i ++ [z] := by rw [List.take_add_one, hz]; rfl
    refine .inr ⟨⟨_, .int z, hs', by rw [List.getElem?_map, hz]; rfl⟩, fun H'' => Same H H'' ∧ ∃ (ks : List Int) (us : List Unit), Kd RAny D0 ks us H'' ∧ (∀ k, k ∈ ks ↔ ∃ z ∈ ns.take (i + 1), kf z = k) ∧ ks.length ≤ i + 1, fun H'' q => ⟨_, by omega, rfl, hlt, q.1, q.2⟩, fun v H'' y => ?_⟩
    obtain ⟨rfl, yv⟩ := y
    have := yv _ hs'
    rw [List.getElem?_map, hz] at this
    cases this
    have main := ht z H'' (fun y u H5 => ∃ kvs k, y = kV k ∧ H5 D0 = some (.dK kvs) ∧ kvs.length < sizeLine ∧ (Same H (upd H5 D0 (.dK (putK kvs k u))) ∧ ∃ (ks : List Int) (us : List Unit), Kd RAny D0 ks us (upd H5 D0 (.dK (putK kvs k u))) ∧ (∀ k, k ∈ ks ↔ ∃ z ∈ ns.take (i + 1), kf z = k) ∧ ks.length ≤ i + 1)) (List.mem_of_getElem? hz) s1 (fun u => ?_)
    · refine mono _ _ _ _ _ (fun σ2 H2 q => ?_) main
      refine ⟨q.1, ?_⟩
      refine r_yes ?_
      rw [if_pos rfl]
      exact q.2
    · obtain ⟨vs, h1, h2⟩ := T1.h
      have hl1 : ks.length = vs.length := T1.len.trans h2.len.symm
      obtain ⟨ks', us', k1, k2, k3⟩ := T1.any (kf z) u _ h1
      refine ⟨_, KKey.kf (kf z), rfl, h1, ?_, same_mut s1 hD, ks', us', k1, fun k => ?_, by omega⟩
      · rw [asc_len hl1]
        have : i < 1000000 := by omega
        exact Nat.lt_of_le_of_lt kl (Nat.lt_trans this (by decide))
      · rw [k2, mem, tk1]
        constructor
        · rintro (⟨z', h, e⟩ | e)
          · exact ⟨z', List.mem_append_left _ h, e⟩
          · exact ⟨z, List.mem_append_right _ List.mem_cons_self, e.symm⟩
        · rintro ⟨z', h, e⟩
          rcases List.mem_append.mp h with h | h
          · exact .inl ⟨z', h, e⟩
          · rw [List.mem_singleton.mp h] at e
            exact .inr e.symm
  · have e : i = ns.length := by omega
    subst e
    rw [List.take_length] at mem
    exact .inl ⟨⟨_, hs', by rw [hlen]; exact Nat.le_refl _⟩, fin H' D0 ks us s1 hD T1 mem⟩
end Tw

/-! All but instances stands. -/
namespace Tw
open PySem L2
def Tr (H H' : Hp) : Prop := ∀ b o, H b = some o → (∀ C dx fs, o ≠ .ins C dx fs) → H' b = some o
section
variable {K : PySem.W.Frag} {H H' : Hp} {a : Addr} {xs : List V}
theorem Tr.keep (e : Tr H H') : Keep H H' := ⟨fun b xs h => e _ _ h (by intro _ _ _ z; cases z), fun b o u h => e _ _ h (by intro _ _ _ z; cases z)⟩
theorem sqT_tr (e : Tr H H') (h : SqT K H a xs) : SqT K H' a xs := keep_sqT e.keep h
theorem sqL_tr (e : Tr H H') (h : SqL K H a xs) : SqL K H' a xs := by
  rcases h with (h | ⟨o, h⟩) | h
  · exact .inl (.inl (e _ _ h (by intro _ _ _ z; cases z)))
  · exact .inl (.inr ⟨o, e _ _ h (by intro _ _ _ z; cases z)⟩)
  · exact .inr h
mutual
theorem dp_tr (e : Tr H H') : ∀ {v : V} {d : PyData}, Dp K H v d → Dp K H' v d
  | _, _, .non => .non
  | _, _, .bl b => .bl b
  | _, _, .int i => .int i
  | _, _, .str x => .str x
  | _, _, .lst s r => .lst (sqL_tr e s) (dpAll_tr e r)
  | _, _, .tup s r => .tup (sqT_tr e s) (dpAll_tr e r)
theorem dpAll_tr (e : Tr H H') : ∀ {vs : List V} {ds : List PyData}, DpAll K H vs ds → DpAll K H' vs ds
  | _, _, .nil => .nil
  | _, _, .cons x r => .cons (dp_tr e x) (dpAll_tr e r)
end
section
variable {α κ : Type} {R : Hp → V → α → Prop} [Stay R] {ys : List α} {ks : List κ}
theorem LsAt.tr (h : LsAt R a ys H) (e : Tr H H') : LsAt R a ys H' := by
  obtain ⟨vs, h1, h2⟩ := h
  exact ⟨vs, e _ _ h1 (by intro _ _ _ z; cases z), h2.keep e.keep⟩
theorem LL.tr {as : List Addr} {yss : List (List α)} (h : LL R as yss H) (e : Tr H H') : LL R as yss H' := ⟨h.len, h.nd, fun i a ys h1 h2 => (h.at_ i a ys h1 h2).tr e⟩
theorem Td.tr [TKey κ] (h : Td R a ks ys H) (e : Tr H H') : Td R a ks ys H' := by
  obtain ⟨vs, h1, h2⟩ := h.h
  exact ⟨⟨vs, e _ _ h1 (by intro _ _ _ z; cases z), h2.keep e.keep⟩, h.len, h.nd⟩
theorem Kd.tr [KKey κ] (h : Kd R a ks ys H) (e : Tr H H') : Kd R a ks ys H' := by
  obtain ⟨vs, h1, h2⟩ := h.h
  exact ⟨⟨vs, e _ _ h1 (by intro _ _ _ z; cases z), h2.keep e.keep⟩, h.len, h.nd⟩
end
theorem LsAt.cat {α : Type} {R : Hp → V → α → Prop} [Stay R] {b : Addr} {ys zs : List α} {Q : VK} (h : LsAt R a ys H) (g : LsAt R b zs H) (hl : ys.length + zs.length ≤ 16777216) (q : ∀ H' p, Same H H' → H p = none → LsAt R p (ys ++ zs) H' → Q (.ref p) H') : rCat (.ref a) (.ref b) H Q := by
  obtain ⟨vs, e1, e2⟩ := h
  obtain ⟨ws, g1, g2⟩ := g
  exact ⟨a, b, vs, ws, rfl, rfl, e1, g1, by rw [e2.len, g2.len]; exact hl, fun p hp => q _ p (same_up hp) hp ⟨_, upd_same, (e2.app g2).keep (keep_of (same_up hp))⟩⟩
theorem Fld.at {x : Addr} {f : Str} {v : V} (h : Fld K H x f v) (e : H' x = H x) : Fld K H' x f v := by
  obtain ⟨C, dx, fs, h1, h2⟩ := h
  exact ⟨C, dx, fs, by rw [e]; exact h1, h2⟩
theorem Mth.at {x C : Addr} {m : Str} (h : Mth H x C m) (e : H' x = H x) : Mth H' x C m := by
  obtain ⟨dx, fs, h1, h2⟩ := h
  exact ⟨dx, fs, by rw [e]; exact h1, h2⟩
/-- the heap without a -/
def minus (H : Hp) (a : Addr) : Hp := fun b => if b = a then none else H b
theorem minus_at {b : Addr} (h : b ≠ a) : minus H a b = H b := by unfold minus; rw [if_neg h]
theorem minus_none : minus H a a = none := by unfold minus; rw [if_pos rfl]
theorem minus_same : Same (minus H a) H := fun b o h => by
  unfold minus at h
  split at h
  · cases h
  · exact h
theorem minus_tr {C dx : Addr} {fs : List (Str × V)} (h : H a = some (.ins C dx fs)) : Tr H (minus H a) := fun b o hb hn => by
  have : b ≠ a := fun e => by
    rw [e, h] at hb
    cases hb
    exact hn _ _ _ rfl
  rw [minus_at this]
  exact hb
end
end Tw

/-! [.. for k, v in d.items() if ..], d with tuples as keys; calls of defs that may raise. -/
namespace Tw
open PySem L2
section
variable {α β κ : Type} [TKey κ] {R : Hp → V → α → Prop} [Stay R] {S : Hp → V → β → Prop} [Stay S] {σ : St} {H : Hp} {Q : VK} {js : List Nat} {g : TG} {td te : TE} {tt : TT} {d : Addr} {W : List κ} {xs : List α} {σw : St}
theorem r_lcIT (f : κ × α → Option β) (hw : wipe σ js = σw) (hd : Td R d W xs H) (hl : ∀ (H : Hp) (Q : VK), Fld K H x0 fn (.ref d) → Q (.ref d) H → td σ H Q) (hf : ∀ H', (∀ b o, b ≠ d → H b = some o → H' b = some o) → Fld K H' x0 fn (.ref d)) (hz : W.length < 16777216)
    (ht : ∀ (i : Nat) (T : Addr) (k : κ) (x : α) (v u : V) H' (QY : V → Hp → Prop) (QN : Hp → Prop), W[i]? = some k → xs[i]? = some x → H' T = some (.tup [v, u]) → KAt H' v k → R H' u x → (∀ b o, b ≠ d → H b = some o → H' b = some o) → (∀ y H5 b, Same H' H5 → f (k, x) = some b → S H5 y b → QY y H5) → (∀ H3, Same H' H3 → f (k, x) = none → QN H3) →
      g (.ref T) σw H' fun σ2 H2 => wipe σ2 js = σw ∧ tt σ2 H2 fun b H3 => if b = true then te σ2 H3 QY else QN H3)
    (fin : ∀ H' D, Same H H' → H D = none → LsAt S D ((W.zip xs).filterMap f) H' → Q (.ref D) H') : tLockE (tLc (iItemsT td) g tt te js) σ H Q := by
  subst hw
  obtain ⟨vs, h1, h2⟩ := hd.h
  have hlv : W.length = vs.length := hd.len.trans h2.len.symm
  have hal : (asc TKey.kf W vs).length = W.length := asc_len hlv
  have hzl : (W.zip xs).length = W.length := by rw [List.length_zip, ← hd.len, Nat.min_self]
  refine ⟨d, .dT (asc TKey.kf W vs), h1, trivial, fun od => ?_⟩
  refine hl _ _ (hf _ fun b o hb h => by rw [upd_ne hb]; exact h) ⟨d, od, _, rfl, upd_same, fun D0 hD0 => ?_⟩
  have nd : D0 ≠ d := fun e => by
    rw [e, upd_same] at hD0
    cases hD0
  have hD : H D0 = none := by
    rw [upd_ne nd] at hD0
    exact hD0
  refine ⟨fun i m H' => m = W.length - i ∧ i ≤ W.length ∧ LcA S (upd H d (.frz od (.dT (asc TKey.kf W vs)))) D0 (((W.zip xs).take i).filterMap f) H', ⟨_, rfl, Nat.zero_le _, same_up hD0, hD0, LsAt.new⟩, ?_⟩
  rintro i m H' ⟨rfl, hi, p⟩
  have s1 := p.1
  have hdd := s1 _ _ (upd_same (H := H) (a := d) (o := .frz od (.dT (asc TKey.kf W vs))))
  by_cases hlt : i < W.length
  · refine .inr ⟨⟨hdd, by rw [hal]; exact hlt⟩, fun H'' => LcA S (upd H d (.frz od (.dT (asc TKey.kf W vs)))) D0 (((W.zip xs).take (i + 1)).filterMap f) H'', fun H'' z => ⟨_, by omega, rfl, hlt, z⟩, fun v H'' y => ?_⟩
    obtain ⟨T, k, u, q, e1, rfl, hT, e2, rfl⟩ := y
    obtain ⟨k', hk', rfl, hu⟩ := asc_at e1
    obtain ⟨x, hx, rx⟩ := h2.getv hu
    have hzi : (W.zip xs)[i]? = some (k', x) := by rw [List.getElem?_zip_eq_some]; exact ⟨hk', hx⟩
    have tk1 : (W.zip xs).take (i + 1) = (W.zip xs).take i ++ [(k', x)] := by rw [List.take_add_one, hzi]; rfl
    have s2 : Same H' (upd H' T (.tup [.ref q, u])) := same_up hT
    have k1 : Keep H (upd H d (.frz od (.dT (asc TKey.kf W vs)))) := keep_dT' h1
    have old : ∀ b o, b ≠ d → H b = some o → upd H' T (.tup [.ref q, u]) b = some o := fun b o hb h => s2 _ _ (s1 _ _ (by rw [upd_ne hb]; exact h))
    have lt : (((W.zip xs).take i).filterMap f).length < 16777216 := by
      refine Nat.lt_of_le_of_lt (List.length_filterMap_le _ _) ?_
      rw [List.length_take, hzl]
      omega
    have p2 := p.same s2
    refine ht i T k' x (.ref q) u _ _ _ hk' hx upd_same ⟨q, rfl, s2 _ _ e2⟩ (Stay.st (k1.trans ((keep_of s1).trans (keep_of s2))) rx) old (fun y H5 b s5 hb hy => ?_) (fun H3 s3 hb => ?_)
    · obtain ⟨acc, z1, z2, z3⟩ := lcA_yes lt p2 s5 hy
      refine ⟨acc, z1, z2, ?_⟩
      rw [tk1, List.filterMap_append, List.filterMap_cons_some hb, List.filterMap_nil]
      exact z3
    · rw [tk1, List.filterMap_append, List.filterMap_cons_none hb, List.filterMap_nil, List.append_nil]
      exact p2.same s3
  · have e : i = W.length := by omega
    subst e
    rw [← hzl, List.take_length] at p
    refine .inl ⟨⟨hdd, by rw [hal]; exact Nat.le_refl _⟩, hdd, ?_⟩
    have s2 : Same H (upd H' d (.dT (asc TKey.kf W vs))) := fun b o hb => by
      by_cases e : b = d
      · subst e
        rw [h1] at hb
        cases hb
        exact upd_same
      · rw [upd_ne e]
        exact s1 _ _ (by rw [upd_ne e]; exact hb)
    refine fin _ D0 s2 hD (p.2.2.fr ⟨fun b xs h => ?_, fun b o u h => ?_⟩ (upd_ne nd))
    · rw [upd_ne (ne_of h hdd (by intro z; cases z))]
      exact h
    · rw [upd_ne (ne_of h hdd (by intro z; injection z with _ z2; cases z2))]
      exact h
end
section
variable {P : Program} {w : World} {K : PySem.W.Frag} {mg : Str → Option Value} {base : Heap} {k : Nat} {x : Str} {ps N : List Str} {sp : Sp} {st : Stmt}
/-- as FunAt.cal, for a def that may raise -/
theorem FunAt.calX (F : FunAt K mg x st) (S : FnScope N ps (defScope st))
    (hb : ∀ (kV doc pm : Value) (an : Option Addr) (cdv ct : Value) (us : List Value), us.length = ps.length → bindArgs (PySem.W.fnOf x x (defArgs st) (defBody st) (defScope st) .none kV doc pm an cdv ct) ⟨us, []⟩ = pure (ps.zip us))
    (len : ∀ vs H Q E, sp vs H Q E → vs.length = ps.length)
    (hbody : ∀ (f : Addr) (cdv : Value) (A : Around) (outer : List Env) (s : Shared) (H : Hp) (vs : List V) (Q : VK) (E : XK), Room k (A.deeper (PyProof.Rows.envOfC x (defScope st) s.heap.objs.size f cdv)) → sp vs H Q E →
      ∃ t, PSs (cxOf (L2.CX P w) P w K mg base N x (defScope st) f cdv A outer s H E) (defBody st) t ∧ t { nx := fun _ H' => Q .non H', rt := Q } (start N vs) H) : Cal P w K mg base (L2.CX P w) (k + 1) x ps sp := by
  obtain ⟨f, fd, F, m⟩ := F.ex
  exact ⟨f, fd, F.okX S len (hbody f), m, F.kp, F.binds hb⟩
/-- what X('..') wants -/
structure RaiseOk (K : PySem.W.Frag) (mg : Str → Option Value) (x : Str) (C : Addr) : Prop where
  g : mg x = some (.ref C)
  q : PySem.W.excIn K C [.type "ValueError", .type "Exception", .type "BaseException", .type "object"] "ValueError.__new__" = true
  k : PySem.W.keepIn K (.ref C) = true
  s : PySem.W.subIn K (.ref C) (.type "BaseException") = some true
  y : PySem.W.typeIn K (.ref C) = some (.type "type")
/-- raise X('..') -/
theorem ps_raise1 {X : Cx} {W : WX} {x m : Str} {C : Addr} {j : Nat} {p p2 pos pos2 : Pos} (hc : X.calm = true) (tk : Takes X W) (R : RaiseOk X.K X.mg x C) (hg : Gl X x) (hdb : (x == ("__debug__" : Str)) = false := by decide) :
    PS X (.Raise (some (.Call (.Name x p) [.Constant (.str m) j p2] [] pos)) none pos2) (fun _ σ H => W (.ref C) none σ H) :=
  ps_raise hc tk (pmk_own PySem.F.excBase_ValueError R.q R.g R.k (raises_own R.s R.y) hg hdb)
end
end Tw

/-! Pairs of states: steps that read the same; dicts by pairs. -/
namespace Tw
open PySem L2
def rowA (p q : Int) (m : Mv) : List JS := if m.s = p ∧ m.r = Str.ofString "" then [⟨m.g, q, m.w, Str.ofString ""⟩] else []
def rowB (q : Int) (m m2 : Mv) : List JS := if m2.s = q ∧ m2.r = m.r then [⟨m.g, m2.g, m.w, m2.w⟩] else []
def rowAB (M : Mc) (p q : Int) (m : Mv) : List JS := rowA p q m ++ if m.s = p ∧ m.r ≠ Str.ofString "" then M.moves.flatMap (rowB q m) else []
def rowC (p q : Int) (m2 : Mv) : List JS := if m2.s = q ∧ m2.r = Str.ofString "" then [⟨p, m2.g, Str.ofString "", m2.w⟩] else []
/-- the steps from two states -/
def jst (M : Mc) (p q : Int) : List JS := M.moves.flatMap (rowAB M p q) ++ M.moves.flatMap (rowC p q)
theorem fm_take {α β : Type} {l : List α} {i : Nat} {x : α} (f : α → List β) (h : l[i]? = some x) : (l.take (i + 1)).flatMap f = (l.take i).flatMap f ++ f x := by
  rw [List.take_add_one, h]
  simp
section
variable {M : Mc} {p q p' q' : Int} {s : JS}
theorem jst_mem : s ∈ jst M p q ↔ (∃ m ∈ M.moves, m.s = p ∧ m.r = emS ∧ s = ⟨m.g, q, m.w, emS⟩) ∨ (∃ m ∈ M.moves, ∃ m2 ∈ M.moves, m.s = p ∧ m.r ≠ emS ∧ m2.s = q ∧ m2.r = m.r ∧ s = ⟨m.g, m2.g, m.w, m2.w⟩) ∨ ∃ m2 ∈ M.moves, m2.s = q ∧ m2.r = emS ∧ s = ⟨p, m2.g, emS, m2.w⟩ := by
  unfold jst
  rw [List.mem_append, List.mem_flatMap, List.mem_flatMap]
  constructor
  · rintro (⟨m, hm, h⟩ | ⟨m2, hm2, h⟩)
    · unfold rowAB rowA at h
      rcases List.mem_append.mp h with h | h
      · split at h
        · rename_i e
          exact .inl ⟨m, hm, e.1, e.2, List.mem_singleton.mp h⟩
        · cases h
      · split at h
        · rename_i e
          obtain ⟨m2, hm2, h⟩ := List.mem_flatMap.mp h
          unfold rowB at h
          split at h
          · rename_i e2
            exact .inr (.inl ⟨m, hm, m2, hm2, e.1, e.2, e2.1, e2.2, List.mem_singleton.mp h⟩)
          · cases h
        · cases h
    · unfold rowC at h
      split at h
      · rename_i e
        exact .inr (.inr ⟨m2, hm2, e.1, e.2, List.mem_singleton.mp h⟩)
      · cases h
  · rintro (⟨m, hm, e1, e2, rfl⟩ | ⟨m, hm, m2, hm2, e1, e2, e3, e4, rfl⟩ | ⟨m2, hm2, e1, e2, rfl⟩)
    · refine .inl ⟨m, hm, ?_⟩
      unfold rowAB rowA
      rw [if_pos ⟨e1, e2⟩]
      exact List.mem_append_left _ List.mem_cons_self
    · refine .inl ⟨m, hm, ?_⟩
      unfold rowAB
      rw [if_pos ⟨e1, e2⟩]
      refine List.mem_append_right _ (List.mem_flatMap.mpr ⟨m2, hm2, ?_⟩)
      unfold rowB
      rw [if_pos ⟨e3, e4⟩]
      exact List.mem_cons_self
    · refine .inr ⟨m2, hm2, ?_⟩
      unfold rowC
      rw [if_pos ⟨e1, e2⟩]
      exact List.mem_cons_self
/-- to come from two states to two states -/
inductive JR (M : Mc) : Int → Int → Int → Int → Prop
  | refl (p q : Int) : JR M p q p q
  | step {p q p' q' : Int} {s : JS} : s ∈ jst M p q → JR M s.p s.q p' q' → JR M p q p' q'
theorem JR.snoc (h : JR M p q p' q') : s ∈ jst M p' q' → JR M p q s.p s.q := by
  induction h with
  | refl p q => exact fun g => .step g (.refl _ _)
  | step a _ ih => exact fun g => .step a (ih g)
theorem jst_spath (h : s ∈ jst M p q) : ∃ mv x y, SPath M ⟨p, q, emS⟩ mv ⟨s.p, s.q, emS⟩ x y := by
  rcases jst_mem.mp h with ⟨m, hm, e1, e2, rfl⟩ | ⟨m, hm, m2, hm2, e1, e2, e3, e4, rfl⟩ | ⟨m2, hm2, e1, e2, rfl⟩
  · obtain ⟨k, hk⟩ := List.getElem?_of_mem hm
    have st := step1 hk q
    rw [e1, e2] at st
    exact ⟨_, _, _, SPath.one st⟩
  · obtain ⟨k, hk⟩ := List.getElem?_of_mem hm
    obtain ⟨j, hj⟩ := List.getElem?_of_mem hm2
    have st := step1 hk q
    have st2 := step2 hj m.g e4
    rw [e1] at st
    rw [e3] at st2
    exact ⟨_, _, _, (SPath.one st).snoc st2⟩
  · obtain ⟨j, hj⟩ := List.getElem?_of_mem hm2
    have st2 := step2 hj p e2
    rw [e1] at st2
    exact ⟨_, _, _, SPath.one st2⟩
theorem jr_spath (h : JR M p q p' q') : ∃ mv x y, SPath M ⟨p, q, emS⟩ mv ⟨p', q', emS⟩ x y := by
  induction h with
  | refl p q => exact ⟨[], [], [], .nil _⟩
  | step a _ ih =>
    obtain ⟨mv, x, y, h1⟩ := jst_spath a
    obtain ⟨mv', x', y', h2⟩ := ih
    exact ⟨_, _, _, h1.app h2⟩
theorem spath_jr : ∀ (n : Nat) {p q : Int} {mv : List (Bool × Nat)} {x y : List Nat}, mv.length ≤ n → SPath M ⟨p, q, emS⟩ mv ⟨p', q', emS⟩ x y → JR M p q p' q'
  | n, p, q, [], x, y, _, h => by
    obtain ⟨e, _, _⟩ := h.nil_inv
    cases e
    exact .refl _ _
  | 0, p, q, a :: mv, x, y, hl, h => by simp at hl
  | n + 1, p, q, a :: mv, x, y, hl, h => by
    obtain ⟨e, x0, y0, st, rfl, h2, _, _⟩ := h.cons_inv
    obtain ⟨eb, ek, et⟩ := e
    rcases st with ⟨h0, _, m, hm, e1, e3⟩ | ⟨h0, m, hm, e1, e2, e3⟩
    · dsimp only at h0 hm e1 e3 h2
      subst e1 e3
      by_cases er : m.r = emS
      · rw [er] at h2
        exact .step (s := ⟨m.g, q, m.w, emS⟩) (jst_mem.mpr (.inl ⟨m, List.mem_of_getElem? hm, rfl, er, rfl⟩)) (spath_jr n (by simpa using hl) h2)
      · cases mv with
        | nil =>
          obtain ⟨e, _, _⟩ := h2.nil_inv
          injection e with _ _ e
          exact absurd e.symm er
        | cons a2 mv2 =>
          obtain ⟨e', x1, y1, st2, rfl, h3, _, _⟩ := h2.cons_inv
          obtain ⟨eb', ek', et'⟩ := e'
          rcases st2 with ⟨_, z, _⟩ | ⟨_, m2, hm2, f1, f2, f3⟩
          · exact absurd z er
          · dsimp only at hm2 f1 f2 f3 h3
            subst f3
            refine .step (s := ⟨m.g, m2.g, m.w, m2.w⟩) (jst_mem.mpr (.inr (.inl ⟨m, List.mem_of_getElem? hm, m2, List.mem_of_getElem? hm2, rfl, er, f1, f2, rfl⟩))) (spath_jr n ?_ h3)
            simp at hl
            omega
    · dsimp only at h0 hm e1 e2 e3 h2
      subst e3
      exact .step (s := ⟨p, m.g, emS, m.w⟩) (jst_mem.mpr (.inr (.inr ⟨m, List.mem_of_getElem? hm, e1, e2, rfl⟩))) (spath_jr n (by simpa using hl) h2)
/-- what stands together, by steps -/
theorem tog_jr (hr : ∀ m ∈ M.moves, m.r.length ≤ 1) : Tog M p q ↔ JR M M.b M.b p q ∧ ∃ p' q', JR M p q p' q' ∧ p' ∈ M.ends ∧ q' ∈ M.ends := by
  rw [tog_iff hr]
  constructor
  · rintro ⟨⟨mv, x, y, h1⟩, mv', ⟨p', q', o'⟩, x', y', h2, l1, l2, l3⟩
    dsimp only at l1 l2 l3
    subst l1
    exact ⟨spath_jr _ (Nat.le_refl _) h1, p', q', spath_jr _ (Nat.le_refl _) h2, l2, l3⟩
  · rintro ⟨h1, p', q', h2, l2, l3⟩
    obtain ⟨mv, x, y, g1⟩ := jr_spath h1
    obtain ⟨mv', x', y', g2⟩ := jr_spath h2
    exact ⟨⟨mv, x, y, g1⟩, mv', _, x', y', g2, rfl, l2, l3⟩
theorem jr_ok (ok : M.Ok) (h : JR M M.b M.b p q) : St? M.n p ∧ St? M.n q := by
  obtain ⟨mv, x, y, g⟩ := jr_spath h
  have := RcS.ok ok ⟨mv, x, y, g⟩
  exact ⟨this.1, this.2.1⟩
/-- few pairs -/
theorem jr_few (ok : M.Ok) {W : List (Int × Int)} (hn : W.Nodup) (h : ∀ k ∈ W, JR M M.b M.b k.1 k.2) : W.length ≤ 10000 := by
  have n2 := ok.n2
  have h2 := nodup_lt 10000 (W.map fun e => e.1.toNat * 100 + e.2.toNat) ?_ (fun c hc => ?_)
  · rw [List.length_map] at h2
    exact h2
  · refine List.pairwise_map.mpr (List.Pairwise.imp_of_mem (fun {a b} ha hb hne e => hne ?_) hn)
    obtain ⟨⟨a1, a2⟩, a3, a4⟩ := jr_ok ok (h a ha)
    obtain ⟨⟨b1, b2⟩, b3, b4⟩ := jr_ok ok (h b hb)
    exact Prod.ext (by omega) (by omega)
  · obtain ⟨e, he, rfl⟩ := List.mem_map.mp hc
    obtain ⟨⟨a1, a2⟩, a3, a4⟩ := jr_ok ok (h e he)
    omega
end
/-! ### pairs as keys -/
instance : TKey (Int × Int) := ⟨fun k => [.inl k.1, .inl k.2], fun a b h => by
  simp at h
  exact Prod.ext h.1 h.2⟩
section
variable {α κ : Type} [TKey κ] {R : Hp → V → α → Prop} {H H' : Hp} {d : Addr} {ks : List κ} {xs : List α} {v : V} {k : κ} {x : α}
theorem Td.mv {S : Hp → V → α → Prop} (h : Td R d ks xs H) (f : ∀ v x, R H v x → S H' v x) (e : H' d = H d) : Td S d ks xs H' := by
  obtain ⟨vs, h1, h2⟩ := h.h
  exact ⟨⟨vs, by rw [e]; exact h1, h2.imp f⟩, h.len, h.nd⟩
theorem Td.put' {u : V} (h : Td R d ks xs H) (hk : KAt H v k) (hn : k ∉ ks) (f : ∀ o H', H' = upd H d o → ∀ v x, R H v x → R H' v x) (hu : R H u x) (hl : ks.length < 16777216) :
    ∃ H', DPut H d v u H' ∧ Td R d (ks ++ [k]) (xs ++ [x]) H' ∧ Keep H H' ∧ ∀ b, b ≠ d → H' b = H b := by
  obtain ⟨vs, h1, h2⟩ := h.h
  obtain ⟨b, rfl, hb⟩ := hk
  have hlv : ks.length = vs.length := h.len.trans h2.len.symm
  have kp : ∀ o, Keep H (upd H d o) := fun o => keep_dT' h1
  refine ⟨_, DPut.t h1 hb (by rw [asc_len hlv]; exact hl), ⟨⟨vs ++ [u], ?_, ?_⟩, by rw [List.length_append, List.length_append, h.len]; rfl, ?_⟩, kp _, fun b hb => upd_ne hb⟩
  · rw [upd_same, asc_snoc hlv, putK_new _ (asc_none TKey.inj hlv hn)]
  · have h3 : Al R H (vs ++ [u]) (xs ++ [x]) := h2.snoc hu
    exact h3.imp fun v x => f _ _ rfl v x
  · exact List.nodup_append.mpr ⟨h.nd, by simp, fun a ha b hb e => by
      rw [List.mem_singleton.mp hb] at e
      exact hn (e ▸ ha)⟩
/-- read, be it locked or not -/
structure TdR (R : Hp → V → α → Prop) (d : Addr) (ks : List κ) (xs : List α) (H : Hp) : Prop where
  h : ∃ vs, Rd H d (.dT (asc TKey.kf ks vs)) ∧ Al R H vs xs
  len : ks.length = xs.length
  nd : ks.Nodup
theorem Td.r (h : Td R d ks xs H) : TdR R d ks xs H := by
  obtain ⟨vs, h1, h2⟩ := h.h
  exact ⟨⟨vs, .inl h1, h2⟩, h.len, h.nd⟩
theorem TdR.in_ (h : TdR R d ks xs H) (hk : KAt H v k) : ∃ o, DGet H d v o ∧ (o.isSome = true ↔ k ∈ ks) := by
  obtain ⟨vs, h1, h2⟩ := h.h
  obtain ⟨b, rfl, hb⟩ := hk
  refine ⟨_, .inr ⟨_, TKey.kf k, b, h1, rfl, hb, rfl⟩, ?_⟩
  rcases asc_val TKey.inj (k := k) h.nd (h.len.trans h2.len.symm) with ⟨e1, e2⟩ | ⟨i, u, e1, e2, e3⟩
  · rw [e2]
    exact ⟨(fun z => by cases z), fun z => absurd z e1⟩
  · rw [e3]
    exact ⟨fun _ => List.mem_of_getElem? e1, fun _ => rfl⟩
theorem TdR.get (h : TdR R d ks xs H) (hk : KAt H v k) {i : Nat} (e : ks[i]? = some k) : ∃ u x, DGet H d v (some u) ∧ xs[i]? = some x ∧ R H u x := by
  obtain ⟨vs, h1, h2⟩ := h.h
  obtain ⟨b, rfl, hb⟩ := hk
  have hi : i < vs.length := by rw [h2.len, ← h.len]; exact (List.getElem?_eq_some_iff.mp e).1
  have hi2 : i < xs.length := by rw [← h2.len]; exact hi
  refine ⟨vs[i], xs[i], ?_, List.getElem?_eq_getElem hi2, h2.at_ i _ _ (List.getElem?_eq_getElem hi) (List.getElem?_eq_getElem hi2)⟩
  rw [← asc_some TKey.inj h.nd e (List.getElem?_eq_getElem hi)]
  exact .inr ⟨_, TKey.kf k, b, h1, rfl, hb, rfl⟩
theorem Td.lenR {Q : VK} (h : Td R d ks xs H) (q : Q (.int (ks.length : Int)) H) : rLenT [.ref d] H Q := by
  obtain ⟨vs, h1, h2⟩ := h.h
  refine ⟨d, _, rfl, h1, ?_⟩
  rw [asc_len (h.len.trans h2.len.symm)]
  exact q
/-- d.pop(k), there -/
theorem Td.pop {Q : VK} (h : Td R d ks xs H) (hk : KAt H v k) (hm : k ∈ ks) (f : ∀ o H', H' = upd H d o → ∀ v x, R H v x → R H' v x)
    (q : ∀ y H' ks' xs', Td R d ks' xs' H' → (∀ j, j ∈ ks' ↔ j ∈ ks ∧ j ≠ k) → (∀ j x, (j, x) ∈ ks'.zip xs' → (j, x) ∈ ks.zip xs) → Keep H H' → (∀ b, b ≠ d → H' b = H b) → Q y H') : rPopT1 (.ref d) [v] H Q := by
  obtain ⟨vs, h1, h2⟩ := h.h
  obtain ⟨b, rfl, hb⟩ := hk
  obtain ⟨i, hi⟩ := List.getElem?_of_mem hm
  have hlv : ks.length = vs.length := h.len.trans h2.len.symm
  have hiv : i < vs.length := by rw [← hlv]; exact (List.getElem?_eq_some_iff.mp hi).1
  have hil : i < ks.length := by rw [hlv]; exact hiv
  have hix : i < xs.length := by rw [← h.len]; exact hil
  refine ⟨d, _, TKey.kf k, b, vs[i], rfl, rfl, h1, hb, asc_some TKey.inj h.nd hi (List.getElem?_eq_getElem hiv), ?_⟩
  have drop : ∀ (ks : List κ) (vs : List V) (i : Nat), ks.Nodup → ks.length = vs.length → ks[i]? = some k → dropK (asc TKey.kf ks vs) (TKey.kf k) = asc TKey.kf (ks.eraseIdx i) (vs.eraseIdx i) := by
    intro ks
    induction ks with
    | nil => intro vs i _ _ h; simp at h
    | cons a ks ih =>
      intro vs i hn hl h
      cases vs with
      | nil => simp at hl
      | cons u vs =>
        have hn' := List.nodup_cons.mp hn
        have one : asc TKey.kf (a :: ks) (u :: vs) = (TKey.kf a, u) :: asc TKey.kf ks vs := rfl
        cases i with
        | zero =>
          simp at h
          subst h
          rw [one]
          unfold dropK
          rw [List.filter_cons_of_neg (by simp)]
          refine List.filter_eq_self.mpr fun kv hkv => ?_
          obtain ⟨j, hj⟩ := List.getElem?_of_mem hkv
          obtain ⟨w, hw, e, _⟩ := asc_at (k := kv.1) (v := kv.2) hj
          refine decide_eq_true fun z => hn'.1 ?_
          rw [e] at z
          rw [← TKey.inj _ _ z]
          exact List.mem_of_getElem? hw
        | succ i =>
          simp at h
          have hne : a ≠ k := fun z => hn'.1 (by rw [z]; exact List.mem_of_getElem? h)
          rw [one]
          unfold dropK
          rw [List.filter_cons_of_pos (by simpa using fun z => hne (TKey.inj _ _ z))]
          have := ih vs i hn'.2 (by simpa using hl) h
          unfold dropK at this
          rw [this]
          rfl
  rw [drop ks vs i h.nd hlv hi]
  have nd' : (ks.eraseIdx i).Nodup := h.nd.sublist (List.eraseIdx_sublist _ _)
  have hx1 : (ks.eraseIdx i).length = (xs.eraseIdx i).length := by rw [List.length_eraseIdx_of_lt hil, List.length_eraseIdx_of_lt hix, h.len]
  have hx2 : (vs.eraseIdx i).length = (xs.eraseIdx i).length := by rw [List.length_eraseIdx_of_lt hiv, List.length_eraseIdx_of_lt hix, h2.len]
  have al : Al R H (vs.eraseIdx i) (xs.eraseIdx i) := ⟨hx2, fun j v x e1 e2 => by
    rw [List.getElem?_eraseIdx] at e1 e2
    split at e1
    · rename_i hj
      rw [if_pos hj] at e2
      exact h2.at_ _ _ _ e1 e2
    · rename_i hj
      rw [if_neg hj] at e2
      exact h2.at_ _ _ _ e1 e2⟩
  refine q _ _ (ks.eraseIdx i) (xs.eraseIdx i) ⟨⟨_, upd_same, al.imp fun v x => f _ _ rfl v x⟩, hx1, nd'⟩ (fun j => ?_) (fun j x hm => ?_) (keep_dT' h1) (fun b hb => upd_ne hb)
  · constructor
    · intro hj
      refine ⟨(List.eraseIdx_sublist _ _).subset hj, fun z => ?_⟩
      subst z
      obtain ⟨c, hc⟩ := List.getElem?_of_mem hj
      rw [List.getElem?_eraseIdx] at hc
      obtain ⟨l2, g2⟩ := List.getElem?_eq_some_iff.mp hi
      split at hc
      · rename_i hlt
        obtain ⟨l1, g1⟩ := List.getElem?_eq_some_iff.mp hc
        have := (List.getElem_inj h.nd).mp (g1.trans g2.symm)
        omega
      · rename_i hlt
        obtain ⟨l1, g1⟩ := List.getElem?_eq_some_iff.mp hc
        have := (List.getElem_inj h.nd).mp (g1.trans g2.symm)
        omega
    · rintro ⟨hj, hne⟩
      obtain ⟨c, hc⟩ := List.getElem?_of_mem hj
      rcases Nat.lt_trichotomy c i with hlt | rfl | hgt
      · refine List.mem_of_getElem? (i := c) ?_
        rw [List.getElem?_eraseIdx, if_pos hlt]
        exact hc
      · rw [hi] at hc
        cases hc
        exact absurd rfl hne
      · refine List.mem_of_getElem? (i := c - 1) ?_
        rw [List.getElem?_eraseIdx, if_neg (by omega)]
        rw [show c - 1 + 1 = c by omega]
        exact hc
  · obtain ⟨c, hc⟩ := List.getElem?_of_mem hm
    rw [List.getElem?_zip_eq_some, List.getElem?_eraseIdx, List.getElem?_eraseIdx] at hc
    by_cases hlt : c < i
    · rw [if_pos hlt, if_pos hlt] at hc
      exact List.mem_of_getElem? (i := c) (by rw [List.getElem?_zip_eq_some]; exact hc)
    · rw [if_neg hlt, if_neg hlt] at hc
      exact List.mem_of_getElem? (i := c + 1) (by rw [List.getElem?_zip_eq_some]; exact hc)
end
section
variable {α β κ : Type} [TKey κ] {R : Hp → V → α → Prop} {S : Hp → V → β → Prop} [Stay S] {σ : St} {H : Hp} {Q : VK} {D : Ends} {js : List Nat} {g : TG} {tb : TS} {te : TE} {tt : TT} {d : Addr} {W : List κ} {xs : List α} {σw : St} {c : Nat}
/-- for k in d: d locked meanwhile -/
theorem r_forKT {vs : List V} (hv : σ[c]? = some (some (.ref d))) (hd : H d = some (.dT (asc TKey.kf W vs))) (hl : W.length = vs.length)
    (main : ∀ od, ∃ Pv : Nat → St → Hp → Prop, Pv 0 σ (upd H d (.frz od (.dT (asc TKey.kf W vs)))) ∧ (∀ i σ' H', Pv i σ' H' → H' d = some (.frz od (.dT (asc TKey.kf W vs)))) ∧
      (∀ i k v σ' H', W[i]? = some k → KAt H' v k → Pv i σ' H' → g v σ' H' fun σ2 H2 => tb ⟨Pv (i + 1), fun v H' => H' d = some (.frz od (.dT (asc TKey.kf W vs))) ∧ D.rt v (upd H' d (.dT (asc TKey.kf W vs))), fun σ' H' => H' d = some (.frz od (.dT (asc TKey.kf W vs))) ∧ D.nx σ' (upd H' d (.dT (asc TKey.kf W vs))), Pv (i + 1)⟩ σ2 H2) ∧
      ∀ σ' H', Pv W.length σ' H' → D.nx σ' (upd H' d (.dT (asc TKey.kf W vs)))) : tLock (tFor (iKeys (tVar c)) g tb) D σ H := by
  have hal : (asc TKey.kf W vs).length = W.length := asc_len hl
  refine ⟨d, .dT (asc TKey.kf W vs), hd, trivial, fun od => ?_⟩
  obtain ⟨Pv, p0, p1, p2, p3⟩ := main od
  refine ⟨_, hv, d, od, rfl, .inr ⟨_, upd_same, fun i m σ' H' => m = W.length - i ∧ i ≤ W.length ∧ Pv i σ' H', ⟨_, rfl, Nat.zero_le _, p0⟩, ?_⟩⟩
  rintro i m σ' H' ⟨rfl, hi, p⟩
  by_cases hlt : i < W.length
  · refine .inr ⟨⟨p1 _ _ _ p, by rw [hal]; exact hlt⟩, Pv (i + 1), fun σ'' H'' z => ⟨_, by omega, rfl, hlt, z⟩, fun x H'' y => ?_⟩
    obtain ⟨rfl, k, v, q, e1, rfl, e2⟩ := y
    obtain ⟨k', hk', rfl, _⟩ := asc_at e1
    exact p2 i k' _ σ' H'' hk' ⟨q, rfl, e2⟩ p
  · have e : i = W.length := by omega
    subst e
    exact .inl ⟨⟨p1 _ _ _ p, by rw [hal]; exact Nat.le_refl _⟩, p1 _ _ _ p, p3 _ _ p⟩
/-- [.. for k in d if ..] -/
theorem r_lcKT (f : κ → Option β) (hw : wipe σ js = σw) (hv : σ[c]? = some (some (.ref d))) (hd : Td R d W xs H) (hz : W.length < 16777216)
    (ht : ∀ (i : Nat) (k : κ) (v : V) H' (QY : V → Hp → Prop) (QN : Hp → Prop), W[i]? = some k → KAt H' v k → (∀ b o, b ≠ d → H b = some o → H' b = some o) → (∀ y H5 b, Same H' H5 → f k = some b → S H5 y b → QY y H5) → (∀ H3, Same H' H3 → f k = none → QN H3) →
      g v σw H' fun σ2 H2 => wipe σ2 js = σw ∧ tt σ2 H2 fun b H3 => if b = true then te σ2 H3 QY else QN H3)
    (fin : ∀ H' D, Same H H' → H D = none → LsAt S D (W.filterMap f) H' → Q (.ref D) H') : tLockE (tLc (iKeys (tVar c)) g tt te js) σ H Q := by
  subst hw
  obtain ⟨vs, h1, h2⟩ := hd.h
  have hlv : W.length = vs.length := hd.len.trans h2.len.symm
  have hal : (asc TKey.kf W vs).length = W.length := asc_len hlv
  refine ⟨d, .dT (asc TKey.kf W vs), h1, trivial, fun od => ?_⟩
  refine ⟨_, hv, d, od, rfl, .inr ⟨_, upd_same, fun D0 hD0 => ?_⟩⟩
  have nd : D0 ≠ d := fun e => by
    rw [e, upd_same] at hD0
    cases hD0
  have hD : H D0 = none := by
    rw [upd_ne nd] at hD0
    exact hD0
  refine ⟨fun i m H' => m = W.length - i ∧ i ≤ W.length ∧ LcA S (upd H d (.frz od (.dT (asc TKey.kf W vs)))) D0 ((W.take i).filterMap f) H', ⟨_, rfl, Nat.zero_le _, same_up hD0, hD0, LsAt.new⟩, ?_⟩
  rintro i m H' ⟨rfl, hi, p⟩
  have s1 := p.1
  have hdd := s1 _ _ (upd_same (H := H) (a := d) (o := .frz od (.dT (asc TKey.kf W vs))))
  by_cases hlt : i < W.length
  · refine .inr ⟨⟨hdd, by rw [hal]; exact hlt⟩, fun H'' => LcA S (upd H d (.frz od (.dT (asc TKey.kf W vs)))) D0 ((W.take (i + 1)).filterMap f) H'', fun H'' z => ⟨_, by omega, rfl, hlt, z⟩, fun v H'' y => ?_⟩
    obtain ⟨rfl, k, u, q, e1, rfl, e2⟩ := y
    obtain ⟨k', hk', rfl, hu⟩ := asc_at e1
    have tk1 : W.take (i + 1) = W.take i ++ [k'] := by rw [List.take_add_one, hk']; rfl
    have old : ∀ b o, b ≠ d → H b = some o → H'' b = some o := fun b o hb h => s1 _ _ (by rw [upd_ne hb]; exact h)
    have lt : ((W.take i).filterMap f).length < 16777216 := by
      refine Nat.lt_of_le_of_lt (List.length_filterMap_le _ _) ?_
      rw [List.length_take]
      omega
    refine ht i k' (.ref q) H'' _ _ hk' ⟨q, rfl, e2⟩ old (fun y H5 b s5 hb hy => ?_) (fun H3 s3 hb => ?_)
    · obtain ⟨acc, z1, z2, z3⟩ := lcA_yes lt p s5 hy
      refine ⟨acc, z1, z2, ?_⟩
      rw [tk1, List.filterMap_append, List.filterMap_cons_some hb, List.filterMap_nil]
      exact z3
    · rw [tk1, List.filterMap_append, List.filterMap_cons_none hb, List.filterMap_nil, List.append_nil]
      exact p.same s3
  · have e : i = W.length := by omega
    subst e
    rw [List.take_length] at p
    refine .inl ⟨⟨hdd, by rw [hal]; exact Nat.le_refl _⟩, hdd, ?_⟩
    have s2 : Same H (upd H' d (.dT (asc TKey.kf W vs))) := fun b o hb => by
      by_cases e : b = d
      · subst e
        rw [h1] at hb
        cases hb
        exact upd_same
      · rw [upd_ne e]
        exact s1 _ _ (by rw [upd_ne e]; exact hb)
    refine fin _ D0 s2 hD (p.2.2.fr ⟨fun b xs h => ?_, fun b o u h => ?_⟩ (upd_ne nd))
    · rw [upd_ne (ne_of h hdd (by intro z; cases z))]
      exact h
    · rw [upd_ne (ne_of h hdd (by intro z; injection z with _ z2; cases z2))]
      exact h
end
/-! ### sorted pairs -/
section
open PySem.Spec PyProof.Rows
def prD (k : Int × Int) : PyData := .tuple [.int k.1, .int k.2]
theorem pr_alike (W : List (Int × Int)) : PySem.W.AllAlike (W.map prD) := by
  intro d hd d' hd'
  obtain ⟨a, _, rfl⟩ := List.mem_map.mp hd
  obtain ⟨b, _, rfl⟩ := List.mem_map.mp hd'
  simp [prD, PySem.W.alike, PySem.W.alikeAll]
theorem pr_sortable (W : List (Int × Int)) : PySem.W.Sortable (W.map prD) := .inl fun d hd => by
  obtain ⟨a, _, rfl⟩ := List.mem_map.mp hd
  exact ⟨_, _, rfl⟩
theorem pr_depth (s : Int × Int) : (prD s).depth ≤ 8 := by
  simp [prD, PyData.depth, PyData.depthAll]
theorem pr_le {a b : Int × Int} (h : PySem.W.dataLe false prD a b = true) : a.1 < b.1 ∨ (a.1 = b.1 ∧ a.2 ≤ b.2) := by
  unfold PySem.W.dataLe PySem.W.sortLe at h
  simp only [cond_false, Bool.not_eq_true'] at h
  have e : ∀ s : Int × Int, PySem.W.keyToks (prD s) = [.inl 1, .inl s.1, .inl 1, .inl s.2, .inl 0] := fun s => by simp [prD, PySem.W.keyToks, PySem.W.keyToksAll]
  rw [e a, e b] at h
  have h1 : (decide ((1 : Int) < 1) || (!decide ((1 : Int) < 1) && (decide (b.1 < a.1) || (!decide (a.1 < b.1) && (decide ((1 : Int) < 1) || (!decide ((1 : Int) < 1) && (decide (b.2 < a.2) || (!decide (a.2 < b.2) &&
    lexLt itemOrd [.inl 0] [.inl 0])))))))) = false := h
  by_cases z1 : b.1 < a.1
  · simp [z1] at h1
  · by_cases z2 : a.1 < b.1
    · exact .inl z2
    · by_cases z3 : b.2 < a.2
      · simp [z1, z2, z3] at h1
      · exact .inr ⟨by omega, by omega⟩
/-- two strictly rising lists with the same items are one -/
theorem rising_one : ∀ {a b : List (Int × Int)}, a.Pairwise (fun x y => x.1 < y.1 ∨ (x.1 = y.1 ∧ x.2 < y.2)) → b.Pairwise (fun x y => x.1 < y.1 ∨ (x.1 = y.1 ∧ x.2 < y.2)) → (∀ x, x ∈ a ↔ x ∈ b) → a = b
  | [], [], _, _, _ => rfl
  | [], y :: b, _, _, h => by
    have := (h y).mpr List.mem_cons_self
    cases this
  | x :: a, [], _, _, h => by
    have := (h x).mp List.mem_cons_self
    cases this
  | x :: a, y :: b, ha, hb, h => by
    obtain ⟨ha1, ha2⟩ := List.pairwise_cons.mp ha
    obtain ⟨hb1, hb2⟩ := List.pairwise_cons.mp hb
    have exy : x = y := by
      rcases List.mem_cons.mp ((h x).mp List.mem_cons_self) with e | e
      · exact e
      · rcases List.mem_cons.mp ((h y).mpr List.mem_cons_self) with e2 | e2
        · exact e2.symm
        · have z1 := hb1 x e
          have z2 := ha1 y e2
          omega
    subst exy
    have irr : ∀ {l : List (Int × Int)}, (∀ z ∈ l, x.1 < z.1 ∨ (x.1 = z.1 ∧ x.2 < z.2)) → x ∉ l := fun hl hm => by
      have := hl x hm
      omega
    rw [rising_one ha2 hb2 fun z => ⟨fun hz => by
      rcases List.mem_cons.mp ((h z).mp (List.mem_cons_of_mem _ hz)) with e | e
      · subst e
        exact absurd hz (irr ha1)
      · exact e, fun hz => by
      rcases List.mem_cons.mp ((h z).mpr (List.mem_cons_of_mem _ hz)) with e | e
      · subst e
        exact absurd hz (irr hb1)
      · exact e⟩]
theorem pr_sorted {W : List (Int × Int)} (hn : W.Nodup) : (W.mergeSort (PySem.W.dataLe false prD)).Pairwise fun a b => a.1 < b.1 ∨ (a.1 = b.1 ∧ a.2 < b.2) := by
  have T := PySem.W.sortLe_total (listOrd itemOrd) false fun b : Int × Int => PySem.W.keyToks (prD b)
  have h1 : (W.mergeSort (PySem.W.dataLe false prD)).Pairwise fun a b => PySem.W.dataLe false prD a b = true := List.pairwise_mergeSort (fun a b c => T.trans a b c) (fun a b => by
    have := T.total a b
    rw [Bool.or_eq_true]
    exact this) W
  have h2 : (W.mergeSort (PySem.W.dataLe false prD)).Nodup := (List.mergeSort_perm W _).nodup_iff.mpr hn
  refine (h1.and h2).imp fun {a b} h => ?_
  rcases pr_le h.1 with z | ⟨z1, z2⟩
  · exact .inl z
  · refine .inr ⟨z1, ?_⟩
    have : ¬ a.2 = b.2 := fun e => h.2 (Prod.ext z1 e)
    omega
/-- the keys in rising order are the rows' pairs -/
theorem rows_keys {M : Mc} {rows : List JS} {W : List (Int × Int)} (ah : AheadOk M rows) (hn : W.Nodup) (h : ∀ k, k ∈ W ↔ Tog M k.1 k.2) : rows.map (fun e => (e.p, e.q)) = W.mergeSort (PySem.W.dataLe false prD) := by
  refine rising_one (List.pairwise_map.mpr (ah.srt.imp fun {a b} z => z)) (pr_sorted hn) fun x => ?_
  rw [(List.mergeSort_perm W _).mem_iff, h, ← ah.mem]
  constructor
  · intro hx
    obtain ⟨e, he, rfl⟩ := List.mem_map.mp hx
    exact ⟨e, he, rfl, rfl⟩
  · rintro ⟨e, he, h1, h2⟩
    exact List.mem_map.mpr ⟨e, he, Prod.ext h1 h2⟩
end
end Tw

/-! More of dicts by pairs. -/
namespace Tw
open PySem L2
section
variable {H H' : Hp} {d : Addr} {v : V} {κ : Type} [TKey κ] {ks : List κ} {us : List Unit} {k : κ}
/-- d[k] = v, of any old or new key -/
theorem Td.any (h : Td RAny d ks us H) (hk : KAt H v k) (u : V) (hl : ks.length < 16777216) :
    ∃ H' ks' us', DPut H d v u H' ∧ Td RAny d ks' us' H' ∧ ks <+: ks' ∧ (∀ j, j ∈ ks' ↔ j ∈ ks ∨ j = k) ∧ Keep H H' ∧ (∀ b, b ≠ d → H' b = H b) ∧ (k ∈ ks → ks' = ks) := by
  obtain ⟨vs, h1, h2⟩ := h.h
  obtain ⟨b, rfl, hb⟩ := hk
  have hlv : ks.length = vs.length := h.len.trans h2.len.symm
  have put := DPut.t (v := u) h1 hb (by rw [asc_len hlv]; exact hl)
  rcases asc_val (vs := vs) (TKey.inj (κ := κ)) (k := k) h.nd hlv with ⟨a1, a2⟩ | ⟨i, w, a1, a2, a3⟩
  · refine ⟨_, ks ++ [k], us ++ [()], put, ⟨⟨vs ++ [u], ?_, ?_⟩, by rw [List.length_append, List.length_append, h.len]; rfl, ?_⟩, List.prefix_append _ _, fun j => by rw [List.mem_append, List.mem_singleton], keep_dT' h1, fun b hb => upd_ne hb, fun z => absurd z a1⟩
    · rw [upd_same, putK_new _ a2, asc_snoc hlv]
    · exact (h2.snoc (v := u) (x := ()) trivial).imp (fun _ _ _ => trivial)
    · exact List.nodup_append.mpr ⟨h.nd, by simp, fun a ha b hb e => by
        rw [List.mem_singleton.mp hb] at e
        exact a1 (e ▸ ha)⟩
  · have hm := List.mem_of_getElem? a1
    obtain ⟨ws, w1, w2⟩ := putK_old (kf := TKey.kf) (v := u) (ks := ks) (vs := vs) (k := k)
    refine ⟨_, ks, us, put, ⟨⟨ws, ?_, ⟨by rw [w2]; exact h2.len, fun _ _ _ _ _ => trivial⟩⟩, h.len, h.nd⟩, List.prefix_refl _, fun j => ⟨.inl, fun z => z.elim id (fun e => e ▸ hm)⟩, keep_dT' h1, fun b hb => upd_ne hb, fun _ => rfl⟩
    rw [upd_same, ← w1]
    congr 2
    unfold putK
    rw [if_pos]
    rw [valV_any, a3]
    rfl
/-- dict(pairs), all keys unlike -/
theorem merge_asc {v : V} : ∀ (more ks : List κ) (vs : List V), ks.length = vs.length → (ks ++ more).Nodup → mergeT (asc TKey.kf ks vs) (more.map fun k => (TKey.kf k, v)) = asc TKey.kf (ks ++ more) (vs ++ more.map fun _ => v)
  | [], ks, vs, hl, _ => by simp [mergeT]
  | k :: more, ks, vs, hl, hn => by
    have hk : k ∉ ks := fun z => by
      have := (List.nodup_append.mp hn).2.2 k z k List.mem_cons_self
      exact this rfl
    show mergeT (putK (asc TKey.kf ks vs) (TKey.kf k) v) (more.map fun k => (TKey.kf k, v)) = _
    rw [putK_new _ (asc_none TKey.inj hl hk), ← asc_snoc hl, merge_asc more (ks ++ [k]) (vs ++ [v]) (by simp [hl]) (by rw [List.append_assoc]; exact hn)]
    simp
end
/-- few pairs of few states -/
theorem jr_few4 {M : Mc} (ok : M.Ok) (n4 : M.n ≤ 4) {W : List (Int × Int)} (hn : W.Nodup) (h : ∀ k ∈ W, JR M M.b M.b k.1 k.2) : W.length ≤ 16 := by
  have h2 := nodup_lt 16 (W.map fun e => e.1.toNat * 4 + e.2.toNat) ?_ (fun c hc => ?_)
  · rw [List.length_map] at h2
    exact h2
  · refine List.pairwise_map.mpr (List.Pairwise.imp_of_mem (fun {a b} ha hb hne e => hne ?_) hn)
    obtain ⟨⟨a1, a2⟩, a3, a4⟩ := jr_ok ok (h a ha)
    obtain ⟨⟨b1, b2⟩, b3, b4⟩ := jr_ok ok (h b hb)
    exact Prod.ext (by omega) (by omega)
  · obtain ⟨e, he, rfl⟩ := List.mem_map.mp hc
    obtain ⟨⟨a1, a2⟩, a3, a4⟩ := jr_ok ok (h e he)
    omega
theorem pr_canLay : ∀ l : List (Int × Int), PyData.canLayAll0 (l.map prD) = true ∧ PyData.depthAll (l.map prD) ≤ 1
  | [] => by simp [PyData.canLayAll0, PyData.depthAll]
  | m :: ms => by
    have ih := pr_canLay ms
    constructor
    · simp [prD, PyData.canLayAll0, PyData.canLay0, ih.1]
    · have h2 := ih.2
      simp [prD, PyData.depthAll, PyData.depth] at h2 ⊢
      try omega
section
variable {K : PySem.W.Frag} {H H' : Hp} {a d : Addr} {xs : List V} {kvs : List (List Key × V)}
theorem sqT_old (old : ∀ b o, b ≠ d → H b = some o → H' b = some o) (hd : H d = some (.dT kvs)) (h : SqT K H a xs) : SqT K H' a xs := by
  rcases h with (h | ⟨o, h⟩) | h
  · exact .inl (.inl (old _ _ (fun e => by rw [e, hd] at h; cases h) h))
  · exact .inl (.inr ⟨o, old _ _ (fun e => by rw [e, hd] at h; cases h) h⟩)
  · exact .inr h
theorem sqL_old (old : ∀ b o, b ≠ d → H b = some o → H' b = some o) (hd : H d = some (.dT kvs)) (h : SqL K H a xs) : SqL K H' a xs := by
  rcases h with (h | ⟨o, h⟩) | h
  · exact .inl (.inl (old _ _ (fun e => by rw [e, hd] at h; cases h) h))
  · exact .inl (.inr ⟨o, old _ _ (fun e => by rw [e, hd] at h; cases h) h⟩)
  · exact .inr h
theorem keep_unlock {od : Obj} {o : HO} (hd : H d = some (.frz od (.dT kvs))) : Keep H (upd H d o) :=
  ⟨fun b xs h => by rw [upd_ne (ne_of h hd (by intro z; cases z))]; exact h, fun b o u h => by rw [upd_ne (ne_of h hd (by intro z; injection z with _ z2; cases z2))]; exact h⟩
theorem keep_old2 {c : Addr} {kvs' : List (List Key × V)} (old : ∀ b o, b ≠ c → b ≠ d → H b = some o → H' b = some o) (hc : H c = some (.dT kvs')) (hd : H d = some (.dT kvs)) : Keep H H' :=
  ⟨fun b xs h => old _ _ (fun e => by rw [e, hc] at h; cases h) (fun e => by rw [e, hd] at h; cases h) h, fun b o u h => old _ _ (fun e => by rw [e, hc] at h; cases h) (fun e => by rw [e, hd] at h; cases h) h⟩
theorem keep_old (old : ∀ b o, b ≠ d → H b = some o → H' b = some o) (hd : H d = some (.dT kvs)) : Keep H H' :=
  ⟨fun b xs h => old _ _ (fun e => by rw [e, hd] at h; cases h) h, fun b o u h => old _ _ (fun e => by rw [e, hd] at h; cases h) h⟩
end
theorem kat_dp {K : PySem.W.Frag} {H : Hp} {v : V} {k : Int × Int} (h : KAt H v k) : Dp K H v (prD k) := by
  obtain ⟨b, rfl, hb⟩ := h
  exact .tup (SqT.of hb) (.cons (.int _) (.cons (.int _) .nil))
/-- all of W, if as many -/
theorem full_of {α : Type} [DecidableEq α] {G W : List α} (hG : G.Nodup) (sub : ∀ k ∈ G, k ∈ W) (hl : W.length ≤ G.length) : ∀ k ∈ W, k ∈ G := by
  intro k hk
  by_cases h : k ∈ G
  · exact h
  · have : ∀ (G W : List α), G.Nodup → (∀ x ∈ G, x ∈ W) → G.length ≤ W.length := by
      intro G
      induction G with
      | nil => intro W _ _; exact Nat.zero_le _
      | cons a G ih =>
        intro W hn hs
        obtain ⟨h1, h2⟩ := List.nodup_cons.mp hn
        have ha := hs a List.mem_cons_self
        have := ih (W.erase a) h2 fun x hx => (List.mem_erase_of_ne (fun e => h1 (by rw [← e]; exact hx))).mpr (hs x (List.mem_cons_of_mem _ hx))
        rw [List.length_erase_of_mem ha] at this
        have hp := List.length_pos_of_mem ha
        simp only [List.length_cons]
        omega
    have := this (k :: G) W (List.nodup_cons.mpr ⟨h, hG⟩) fun x hx => by
      rcases List.mem_cons.mp hx with rfl | hx
      · exact hk
      · exact sub x hx
    simp only [List.length_cons] at this
    omega
end Tw

/-! A machine of two roads. -/
namespace Tw
open PySem L2
/-- two roads: signs of a text; what the one and the other writes; how much later; whether the states run down -/
structure Two where
  n : Nat
  late : Nat
  txt : List Str
  wr : List Str
  ot : List Str
  down : Bool
structure Two.Ok (D : Two) : Prop where
  n1 : 1 ≤ D.n
  n2 : D.n ≤ 40
  l1 : D.late ≤ D.n
  l2 : D.late ≤ 9
  lt : D.txt.length = D.n
  lw : D.wr.length = D.n
  lo : D.ot.length = D.n
  t1 : ∀ x ∈ D.txt, x.length = 1 ∧ PyData.strOk x = true
  w1 : ∀ x ∈ D.wr, x.length = 1 ∧ PyData.strOk x = true
  o1 : ∀ x ∈ D.ot, x.length = 1 ∧ PyData.strOk x = true
namespace Two
variable (D : Two)
def N : Nat := 1 + 2 * D.n + D.late
def f (s : Nat) : Int := if D.down = true then (D.N : Int) - 1 - s else s
def L (A : Bool) : Nat := if A = true then D.n + D.late else D.n
def base (A : Bool) : Nat := if A = true then D.n else 0
def s (A : Bool) (k : Nat) : Nat := if A = true then (if k = 0 then 0 else D.n + k) else k
def st (A : Bool) (k : Nat) : Int := D.f (D.s A k)
def a (k : Nat) : Str := D.txt.getD k emS
def row : List Str := List.replicate D.late emS ++ D.ot
def b (A : Bool) (k : Nat) : Str := if A = true then D.row.getD k emS else D.wr.getD k emS
def mv (A : Bool) (k : Nat) : Mv := ⟨D.st A k, D.a k, D.b A k, D.st A (k + 1)⟩
def M : Mc := ⟨(D.N : Int), D.st false 0, [D.st false D.n, D.st true (D.n + D.late)], (List.range (D.L false)).map (D.mv false) ++ (List.range (D.L true)).map (D.mv true)⟩
end Two
/-- what is read or written along a road -/
def Fl (g : Nat → Str) (i c : Nat) : List Nat := ((List.range' i c).map fun k => tl (g k)).flatten
theorem Fl.zero (g : Nat → Str) (i : Nat) : Fl g i 0 = [] := rfl
theorem Fl.succ (g : Nat → Str) (i c : Nat) : Fl g i (c + 1) = tl (g i) ++ Fl g (i + 1) c := by
  unfold Fl
  rw [List.range'_succ, List.map_cons, List.flatten_cons]
theorem Fl.add (g : Nat → Str) : ∀ (c i d : Nat), Fl g i (c + d) = Fl g i c ++ Fl g (i + c) d
  | 0, i, d => by rw [Nat.zero_add, Fl.zero, List.nil_append, Nat.add_zero]
  | c + 1, i, d => by
    rw [show c + 1 + d = (c + d) + 1 by omega, Fl.succ, Fl.succ, Fl.add g c (i + 1) d, List.append_assoc, show i + 1 + c = i + (c + 1) by omega]
section
variable {D : Two}
theorem Two.f_inj {x y : Nat} (h : D.f x = D.f y) : x = y := by
  unfold Two.f at h
  split at h <;> omega
theorem Two.st_inj (ok : D.Ok) {A B : Bool} {i j : Nat} (hi : i ≤ D.L A) (hj : j ≤ D.L B) (h : D.st A i = D.st B j) : (i = 0 ∧ j = 0) ∨ (A = B ∧ i = j) := by
  have e := Two.f_inj h
  unfold Two.s at e
  unfold Two.L at hi hj
  cases A <;> cases B <;> simp at e hi hj ⊢ <;> (repeat' split at e) <;> omega
theorem Two.mv_at (A : Bool) {k : Nat} (hk : k < D.L A) : D.M.moves[D.base A + k]? = some (D.mv A k) := by
  show ((List.range (D.L false)).map (D.mv false) ++ (List.range (D.L true)).map (D.mv true))[D.base A + k]? = _
  cases A with
  | false =>
    have : D.base false = 0 := rfl
    rw [this, Nat.zero_add, List.getElem?_append_left (by rw [List.length_map, List.length_range]; exact hk), List.getElem?_map, List.getElem?_range hk]
    rfl
  | true =>
    have e1 : D.base true = D.n := rfl
    have e2 : D.L false = D.n := rfl
    rw [e1, List.getElem?_append_right (by rw [List.length_map, List.length_range, e2]; omega), List.length_map, List.length_range, e2, Nat.add_sub_cancel_left, List.getElem?_map, List.getElem?_range hk]
    rfl
theorem Two.mv_of {k : Nat} {m : Mv} (h : D.M.moves[k]? = some m) : ∃ A i, i < D.L A ∧ k = D.base A + i ∧ m = D.mv A i := by
  have h' : ((List.range (D.L false)).map (D.mv false) ++ (List.range (D.L true)).map (D.mv true))[k]? = some m := h
  have e2 : D.L false = D.n := rfl
  by_cases hk : k < D.n
  · rw [List.getElem?_append_left (by rw [List.length_map, List.length_range, e2]; exact hk), List.getElem?_map, List.getElem?_range (by rw [e2]; exact hk)] at h'
    cases h'
    exact ⟨false, k, by rw [e2]; exact hk, (Nat.zero_add _).symm, rfl⟩
  · rw [List.getElem?_append_right (by rw [List.length_map, List.length_range, e2]; omega), List.length_map, List.length_range, e2, List.getElem?_map] at h'
    by_cases hl : k - D.n < D.L true
    · rw [List.getElem?_range hl] at h'
      cases h'
      exact ⟨true, k - D.n, hl, (by show k = D.n + (k - D.n); omega), rfl⟩
    · rw [List.getElem?_eq_none (by rw [List.length_range]; omega)] at h'
      cases h'
/-- along a road -/
theorem Two.road (A : Bool) : ∀ (c i : Nat), i + c ≤ D.L A → Path D.M (D.st A i) ((List.range' i c).map (D.base A + ·)) (D.st A (i + c)) (Fl D.a i c) (Fl (D.b A) i c)
  | 0, i, _ => .nil _
  | c + 1, i, h => by
    have ih := Two.road A c (i + 1) (by omega)
    have hm := Two.mv_at (D := D) A (k := i) (by omega)
    rw [Fl.succ, Fl.succ, List.range'_succ, List.map_cons, show i + (c + 1) = i + 1 + c by omega]
    exact Path.cons (M := D.M) hm ih
/-- nothing else is a way on from the inside of a road -/
theorem Two.on_road (ok : D.Ok) {p t : Int} {ks : List Nat} {r w : List Nat} (h : Path D.M p ks t r w) : ∀ (A : Bool) (i : Nat), p = D.st A i → 1 ≤ i → i ≤ D.L A → ∃ c, i + c ≤ D.L A ∧ ks = (List.range' i c).map (D.base A + ·) ∧ t = D.st A (i + c) ∧ r = Fl D.a i c ∧ w = Fl (D.b A) i c := by
  induction h with
  | nil s => exact fun A i e _ hi => ⟨0, hi, rfl, e, rfl, rfl⟩
  | @cons k m ks t r w hm _ ih =>
    intro A i e h1 hi
    obtain ⟨B, j, hj, rfl, rfl⟩ := Two.mv_of hm
    have e' : D.st B j = D.st A i := e
    rcases Two.st_inj ok (Nat.le_of_lt hj) hi e' with ⟨_, z⟩ | ⟨rfl, rfl⟩
    · omega
    · obtain ⟨c, c1, c2, c3, c4, c5⟩ := ih B (j + 1) rfl (by omega) hj
      refine ⟨c + 1, by omega, ?_, by rw [c3, show j + 1 + c = j + (c + 1) by omega], by rw [Fl.succ, c4]; rfl, by rw [Fl.succ, c5]; rfl⟩
      rw [List.range'_succ, List.map_cons, c2]
/-- nor from the begin -/
theorem Two.from_begin (ok : D.Ok) {t : Int} {ks : List Nat} {r w : List Nat} (h : Path D.M D.M.b ks t r w) : ∃ A c, c ≤ D.L A ∧ ks = (List.range' 0 c).map (D.base A + ·) ∧ t = D.st A c ∧ r = Fl D.a 0 c ∧ w = Fl (D.b A) 0 c := by
  generalize hp : D.M.b = p at h
  cases h with
  | nil s => exact ⟨false, 0, Nat.zero_le _, rfl, hp.symm, rfl, rfl⟩
  | @cons k m ks t r w hm h =>
    obtain ⟨B, j, hj, rfl, rfl⟩ := Two.mv_of hm
    have e' : D.st B j = D.st false 0 := hp.symm
    have j0 : j = 0 := by
      rcases Two.st_inj ok (Nat.le_of_lt hj) (Nat.zero_le _) e' with ⟨z, _⟩ | ⟨_, z⟩ <;> exact z
    subst j0
    obtain ⟨c, c1, c2, c3, c4, c5⟩ := Two.on_road ok h B 1 rfl (Nat.le_refl _) hj
    refine ⟨B, c + 1, by omega, ?_, by rw [c3, Nat.add_comm], by rw [Fl.succ, c4]; rfl, by rw [Fl.succ, c5]; rfl⟩
    rw [List.range'_succ, List.map_cons, c2]
theorem Two.st0 (A : Bool) : D.st A 0 = D.M.b := by
  show D.f (D.s A 0) = D.f (D.s false 0)
  cases A <;> rfl
/-- what is read: as many signs, at most n -/
theorem Two.a_len (ok : D.Ok) (k : Nat) : (tl (D.a k)).length = if k < D.n then 1 else 0 := by
  unfold Two.a
  rw [List.getD_eq_getElem?_getD]
  split
  · rename_i h
    have : k < D.txt.length := by rw [ok.lt]; exact h
    rw [List.getElem?_eq_getElem this, Option.getD_some, tl_len]
    exact (ok.t1 _ (List.getElem_mem this)).1
  · rename_i h
    rw [List.getElem?_eq_none (by rw [ok.lt]; omega)]
    rfl
theorem Two.Fl_len (ok : D.Ok) : ∀ (c i : Nat), (Fl D.a i c).length = min (i + c) D.n - min i D.n
  | 0, i => by rw [Fl.zero]; simp
  | c + 1, i => by
    rw [Fl.succ, List.length_append, Two.a_len ok, Two.Fl_len ok c (i + 1)]
    split <;> omega
theorem Two.Fl_end (ok : D.Ok) (i c : Nat) (h : D.n ≤ i) : Fl D.a i c = [] := List.length_eq_zero_iff.mp (by rw [Two.Fl_len ok]; omega)
theorem Two.Fl_min (ok : D.Ok) (i : Nat) : Fl D.a 0 i = Fl D.a 0 (min i D.n) := by
  rcases Nat.le_total i D.n with h | h
  · rw [Nat.min_eq_left h]
  · rw [Nat.min_eq_right h]
    have := Fl.add D.a D.n 0 (i - D.n)
    rw [Nat.zero_add, Two.Fl_end ok _ _ (Nat.le_refl _), List.append_nil, show D.n + (i - D.n) = i by omega] at this
    exact this
theorem Two.same_read (ok : D.Ok) {i j : Nat} : Fl D.a 0 i = Fl D.a 0 j ↔ min i D.n = min j D.n := by
  constructor
  · intro h
    have := congrArg List.length h
    rw [Two.Fl_len ok, Two.Fl_len ok] at this
    omega
  · intro h
    rw [Two.Fl_min ok i, Two.Fl_min ok j, h]
theorem Two.ends_of (A : Bool) : D.st A (D.L A) ∈ D.M.ends := by
  show D.st A (D.L A) ∈ [D.st false D.n, D.st true (D.n + D.late)]
  cases A with
  | false => exact List.mem_cons_self
  | true => exact List.mem_cons_of_mem _ List.mem_cons_self
theorem Two.end_is (ok : D.Ok) {A : Bool} {c : Nat} (hc : c ≤ D.L A) (h : D.st A c ∈ D.M.ends) : c = D.L A := by
  have h' : D.st A c ∈ [D.st false (D.L false), D.st true (D.L true)] := h
  have n1 := ok.n1
  rcases List.mem_cons.mp h' with h | h
  · rcases Two.st_inj ok hc (Nat.le_refl _) h with ⟨z, z2⟩ | ⟨rfl, z⟩
    · have : D.L false = D.n := rfl
      omega
    · exact z
  · rcases Two.st_inj ok hc (Nat.le_refl _) (List.mem_singleton.mp h) with ⟨z, z2⟩ | ⟨rfl, z⟩
    · have : D.L true = D.n + D.late := rfl
      omega
    · exact z
/-- the ways: the two roads -/
theorem Two.way_is (ok : D.Ok) {ks : List Nat} {r w : List Nat} (h : IsWay D.M ks r w) : ∃ A, ks = (List.range' 0 (D.L A)).map (D.base A + ·) ∧ r = Fl D.a 0 D.n ∧ w = Fl (D.b A) 0 (D.L A) := by
  obtain ⟨t, p, e⟩ := h
  obtain ⟨A, c, c1, c2, rfl, c4, c5⟩ := Two.from_begin ok p
  have := Two.end_is ok c1 e
  subst this
  refine ⟨A, c2, ?_, c5⟩
  rw [c4, Two.same_read ok]
  cases A <;> simp [Two.L]
theorem Two.way_of (ok : D.Ok) (A : Bool) : IsWay D.M ((List.range' 0 (D.L A)).map (D.base A + ·)) (Fl D.a 0 D.n) (Fl (D.b A) 0 (D.L A)) := by
  have p := Two.road (D := D) A (D.L A) 0 (by omega)
  rw [Nat.zero_add, Two.st0] at p
  have e : Fl D.a 0 (D.L A) = Fl D.a 0 D.n := (Two.same_read ok).mpr (by cases A <;> simp [Two.L])
  rw [e] at p
  exact ⟨_, p, Two.ends_of A⟩
/-- what stands together -/
theorem Two.tog (ok : D.Ok) {p q : Int} : Tog D.M p q ↔ ∃ A i B j, i ≤ D.L A ∧ j ≤ D.L B ∧ min i D.n = min j D.n ∧ p = D.st A i ∧ q = D.st B j := by
  constructor
  · rintro ⟨⟨x, y, ks, js, m, P1, P2⟩, _⟩
    have P1' := P1.turn
    rw [Mc.turn_turn] at P1'
    obtain ⟨A, i, i1, _, i3, i4, _⟩ := Two.from_begin ok (show Path D.M D.M.b ks p m (tl x) from P1')
    obtain ⟨B, j, j1, _, j3, j4, _⟩ := Two.from_begin ok P2
    exact ⟨A, i, B, j, i1, j1, (Two.same_read ok).mp (i4.symm.trans j4), i3, j3⟩
  · rintro ⟨A, i, B, j, hi, hj, hm, rfl, rfl⟩
    have p1 := Two.road (D := D) A i 0 (by omega)
    have p2 := Two.road (D := D) B j 0 (by omega)
    have p3 := Two.road (D := D) A (D.L A - i) i (by omega)
    have p4 := Two.road (D := D) B (D.L B - j) j (by omega)
    rw [Two.st0, Nat.zero_add] at p1 p2
    rw [show i + (D.L A - i) = D.L A by omega] at p3
    rw [show j + (D.L B - j) = D.L B by omega] at p4
    have e1 : Fl D.a 0 i = Fl D.a 0 j := (Two.same_read ok).mpr hm
    have e2 : Fl D.a i (D.L A - i) = Fl D.a j (D.L B - j) := by
      have z1 := Fl.add D.a i 0 (D.L A - i)
      have z2 := Fl.add D.a j 0 (D.L B - j)
      rw [Nat.zero_add, show i + (D.L A - i) = D.L A by omega] at z1
      rw [Nat.zero_add, show j + (D.L B - j) = D.L B by omega] at z2
      have z3 : Fl D.a 0 (D.L A) = Fl D.a 0 (D.L B) := (Two.same_read ok).mpr (by cases A <;> cases B <;> simp [Two.L])
      rw [z1, z2, e1] at z3
      exact List.append_cancel_left z3
    rw [e1] at p1
    rw [e2] at p3
    exact ⟨⟨toS (Fl (D.b A) 0 i), toS (Fl (D.b B) 0 j), _, _, _, p1.turn, p2⟩, _, _, _, _, _, _, _, p3.turn, p4, Two.ends_of A, Two.ends_of B⟩
/-- the joint ways to a pair -/
theorem Two.jpath (ok : D.Ok) {A B : Bool} {i j : Nat} (hi : i ≤ D.L A) (hj : j ≤ D.L B) (hm : min i D.n = min j D.n) : JPath D.M.turn D.M (D.st A i) (D.st B j) (toS (Fl (D.b A) 0 i)) (toS (Fl (D.b B) 0 j)) := by
  have p1 := Two.road (D := D) A i 0 (by omega)
  have p2 := Two.road (D := D) B j 0 (by omega)
  rw [Two.st0, Nat.zero_add] at p1 p2
  have e1 : Fl D.a 0 i = Fl D.a 0 j := (Two.same_read ok).mpr hm
  rw [e1] at p1
  exact ⟨_, _, _, p1.turn, p2⟩
end
end Tw

/-! The rows of two roads that write the same, the one later. -/
namespace Tw
open PySem L2
theorem Fl.shift {g h : Nat → Str} : ∀ (c i j : Nat), (∀ k, k < c → g (i + k) = h (j + k)) → Fl g i c = Fl h j c
  | 0, i, j, _ => rfl
  | c + 1, i, j, e => by
    have e0 := e 0 (by omega)
    rw [Nat.add_zero, Nat.add_zero] at e0
    rw [Fl.succ, Fl.succ, e0, Fl.shift c (i + 1) (j + 1) (fun k hk => by
      have := e (k + 1) (by omega)
      rw [show i + 1 + k = i + (k + 1) by omega, show j + 1 + k = j + (k + 1) by omega]
      exact this)]
theorem Fl.em {g : Nat → Str} : ∀ (c i : Nat), (∀ k, k < c → g (i + k) = emS) → Fl g i c = []
  | 0, i, _ => rfl
  | c + 1, i, e => by
    rw [Fl.succ, Fl.em c (i + 1) (fun k hk => by
      rw [show i + 1 + k = i + (k + 1) by omega]
      exact e (k + 1) (by omega)), show g i = emS from e 0 (by omega)]
    rfl
abbrev Ix := Bool × Nat × Bool × Nat
namespace Two
variable (D : Two)
/-- how much is written -/
def ev (A : Bool) (i : Nat) : Nat := if A = true then i - D.late else i
def wv (k : Nat) : Str := D.wr.getD k emS
def mo (a b : Nat) : Str := toS (Fl D.wv a (b - a))
def E (x : Ix) : JS := ⟨(D.s x.1 x.2.1 : Int), (D.s x.2.2.1 x.2.2.2 : Int), D.mo (D.ev x.2.2.1 x.2.2.2) (D.ev x.1 x.2.1), D.mo (D.ev x.1 x.2.1) (D.ev x.2.2.1 x.2.2.2)⟩
def Ik (k : Nat) : List Ix := [(false, k, false, k), (true, k, true, k), (false, k, true, k), (true, k, false, k)] ++ if k = D.n then (List.range' 1 D.late).flatMap (fun j => [(false, D.n, true, D.n + j), (true, D.n + j, false, D.n)]) else []
def I2 : List Ix := (List.range (D.late + 1)).flatMap fun i => (List.range (D.late + 1)).flatMap fun j => if 0 < i + j then [(true, D.n + i, true, D.n + j)] else []
def Ia : List Ix := [(false, 0, false, 0)] ++ (List.range' 1 D.n).flatMap D.Ik ++ D.I2
def dn (e : JS) : JS := ⟨D.f e.p.toNat, D.f e.q.toNat, e.r, e.w⟩
end Two
section
variable {D : Two}
/-- a place among the indices -/
def IxOk (D : Two) (x : Ix) : Prop := x.2.1 ≤ D.L x.1 ∧ x.2.2.2 ≤ D.L x.2.2.1 ∧ min x.2.1 D.n = min x.2.2.2 D.n ∧ (x.1 = true → 1 ≤ x.2.1) ∧ (x.2.2.1 = true → 1 ≤ x.2.2.2)
theorem ik_mem {k : Nat} {x : Ix} : x ∈ D.Ik k ↔ x = (false, k, false, k) ∨ x = (true, k, true, k) ∨ x = (false, k, true, k) ∨ x = (true, k, false, k) ∨ (k = D.n ∧ ∃ j, 1 ≤ j ∧ j ≤ D.late ∧ (x = (false, D.n, true, D.n + j) ∨ x = (true, D.n + j, false, D.n))) := by
  unfold Two.Ik
  rw [List.mem_append]
  have r : ∀ j, j ∈ List.range' 1 D.late ↔ 1 ≤ j ∧ j ≤ D.late := fun j => by rw [List.mem_range'_1]; omega
  constructor
  · rintro (h | h)
    · simp at h
      rcases h with h | h | h | h
      · exact .inl h
      · exact .inr (.inl h)
      · exact .inr (.inr (.inl h))
      · exact .inr (.inr (.inr (.inl h)))
    · split at h
      · rename_i e
        obtain ⟨j, hj, h⟩ := List.mem_flatMap.mp h
        have := (r j).mp hj
        simp at h
        exact .inr (.inr (.inr (.inr ⟨e, j, this.1, this.2, h⟩)))
      · cases h
  · rintro (rfl | rfl | rfl | rfl | ⟨e, j, h1, h2, h⟩)
    · exact .inl (by simp)
    · exact .inl (by simp)
    · exact .inl (by simp)
    · exact .inl (by simp)
    · refine .inr ?_
      rw [if_pos e]
      refine List.mem_flatMap.mpr ⟨j, (r j).mpr ⟨h1, h2⟩, ?_⟩
      rcases h with rfl | rfl <;> simp
theorem i2_mem {x : Ix} : x ∈ D.I2 ↔ ∃ i j, i ≤ D.late ∧ j ≤ D.late ∧ 0 < i + j ∧ x = (true, D.n + i, true, D.n + j) := by
  unfold Two.I2
  rw [List.mem_flatMap]
  constructor
  · rintro ⟨i, hi, h⟩
    obtain ⟨j, hj, h⟩ := List.mem_flatMap.mp h
    rw [List.mem_range] at hi hj
    split at h
    · exact ⟨i, j, by omega, by omega, by assumption, List.mem_singleton.mp h⟩
    · cases h
  · rintro ⟨i, j, hi, hj, h, rfl⟩
    refine ⟨i, List.mem_range.mpr (by omega), List.mem_flatMap.mpr ⟨j, List.mem_range.mpr (by omega), ?_⟩⟩
    rw [if_pos h]
    exact List.mem_cons_self
theorem ia_mem {x : Ix} : x ∈ D.Ia ↔ x = (false, 0, false, 0) ∨ (∃ k, 1 ≤ k ∧ k ≤ D.n ∧ x ∈ D.Ik k) ∨ x ∈ D.I2 := by
  unfold Two.Ia
  rw [List.mem_append, List.mem_append, List.mem_singleton, List.mem_flatMap, or_assoc]
  have r : ∀ j, j ∈ List.range' 1 D.n ↔ 1 ≤ j ∧ j ≤ D.n := fun j => by rw [List.mem_range'_1]; omega
  constructor
  · rintro (h | ⟨k, hk, h⟩ | h)
    · exact .inl h
    · exact .inr (.inl ⟨k, ((r k).mp hk).1, ((r k).mp hk).2, h⟩)
    · exact .inr (.inr h)
  · rintro (h | ⟨k, h1, h2, h⟩ | h)
    · exact .inl h
    · exact .inr (.inl ⟨k, (r k).mpr ⟨h1, h2⟩, h⟩)
    · exact .inr (.inr h)
theorem ia_ok (ok : D.Ok) {x : Ix} (h : x ∈ D.Ia) : IxOk D x := by
  have n1 := ok.n1
  have lf : D.L false = D.n := rfl
  have lt : D.L true = D.n + D.late := rfl
  unfold IxOk
  rcases ia_mem.mp h with rfl | ⟨k, h1, h2, h⟩ | h
  · simp
  · rcases ik_mem.mp h with rfl | rfl | rfl | rfl | ⟨rfl, j, j1, j2, rfl | rfl⟩ <;> dsimp only <;> simp only [lf, lt] <;> refine ⟨?_, ?_, ?_, ?_, ?_⟩ <;> (try intro _) <;> first | trivial | omega | rfl
  · obtain ⟨i, j, hi, hj, _, rfl⟩ := i2_mem.mp h
    dsimp only
    simp only [lf, lt]
    exact ⟨by omega, by omega, by omega, fun _ => by omega, fun _ => by omega⟩
/-- all are there -/
theorem ia_all (ok : D.Ok) {A B : Bool} {i j : Nat} (hi : i ≤ D.L A) (hj : j ≤ D.L B) (hm : min i D.n = min j D.n) : ∃ x ∈ D.Ia, D.s x.1 x.2.1 = D.s A i ∧ D.s x.2.2.1 x.2.2.2 = D.s B j := by
  have n1 := ok.n1
  have lf : D.L false = D.n := rfl
  have lt : D.L true = D.n + D.late := rfl
  by_cases h0 : i = 0
  · have : j = 0 := by omega
    subst h0 this
    exact ⟨(false, 0, false, 0), ia_mem.mpr (.inl rfl), by cases A <;> rfl, by cases B <;> rfl⟩
  · by_cases hij : i = j ∧ i ≤ D.n
    · obtain ⟨rfl, hn⟩ := hij
      refine ⟨(A, i, B, i), ia_mem.mpr (.inr (.inl ⟨i, by omega, hn, ik_mem.mpr ?_⟩)), rfl, rfl⟩
      cases A <;> cases B <;> simp
    · have hin : D.n ≤ i := by omega
      have hjn : D.n ≤ j := by omega
      cases A with
      | false =>
        rw [lf] at hi
        obtain rfl : i = D.n := by omega
        cases B with
        | false => rw [lf] at hj; omega
        | true =>
          rw [lt] at hj
          refine ⟨(false, D.n, true, D.n + (j - D.n)), ia_mem.mpr (.inr (.inl ⟨D.n, n1, Nat.le_refl _, ik_mem.mpr (.inr (.inr (.inr (.inr ⟨rfl, j - D.n, by omega, by omega, .inl rfl⟩))))⟩)), rfl, by rw [show D.n + (j - D.n) = j by omega]⟩
      | true =>
        rw [lt] at hi
        cases B with
        | false =>
          rw [lf] at hj
          obtain rfl : j = D.n := by omega
          refine ⟨(true, D.n + (i - D.n), false, D.n), ia_mem.mpr (.inr (.inl ⟨D.n, n1, Nat.le_refl _, ik_mem.mpr (.inr (.inr (.inr (.inr ⟨rfl, i - D.n, by omega, by omega, .inr rfl⟩))))⟩)), by rw [show D.n + (i - D.n) = i by omega], rfl⟩
        | true =>
          rw [lt] at hj
          refine ⟨(true, D.n + (i - D.n), true, D.n + (j - D.n)), ia_mem.mpr (.inr (.inr (i2_mem.mpr ⟨i - D.n, j - D.n, by omega, by omega, by omega, rfl⟩))), by rw [show D.n + (i - D.n) = i by omega], by rw [show D.n + (j - D.n) = j by omega]⟩
theorem nodup_fm {α β : Type} {l : List α} {g : α → List β} (hl : l.Nodup) (h1 : ∀ a ∈ l, (g a).Nodup) (h2 : ∀ a ∈ l, ∀ b ∈ l, a ≠ b → ∀ x ∈ g a, x ∉ g b) : (l.flatMap g).Nodup := by
  induction l with
  | nil => exact List.nodup_nil
  | cons a l ih =>
    obtain ⟨n1, n2⟩ := List.nodup_cons.mp hl
    rw [List.flatMap_cons]
    refine List.nodup_append.mpr ⟨h1 a List.mem_cons_self, ih n2 (fun b hb => h1 b (List.mem_cons_of_mem _ hb)) (fun b hb c hc => h2 b (List.mem_cons_of_mem _ hb) c (List.mem_cons_of_mem _ hc)), fun x hx y hy e => ?_⟩
    subst e
    obtain ⟨b, hb, hy⟩ := List.mem_flatMap.mp hy
    exact h2 a List.mem_cons_self b (List.mem_cons_of_mem _ hb) (fun z => n1 (z ▸ hb)) x hx hy
theorem ia_nodup (ok : D.Ok) : D.Ia.Nodup := by
  have n1 := ok.n1
  have hk : ((List.range' 1 D.n).flatMap D.Ik).Nodup := by
    refine nodup_fm List.nodup_range' (fun k hk => ?_) (fun k hk k' hk' hne x hx hx' => ?_)
    · unfold Two.Ik
      refine List.nodup_append.mpr ⟨by simp, ?_, fun x hx y hy e => ?_⟩
      · split
        · refine nodup_fm List.nodup_range' (fun j _ => by simp) (fun j _ j' _ hne x hx hx' => ?_)
          simp at hx hx'
          rcases hx with rfl | rfl <;> simp at hx' <;> omega
        · exact List.nodup_nil
      · subst e
        split at hy
        · rename_i e
          obtain ⟨j, hj, hy⟩ := List.mem_flatMap.mp hy
          rw [List.mem_range'_1] at hj
          simp at hx hy
          rcases hx with rfl | rfl | rfl | rfl <;> simp at hy <;> omega
        · cases hy
    · rcases ik_mem.mp hx with rfl | rfl | rfl | rfl | ⟨rfl, j, j1, j2, rfl | rfl⟩ <;> rcases ik_mem.mp hx' with z | z | z | z | ⟨z', j', _, _, z | z⟩ <;> simp at z <;> omega
  have h2 : D.I2.Nodup := by
    unfold Two.I2
    refine nodup_fm List.nodup_range (fun i _ => nodup_fm List.nodup_range (fun j _ => ?_) (fun j _ j' _ hne x hx hx' => ?_)) (fun i _ i' _ hne x hx hx' => ?_)
    · split <;> simp
    · split at hx
      · split at hx'
        · rw [List.mem_singleton.mp hx] at hx'
          simp at hx'
          omega
        · cases hx'
      · cases hx
    · obtain ⟨j, _, hx⟩ := List.mem_flatMap.mp hx
      obtain ⟨j', _, hx'⟩ := List.mem_flatMap.mp hx'
      split at hx
      · split at hx'
        · rw [List.mem_singleton.mp hx] at hx'
          simp at hx'
          omega
        · cases hx'
      · cases hx
  unfold Two.Ia
  refine List.nodup_append.mpr ⟨List.nodup_append.mpr ⟨by simp, hk, fun x hx y hy e => ?_⟩, h2, fun x hx y hy e => ?_⟩
  · subst e
    rw [List.mem_singleton.mp hx] at hy
    obtain ⟨k, hk, hy⟩ := List.mem_flatMap.mp hy
    rw [List.mem_range'_1] at hk
    rcases ik_mem.mp hy with z | z | z | z | ⟨z', j', _, _, z | z⟩ <;> simp at z <;> omega
  · subst e
    obtain ⟨i, j, hi, hj, hij, rfl⟩ := i2_mem.mp hy
    rcases List.mem_append.mp hx with hx | hx
    · simp at hx
    · obtain ⟨k, hk, hx⟩ := List.mem_flatMap.mp hx
      rw [List.mem_range'_1] at hk
      rcases ik_mem.mp hx with z | z | z | z | ⟨z', j', _, _, z | z⟩ <;> simp at z <;> omega
/-- indices tell the states -/
theorem ix_inj {x y : Ix} (hx : IxOk D x) (hy : IxOk D y) (h1 : D.s x.1 x.2.1 = D.s y.1 y.2.1) (h2 : D.s x.2.2.1 x.2.2.2 = D.s y.2.2.1 y.2.2.2) : x = y := by
  obtain ⟨A, i, B, j⟩ := x
  obtain ⟨A', i', B', j'⟩ := y
  obtain ⟨a1, a2, _, a3, a4⟩ := hx
  obtain ⟨b1, b2, _, b3, b4⟩ := hy
  have one : ∀ {A A' : Bool} {i i' : Nat}, i ≤ D.L A → i' ≤ D.L A' → (A = true → 1 ≤ i) → (A' = true → 1 ≤ i') → D.s A i = D.s A' i' → A = A' ∧ i = i' := by
    intro A A' i i' h1 h2 h3 h4 h
    unfold Two.s at h
    unfold Two.L at h1 h2
    cases A <;> cases A' <;> simp at h h1 h2 h3 h4 ⊢ <;> (repeat' split at h) <;> omega
  obtain ⟨rfl, rfl⟩ := one a1 b1 a3 b3 h1
  obtain ⟨rfl, rfl⟩ := one a2 b2 a4 b4 h2
  rfl
end
end Tw

/-! Two roads: rows, ways, bounds. -/
namespace Tw
open PySem L2
theorem Fl_list (l : List Str) : ∀ (c i : Nat), Fl (fun k => l.getD k emS) i c = (((l.drop i).take c).map tl).flatten
  | 0, i => by rw [List.take_zero]; rfl
  | c + 1, i => by
    rw [Fl.succ, Fl_list l c (i + 1)]
    by_cases h : i < l.length
    · rw [List.drop_eq_getElem_cons h, List.take_succ_cons, List.map_cons, List.flatten_cons, List.getD_eq_getElem?_getD, List.getElem?_eq_getElem h, Option.getD_some]
    · rw [List.drop_eq_nil_of_le (by omega), List.drop_eq_nil_of_le (by omega), List.getD_eq_getElem?_getD, List.getElem?_eq_none (by omega)]
      simp [show tl emS = [] from tl_nil]
theorem flat_inj : ∀ {l l' : List Str}, (∀ x ∈ l, x.length = 1) → (∀ x ∈ l', x.length = 1) → (l.map tl).flatten = (l'.map tl).flatten → l = l'
  | [], [], _, _, _ => rfl
  | [], y :: l', _, h, e => by
    have := congrArg List.length e
    have h1 := h y List.mem_cons_self
    rw [← tl_len] at h1
    rw [List.map_cons, List.flatten_cons, List.length_append, h1] at this
    have z : (List.map tl ([] : List Str)).flatten.length = 0 := rfl
    omega
  | x :: l, [], h, _, e => by
    have := congrArg List.length e
    have h1 := h x List.mem_cons_self
    rw [← tl_len] at h1
    rw [List.map_cons, List.flatten_cons, List.length_append, h1] at this
    have z : (List.map tl ([] : List Str)).flatten.length = 0 := rfl
    omega
  | x :: l, y :: l', h, h', e => by
    have h1 := h x List.mem_cons_self
    have h2 := h' y List.mem_cons_self
    rw [← tl_len] at h1 h2
    rw [List.map_cons, List.map_cons, List.flatten_cons, List.flatten_cons] at e
    obtain ⟨e1, e2⟩ := List.append_inj e (h1.trans h2.symm)
    rw [tl_inj e1, flat_inj (fun z hz => h z (List.mem_cons_of_mem _ hz)) (fun z hz => h' z (List.mem_cons_of_mem _ hz)) e2]
theorem toS_nil : toS [] = emS := tl_inj (by rw [tl_toS]; exact tl_nil.symm)
section
variable {D : Two}
/-- the second road writes the other writing, late -/
theorem Two.row_late (k : Nat) : D.row.getD (D.late + k) emS = D.ot.getD k emS := by
  unfold Two.row
  rw [List.getD_eq_getElem?_getD, List.getD_eq_getElem?_getD, List.getElem?_append_right (by rw [List.length_replicate]; omega), List.length_replicate, Nat.add_sub_cancel_left]
theorem Two.row_em {k : Nat} (h : k < D.late) : D.row.getD k emS = emS := by
  unfold Two.row
  rw [List.getD_eq_getElem?_getD, List.getElem?_append_left (by rw [List.length_replicate]; exact h), List.getElem?_replicate]
  rw [if_pos h]
  rfl
theorem Two.late_w (i : Nat) : Fl (D.b true) 0 i = Fl (fun k => D.ot.getD k emS) 0 (i - D.late) := by
  have hb : ∀ k, D.b true k = D.row.getD k emS := fun k => rfl
  by_cases h : i ≤ D.late
  · rw [show i - D.late = 0 by omega, Fl.zero]
    refine Fl.em i 0 fun k hk => ?_
    rw [hb]
    exact Two.row_em (by omega)
  · have e := Fl.add (D.b true) D.late 0 (i - D.late)
    rw [show D.late + (i - D.late) = i by omega, Fl.em D.late 0 (fun k hk => by rw [hb]; exact Two.row_em (by omega)), List.nil_append, Nat.zero_add] at e
    rw [e]
    refine Fl.shift (i - D.late) D.late 0 fun k hk => ?_
    rw [hb, Two.row_late, Nat.zero_add]
theorem Two.w_of (e : D.ot = D.wr) (A : Bool) (i : Nat) : Fl (D.b A) 0 i = Fl D.wv 0 (D.ev A i) := by
  cases A with
  | false => rfl
  | true =>
    rw [Two.late_w, e]
    rfl
theorem Two.gp (a b : Nat) : Gp (D.mo b a, D.mo a b) (Fl D.wv 0 a) (Fl D.wv 0 b) := by
  unfold Two.mo Gp
  dsimp only
  rw [tl_toS, tl_toS]
  have e1 := Fl.add D.wv a 0 (b - a)
  have e2 := Fl.add D.wv b 0 (a - b)
  rw [Nat.zero_add] at e1 e2
  refine ⟨?_, ?_⟩
  · rw [← e1, ← e2, show a + (b - a) = b + (a - b) by omega]
  · rcases Nat.le_total a b with h | h
    · refine .inl ?_
      rw [show a - b = 0 by omega, Fl.zero]
      exact toS_nil
    · refine .inr ?_
      rw [show b - a = 0 by omega, Fl.zero]
      exact toS_nil
theorem rising_js : ∀ {a b : List JS}, a.Pairwise (fun x y => x.p < y.p ∨ (x.p = y.p ∧ x.q < y.q)) → b.Pairwise (fun x y => x.p < y.p ∨ (x.p = y.p ∧ x.q < y.q)) → (∀ x, x ∈ a ↔ x ∈ b) → a = b
  | [], [], _, _, _ => rfl
  | [], y :: b, _, _, h => by
    have := (h y).mpr List.mem_cons_self
    cases this
  | x :: a, [], _, _, h => by
    have := (h x).mp List.mem_cons_self
    cases this
  | x :: a, y :: b, ha, hb, h => by
    obtain ⟨ha1, ha2⟩ := List.pairwise_cons.mp ha
    obtain ⟨hb1, hb2⟩ := List.pairwise_cons.mp hb
    have exy : x = y := by
      rcases List.mem_cons.mp ((h x).mp List.mem_cons_self) with e | e
      · exact e
      · rcases List.mem_cons.mp ((h y).mpr List.mem_cons_self) with e2 | e2
        · exact e2.symm
        · have z1 := hb1 x e
          have z2 := ha1 y e2
          omega
    subst exy
    have irr : ∀ {l : List JS}, (∀ z ∈ l, x.p < z.p ∨ (x.p = z.p ∧ x.q < z.q)) → x ∉ l := fun hl hm => by
      have := hl x hm
      omega
    rw [rising_js ha2 hb2 fun z => ⟨fun hz => by
      rcases List.mem_cons.mp ((h z).mp (List.mem_cons_of_mem _ hz)) with e | e
      · subst e
        exact absurd hz (irr ha1)
      · exact e, fun hz => by
      rcases List.mem_cons.mp ((h z).mpr (List.mem_cons_of_mem _ hz)) with e | e
      · subst e
        exact absurd hz (irr hb1)
      · exact e⟩]
/-- the rows -/
theorem Two.due (ok : D.Ok) (e : D.ot = D.wr) {rows : List JS} (ah : AheadOk D.M rows) : rows = (D.Ia.map fun x => D.dn (D.E x)).mergeSort (PySem.W.dataLe false jsD) := by
  have dp : ∀ x, (D.dn (D.E x)).p = D.st x.1 x.2.1 := fun x => by
    show D.f ((D.s x.1 x.2.1 : Int)).toNat = _
    rw [Int.toNat_natCast]
    rfl
  have dq : ∀ x, (D.dn (D.E x)).q = D.st x.2.2.1 x.2.2.2 := fun x => by
    show D.f ((D.s x.2.2.1 x.2.2.2 : Int)).toNat = _
    rw [Int.toNat_natCast]
    rfl
  have gap : ∀ {e1 : JS} {A B : Bool} {i j : Nat}, e1 ∈ rows → i ≤ D.L A → j ≤ D.L B → min i D.n = min j D.n → e1.p = D.st A i → e1.q = D.st B j → (e1.r, e1.w) = (D.mo (D.ev B j) (D.ev A i), D.mo (D.ev A i) (D.ev B j)) := fun {e1 A B i j} he hi hj hm hp hq => by
    have jp := Two.jpath ok hi hj hm
    rw [← hp, ← hq] at jp
    have t := congrArg tl (ah.txt e1 he _ _ jp)
    rw [tl_cat, tl_cat, tl_toS, tl_toS, Two.w_of e, Two.w_of e] at t
    have g1 : Gp (e1.r, e1.w) (Fl D.wv 0 (D.ev A i)) (Fl D.wv 0 (D.ev B j)) := ⟨t, ah.one e1 he⟩
    have g2 := Two.gp (D := D) (D.ev A i) (D.ev B j)
    exact gp_one g1 g2 g1.1 g1.1
  have pw : (D.Ia.map fun x => D.dn (D.E x)).Pairwise fun a b => ¬ (a.p = b.p ∧ a.q = b.q) := by
    refine List.pairwise_map.mpr (List.Pairwise.imp_of_mem (fun {x y} hx hy hne z => hne ?_) (ia_nodup ok))
    rw [dp, dp, dq, dq] at z
    exact ix_inj (ia_ok ok hx) (ia_ok ok hy) (Two.f_inj z.1) (Two.f_inj z.2)
  refine rising_js ah.srt (js_sorted pw) fun r => ?_
  rw [(List.mergeSort_perm _ _).mem_iff, List.mem_map]
  have full : ∀ r' : JS, ∀ x : Ix, r'.p = D.st x.1 x.2.1 → r'.q = D.st x.2.2.1 x.2.2.2 → (r'.r, r'.w) = (D.mo (D.ev x.2.2.1 x.2.2.2) (D.ev x.1 x.2.1), D.mo (D.ev x.1 x.2.1) (D.ev x.2.2.1 x.2.2.2)) → D.dn (D.E x) = r' := fun r' x h1 h2 h3 => by
    obtain ⟨p, q, u, v⟩ := r'
    dsimp only at h1 h2 h3
    injection h3 with h3 h4
    have z1 := dp x
    have z2 := dq x
    rw [← h1] at z1
    rw [← h2] at z2
    have z3 : (D.dn (D.E x)).r = u := h3.symm
    have z4 : (D.dn (D.E x)).w = v := h4.symm
    generalize D.dn (D.E x) = d at z1 z2 z3 z4 ⊢
    obtain ⟨p', q', u', v'⟩ := d
    dsimp only at z1 z2 z3 z4
    rw [z1, z2, z3, z4]
  constructor
  · intro hr
    obtain ⟨A, i, B, j, hi, hj, hm, hp, hq⟩ := (Two.tog ok).mp ((ah.mem r.p r.q).mp ⟨r, hr, rfl, rfl⟩)
    obtain ⟨x, hx, x1, x2⟩ := ia_all ok hi hj hm
    obtain ⟨a1, a2, a3, _, _⟩ := ia_ok ok hx
    have hp' : r.p = D.st x.1 x.2.1 := by rw [hp]; unfold Two.st; rw [x1]
    have hq' : r.q = D.st x.2.2.1 x.2.2.2 := by rw [hq]; unfold Two.st; rw [x2]
    exact ⟨x, hx, full r x hp' hq' (gap hr a1 a2 a3 hp' hq')⟩
  · rintro ⟨x, hx, rfl⟩
    obtain ⟨a1, a2, a3, _, _⟩ := ia_ok ok hx
    obtain ⟨r', hr', p', q'⟩ := (ah.mem (D.dn (D.E x)).p (D.dn (D.E x)).q).mpr ((Two.tog ok).mpr ⟨_, _, _, _, a1, a2, a3, dp x, dq x⟩)
    rw [dp] at p'
    rw [dq] at q'
    rw [full r' x p' q' (gap hr' a1 a2 a3 p' q')]
    exact hr'
/-- alike: not twofold -/
theorem Two.not_two (ok : D.Ok) (e : D.ot = D.wr) : ¬ Twof D.M := by
  rintro ⟨r, w, w', ⟨ks, h1⟩, ⟨js, h2⟩, ne⟩
  obtain ⟨A, _, _, rfl⟩ := Two.way_is ok h1
  obtain ⟨B, _, _, rfl⟩ := Two.way_is ok h2
  refine ne ?_
  have z : ∀ A, D.ev A (D.L A) = D.n := fun A => by cases A <;> simp [Two.ev, Two.L]
  rw [Two.w_of e, Two.w_of e, z, z]
theorem Two.w_first (ok : D.Ok) : Fl (D.b false) 0 (D.L false) = (D.wr.map tl).flatten := by
  have h := Fl_list D.wr D.n 0
  rw [List.drop_zero, List.take_of_length_le (by rw [ok.lw]; exact Nat.le_refl _)] at h
  exact h
theorem Two.w_second (ok : D.Ok) : Fl (D.b true) 0 (D.L true) = (D.ot.map tl).flatten := by
  rw [Two.late_w]
  have h := Fl_list D.ot D.n 0
  rw [List.drop_zero, List.take_of_length_le (by rw [ok.lo]; exact Nat.le_refl _)] at h
  rw [show D.L true - D.late = D.n by show D.n + D.late - D.late = D.n; omega]
  exact h
theorem Two.r_all (ok : D.Ok) : Fl D.a 0 D.n = (D.txt.map tl).flatten := by
  have h := Fl_list D.txt D.n 0
  rw [List.drop_zero, List.take_of_length_le (by rw [ok.lt]; exact Nat.le_refl _)] at h
  exact h
/-- unlike: twofold -/
theorem Two.two (ok : D.Ok) (e : D.ot ≠ D.wr) : Twof D.M := by
  refine ⟨_, _, _, ⟨_, Two.way_of ok false⟩, ⟨_, Two.way_of ok true⟩, fun z => e ?_⟩
  rw [Two.w_first ok, Two.w_second ok] at z
  exact (flat_inj (fun x hx => (ok.w1 x hx).1) (fun x hx => (ok.o1 x hx).1) z).symm
/-- two ways that write unlike are the two roads -/
theorem Two.roads (ok : D.Ok) {ks js : List Nat} {r w w' : List Nat} (h1 : IsWay D.M ks r w) (h2 : IsWay D.M js r w') (ne : w ≠ w') : r = (D.txt.map tl).flatten ∧ ∃ A, ks = (List.range' 0 (D.L A)).map (D.base A + ·) ∧ js = (List.range' 0 (D.L !A)).map ((D.base !A) + ·) := by
  obtain ⟨A, a1, a2, a3⟩ := Two.way_is ok h1
  obtain ⟨B, b1, _, b3⟩ := Two.way_is ok h2
  have hAB : B = !A := by
    cases A <;> cases B <;> first | rfl | exact absurd (a3.trans b3.symm) ne
  subst hAB
  exact ⟨a2.trans (Two.r_all ok), A, a1, b1⟩
end
end Tw
namespace Tw
open PySem L2
section
variable {D : Two}
theorem Two.f_ok {s : Nat} (h : s < D.N) : St? D.M.n (D.f s) := by
  show 0 ≤ D.f s ∧ D.f s < (D.N : Int)
  unfold Two.f
  split <;> omega
theorem Two.s_lt (ok : D.Ok) {A : Bool} {k : Nat} (h : k ≤ D.L A) : D.s A k < D.N := by
  unfold Two.s Two.N
  unfold Two.L at h
  cases A
  · simp at h ⊢
    omega
  · simp at h ⊢
    split <;> omega
theorem getD_one {l : List Str} (h : ∀ x ∈ l, x.length = 1 ∧ PyData.strOk x = true) (k : Nat) : (l.getD k emS).length ≤ 1 ∧ PyData.strOk (l.getD k emS) = true := by
  rw [List.getD_eq_getElem?_getD]
  by_cases hk : k < l.length
  · rw [List.getElem?_eq_getElem hk]
    have := h _ (List.getElem_mem hk)
    exact ⟨Nat.le_of_eq this.1, this.2⟩
  · rw [List.getElem?_eq_none (by omega)]
    exact ⟨by decide +kernel, by decide +kernel⟩
theorem Two.row_one (ok : D.Ok) (k : Nat) : (D.row.getD k emS).length ≤ 1 ∧ PyData.strOk (D.row.getD k emS) = true := by
  by_cases h : k < D.late
  · rw [Two.row_em h]
    exact ⟨by decide +kernel, by decide +kernel⟩
  · have := Two.row_late (D := D) (k - D.late)
    rw [show D.late + (k - D.late) = k by omega] at this
    rw [this]
    exact getD_one ok.o1 _
theorem Two.mv_ok (ok : D.Ok) {m : Mv} (h : m ∈ D.M.moves) : St? D.M.n m.s ∧ St? D.M.n m.g ∧ m.r.length ≤ 1 ∧ m.w.length ≤ 1 ∧ PyData.strOk m.r = true ∧ PyData.strOk m.w = true := by
  obtain ⟨k, hk⟩ := List.getElem?_of_mem h
  obtain ⟨A, i, hi, _, rfl⟩ := Two.mv_of hk
  have hr := getD_one ok.t1 i
  have hw : (D.b A i).length ≤ 1 ∧ PyData.strOk (D.b A i) = true := by
    cases A
    · exact getD_one ok.w1 i
    · exact Two.row_one ok i
  exact ⟨Two.f_ok (Two.s_lt ok (Nat.le_of_lt hi)), Two.f_ok (Two.s_lt ok hi), hr.1, hw.1, hr.2, hw.2⟩
theorem Two.len (ok : D.Ok) : D.M.moves.length = 2 * D.n + D.late := by
  show ((List.range (D.L false)).map (D.mv false) ++ (List.range (D.L true)).map (D.mv true)).length = _
  simp [Two.L]
  omega
theorem Two.Mok (ok : D.Ok) : D.M.Ok := by
  have n1 := ok.n1
  have n2 := ok.n2
  have l2 := ok.l2
  have hN : D.M.n = (D.N : Int) := rfl
  have eN : D.N = 1 + 2 * D.n + D.late := rfl
  refine ⟨by omega, by omega, Two.f_ok (Two.s_lt ok (Nat.zero_le _)), fun i hi => ?_, by show 2 ≤ 1000; decide, by rw [Two.len ok]; omega, fun m hm => (Two.mv_ok ok hm).1, fun m hm => (Two.mv_ok ok hm).2.1, fun m hm => (Two.mv_ok ok hm).2.2.1, fun m hm => (Two.mv_ok ok hm).2.2.2.1⟩
  have hi' : i ∈ [D.st false (D.L false), D.st true (D.L true)] := hi
  rcases List.mem_cons.mp hi' with rfl | h
  · exact Two.f_ok (Two.s_lt ok (Nat.le_refl _))
  · rw [List.mem_singleton.mp h]
    exact Two.f_ok (Two.s_lt ok (Nat.le_refl _))
theorem Two.Mstr (ok : D.Ok) : ∀ m ∈ D.M.moves, PyData.strOk m.r = true ∧ PyData.strOk m.w = true := fun m hm => (Two.mv_ok ok hm).2.2.2.2
end
end Tw

local macro_rules | `(tactic| walk_at "sq") => `(tactic| first
  | assumption
  | exact Or.inl (Or.inl L2.upd_same)
  | ((with_reducible refine' Tw.sqT_up ?s ?r); (case s => assumption); (case r => walk_at "sq"))
  | ((with_reducible refine' Tw.sqL_up ?s ?r); (case s => assumption); (case r => walk_at "sq"))
  | ((with_reducible refine' Tw.same_sqT ?s ?r); (case s => assumption); (case r => walk_at "sq"))
  | ((with_reducible refine' Tw.same_sqL ?s ?r); (case s => assumption); (case r => walk_at "sq")))
local macro_rules | `(tactic| walk_at "dp") => `(tactic| first
  | assumption
  | ((with_reducible refine' Tw.dp_same (Tw.same_up ?s) ?r); (case s => assumption); (case r => walk_at "dp"))
  | ((with_reducible refine' Tw.dp_same ?s ?r); (case s => assumption); (case r => walk_at "dp")))
local macro_rules | `(tactic| walk_at "side") => `(tactic| first
  | assumption | rfl | decide | (exact Nat.le_trans (by assumption) (by decide)) | exact ⟨by decide, by decide⟩ | exact Or.inr ⟨by decide, by decide⟩ | exact Or.inl ⟨by decide, by decide⟩ | omega | exact ⟨by omega, by omega⟩ | exact Or.inl ⟨by omega, by omega⟩ | exact Or.inr ⟨by omega, by omega⟩)
local macro_rules | `(tactic| walk_at "ty") => `(tactic| first
  | exact .base (.int _) | exact .base (.str _) | exact .base (.bl _) | exact .base .non
  | ((with_reducible refine' Tw.ty_tup ?r); (case r => walk_at "sq")) | ((with_reducible refine' Tw.ty_lst ?r); (case r => walk_at "sq")))
local macro_rules | `(tactic| walk_at "fl") => `(tactic| first
  | assumption
  | ((with_reducible refine' Tw.Fld.same ?f ?s); (case f => assumption); (case s => assumption))
  | ((with_reducible refine' Tw.Mth.same ?f ?s); (case f => assumption); (case s => assumption)))
local macro_rules | `(tactic| walk_at "rd1") => `(tactic| first
  | with_reducible refine Tw.r_seq ?_
  | with_reducible refine Tw.r_asg ?_
  | ((with_reducible refine' Tw.r_var ?hv ?_); (case hv => rfl))
  | with_reducible refine Tw.r_c ?_
  | with_reducible refine Tw.r_op ?_
  | with_reducible refine Tw.r_I0 ?_
  | ((with_reducible refine' Tw.r_I ?c ?_); (case c => walk_at "side"))
  | ((with_reducible refine' Tw.r_eq ?s ?_); (case s => rfl))
  | ((with_reducible refine' Tw.r_ne ?s ?_); (case s => rfl))
  | with_reducible refine Tw.r_bl ?_
  | with_reducible refine Tw.r_bl2 ?_
  | with_reducible refine Tw.r_ifS ?_
  | with_reducible refine Tw.r_test ?_
  | with_reducible refine Tw.r_tB ?_
  | with_reducible refine Tw.r_drop ?_
  | with_reducible refine Tw.r_ret ?_
  | with_reducible refine Tw.r_nil ?_
  | with_reducible refine Tw.r_cons ?_
  | with_reducible refine Tw.r_tup ?_
  | with_reducible refine Tw.r_lst ?_
  | with_reducible refine Tw.r_CB ?_
  | with_reducible refine Tw.r_call ?_
  | with_reducible refine Tw.r_chain ?_
  | with_reducible refine Tw.r_not ?_
  | with_reducible refine Tw.r_and ?_
  | with_reducible refine Tw.r_or ?_
  | with_reducible refine Tw.r_if ?_
  | with_reducible refine Tw.r_andV ?_
  | with_reducible refine Tw.r_orV ?_
  | with_reducible refine Tw.r_notV ?_
  | with_reducible refine Tw.r_un ?_
  | ((with_reducible refine' Tw.r_gtup ?hs ?hl ?_); (case hs => walk_at "sq"); (case hl => rfl))
  | with_reducible refine Tw.r_gcons ?_
  | with_reducible refine Tw.r_gnil ?_
  | ((with_reducible refine' Tw.r_gname ?e ?_); (case e => first | (dsimp only [List.set_cons_succ, List.set_cons_zero]; done) | (dsimp only [List.set_cons_succ, List.set_cons_zero]; rfl)))
  | ((with_reducible refine' Tw.r_ixT ?hs ?ha ?_); (case hs => walk_at "sq"); (case ha => rfl))
  | ((with_reducible refine' Tw.r_lenS ?hl ?_); (case hl => walk_at "side"))
  | ((with_reducible refine' Tw.r_seqL ?hs ?_); (case hs => walk_at "sq"))
  | ((with_reducible refine' Tw.r_seqT ?hs ?_); (case hs => walk_at "sq"))
  | ((with_reducible refine' Tw.r_isi (r := true) ?ty ?e ?_); (case ty => walk_at "ty"); (case e => decide +kernel))
  | ((with_reducible refine' Tw.r_isi (r := false) ?ty ?e ?_); (case ty => walk_at "ty"); (case e => decide +kernel))
  | ((with_reducible refine' Tw.r_addS ?hl ?_); (case hl => walk_at "side"))
  | with_reducible refine Tw.r_sl ?_
  | with_reducible refine Tw.r_part ?_
  | with_reducible refine Tw.r_noPart ?_
  | with_reducible refine Tw.r_int1 ?_
  | ((with_reducible refine' Tw.r_slL ?hs ?_); (case hs => walk_at "sq"))
  | ((with_reducible refine' Tw.r_slS ?hl ?_); (case hl => walk_at "side"))
  | with_reducible refine Tw.r_bm ?_
  | with_reducible refine Tw.r_bm0 ?_
  | ((with_reducible refine' Tw.r_tyL ?hs ?_); (case hs => walk_at "sq"))
  | with_reducible refine Tw.r_yes ?_
  | ((with_reducible refine' Tw.r_ixL ?hs ?ha ?_); (case hs => walk_at "sq"); (case ha => assumption))
  | ((with_reducible refine' Tw.r_in ?hs ?_); (case hs => walk_at "sq"))
  | ((with_reducible refine' Tw.r_notIn ?hs ?_); (case hs => walk_at "sq"))
  | ((with_reducible refine' Tw.r_eqNil ?hs ?hq ?_); (case hs => walk_at "sq"); (case hq => walk_at "sq"))
  | with_reducible refine Tw.r_U ?_
  | with_reducible refine Tw.r_nn ?_
  | with_reducible refine Tw.r_isB ?_
  | with_reducible refine Tw.r_notB ?_
  | with_reducible refine Tw.r_tM1 ?_
  | with_reducible refine Tw.r_exS ?_
  | with_reducible refine Tw.r_intB ?_
  | with_reducible refine Tw.r_callS ?_
  | with_reducible refine Tw.r_true ?_
  | with_reducible refine Tw.r_false ?_
  | with_reducible refine Tw.r_nt ?_
  | with_reducible refine Tw.r_nf ?_
  | ((with_reducible refine' Tw.r_is (decide_eq_true ?p) ?_); (case p => first | assumption | rfl | omega))
  | ((with_reducible refine' Tw.r_isnt (decide_eq_false ?p) ?_); (case p => first | assumption | omega | (intro z; cases z; done)))
  | ((with_reducible refine' Tw.r_isN ?p ?_); (case p => first | assumption | rfl | omega))
  | ((with_reducible refine' Tw.r_isntN ?p ?_); (case p => first | assumption | omega | (intro z; cases z; done)))
  | with_reducible refine Tw.r_fld ?_
  | ((with_reducible refine' Tw.r_fldv ?f ?_); (case f => walk_at "fl"))
  | with_reducible refine Tw.r_meth ?_
  | ((with_reducible refine' Tw.r_methv ?f ?_); (case f => walk_at "fl"))
  | with_reducible refine Tw.r_make ?_
  | ((with_reducible refine' Tw.r_aug ?hv ?_); (case hv => rfl))
  | with_reducible refine Tw.r_ipI ?_
  | with_reducible refine Tw.r_gfld ?_
  | with_reducible refine Tw.r_din ?_
  | with_reducible refine Tw.r_dnin ?_
  | with_reducible refine Tw.r_dgt ?_
  | with_reducible refine Tw.r_dput ?_
  | with_reducible refine Tw.r_dgt2 ?_
  | with_reducible refine Tw.r_revL ?_
  | with_reducible refine Tw.r_revT ?_
  | with_reducible refine Tw.r_sfld ?_
  | with_reducible refine Tw.r_next ?_)
local macro_rules | `(tactic| walk_at "rd") => `(tactic| repeat walk_at "rd1")
namespace Tw
open PySem L2
def top (i : Nat) : Stmt := PySem.Challenge.pw_turnwriter_k12_one_writes_later.main.body.getD i (.Pass ⟨0, 0, 0, 0⟩)
/-- what the top has written, beside the defs -/
structure Txt (K : PySem.W.Frag) (mg : Str → Option Value) : Prop where
  c_MOST_STATES : ∃ t, mg "MOST_STATES" = some (.int 100 t)
  c_MOST_MOVES : ∃ t, mg "MOST_MOVES" = some (.int 1000 t)
  n_len : mg "len" = none
  n_list : mg "list" = none
  n_range : mg "range" = none
  n_isinstance : mg "isinstance" = none
  n_int : mg "int" = none
  n_bool : mg "bool" = none
  n_tuple : mg "tuple" = none
  n_str : mg "str" = none
  n_dict : mg "dict" = none
  n_sorted : mg "sorted" = none
  n_min : mg "min" = none
  n_max : mg "max" = none
  n_sum : mg "sum" = none

/-- what the top has written of the classes -/
structure TxtS (K : PySem.W.Frag) (mg : Str → Option Value) (CS CG aN : Addr) : Prop extends Txt K mg where
  c_FIRST : ∃ t, mg "FIRST" = some (.int 0 t)
  c_SECOND : ∃ t, mg "SECOND" = some (.int 1 t)
  n_enumerate : mg "enumerate" = none
  g_NO_GAP : mg "NO_GAP" = some (.ref aN)
  k_NO_GAP : ∀ H : Hp, SqT K H aN [.str emS, .str emS]
  cl_Square : Cls K CS
  cl_Gaps : Cls K CG
  na_moves : NoAttr K CS "moves"
  na_leaving : NoAttr K CS "leaving"
  na_first : NoAttr K CS "first"
  na_ends : NoAttr K CS "ends"
  na_rest : NoAttr K CS "rest"
  na_square : NoAttr K CG "square"
  na_found : NoAttr K CG "found"
  na_came : NoAttr K CG "came"
  na_proof : NoAttr K CG "proof"
/-- a Square ahead of its rest -/
structure SqB (K : PySem.W.Frag) (C : Addr) (H : Hp) (x : Addr) (M : Mc) (l lv ft ed : Addr) (qs : List V) (as : List Addr) (eks : List Int) : Prop where
  f_moves : Fld K H x "moves" (.ref l)
  f_leaving : Fld K H x "leaving" (.ref lv)
  f_first : Fld K H x "first" (.ref ft)
  f_ends : Fld K H x "ends" (.ref ed)
  m_steps : Mth H x C "steps"
  m_is_last : Mth H x C "is_last"
  m_found_before : Mth H x C "found_before"
  m_found_rest : Mth H x C "found_rest"
  m_moved_from : Mth H x C "moved_from"
  hl : SqL K H l qs
  hq : DpAll K H qs (M.moves.map mvD)
  hlv : SqL K H lv (as.map V.ref)
  hll : LL RLv as ((List.range M.n.toNat).map fun (i : Nat) => leaveF M (i : Int) M.moves.length) H
  hft : RSpot H (.ref ft) (fstOf M)
  hed : ∃ us, Kd RAny ed eks us H
  hek : ∀ i, i ∈ eks ↔ i ∈ M.ends
theorem SqB.same {K : PySem.W.Frag} {C : Addr} {H H' : Hp} {x : Addr} {M : Mc} {l lv ft ed : Addr} {qs : List V} {as : List Addr} {eks : List Int} (h : SqB K C H x M l lv ft ed qs as eks) (e : Same H H') : SqB K C H' x M l lv ft ed qs as eks := by
  obtain ⟨us, hu⟩ := h.hed
  exact ⟨h.f_moves.same e, h.f_leaving.same e, h.f_first.same e, h.f_ends.same e, h.m_steps.same e, h.m_is_last.same e, h.m_found_before.same e, h.m_found_rest.same e, h.m_moved_from.same e, same_sqL e h.hl, dpAll_same e h.hq, same_sqL e h.hlv, h.hll.same e, Stay.st (keep_of e) h.hft, ⟨us, hu.same e⟩, h.hek⟩
theorem SqB.leave {K : PySem.W.Frag} {C : Addr} {H : Hp} {x : Addr} {M : Mc} {l lv ft ed : Addr} {qs : List V} {as : List Addr} {eks : List Int} (h : SqB K C H x M l lv ft ed qs as eks) {p : Int} (hp : St? M.n p) :
    ∃ a, atI (as.map V.ref) p = some (.ref a) ∧ LsAt RLv a (leaveF M p M.moves.length) H := by
  obtain ⟨h0, h1⟩ := hp
  have e : ((p.toNat : Nat) : Int) = p := Int.toNat_of_nonneg h0
  have hi : ((List.range M.n.toNat).map fun (i : Nat) => leaveF M (i : Int) M.moves.length)[p.toNat]? = some (leaveF M p M.moves.length) := by
    rw [List.getElem?_map, List.getElem?_range (by omega)]
    show some (leaveF M ((p.toNat : Nat) : Int) M.moves.length) = _
    rw [e]
  obtain ⟨a, ha, hla⟩ := h.hll.get hi
  refine ⟨a, ?_, hla⟩
  rw [← e]
  exact atI_nat (by rw [List.getElem?_map, ha]; rfl)

section
variable {P : Program} {w : World} {K : PySem.W.Frag} {mg : Str → Option Value} {base : Heap} {CS CG aN : Addr}
-- Square_is_last
abbrev s_Square_is_last : Stmt := inClass (top 13) 1
abbrev N_Square_is_last : List Str := ["self", "spot", "state", "other", "owed"]
theorem sc_Square_is_last : FnScope N_Square_is_last ["self", "spot"] (defScope s_Square_is_last) := ⟨rfl, rfl, rfl, by decide +kernel, rfl, by decide +kernel, by decide +kernel⟩

def spIsLast (K : PySem.W.Frag) (C : Addr) : Sp := fun vs H Q _ => ∃ (x : Addr) (v : V) (M : Mc) (s : Sq) (l lv ft ed : Addr) (qs : List V) (as : List Addr) (eks : List Int), vs = [.ref x, v] ∧ SqB K C H x M l lv ft ed qs as eks ∧ RSpot H v s ∧ Q (.bl (decide (LastS M s))) H
theorem ok_Square_is_last (F : MetAt K CS "is_last" "Square.is_last" s_Square_is_last) (T : TxtS K mg CS CG aN) : CalM P w K mg base CX0 1 CS "is_last" ["self", "spot"] (spIsLast K CS) := by
  refine F.cal sc_Square_is_last (fun _ _ _ _ _ _ us hl => match us, hl with | [_, _], _ => rfl) (fun vs H Q E h => by obtain ⟨_, _, _, _, _, _, _, _, _, _, _, rfl, _⟩ := h; rfl) (fun f cdv A outer s H vs Q E hr h => ?_)
  obtain ⟨x, v, M, s, l, lv, ft, ed, qs, as, eks, rfl, B, hs, q⟩ := h
  obtain ⟨a, rfl, ha⟩ := spot_at hs
  have ht := SqT.of (K := K) ha
  obtain ⟨us, hu⟩ := B.hed
  have fe := B.f_ends
  refine ⟨_, (pss_cons (ps_asg (pv 1) (pg_tup (by rfl) (pgs_cons (pg_name (i := 2) sc_Square_is_last.nd rfl (Or.inl rfl)) (pgs_cons (pg_name (i := 3) sc_Square_is_last.nd rfl (Or.inl rfl)) (pgs_cons (pg_name (i := 4) sc_Square_is_last.nd rfl (Or.inl rfl)) pgs_nil)))))
  (pss_one (ps_ret (pe_and (pe_cmpR op_eq (pv 4) pe_str (nomark _)) (pe_and (pe_cmp (pc_din (lt64 hr.units) (pv 2) (pe_fld (pv 0) rfl))) (pe_one (pe_cmp (pc_din (lt64 hr.units) (pv 3) (pe_fld (pv 0) rfl))))))))), ?_⟩
  refine r_start (σ' := [some (.ref x), some (.ref a), none, none, none]) rfl ?_
  walk_at "rd"
  by_cases ho : s.o = emS
  · rw [decide_eq_true (show V.str s.o = V.str emS by rw [ho]), if_pos rfl]
    walk_at "rd"
    obtain ⟨o1, g1, i1⟩ := hu.in_ s.p
    refine ⟨ed, o1, rfl, g1, ?_⟩
    walk_at "rd"
    cases h1 : o1.isSome with
    | false =>
      rw [if_neg Bool.false_ne_true]
      have : ¬ LastS M s := fun z => by
        have := i1.mpr ((B.hek _).mpr z.2.1)
        rw [h1] at this
        cases this
      rw [decide_eq_false this] at q
      exact q
    | true =>
      rw [if_pos rfl]
      walk_at "rd"
      obtain ⟨o2, g2, i2⟩ := hu.in_ s.q
      refine ⟨ed, o2, rfl, g2, ?_⟩
      have e : o2.isSome = decide (LastS M s) := by
        cases h2 : o2.isSome with
        | false =>
          refine (decide_eq_false fun z => ?_).symm
          have := i2.mpr ((B.hek _).mpr z.2.2)
          rw [h2] at this
          cases this
        | true => exact (decide_eq_true ⟨ho, (B.hek _).mp (i1.mp h1), (B.hek _).mp (i2.mp h2)⟩).symm
      rw [e]
      exact q
  · rw [decide_eq_false (show ¬ V.str s.o = V.str emS by intro z; exact ho (V.str.inj z)), if_neg Bool.false_ne_true]
    rw [decide_eq_false (show ¬ LastS M s from fun z => ho z.1)] at q
    exact q

end
end Tw


namespace Tw
open PySem L2
section
variable {P : Program} {w : World} {K : PySem.W.Frag} {mg : Str → Option Value} {base : Heap} {CS CG aN : Addr}
-- Square_steps
abbrev s_Square_steps : Stmt := inClass (top 13) 2
abbrev N_Square_steps : List Str := ["self", "spot", "state", "other", "owed", "steps", "index", "read", "goal"]
theorem sc_Square_steps : FnScope N_Square_steps ["self", "spot"] (defScope s_Square_steps) := ⟨rfl, rfl, rfl, by decide +kernel, rfl, by decide +kernel, by decide +kernel⟩

def spSteps (K : PySem.W.Frag) (C : Addr) : Sp := fun vs H Q _ => ∃ (x : Addr) (v : V) (M : Mc) (s : Sq) (l lv ft ed : Addr) (qs : List V) (as : List Addr) (eks : List Int), vs = [.ref x, v] ∧ SqB K C H x M l lv ft ed qs as eks ∧ M.Ok ∧ RSpot H v s ∧ sqOk M s ∧
  ∀ (H' : Hp) (p : Addr), Same H H' → H p = none → LsAt RStep p (stepsF M s) H' → Q (.ref p) H'
theorem ok_Square_steps (F : MetAt K CS "steps" "Square.steps" s_Square_steps) (T : TxtS K mg CS CG aN) : CalM P w K mg base CX0 1 CS "steps" ["self", "spot"] (spSteps K CS) := by
  refine F.cal sc_Square_steps (fun _ _ _ _ _ _ us hl => match us, hl with | [_, _], _ => rfl) (fun vs H Q E h => by obtain ⟨_, _, _, _, _, _, _, _, _, _, _, rfl, _⟩ := h; rfl) (fun f cdv A outer s H vs Q E hr h => ?_)
  obtain ⟨x, v, M, s, l, lv, ft, ed, qs, as, eks, rfl, B, ok, hs, so, q⟩ := h
  obtain ⟨a, rfl, ha⟩ := spot_at hs
  have ht := SqT.of (K := K) ha
  have fl := B.f_leaving
  have ml := ok.ml
  obtain ⟨a1, i1, l1⟩ := B.leave so.1
  obtain ⟨a2, i2, l2⟩ := B.leave so.2.1
  refine ⟨_, (pss_cons (ps_asg (pv 1) (pg_tup (by rfl) (pgs_cons (pg_name (i := 2) sc_Square_steps.nd rfl (Or.inl rfl)) (pgs_cons (pg_name (i := 3) sc_Square_steps.nd rfl (Or.inr rfl)) (pgs_cons (pg_name (i := 4) sc_Square_steps.nd rfl (Or.inl rfl)) pgs_nil)))))
  (pss_cons (ps_set (i := 5) sc_Square_steps.nd rfl (Or.inl rfl) (pe_lst pa_nil))
  (Evl.pss_cut (ps_if (pt_cmpR op_eq (pv 4) pe_str (nomark _))
    (pss_one (ps_expr (pe_bm PySem.F.plainAttrs_list PySem.F.slot_list_extend PySem.F.type_list_extend mt_extend (pv 5) (pa_cons (pe_lc (own := [("index", 6), ("read", 7), ("goal", 8)]) (g := (gTup K 3 (gCons (gName 6) (gCons (gName 7) (gCons (gName 8) gNil))))) (tt := tYes) rfl sc_Square_steps.nd (pi_list (pe_ix ix_list (pe_fld (pv 0) rfl) (pv 2) (fun _ _ => rfl))) (blkOk_by (N := N_Square_steps) (sc := defScope s_Square_steps) (by decide +kernel)) (fun _ _ _ _ _ => (pg_tup (by rfl) (pgs_cons (pg_name (i := 6) sc_Square_steps.nd rfl (Or.inl rfl)) (pgs_cons (pg_name (i := 7) sc_Square_steps.nd rfl (Or.inl rfl)) (pgs_cons (pg_name (i := 8) sc_Square_steps.nd rfl (Or.inl rfl)) pgs_nil))))) (fun _ _ _ _ _ => pts_nil) (fun _ _ _ _ _ => (pe_tup (pa_cons (pe_globI (by rfl) T.c_FIRST) (pa_cons (pv 6) (pa_cons (pe_tup (pa_cons (pv 8) (pa_cons (pv 3) (pa_cons (pv 7) pa_nil)))) pa_nil)))))) pa_nil))))
    pss_nil)
  (pss_cons (ps_for PassesOwn.never rfl (pi_list (pe_ix ix_list (pe_fld (pv 0) rfl) (pv 3) (fun _ _ => rfl))) (pg_tup (by rfl) (pgs_cons (pg_name (i := 6) sc_Square_steps.nd rfl (Or.inl rfl)) (pgs_cons (pg_name (i := 7) sc_Square_steps.nd rfl (Or.inl rfl)) (pgs_cons (pg_name (i := 8) sc_Square_steps.nd rfl (Or.inl rfl)) pgs_nil))))
    (pss_one (ps_if (pt_cmpR op_eq (pv 7) (pv 4) (nomark _))
    (pss_one (ps_expr (pe_bm PySem.F.plainAttrs_list PySem.F.slot_list_append PySem.F.type_list_append mt_append (pv 5) (pa_cons (pe_tup (pa_cons (pe_globI (by rfl) T.c_SECOND) (pa_cons (pv 6) (pa_cons (pe_tup (pa_cons (pv 2) (pa_cons (pv 8) (pa_cons pe_str pa_nil)))) pa_nil)))) pa_nil))))
    pss_nil)))
  (pss_one (ps_ret (pv 5))))))), ?_⟩
  refine r_start (σ' := [some (.ref x), some (.ref a), none, none, none, none, none, none, none]) rfl ?_
  walk_at "rd"
  refine r_new (Nat.zero_le _) fun L hL => ?_
  walk_at "rd"
  refine r_cut (fun σ H' => ∃ x6 x7 x8, σ = [some (.ref x), some (.ref a), some (.int s.p), some (.int s.q), some (.str s.o), some (.ref L), x6, x7, x8] ∧ Same H H' ∧ LsAt RStep L (if s.o = emS then (leaveF M s.p M.moves.length).map fun e => ⟨false, e.k, ⟨e.g, s.q, e.r⟩⟩ else []) H') ?_ (fun σ H1 p => ?_)
  · walk_at "rd"
    refine r_both (fun e => ?_) (fun e => ?_)
    · have ho : s.o = emS := V.str.inj e
      rw [if_pos ho]
      walk_at "rd"
      have sL : Same H (upd H L (.lst [])) := same_up hL
      have LL : LsAt RStep L [] (upd H L (.lst [])) := LsAt.new
      refine r_lcA (a := a1) (R := RLv) (S := RStep) (xs := leaveF M s.p M.moves.length) (σw := [some (.ref x), some (.ref a), some (.int s.p), some (.int s.q), some (.str s.o), some (.ref L), none, none, none]) (fun e => some ⟨false, e.k, ⟨e.g, s.q, e.r⟩⟩) rfl (fun R h => ?_) (l1.same sL).sq (Nat.lt_of_le_of_lt (leave_len M s.p _) (by omega)) (fun i v e H' QY QN hx hv sH y n => ?_) (fun H' D sH hD lD => ?_)
      · have fl2 := fl.same sL
        have hlv2 := same_sqL sL B.hlv
        walk_at "rd"
        exact h
      · obtain ⟨b, rfl, hb⟩ := hv
        have hb2 := SqT.of (K := K) hb
        walk_at "rd"
        refine ⟨rfl, ?_⟩
        obtain ⟨_, tf⟩ := T.c_FIRST
        walk_at "rd"
        refine r_new (Nat.le_of_ble_eq_true rfl) fun t1 ht1 => ?_
        walk_at "rd"
        refine r_new (Nat.le_of_ble_eq_true rfl) fun t2 ht2 => ?_
        refine y _ _ _ ((same_up ht1).trans (same_up ht2)) rfl ⟨t2, .ref t1, rfl, upd_same, at_spot (same_up ht2 _ _ upd_same)⟩
      · walk_at "rd"
        refine (LL.same sH).ext lD ?_ (fun H2 l3 kp ne => ?_)
        · have := leave_len M s.p M.moves.length
          have := List.length_filterMap_le (fun e : Lv => some (⟨false, e.k, ⟨e.g, s.q, e.r⟩⟩ : Sm)) (leaveF M s.p M.moves.length)
          rw [List.length_nil]
          omega
        · refine ⟨_, _, _, rfl, fun b o h => ?_, ?_⟩
          · rw [ne b (ne_of_none h hL)]
            exact sH _ _ (sL _ _ h)
          · rw [List.nil_append, fm_some] at l3
            exact l3
    · have ho : ¬ s.o = emS := fun z => e (by rw [z])
      rw [if_neg ho]
      exact ⟨_, _, _, rfl, same_up hL, LsAt.new⟩
  · obtain ⟨x6, x7, x8, rfl, s1, lL⟩ := p
    have B1 := B.same s1
    refine r_seq ?_
    refine r_forA (a := a2) (R := RLv) (xs := leaveF M s.q M.moves.length) (fun i σ H' => ∃ x6 x7 x8, σ = [some (.ref x), some (.ref a), some (.int s.p), some (.int s.q), some (.str s.o), some (.ref L), x6, x7, x8] ∧ Same H H' ∧ Keep H1 H' ∧ LsAt RStep L ((if s.o = emS then (leaveF M s.p M.moves.length).map fun e => ⟨false, e.k, ⟨e.g, s.q, e.r⟩⟩ else []) ++ ((leaveF M s.q M.moves.length).take i).filterMap fun e => if e.r = s.o then some ⟨true, e.k, ⟨s.p, e.g, emS⟩⟩ else none) H')
      (fun R h => ?_) (l2.same s1) ⟨_, _, _, rfl, s1, Keep.refl _, by rw [List.take_zero, List.filterMap_nil, List.append_nil]; exact lL⟩ (fun i σ H' _ p => ?_) (fun i v e σ H' hx hv p => ?_) (fun σ H' p => ?_)
    · have fl2 := B1.f_leaving
      have hlv2 := B1.hlv
      walk_at "rd"
      exact h
    · obtain ⟨_, _, _, _, z1, z2, _⟩ := p
      refine ⟨z2, ?_⟩
      obtain ⟨us, e1, _⟩ := l2
      rw [z1 _ _ e1, s1 _ _ e1]
    · obtain ⟨x6, x7, x8, rfl, z1, z2, z3⟩ := p
      obtain ⟨b, rfl, hb⟩ := hv
      have hb2 := SqT.of (K := K) hb
      have tk : (leaveF M s.q M.moves.length).take (i + 1) = (leaveF M s.q M.moves.length).take i ++ [e] := by rw [List.take_add_one, hx]; rfl
      walk_at "rd"
      refine r_both (fun er => ?_) (fun er => ?_)
      · have er' : e.r = s.o := V.str.inj er
        walk_at "rd"
        obtain ⟨us, u1, u2⟩ := id z3
        refine r_tyL (SqL.of u1) ?_
        obtain ⟨_, tf⟩ := T.c_SECOND
        walk_at "rd"
        refine r_new (Nat.le_of_ble_eq_true rfl) fun t1 ht1 => ?_
        walk_at "rd"
        refine r_new (Nat.le_of_ble_eq_true rfl) fun t2 ht2 => ?_
        walk_at "rd"
        have s2 : Same H' (upd (upd H' t1 (.tup [.int s.p, .int e.g, .str emS])) t2 (.tup [.int 1, .int (e.k : Int), .ref t1])) := (same_up ht1).trans (same_up ht2)
        refine (z3.same s2).app (x := ⟨true, e.k, ⟨s.p, e.g, emS⟩⟩) ⟨t2, .ref t1, rfl, upd_same, at_spot (same_up ht2 _ _ upd_same)⟩ ?_ (fun H4 l4 kp ne => ?_)
        · have h1 := leave_len M s.q M.moves.length
          have h2 := leave_len M s.p M.moves.length
          rw [List.length_append]
          have h3 := List.length_filterMap_le (fun e : Lv => if e.r = s.o then some (⟨true, e.k, ⟨s.p, e.g, emS⟩⟩ : Sm) else none) ((leaveF M s.q M.moves.length).take i)
          rw [List.length_take] at h3
          have h4 : (if s.o = emS then (leaveF M s.p M.moves.length).map fun e => (⟨false, e.k, ⟨e.g, s.q, e.r⟩⟩ : Sm) else []).length ≤ (leaveF M s.p M.moves.length).length := by
            split
            · rw [List.length_map]; exact Nat.le_refl _
            · exact Nat.zero_le _
          omega
        · refine ⟨_, _, _, rfl, fun b o h => ?_, z2.trans ((keep_of s2).trans kp), ?_⟩
          · rw [ne b (ne_of_none h hL)]
            exact s2 _ _ (z1 _ _ h)
          · rw [tk, List.filterMap_append, List.filterMap_cons_some (b := ⟨true, e.k, ⟨s.p, e.g, emS⟩⟩) (by rw [if_pos er']), List.filterMap_nil, ← List.append_assoc]
            exact l4
      · have er' : ¬ e.r = s.o := fun z => er (by rw [z])
        refine ⟨_, _, _, rfl, z1, z2, ?_⟩
        rw [tk, List.filterMap_append, List.filterMap_cons_none (by rw [if_neg er']), List.filterMap_nil, List.append_nil]
        exact z3
    · obtain ⟨x6, x7, x8, rfl, z1, z2, z3⟩ := p
      rw [List.take_length] at z3
      walk_at "rd"
      exact q H' L z1 hL z3

end
end Tw


namespace Tw
open PySem L2
section
variable {P : Program} {w : World} {K : PySem.W.Frag} {mg : Str → Option Value} {base : Heap} {CS CG aN : Addr}
/-- for each spot that two ways can come to, the steps to it -/
def BefAt (M : Mc) (d : Addr) (W : List Sq) (as : List Addr) (H : Hp) : Prop := Td RRef d W as H ∧ LL REn as (W.map (entsF M W)) H ∧ ∀ s, s ∈ W ↔ RcS M s
-- Square_found_before
abbrev s_Square_found_before : Stmt := inClass (top 13) 4
abbrev N_Square_found_before : List Str := ["self", "before", "waiting", "at", "spot", "side", "index", "then"]
theorem sc_Square_found_before : FnScope N_Square_found_before ["self"] (defScope s_Square_found_before) := ⟨rfl, rfl, rfl, by decide +kernel, rfl, by decide +kernel, by decide +kernel⟩

def spBefore (K : PySem.W.Frag) (C : Addr) : Sp := fun vs H Q _ => ∃ (x : Addr) (M : Mc) (l lv ft ed : Addr) (qs : List V) (as : List Addr) (eks : List Int), vs = [.ref x] ∧ SqB K C H x M l lv ft ed qs as eks ∧ M.Ok ∧
  ∀ (H' : Hp) (d : Addr) (W : List Sq) (bs : List Addr), Same H H' → H d = none → BefAt M d W bs H' → Q (.ref d) H'
/-- between two turns -/
structure BefInv (M : Mc) (H : Hp) (d L : Addr) (W : List Sq) (bs : List Addr) (f : Sq → List En) (H' : Hp) : Prop where
  s : Same H H'
  hd : H d = none
  hL : H L = none
  lL : LsAt RSpot L W H'
  td : Td RRef d W bs H'
  ll : LL REn bs (W.map f) H'
  nb : ∀ b ∈ bs, H b = none ∧ b ≠ L
  z : W[0]? = some (fstOf M)
  rc : ∀ s ∈ W, RcS M s
theorem BefInv.up {M : Mc} {H H' H'' : Hp} {d L : Addr} {W : List Sq} {bs : List Addr} {f : Sq → List En} (h : BefInv M H d L W bs f H') (e : Same H' H'') : BefInv M H d L W bs f H'' :=
  ⟨h.s.trans e, h.hd, h.hL, h.lL.same e, h.td.same e, h.ll.same e, h.nb, h.z, h.rc⟩
theorem BefInv.few {M : Mc} (ok : M.Ok) {H H' : Hp} {d L : Addr} {W : List Sq} {bs : List Addr} {f : Sq → List En} (h : BefInv M H d L W bs f H') : W.length ≤ 110000 := sq_few ok h.td.nd fun s hs => RcS.ok ok (h.rc s hs)
theorem ok_Square_found_before (F : MetAt K CS "found_before" "Square.found_before" s_Square_found_before) (T : TxtS K mg CS CG aN) (c_Square_steps : CalM P w K mg base CX0 1 CS "steps" ["self", "spot"] (spSteps K CS)) :
    CalM P w K mg base CX0 2 CS "found_before" ["self"] (spBefore K CS) := by
  refine F.cal sc_Square_found_before (fun _ _ _ _ _ _ us hl => match us, hl with | [_], _ => rfl) (fun vs H Q E h => by obtain ⟨_, _, _, _, _, _, _, _, _, rfl, _⟩ := h; rfl) (fun f cdv A outer s H vs Q E hr h => ?_)
  obtain ⟨x, M, l, lv, ft, ed, qs, as, eks, rfl, B, ok, q⟩ := h
  have ff := B.f_first
  have hft := B.hft
  refine ⟨_, (pss_cons (ps_set (i := 1) sc_Square_found_before.nd rfl (Or.inl rfl) (pe_dispT1 hr.units0 (pe_fld (pv 0) rfl) (pe_lst pa_nil)))
  (pss_cons (ps_set (i := 2) sc_Square_found_before.nd rfl (Or.inl rfl) (pe_lst (pa_cons (pe_fld (pv 0) rfl) pa_nil)))
  (pss_cons (ps_set (i := 3) sc_Square_found_before.nd rfl (Or.inl rfl) pe_int)
  (pss_cons (ps_while PassesOwn.never (pt_cmpR op_lt (pv 3) (pe_callB call_lenQ (by rfl) T.n_len PySem.boot_len (pa_cons (pv 2) pa_nil)) (nomark _))
    (pss_cons (ps_set (i := 4) sc_Square_found_before.nd rfl (Or.inl rfl) (pe_ix ix_list (pv 2) (pv 3) (fun _ _ => rfl)))
  (pss_cons (ps_for PassesOwn.never rfl (pi_list (pe_methC T.cl_Square c_Square_steps hr (by decide) (pv 0) (pa_cons (pv 4) pa_nil))) (pg_tup (by rfl) (pgs_cons (pg_name (i := 5) sc_Square_found_before.nd rfl (Or.inl rfl)) (pgs_cons (pg_name (i := 6) sc_Square_found_before.nd rfl (Or.inl rfl)) (pgs_cons (pg_name (i := 7) sc_Square_found_before.nd rfl (Or.inl rfl)) pgs_nil))))
    (Evl.pss_cut (ps_if (pt_cmp (pc_dnotin (lt64 hr.units) (pv 7) (pv 1)))
    (pss_cons (ps_dput (lt64 hr.units) (pv 1) (pv 7) (pe_lst pa_nil) rfl)
  (pss_one (ps_expr (pe_bm PySem.F.plainAttrs_list PySem.F.slot_list_append PySem.F.type_list_append mt_append (pv 2) (pa_cons (pv 7) pa_nil)))))
    pss_nil)
  (pss_one (ps_expr (pe_bm PySem.F.plainAttrs_list PySem.F.slot_list_append PySem.F.type_list_append mt_append (pe_dget (lt64 hr.units) (pv 1) (pv 7) (fun _ _ => rfl)) (pa_cons (pe_tup (pa_cons (pv 4) (pa_cons (pv 5) (pa_cons (pv 6) pa_nil)))) pa_nil))))))
  (pss_one (ps_aug (i := 3) sc_Square_found_before.nd rfl (Or.inl rfl) pe_int ip_add)))))
  (pss_one (ps_ret (pv 1))))))), ?_⟩
  refine r_start (σ' := [some (.ref x), none, none, none, none, none, none, none]) rfl ?_
  walk_at "rd"
  intro d hd
  have sd : Same H (upd H d (.dT [])) := same_up hd
  walk_at "rd"
  refine r_new (Nat.zero_le _) fun b0 hb0 => ?_
  have nbd : b0 ≠ d := fun e => by rw [e, upd_same] at hb0; cases hb0
  have sb : Same H (upd (upd H d (.dT [])) b0 (.lst [])) := sd.trans (same_up hb0)
  have hb0' : H b0 = none := sd.free hb0
  obtain ⟨ta, eta, hta⟩ := spot_at hft
  obtain rfl : ft = ta := by injection eta
  refine ⟨ft, [.inl M.b, .inl M.b, .inr emS], rfl, sb _ _ hta, by rw [upd_ne nbd.symm, upd_same], ?_⟩
  obtain ⟨H1, e1⟩ : ∃ H1, H1 = upd (upd (upd H d (.dT [])) b0 (.lst [])) d (.dT [([.inl M.b, .inl M.b, .inr emS], .ref b0)]) := ⟨_, rfl⟩
  rw [← e1]
  have s1 : Same H H1 := by
    rw [e1]
    exact same_mut sb hd
  have td1 : Td RRef d [fstOf M] [b0] H1 := by
    rw [e1]
    exact ⟨⟨[.ref b0], upd_same, Al.one rfl⟩, rfl, by simp⟩
  have lb1 : LsAt REn b0 [] H1 := by
    rw [e1]
    exact ⟨[], by rw [upd_ne nbd, upd_same], .nil⟩
  walk_at "rd"
  refine r_new (Nat.le_of_ble_eq_true rfl) fun L hL => ?_
  walk_at "rd"
  have hL' : H L = none := s1.free hL
  have nbL : b0 ≠ L := lb1.ne_none hL
  have I0 : BefInv M H d L [fstOf M] [b0] (entsF M []) (upd H1 L (.lst [.ref ft])) := by
    have s2 : Same H1 (upd H1 L (.lst [.ref ft])) := same_up hL
    refine ⟨s1.trans s2, hd, hL', ⟨_, upd_same, Al.one (Stay.st (keep_of (s1.trans s2)) hft)⟩, td1.same s2, ?_, fun b hb => ?_, rfl, fun s hs => ?_⟩
    · exact LL.push (as := []) (xss := []) LL.nil (lb1.same s2) (fun h => nomatch h)
    · rw [List.mem_singleton.mp hb]
      exact ⟨hb0', nbL⟩
    · rw [List.mem_singleton.mp hs]
      exact RcS.first
  refine r_while (fun m σ H' => ∃ (W : List Sq) (bs : List Addr) (n : Nat) (x4 x5 x6 x7 : Option V), m = 110001 - n ∧ σ = [some (.ref x), some (.ref d), some (.ref L), some (.int (n : Int)), x4, x5, x6, x7] ∧ n ≤ W.length ∧ BefInv M H d L W bs (entsF M (W.take n)) H' ∧
    ∀ (i : Nat) s, i < n → W[i]? = some s → ∀ e, SStep M s e → e.t ∈ W) _ ⟨_, _, 0, none, none, none, none, rfl, rfl, Nat.zero_le _, I0, fun i s h => absurd h (Nat.not_lt_zero _)⟩ (fun m σ H2 hw QT hT hF => ?_)
  obtain ⟨W, bs, n, x4, x5, x6, x7, rfl, rfl, hn, I, cl⟩ := hw
  obtain ⟨vsL, lL1, lL2⟩ := id I.lL
  have sqL := SqL.of (K := K) lL1
  walk_at "rd"
  rw [lL2.len]
  refine r_qt (fun lt => hT _ ?_) (fun ge => hF _ ?_)
  · have hnl : n < W.length := by omega
    have fW := I.few ok
    obtain ⟨s, hs⟩ : ∃ s, W[n]? = some s := ⟨W[n], List.getElem?_eq_getElem hnl⟩
    obtain ⟨v, hv, rv⟩ := lL2.ix hs
    have rs := I.rc s (List.mem_of_getElem? hs)
    walk_at "rd"
    refine r_forV ?_
    have B2 := B.same I.s
    have ms := B2.m_steps
    walk_at "rd"
    refine ⟨x, v, M, s, l, lv, ft, ed, qs, as, eks, rfl, B2, ok, rv, RcS.ok ok rs, fun H3 p s3 hp lp => ?_⟩
    have I3 := I.up s3
    have pn0 : p ∉ bs := fun z => by
      obtain ⟨_, e1⟩ := I.ll.mem_lst z
      rw [hp] at e1
      cases e1
    have rv3 : RSpot H3 v s := Stay.st (keep_of s3) rv
    refine r_forA (a := p) (R := RStep) (xs := stepsF M s) (fun j σ H' => ∃ (W2 : List Sq) (bs2 : List Addr) (x5 x6 x7 : Option V), σ = [some (.ref x), some (.ref d), some (.ref L), some (.int (n : Int)), some v, x5, x6, x7] ∧ BefInv M H d L W2 bs2 (fun t => entsF M (W.take n) t ++ ents1 s ((stepsF M s).take j) t) H' ∧
      Std p H3 H' ∧ p ∉ bs2 ∧ W <+: W2 ∧ ∀ (i : Nat) e, i < j → (stepsF M s)[i]? = some e → e.t ∈ W2) (fun R h => h) lp ⟨W, bs, _, _, _, rfl, ?_, Std.refl _ _, pn0, List.prefix_refl _, fun i e h => absurd h (Nat.not_lt_zero _)⟩ (fun i σ H' _ p => ?_) (fun j u e σ H' he hu p => ?_) (fun σ H' p => ?_)
    · have e0 : (fun t => entsF M (W.take n) t ++ ents1 s ((stepsF M s).take 0) t) = entsF M (W.take n) := by
        funext t
        rw [List.take_zero]
        exact List.append_nil _
      rw [e0]
      exact I3
    · obtain ⟨_, _, _, _, _, _, _, z, _⟩ := p
      exact z
    · obtain ⟨W2, bs2, x5, x6, x7, rfl, J, sd3, pn, pre, don⟩ := p
      obtain ⟨ua, tv, rfl, hua, htv⟩ := hu
      have hua' := SqT.of (K := K) hua
      have st : SStep M s e := steps_mem.mp (List.mem_of_getElem? he)
      have rt : RcS M e.t := rs.step st
      have tk : (stepsF M s).take (j + 1) = (stepsF M s).take j ++ [e] := by rw [List.take_add_one, he]; rfl
      walk_at "rd"
      refine r_cut (fun σ H4 => ∃ (W3 : List Sq) (bs3 : List Addr), σ = [some (.ref x), some (.ref d), some (.ref L), some (.int (n : Int)), some v, some (.int (bI e.b)), some (.int (e.k : Int)), some tv] ∧ BefInv M H d L W3 bs3 (fun t => entsF M (W.take n) t ++ ents1 s ((stepsF M s).take j) t) H4 ∧
        Std p H3 H4 ∧ p ∉ bs3 ∧ W2 <+: W3 ∧ e.t ∈ W3 ∧ Keep H' H4) ?_ (fun σ H4 z => ?_)
      · walk_at "rd"
        obtain ⟨o, g1, g2⟩ := J.td.in_ htv
        refine ⟨d, o, rfl, g1, ?_⟩
        walk_at "rd"
        cases ho : o.isSome with
        | true => exact r_nt ⟨W2, bs2, rfl, J, sd3, pn, List.prefix_refl _, g2.mp ho, Keep.refl _⟩
        | false =>
          have hnew : e.t ∉ W2 := fun z => by
            have := g2.mpr z
            rw [ho] at this
            cases this
          refine r_nf ?_
          walk_at "rd"
          refine r_new (Nat.zero_le _) fun b hb => ?_
          walk_at "rd"
          have hbH : H b = none := J.s.free hb
          have J2 := J.up (same_up (o := .lst []) hb)
          have htv2 : RSpot (upd H' b (.lst [])) tv e.t := Stay.st (keep_of (same_up hb)) htv
          obtain ⟨H5, p5, td5, kp5, ne5⟩ := J2.td.put (x := b) (u := .ref b) htv2 hnew rfl (Nat.lt_of_le_of_lt (J.few ok) (by decide))
          refine ⟨d, H5, rfl, p5, ?_⟩
          walk_at "rd"
          have nbL2 : b ≠ L := fun z => by
            obtain ⟨_, e1, _⟩ := J.lL
            rw [z, e1] at hb
            cases hb
          have nbd2 : b ≠ d := fun z => by
            obtain ⟨_, e1, _⟩ := J.td.h
            rw [z, e1] at hb
            cases hb
          have nLd : L ≠ d := fun z => by
            obtain ⟨_, e1, _⟩ := J.td.h
            obtain ⟨_, e2, _⟩ := J.lL
            rw [z, e1] at e2
            cases e2
          have hbn : b ∉ bs2 := fun z => by
            obtain ⟨_, e1⟩ := J.ll.mem_lst z
            rw [e1] at hb
            cases hb
          have nbd3 : ∀ c ∈ bs2, c ≠ d := fun c hc z => by
            obtain ⟨_, e1⟩ := J.ll.mem_lst hc
            obtain ⟨_, e2, _⟩ := J.td.h
            rw [z, e2] at e1
            cases e1
          have lL5 : LsAt RSpot L W2 H5 := J2.lL.fr kp5 (ne5 L nLd)
          have ll5 := J2.ll.fr kp5 (fun c hc => ne5 c (nbd3 c hc))
          have lb5 : LsAt REn b [] H5 := (LsAt.new (R := REn)).fr kp5 (ne5 b nbd2)
          have htv5 : RSpot H5 tv e.t := Stay.st kp5 htv2
          obtain ⟨vs5, q51, q52⟩ := id lL5
          refine r_tyL (SqL.of q51) ?_
          walk_at "rd"
          refine lL5.app htv5 (Nat.lt_of_le_of_lt (J.few ok) (by decide)) (fun H6 lL6 kp6 ne6 => ?_)
          have emp : entsF M (W.take n) e.t ++ ents1 s ((stepsF M s).take j) e.t = [] := by
            refine List.eq_nil_iff_forall_not_mem.mpr fun a ha => ?_
            rcases List.mem_append.mp ha with ha | ha
            · obtain ⟨h1, h2⟩ := ents_mem.mp ha
              obtain ⟨i, hi⟩ := List.getElem?_of_mem h1
              rw [List.getElem?_take] at hi
              split at hi
              · exact hnew (pre.subset (cl i _ (by assumption) hi ⟨a.b, a.k, e.t⟩ h2))
              · cases hi
            · obtain ⟨_, e', he', ht', _⟩ := ents1_mem.mp ha
              obtain ⟨i, hi⟩ := List.getElem?_of_mem he'
              rw [List.getElem?_take] at hi
              split at hi
              · exact hnew (by rw [← ht']; exact don i e' (by assumption) hi)
              · cases hi
          refine ⟨W2 ++ [e.t], bs2 ++ [b], rfl, ⟨fun c o h => ?_, J.hd, J.hL, lL6, td5.fr kp6 (ne6 d nLd.symm), ?_, fun c hc => ?_, ?_, fun c hc => ?_⟩, ⟨?_, ?_⟩, fun z => ?_, List.prefix_append _ _, List.mem_append_right _ List.mem_cons_self, (keep_of (same_up hb)).trans (kp5.trans kp6)⟩
          · rw [ne6 c (ne_of_none h J.hL), ne5 c (ne_of_none h J.hd)]
            exact J2.s _ _ h
          · rw [List.map_append]
            refine LL.push (ll5.fr kp6 fun c hc => ne6 c (J.nb c hc).2) ?_ hbn
            dsimp only
            rw [emp]
            exact lb5.fr kp6 (ne6 b nbL2)
          · rcases List.mem_append.mp hc with hc | hc
            · exact J.nb c hc
            · rw [List.mem_singleton.mp hc]
              exact ⟨hbH, nbL2⟩
          · rw [List.getElem?_append_left (List.getElem?_eq_some_iff.mp J.z).1]
            exact J.z
          · rcases List.mem_append.mp hc with hc | hc
            · exact J.rc c hc
            · rw [List.mem_singleton.mp hc]
              exact rt
          · exact sd3.1.trans ((keep_of (same_up hb)).trans (kp5.trans kp6))
          · obtain ⟨us, u1, _⟩ := lp
            have hpH : H2 p = none := hp
            have n1 : p ≠ L := fun z => by rw [z, lL1] at hpH; cases hpH
            have n2 : p ≠ d := fun z => by
              obtain ⟨_, e2, _⟩ := I.td.h
              rw [z, e2] at hpH; cases hpH
            have n3 : p ≠ b := fun z => by
              have := sd3.2
              rw [z, hb, ← z, u1] at this
              cases this
            rw [ne6 p n1, ne5 p n2, upd_ne n3]
            exact sd3.2
          · rcases List.mem_append.mp z with z | z
            · exact pn z
            · obtain ⟨us, u1, _⟩ := lp
              have := sd3.2
              rw [List.mem_singleton.mp z, hb, ← List.mem_singleton.mp z, u1] at this
              cases this
      · obtain ⟨W3, bs3, rfl, J3, sd4, pn3, pre3, mem, kp4⟩ := z
        obtain ⟨i, hi⟩ := List.getElem?_of_mem mem
        have htv4 : RSpot H4 tv e.t := Stay.st kp4 htv
        have rv4 : RSpot H4 v s := Stay.st (sd4.1) rv3
        walk_at "rd"
        obtain ⟨u, b, dg, hb, rfl⟩ := J3.td.get htv4 hi
        refine ⟨d, .ref b, rfl, dg, ?_⟩
        have hx : (W3.map fun t => entsF M (W.take n) t ++ ents1 s ((stepsF M s).take j) t)[i]? = some (entsF M (W.take n) e.t ++ ents1 s ((stepsF M s).take j) e.t) := by
          rw [List.getElem?_map, hi]
          rfl
        obtain ⟨vb, hb1, hb2⟩ := J3.ll.at_ i b _ hb hx
        refine r_tyL (SqL.of hb1) ?_
        walk_at "rd"
        refine r_new (Nat.le_of_ble_eq_true rfl) fun t1 ht1 => ?_
        walk_at "rd"
        have J4 := J3.up (same_up (o := .tup [v, .int (bI e.b), .int (e.k : Int)]) ht1)
        refine J4.ll.app (x := ⟨s, e.b, e.k⟩) hb hx ⟨t1, v, rfl, upd_same, Stay.st (keep_of (same_up ht1)) rv4⟩ ?_ (fun H5 ll5 kp5 ne5 => ?_)
        · have f1 := ents_few (M := M) (Ws := W.take (n + 1)) (t := e.t) ok (I.td.nd.sublist (List.take_sublist _ _))
          have e1 : W.take (n + 1) = W.take n ++ [s] := by rw [List.take_add_one, hs]; rfl
          rw [e1, ents_snoc, List.length_append] at f1
          rw [List.length_append]
          have f2 : (ents1 s ((stepsF M s).take j) e.t).length ≤ (ents1 s (stepsF M s) e.t).length := by
            unfold ents1
            exact ((List.take_sublist j (stepsF M s)).filterMap _).length_le
          omega
        · have nbL : b ≠ L := (J3.nb b (List.mem_of_getElem? hb)).2
          have nbd : b ≠ d := fun z => by
            obtain ⟨_, e2, _⟩ := J3.td.h
            rw [z, e2] at hb1
            cases hb1
          have ef : (W3.map fun t => entsF M (W.take n) t ++ ents1 s ((stepsF M s).take j) t).set i (entsF M (W.take n) e.t ++ ents1 s ((stepsF M s).take j) e.t ++ [⟨s, e.b, e.k⟩]) = W3.map fun t => entsF M (W.take n) t ++ ents1 s ((stepsF M s).take (j + 1)) t := by
            have z := map_set (f := fun t => entsF M (W.take n) t ++ ents1 s ((stepsF M s).take j) t) (g := fun t => entsF M (W.take n) t ++ ents1 s ((stepsF M s).take (j + 1)) t) (i := i) (a := e.t) J3.td.nd hi (fun t _ ht => ?_)
            · rw [← z]
              congr 1
              rw [tk, ents1_snoc, if_pos rfl, List.append_assoc]
            · rw [tk, ents1_snoc, if_neg (fun z => ht z.symm), List.append_nil]
          rw [ef] at ll5
          refine ⟨W3, bs3, _, _, _, rfl, ⟨fun c o h => ?_, J3.hd, J3.hL, J4.lL.fr kp5 (ne5 L nbL.symm), J4.td.fr kp5 (ne5 d nbd.symm), ll5, J3.nb, J3.z, J3.rc⟩, ⟨sd4.1.trans ((keep_of (same_up ht1)).trans kp5), ?_⟩, pn3, pre.trans pre3, fun c e' hc he' => ?_⟩
          · rw [ne5 c (ne_of_none h (J3.nb b (List.mem_of_getElem? hb)).1)]
            exact J4.s _ _ h
          · have hpb : p ≠ b := fun z => pn3 (by rw [z]; exact List.mem_of_getElem? hb)
            have hpt : p ≠ t1 := fun z => by
              obtain ⟨us, u1, _⟩ := lp
              have hp2 := sd4.2
              rw [u1, z, ht1] at hp2
              cases hp2
            rw [ne5 p hpb, upd_ne hpt]
            exact sd4.2
          · rcases Nat.lt_or_ge c j with hc' | hc'
            · exact pre3.subset (don c e' hc' he')
            · have : c = j := by omega
              subst this
              rw [he] at he'
              cases he'
              exact mem
    · obtain ⟨W2, bs2, x5, x6, x7, rfl, J, sd3, pn, pre, don⟩ := p
      rw [List.take_length] at J
      have e1 : W2.take (n + 1) = W.take n ++ [s] := by
        have h1 : W2.take (n + 1) = W.take (n + 1) := by
          obtain ⟨r, hr⟩ := pre
          rw [← hr, List.take_append_of_le_length (by omega)]
        rw [h1, List.take_add_one, hs]
        rfl
      have ef : (fun t => entsF M (W.take n) t ++ ents1 s (stepsF M s) t) = entsF M (W2.take (n + 1)) := by
        funext t
        rw [e1, ents_snoc]
      rw [ef] at J
      walk_at "rd"
      refine ⟨110001 - (n + 1), ?_, W2, bs2, n + 1, _, _, _, _, rfl, rfl, ?_, J, fun i t hi ht e se => ?_⟩
      · omega
      · have := pre.length_le
        omega
      · rcases Nat.lt_or_ge i n with hi' | hi'
        · have hW : W[i]? = some t := by
            obtain ⟨r, hr⟩ := pre
            rw [← hr, List.getElem?_append_left (by omega)] at ht
            exact ht
          exact pre.subset (cl i t hi' hW e se)
        · have : i = n := by omega
          subst this
          have hW : W[i]? = some t := by
            obtain ⟨r, hr⟩ := pre
            rw [← hr, List.getElem?_append_left hnl] at ht
            exact ht
          rw [hs] at hW
          cases hW
          obtain ⟨j, hj⟩ := List.getElem?_of_mem (steps_mem.mpr se)
          exact don j e (List.getElem?_eq_some_iff.mp hj).1 hj
  · have hnl : n = W.length := by omega
    subst hnl
    rw [List.take_length] at I
    walk_at "rd"
    refine q H2 d W bs I.s hd ⟨I.td, I.ll, fun s => ⟨I.rc s, fun hs => ?_⟩⟩
    obtain ⟨mv, y1, y2, p⟩ := hs
    have : ∀ (k : Nat) {mv : List (Bool × Nat)} {t : Sq} {y1 y2 : List Nat}, mv.length = k → SPath M (fstOf M) mv t y1 y2 → t ∈ W := by
      intro k
      induction k with
      | zero =>
        intro mv t y1 y2 hk p
        obtain rfl := List.length_eq_zero_iff.mp hk
        obtain ⟨rfl, _, _⟩ := p.nil_inv
        exact List.mem_of_getElem? I.z
      | succ k ih =>
        intro mv t y1 y2 hk p
        rcases List.eq_nil_or_concat mv with rfl | ⟨mv0, a, rfl⟩
        · cases hk
        · rw [List.concat_eq_append] at p hk
          obtain ⟨e, t0, _, _, p0, st, _, rfl, _, _⟩ := p.unsnoc
          obtain ⟨i, hi⟩ := List.getElem?_of_mem (ih (by rw [List.length_append] at hk; exact Nat.succ.inj hk) p0)
          exact cl i t0 (List.getElem?_eq_some_iff.mp hi).1 hi e st
    exact this _ rfl p

end
end Tw


namespace Tw
open PySem L2
section
variable {P : Program} {w : World} {K : PySem.W.Frag} {mg : Str → Option Value} {base : Heap} {CS CG aN : Addr}
/-- from where both ways come to an end, and by which step -/
def RestAt (M : Mc) (d : Addr) (W : List Sq) (ds : List (Option Sm)) (H : Hp) : Prop := Td (ROpt RStep) d W ds H ∧ (∀ s, s ∈ W ↔ RcS M s ∧ LvS M s) ∧
  ∀ (i : Nat) s o, W[i]? = some s → ds[i]? = some o → (o = none ∧ LastS M s) ∨ ∃ e j, o = some e ∧ ¬ LastS M s ∧ SStep M s e ∧ j < i ∧ W[j]? = some e.t
theorem RestAt.same {M : Mc} {d : Addr} {W : List Sq} {ds : List (Option Sm)} {H H' : Hp} (h : RestAt M d W ds H) (e : Same H H') : RestAt M d W ds H' := ⟨h.1.same e, h.2⟩
-- Square_found_rest
abbrev s_Square_found_rest : Stmt := inClass (top 13) 3
abbrev N_Square_found_rest : List Str := ["self", "before", "rest", "waiting", "at", "then", "spot", "side", "index"]
theorem sc_Square_found_rest : FnScope N_Square_found_rest ["self"] (defScope s_Square_found_rest) := ⟨rfl, rfl, rfl, by decide +kernel, rfl, by decide +kernel, by decide +kernel⟩

def spRest (K : PySem.W.Frag) (C : Addr) : Sp := fun vs H Q _ => ∃ (x : Addr) (M : Mc) (l lv ft ed : Addr) (qs : List V) (as : List Addr) (eks : List Int), vs = [.ref x] ∧ SqB K C H x M l lv ft ed qs as eks ∧ M.Ok ∧
  ∀ (H' : Hp) (d : Addr) (W : List Sq) (ds : List (Option Sm)), Same H H' → H d = none → RestAt M d W ds H' → Q (.ref d) H'
structure RestInv (M : Mc) (H : Hp) (rd L : Addr) (WB W : List Sq) (ds : List (Option Sm)) (H' : Hp) : Prop where
  s : Same H H'
  hd : H rd = none
  hL : H L = none
  lL : LsAt RSpot L W H'
  td : Td (ROpt RStep) rd W ds H'
  sub : ∀ s ∈ W, s ∈ WB ∧ LvS M s
  las : ∀ s ∈ WB, LastS M s → s ∈ W
  val : ∀ (i : Nat) s o, W[i]? = some s → ds[i]? = some o → (o = none ∧ LastS M s) ∨ ∃ e j, o = some e ∧ ¬ LastS M s ∧ SStep M s e ∧ j < i ∧ W[j]? = some e.t
theorem ok_Square_found_rest (F : MetAt K CS "found_rest" "Square.found_rest" s_Square_found_rest) (T : TxtS K mg CS CG aN) (c_Square_found_before : CalM P w K mg base CX0 2 CS "found_before" ["self"] (spBefore K CS))
    (c_Square_is_last : CalM P w K mg base CX0 1 CS "is_last" ["self", "spot"] (spIsLast K CS)) : CalM P w K mg base CX0 3 CS "found_rest" ["self"] (spRest K CS) := by
  refine F.cal sc_Square_found_rest (fun _ _ _ _ _ _ us hl => match us, hl with | [_], _ => rfl) (fun vs H Q E h => by obtain ⟨_, _, _, _, _, _, _, _, _, rfl, _⟩ := h; rfl) (fun f cdv A outer s H vs Q E hr h => ?_)
  obtain ⟨x, M, l, lv, ft, ed, qs, as, eks, rfl, B, ok, q⟩ := h
  have mb := B.m_found_before
  refine ⟨_, (pss_cons (ps_set (i := 1) sc_Square_found_rest.nd rfl (Or.inl rfl) (pe_meth0C T.cl_Square c_Square_found_before hr (by decide) (pv 0)))
  (pss_cons (ps_lock (ps_setDcP (i := 2) (own := [("spot", 6)]) (g := (gName 6)) (dkT hr.units0) rfl sc_Square_found_rest.nd rfl rfl (sw_trueD rfl rfl rfl (by decide +kernel)) (pi_keys (pv 1)) (blkOk_by (N := N_Square_found_rest) (sc := defScope s_Square_found_rest) (by decide +kernel)) (fun _ _ _ _ _ => (pg_name (i := 6) sc_Square_found_rest.nd rfl (Or.inl rfl))) (fun _ _ _ _ _ => pts_one (pt_val (pe_methC T.cl_Square c_Square_is_last hr (by decide) (pv 0) (pa_cons (pv 6) pa_nil)))) (fun _ _ _ _ _ => (pv 6)) (fun _ _ _ _ _ => pe_non)))
  (pss_cons (ps_set (i := 3) sc_Square_found_rest.nd rfl (Or.inl rfl) (pe_callTy (call_list_dT rfl) (by rfl) T.n_list (by decide +kernel) (pa_cons (pv 2) pa_nil)))
  (pss_cons (ps_set (i := 4) sc_Square_found_rest.nd rfl (Or.inl rfl) pe_int)
  (pss_cons (ps_while PassesOwn.never (pt_cmpR op_lt (pv 4) (pe_callB call_lenQ (by rfl) T.n_len PySem.boot_len (pa_cons (pv 3) pa_nil)) (nomark _))
    (pss_cons (ps_set (i := 5) sc_Square_found_rest.nd rfl (Or.inl rfl) (pe_ix ix_list (pv 3) (pv 4) (fun _ _ => rfl)))
  (pss_cons (ps_for PassesOwn.never rfl (pi_list (pe_dget (lt64 hr.units) (pv 1) (pv 5) (fun _ _ => rfl))) (pg_tup (by rfl) (pgs_cons (pg_name (i := 6) sc_Square_found_rest.nd rfl (Or.inl rfl)) (pgs_cons (pg_name (i := 7) sc_Square_found_rest.nd rfl (Or.inl rfl)) (pgs_cons (pg_name (i := 8) sc_Square_found_rest.nd rfl (Or.inl rfl)) pgs_nil))))
    (pss_one (ps_if (pt_cmp (pc_dnotin (lt64 hr.units) (pv 6) (pv 2)))
    (pss_cons (ps_dput (lt64 hr.units) (pv 2) (pv 6) (pe_tup (pa_cons (pv 7) (pa_cons (pv 8) (pa_cons (pv 5) pa_nil)))) rfl)
  (pss_one (ps_expr (pe_bm PySem.F.plainAttrs_list PySem.F.slot_list_append PySem.F.type_list_append mt_append (pv 3) (pa_cons (pv 6) pa_nil)))))
    pss_nil)))
  (pss_one (ps_aug (i := 4) sc_Square_found_rest.nd rfl (Or.inl rfl) pe_int ip_add)))))
  (pss_one (ps_ret (pv 2)))))))), ?_⟩
  refine r_start (σ' := [some (.ref x), none, none, none, none, none, none, none, none]) rfl ?_
  walk_at "rd"
  refine ⟨x, M, l, lv, ft, ed, qs, as, eks, rfl, B, ok, fun H1 d WB bs s1 hd bef => ?_⟩
  have B1 := B.same s1
  have fewB : WB.length ≤ 110000 := sq_few ok bef.1.nd fun s hs => RcS.ok ok ((bef.2.2 s).mp hs)
  walk_at "rd"
  refine r_lockS ?_
  refine r_dcT (R0 := RRef) (R := ROpt RStep) (σw := [some (.ref x), some (.ref d), none, none, none, none, none, none, none]) (fun s => if LastS M s then some (none : Option Sm) else none) rfl bef.1 (fun H R h => ⟨_, rfl, h⟩) (by omega) (fun k v H' QY QN hk hv old yes no => ?_) (fun H2 rd s2 hrd T2 => ?_)
  · have s1' : Same H H' := fun b o h => old b o (ne_of_none h hd) (s1 _ _ h)
    have B2 := B.same s1'
    have ml := B2.m_is_last
    walk_at "rd"
    refine ⟨rfl, ?_⟩
    walk_at "rd"
    refine ⟨x, v, M, k, l, lv, ft, ed, qs, as, eks, rfl, B2, hv, ?_⟩
    walk_at "rd"
    refine r_both (fun la => ?_) (fun la => ?_)
    · walk_at "rd"
      exact yes _ _ _ none (Same.refl _) hv (by rw [if_pos la]) (.inl ⟨rfl, rfl⟩)
    · exact no _ (Same.refl _) (by rw [if_neg la])
  have hfil : ∀ s, s ∈ WB.filter (fun k => ((if LastS M k then some (none : Option Sm) else none) : Option (Option Sm)).isSome) ↔ s ∈ WB ∧ LastS M s := fun s => by
    rw [List.mem_filter]
    constructor
    · rintro ⟨h1, h2⟩
      refine ⟨h1, ?_⟩
      by_cases h : LastS M s
      · exact h
      · rw [if_neg h] at h2
        cases h2
    · rintro ⟨h1, h2⟩
      exact ⟨h1, by rw [if_pos h2]; rfl⟩
  have hnone : ∀ o ∈ WB.filterMap (fun k => (if LastS M k then some (none : Option Sm) else none : Option (Option Sm))), o = none := fun o ho => by
    obtain ⟨k, _, h⟩ := List.mem_filterMap.mp ho
    split at h
    · cases h; rfl
    · cases h
  obtain ⟨W0, hW0⟩ : ∃ W0, W0 = WB.filter (fun k => ((if LastS M k then some (none : Option Sm) else none) : Option (Option Sm)).isSome) := ⟨_, rfl⟩
  obtain ⟨d0, hd0⟩ : ∃ d0, d0 = WB.filterMap (fun k => (if LastS M k then some (none : Option Sm) else none : Option (Option Sm))) := ⟨_, rfl⟩
  rw [← hW0] at T2 hfil
  rw [← hd0] at T2 hnone
  walk_at "rd"
  refine r_listT T2 (fun L bsL hL lL => ?_)
  have s3 : Same H2 (upd H2 L (.lst (bsL.map V.ref))) := same_up hL
  generalize upd H2 L (.lst (bsL.map V.ref)) = H3 at s3 lL ⊢
  walk_at "rd"
  have B3 := (B1.same s2).same s3
  have I0 : RestInv M H1 rd L WB W0 d0 H3 := by
    refine ⟨s2.trans s3, hrd, s2.free hL, lL, T2.same s3, fun s hs => ?_, fun s hs la => (hfil s).mpr ⟨hs, la⟩, fun i s o h1 h2 => .inl ⟨hnone o (List.mem_of_getElem? h2), ((hfil s).mp (List.mem_of_getElem? h1)).2⟩⟩
    obtain ⟨h1, h2⟩ := (hfil s).mp hs
    exact ⟨h1, .last h2⟩
  refine r_while (fun m σ H' => ∃ (W : List Sq) (ds : List (Option Sm)) (n : Nat) (x5 x6 x7 x8 : Option V), m = 110001 - n ∧ σ = [some (.ref x), some (.ref d), some (.ref rd), some (.ref L), some (.int (n : Int)), x5, x6, x7, x8] ∧ n ≤ W.length ∧ RestInv M H1 rd L WB W ds H' ∧
    ∀ (i : Nat) s e, i < n → s ∈ WB → SStep M s e → W[i]? = some e.t → s ∈ W) _ ⟨W0, d0, 0, none, none, none, none, rfl, rfl, Nat.zero_le _, I0, fun i s e h => absurd h (Nat.not_lt_zero _)⟩ (fun m σ H4 hw QT hT hF => ?_)
  obtain ⟨W, ds, n, x5, x6, x7, x8, rfl, rfl, hn, I, cl⟩ := hw
  obtain ⟨vsL, lL1, lL2⟩ := id I.lL
  have sqL := SqL.of (K := K) lL1
  have fW : W.length ≤ 110000 := sq_few ok I.td.nd fun s hs => RcS.ok ok ((bef.2.2 s).mp (I.sub s hs).1)
  walk_at "rd"
  rw [lL2.len]
  refine r_qt (fun lt => hT _ ?_) (fun ge => hF _ ?_)
  · have hnl : n < W.length := by omega
    obtain ⟨t, ht⟩ : ∃ t, W[n]? = some t := ⟨W[n], List.getElem?_eq_getElem hnl⟩
    obtain ⟨v, hv, rv⟩ := lL2.ix ht
    have tB := (I.sub t (List.mem_of_getElem? ht)).1
    have tL := (I.sub t (List.mem_of_getElem? ht)).2
    obtain ⟨i, hi⟩ := List.getElem?_of_mem tB
    have bef4 := bef.1.same I.s
    obtain ⟨u, b, dg, hb, rfl⟩ := bef4.get rv hi
    have hx : (WB.map (entsF M WB))[i]? = some (entsF M WB t) := by rw [List.getElem?_map, hi]; rfl
    have lb : LsAt REn b (entsF M WB t) H1 := bef.2.1.at_ i b _ hb hx
    walk_at "rd"
    refine r_forA (a := b) (R := REn) (xs := entsF M WB t) (fun j σ H' => ∃ (W2 : List Sq) (ds2 : List (Option Sm)) (x6 x7 x8 : Option V), σ = [some (.ref x), some (.ref d), some (.ref rd), some (.ref L), some (.int (n : Int)), some v, x6, x7, x8] ∧ RestInv M H1 rd L WB W2 ds2 H' ∧
      Keep H4 H' ∧ W <+: W2 ∧ ∀ (i : Nat) a, i < j → (entsF M WB t)[i]? = some a → a.s ∈ W2) (fun R h => ?_) (lb.same I.s) ⟨W, ds, _, _, _, rfl, I, Keep.refl _, List.prefix_refl _, fun i e h => absurd h (Nat.not_lt_zero _)⟩ (fun i σ H' _ p => ?_) (fun j u a σ H' ha hu p => ?_) (fun σ H' p => ?_)
    · walk_at "rd"
      exact ⟨d, .ref b, rfl, dg, h⟩
    · obtain ⟨_, _, _, _, _, _, z, z2, _⟩ := p
      obtain ⟨vb, q1, _⟩ := lb
      exact ⟨z2, by rw [z.s _ _ q1, I.s _ _ q1]⟩
    · obtain ⟨W2, ds2, x6, x7, x8, rfl, J, kp, pre, don⟩ := p
      obtain ⟨ua, tv, rfl, hua, htv⟩ := hu
      have hua' := SqT.of (K := K) hua
      obtain ⟨aB, aS⟩ := ents_mem.mp (List.mem_of_getElem? ha)
      walk_at "rd"
      obtain ⟨o, g1, g2⟩ := J.td.in_ htv
      refine ⟨rd, o, rfl, g1, ?_⟩
      walk_at "rd"
      cases ho : o.isSome with
      | true =>
        refine r_nt ⟨W2, ds2, _, _, _, rfl, J, kp, pre, fun c a' hc ha' => ?_⟩
        rcases Nat.lt_or_ge c j with hc' | hc'
        · exact don c a' hc' ha'
        · have : c = j := by omega
          subst this
          rw [ha] at ha'
          cases ha'
          exact g2.mp ho
      | false =>
        have hnew : a.s ∉ W2 := fun z => by
          have := g2.mpr z
          rw [ho] at this
          cases this
        have fW2 : W2.length ≤ 110000 := sq_few ok J.td.nd fun s hs => RcS.ok ok ((bef.2.2 s).mp (J.sub s hs).1)
        refine r_nf ?_
        walk_at "rd"
        refine r_new (Nat.le_of_ble_eq_true rfl) fun t1 ht1 => ?_
        walk_at "rd"
        have s5 : Same H' (upd H' t1 (.tup [.int (bI a.b), .int (a.k : Int), v])) := same_up ht1
        have htv2 : RSpot _ tv a.s := Stay.st (keep_of s5) htv
        have rv2 : RSpot _ v t := Stay.st (kp.trans (keep_of s5)) rv
        obtain ⟨H5, p5, td5, kp5, ne5⟩ := (J.td.same s5).put (x := some ⟨a.b, a.k, t⟩) (u := .ref t1) htv2 hnew (.inr ⟨_, rfl, t1, v, rfl, upd_same, rv2⟩) (by omega)
        refine ⟨rd, H5, rfl, p5, ?_⟩
        walk_at "rd"
        have nLd : L ≠ rd := fun z => by
          obtain ⟨_, e1, _⟩ := J.td.h
          obtain ⟨_, e2, _⟩ := J.lL
          rw [z, e1] at e2
          cases e2
        have lL5 : LsAt RSpot L W2 H5 := (J.lL.same s5).fr kp5 (ne5 L nLd)
        have htv5 : RSpot H5 tv a.s := Stay.st kp5 htv2
        obtain ⟨vs5, q51, q52⟩ := id lL5
        refine r_tyL (SqL.of q51) ?_
        walk_at "rd"
        refine lL5.app htv5 (by omega) (fun H6 lL6 kp6 ne6 => ?_)
        have hl2 : W2.length = ds2.length := J.td.len
        refine ⟨W2 ++ [a.s], ds2 ++ [some ⟨a.b, a.k, t⟩], _, _, _, rfl, ⟨fun c o h => ?_, J.hd, J.hL, lL6, td5.fr kp6 (ne6 rd nLd.symm), fun c hc => ?_, fun c hc la => List.mem_append_left _ (J.las c hc la), fun c s' o h1 h2 => ?_⟩, kp.trans ((keep_of s5).trans (kp5.trans kp6)), pre.trans (List.prefix_append _ _), fun c a' hc ha' => ?_⟩
        · rw [ne6 c (ne_of_none h J.hL), ne5 c (ne_of_none h J.hd)]
          exact s5 _ _ (J.s _ _ h)
        · rcases List.mem_append.mp hc with hc | hc
          · exact J.sub c hc
          · rw [List.mem_singleton.mp hc]
            exact ⟨aB, LvS.step tL aS⟩
        · rcases Nat.lt_trichotomy c W2.length with hc | hc | hc
          · rw [List.getElem?_append_left hc] at h1
            rw [List.getElem?_append_left (by omega)] at h2
            rcases J.val c s' o h1 h2 with z | ⟨e, jj, z1, z0, z2, z3, z4⟩
            · exact .inl z
            · exact .inr ⟨e, jj, z1, z0, z2, z3, by rw [List.getElem?_append_left (by omega)]; exact z4⟩
          · rw [List.getElem?_append_right (by omega), hc, Nat.sub_self] at h1
            rw [List.getElem?_append_right (by omega), hc, hl2, Nat.sub_self] at h2
            cases h1
            cases h2
            have hpl := pre.length_le
            refine .inr ⟨_, n, rfl, fun la => hnew (J.las _ aB la), aS, by omega, ?_⟩
            rw [List.getElem?_append_left (by omega)]
            obtain ⟨r, hr⟩ := pre
            rw [← hr, List.getElem?_append_left hnl]
            exact ht
          · rw [List.getElem?_eq_none (by rw [List.length_append]; exact hc)] at h1
            cases h1
        · rcases Nat.lt_or_ge c j with hc' | hc'
          · exact List.mem_append_left _ (don c a' hc' ha')
          · have : c = j := by omega
            subst this
            rw [ha] at ha'
            cases ha'
            exact List.mem_append_right _ List.mem_cons_self
    · obtain ⟨W2, ds2, x6, x7, x8, rfl, J, kp, pre, don⟩ := p
      walk_at "rd"
      have hpl := pre.length_le
      refine ⟨110001 - (n + 1), by omega, W2, ds2, n + 1, _, _, _, _, rfl, rfl, by omega, J, fun i s e hi hs se hW => ?_⟩
      rcases Nat.lt_or_ge i n with hi' | hi'
      · refine pre.subset (cl i s e hi' hs se ?_)
        obtain ⟨r, hr⟩ := pre
        rw [← hr, List.getElem?_append_left (by omega)] at hW
        exact hW
      · have : i = n := by omega
        subst this
        obtain ⟨r, hr⟩ := id pre
        rw [← hr, List.getElem?_append_left hnl, ht] at hW
        have et : e.t = t := (Option.some.inj hW).symm
        have hm : (⟨s, e.b, e.k⟩ : En) ∈ entsF M WB t := ents_mem.mpr ⟨hs, by
          dsimp only
          rw [← et]
          exact se⟩
        obtain ⟨j, hj⟩ := List.getElem?_of_mem hm
        exact don j _ (List.getElem?_eq_some_iff.mp hj).1 hj
  · have hnl : n = W.length := by omega
    subst hnl
    walk_at "rd"
    refine q H4 rd W ds (s1.trans I.s) (s1.free hrd) ⟨I.td, fun s => ⟨fun hs => ⟨(bef.2.2 s).mp (I.sub s hs).1, (I.sub s hs).2⟩, fun hs => ?_⟩, I.val⟩
    obtain ⟨hrc, mv, t, y1, y2, p, la⟩ := hs
    revert hrc
    induction p with
    | nil s => exact fun hrc => I.las s ((bef.2.2 s).mpr hrc) la
    | @cons s t e mv x y st p ih =>
      intro hrc
      obtain ⟨i, hi⟩ := List.getElem?_of_mem (ih la (hrc.step st))
      exact cl i s e (List.getElem?_eq_some_iff.mp hi).1 ((bef.2.2 s).mpr hrc) st hi

end
end Tw


namespace Tw
open PySem L2
section
variable {P : Program} {w : World} {K : PySem.W.Frag} {mg : Str → Option Value} {base : Heap} {CS CG aN : Addr}
/-- a Square as it is made -/
def SqAt (K : PySem.W.Frag) (C : Addr) (H : Hp) (x : Addr) (M : Mc) (l ft : Addr) (qs : List V) (rd : Addr) (W : List Sq) (ds : List (Option Sm)) : Prop :=
  (∃ lv ed as eks, SqB K C H x M l lv ft ed qs as eks) ∧ Fld K H x "rest" (.ref rd) ∧ RestAt M rd W ds H
theorem SqAt.same {K : PySem.W.Frag} {C : Addr} {H H' : Hp} {x : Addr} {M : Mc} {l ft : Addr} {qs : List V} {rd : Addr} {W : List Sq} {ds : List (Option Sm)} (h : SqAt K C H x M l ft qs rd W ds) (e : Same H H') : SqAt K C H' x M l ft qs rd W ds := by
  obtain ⟨⟨lv, ed, as, eks, B⟩, f, r⟩ := h
  exact ⟨⟨lv, ed, as, eks, B.same e⟩, f.same e, r.same e⟩
-- Square_moved_from
abbrev s_Square_moved_from : Stmt := inClass (top 13) 5
abbrev N_Square_moved_from : List Str := ["self", "spot", "moved", "side", "index"]
theorem sc_Square_moved_from : FnScope N_Square_moved_from ["self", "spot"] (defScope s_Square_moved_from) := ⟨rfl, rfl, rfl, by decide +kernel, rfl, by decide +kernel, by decide +kernel⟩

def spMovedFrom (K : PySem.W.Frag) (C : Addr) : Sp := fun vs H Q _ => ∃ (x : Addr) (v : V) (M : Mc) (s : Sq) (l ft : Addr) (qs : List V) (rd : Addr) (W : List Sq) (ds : List (Option Sm)), vs = [.ref x, v] ∧ SqAt K C H x M l ft qs rd W ds ∧ M.Ok ∧ RSpot H v s ∧ s ∈ W ∧
  ∀ (H' : Hp) (p : Addr) (mv : List (Bool × Nat)) (t : Sq) (y1 y2 : List Nat), Same H H' → H p = none → LsAt RMv p mv H' → SPath M s mv t y1 y2 → LastS M t → (LastS M s → mv = []) → mv.length ≤ 110000 → Q (.ref p) H'
theorem ok_Square_moved_from (F : MetAt K CS "moved_from" "Square.moved_from" s_Square_moved_from) (T : TxtS K mg CS CG aN) : CalM P w K mg base CX0 1 CS "moved_from" ["self", "spot"] (spMovedFrom K CS) := by
  refine F.cal sc_Square_moved_from (fun _ _ _ _ _ _ us hl => match us, hl with | [_, _], _ => rfl) (fun vs H Q E h => by obtain ⟨_, _, _, _, _, _, _, _, _, _, rfl, _⟩ := h; rfl) (fun f cdv A outer s0 H vs Q E hr h => ?_)
  obtain ⟨x, v, M, s, l, ft, qs, rd, W, ds, rfl, S, ok, rv, hs, q⟩ := h
  have fr := S.2.1
  have few : W.length ≤ 110000 := sq_few ok S.2.2.1.nd fun s hs => RcS.ok ok ((S.2.2.2.1 s).mp hs).1
  refine ⟨_, (pss_cons (ps_set (i := 2) sc_Square_moved_from.nd rfl (Or.inl rfl) (pe_lst pa_nil))
  (pss_cons (ps_while PassesOwn.never (pt_cmpR op_notN (pe_dget (lt64 hr.units) (pe_fld (pv 0) rfl) (pv 1) (fun _ _ => rfl)) pe_non (nomark _))
    (pss_cons (ps_asg (pe_dget (lt64 hr.units) (pe_fld (pv 0) rfl) (pv 1) (fun _ _ => rfl)) (pg_tup (by rfl) (pgs_cons (pg_name (i := 3) sc_Square_moved_from.nd rfl (Or.inl rfl)) (pgs_cons (pg_name (i := 4) sc_Square_moved_from.nd rfl (Or.inl rfl)) (pgs_cons (pg_name (i := 1) sc_Square_moved_from.nd rfl (Or.inl rfl)) pgs_nil)))))
  (pss_one (ps_expr (pe_bm PySem.F.plainAttrs_list PySem.F.slot_list_append PySem.F.type_list_append mt_append (pv 2) (pa_cons (pe_tup (pa_cons (pv 3) (pa_cons (pv 4) pa_nil))) pa_nil))))))
  (pss_one (ps_ret (pv 2))))), ?_⟩
  refine r_start (σ' := [some (.ref x), some v, none, none, none]) rfl ?_
  walk_at "rd"
  refine r_new (Nat.zero_le _) fun L hL => ?_
  walk_at "rd"
  obtain ⟨i0, hi0⟩ := List.getElem?_of_mem hs
  refine r_while (fun m σ H' => ∃ (t : Sq) (u : V) (mv : List (Bool × Nat)) (y1 y2 : List Nat) (x3 x4 : Option V), W[m]? = some t ∧ σ = [some (.ref x), some u, some (.ref L), x3, x4] ∧ Same H H' ∧ LsAt RMv L mv H' ∧ RSpot H' u t ∧ SPath M s mv t y1 y2 ∧ (LastS M s → mv = []) ∧ mv.length + m ≤ W.length) i0
    ⟨s, v, [], [], [], none, none, hi0, rfl, same_up hL, LsAt.new, Stay.st (keep_of (same_up hL)) rv, .nil s, fun _ => rfl, by have := (List.getElem?_eq_some_iff.mp hi0).1; simp; omega⟩ (fun m σ H1 hw QT hT hF => ?_)
  obtain ⟨t, u, mv, y1, y2, x3, x4, hm, rfl, s1, lL, ru, p, hls, hl⟩ := hw
  have S1 := S.same s1
  obtain ⟨z, o, dg, ho, rz⟩ := S1.2.2.1.get ru hm
  have fr1 := S1.2.1
  walk_at "rd"
  refine ⟨rd, z, rfl, dg, ?_⟩
  rcases S1.2.2.2.2 m t o hm ho with ⟨rfl, la⟩ | ⟨e, j, rfl, nla, se, hj, hWj⟩
  · rcases rz with ⟨_, rfl⟩ | ⟨_, h, _⟩
    · walk_at "rd"
      refine hF _ ?_
      walk_at "rd"
      exact q H1 L mv t y1 y2 s1 hL lL p la hls (by omega)
    · cases h
  · rcases rz with ⟨h, _⟩ | ⟨e', h, rz⟩
    · cases h
    · cases h
      obtain ⟨ea, tv, rfl, hea, htv⟩ := rz
      have hea' := SqT.of (K := K) hea
      walk_at "rd"
      refine hT _ ?_
      walk_at "rd"
      refine ⟨rd, .ref ea, rfl, dg, ?_⟩
      walk_at "rd"
      obtain ⟨us, u1, u2⟩ := id lL
      refine r_tyL (SqL.of u1) ?_
      walk_at "rd"
      refine r_new (Nat.le_of_ble_eq_true rfl) fun t1 ht1 => ?_
      walk_at "rd"
      have s2 : Same H1 (upd H1 t1 (.tup [.int (bI e.b), .int (e.k : Int)])) := same_up ht1
      refine (lL.same s2).app (x := (e.b, e.k)) ⟨t1, rfl, upd_same⟩ (by have := (List.getElem?_eq_some_iff.mp hm).1; omega) (fun H3 lL3 kp ne => ?_)
      refine ⟨j, hj, e.t, tv, mv ++ [(e.b, e.k)], _, _, _, _, hWj, rfl, fun b o h => ?_, lL3, Stay.st ((keep_of s2).trans kp) htv, p.snoc se, fun la => ?_, ?_⟩
      · rw [ne b (ne_of_none h hL)]
        exact s2 _ _ (s1 _ _ h)
      · have z := hls la
        subst z
        obtain ⟨e1, _, _⟩ := p.nil_inv
        rw [e1] at nla
        exact absurd la nla
      · rw [List.length_append]
        show mv.length + 1 + j ≤ W.length
        omega

end
end Tw


namespace Tw
open PySem L2
section
variable {P : Program} {w : World} {K : PySem.W.Frag} {mg : Str → Option Value} {base : Heap} {CS CG aN : Addr}
theorem fldI {K : PySem.W.Frag} {H : Hp} {x C dx : Addr} {fs : List (Str × V)} {f : Str} {v : V} (hx : H x = some (.ins C dx fs)) (cl : Cls K C) (na : NoAttr K C f) (l : fs.lookup f = some v) : Fld K H x f v := ⟨C, dx, fs, hx, cl, na, l⟩
theorem mthI {H : Hp} {x C dx : Addr} {fs : List (Str × V)} {m : Str} (hx : H x = some (.ins C dx fs)) (l : fs.lookup m = none) : Mth H x C m := ⟨dx, fs, hx, l⟩
-- Square___init__
abbrev s_Square___init__ : Stmt := inClass (top 13) 0
abbrev N_Square___init__ : List Str := ["self", "machine", "states", "begin", "ends", "index", "start", "read", "_", "goal", "end"]
theorem sc_Square___init__ : FnScope N_Square___init__ ["self", "machine"] (defScope s_Square___init__) := ⟨rfl, rfl, rfl, by decide +kernel, rfl, by decide +kernel, by decide +kernel⟩

def spSqInit (K : PySem.W.Frag) (C : Addr) : Sp := fun vs H Q _ => ∃ (Hb : Hp) (x dx : Addr) (v : V) (M : Mc), vs = [.ref x, v] ∧ Same Hb H ∧ Hb x = none ∧ H x = some (.ins C dx []) ∧ Dp K Hb v (mcD M) ∧ M.Ok ∧
  ∀ (H' : Hp) (l ft : Addr) (qs : List V) (rd : Addr) (W : List Sq) (ds : List (Option Sm)), Same Hb H' → SqAt K C H' x M l ft qs rd W ds → Q .non H'
theorem ok_Square_init (F : MakAt K mg CS "Square" "Square.__init__" s_Square___init__) (T : TxtS K mg CS CG aN) (c_Square_found_rest : CalM P w K mg base CX0 3 CS "found_rest" ["self"] (spRest K CS)) :
    CalI P w K mg base CX0 4 CS "Square" ["self", "machine"] (spSqInit K CS) := by
  refine F.cal sc_Square___init__ (fun _ _ _ _ _ _ us hl => match us, hl with | [_, _], _ => rfl) (fun vs H Q E h => by obtain ⟨_, _, _, _, _, rfl, _⟩ := h; rfl) (fun f cdv A outer s0 H vs Q E hr h => ?_)
  obtain ⟨Hb, x, dx, v, M, rfl, s0, nx, hx, hv, ok, q⟩ := h
  obtain ⟨a, e, l, qs, Am⟩ := dp_mc hv
  obtain ⟨rfl, ht, he, hl, hq⟩ := id Am
  have ht0 := same_sqT s0 ht
  have n1 := ok.n1
  have n2 := ok.n2
  have ml := ok.ml
  have nq := Am.len
  refine ⟨_, (pss_cons (ps_asg (pv 1) (pg_tup (by rfl) (pgs_cons (pg_name (i := 2) sc_Square___init__.nd rfl (Or.inl rfl)) (pgs_cons (pg_name (i := 3) sc_Square___init__.nd rfl (Or.inl rfl)) (pgs_cons (pg_name (i := 4) sc_Square___init__.nd rfl (Or.inl rfl)) (pgs_cons (pg_fld (pv 0)) pgs_nil))))))
  (pss_cons (ps_fld (pv 0) (pe_lc (own := [("_", 8)]) (g := (gName 8)) (tt := tYes) rfl sc_Square___init__.nd (pi_range1 (by rfl) T.n_range (pa_cons (pv 2) pa_nil)) (blkOk_by (N := N_Square___init__) (sc := defScope s_Square___init__) (by decide +kernel)) (fun _ _ _ _ _ => (pg_name (i := 8) sc_Square___init__.nd rfl (Or.inl rfl))) (fun _ _ _ _ _ => pts_nil) (fun _ _ _ _ _ => (pe_lst pa_nil))) rfl)
  (pss_cons (ps_for PassesOwn.never rfl (pi_enum (by rfl) T.n_enumerate (pa_cons (pe_fld (pv 0) rfl) pa_nil)) (pg_tup (by rfl) (pgs_cons (pg_name (i := 5) sc_Square___init__.nd rfl (Or.inl rfl)) (pgs_cons (pg_tup (by rfl) (pgs_cons (pg_name (i := 6) sc_Square___init__.nd rfl (Or.inl rfl)) (pgs_cons (pg_name (i := 7) sc_Square___init__.nd rfl (Or.inl rfl)) (pgs_cons (pg_name (i := 8) sc_Square___init__.nd rfl (Or.inl rfl)) (pgs_cons (pg_name (i := 9) sc_Square___init__.nd rfl (Or.inl rfl)) pgs_nil))))) pgs_nil)))
    (pss_one (ps_expr (pe_bm PySem.F.plainAttrs_list PySem.F.slot_list_append PySem.F.type_list_append mt_append (pe_ix ix_list (pe_fld (pv 0) rfl) (pv 6) (fun _ _ => rfl)) (pa_cons (pe_tup (pa_cons (pv 5) (pa_cons (pv 7) (pa_cons (pv 9) pa_nil)))) pa_nil)))))
  (pss_cons (ps_fld (pv 0) (pe_tup (pa_cons (pv 3) (pa_cons (pv 3) (pa_cons pe_str pa_nil)))) rfl)
  (pss_cons (ps_fld (pv 0) (pe_dc (own := [("end", 10)]) (g := (gName 10)) (tt := tYes) rfl sc_Square___init__.nd (pi_list (pv 4)) (blkOk_by (N := N_Square___init__) (sc := defScope s_Square___init__) (by decide +kernel)) (fun _ _ _ _ _ => (pg_name (i := 10) sc_Square___init__.nd rfl (Or.inl rfl))) (fun _ _ _ _ _ => pts_nil) (fun _ _ _ _ _ => (pv 10)) (fun _ _ _ _ _ => pe_bl)) rfl)
  (pss_one (ps_fld (pv 0) (pe_meth0C T.cl_Square c_Square_found_rest hr (by decide) (pv 0)) rfl))))))), ?_⟩
  refine r_start (σ' := [some (.ref x), some (.ref a), none, none, none, none, none, none, none, none, none]) rfl ?_
  walk_at "rd"
  refine r_sfv hx T.cl_Square T.na_moves (Nat.zero_le _) ?_
  walk_at "rd"
  -- self.moves
  obtain ⟨H1, e1⟩ : ∃ H1, upd H x (.ins CS dx (putF "moves" (.ref l) [])) = H1 := ⟨_, rfl⟩
  rw [e1]
  have hx1 : H1 x = some (.ins CS dx [("moves", .ref l)]) := by rw [← e1]; exact upd_same
  have s1 : Same Hb H1 := by rw [← e1]; exact same_mut s0 nx
  clear e1
  -- self.leaving
  refine r_lcN (σw := [some (.ref x), some (.ref a), some (.int M.n), some (.int M.b), some (.ref e), none, none, none, none, none, none]) (n := M.n) rfl (fun R h => by walk_at "rd"; exact h) (by omega) (by omega) (fun i H' => ⟨rfl, rfl⟩) (fun H2 lv as s2 hlv hl2 la nda ea => ?_) (fun v σ H R R' f h => f _ _ h)
  walk_at "rd"
  have s2b := s1.trans s2
  have hx2 := s2 _ _ hx1
  have naD : ∀ b ∈ as, b ≠ x := fun b hb z => by
    have := (ea b hb).1
    rw [z, hx1] at this
    cases this
  have nlv : lv ≠ x := fun z => by rw [z, hx1] at hlv; cases hlv
  have nab : ∀ b ∈ as, Hb b = none := fun b hb => s1.free (ea b hb).1
  refine r_sfv hx2 T.cl_Square T.na_leaving (Nat.le_of_ble_eq_true rfl) ?_
  walk_at "rd"
  obtain ⟨H3, e3⟩ : ∃ H3, upd H2 x (.ins CS dx (putF "leaving" (.ref lv) [("moves", .ref l)])) = H3 := ⟨_, rfl⟩
  rw [e3]
  have hx3 : H3 x = some (.ins CS dx [("moves", .ref l), ("leaving", .ref lv)]) := by rw [← e3]; exact upd_same
  have s3 : Same Hb H3 := by rw [← e3]; exact same_mut s2b nx
  have hlv3 : H3 lv = some (.lst (as.map V.ref)) := by rw [← e3, upd_ne nlv]; exact hl2
  have LL3 : LL RLv as ((List.range M.n.toNat).map fun (i : Nat) => leaveF M (i : Int) 0) H3 := by
    refine ⟨by rw [List.length_map, List.length_range]; exact la, nda, fun i b xs h1 h2 => ?_⟩
    rw [List.getElem?_map] at h2
    obtain ⟨j, _, rfl⟩ := Option.map_eq_some_iff.mp h2
    have hb := List.mem_of_getElem? h1
    refine ⟨[], ?_, Al.nil⟩
    rw [← e3, upd_ne (naD b hb)]
    exact (ea b hb).2.2
  clear e3
  have hl3 := same_sqL s3 hl
  have fm3 : Fld K H3 x "moves" (.ref l) := fldI hx3 T.cl_Square T.na_moves rfl
  refine r_forE (a := l) (xs := qs) (fun k σ H' => ∃ x5 x6 x7 x8 x9, σ = [some (.ref x), some (.ref a), some (.int M.n), some (.int M.b), some (.ref e), x5, x6, x7, x8, x9, none] ∧ Same Hb H' ∧ H' x = some (.ins CS dx [("moves", .ref l), ("leaving", .ref lv)]) ∧ H' lv = some (.lst (as.map V.ref)) ∧
    LL RLv as ((List.range M.n.toNat).map fun (i : Nat) => leaveF M (i : Int) k) H') (fun R h => ?_) hl3 ⟨_, _, _, _, _, rfl, s3, hx3, hlv3, LL3⟩ (fun i σ H' _ p => ?_) (fun k y σ H' T1 hy hT1 p => ?_) (fun σ H' p => ?_)
  · walk_at "rd"
    exact h
  · obtain ⟨_, _, _, _, _, _, z, _⟩ := p
    exact same_sqL z hl
  · obtain ⟨x5, x6, x7, x8, x9, rfl, z1, z2, z3, z4⟩ := p
    have hk : k < qs.length := (List.getElem?_eq_some_iff.mp hy).1
    obtain ⟨m, qa, hm, rfl, hs⟩ := Am.mv hy
    have mm := List.mem_of_getElem? hm
    have ms := ok.s m mm
    have sT : Same H' (upd H' T1 (.tup [.int (k : Int), .ref qa])) := same_up hT1
    have hT : SqT K (upd H' T1 (.tup [.int (k : Int), .ref qa])) T1 [.int (k : Int), .ref qa] := SqT.of upd_same
    have hs2 := same_sqT (z1.trans sT) hs
    generalize upd H' T1 (.tup [.int (k : Int), .ref qa]) = H4 at sT hT hs2 ⊢
    have fv4 : Fld K H4 x "leaving" (.ref lv) := fldI (sT _ _ z2) T.cl_Square T.na_leaving rfl
    have hlv4 : SqL K H4 lv (as.map V.ref) := SqL.of (sT _ _ z3)
    walk_at "rd"
    have es : ((m.s.toNat : Nat) : Int) = m.s := Int.toNat_of_nonneg ms.1
    have hi : (List.range M.n.toNat)[m.s.toNat]? = some m.s.toNat := List.getElem?_range (by have := ms.2; omega)
    have hxs : ((List.range M.n.toNat).map fun (i : Nat) => leaveF M (i : Int) k)[m.s.toNat]? = some (leaveF M m.s k) := by
      rw [List.getElem?_map, hi]
      show some (leaveF M ((m.s.toNat : Nat) : Int) k) = _
      rw [es]
    obtain ⟨b, hb, lb⟩ := (z4.same sT).get hxs
    have hat : atI (as.map V.ref) m.s = some (.ref b) := by
      rw [← es]
      exact atI_nat (by rw [List.getElem?_map, hb]; rfl)
    walk_at "rd"
    obtain ⟨ub, u1, u2⟩ := id lb
    refine r_tyL (SqL.of u1) ?_
    walk_at "rd"
    refine r_new (Nat.le_of_ble_eq_true rfl) fun t1 ht1 => ?_
    walk_at "rd"
    have s5 : Same H4 (upd H4 t1 (.tup [.int (k : Int), .str m.r, .int m.g])) := same_up ht1
    refine ((z4.same sT).same s5).app (x := ⟨k, m.r, m.g⟩) hb hxs ⟨t1, rfl, upd_same⟩ (by have := leave_len M m.s k; omega) (fun H6 ll6 kp ne => ?_)
    have hbm := List.mem_of_getElem? hb
    have nbx : b ≠ x := naD b hbm
    have nbl : b ≠ lv := (ea b hbm).2.1
    refine ⟨_, _, _, _, _, rfl, fun c o h => ?_, ?_, ?_, ?_⟩
    · rw [ne c (ne_of_none h (nab b hbm))]
      exact s5 _ _ (sT _ _ (z1 _ _ h))
    · rw [ne x nbx.symm]
      exact s5 _ _ (sT _ _ z2)
    · rw [ne lv nbl.symm]
      exact s5 _ _ (sT _ _ z3)
    · have z := map_set (f := fun (i : Nat) => leaveF M (i : Int) k) (g := fun (i : Nat) => leaveF M (i : Int) (k + 1)) List.nodup_range hi (fun t _ ht => ?_)
      · rw [← z]
        have e2 : leaveF M ((m.s.toNat : Nat) : Int) (k + 1) = leaveF M m.s k ++ [⟨k, m.r, m.g⟩] := by
          rw [es, leave_succ M m.s hm, if_pos rfl]
        rw [e2]
        exact ll6
      · rw [leave_succ M _ hm, if_neg (fun z => ht (by omega)), List.append_nil]
  · obtain ⟨x5, x6, x7, x8, x9, rfl, z1, z2, z3, z4⟩ := p
    rw [nq] at z4
    -- self.first
    walk_at "rd"
    refine r_new (Nat.le_of_ble_eq_true rfl) fun ft hft => ?_
    walk_at "rd"
    have s4 : Same H' (upd H' ft (.tup [.int M.b, .int M.b, .str emS])) := same_up hft
    have hf4 : (upd H' ft (.tup [.int M.b, .int M.b, .str emS])) ft = some (.tup [.int M.b, .int M.b, .str emS]) := upd_same
    have z4b := z4.same s4
    generalize upd H' ft (.tup [.int M.b, .int M.b, .str emS]) = H4 at s4 hf4 z4b ⊢
    refine r_sfv (s4 _ _ z2) T.cl_Square T.na_first (Nat.le_of_ble_eq_true rfl) ?_
    walk_at "rd"
    obtain ⟨H5, e5⟩ : ∃ H5, upd H4 x (.ins CS dx (putF "first" (.ref ft) [("moves", .ref l), ("leaving", .ref lv)])) = H5 := ⟨_, rfl⟩
    rw [e5]
    have hx5 : H5 x = some (.ins CS dx [("moves", .ref l), ("leaving", .ref lv), ("first", .ref ft)]) := by rw [← e5]; exact upd_same
    have s5 : Same Hb H5 := by rw [← e5]; exact same_mut (z1.trans s4) nx
    have k5 : Keep H4 H5 := by rw [← e5]; exact keep_ins (s4 _ _ z2)
    have hlv5 : H5 lv = some (.lst (as.map V.ref)) := by rw [← e5, upd_ne nlv]; exact s4 _ _ z3
    have LL5 := z4b.fr k5 (fun b hb => by rw [← e5]; exact upd_ne (naD b hb))
    have hf5 := k5.1 _ _ hf4
    clear e5
    -- self.ends
    refine r_dcK (ns := M.ends) (a := e) (σw := [some (.ref x), some (.ref a), some (.int M.n), some (.int M.b), some (.ref e), x5, x6, x7, x8, x9, none]) id rfl (fun R h => ⟨_, rfl, h⟩) (same_sqL s5 he) (by have := ok.el; omega) (fun z H6 QY hz s6 y => ?_) (fun H6 ed ks us s6 hed T6 mem => ?_) (fun v σ H R R' f h => f _ _ h)
    · walk_at "rd"
      refine ⟨rfl, ?_⟩
      walk_at "rd"
      exact y _
    · walk_at "rd"
      have ned : ed ≠ x := fun z => by rw [z, hx5] at hed; cases hed
      refine r_sfv (s6 _ _ hx5) T.cl_Square T.na_ends (Nat.le_of_ble_eq_true rfl) ?_
      walk_at "rd"
      obtain ⟨H7, e7⟩ : ∃ H7, upd H6 x (.ins CS dx (putF "ends" (.ref ed) [("moves", .ref l), ("leaving", .ref lv), ("first", .ref ft)])) = H7 := ⟨_, rfl⟩
      rw [e7]
      have hx7 : H7 x = some (.ins CS dx [("moves", .ref l), ("leaving", .ref lv), ("first", .ref ft), ("ends", .ref ed)]) := by rw [← e7]; exact upd_same
      have s7 : Same Hb H7 := by rw [← e7]; exact same_mut (s5.trans s6) nx
      have k7 : Keep H6 H7 := by rw [← e7]; exact keep_ins (s6 _ _ hx5)
      have hlv7 : H7 lv = some (.lst (as.map V.ref)) := by rw [← e7, upd_ne nlv]; exact s6 _ _ hlv5
      have LL7 := (LL5.same s6).fr k7 (fun b hb => by rw [← e7]; exact upd_ne (naD b hb))
      have hf7 := k7.1 _ _ (s6 _ _ hf5)
      have T7 := T6.fr k7 (by rw [← e7]; exact upd_ne ned)
      clear e7
      have B7 : SqB K CS H7 x M l lv ft ed qs as ks := ⟨fldI hx7 T.cl_Square T.na_moves rfl, fldI hx7 T.cl_Square T.na_leaving rfl, fldI hx7 T.cl_Square T.na_first rfl, fldI hx7 T.cl_Square T.na_ends rfl, mthI hx7 rfl, mthI hx7 rfl, mthI hx7 rfl, mthI hx7 rfl, mthI hx7 rfl,
        same_sqL s7 hl, dpAll_same s7 hq, SqL.of hlv7, LL7, at_spot hf7, ⟨us, T7⟩, fun i => by rw [mem]; exact ⟨fun ⟨z, h1, h2⟩ => h2 ▸ h1, fun h => ⟨i, h, rfl⟩⟩⟩
      have mr := B7.m_found_rest
      -- self.rest
      walk_at "rd"
      refine ⟨x, M, l, lv, ft, ed, qs, as, ks, rfl, B7, ok, fun H8 rd W ds s8 hrd R8 => ?_⟩
      walk_at "rd"
      have nrd : rd ≠ x := fun z => by rw [z, hx7] at hrd; cases hrd
      refine r_sfv (s8 _ _ hx7) T.cl_Square T.na_rest (Nat.le_of_ble_eq_true rfl) ?_
      walk_at "rd"
      obtain ⟨H9, e9⟩ : ∃ H9, upd H8 x (.ins CS dx (putF "rest" (.ref rd) [("moves", .ref l), ("leaving", .ref lv), ("first", .ref ft), ("ends", .ref ed)])) = H9 := ⟨_, rfl⟩
      rw [e9]
      have hx9 : H9 x = some (.ins CS dx [("moves", .ref l), ("leaving", .ref lv), ("first", .ref ft), ("ends", .ref ed), ("rest", .ref rd)]) := by rw [← e9]; exact upd_same
      have s9 : Same Hb H9 := by rw [← e9]; exact same_mut (s7.trans s8) nx
      have k9 : Keep H8 H9 := by rw [← e9]; exact keep_ins (s8 _ _ hx7)
      have hlv9 : H9 lv = some (.lst (as.map V.ref)) := by rw [← e9, upd_ne nlv]; exact s8 _ _ hlv7
      have LL9 := (LL7.same s8).fr k9 (fun b hb => by rw [← e9]; exact upd_ne (naD b hb))
      have hf9 := k9.1 _ _ (s8 _ _ hf7)
      have T9 := (T7.same s8).fr k9 (by rw [← e9]; exact upd_ne ned)
      have R9 : RestAt M rd W ds H9 := ⟨R8.1.fr k9 (by rw [← e9]; exact upd_ne nrd), R8.2⟩
      clear e9
      refine q H9 l ft qs rd W ds s9 ⟨⟨lv, ed, as, ks, fldI hx9 T.cl_Square T.na_moves rfl, fldI hx9 T.cl_Square T.na_leaving rfl, fldI hx9 T.cl_Square T.na_first rfl, fldI hx9 T.cl_Square T.na_ends rfl, mthI hx9 rfl, mthI hx9 rfl, mthI hx9 rfl, mthI hx9 rfl, mthI hx9 rfl,
        same_sqL s9 hl, dpAll_same s9 hq, SqL.of hlv9, LL9, at_spot hf9, ⟨us, T9⟩, B7.hek⟩, fldI hx9 T.cl_Square T.na_rest rfl, R9⟩

end
end Tw


namespace Tw
open PySem L2
section
variable {P : Program} {w : World} {K : PySem.W.Frag} {mg : Str → Option Value} {base : Heap} {CS CG aN : Addr}
-- gap_after
abbrev s_gap_after : Stmt := top 19
abbrev N_gap_after : List Str := ["gap", "side", "write", "mine", "others"]
theorem sc_gap_after : FnScope N_gap_after ["gap", "side", "write"] (defScope s_gap_after) := ⟨rfl, rfl, rfl, by decide +kernel, rfl, by decide +kernel, by decide +kernel⟩

def GapRes (K : PySem.W.Frag) (H : Hp) (v : V) (o : Option (Str × Str)) : Prop := (o = none ∧ v = .non) ∨ ∃ g, o = some g ∧ RGap K H v g
def spGapAfter (K : PySem.W.Frag) : Sp := fun vs H Q _ => ∃ (v : V) (g : Str × Str) (b : Bool) (w : Str), vs = [v, .int (bI b), .str w] ∧ RGap K H v g ∧ g.1.length ≤ 1000000 ∧ g.2.length ≤ 1000000 ∧ w.length ≤ 1 ∧
  ∀ (H' : Hp) (v' : V), Same H H' → GapRes K H' v' (gapF g b w) → Q v' H'
theorem ok_gap_after (F : FunAt K mg "gap_after" s_gap_after) (T : TxtS K mg CS CG aN) : Cal P w K mg base CX0 1 "gap_after" ["gap", "side", "write"] (spGapAfter K) := by
  refine F.cal sc_gap_after (fun _ _ _ _ _ _ us hl => match us, hl with | [_, _, _], _ => rfl) (fun vs H Q E h => by obtain ⟨_, _, _, _, rfl, _⟩ := h; rfl) (fun f cdv A outer s0 H vs Q E hr h => ?_)
  obtain ⟨v, g, b, w, rfl, ⟨a, rfl, ha⟩, l1, l2, lw, q⟩ := h
  obtain ⟨_, tf⟩ := T.c_FIRST
  obtain ⟨g1, g2⟩ := g
  dsimp only at l1 l2 ha
  refine ⟨_, (pss_cons (ps_asg (pe_ifExp (pt_cmpR op_eq (pv 1) (pe_globI (by rfl) T.c_FIRST) (nomark _)) (pv 0) (pe_revT (pv 0))) (pg_tup (by rfl) (pgs_cons (pg_name (i := 3) sc_gap_after.nd rfl (Or.inl rfl)) (pgs_cons (pg_name (i := 4) sc_gap_after.nd rfl (Or.inl rfl)) pgs_nil))))
  (Evl.pss_cut (ps_if (pt_cmpR op_eq (pv 4) pe_str (nomark _))
    (pss_one (ps_aug (i := 3) sc_gap_after.nd rfl (Or.inl rfl) (pv 2) ip_addS))
    (pss_one (ps_if (pt_val (pe_m1 PySem.F.slot_str_startswith PySem.F.type_str_startswith mt_startswith (pv 4) (pv 2)))
    (pss_one (ps_set (i := 4) sc_gap_after.nd rfl (Or.inl rfl) (pe_slice sl_str (pv 4) (po_some (pe_callB call_len_str (by rfl) T.n_len PySem.boot_len (pa_cons (pv 2) pa_nil))) po_none)))
    (pss_one (ps_ret pe_non)))))
  (pss_one (ps_ret (pe_ifExp (pt_cmpR op_eq (pv 1) (pe_globI (by rfl) T.c_FIRST) (nomark _)) (pe_tup (pa_cons (pv 3) (pa_cons (pv 4) pa_nil))) (pe_tup (pa_cons (pv 4) (pa_cons (pv 3) pa_nil)))))))), ?_⟩
  refine r_start (σ' := [some (.ref a), some (.int (bI b)), some (.str w), none, none]) rfl ?_
  cases b with
  | false =>
    walk_at "rd"
    refine r_cut (fun σ H' => ∃ m' o', σ = [some (.ref a), some (.int 0), some (.str w), some (.str m'), some (.str o')] ∧ Same H H' ∧ gapF (g1, g2) false w = some (swp false (m', o'))) ?_ (fun σ H1 p => ?_)
    · walk_at "rd"
      refine r_both (fun e => ?_) (fun e => ?_)
      · have ho : g2 = emS := V.str.inj e
        refine r_aug (x := .str g1) rfl ?_
        walk_at "rd"
        refine r_ipS (Nat.le_trans (by omega : g1.length + w.length ≤ 1000001) (by decide)) ?_
        refine ⟨g1 ++ w, g2, rfl, (Same.refl _), ?_⟩
        unfold gapF
        rw [if_pos (show (swp false (g1, g2)).2 = emS from ho)]
        rfl
      · have ho : ¬ g2 = emS := fun z => e (by rw [z])
        walk_at "rd"
        refine ⟨g2, w, rfl, rfl, ?_⟩
        walk_at "rd"
        cases hs : Txt.startswith g2 w with
        | true =>
          refine r_true ?_
          walk_at "rd"
          refine ⟨g1, cutS g2 (some (w.length : Int)) none, rfl, (Same.refl _), ?_⟩
          unfold gapF
          rw [if_neg (show ¬ (swp false (g1, g2)).2 = emS from ho), if_pos (show Txt.startswith (swp false (g1, g2)).2 w = true from hs)]
          rfl
        | false =>
          refine r_false ?_
          walk_at "rd"
          refine q _ _ (Same.refl _) (.inl ⟨?_, rfl⟩)
          unfold gapF
          rw [if_neg (show ¬ (swp false (g1, g2)).2 = emS from ho), if_neg (show ¬ Txt.startswith (swp false (g1, g2)).2 w = true by rw [show (swp false (g1, g2)).2 = g2 from rfl, hs]; exact Bool.false_ne_true)]
    · obtain ⟨m', o', rfl, s1, eq⟩ := p
      walk_at "rd"
      refine r_new (Nat.le_of_ble_eq_true rfl) fun t1 ht1 => ?_
      refine q _ _ (s1.trans (same_up ht1)) (.inr ⟨_, eq, t1, rfl, SqT.of upd_same⟩)
  | true =>
    walk_at "rd"
    refine ⟨a, _, rfl, ha, fun r1 hr1 => ?_⟩
    have hrt : SqT K (upd H r1 (.tup [.str g2, .str g1])) r1 [.str g2, .str g1] := SqT.of upd_same
    show gTup _ _ _ _ _ (upd H r1 (.tup [.str g2, .str g1])) _
    walk_at "rd"
    refine r_cut (fun σ H' => ∃ m' o', σ = [some (.ref a), some (.int 1), some (.str w), some (.str m'), some (.str o')] ∧ Same H H' ∧ gapF (g1, g2) true w = some (swp true (m', o'))) ?_ (fun σ H1 p => ?_)
    · walk_at "rd"
      refine r_both (fun e => ?_) (fun e => ?_)
      · have ho : g1 = emS := V.str.inj e
        refine r_aug (x := .str g2) rfl ?_
        walk_at "rd"
        refine r_ipS (Nat.le_trans (by omega : g2.length + w.length ≤ 1000001) (by decide)) ?_
        refine ⟨g2 ++ w, g1, rfl, (same_up hr1), ?_⟩
        unfold gapF
        rw [if_pos (show (swp true (g1, g2)).2 = emS from ho)]
        rfl
      · have ho : ¬ g1 = emS := fun z => e (by rw [z])
        walk_at "rd"
        refine ⟨g1, w, rfl, rfl, ?_⟩
        walk_at "rd"
        cases hs : Txt.startswith g1 w with
        | true =>
          refine r_true ?_
          walk_at "rd"
          refine ⟨g2, cutS g1 (some (w.length : Int)) none, rfl, (same_up hr1), ?_⟩
          unfold gapF
          rw [if_neg (show ¬ (swp true (g1, g2)).2 = emS from ho), if_pos (show Txt.startswith (swp true (g1, g2)).2 w = true from hs)]
          rfl
        | false =>
          refine r_false ?_
          walk_at "rd"
          refine q _ _ (same_up hr1) (.inl ⟨?_, rfl⟩)
          unfold gapF
          rw [if_neg (show ¬ (swp true (g1, g2)).2 = emS from ho), if_neg (show ¬ Txt.startswith (swp true (g1, g2)).2 w = true by rw [show (swp true (g1, g2)).2 = g1 from rfl, hs]; exact Bool.false_ne_true)]
    · obtain ⟨m', o', rfl, s1, eq⟩ := p
      walk_at "rd"
      refine r_new (Nat.le_of_ble_eq_true rfl) fun t1 ht1 => ?_
      refine q _ _ (s1.trans (same_up ht1)) (.inr ⟨_, eq, t1, rfl, SqT.of upd_same⟩)

end
end Tw


namespace Tw
open PySem L2
section
variable {P : Program} {w : World} {K : PySem.W.Frag} {mg : Str → Option Value} {base : Heap} {CS CG aN : Addr}
/-- a Gaps -/
structure GAt (K : PySem.W.Frag) (CS CG : Addr) (Hq H : Hp) (g sq fd cd : Addr) (pr : V) (M : Mc) (l ft : Addr) (qs : List V) (rd : Addr) (W : List Sq) (ds : List (Option Sm)) : Prop where
  gi : ∃ dx, H g = some (.ins CG dx [("square", .ref sq), ("found", .ref fd), ("came", .ref cd), ("proof", pr)])
  s : Same Hq H
  ng : Hq g = none
  nf : Hq fd = none
  nc : Hq cd = none
  nfc : fd ≠ cd
  sq : SqAt K CS Hq sq M l ft qs rd W ds
theorem GAt.up {K : PySem.W.Frag} {CS CG : Addr} {Hq H H' : Hp} {g sq fd cd : Addr} {pr : V} {M : Mc} {l ft : Addr} {qs : List V} {rd : Addr} {W : List Sq} {ds : List (Option Sm)} (h : GAt K CS CG Hq H g sq fd cd pr M l ft qs rd W ds) (e : Same H H') : GAt K CS CG Hq H' g sq fd cd pr M l ft qs rd W ds := by
  obtain ⟨dx, h1⟩ := h.gi
  exact ⟨⟨dx, e _ _ h1⟩, h.s.trans e, h.ng, h.nf, h.nc, h.nfc, h.sq⟩
section
variable {CS CG aN : Addr} {Hq H : Hp} {g sq fd cd : Addr} {pr : V} {M : Mc} {l ft : Addr} {qs : List V} {rd : Addr} {W : List Sq} {ds : List (Option Sm)}
theorem GAt.f_square (h : GAt K CS CG Hq H g sq fd cd pr M l ft qs rd W ds) (T : TxtS K mg CS CG aN) : Fld K H g "square" (.ref sq) := by
  obtain ⟨dx, h1⟩ := h.gi
  exact fldI h1 T.cl_Gaps T.na_square rfl
theorem GAt.f_found (h : GAt K CS CG Hq H g sq fd cd pr M l ft qs rd W ds) (T : TxtS K mg CS CG aN) : Fld K H g "found" (.ref fd) := by
  obtain ⟨dx, h1⟩ := h.gi
  exact fldI h1 T.cl_Gaps T.na_found rfl
theorem GAt.f_came (h : GAt K CS CG Hq H g sq fd cd pr M l ft qs rd W ds) (T : TxtS K mg CS CG aN) : Fld K H g "came" (.ref cd) := by
  obtain ⟨dx, h1⟩ := h.gi
  exact fldI h1 T.cl_Gaps T.na_came rfl
theorem GAt.f_proof (h : GAt K CS CG Hq H g sq fd cd pr M l ft qs rd W ds) (T : TxtS K mg CS CG aN) : Fld K H g "proof" pr := by
  obtain ⟨dx, h1⟩ := h.gi
  exact fldI h1 T.cl_Gaps T.na_proof rfl
theorem GAt.m {m : Str} (h : GAt K CS CG Hq H g sq fd cd pr M l ft qs rd W ds) (e : ([("square", .ref sq), ("found", .ref fd), ("came", .ref cd), ("proof", pr)] : List (Str × V)).lookup m = none) : Mth H g CG m := by
  obtain ⟨dx, h1⟩ := h.gi
  exact mthI h1 e
theorem GAt.f_moves (h : GAt K CS CG Hq H g sq fd cd pr M l ft qs rd W ds) : Fld K H sq "moves" (.ref l) := by
  obtain ⟨⟨lv, ed, as, eks, B⟩, _, _⟩ := h.sq.same h.s
  exact B.f_moves
theorem GAt.f_first (h : GAt K CS CG Hq H g sq fd cd pr M l ft qs rd W ds) : Fld K H sq "first" (.ref ft) := by
  obtain ⟨⟨lv, ed, as, eks, B⟩, _, _⟩ := h.sq.same h.s
  exact B.f_first
theorem GAt.hl (h : GAt K CS CG Hq H g sq fd cd pr M l ft qs rd W ds) : SqL K H l qs ∧ DpAll K H qs (M.moves.map mvD) := by
  obtain ⟨⟨lv, ed, as, eks, B⟩, _, _⟩ := h.sq.same h.s
  exact ⟨B.hl, B.hq⟩
theorem GAt.mv (h : GAt K CS CG Hq H g sq fd cd pr M l ft qs rd W ds) {k : Nat} {m : Mv} (e : M.moves[k]? = some m) : ∃ q, atI qs (k : Int) = some (.ref q) ∧ SqT K H q [.int m.s, .str m.r, .str m.w, .int m.g] := by
  obtain ⟨h1, h2⟩ := h.hl
  have hk : k < qs.length := by
    rw [dpAll_len h2, List.length_map]
    exact (List.getElem?_eq_some_iff.mp e).1
  obtain ⟨d, e1, e2⟩ := dpAll_get h2 (List.getElem?_eq_getElem hk)
  rw [List.getElem?_map, e] at e1
  cases e1
  obtain ⟨q, e3, s⟩ := dp_mv e2
  exact ⟨q, by rw [← e3]; exact atI_nat (List.getElem?_eq_getElem hk), s⟩
end
def RStr (_ : Hp) (v : V) (x : Str) : Prop := v = .str x
instance : Stay RStr := ⟨fun _ h => h⟩
theorem al_strs {H : Hp} : ∀ {zs : List Str} {vs : List V}, Al RStr H vs zs → vs = zs.map V.str
  | [], [], _ => rfl
  | [], _ :: _, h => by have := h.len; simp at this
  | _ :: _, [], h => by have := h.len; simp at this
  | z :: zs, v :: vs, h => by
    have h0 : v = .str z := h.at_ 0 v z rfl rfl
    rw [h0, al_strs (zs := zs) (vs := vs) ⟨by have := h.len; simpa using this, fun i v x e1 e2 => h.at_ (i + 1) v x (by simpa using e1) (by simpa using e2)⟩]
    rfl
/-- a move's text: 1 what it reads, 2 what it writes -/
def partF (m : Mv) (two : Bool) : Str := if two = true then m.w else m.r
-- Gaps_told
abbrev s_Gaps_told : Stmt := inClass (top 18) 6
abbrev N_Gaps_told : List Str := ["self", "way", "part", "index"]
theorem sc_Gaps_told : FnScope N_Gaps_told ["self", "way", "part"] (defScope s_Gaps_told) := ⟨rfl, rfl, rfl, by decide +kernel, rfl, by decide +kernel, by decide +kernel⟩

def spTold (K : PySem.W.Frag) (CS CG : Addr) : Sp := fun vs H Q _ => ∃ (Hq : Hp) (g sq fd cd : Addr) (pr : V) (M : Mc) (l ft : Addr) (qs : List V) (rd : Addr) (W : List Sq) (ds : List (Option Sm)) (p : Addr) (ks : List Nat) (two : Bool), vs = [.ref g, .ref p, .int (if two = true then 2 else 1)] ∧ GAt K CS CG Hq H g sq fd cd pr M l ft qs rd W ds ∧ M.Ok ∧
  LsAt RNat p ks H ∧ (∀ k ∈ ks, k < M.moves.length) ∧ ks.length ≤ 1000000 ∧ ∀ (H' : Hp) (z : Str), Same H H' → tl z = ((mvsOf M ks).map fun m => tl (partF m two)).flatten → Q (.str z) H'
theorem ok_Gaps_told (F : MetAt K CG "told" "Gaps.told" s_Gaps_told) (T : TxtS K mg CS CG aN) : CalM P w K mg base CX0 1 CG "told" ["self", "way", "part"] (spTold K CS CG) := by
  refine F.cal sc_Gaps_told (fun _ _ _ _ _ _ us hl => match us, hl with | [_, _, _], _ => rfl) (fun vs H Q E h => by obtain ⟨_, _, _, _, _, _, _, _, _, _, _, _, _, _, _, _, rfl, _⟩ := h; rfl) (fun f cdv A outer s0 H vs Q E hr h => ?_)
  obtain ⟨Hq, g, sq, fd, cd, pr, M, l, ft, qs, rd, W, ds, p, ks, two, rfl, G, ok, lp, hk, kl, q⟩ := h
  refine ⟨_, (pss_one (ps_ret (pe_join pe_str (pe_lc (own := [("index", 3)]) (g := (gName 3)) (tt := tYes) (te := (tOp (rIxT K) (tOp (rIxL K) (tFld K (tFld K (tVar 0) "square") "moves") (tVar 3)) (tVar 2))) rfl sc_Gaps_told.nd (pi_list (pv 1)) (blkOk_by (N := N_Gaps_told) (sc := defScope s_Gaps_told) (by decide +kernel)) (fun _ _ _ _ _ => (pg_name (i := 3) sc_Gaps_told.nd rfl (Or.inl rfl))) (fun _ _ _ _ _ => pts_nil) (fun _ _ _ _ _ => (pe_ix ix_tup (pe_ix ix_list (pe_fld (pe_fld (pv 0) rfl) rfl) (pv 3) (fun _ _ => rfl)) (pv 2) (fun _ _ => rfl))))))), ?_⟩
  refine r_start (σ' := [some (.ref g), some (.ref p), some (.int (if two = true then 2 else 1)), none]) rfl ?_
  walk_at "rd"
  refine r_lcA (a := p) (R := RNat) (S := RStr) (xs := ks) (σw := [some (.ref g), some (.ref p), some (.int (if two = true then 2 else 1)), none]) (fun k => (M.moves[k]?).map fun m => partF m two) rfl (fun R h => ⟨_, rfl, h⟩) lp.sq (by omega) (fun i v k H' QY QN hx hv s1 y n => ?_) (fun H1 D s1 hD lD => ?_)
  · obtain rfl : v = .int (k : Int) := hv
    have G1 := G.up s1
    have fs := G1.f_square T
    have fm := G1.f_moves
    have hl := G1.hl.1
    obtain ⟨m, hm⟩ : ∃ m, M.moves[k]? = some m := ⟨M.moves[k]'(hk k (List.mem_of_getElem? hx)), List.getElem?_eq_getElem _⟩
    obtain ⟨qa, e1, e2⟩ := G1.mv hm
    walk_at "rd"
    refine ⟨rfl, ?_⟩
    walk_at "rd"
    cases two with
    | true =>
      refine r_ixT (v := .str m.w) e2 rfl ?_
      exact y _ _ _ (Same.refl _) (by rw [hm]; rfl) rfl
    | false =>
      refine r_ixT (v := .str m.r) e2 rfl ?_
      exact y _ _ _ (Same.refl _) (by rw [hm]; rfl) rfl
  · obtain ⟨vs, v1, v2⟩ := lD
    rw [al_strs v2] at v1
    have e1 : ks.filterMap (fun k => (M.moves[k]?).map fun m => partF m two) = (mvsOf M ks).map fun m => partF m two := by
      unfold mvsOf
      rw [List.map_filterMap]
    rw [e1] at v1
    have hb : (((mvsOf M ks).map fun m => partF m two).map (·.length)).sum + ((mvsOf M ks).map fun m => partF m two).length * (Str.ofString "").length ≤ 16777216 := by
      have h1 := sum_len1 ((mvsOf M ks).map fun m => partF m two) (fun y hy => by
        obtain ⟨m, hm, rfl⟩ := List.mem_map.mp hy
        have := mvsOf_mem hm
        unfold partF
        split
        · exact ok.w m this
        · exact ok.r m this)
      have h2 : ((mvsOf M ks).map fun m => partF m two).length ≤ ks.length := by
        rw [List.length_map]
        exact List.length_filterMap_le _ _
      rw [show (Str.ofString "").length = 0 from em_len, Nat.mul_zero]
      omega
    walk_at "rd"
    refine r_join (ys := (mvsOf M ks).map fun m => partF m two) (SqL.of v1) hb ?_
    refine q H1 _ s1 ?_
    rw [tl_join, List.map_map]
    rfl

end
end Tw


namespace Tw
open PySem L2
section
variable {P : Program} {w : World} {K : PySem.W.Frag} {mg : Str → Option Value} {base : Heap} {CS CG aN : Addr}
/-- a proof that the machine is twofold -/
def PfAt (M : Mc) (H : Hp) (v : V) : Prop := ∃ (p p1 p2 : Addr) (z : Str) (ks js : List Nat) (w w' : List Nat), v = .ref p ∧ H p = some (.tup [.str z, .ref p1, .ref p2]) ∧ H p1 = some (.lst (ksV ks)) ∧ H p2 = some (.lst (ksV js)) ∧ IsWay M ks (tl z) w ∧ IsWay M js (tl z) w' ∧ w ≠ w' ∧ ks.length ≤ 10000000 ∧ js.length ≤ 10000000
theorem PfAt.same {M : Mc} {H H' : Hp} {v : V} (h : PfAt M H v) (e : Same H H') : PfAt M H' v := by
  obtain ⟨p, p1, p2, z, ks, js, w, w', h1, h2, h3, h4, h5⟩ := h
  exact ⟨p, p1, p2, z, ks, js, w, w', h1, e _ _ h2, e _ _ h3, e _ _ h4, h5⟩
theorem al_nats {H : Hp} : ∀ {ks : List Nat} {vs : List V}, Al RNat H vs ks → vs = ksV ks
  | [], [], _ => rfl
  | [], _ :: _, h => by have := h.len; simp at this
  | _ :: _, [], h => by have := h.len; simp at this
  | z :: zs, v :: vs, h => by
    have h0 : v = .int (z : Int) := h.at_ 0 v z rfl rfl
    rw [h0, al_nats (ks := zs) (vs := vs) ⟨by have := h.len; simpa using this, fun i v x e1 e2 => h.at_ (i + 1) v x (by simpa using e1) (by simpa using e2)⟩]
    rfl
-- Gaps_proof_by
abbrev s_Gaps_proof_by : Stmt := inClass (top 18) 5
abbrev N_Gaps_proof_by : List Str := ["self", "moved", "one", "other", "side", "index"]
theorem sc_Gaps_proof_by : FnScope N_Gaps_proof_by ["self", "moved"] (defScope s_Gaps_proof_by) := ⟨rfl, rfl, rfl, by decide +kernel, rfl, by decide +kernel, by decide +kernel⟩

def spProofBy (K : PySem.W.Frag) (CS CG : Addr) : Sp := fun vs H Q _ => ∃ (Hq : Hp) (g sq fd cd : Addr) (pr : V) (M : Mc) (l ft : Addr) (qs : List V) (rd : Addr) (W : List Sq) (ds : List (Option Sm)) (p : Addr) (mv : List (Bool × Nat)) (t : Sq) (x y : List Nat), vs = [.ref g, .ref p] ∧ GAt K CS CG Hq H g sq fd cd pr M l ft qs rd W ds ∧ M.Ok ∧
  LsAt RMv p mv H ∧ SPath M (fstOf M) mv t x y ∧ LastS M t ∧ mv.length ≤ 1000000 ∧ ∀ (H' : Hp) (v' : V), Same H H' → (x = y → v' = .non) → (x ≠ y → PfAt M H' v') → Q v' H'
theorem ok_Gaps_proof_by (F : MetAt K CG "proof_by" "Gaps.proof_by" s_Gaps_proof_by) (T : TxtS K mg CS CG aN) (c_Gaps_told : CalM P w K mg base CX0 1 CG "told" ["self", "way", "part"] (spTold K CS CG)) :
    CalM P w K mg base CX0 2 CG "proof_by" ["self", "moved"] (spProofBy K CS CG) := by
  refine F.cal sc_Gaps_proof_by (fun _ _ _ _ _ _ us hl => match us, hl with | [_, _], _ => rfl) (fun vs H Q E h => by obtain ⟨_, _, _, _, _, _, _, _, _, _, _, _, _, _, _, _, _, _, rfl, _⟩ := h; rfl) (fun f cdv A outer s0 H vs Q E hr h => ?_)
  obtain ⟨Hq, g, sq, fd, cd, pr, M, l, ft, qs, rd, W, ds, p, mv, t, x, y, rfl, G, ok, lp, sp, la, ml, q⟩ := h
  obtain ⟨_, tf⟩ := T.c_FIRST
  obtain ⟨_, ts⟩ := T.c_SECOND
  obtain ⟨r, w1, w2⟩ := two_ways sp la
  have l1 : (oneOf mv).length ≤ mv.length := List.length_filterMap_le _ _
  have l2 : (otherOf mv).length ≤ mv.length := List.length_filterMap_le _ _
  have k1 : ∀ k ∈ oneOf mv, k < M.moves.length := fun k hk => by
    obtain ⟨_, P1, _⟩ := w1
    exact P1.lt k hk
  have k2 : ∀ k ∈ otherOf mv, k < M.moves.length := fun k hk => by
    obtain ⟨_, P1, _⟩ := w2
    exact P1.lt k hk
  have tw : ∀ {ks : List Nat} {r x : List Nat} {z : Str}, IsWay M ks r x → tl z = ((mvsOf M ks).map fun m => tl (partF m true)).flatten → tl z = x := fun w e => by
    obtain ⟨_, P1, _⟩ := w
    rw [e]
    exact P1.rtext.2.1
  have tr : ∀ {ks : List Nat} {r x : List Nat} {z : Str}, IsWay M ks r x → tl z = ((mvsOf M ks).map fun m => tl (partF m false)).flatten → tl z = r := fun w e => by
    obtain ⟨_, P1, _⟩ := w
    rw [e]
    exact P1.rtext.1
  refine ⟨_, (pss_cons (ps_setLc (i := 2) (own := [("side", 4), ("index", 5)]) (g := (gTup K 2 (gCons (gName 4) (gCons (gName 5) gNil)))) rfl sc_Gaps_proof_by.nd rfl rfl (sw_true rfl rfl rfl (by decide +kernel)) (pi_list (pv 1)) (blkOk_by (N := N_Gaps_proof_by) (sc := defScope s_Gaps_proof_by) (by decide +kernel)) (fun _ _ _ _ _ => (pg_tup (by rfl) (pgs_cons (pg_name (i := 4) sc_Gaps_proof_by.nd rfl (Or.inl rfl)) (pgs_cons (pg_name (i := 5) sc_Gaps_proof_by.nd rfl (Or.inl rfl)) pgs_nil)))) (fun _ _ _ _ _ => pts_one (pt_cmpR op_eq (pv 4) (pe_globI (by rfl) T.c_FIRST) (nomark _))) (fun _ _ _ _ _ => (pv 5)))
  (pss_cons (ps_setLc (i := 3) (own := [("side", 4), ("index", 5)]) (g := (gTup K 2 (gCons (gName 4) (gCons (gName 5) gNil)))) rfl sc_Gaps_proof_by.nd rfl rfl (sw_true rfl rfl rfl (by decide +kernel)) (pi_list (pv 1)) (blkOk_by (N := N_Gaps_proof_by) (sc := defScope s_Gaps_proof_by) (by decide +kernel)) (fun _ _ _ _ _ => (pg_tup (by rfl) (pgs_cons (pg_name (i := 4) sc_Gaps_proof_by.nd rfl (Or.inl rfl)) (pgs_cons (pg_name (i := 5) sc_Gaps_proof_by.nd rfl (Or.inl rfl)) pgs_nil)))) (fun _ _ _ _ _ => pts_one (pt_cmpR op_eq (pv 4) (pe_globI (by rfl) T.c_SECOND) (nomark _))) (fun _ _ _ _ _ => (pv 5)))
  (pss_cons (ps_if (pt_cmpR op_eq (pe_methC T.cl_Gaps c_Gaps_told hr (by decide) (pv 0) (pa_cons (pv 2) (pa_cons pe_int pa_nil))) (pe_methC T.cl_Gaps c_Gaps_told hr (by decide) (pv 0) (pa_cons (pv 3) (pa_cons pe_int pa_nil))) (nomark _))
    (pss_one (ps_ret pe_non))
    pss_nil)
  (pss_one (ps_ret (pe_tup (pa_cons (pe_methC T.cl_Gaps c_Gaps_told hr (by decide) (pv 0) (pa_cons (pv 2) (pa_cons pe_int pa_nil))) (pa_cons (pv 2) (pa_cons (pv 3) pa_nil))))))))), ?_⟩
  refine r_start (σ' := [some (.ref g), some (.ref p), none, none, none, none]) rfl ?_
  walk_at "rd"
  refine r_lcA (a := p) (R := RMv) (S := RNat) (xs := mv) (σw := [some (.ref g), some (.ref p), none, none, none, none]) (fun e => if e.1 = false then some e.2 else none) rfl (fun R h => ⟨_, rfl, h⟩) lp.sq (by omega) (fun i v e H' QY QN hx hv s1 y n => ?_) (fun H1 p1 s1 hp1 lp1 => ?_)
  · obtain ⟨ea, rfl, hea⟩ := hv
    have hea' := SqT.of (K := K) hea
    walk_at "rd"
    refine ⟨rfl, ?_⟩
    walk_at "rd"
    obtain ⟨b, k⟩ := e
    cases b with
    | false => exact r_is rfl (by walk_at "rd"; exact y _ _ _ (Same.refl _) rfl rfl)
    | true => exact r_isnt rfl (n _ (Same.refl _) rfl)
  walk_at "rd"
  have lp' := lp.same s1
  refine r_lcA (a := p) (R := RMv) (S := RNat) (xs := mv) (σw := [some (.ref g), some (.ref p), some (.ref p1), none, none, none]) (fun e => if e.1 = true then some e.2 else none) rfl (fun R h => ⟨_, rfl, h⟩) lp'.sq (by omega) (fun i v e H' QY QN hx hv s1 y n => ?_) (fun H2 p2 s2 hp2 lp2 => ?_)
  · obtain ⟨ea, rfl, hea⟩ := hv
    have hea' := SqT.of (K := K) hea
    walk_at "rd"
    refine ⟨rfl, ?_⟩
    walk_at "rd"
    obtain ⟨b, k⟩ := e
    cases b with
    | true => exact r_is rfl (by walk_at "rd"; exact y _ _ _ (Same.refl _) rfl rfl)
    | false => exact r_isnt rfl (n _ (Same.refl _) rfl)
  have G2 := (G.up s1).up s2
  have lo : LsAt RNat p1 (oneOf mv) H2 := lp1.same s2
  have lt : LsAt RNat p2 (otherOf mv) H2 := lp2
  have mt := G2.m (m := "told") rfl
  walk_at "rd"
  refine ⟨Hq, g, sq, fd, cd, pr, M, l, ft, qs, rd, W, ds, p1, oneOf mv, true, rfl, G2, ok, lo, k1, by omega, fun H3 z1 s3 e1 => ?_⟩
  have G3 := G2.up s3
  have mt3 := G3.m (m := "told") rfl
  have ez1 := tw w1 e1
  walk_at "rd"
  refine ⟨Hq, g, sq, fd, cd, pr, M, l, ft, qs, rd, W, ds, p2, otherOf mv, true, rfl, G3, ok, lt.same s3, k2, by omega, fun H4 z2 s4 e2 => ?_⟩
  have G4 := G3.up s4
  have mt4 := G4.m (m := "told") rfl
  have ez2 := tw w2 e2
  have s14 : Same H H4 := s1.trans (s2.trans (s3.trans s4))
  walk_at "rd"
  refine r_both (fun e => ?_) (fun e => ?_)
  · have exy : x = y := by
      rw [← ez1, ← ez2, V.str.inj e]
    walk_at "rd"
    exact q H4 _ s14 (fun _ => rfl) (fun ne => absurd exy ne)
  · have nxy : x ≠ y := fun exy => e (by rw [tl_inj (ez1.trans (exy.trans ez2.symm))])
    walk_at "rd"
    refine ⟨Hq, g, sq, fd, cd, pr, M, l, ft, qs, rd, W, ds, p1, oneOf mv, false, rfl, G4, ok, (lo.same s3).same s4, k1, by omega, fun H5 z3 s5 e3 => ?_⟩
    walk_at "rd"
    refine r_new (Nat.le_of_ble_eq_true rfl) fun pt hpt => ?_
    have s6 : Same H5 (upd H5 pt (.tup [.str z3, .ref p1, .ref p2])) := same_up hpt
    obtain ⟨v1, q1, q2⟩ := ((lo.same s3).same s4).same s5
    obtain ⟨v2, q3, q4⟩ := ((lt.same s3).same s4).same s5
    rw [al_nats q2] at q1
    rw [al_nats q4] at q3
    have er := tr w1 e3
    refine q _ _ (s14.trans (s5.trans s6)) (fun exy => absurd exy nxy) (fun _ => ⟨pt, p1, p2, z3, oneOf mv, otherOf mv, x, y, rfl, upd_same, s6 _ _ q1, s6 _ _ q3, by rw [er]; exact w1, by rw [er]; exact w2, nxy, by omega, by omega⟩)

end
end Tw


namespace Tw
open PySem L2
section
variable {P : Program} {w : World} {K : PySem.W.Frag} {mg : Str → Option Value} {base : Heap} {CS CG aN : Addr}
/-- what is found so far: spots, their gaps, where they were come to from -/
structure GInv (M : Mc) (F : List Sq) (G : List (Str × Str)) (Cs : List (Option En)) : Prop where
  lg : F.length = G.length
  lc : F.length = Cs.length
  nd : F.Nodup
  z : F[0]? = some (fstOf M) ∧ G[0]? = some (emS, emS) ∧ Cs[0]? = some none
  lv : ∀ s ∈ F, RcS M s ∧ LvS M s
  pt : ∀ (i : Nat) s g, 0 < i → F[i]? = some s → G[i]? = some g → ∃ (a : En) (j : Nat) (g' : Str × Str) (m : Mv), Cs[i]? = some (some a) ∧ j < i ∧ F[j]? = some a.s ∧ G[j]? = some g' ∧ SStep M a.s ⟨a.b, a.k, s⟩ ∧ M.moves[a.k]? = some m ∧ gapF g' a.b m.w = some g
  la : ∀ (i : Nat) s g, F[i]? = some s → G[i]? = some g → LastS M s → g = (emS, emS)
  gl : ∀ (i : Nat) g, G[i]? = some g → g.1.length ≤ i ∧ g.2.length ≤ i
theorem GInv.few {M : Mc} {F : List Sq} {G : List (Str × Str)} {Cs : List (Option En)} (ok : M.Ok) (h : GInv M F G Cs) : F.length ≤ 110000 := sq_few ok h.nd fun s hs => RcS.ok ok (h.lv s hs).1
/-- a gap comes by a way -/
theorem GInv.way {M : Mc} {F : List Sq} {G : List (Str × Str)} {Cs : List (Option En)} (h : GInv M F G Cs) : ∀ (i : Nat) {s : Sq} {g : Str × Str}, F[i]? = some s → G[i]? = some g → ∃ mv x y, SPath M (fstOf M) mv s x y ∧ Gp g x y := by
  intro i
  induction i using Nat.strongRecOn with
  | ind i ih =>
    intro s g hs hg
    rcases Nat.eq_zero_or_pos i with rfl | hi
    · rw [h.z.1] at hs
      rw [h.z.2.1] at hg
      cases hs
      cases hg
      exact ⟨[], [], [], .nil _, gp_no⟩
    · obtain ⟨a, j, g', m, _, hj, hF, hG, st, hm, e⟩ := h.pt i s g hi hs hg
      obtain ⟨mv, x, y, p, gp⟩ := ih j hj hF hG
      have z := p.snoc st
      refine ⟨_, _, _, z, ?_⟩
      dsimp only
      rw [wOf_at hm]
      exact gap_some gp e
-- Gaps_moved_to
abbrev s_Gaps_moved_to : Stmt := inClass (top 18) 7
abbrev N_Gaps_moved_to : List Str := ["self", "spot", "moved", "side", "index"]
theorem sc_Gaps_moved_to : FnScope N_Gaps_moved_to ["self", "spot"] (defScope s_Gaps_moved_to) := ⟨rfl, rfl, rfl, by decide +kernel, rfl, by decide +kernel, by decide +kernel⟩

def spMovedTo (K : PySem.W.Frag) (CS CG : Addr) : Sp := fun vs H Q _ => ∃ (Hq : Hp) (g sq fd cd : Addr) (pr : V) (M : Mc) (l ft : Addr) (qs : List V) (rd : Addr) (W : List Sq) (ds : List (Option Sm)) (F : List Sq) (G : List (Str × Str)) (Cs : List (Option En)) (v : V) (s : Sq) (gs : Str × Str) (i : Nat), vs = [.ref g, v] ∧ GAt K CS CG Hq H g sq fd cd pr M l ft qs rd W ds ∧ M.Ok ∧
  Td (ROpt REn) cd F Cs H ∧ GInv M F G Cs ∧ RSpot H v s ∧ F[i]? = some s ∧ G[i]? = some gs ∧
  ∀ (H' : Hp) (p : Addr) (mv : List (Bool × Nat)) (x y : List Nat), Same H H' → H p = none → LsAt RMv p mv H' → SPath M (fstOf M) mv s x y → Gp gs x y → mv.length ≤ 110000 → Q (.ref p) H'
theorem ok_Gaps_moved_to (F : MetAt K CG "moved_to" "Gaps.moved_to" s_Gaps_moved_to) (T : TxtS K mg CS CG aN) : CalM P w K mg base CX0 1 CG "moved_to" ["self", "spot"] (spMovedTo K CS CG) := by
  refine F.cal sc_Gaps_moved_to (fun _ _ _ _ _ _ us hl => match us, hl with | [_, _], _ => rfl) (fun vs H Q E h => by obtain ⟨_, _, _, _, _, _, _, _, _, _, _, _, _, _, _, _, _, _, _, _, rfl, _⟩ := h; rfl) (fun f cdv A outer s0 H vs Q E hr h => ?_)
  obtain ⟨Hq, g, sq, fd, cd, pr, M, l, ft, qs, rd, W, ds, F, G, Cs, v, s, gs, i0, rfl, GA, ok, tc, GI, rv, hi0, hg0, q⟩ := h
  have few := GI.few ok
  refine ⟨_, (pss_cons (ps_set (i := 2) sc_Gaps_moved_to.nd rfl (Or.inl rfl) (pe_lst pa_nil))
  (pss_cons (ps_while PassesOwn.never (pt_cmpR op_notN (pe_dget (lt64 hr.units) (pe_fld (pv 0) rfl) (pv 1) (fun _ _ => rfl)) pe_non (nomark _))
    (pss_cons (ps_asg (pe_dget (lt64 hr.units) (pe_fld (pv 0) rfl) (pv 1) (fun _ _ => rfl)) (pg_tup (by rfl) (pgs_cons (pg_name (i := 1) sc_Gaps_moved_to.nd rfl (Or.inl rfl)) (pgs_cons (pg_name (i := 3) sc_Gaps_moved_to.nd rfl (Or.inl rfl)) (pgs_cons (pg_name (i := 4) sc_Gaps_moved_to.nd rfl (Or.inl rfl)) pgs_nil)))))
  (pss_one (ps_expr (pe_bm PySem.F.plainAttrs_list PySem.F.slot_list_append PySem.F.type_list_append mt_append (pv 2) (pa_cons (pe_tup (pa_cons (pv 3) (pa_cons (pv 4) pa_nil))) pa_nil))))))
  (pss_one (ps_ret (pe_revL (pv 2)))))), ?_⟩
  refine r_start (σ' := [some (.ref g), some v, none, none, none]) rfl ?_
  walk_at "rd"
  refine r_new (Nat.zero_le _) fun L hL => ?_
  walk_at "rd"
  refine r_while (fun m σ H' => ∃ (t : Sq) (u : V) (gt : Str × Str) (mv : List (Bool × Nat)) (y1 y2 : List Nat) (x3 x4 : Option V), F[m]? = some t ∧ G[m]? = some gt ∧ σ = [some (.ref g), some u, some (.ref L), x3, x4] ∧ Same H H' ∧ LsAt RMv L mv H' ∧ RSpot H' u t ∧ SPath M t mv.reverse s y1 y2 ∧
    (∀ x y, Gp gt x y → Gp gs (x ++ y1) (y ++ y2)) ∧ mv.length + m ≤ F.length) i0
    ⟨s, v, gs, [], [], [], none, none, hi0, hg0, rfl, same_up hL, LsAt.new, Stay.st (keep_of (same_up hL)) rv, .nil s, fun x y h => by rw [List.append_nil, List.append_nil]; exact h, by have := (List.getElem?_eq_some_iff.mp hi0).1; simp; omega⟩ (fun m σ H1 hw QT hT hF => ?_)
  obtain ⟨t, u, gt, mv, y1, y2, x3, x4, hm, hgm, rfl, s1, lL, ru, p, gp, hl⟩ := hw
  have GA1 := GA.up s1
  have fc := GA1.f_came T
  obtain ⟨z, o, dg, ho, rz⟩ := (tc.same s1).get ru hm
  walk_at "rd"
  refine ⟨cd, z, rfl, dg, ?_⟩
  rcases Nat.eq_zero_or_pos m with rfl | hm0
  · rw [GI.z.2.2] at ho
    cases ho
    rcases rz with ⟨_, rfl⟩ | ⟨_, h, _⟩
    · rw [GI.z.1] at hm
      cases hm
      rw [GI.z.2.1] at hgm
      cases hgm
      walk_at "rd"
      refine hF _ ?_
      obtain ⟨us, u1, u2⟩ := id lL
      walk_at "rd"
      refine ⟨L, us, rfl, SqL.of u1, fun p2 hp2 => ?_⟩
      have s2 : Same H1 (upd H1 p2 (.lst us.reverse)) := same_up hp2
      have gp0 := gp [] [] gp_no
      refine q _ p2 mv.reverse y1 y2 (s1.trans s2) (s1.free hp2) ⟨_, upd_same, (u2.reverse).keep (keep_of s2)⟩ p gp0 ?_
      rw [List.length_reverse]
      omega
    · cases h
  · obtain ⟨a, j, g', mm, hc, hj, hFj, hGj, st, hmm, eg⟩ := GI.pt m t gt hm0 hm hgm
    rw [hc] at ho
    cases ho
    rcases rz with ⟨h, _⟩ | ⟨a', h, rz⟩
    · cases h
    · cases h
      obtain ⟨ea, tv, rfl, hea, htv⟩ := rz
      have hea' := SqT.of (K := K) hea
      walk_at "rd"
      refine hT _ ?_
      walk_at "rd"
      refine ⟨cd, .ref ea, rfl, dg, ?_⟩
      walk_at "rd"
      obtain ⟨us, u1, u2⟩ := id lL
      refine r_tyL (SqL.of u1) ?_
      walk_at "rd"
      refine r_new (Nat.le_of_ble_eq_true rfl) fun t1 ht1 => ?_
      walk_at "rd"
      have s2 : Same H1 (upd H1 t1 (.tup [.int (bI a.b), .int (a.k : Int)])) := same_up ht1
      refine (lL.same s2).app (x := (a.b, a.k)) ⟨t1, rfl, upd_same⟩ (by have := (List.getElem?_eq_some_iff.mp hm).1; omega) (fun H3 lL3 kp ne => ?_)
      have p3 := SPath.cons st p
      refine ⟨j, hj, a.s, tv, g', mv ++ [(a.b, a.k)], xUp a.b [] (wOf M a.k) ++ y1, yUp a.b [] (wOf M a.k) ++ y2, _, _, hFj, hGj, rfl, fun b o h => ?_, lL3, Stay.st ((keep_of s2).trans kp) htv, ?_, fun x y h => ?_, ?_⟩
      · rw [ne b (ne_of_none h hL)]
        exact s2 _ _ (s1 _ _ h)
      · rw [List.reverse_append]
        exact p3
      · have z := gp _ _ (gap_some h eg)
        rw [wOf_at hmm, ← List.append_assoc, ← List.append_assoc, ← xUp_eq, ← yUp_eq]
        exact z
      · rw [List.length_append]
        show mv.length + 1 + j ≤ F.length
        omega
-- Gaps_can_be
abbrev s_Gaps_can_be : Stmt := inClass (top 18) 3
abbrev N_Gaps_can_be : List Str := ["self", "spot", "gap"]
theorem sc_Gaps_can_be : FnScope N_Gaps_can_be ["self", "spot", "gap"] (defScope s_Gaps_can_be) := ⟨rfl, rfl, rfl, by decide +kernel, rfl, by decide +kernel, by decide +kernel⟩

def spCanBe (K : PySem.W.Frag) (CS CG : Addr) : Sp := fun vs H Q _ => ∃ (Hq : Hp) (g sq fd cd : Addr) (pr : V) (M : Mc) (l ft : Addr) (qs : List V) (rd : Addr) (W : List Sq) (ds : List (Option Sm)) (F : List Sq) (G : List (Str × Str)) (Cs : List (Option En)) (v u : V) (s : Sq) (o : Option (Str × Str)), vs = [.ref g, v, u] ∧ GAt K CS CG Hq H g sq fd cd pr M l ft qs rd W ds ∧ M.Ok ∧
  Td (RGap K) fd F G H ∧ GInv M F G Cs ∧ RSpot H v s ∧ GapRes K H u o ∧ (∀ g ∈ G, PyData.strOk g.1 = true ∧ PyData.strOk g.2 = true) ∧ (∀ g, o = some g → PyData.strOk g.1 = true ∧ PyData.strOk g.2 = true) ∧
  ∀ (H' : Hp) (b : Bool), Same H H' → (b = true → ∃ g, o = some g ∧ (LastS M s → g = (emS, emS)) ∧ (¬ LastS M s → ∀ (i : Nat) g', F[i]? = some s → G[i]? = some g' → g' = g)) →
    (b = false → o = none ∨ ∃ g, o = some g ∧ ((LastS M s ∧ g ≠ (emS, emS)) ∨ ∃ (i : Nat) (g' : Str × Str), F[i]? = some s ∧ G[i]? = some g' ∧ g' ≠ g)) → Q (.bl b) H'
def gpD (g : Str × Str) : PyData := .tuple [.str g.1, .str g.2]
theorem gp_eqv {g g' : Str × Str} : PyData.eqv (gpD g) (gpD g') = decide (g = g') := by
  obtain ⟨a, b⟩ := g
  obtain ⟨c, d⟩ := g'
  have e1 : ∀ x y : Str, (x == y) = decide (x = y) := fun x y => by
    by_cases h : x = y
    · subst h; simp
    · rw [decide_eq_false h]; exact beq_eq_false_iff_ne.mpr h
  simp [gpD, PyData.eqv, PyData.eqvAll, Prod.mk.injEq, e1]
theorem ok_Gaps_can_be (F : MetAt K CG "can_be" "Gaps.can_be" s_Gaps_can_be) (T : TxtS K mg CS CG aN) (c_Square_is_last : CalM P w K mg base CX0 1 CS "is_last" ["self", "spot"] (spIsLast K CS)) : CalM P w K mg base CX0 2 CG "can_be" ["self", "spot", "gap"] (spCanBe K CS CG) := by
  refine F.cal sc_Gaps_can_be (fun _ _ _ _ _ _ us hl => match us, hl with | [_, _, _], _ => rfl) (fun vs H Q E h => by obtain ⟨_, _, _, _, _, _, _, _, _, _, _, _, _, _, _, _, _, _, _, _, rfl, _⟩ := h; rfl) (fun f cdv A outer s0 H vs Q E hr h => ?_)
  obtain ⟨Hq, g, sq, fd, cd, pr, M, l, ft, qs, rd, W, ds, F, G, Cs, v, u, s, o, rfl, GA, ok, tf, GI, rv, ru, okG, okO, q⟩ := h
  have fs := GA.f_square T
  have ff := GA.f_found T
  obtain ⟨⟨lv, ed, as, eks, B⟩, _, _⟩ := GA.sq.same GA.s
  have ml := B.m_is_last
  have sh : ∀ {g : Str × Str}, PyData.strOk g.1 = true ∧ PyData.strOk g.2 = true → SeqAt.shaped (gpD g) = true := fun h => shaped_two h.1 h.2
  have dg : ∀ {H : Hp} {v : V} {g : Str × Str}, RGap K H v g → Dp K H v (gpD g) := fun ⟨a, e, h⟩ => by rw [e]; exact two_dp h
  have noD : Dp K H (.ref aN) (gpD (emS, emS)) := two_dp (T.k_NO_GAP H)
  have noS : SeqAt.shaped (gpD (emS, emS)) = true := sh ⟨by decide +kernel, by decide +kernel⟩
  refine ⟨_, (pss_cons (ps_if (PW.pt (pw_or (pt_cmpR op_isN (pv 2) pe_non (nomark _)) (pw_or1 (pt_val (pe_methC T.cl_Square c_Square_is_last hr (by decide) (pe_fld (pv 0) rfl) (pa_cons (pv 1) pa_nil))))))
    (pss_one (ps_ret (pe_cmpR (op_eqD hr.units) (pv 2) (pe_glob (v := .ref aN) (by rfl) T.g_NO_GAP rfl) (nomark _))))
    pss_nil)
  (pss_one (ps_ret (pe_cmpR (op_eqD hr.units) (pe_dget2 (lt64 hr.units) (pe_fld (pv 0) rfl) (pv 1) (pv 2) ⟨rfl, rfl, rfl, rfl⟩) (pv 2) (nomark _))))), ?_⟩
  refine r_start (σ' := [some (.ref g), some v, some u]) rfl ?_
  walk_at "rd"
  rcases ru with ⟨rfl, rfl⟩ | ⟨gu, rfl, rg⟩
  · walk_at "rd"
    refine ⟨.none, gpD (emS, emS), .non, noD, by decide +kernel, noS, ?_⟩
    refine q H _ (Same.refl _) (fun h => ?_) (fun _ => .inl rfl)
    have : PyData.eqv .none (gpD (emS, emS)) = false := by simp [gpD, PyData.eqv]
    rw [this] at h
    cases h
  · obtain ⟨ga, rfl, hga⟩ := id rg
    walk_at "rd"
    refine ⟨sq, v, M, s, l, lv, ft, ed, qs, as, eks, rfl, B, rv, ?_⟩
    walk_at "rd"
    refine r_both (fun la => ?_) (fun la => ?_)
    · walk_at "rd"
      refine ⟨gpD gu, gpD (emS, emS), dg rg, noD, sh (okO gu rfl), noS, ?_⟩
      rw [gp_eqv]
      refine q H _ (Same.refl _) (fun h => ⟨gu, rfl, fun _ => of_decide_eq_true h, fun nl => absurd la nl⟩) (fun h => .inr ⟨gu, rfl, .inl ⟨la, of_decide_eq_false h⟩⟩)
    · walk_at "rd"
      refine ⟨fd, rfl, ?_, ?_⟩
      · obtain ⟨vs, h1, _⟩ := tf.h
        exact .inr ⟨_, .inl h1⟩
      · walk_at "rd"
        by_cases hm : s ∈ F
        · obtain ⟨i, hi⟩ := List.getElem?_of_mem hm
          obtain ⟨z, g', e1, e2, e3⟩ := tf.get rv hi
          refine ⟨_, e1, ?_⟩
          walk_at "rd"
          refine ⟨gpD g', gpD gu, dg e3, dg rg, sh (okG g' (List.mem_of_getElem? e2)), sh (okO gu rfl), ?_⟩
          rw [gp_eqv]
          refine q H _ (Same.refl _) (fun h => ⟨gu, rfl, fun l => absurd l la, fun _ j g2 hj hg => ?_⟩) (fun h => .inr ⟨gu, rfl, .inr ⟨i, g', hi, e2, of_decide_eq_false h⟩⟩)
          have : j = i := by
            obtain ⟨l1, k1⟩ := List.getElem?_eq_some_iff.mp hj
            obtain ⟨l2, k2⟩ := List.getElem?_eq_some_iff.mp hi
            exact (List.getElem_inj GI.nd).mp (k1.trans k2.symm)
          subst this
          rw [e2] at hg
          cases hg
          exact of_decide_eq_true h
        · obtain ⟨o2, g1, g2⟩ := tf.in_ rv
          have ho : o2 = none := by
            cases o2 with
            | none => rfl
            | some _ => exact absurd (g2.mp rfl) hm
          subst ho
          refine ⟨_, g1, ?_⟩
          walk_at "rd"
          refine ⟨gpD gu, gpD gu, dg rg, dg rg, sh (okO gu rfl), sh (okO gu rfl), ?_⟩
          rw [gp_eqv]
          refine q H _ (Same.refl _) (fun h => ⟨gu, rfl, fun l => absurd l la, fun _ j g2 hj hg => absurd (List.mem_of_getElem? hj) hm⟩) (fun h => absurd rfl (of_decide_eq_false h))

end
end Tw


namespace Tw
open PySem L2
section
variable {P : Program} {w : World} {K : PySem.W.Frag} {mg : Str → Option Value} {base : Heap} {CS CG aN : Addr}
theorem GAt.put {K : PySem.W.Frag} {CS CG : Addr} {Hq H : Hp} {g sq fd cd : Addr} {pr : V} {M : Mc} {l ft : Addr} {qs : List V} {rd : Addr} {W : List Sq} {ds : List (Option Sm)} (h : GAt K CS CG Hq H g sq fd cd pr M l ft qs rd W ds) {dx : Addr} (v : V) :
    GAt K CS CG Hq (upd H g (.ins CG dx [("square", .ref sq), ("found", .ref fd), ("came", .ref cd), ("proof", v)])) g sq fd cd v M l ft qs rd W ds := ⟨⟨dx, upd_same⟩, same_mut h.s h.ng, h.ng, h.nf, h.nc, h.nfc, h.sq⟩
/-- a gap that cannot be -/
def BadGap (M : Mc) (F : List Sq) (G : List (Str × Str)) (t : Sq) (o : Option (Str × Str)) : Prop := o = none ∨ ∃ g, o = some g ∧ ((LastS M t ∧ g ≠ (emS, emS)) ∨ ∃ (i : Nat) (g' : Str × Str), F[i]? = some t ∧ G[i]? = some g' ∧ g' ≠ g)
-- Gaps_prove
abbrev s_Gaps_prove : Stmt := inClass (top 18) 4
abbrev N_Gaps_prove : List Str := ["self", "spot", "step", "side", "index", "then", "rest"]
theorem sc_Gaps_prove : FnScope N_Gaps_prove ["self", "spot", "step"] (defScope s_Gaps_prove) := ⟨rfl, rfl, rfl, by decide +kernel, rfl, by decide +kernel, by decide +kernel⟩

def spProve (K : PySem.W.Frag) (CS CG : Addr) : Sp := fun vs H Q _ => ∃ (Hq : Hp) (g sq fd cd : Addr) (pr : V) (M : Mc) (l ft : Addr) (qs : List V) (rd : Addr) (W : List Sq) (ds : List (Option Sm)) (F : List Sq) (G : List (Str × Str)) (Cs : List (Option En)) (v u : V) (s : Sq) (e : Sm) (gs : Str × Str) (i : Nat) (m : Mv),
  vs = [.ref g, v, u] ∧ GAt K CS CG Hq H g sq fd cd pr M l ft qs rd W ds ∧ M.Ok ∧ Td (ROpt REn) cd F Cs H ∧ GInv M F G Cs ∧ RSpot H v s ∧ RStep H u e ∧ F[i]? = some s ∧ G[i]? = some gs ∧ SStep M s e ∧ M.moves[e.k]? = some m ∧ e.t ∈ W ∧ BadGap M F G e.t (gapF gs e.b m.w) ∧
  ∀ (H' : Hp) (v' : V), (∀ b o, b ≠ g → H b = some o → H' b = some o) → GAt K CS CG Hq H' g sq fd cd v' M l ft qs rd W ds → PfAt M H' v' → Q .non H'
theorem ok_Gaps_prove (F : MetAt K CG "prove" "Gaps.prove" s_Gaps_prove) (T : TxtS K mg CS CG aN) (c_Square_moved_from : CalM P w K mg base CX0 1 CS "moved_from" ["self", "spot"] (spMovedFrom K CS))
    (c_Gaps_moved_to : CalM P w K mg base CX0 1 CG "moved_to" ["self", "spot"] (spMovedTo K CS CG)) (c_Gaps_proof_by : CalM P w K mg base CX0 2 CG "proof_by" ["self", "moved"] (spProofBy K CS CG)) : CalM P w K mg base CX0 3 CG "prove" ["self", "spot", "step"] (spProve K CS CG) := by
  refine F.cal sc_Gaps_prove (fun _ _ _ _ _ _ us hl => match us, hl with | [_, _, _], _ => rfl) (fun vs H Q E h => by obtain ⟨_, _, _, _, _, _, _, _, _, _, _, _, _, _, _, _, _, _, _, _, _, _, _, rfl, _⟩ := h; rfl) (fun f cdv A outer s0 H vs Q E hr h => ?_)
  obtain ⟨Hq, g, sq, fd, cd, pr, M, l, ft, qs, rd, W, ds, F, G, Cs, v, u, s, e, gs, i, m, rfl, GA, ok, tc, GI, rv, ru, hi, hg, st, hm, hW, bad, q⟩ := h
  obtain ⟨ua, tv, rfl, hua, rt⟩ := ru
  have hua' := SqT.of (K := K) hua
  have fs := GA.f_square T
  have S0 := GA.sq.same GA.s
  obtain ⟨⟨lv, ed, as, eks, B⟩, _, _⟩ := id S0
  have mm := B.m_moved_from
  refine ⟨_, (pss_cons (ps_asg (pv 2) (pg_tup (by rfl) (pgs_cons (pg_name (i := 3) sc_Gaps_prove.nd rfl (Or.inl rfl)) (pgs_cons (pg_name (i := 4) sc_Gaps_prove.nd rfl (Or.inl rfl)) (pgs_cons (pg_name (i := 5) sc_Gaps_prove.nd rfl (Or.inl rfl)) pgs_nil)))))
  (pss_cons (ps_set (i := 6) sc_Gaps_prove.nd rfl (Or.inl rfl) (pe_methC T.cl_Square c_Square_moved_from hr (by decide) (pe_fld (pv 0) rfl) (pa_cons (pv 5) pa_nil)))
  (pss_cons (ps_fld (pv 0) (pe_methC T.cl_Gaps c_Gaps_proof_by hr (by decide) (pv 0) (pa_cons (pe_op op_cat (pe_op op_cat (pe_methC T.cl_Gaps c_Gaps_moved_to hr (by decide) (pv 0) (pa_cons (pv 1) pa_nil)) (pe_lst (pa_cons (pe_tup (pa_cons (pv 3) (pa_cons (pv 4) pa_nil))) pa_nil))) (pv 6)) pa_nil)) rfl)
  (pss_one (ps_if (pt_cmpR op_isN (pe_fld (pv 0) rfl) pe_non (nomark _))
    (pss_one (ps_fld (pv 0) (pe_methC T.cl_Gaps c_Gaps_proof_by hr (by decide) (pv 0) (pa_cons (pe_op op_cat (pe_methC T.cl_Gaps c_Gaps_moved_to hr (by decide) (pv 0) (pa_cons (pv 5) pa_nil)) (pv 6)) pa_nil)) rfl))
    pss_nil))))), ?_⟩
  refine r_start (σ' := [some (.ref g), some v, some (.ref ua), none, none, none, none]) rfl ?_
  walk_at "rd"
  refine ⟨sq, tv, M, e.t, l, ft, qs, rd, W, ds, rfl, S0, ok, rt, hW, fun H1 pr1 mr t r1 r2 s1 hpr lr pp la hlast mrl => ?_⟩
  have GA1 := GA.up s1
  have mp := GA1.m (m := "proof_by") rfl
  have mt := GA1.m (m := "moved_to") rfl
  walk_at "rd"
  refine ⟨Hq, g, sq, fd, cd, pr, M, l, ft, qs, rd, W, ds, F, G, Cs, v, s, gs, i, rfl, GA1, ok, tc.same s1, GI, Stay.st (keep_of s1) rv, hi, hg, fun H2 p2 m2 x2 y2 s2 hp2 l2 pth gp2 ml2 => ?_⟩
  walk_at "rd"
  refine r_new (Nat.le_of_ble_eq_true rfl) fun t3 ht3 => ?_
  walk_at "rd"
  have s3 : Same H2 (upd H2 t3 (.tup [.int (bI e.b), .int (e.k : Int)])) := same_up ht3
  have r3 : RMv (upd H2 t3 (.tup [.int (bI e.b), .int (e.k : Int)])) (.ref t3) (e.b, e.k) := ⟨t3, rfl, upd_same⟩
  generalize upd H2 t3 (.tup [.int (bI e.b), .int (e.k : Int)]) = H3 at s3 r3 ⊢
  refine r_new (Nat.le_of_ble_eq_true rfl) fun p4 hp4 => ?_
  have s4 : Same H3 (upd H3 p4 (.lst [.ref t3])) := same_up hp4
  have l4 : LsAt RMv p4 [(e.b, e.k)] (upd H3 p4 (.lst [.ref t3])) := ⟨_, upd_same, Al.one (Stay.st (keep_of s4) r3)⟩
  generalize upd H3 p4 (.lst [.ref t3]) = H4 at s4 l4 ⊢
  refine ((l2.same s3).same s4).cat l4 (by simp only [List.length_singleton]; omega) (fun H5 p5 s5 hp5 l5 => ?_)
  walk_at "rd"
  have s15 : Same H1 H5 := s2.trans (s3.trans (s4.trans s5))
  refine l5.cat (lr.same s15) (by rw [List.length_append, List.length_singleton]; omega) (fun H6 p6 s6 hp6 l6 => ?_)
  walk_at "rd"
  have s16 : Same H1 H6 := s15.trans s6
  have GA6 := GA1.up s16
  have big : SPath M (fstOf M) (m2 ++ [(e.b, e.k)] ++ mr) t (xUp e.b x2 (wOf M e.k) ++ r1) (yUp e.b y2 (wOf M e.k) ++ r2) := (pth.snoc st).app pp
  refine ⟨Hq, g, sq, fd, cd, pr, M, l, ft, qs, rd, W, ds, p6, _, t, _, _, rfl, GA6, ok, l6, big, la, by rw [List.length_append, List.length_append, List.length_singleton]; omega, fun H7 v7 s7 e7 n7 => ?_⟩
  have s17 : Same H1 H7 := s16.trans s7
  have GA7 := GA6.up s7
  obtain ⟨dx, hg7⟩ := GA7.gi
  walk_at "rd"
  refine r_sfv hg7 T.cl_Gaps T.na_proof (Nat.le_of_ble_eq_true rfl) ?_
  walk_at "rd"
  have GA8 : GAt K CS CG Hq (upd H7 g (.ins CG dx (putF "proof" v7 [("square", .ref sq), ("found", .ref fd), ("came", .ref cd), ("proof", pr)]))) g sq fd cd v7 M l ft qs rd W ds := GA7.put v7
  have ne8 : ∀ b, b ≠ g → upd H7 g (.ins CG dx (putF "proof" v7 [("square", .ref sq), ("found", .ref fd), ("came", .ref cd), ("proof", pr)])) b = H7 b := fun b hb => upd_ne hb
  have k8 : Keep H7 (upd H7 g (.ins CG dx (putF "proof" v7 [("square", .ref sq), ("found", .ref fd), ("came", .ref cd), ("proof", pr)]))) := keep_ins hg7
  generalize upd H7 g (.ins CG dx (putF "proof" v7 [("square", .ref sq), ("found", .ref fd), ("came", .ref cd), ("proof", pr)])) = H8 at GA8 ne8 k8 ⊢
  have fp8 := GA8.f_proof T
  have fr8 : ∀ b o, b ≠ g → H1 b = some o → H8 b = some o := fun b o hb h => by rw [ne8 b hb]; exact s17 _ _ h
  have gx : ∀ {g1 : Str × Str}, gapF gs e.b m.w = some g1 → Gp g1 (xUp e.b x2 (wOf M e.k)) (yUp e.b y2 (wOf M e.k)) := fun h => by
    rw [wOf_at hm]
    exact gap_some gp2 h
  walk_at "rd"
  by_cases exy : xUp e.b x2 (wOf M e.k) ++ r1 = yUp e.b y2 (wOf M e.k) ++ r2
  · have hv7 := e7 exy
    subst hv7
    walk_at "rd"
    -- the other proof
    obtain ⟨g1, hg1, hb⟩ : ∃ g1, gapF gs e.b m.w = some g1 ∧ ∃ (i : Nat) (g' : Str × Str), F[i]? = some e.t ∧ G[i]? = some g' ∧ g' ≠ g1 := by
      rcases bad with h | ⟨g1, h, h2 | h2⟩
      · have z := gap_none (u := r1) (v := r2) (ok.w m (List.mem_of_getElem? hm)) gp2 h
        rw [← wOf_at hm] at z
        exact absurd exy z
      · have hmr := hlast h2.1
        subst hmr
        obtain ⟨e1, e2, e3⟩ := pp.nil_inv
        subst e2 e3
        have z := gp_one (gx h) gp_no exy rfl
        exact absurd z h2.2
      · exact ⟨g1, h, h2⟩
    obtain ⟨j, g', hj, hgj, hne⟩ := hb
    have mt8 := GA8.m (m := "moved_to") rfl
    have mp8 := GA8.m (m := "proof_by") rfl
    have tc8 : Td (ROpt REn) cd F Cs H8 := by
      have ncg : cd ≠ g := fun z => by
        obtain ⟨vs, h1, _⟩ := tc.h
        obtain ⟨dx', h2⟩ := GA.gi
        rw [z, h2] at h1
        cases h1
      exact ((tc.same s1).same s17).fr k8 (ne8 cd ncg)
    walk_at "rd"
    refine ⟨Hq, g, sq, fd, cd, .non, M, l, ft, qs, rd, W, ds, F, G, Cs, tv, e.t, g', j, rfl, GA8, ok, tc8, GI, Stay.st ((keep_of (s1.trans s17)).trans k8) rt, hj, hgj, fun H9 p9 m9 x9 y9 s9 hp9 l9 pth9 gp9 ml9 => ?_⟩
    walk_at "rd"
    have lr9 : LsAt RMv pr1 mr H9 := by
      have npg : pr1 ≠ g := fun z => by
        obtain ⟨dx', h2⟩ := GA.gi
        rw [z, h2] at hpr
        cases hpr
      exact ((lr.same s17).fr k8 (ne8 pr1 npg)).same s9
    refine l9.cat lr9 (by omega) (fun H10 p10 s10 hp10 l10 => ?_)
    walk_at "rd"
    have GA10 := (GA8.up s9).up s10
    have sec : SPath M (fstOf M) (m9 ++ mr) t (x9 ++ r1) (y9 ++ r2) := pth9.app pp
    refine ⟨Hq, g, sq, fd, cd, .non, M, l, ft, qs, rd, W, ds, p10, _, t, _, _, rfl, GA10, ok, l10, sec, la, by rw [List.length_append]; omega, fun H11 v11 s11 e11 n11 => ?_⟩
    have GA11 := GA10.up s11
    obtain ⟨dx2, hg11⟩ := GA11.gi
    walk_at "rd"
    refine r_sfv hg11 T.cl_Gaps T.na_proof (Nat.le_of_ble_eq_true rfl) ?_
    have nxy : x9 ++ r1 ≠ y9 ++ r2 := fun z => hne (gp_one gp9 (gx hg1) z exy)
    have pf := n11 nxy
    refine q _ v11 (fun b o hb h => ?_) (GA11.put v11) ?_
    · rw [upd_ne hb]
      exact s11 _ _ (s10 _ _ (s9 _ _ (fr8 b o hb (s1 _ _ h))))
    · obtain ⟨p, p1, p2', z, ks, js, w1, w2, h1, h2, h3, h4, h5⟩ := pf
      refine ⟨p, p1, p2', z, ks, js, w1, w2, h1, ?_, ?_, ?_, h5⟩
      · rw [upd_ne (ne_of h2 hg11 (by intro z; cases z))]; exact h2
      · rw [upd_ne (ne_of h3 hg11 (by intro z; cases z))]; exact h3
      · rw [upd_ne (ne_of h4 hg11 (by intro z; cases z))]; exact h4
  · have pf := n7 exy
    obtain ⟨p, p1, p2', z, ks, js, w1, w2, rfl, h2, h3, h4, h5⟩ := pf
    walk_at "rd"
    refine q _ _ (fun b o hb h => fr8 b o hb (s1 _ _ h)) GA8 ⟨p, p1, p2', z, ks, js, w1, w2, rfl, ?_, ?_, ?_, h5⟩
    · rw [ne8 p (ne_of h2 hg7 (by intro z; cases z))]; exact h2
    · rw [ne8 p1 (ne_of h3 hg7 (by intro z; cases z))]; exact h3
    · rw [ne8 p2' (ne_of h4 hg7 (by intro z; cases z))]; exact h4

end
end Tw


namespace Tw
open PySem L2
section
variable {P : Program} {w : World} {K : PySem.W.Frag} {mg : Str → Option Value} {base : Heap} {CS CG aN : Addr}
/-- the tables of a Gaps -/
structure Tabs (K : PySem.W.Frag) (M : Mc) (fd cd : Addr) (F : List Sq) (G : List (Str × Str)) (Cs : List (Option En)) (H : Hp) : Prop where
  tf : Td (RGap K) fd F G H
  tc : Td (ROpt REn) cd F Cs H
  gi : GInv M F G Cs
theorem Tabs.up {K : PySem.W.Frag} {M : Mc} {fd cd : Addr} {F : List Sq} {G : List (Str × Str)} {Cs : List (Option En)} {H H' : Hp} (h : Tabs K M fd cd F G Cs H) (e : Same H H') : Tabs K M fd cd F G Cs H' := ⟨h.tf.same e, h.tc.same e, h.gi⟩
/-- texts that can be laid -/
theorem GInv.strs {M : Mc} {F : List Sq} {G : List (Str × Str)} {Cs : List (Option En)} (h : GInv M F G Cs) (hs : ∀ m ∈ M.moves, PyData.strOk m.r = true ∧ PyData.strOk m.w = true) : ∀ g ∈ G, PyData.strOk g.1 = true ∧ PyData.strOk g.2 = true := by
  intro g hg
  obtain ⟨i, hi⟩ := List.getElem?_of_mem hg
  have hF : i < F.length := by rw [h.lg]; exact (List.getElem?_eq_some_iff.mp hi).1
  obtain ⟨mv, x, y, p, gp⟩ := h.way i (List.getElem?_eq_getElem hF) hi
  obtain ⟨r1, r2, P1, P2, _⟩ := p.paths
  have s1 := (P1.strs hs).2
  have s2 := (P2.strs hs).2
  have ne : PyData.strOk emS = true := by decide +kernel
  rcases gp_shape gp with ⟨h1, h2⟩ | ⟨h1, h2⟩
  · refine ⟨(strOk_iff _).mpr fun c hc => s1 c ?_, by rw [h1]; exact ne⟩
    rw [h2]
    exact List.mem_append_right _ hc
  · refine ⟨by rw [h1]; exact ne, (strOk_iff _).mpr fun c hc => s2 c ?_⟩
    rw [h2]
    exact List.mem_append_right _ hc
theorem gapF_len {g g' : Str × Str} {b : Bool} {w : Str} {n : Nat} (hw : w.length ≤ 1) (h : g.1.length ≤ n ∧ g.2.length ≤ n) (e : gapF g b w = some g') : g'.1.length ≤ n + 1 ∧ g'.2.length ≤ n + 1 := by
  obtain ⟨g1, g2⟩ := g
  have hc : ∀ z : Str, (cutS z (some (w.length : Int)) none).length ≤ z.length := fun z => by
    rw [← tl_len, cut_from, List.length_drop, tl_len]
    omega
  unfold gapF at e
  cases b
  · have s0 : ∀ g : Str × Str, swp false g = g := fun _ => rfl
    simp only [s0] at e
    split at e
    · cases e
      refine ⟨?_, by have := h.2; dsimp only at *; omega⟩
      have := h.1
      show (g1 ++ w).length ≤ _
      rw [len_cat]
      dsimp only at this
      omega
    · split at e
      · cases e
        refine ⟨by have := h.1; dsimp only at *; omega, ?_⟩
        have := hc g2
        have := h.2
        dsimp only at *
        omega
      · cases e
  · have s0 : ∀ g : Str × Str, swp true g = (g.2, g.1) := fun _ => rfl
    simp only [s0] at e
    split at e
    · cases e
      refine ⟨by have := h.1; dsimp only at *; omega, ?_⟩
      have := h.2
      show (g2 ++ w).length ≤ _
      rw [len_cat]
      dsimp only at this
      omega
    · split at e
      · cases e
        refine ⟨?_, by have := h.2; dsimp only at *; omega⟩
        have := hc g1
        have := h.1
        dsimp only at *
        omega
      · cases e
/-- one more -/
theorem GInv.more {M : Mc} {F : List Sq} {G : List (Str × Str)} {Cs : List (Option En)} (ok : M.Ok) (h : GInv M F G Cs) {a : En} {t : Sq} {i : Nat} {gs g : Str × Str} {m : Mv} (hi : F[i]? = some a.s) (hg : G[i]? = some gs) (st : SStep M a.s ⟨a.b, a.k, t⟩) (hm : M.moves[a.k]? = some m) (e : gapF gs a.b m.w = some g)
    (lv : LvS M t) (nm : t ∉ F) (la : LastS M t → g = (emS, emS)) : GInv M (F ++ [t]) (G ++ [g]) (Cs ++ [some a]) := by
  have hl : i < F.length := (List.getElem?_eq_some_iff.mp hi).1
  have app : ∀ {α : Type} {l : List α} {x : α} {j : Nat} {y : α}, (l ++ [x])[j]? = some y → (j < l.length ∧ l[j]? = some y) ∨ (j = l.length ∧ y = x) := fun {α l x j y} h => by
    rcases Nat.lt_trichotomy j l.length with hj | hj | hj
    · rw [List.getElem?_append_left hj] at h
      exact .inl ⟨hj, h⟩
    · rw [List.getElem?_append_right (by omega), hj, Nat.sub_self] at h
      cases h
      exact .inr ⟨hj, rfl⟩
    · rw [List.getElem?_eq_none (by rw [List.length_append]; exact hj)] at h
      cases h
  have left : ∀ {α : Type} {l : List α} {x : α} {j : Nat} {y : α}, l[j]? = some y → (l ++ [x])[j]? = some y := fun {α l x j y} h => by
    rw [List.getElem?_append_left (List.getElem?_eq_some_iff.mp h).1]
    exact h
  have lg := h.lg
  have lc := h.lc
  refine ⟨by simp [lg], by simp [lc], List.nodup_append.mpr ⟨h.nd, by simp, fun x hx y hy e => by
    rw [List.mem_singleton.mp hy] at e
    exact nm (e ▸ hx)⟩, ⟨left h.z.1, left h.z.2.1, left h.z.2.2⟩, fun s hs => ?_, fun j s g' hj hs hg' => ?_, fun j s g' hs hg' l => ?_, fun j g' hg' => ?_⟩
  · rcases List.mem_append.mp hs with hs | hs
    · exact h.lv s hs
    · rw [List.mem_singleton.mp hs]
      exact ⟨(h.lv _ (List.mem_of_getElem? hi)).1.step st, lv⟩
  · rcases app hs with ⟨a1, a2⟩ | ⟨a1, a2⟩
    · rcases app hg' with ⟨b1, b2⟩ | ⟨b1, b2⟩
      · obtain ⟨a', j', g2, m2, c1, c2, c3, c4, c5⟩ := h.pt j s g' hj a2 b2
        exact ⟨a', j', g2, m2, left c1, c2, left c3, left c4, c5⟩
      · omega
    · rcases app hg' with ⟨b1, b2⟩ | ⟨b1, b2⟩
      · omega
      · subst a2 b2
        refine ⟨a, i, gs, m, ?_, by omega, left hi, left hg, st, hm, e⟩
        rw [a1, lc, List.getElem?_append_right (Nat.le_refl _), Nat.sub_self]
        rfl
  · rcases app hs with ⟨a1, a2⟩ | ⟨a1, a2⟩
    · rcases app hg' with ⟨b1, b2⟩ | ⟨b1, b2⟩
      · exact h.la j s g' a2 b2 l
      · omega
    · rcases app hg' with ⟨b1, b2⟩ | ⟨b1, b2⟩
      · omega
      · subst a2 b2
        exact la l
  · rcases app hg' with ⟨b1, b2⟩ | ⟨b1, b2⟩
    · exact h.gl j g' b2
    · subst b2
      have z := gapF_len (ok.w m (List.mem_of_getElem? hm)) (h.gl i gs hg) e
      omega
-- Gaps_measure_from
abbrev s_Gaps_measure_from : Stmt := inClass (top 18) 2
abbrev N_Gaps_measure_from : List Str := ["self", "spot", "new", "step", "side", "index", "then", "gap"]
theorem sc_Gaps_measure_from : FnScope N_Gaps_measure_from ["self", "spot"] (defScope s_Gaps_measure_from) := ⟨rfl, rfl, rfl, by decide +kernel, rfl, by decide +kernel, by decide +kernel⟩

def spMeasureFrom (K : PySem.W.Frag) (CS CG : Addr) : Sp := fun vs H Q _ => ∃ (Hq : Hp) (g sq fd cd : Addr) (M : Mc) (l ft : Addr) (qs : List V) (rd : Addr) (W : List Sq) (ds : List (Option Sm)) (F : List Sq) (G : List (Str × Str)) (Cs : List (Option En)) (v : V) (s : Sq) (gs : Str × Str) (n : Nat),
  vs = [.ref g, v] ∧ GAt K CS CG Hq H g sq fd cd .non M l ft qs rd W ds ∧ M.Ok ∧ (∀ m ∈ M.moves, PyData.strOk m.r = true ∧ PyData.strOk m.w = true) ∧ Tabs K M fd cd F G Cs H ∧ RSpot H v s ∧ F[n]? = some s ∧ G[n]? = some gs ∧
  (∀ (H' : Hp) (p : Addr) (new : List Sq) (G' : List (Str × Str)) (Cs' : List (Option En)), (∀ b o, b ≠ g → b ≠ fd → b ≠ cd → H b = some o → H' b = some o) → H p = none → GAt K CS CG Hq H' g sq fd cd .non M l ft qs rd W ds → Tabs K M fd cd (F ++ new) G' Cs' H' → LsAt RSpot p new H' → G <+: G' →
    (∀ e m, SStep M s e → M.moves[e.k]? = some m → LvS M e.t → ∃ (j : Nat) (g' : Str × Str), (F ++ new)[j]? = some e.t ∧ G'[j]? = some g' ∧ gapF gs e.b m.w = some g' ∧ (LastS M e.t → g' = (emS, emS))) → Q (.ref p) H') ∧
  ∀ (H' : Hp) (p : Addr) (v' : V), (∀ b o, b ≠ g → b ≠ fd → b ≠ cd → H b = some o → H' b = some o) → H p = none → GAt K CS CG Hq H' g sq fd cd v' M l ft qs rd W ds → PfAt M H' v' → LsAt RSpot p ([] : List Sq) H' → Q (.ref p) H'
theorem ok_Gaps_measure_from (F : MetAt K CG "measure_from" "Gaps.measure_from" s_Gaps_measure_from) (T : TxtS K mg CS CG aN) (c_Square_steps : CalM P w K mg base CX0 1 CS "steps" ["self", "spot"] (spSteps K CS)) (c_gap_after : Cal P w K mg base CX0 1 "gap_after" ["gap", "side", "write"] (spGapAfter K))
    (c_Gaps_can_be : CalM P w K mg base CX0 2 CG "can_be" ["self", "spot", "gap"] (spCanBe K CS CG)) (c_Gaps_prove : CalM P w K mg base CX0 3 CG "prove" ["self", "spot", "step"] (spProve K CS CG)) : CalM P w K mg base CX0 4 CG "measure_from" ["self", "spot"] (spMeasureFrom K CS CG) := by
  refine F.cal sc_Gaps_measure_from (fun _ _ _ _ _ _ us hl => match us, hl with | [_, _], _ => rfl) (fun vs H Q E h => by obtain ⟨_, _, _, _, _, _, _, _, _, _, _, _, _, _, _, _, _, _, _, rfl, _⟩ := h; rfl) (fun f cdv A outer s0 H vs Q E hr h => ?_)
  obtain ⟨Hq, g, sq, fd, cd, M, l, ft, qs, rd, W, ds, F, G, Cs, v, s, gs, n, rfl, GA, ok, hstr, TB, rv, hn, hgn, qA, qB⟩ := h
  have hrc := (TB.gi.lv s (List.mem_of_getElem? hn)).1
  have ml := ok.ml
  refine ⟨_, (pss_cons (ps_set (i := 2) sc_Gaps_measure_from.nd rfl (Or.inl rfl) (pe_lst pa_nil))
  (pss_cons (ps_for PassesOwn.never rfl (pi_list (pe_methC T.cl_Square c_Square_steps hr (by decide) (pe_fld (pv 0) rfl) (pa_cons (pv 1) pa_nil))) (pg_name (i := 3) sc_Gaps_measure_from.nd rfl (Or.inl rfl))
    (pss_cons (ps_asg (pv 3) (pg_tup (by rfl) (pgs_cons (pg_name (i := 4) sc_Gaps_measure_from.nd rfl (Or.inl rfl)) (pgs_cons (pg_name (i := 5) sc_Gaps_measure_from.nd rfl (Or.inl rfl)) (pgs_cons (pg_name (i := 6) sc_Gaps_measure_from.nd rfl (Or.inl rfl)) pgs_nil)))))
  (pss_one (ps_if (pt_cmp (pc_din (lt64 hr.units) (pv 6) (pe_fld (pe_fld (pv 0) rfl) rfl)))
    (pss_cons (ps_set (i := 7) sc_Gaps_measure_from.nd rfl (Or.inl rfl) (pe_callC c_gap_after hr (by decide) (by rfl) (pa_cons (pe_dget (lt64 hr.units) (pe_fld (pv 0) rfl) (pv 1) (fun _ _ => rfl)) (pa_cons (pv 4) (pa_cons (pe_ix ix_tup (pe_ix ix_list (pe_fld (pe_fld (pv 0) rfl) rfl) (pv 5) (fun _ _ => rfl)) pe_int (fun _ _ => rfl)) pa_nil)))))
  (pss_cons (ps_if (pt_not (pt_val (pe_methC T.cl_Gaps c_Gaps_can_be hr (by decide) (pv 0) (pa_cons (pv 6) (pa_cons (pv 7) pa_nil)))))
    (pss_cons (ps_expr (pe_methC T.cl_Gaps c_Gaps_prove hr (by decide) (pv 0) (pa_cons (pv 1) (pa_cons (pv 3) pa_nil))))
  (pss_one (ps_ret (pe_lst pa_nil))))
    pss_nil)
  (pss_one (ps_if (pt_cmp (pc_dnotin (lt64 hr.units) (pv 6) (pe_fld (pv 0) rfl)))
    (pss_cons (ps_dput (lt64 hr.units) (pe_fld (pv 0) rfl) (pv 6) (pv 7) rfl)
  (pss_cons (ps_dput (lt64 hr.units) (pe_fld (pv 0) rfl) (pv 6) (pe_tup (pa_cons (pv 1) (pa_cons (pv 4) (pa_cons (pv 5) pa_nil)))) rfl)
  (pss_one (ps_expr (pe_bm PySem.F.plainAttrs_list PySem.F.slot_list_append PySem.F.type_list_append mt_append (pv 2) (pa_cons (pv 6) pa_nil))))))
    pss_nil))))
    pss_nil))))
  (pss_one (ps_ret (pv 2))))), ?_⟩
  refine r_start (σ' := [some (.ref g), some v, none, none, none, none, none, none]) rfl ?_
  walk_at "rd"
  refine r_new (Nat.zero_le _) fun N hN => ?_
  walk_at "rd"
  have sN : Same H (upd H N (.lst [])) := same_up hN
  have lN : LsAt RSpot N ([] : List Sq) (upd H N (.lst [])) := LsAt.new
  generalize upd H N (.lst []) = H1 at sN lN ⊢
  have GA1 := GA.up sN
  refine r_forV ?_
  have fs1 := GA1.f_square T
  obtain ⟨⟨lv, ed, as, eks, B1⟩, _, _⟩ := GA1.sq.same GA1.s
  have ms := B1.m_steps
  walk_at "rd"
  refine ⟨sq, v, M, s, l, lv, ft, ed, qs, as, eks, rfl, B1, ok, Stay.st (keep_of sN) rv, RcS.ok ok hrc, fun H2 p s2 hp lp => ?_⟩
  have GA2 := GA1.up s2
  have TB2 := (TB.up sN).up s2
  have fr2 : ∀ b o, H b = some o → H2 b = some o := fun b o h => s2 _ _ (sN _ _ h)
  have npN : p ≠ N := fun z => by
    obtain ⟨_, e1, _⟩ := lN
    rw [z, e1] at hp
    cases hp
  have neD : ∀ {b : Addr} {zs : List V} {H : Hp}, Tabs K M fd cd F G Cs H → H b = some (.lst zs) → b ≠ fd ∧ b ≠ cd := fun t h => ⟨t.tf.ne_lst h, t.tc.ne_lst h⟩
  have hpl : ∃ us, H2 p = some (.lst us) := let ⟨us, u1, _⟩ := lp; ⟨us, u1⟩
  have hpf : p ≠ fd ∧ p ≠ cd := let ⟨us, u1⟩ := hpl; neD TB2 u1
  have hNf : N ≠ fd ∧ N ≠ cd := by
    obtain ⟨us, u1, _⟩ := lN.same s2
    exact neD TB2 u1
  have hpH : H p = none := sN.free hp
  refine r_forA (a := p) (R := RStep) (xs := stepsF M s) (fun j σ H' => ∃ (new : List Sq) (G' : List (Str × Str)) (Cs' : List (Option En)) (x3 x4 x5 x6 x7 : Option V), σ = [some (.ref g), some v, some (.ref N), x3, x4, x5, x6, x7] ∧ GAt K CS CG Hq H' g sq fd cd .non M l ft qs rd W ds ∧ Tabs K M fd cd (F ++ new) G' Cs' H' ∧
    LsAt RSpot N new H' ∧ Std p H2 H' ∧ (∀ b o, b ≠ fd → b ≠ cd → b ≠ N → H2 b = some o → H' b = some o) ∧ G <+: G' ∧ ∀ (c : Nat) e m, c < j → (stepsF M s)[c]? = some e → M.moves[e.k]? = some m → LvS M e.t → ∃ (jj : Nat) (g' : Str × Str), (F ++ new)[jj]? = some e.t ∧ G'[jj]? = some g' ∧ gapF gs e.b m.w = some g' ∧ (LastS M e.t → g' = (emS, emS)))
    (fun R h => h) lp ⟨[], G, Cs, _, _, _, _, _, rfl, GA2, by rw [List.append_nil]; exact TB2, lN.same s2, Std.refl _ _, fun b o _ _ _ h => h, List.prefix_refl _, fun c e m h => absurd h (Nat.not_lt_zero _)⟩ (fun i σ H' _ p => ?_) (fun j u e σ H' he hu p => ?_) (fun σ H' p => ?_)
  · obtain ⟨_, _, _, _, _, _, _, _, _, _, _, _, z, _⟩ := p
    exact z
  · obtain ⟨new, G', Cs', x3, x4, x5, x6, x7, rfl, GA3, TB3, lN3, sd3, fr3, pre, don⟩ := p
    have hu0 := hu
    obtain ⟨ua, tv, rfl, hua, htv⟩ := hu
    have hua' := SqT.of (K := K) hua
    have st : SStep M s e := steps_mem.mp (List.mem_of_getElem? he)
    obtain ⟨m, hm⟩ := st.mv
    have fs3 := GA3.f_square T
    have S3 := GA3.sq.same GA3.s
    have frst := S3.2.1
    have rv3 : RSpot H' v s := Stay.st ((keep_of (sN.trans s2)).trans sd3.1) rv
    walk_at "rd"
    obtain ⟨o, g1, g2⟩ := S3.2.2.1.in_ htv
    refine ⟨rd, o, rfl, g1, ?_⟩
    walk_at "rd"
    cases ho : o.isSome with
    | false =>
      refine r_false ⟨new, G', Cs', _, _, _, _, _, rfl, GA3, TB3, lN3, sd3, fr3, pre, fun c e' m' hc he' hm' lve => ?_⟩
      rcases Nat.lt_or_ge c j with hc' | hc'
      · exact don c e' m' hc' he' hm' lve
      · have : c = j := by omega
        subst this
        rw [he] at he'
        cases he'
        have := g2.mpr ((S3.2.2.2.1 e.t).mpr ⟨hrc.step st, lve⟩)
        rw [ho] at this
        cases this
    | true =>
      refine r_true ?_
      have tW : e.t ∈ W := g2.mp ho
      have tlv := ((S3.2.2.2.1 e.t).mp tW).2
      have ff3 := GA3.f_found T
      have fm3 := GA3.f_moves
      have hl3 := GA3.hl.1
      obtain ⟨qa, i1, i2⟩ := GA3.mv hm
      have hnF : (F ++ new)[n]? = some s := by rw [List.getElem?_append_left (List.getElem?_eq_some_iff.mp hn).1]; exact hn
      have hgF : G'[n]? = some gs := by
        obtain ⟨r, hr⟩ := pre
        rw [← hr, List.getElem?_append_left (List.getElem?_eq_some_iff.mp hgn).1]
        exact hgn
      obtain ⟨zg, gg, dg, eg, rg⟩ := TB3.tf.get rv3 hnF
      rw [hgF] at eg
      cases eg
      have gl := TB3.gi.gl n gs hgF
      have fewF := TB3.gi.few ok
      have hnl := (List.getElem?_eq_some_iff.mp hnF).1
      walk_at "rd"
      refine ⟨fd, zg, rfl, dg, ?_⟩
      walk_at "rd"
      refine ⟨zg, gs, e.b, m.w, rfl, rg, by omega, by omega, ok.w m (List.mem_of_getElem? hm), fun H4 ug s4 rug => ?_⟩
      have GA4 := GA3.up s4
      have TB4 := TB3.up s4
      have mc := GA4.m (m := "can_be") rfl
      have okG := TB4.gi.strs hstr
      have okO : ∀ g, gapF gs e.b m.w = some g → PyData.strOk g.1 = true ∧ PyData.strOk g.2 = true := fun g0 h0 => by
        obtain ⟨mv, x, y, pth, gp⟩ := TB4.gi.way n hnF hgF
        have pth2 := pth.snoc st
        have gp2 := gap_some gp h0
        obtain ⟨r1, r2, P1, P2, _⟩ := pth2.paths
        have t1 := (P1.strs hstr).2
        have t2 := (P2.strs hstr).2
        rw [← wOf_at hm] at gp2
        have ne : PyData.strOk emS = true := by decide +kernel
        rcases gp_shape gp2 with ⟨h1, h2⟩ | ⟨h1, h2⟩
        · refine ⟨(strOk_iff _).mpr fun c hc => t1 c ?_, by rw [h1]; exact ne⟩
          rw [h2]
          exact List.mem_append_right _ hc
        · refine ⟨by rw [h1]; exact ne, (strOk_iff _).mpr fun c hc => t2 c ?_⟩
          rw [h2]
          exact List.mem_append_right _ hc
      walk_at "rd"
      refine ⟨Hq, g, sq, fd, cd, .non, M, l, ft, qs, rd, W, ds, F ++ new, G', Cs', tv, ug, e.t, gapF gs e.b m.w, rfl, GA4, ok, TB4.tf, TB4.gi, Stay.st (keep_of s4) htv, rug, okG, okO, fun H5 b s5 hb1 hb2 => ?_⟩
      have GA5 := GA4.up s5
      have TB5 := TB4.up s5
      have s45 := s4.trans s5
      have fr5 : ∀ b o, b ≠ fd → b ≠ cd → b ≠ N → H2 b = some o → H5 b = some o := fun b o h1 h2 h3 h => s45 _ _ (fr3 b o h1 h2 h3 h)
      walk_at "rd"
      cases b with
      | false =>
        refine r_nf ?_
        have mp := GA5.m (m := "prove") rfl
        walk_at "rd"
        refine ⟨Hq, g, sq, fd, cd, .non, M, l, ft, qs, rd, W, ds, F ++ new, G', Cs', v, .ref ua, s, e, gs, n, m, rfl, GA5, ok, TB5.tc, TB5.gi, Stay.st (keep_of s45) rv3, Stay.st (keep_of s45) hu0, hnF, hgF, st, hm, tW, hb2 rfl, fun H6 v6 fr6 GA6 pf => ?_⟩
        walk_at "rd"
        refine r_new (Nat.zero_le _) fun p7 hp7 => ?_
        have s7 : Same H6 (upd H6 p7 (.lst [])) := same_up hp7
        have nN : ∀ b o, H b = some o → b ≠ N := fun b o h => ne_of_none h hN
        refine qB _ p7 v6 (fun b o h1 h2 h3 h => s7 _ _ (fr6 b o h1 (fr5 b o h2 h3 (nN b o h) (fr2 b o h)))) ?_ (GA6.up s7) (pf.same s7) LsAt.new
        cases q7 : H p7 with
        | none => rfl
        | some o =>
          by_cases z1 : p7 = g
          · obtain ⟨dx, h⟩ := GA6.gi
            rw [z1, h] at hp7
            cases hp7
          · by_cases z2 : p7 = fd
            · rw [z2] at hp7
              obtain ⟨vs, h, _⟩ := TB5.tf.h
              have := fr6 fd _ (fun z => z1 (z2.trans z)) h
              rw [this] at hp7
              cases hp7
            · by_cases z3 : p7 = cd
              · rw [z3] at hp7
                obtain ⟨vs, h, _⟩ := TB5.tc.h
                have := fr6 cd _ (fun z => z1 (z3.trans z)) h
                rw [this] at hp7
                cases hp7
              · have := fr6 p7 o z1 (fr5 p7 o z2 z3 (nN p7 o q7) (fr2 p7 o q7))
                rw [hp7] at this
                cases this
      | true =>
        refine r_nt ?_
        obtain ⟨gg, hgg, la1, la2⟩ := hb1 rfl
        rw [hgg] at rug
        rcases rug with ⟨h, _⟩ | ⟨g3, h, rg3⟩
        · cases h
        cases h
        have htv5 : RSpot H5 tv e.t := Stay.st (keep_of s45) htv
        have rg5 : RGap K H5 ug gg := Stay.st (keep_of s5) rg3
        have ff5 := GA5.f_found T
        have fc5 := GA5.f_came T
        have lN5 := lN3.same s45
        obtain ⟨o5, d1, d2⟩ := TB5.tf.in_ htv5
        walk_at "rd"
        refine ⟨fd, o5, rfl, d1, ?_⟩
        walk_at "rd"
        have sd5 : Std p H2 H5 := ⟨sd3.1.trans (keep_of s45), by
          obtain ⟨us, u1⟩ := hpl
          rw [fr5 p _ hpf.1 hpf.2 npN u1, u1]⟩
        cases ho5 : o5.isSome with
        | true =>
          refine r_nt ⟨new, G', Cs', _, _, _, _, _, rfl, GA5, TB5, lN5, sd5, fr5, pre, fun c e' m' hc he' hm' lve => ?_⟩
          rcases Nat.lt_or_ge c j with hc' | hc'
          · exact don c e' m' hc' he' hm' lve
          · have : c = j := by omega
            subst this
            rw [he] at he'
            cases he'
            rw [hm] at hm'
            cases hm'
            obtain ⟨jj, hjj⟩ := List.getElem?_of_mem (d2.mp ho5)
            have hjg : jj < G'.length := by rw [← TB5.gi.lg]; exact (List.getElem?_eq_some_iff.mp hjj).1
            refine ⟨jj, G'[jj], hjj, List.getElem?_eq_getElem hjg, ?_, fun la => TB5.gi.la jj e.t _ hjj (List.getElem?_eq_getElem hjg) la⟩
            by_cases la : LastS M e.t
            · rw [hgg, TB5.gi.la jj e.t _ hjj (List.getElem?_eq_getElem hjg) la, la1 la]
            · rw [hgg, la2 la jj _ hjj (List.getElem?_eq_getElem hjg)]
        | false =>
          have hnew : e.t ∉ F ++ new := fun z => by
            have := d2.mpr z
            rw [ho5] at this
            cases this
          refine r_nf ?_
          walk_at "rd"
          obtain ⟨H6, p6, tf6, kp6, ne6⟩ := TB5.tf.put (x := gg) (u := ug) htv5 hnew rg5 (by omega)
          refine ⟨fd, H6, rfl, p6, ?_⟩
          have hfc := GA5.nfc
          have tc6 := TB5.tc.fr kp6 (ne6 cd hfc.symm)
          have GA6 : GAt K CS CG Hq H6 g sq fd cd .non M l ft qs rd W ds := by
            obtain ⟨dx, h⟩ := GA5.gi
            have ngf : g ≠ fd := fun z => by
              obtain ⟨vs, h2, _⟩ := TB5.tf.h
              rw [z, h2] at h
              cases h
            exact ⟨⟨dx, by rw [ne6 g ngf]; exact h⟩, fun b o hb => by rw [ne6 b (ne_of_none hb GA5.nf)]; exact GA5.s _ _ hb, GA5.ng, GA5.nf, GA5.nc, GA5.nfc, GA5.sq⟩
          have fc6 := GA6.f_came T
          walk_at "rd"
          refine r_new (Nat.le_of_ble_eq_true rfl) fun t1 ht1 => ?_
          have s7 : Same H6 (upd H6 t1 (.tup [v, .int (bI e.b), .int (e.k : Int)])) := same_up ht1
          have rv6 : RSpot H6 v s := Stay.st ((keep_of s45).trans kp6) rv3
          have ren : ROpt REn (upd H6 t1 (.tup [v, .int (bI e.b), .int (e.k : Int)])) (.ref t1) (some ⟨s, e.b, e.k⟩) := .inr ⟨_, rfl, t1, v, rfl, upd_same, Stay.st (keep_of s7) rv6⟩
          generalize upd H6 t1 (.tup [v, .int (bI e.b), .int (e.k : Int)]) = H7 at s7 ren ⊢
          have fc7 := (GA6.up s7).f_came T
          walk_at "rd"
          have htv7 : RSpot H7 tv e.t := Stay.st (kp6.trans (keep_of s7)) htv5
          obtain ⟨H8, p8, tc8, kp8, ne8⟩ := (tc6.same s7).put (x := some ⟨s, e.b, e.k⟩) (u := .ref t1) htv7 hnew ren (by omega)
          refine ⟨cd, H8, rfl, p8, ?_⟩
          walk_at "rd"
          have tf8 := (tf6.same s7).fr kp8 (ne8 fd hfc)
          have GA8 : GAt K CS CG Hq H8 g sq fd cd .non M l ft qs rd W ds := by
            have GA7 := GA6.up s7
            obtain ⟨dx, h⟩ := GA7.gi
            have ngf : g ≠ cd := fun z => by
              obtain ⟨vs, h2, _⟩ := (tc6.same s7).h
              rw [z, h2] at h
              cases h
            exact ⟨⟨dx, by rw [ne8 g ngf]; exact h⟩, fun b o hb => by rw [ne8 b (ne_of_none hb GA7.nc)]; exact GA7.s _ _ hb, GA7.ng, GA7.nf, GA7.nc, GA7.nfc, GA7.sq⟩
          have GI8 : GInv M (F ++ new ++ [e.t]) (G' ++ [gg]) (Cs' ++ [some ⟨s, e.b, e.k⟩]) := TB5.gi.more ok (a := ⟨s, e.b, e.k⟩) hnF hgF st hm hgg tlv hnew la1
          have lN8 : LsAt RSpot N new H8 := ((lN5.fr kp6 (ne6 N hNf.1)).same s7).fr kp8 (ne8 N hNf.2)
          obtain ⟨vsN, u1, u2⟩ := id lN8
          refine r_tyL (SqL.of u1) ?_
          walk_at "rd"
          refine lN8.app (Stay.st kp8 htv7) ?_ (fun H9 lN9 kp9 ne9 => ?_)
          · rw [List.length_append] at fewF
            omega
          · have fr9 : ∀ b o, b ≠ fd → b ≠ cd → b ≠ N → H2 b = some o → H9 b = some o := fun b o h1 h2 h3 h => by
              rw [ne9 b h3, ne8 b h2]
              refine s7 _ _ ?_
              rw [ne6 b h1]
              exact fr5 b o h1 h2 h3 h
            have GA9 : GAt K CS CG Hq H9 g sq fd cd .non M l ft qs rd W ds := by
              obtain ⟨dx, h⟩ := GA8.gi
              have ngN : g ≠ N := fun z => by
                rw [z, u1] at h
                cases h
              refine ⟨⟨dx, by rw [ne9 g ngN]; exact h⟩, fun b o hb => ?_, GA8.ng, GA8.nf, GA8.nc, GA8.nfc, GA8.sq⟩
              rw [ne9 b (ne_of_none (GA.s _ _ hb) hN)]
              exact GA8.s _ _ hb
            refine ⟨new ++ [e.t], G' ++ [gg], Cs' ++ [some ⟨s, e.b, e.k⟩], _, _, _, _, _, rfl, GA9, ?_, lN9, ⟨sd5.1.trans (kp6.trans ((keep_of s7).trans (kp8.trans kp9))), ?_⟩, fr9, pre.trans (List.prefix_append _ _), fun c e' m' hc he' hm' lve => ?_⟩
            · rw [← List.append_assoc]
              exact ⟨tf8.fr kp9 (ne9 fd hNf.1.symm), tc8.fr kp9 (ne9 cd hNf.2.symm), GI8⟩
            · obtain ⟨us, v1⟩ := hpl
              rw [fr9 p _ hpf.1 hpf.2 npN v1, v1]
            · rw [← List.append_assoc]
              rcases Nat.lt_or_ge c j with hc' | hc'
              · obtain ⟨jj, g9, k1, k2, k3, k4⟩ := don c e' m' hc' he' hm' lve
                exact ⟨jj, g9, by rw [List.getElem?_append_left (List.getElem?_eq_some_iff.mp k1).1]; exact k1, by rw [List.getElem?_append_left (List.getElem?_eq_some_iff.mp k2).1]; exact k2, k3, k4⟩
              · have : c = j := by omega
                subst this
                rw [he] at he'
                cases he'
                rw [hm] at hm'
                cases hm'
                refine ⟨(F ++ new).length, gg, by rw [List.getElem?_append_right (Nat.le_refl _), Nat.sub_self]; rfl, ?_, hgg, la1⟩
                rw [TB5.gi.lg, List.getElem?_append_right (Nat.le_refl _), Nat.sub_self]
                rfl
  · obtain ⟨new, G', Cs', x3, x4, x5, x6, x7, rfl, GA3, TB3, lN3, sd3, fr3, pre, don⟩ := p
    walk_at "rd"
    refine qA H' N new G' Cs' (fun b o h1 h2 h3 h => fr3 b o h2 h3 (ne_of_none h hN) (fr2 b o h)) hN GA3 TB3 lN3 pre (fun e m st hm lve => ?_)
    obtain ⟨j, hj⟩ := List.getElem?_of_mem (steps_mem.mpr st)
    exact don j e m (List.getElem?_eq_some_iff.mp hj).1 hj hm lve

end
end Tw


namespace Tw
open PySem L2
section
variable {P : Program} {w : World} {K : PySem.W.Frag} {mg : Str → Option Value} {base : Heap} {CS CG aN : Addr}
theorem GAt.fr {K : PySem.W.Frag} {CS CG : Addr} {Hq H H' : Hp} {g sq fd cd : Addr} {pr : V} {M : Mc} {l ft : Addr} {qs : List V} {rd : Addr} {W : List Sq} {ds : List (Option Sm)} (h : GAt K CS CG Hq H g sq fd cd pr M l ft qs rd W ds) (e : H' g = H g) (s : Same Hq H') : GAt K CS CG Hq H' g sq fd cd pr M l ft qs rd W ds := by
  obtain ⟨dx, h1⟩ := h.gi
  exact ⟨⟨dx, by rw [e]; exact h1⟩, s, h.ng, h.nf, h.nc, h.nfc, h.sq⟩
theorem Tabs.keep {K : PySem.W.Frag} {M : Mc} {fd cd g C dx : Addr} {fs : List (Str × V)} {F : List Sq} {G : List (Str × Str)} {Cs : List (Option En)} {H H' : Hp} (h : Tabs K M fd cd F G Cs H) (hg : H g = some (.ins C dx fs)) (e : ∀ b o, b ≠ g → b ≠ fd → b ≠ cd → H b = some o → H' b = some o) : Keep H H' := by
  obtain ⟨v1, h1, _⟩ := h.tf.h
  obtain ⟨v2, h2, _⟩ := h.tc.h
  have ne : ∀ b o, H b = some o → (∀ C dx fs, o ≠ .ins C dx fs) → (∀ k, o ≠ .dT k) → H' b = some o := fun b o hb n1 n2 => e b o (fun z => by
    rw [z, hg] at hb
    cases hb
    exact n1 _ _ _ rfl) (fun z => by
    rw [z, h1] at hb
    cases hb
    exact n2 _ rfl) (fun z => by
    rw [z, h2] at hb
    cases hb
    exact n2 _ rfl) hb
  exact ⟨fun b xs hb => ne _ _ hb (by intro _ _ _ z; cases z) (by intro _ z; cases z), fun b o u hb => ne _ _ hb (by intro _ _ _ z; cases z) (by intro _ z; cases z)⟩
theorem GInv.one {M : Mc} (l : LvS M (fstOf M)) : GInv M [fstOf M] [(emS, emS)] [none] where
  lg := rfl
  lc := rfl
  nd := by simp
  z := ⟨rfl, rfl, rfl⟩
  lv := fun s hs => by
    rw [List.mem_singleton.mp hs]
    exact ⟨RcS.first, l⟩
  pt := fun i s g h1 h2 => by
    have := (List.getElem?_eq_some_iff.mp h2).1
    simp at this
    omega
  la := fun i s g h1 h2 _ => by
    have := (List.getElem?_eq_some_iff.mp h2).1
    simp at this
    subst this
    cases h2
    rfl
  gl := fun i g h2 => by
    have := (List.getElem?_eq_some_iff.mp h2).1
    simp at this
    subst this
    cases h2
    exact ⟨Nat.le_refl _, Nat.le_refl _⟩
-- Gaps_measure
abbrev s_Gaps_measure : Stmt := inClass (top 18) 1
abbrev N_Gaps_measure : List Str := ["self", "waiting", "at"]
theorem sc_Gaps_measure : FnScope N_Gaps_measure ["self"] (defScope s_Gaps_measure) := ⟨rfl, rfl, rfl, by decide +kernel, rfl, by decide +kernel, by decide +kernel⟩

def spMeasure (K : PySem.W.Frag) (CS CG : Addr) : Sp := fun vs H Q _ => ∃ (Hq : Hp) (g sq fd cd : Addr) (M : Mc) (l ft : Addr) (qs : List V) (rd : Addr) (W : List Sq) (ds : List (Option Sm)),
  vs = [.ref g] ∧ GAt K CS CG Hq H g sq fd cd .non M l ft qs rd W ds ∧ M.Ok ∧ (∀ m ∈ M.moves, PyData.strOk m.r = true ∧ PyData.strOk m.w = true) ∧ H fd = some (.dT []) ∧ H cd = some (.dT []) ∧ LvS M (fstOf M) ∧
  (∀ (H' : Hp) (F : List Sq) (G : List (Str × Str)) (Cs : List (Option En)), (∀ b o, b ≠ g → b ≠ fd → b ≠ cd → H b = some o → H' b = some o) → GAt K CS CG Hq H' g sq fd cd .non M l ft qs rd W ds → Tabs K M fd cd F G Cs H' → GTab M F G → Q .non H') ∧
  ∀ (H' : Hp) (v' : V), (∀ b o, b ≠ g → b ≠ fd → b ≠ cd → H b = some o → H' b = some o) → GAt K CS CG Hq H' g sq fd cd v' M l ft qs rd W ds → PfAt M H' v' → Q .non H'
theorem ok_Gaps_measure (F : MetAt K CG "measure" "Gaps.measure" s_Gaps_measure) (T : TxtS K mg CS CG aN) (c_Gaps_measure_from : CalM P w K mg base CX0 4 CG "measure_from" ["self", "spot"] (spMeasureFrom K CS CG)) : CalM P w K mg base CX0 5 CG "measure" ["self"] (spMeasure K CS CG) := by
  refine F.cal sc_Gaps_measure (fun _ _ _ _ _ _ us hl => match us, hl with | [_], _ => rfl) (fun vs H Q E h => by obtain ⟨_, _, _, _, _, _, _, _, _, _, _, _, rfl, _⟩ := h; rfl) (fun f cdv A outer s0 H vs Q E hr h => ?_)
  obtain ⟨Hq, g, sq, fd, cd, M, l, ft, qs, rd, W, ds, rfl, GA, ok, hstr, hfd, hcd, lv1, qA, qB⟩ := h
  have fs := GA.f_square T
  have ff := GA.f_found T
  have fc := GA.f_came T
  have f1 := GA.f_first
  have nfc := GA.nfc
  obtain ⟨dx, hg⟩ := GA.gi
  have ngf : g ≠ fd := fun z => by rw [z, hfd] at hg; cases hg
  have ngc : g ≠ cd := fun z => by rw [z, hcd] at hg; cases hg
  have hft : RSpot H (.ref ft) (fstOf M) := by
    obtain ⟨⟨lv, ed, as, eks, B⟩, _, _⟩ := GA.sq.same GA.s
    exact B.hft
  refine ⟨_, (pss_cons (ps_dput (lt64 hr.units) (pe_fld (pv 0) rfl) (pe_fld (pe_fld (pv 0) rfl) rfl) (pe_glob (v := .ref aN) (by rfl) T.g_NO_GAP rfl) rfl)
  (pss_cons (ps_dput (lt64 hr.units) (pe_fld (pv 0) rfl) (pe_fld (pe_fld (pv 0) rfl) rfl) pe_non rfl)
  (pss_cons (ps_set (i := 1) sc_Gaps_measure.nd rfl (Or.inl rfl) (pe_lst (pa_cons (pe_fld (pe_fld (pv 0) rfl) rfl) pa_nil)))
  (pss_cons (ps_set (i := 2) sc_Gaps_measure.nd rfl (Or.inl rfl) pe_int)
  (pss_one (ps_while PassesOwn.never (PW.pt (pw_and (pt_cmpR op_lt (pv 2) (pe_callB call_lenQ (by rfl) T.n_len PySem.boot_len (pa_cons (pv 1) pa_nil)) (nomark _)) (pw_and1 (pt_cmpR op_isN (pe_fld (pv 0) rfl) pe_non (nomark _)))))
    (pss_cons (ps_expr (pe_bm PySem.F.plainAttrs_list PySem.F.slot_list_extend PySem.F.type_list_extend mt_extend (pv 1) (pa_cons (pe_methC T.cl_Gaps c_Gaps_measure_from hr (by decide) (pv 0) (pa_cons (pe_ix ix_list (pv 1) (pv 2) (fun _ _ => rfl)) pa_nil)) pa_nil)))
  (pss_one (ps_aug (i := 2) sc_Gaps_measure.nd rfl (Or.inl rfl) pe_int ip_add))))))))), ?_⟩
  refine r_start (σ' := [some (.ref g), none, none]) rfl ?_
  walk_at "rd"
  have t0 : Td (RGap K) fd ([] : List Sq) [] H := ⟨⟨[], hfd, .nil⟩, rfl, List.nodup_nil⟩
  have c0 : Td (ROpt REn) cd ([] : List Sq) [] H := ⟨⟨[], hcd, .nil⟩, rfl, List.nodup_nil⟩
  obtain ⟨H1, p1, t1, k1, n1⟩ := t0.put (x := (emS, emS)) (u := .ref aN) hft (fun z => nomatch z) ⟨aN, rfl, T.k_NO_GAP H⟩ (by decide)
  refine ⟨fd, H1, rfl, p1, ?_⟩
  have GA1 : GAt K CS CG Hq H1 g sq fd cd .non M l ft qs rd W ds := GA.fr (n1 g ngf) (fun b o hb => by rw [n1 b (ne_of_none hb GA.nf)]; exact GA.s _ _ hb)
  have hft1 : RSpot H1 (.ref ft) (fstOf M) := Stay.st k1 hft
  have fs1 := GA1.f_square T
  have fc1 := GA1.f_came T
  have f11 := GA1.f_first
  walk_at "rd"
  obtain ⟨H2, p2, t2, k2, n2⟩ := (c0.fr k1 (n1 cd nfc.symm)).put (x := none) (u := .non) hft1 (fun z => nomatch z) (.inl ⟨rfl, rfl⟩) (by decide)
  refine ⟨cd, H2, rfl, p2, ?_⟩
  have GA2 : GAt K CS CG Hq H2 g sq fd cd .non M l ft qs rd W ds := GA1.fr (n2 g ngc) (fun b o hb => by rw [n2 b (ne_of_none hb GA.nc)]; exact GA1.s _ _ hb)
  have hft2 : RSpot H2 (.ref ft) (fstOf M) := Stay.st k2 hft1
  have fs2 := GA2.f_square T
  have f12 := GA2.f_first
  have TB2 : Tabs K M fd cd [fstOf M] [(emS, emS)] [none] H2 := ⟨t1.fr k2 (n2 fd nfc), t2, GInv.one lv1⟩
  walk_at "rd"
  refine r_new (Nat.le_of_ble_eq_true rfl) fun L hL => ?_
  walk_at "rd"
  have s3 : Same H2 (upd H2 L (.lst [.ref ft])) := same_up hL
  have l3 : LsAt RSpot L [fstOf M] (upd H2 L (.lst [.ref ft])) := ⟨_, upd_same, Al.one (Stay.st (keep_of s3) hft2)⟩
  generalize upd H2 L (.lst [.ref ft]) = H3 at s3 l3 ⊢
  have fr2 : ∀ b o, b ≠ g → b ≠ fd → b ≠ cd → H b = some o → H2 b = some o := fun b o _ h1 h2 h => by rw [n2 b h2, n1 b h1]; exact h
  have hLq : Hq L = none := GA2.s.free hL
  have hLH : H L = none := by
    cases e : H L with
    | none => rfl
    | some o =>
      by_cases z1 : L = g
      · obtain ⟨dx, h⟩ := GA2.gi
        rw [z1, h] at hL
        cases hL
      · by_cases z2 : L = fd
        · obtain ⟨_, h, _⟩ := TB2.tf.h
          rw [z2, h] at hL
          cases hL
        · by_cases z3 : L = cd
          · obtain ⟨_, h, _⟩ := TB2.tc.h
            rw [z3, h] at hL
            cases hL
          · have := fr2 L o z1 z2 z3 e
            rw [hL] at this
            cases this
  refine r_while (fun m σ H' => ∃ (F : List Sq) (n : Nat) (v : V), σ = [some (.ref g), some (.ref L), some (.int (n : Int))] ∧ LsAt RSpot L F H' ∧ GAt K CS CG Hq H' g sq fd cd v M l ft qs rd W ds ∧ (∀ b o, b ≠ g → b ≠ fd → b ≠ cd → H b = some o → H' b = some o) ∧
    ((v ≠ .non ∧ PfAt M H' v) ∨ (v = .non ∧ m = 110001 - n ∧ n ≤ F.length ∧ ∃ (G : List (Str × Str)) (Cs : List (Option En)), Tabs K M fd cd F G Cs H' ∧
      ∀ (i : Nat) s gs, i < n → F[i]? = some s → G[i]? = some gs → ∀ e m, SStep M s e → M.moves[e.k]? = some m → LvS M e.t → ∃ (j : Nat) (g' : Str × Str), F[j]? = some e.t ∧ G[j]? = some g' ∧ gapF gs e.b m.w = some g' ∧ (LastS M e.t → g' = (emS, emS)))))
    110001 ⟨_, 0, .non, rfl, l3, GA2.up s3, fun b o h1 h2 h3 h => s3 _ _ (fr2 b o h1 h2 h3 h), .inr ⟨rfl, rfl, Nat.zero_le _, _, _, TB2.up s3, fun i s gs h => absurd h (Nat.not_lt_zero _)⟩⟩ (fun m σ H4 hw QT hT hF => ?_)
  obtain ⟨F, n, v, rfl, l4, GA4, fr4, alt⟩ := hw
  obtain ⟨vsL, lL1, lL2⟩ := id l4
  have sqL := SqL.of (K := K) lL1
  have fp4 := GA4.f_proof T
  walk_at "rd"
  rw [lL2.len]
  by_cases lt : n < F.length
  · refine r_is (decide_eq_true (by omega)) ?_
    walk_at "rd"
    rcases alt with ⟨v1, pf⟩ | ⟨rfl, rfl, hn, G, Cs, TB4, cl⟩
    · rw [decide_eq_false v1]
      refine hF _ ?_
      walk_at "rd"
      exact qB H4 v fr4 GA4 pf
    · rw [decide_eq_true rfl]
      refine hT _ ?_
      obtain ⟨s, hs⟩ : ∃ s, F[n]? = some s := ⟨F[n], List.getElem?_eq_getElem lt⟩
      obtain ⟨gs, hgs⟩ : ∃ g, G[n]? = some g := ⟨G[n]'(by rw [← TB4.gi.lg]; exact lt), List.getElem?_eq_getElem _⟩
      obtain ⟨u, hu, ru⟩ := lL2.ix hs
      have mf := GA4.m (m := "measure_from") rfl
      have few4 := TB4.gi.few ok
      walk_at "rd"
      refine ⟨Hq, g, sq, fd, cd, M, l, ft, qs, rd, W, ds, F, G, Cs, u, s, gs, n, rfl, GA4, ok, hstr, TB4, ru, hs, hgs, fun H5 p new G' Cs' fr5 hp GA5 TB5 l5 pre don => ?_, fun H5 p v' fr5 hp GA5 pf l5 => ?_⟩
      · obtain ⟨dx4, hg4⟩ := GA4.gi
        have kp5 := TB4.keep hg4 fr5
        have nLg : L ≠ g := fun z => by rw [z, hg4] at lL1; cases lL1
        have nLf : L ≠ fd := TB4.tf.ne_lst lL1
        have nLc : L ≠ cd := TB4.tc.ne_lst lL1
        have lL5 : LsAt RSpot L F H5 := l4.fr kp5 (by rw [fr5 L _ nLg nLf nLc lL1, lL1])
        have few5 := TB5.gi.few ok
        rw [List.length_append] at few5
        walk_at "rd"
        refine lL5.ext l5 (by omega) (fun H6 lL6 kp6 ne6 => ?_)
        have GA6 : GAt K CS CG Hq H6 g sq fd cd .non M l ft qs rd W ds := GA5.fr (ne6 g nLg.symm) (fun b o hb => by rw [ne6 b (ne_of_none hb hLq)]; exact GA5.s _ _ hb)
        walk_at "rd"
        refine ⟨110001 - (n + 1), by omega, F ++ new, n + 1, .non, rfl, lL6, GA6, fun b o h1 h2 h3 h => ?_, .inr ⟨rfl, rfl, by rw [List.length_append]; omega, G', Cs', ⟨TB5.tf.fr kp6 (ne6 fd nLf.symm), TB5.tc.fr kp6 (ne6 cd nLc.symm), TB5.gi⟩, fun i t gt hi ht hgt e m st hm lve => ?_⟩⟩
        · rw [ne6 b (ne_of_none h hLH)]
          exact fr5 _ _ h1 h2 h3 (fr4 _ _ h1 h2 h3 h)
        · have hiF : i < F.length := by omega
          rw [List.getElem?_append_left hiF] at ht
          have hiG : i < G.length := by rw [← TB4.gi.lg]; exact hiF
          obtain ⟨r, rfl⟩ := pre
          rw [List.getElem?_append_left hiG] at hgt
          rcases Nat.lt_or_ge i n with hin | hin
          · obtain ⟨j, g', k1, k2, k3, k4⟩ := cl i t gt hin ht hgt e m st hm lve
            exact ⟨j, g', by rw [List.getElem?_append_left (List.getElem?_eq_some_iff.mp k1).1]; exact k1, by rw [List.getElem?_append_left (List.getElem?_eq_some_iff.mp k2).1]; exact k2, k3, k4⟩
          · obtain rfl : i = n := by omega
            rw [hs] at ht
            rw [hgs] at hgt
            cases ht
            cases hgt
            exact don e m st hm lve
      · obtain ⟨dx4, hg4⟩ := GA4.gi
        have kp5 := TB4.keep hg4 fr5
        have nLg : L ≠ g := fun z => by rw [z, hg4] at lL1; cases lL1
        have nLf : L ≠ fd := TB4.tf.ne_lst lL1
        have nLc : L ≠ cd := TB4.tc.ne_lst lL1
        have lL5 : LsAt RSpot L F H5 := l4.fr kp5 (by rw [fr5 L _ nLg nLf nLc lL1, lL1])
        walk_at "rd"
        refine lL5.ext l5 (by rw [List.length_nil]; omega) (fun H6 lL6 kp6 ne6 => ?_)
        have GA6 : GAt K CS CG Hq H6 g sq fd cd v' M l ft qs rd W ds := GA5.fr (ne6 g nLg.symm) (fun b o hb => by rw [ne6 b (ne_of_none hb hLq)]; exact GA5.s _ _ hb)
        walk_at "rd"
        have pf6 : PfAt M H6 v' := by
          obtain ⟨p', p1', p2', z, ks, js, w, w', h1, h2, h3, h4, h5⟩ := pf
          obtain ⟨us5, u5, u6⟩ := id lL5
          obtain ⟨x0, hx0, r0⟩ := u6.get TB4.gi.z.1
          obtain ⟨b0, rfl, _⟩ := r0
          have nk : ∀ (q : Addr) (zs : List Nat), H5 q = some (.lst (ksV zs)) → q ≠ L := fun q zs hq z => by
            rw [z, u5] at hq
            injection hq with hq
            injection hq with hq
            rw [hq] at hx0
            unfold ksV at hx0
            rw [List.getElem?_map] at hx0
            cases e : zs[0]? with
            | none => rw [e] at hx0; cases hx0
            | some y => rw [e] at hx0; cases hx0
          refine ⟨p', p1', p2', z, ks, js, w, w', h1, ?_, ?_, ?_, h5⟩
          · rw [ne6 p' (fun z => by rw [z, u5] at h2; cases h2)]
            exact h2
          · rw [ne6 p1' (nk _ _ h3)]
            exact h3
          · rw [ne6 p2' (nk _ _ h4)]
            exact h4
        refine ⟨0, by omega, F ++ [], n + 1, v', rfl, lL6, GA6, fun b o h1 h2 h3 h => ?_, .inl ⟨fun z => ?_, pf6⟩⟩
        · rw [ne6 b (ne_of_none h hLH)]
          exact fr5 _ _ h1 h2 h3 (fr4 _ _ h1 h2 h3 h)
        · obtain ⟨_, _, _, _, _, _, _, _, h, _⟩ := pf
          rw [z] at h
          cases h
  · refine r_isnt (decide_eq_false (by omega)) ?_
    refine hF _ ?_
    walk_at "rd"
    rcases alt with ⟨v1, pf⟩ | ⟨rfl, rfl, hn, G, Cs, TB4, cl⟩
    · exact qB H4 v fr4 GA4 pf
    · refine qA H4 F G Cs fr4 GA4 TB4 ⟨⟨TB4.gi.z.1, TB4.gi.z.2.1⟩, fun i t gt ht hgt e m st hm lve => cl i t gt ?_ ht hgt e m st hm lve⟩
      have := (List.getElem?_eq_some_iff.mp ht).1
      omega

end
end Tw


namespace Tw
open PySem L2
section
variable {P : Program} {w : World} {K : PySem.W.Frag} {mg : Str → Option Value} {base : Heap} {CS CG aN : Addr}
theorem SqAt.tr {K : PySem.W.Frag} {C : Addr} {H H' : Hp} {x : Addr} {M : Mc} {l ft : Addr} {qs : List V} {rd : Addr} {W : List Sq} {ds : List (Option Sm)} (h : SqAt K C H x M l ft qs rd W ds) (e : Tr H H') (ex : H' x = H x) : SqAt K C H' x M l ft qs rd W ds := by
  obtain ⟨⟨lv, ed, as, eks, B⟩, f, r⟩ := h
  obtain ⟨us, hu⟩ := B.hed
  exact ⟨⟨lv, ed, as, eks, B.f_moves.at ex, B.f_leaving.at ex, B.f_first.at ex, B.f_ends.at ex, B.m_steps.at ex, B.m_is_last.at ex, B.m_found_before.at ex, B.m_found_rest.at ex, B.m_moved_from.at ex, sqL_tr e B.hl, dpAll_tr e B.hq, sqL_tr e B.hlv, B.hll.tr e, Stay.st e.keep B.hft, ⟨us, hu.tr e⟩, B.hek⟩, f.at ex, r.1.tr e, r.2⟩
-- Gaps___init__
abbrev s_Gaps___init__ : Stmt := inClass (top 18) 0
abbrev N_Gaps___init__ : List Str := ["self", "machine"]
theorem sc_Gaps___init__ : FnScope N_Gaps___init__ ["self", "machine"] (defScope s_Gaps___init__) := ⟨rfl, rfl, rfl, by decide +kernel, rfl, by decide +kernel, by decide +kernel⟩

def spGapsInit (K : PySem.W.Frag) (CS CG : Addr) : Sp := fun vs H Q _ => ∃ (Hb : Hp) (x dx : Addr) (v : V) (M : Mc), vs = [.ref x, v] ∧ Same Hb H ∧ Hb x = none ∧ H x = some (.ins CG dx []) ∧ Dp K Hb v (mcD M) ∧ M.Ok ∧ (∀ m ∈ M.moves, PyData.strOk m.r = true ∧ PyData.strOk m.w = true) ∧
  ∀ (H' Hq : Hp) (sq fd cd : Addr) (l ft : Addr) (qs : List V) (rd : Addr) (W : List Sq) (ds : List (Option Sm)) (pr : V), Same Hb H' → GAt K CS CG Hq H' x sq fd cd pr M l ft qs rd W ds →
    ((pr = .non ∧ ∃ F G Cs, Tabs K M fd cd F G Cs H' ∧ GTab M F G) ∨ (pr = .non ∧ H' fd = some (.dT []) ∧ ¬ LvS M (fstOf M)) ∨ PfAt M H' pr) → Q .non H'
theorem ok_Gaps_init (F : MakAt K mg CG "Gaps" "Gaps.__init__" s_Gaps___init__) (T : TxtS K mg CS CG aN) (i_Square : CalI P w K mg base CX0 4 CS "Square" ["self", "machine"] (spSqInit K CS)) (c_Gaps_measure : CalM P w K mg base CX0 5 CG "measure" ["self"] (spMeasure K CS CG)) :
    CalI P w K mg base CX0 6 CG "Gaps" ["self", "machine"] (spGapsInit K CS CG) := by
  refine F.cal sc_Gaps___init__ (fun _ _ _ _ _ _ us hl => match us, hl with | [_, _], _ => rfl) (fun vs H Q E h => by obtain ⟨_, _, _, _, _, rfl, _⟩ := h; rfl) (fun f cdv A outer s0 H vs Q E hr h => ?_)
  obtain ⟨Hb, x, dx, v, M, rfl, s0, nx, hx, hv, ok, hstr, q⟩ := h
  refine ⟨_, (pss_cons (ps_fld (pv 0) (pe_makeC i_Square hr (by decide) (by rfl) (pa_cons (pv 1) pa_nil)) rfl)
  (pss_cons (ps_fld (pv 0) pe_dnewT rfl)
  (pss_cons (ps_fld (pv 0) pe_dnewT rfl)
  (pss_cons (ps_fld (pv 0) pe_non rfl)
  (pss_one (ps_if (pt_cmp (pc_din (lt64 hr.units) (pe_fld (pe_fld (pv 0) rfl) rfl) (pe_fld (pe_fld (pv 0) rfl) rfl)))
    (pss_one (ps_expr (pe_meth0C T.cl_Gaps c_Gaps_measure hr (by decide) (pv 0))))
    pss_nil)))))), ?_⟩
  refine r_start (σ' := [some (.ref x), some v]) rfl ?_
  walk_at "rd"
  intro sq dq hsq hdq ndq
  have s1 : Same H (upd (upd H dq (.own sq)) sq (.ins CS dq [])) := same_mut (same_up hdq) hsq
  refine ⟨H, sq, dq, v, M, rfl, s1, hsq, upd_same, dp_same s0 hv, ok, fun H1 l ft qs rd W ds s1 S1 => ⟨rfl, ?_⟩⟩
  walk_at "rd"
  have hx1 := s1 _ _ hx
  have nsx : sq ≠ x := fun z => by rw [z, hx] at hsq; cases hsq
  refine r_sfv hx1 T.cl_Gaps T.na_square (Nat.zero_le _) ?_
  walk_at "rd"
  obtain ⟨H2, e2⟩ : ∃ H2, upd H1 x (.ins CG dx (putF "square" (.ref sq) [])) = H2 := ⟨_, rfl⟩
  rw [e2]
  have hx2 : H2 x = some (.ins CG dx [("square", .ref sq)]) := by rw [← e2]; exact upd_same
  have s2 : Same Hb H2 := by rw [← e2]; exact same_mut (s0.trans s1) nx
  have m2 : Same (minus H1 x) H2 := by rw [← e2]; exact same_mut minus_same minus_none
  clear e2
  have SQ : SqAt K CS (minus H1 x) sq M l ft qs rd W ds := S1.tr (minus_tr hx1) (minus_at nsx)
  intro fd hfd
  have nfx : fd ≠ x := fun z => by rw [z, hx2] at hfd; cases hfd
  have qfd : minus H1 x fd = none := m2.free hfd
  have s3 : Same H2 (upd H2 fd (.dT [])) := same_up hfd
  have d3 : (upd H2 fd (.dT [])) fd = some (.dT []) := upd_same
  have hx3 := s3 _ _ hx2
  generalize upd H2 fd (.dT []) = H3 at s3 d3 hx3 ⊢
  walk_at "rd"
  refine r_sfv hx3 T.cl_Gaps T.na_found (Nat.le_of_ble_eq_true rfl) ?_
  walk_at "rd"
  obtain ⟨H4, e4⟩ : ∃ H4, upd H3 x (.ins CG dx (putF "found" (.ref fd) [("square", .ref sq)])) = H4 := ⟨_, rfl⟩
  rw [e4]
  have hx4 : H4 x = some (.ins CG dx [("square", .ref sq), ("found", .ref fd)]) := by rw [← e4]; exact upd_same
  have s4 : Same Hb H4 := by rw [← e4]; exact same_mut (s2.trans s3) nx
  have m4 : Same (minus H1 x) H4 := by rw [← e4]; exact same_mut (m2.trans s3) minus_none
  have d4 : H4 fd = some (.dT []) := by rw [← e4, upd_ne nfx]; exact d3
  clear e4
  intro cd hcd
  have ncx : cd ≠ x := fun z => by rw [z, hx4] at hcd; cases hcd
  have nfc : fd ≠ cd := fun z => by rw [← z, d4] at hcd; cases hcd
  have qcd : minus H1 x cd = none := m4.free hcd
  have s5 : Same H4 (upd H4 cd (.dT [])) := same_up hcd
  have c5 : (upd H4 cd (.dT [])) cd = some (.dT []) := upd_same
  have hx5 := s5 _ _ hx4
  have d5 := s5 _ _ d4
  generalize upd H4 cd (.dT []) = H5 at s5 c5 hx5 d5 ⊢
  walk_at "rd"
  refine r_sfv hx5 T.cl_Gaps T.na_came (Nat.le_of_ble_eq_true rfl) ?_
  walk_at "rd"
  obtain ⟨H6, e6⟩ : ∃ H6, upd H5 x (.ins CG dx (putF "came" (.ref cd) [("square", .ref sq), ("found", .ref fd)])) = H6 := ⟨_, rfl⟩
  rw [e6]
  have hx6 : H6 x = some (.ins CG dx [("square", .ref sq), ("found", .ref fd), ("came", .ref cd)]) := by rw [← e6]; exact upd_same
  have s6 : Same Hb H6 := by rw [← e6]; exact same_mut (s4.trans s5) nx
  have m6 : Same (minus H1 x) H6 := by rw [← e6]; exact same_mut (m4.trans s5) minus_none
  have d6 : H6 fd = some (.dT []) := by rw [← e6, upd_ne nfx]; exact d5
  have c6 : H6 cd = some (.dT []) := by rw [← e6, upd_ne ncx]; exact c5
  clear e6
  refine r_sfv hx6 T.cl_Gaps T.na_proof (Nat.le_of_ble_eq_true rfl) ?_
  walk_at "rd"
  obtain ⟨H7, e7⟩ : ∃ H7, upd H6 x (.ins CG dx (putF "proof" .non [("square", .ref sq), ("found", .ref fd), ("came", .ref cd)])) = H7 := ⟨_, rfl⟩
  rw [e7]
  have hx7 : H7 x = some (.ins CG dx [("square", .ref sq), ("found", .ref fd), ("came", .ref cd), ("proof", .non)]) := by rw [← e7]; exact upd_same
  have s7 : Same Hb H7 := by rw [← e7]; exact same_mut s6 nx
  have m7 : Same (minus H1 x) H7 := by rw [← e7]; exact same_mut m6 minus_none
  have d7 : H7 fd = some (.dT []) := by rw [← e7, upd_ne nfx]; exact d6
  have c7 : H7 cd = some (.dT []) := by rw [← e7, upd_ne ncx]; exact c6
  clear e7
  have GA : GAt K CS CG (minus H1 x) H7 x sq fd cd .non M l ft qs rd W ds := ⟨⟨dx, hx7⟩, m7, minus_none, qfd, qcd, nfc, SQ⟩
  have S7 := SQ.same m7
  have fs := GA.f_square T
  have f1 := GA.f_first
  have f2 := S7.2.1
  have hft : RSpot H7 (.ref ft) (fstOf M) := by
    obtain ⟨⟨lv, ed, as, eks, B⟩, _, _⟩ := id S7
    exact B.hft
  obtain ⟨o, g1, g2⟩ := S7.2.2.1.in_ hft
  have mem : o.isSome = true ↔ LvS M (fstOf M) := g2.trans ((S7.2.2.2.1 _).trans ⟨fun h => h.2, fun h => ⟨RcS.first, h⟩⟩)
  have mm := GA.m (m := "measure") rfl
  walk_at "rd"
  refine ⟨rd, o, rfl, g1, ?_⟩
  have back : ∀ H', (∀ b o, b ≠ x → b ≠ fd → b ≠ cd → H7 b = some o → H' b = some o) → Same Hb H' := fun H' fr b o h => by
    refine fr b o (ne_of_none h nx) (ne_of_none h ?_) (ne_of_none h ?_) (s7 _ _ h)
    · exact s2.free hfd
    · exact s4.free hcd
  cases ho : o.isSome with
  | false =>
    walk_at "rd"
    refine q H7 _ sq fd cd l ft qs rd W ds .non s7 GA (.inr (.inl ⟨rfl, d7, fun z => ?_⟩))
    have := mem.mpr z
    rw [ho] at this
    cases this
  | true =>
    walk_at "rd"
    refine ⟨_, x, sq, fd, cd, M, l, ft, qs, rd, W, ds, rfl, GA, ok, hstr, d7, c7, mem.mp ho, fun H' F G Cs fr GA' TB' tab => ?_, fun H' v' fr GA' pf => ?_⟩
    · walk_at "rd"
      exact q H' _ sq fd cd l ft qs rd W ds .non (back H' fr) GA' (.inl ⟨rfl, F, G, Cs, TB', tab⟩)
    · walk_at "rd"
      exact q H' _ sq fd cd l ft qs rd W ds v' (back H' fr) GA' (.inr (.inr pf))

end
end Tw


namespace Tw
open PySem L2
section
variable {P : Program} {w : World} {K : PySem.W.Frag} {mg : Str → Option Value} {base : Heap}
-- check_state
abbrev s_check_state : Stmt := top 8
abbrev N_check_state : List Str := ["state", "states"]
theorem sc_check_state : FnScope N_check_state ["state", "states"] (defScope s_check_state) := ⟨rfl, rfl, rfl, by decide +kernel, rfl, by decide +kernel, by decide +kernel⟩

def spState : Sp := fun vs H Q _ => ∃ (a n : Int), vs = [.int a, .int n] ∧ 0 ≤ a ∧ a < n ∧ Q .non H
theorem ok_check_state (F : FunAt K mg "check_state" s_check_state) : Cal P w K mg base CX0 1 "check_state" ["state", "states"] spState := by
  refine F.cal sc_check_state (fun _ _ _ _ _ _ us hl => match us, hl with | [_, _], _ => rfl) (fun vs H Q E h => by obtain ⟨_, _, rfl, _⟩ := h; rfl) (fun f cdv A outer s H vs Q E hr h => ?_)
  obtain ⟨a, n, rfl, h0, h1, q⟩ := h
  refine ⟨_, (pss_one (ps_if (pt_not (pt_chain op_le op_lt pe_int (pv 0) (pv 1)))
    (pss_one ps_never)
    pss_nil)), ?_⟩
  refine r_start (σ' := [some (.int a), some (.int n)]) rfl ?_
  walk_at "rd"
  exact q
-- check_sign
abbrev s_check_sign : Stmt := top 9
abbrev N_check_sign : List Str := ["text"]
theorem sc_check_sign : FnScope N_check_sign ["text"] (defScope s_check_sign) := ⟨rfl, rfl, rfl, by decide +kernel, rfl, by decide +kernel, by decide +kernel⟩

def spSign : Sp := fun vs H Q _ => ∃ (x : Str), vs = [.str x] ∧ x.length ≤ 1 ∧ Q .non H
theorem ok_check_sign (F : FunAt K mg "check_sign" s_check_sign) (T : Txt K mg) : Cal P w K mg base CX0 1 "check_sign" ["text"] spSign := by
  refine F.cal sc_check_sign (fun _ _ _ _ _ _ us hl => match us, hl with | [_], _ => rfl) (fun vs H Q E h => by obtain ⟨_, rfl, _⟩ := h; rfl) (fun f cdv A outer s H vs Q E hr h => ?_)
  obtain ⟨x, rfl, h0, q⟩ := h
  refine ⟨_, (pss_one (ps_if (pt_cmpR op_gt (pe_callB call_len_str (by rfl) T.n_len PySem.boot_len (pa_cons (pv 0) pa_nil)) pe_int (nomark _))
    (pss_one ps_never)
    pss_nil)), ?_⟩
  refine r_start (σ' := [some (.str x)]) rfl ?_
  walk_at "rd"
  exact q

-- check_machine
abbrev s_check_machine : Stmt := top 7
abbrev N_check_machine : List Str := ["machine", "states", "begin", "ends", "moves", "end", "start", "read", "write", "goal"]
theorem sc_check_machine : FnScope N_check_machine ["machine"] (defScope s_check_machine) := ⟨rfl, rfl, rfl, by decide +kernel, rfl, by decide +kernel, by decide +kernel⟩

def spCheck (K : PySem.W.Frag) : Sp := fun vs H Q _ => ∃ (v : V) (M : Mc), vs = [v] ∧ Dp K H v (mcD M) ∧ M.Ok ∧ Q .non H
theorem ok_check_machine (F : FunAt K mg "check_machine" s_check_machine) (T : Txt K mg) (c_check_state : Cal P w K mg base CX0 1 "check_state" ["state", "states"] spState) (c_check_sign : Cal P w K mg base CX0 1 "check_sign" ["text"] spSign) :
    Cal P w K mg base CX0 2 "check_machine" ["machine"] (spCheck K) := by
  refine F.cal sc_check_machine (fun _ _ _ _ _ _ us hl => match us, hl with | [_], _ => rfl) (fun vs H Q E h => by obtain ⟨_, _, rfl, _⟩ := h; rfl) (fun f cdv A outer s H vs Q E hr h => ?_)
  obtain ⟨v, M, rfl, hd, ok, q⟩ := h
  obtain ⟨a, e, l, qs, A⟩ := dp_mc hd
  obtain ⟨rfl, ht, he, hl, hq⟩ := id A
  have n1 := ok.n1
  have n2 := ok.n2
  have ml := ok.ml
  have b := ok.b
  have ln := A.len
  refine ⟨_, (pss_cons (ps_asg (pv 0) (pg_tup (by rfl) (pgs_cons (pg_name (i := 1) sc_check_machine.nd rfl (Or.inl rfl)) (pgs_cons (pg_name (i := 2) sc_check_machine.nd rfl (Or.inl rfl)) (pgs_cons (pg_name (i := 3) sc_check_machine.nd rfl (Or.inl rfl)) (pgs_cons (pg_name (i := 4) sc_check_machine.nd rfl (Or.inl rfl)) pgs_nil))))))
  (pss_cons (ps_if (pt_not (pt_chain op_le op_le pe_int (pv 1) (pe_globI (by rfl) T.c_MOST_STATES)))
    (pss_one ps_never)
    pss_nil)
  (pss_cons (ps_if (pt_cmpR op_gt (pe_callB call_lenQ (by rfl) T.n_len PySem.boot_len (pa_cons (pv 4) pa_nil)) (pe_globI (by rfl) T.c_MOST_MOVES) (nomark _))
    (pss_one ps_never)
    pss_nil)
  (pss_cons (ps_expr (pe_callC c_check_state hr (by decide) (by rfl) (pa_cons (pv 2) (pa_cons (pv 1) pa_nil))))
  (pss_cons (ps_for PassesOwn.never rfl (pi_list (pv 3)) (pg_name (i := 5) sc_check_machine.nd rfl (Or.inl rfl))
    (pss_one (ps_expr (pe_callC c_check_state hr (by decide) (by rfl) (pa_cons (pv 5) (pa_cons (pv 1) pa_nil))))))
  (pss_one (ps_for PassesOwn.never rfl (pi_list (pv 4)) (pg_tup (by rfl) (pgs_cons (pg_name (i := 6) sc_check_machine.nd rfl (Or.inl rfl)) (pgs_cons (pg_name (i := 7) sc_check_machine.nd rfl (Or.inl rfl)) (pgs_cons (pg_name (i := 8) sc_check_machine.nd rfl (Or.inl rfl)) (pgs_cons (pg_name (i := 9) sc_check_machine.nd rfl (Or.inl rfl)) pgs_nil)))))
    (pss_cons (ps_expr (pe_callC c_check_state hr (by decide) (by rfl) (pa_cons (pv 6) (pa_cons (pv 1) pa_nil))))
  (pss_cons (ps_expr (pe_callC c_check_sign hr (by decide) (by rfl) (pa_cons (pv 7) pa_nil)))
  (pss_cons (ps_expr (pe_callC c_check_sign hr (by decide) (by rfl) (pa_cons (pv 8) pa_nil)))
  (pss_one (ps_expr (pe_callC c_check_state hr (by decide) (by rfl) (pa_cons (pv 9) (pa_cons (pv 1) pa_nil))))))))))))))), ?_⟩
  refine r_start (σ' := [some (.ref a), none, none, none, none, none, none, none, none, none]) rfl ?_
  walk_at "rd"
  refine ⟨_, _, rfl, b.1, b.2, ?_⟩
  walk_at "rd"
  refine r_forLv (a := e) (xs := M.ends.map V.int) (fun i σ H' => H' = H ∧ ∃ x, σ = [some (.ref a), some (.int M.n), some (.int M.b), some (.ref e), some (.ref l), x, none, none, none, none]) rfl he ⟨rfl, none, rfl⟩ (fun _ _ _ _ p => by rw [p.1]; exact he) (fun i x σ H' hx p => ?_) (fun σ H' p => ?_)
  · obtain ⟨rfl, x0, rfl⟩ := p
    rw [List.getElem?_map] at hx
    obtain ⟨z, hz, rfl⟩ := Option.map_eq_some_iff.mp hx
    have sz := ok.e z (List.mem_of_getElem? hz)
    walk_at "rd"
    refine ⟨_, _, rfl, sz.1, sz.2, ?_⟩
    exact ⟨rfl, _, rfl⟩
  · obtain ⟨rfl, x0, rfl⟩ := p
    refine r_forLv (a := l) (xs := qs) (fun i σ H'' => H'' = H' ∧ ∃ x1 x2 x3 x4, σ = [some (.ref a), some (.int M.n), some (.int M.b), some (.ref e), some (.ref l), x0, x1, x2, x3, x4]) rfl hl ⟨rfl, none, none, none, none, rfl⟩ (fun _ _ _ _ p => by rw [p.1]; exact hl) (fun i x σ H'' hx p => ?_) (fun σ H'' p => ?_)
    · obtain ⟨rfl, x1, x2, x3, x4, rfl⟩ := p
      obtain ⟨m, qa, hm, rfl, hs⟩ := A.mv hx
      have mm := List.mem_of_getElem? hm
      have ms := ok.s m mm
      have mg' := ok.g m mm
      walk_at "rd"
      refine ⟨_, _, rfl, ms.1, ms.2, ?_⟩
      walk_at "rd"
      refine ⟨_, rfl, ok.r m mm, ?_⟩
      walk_at "rd"
      refine ⟨_, rfl, ok.w m mm, ?_⟩
      walk_at "rd"
      refine ⟨_, _, rfl, mg'.1, mg'.2, ?_⟩
      exact ⟨rfl, _, _, _, _, rfl⟩
    · obtain ⟨rfl, x1, x2, x3, x4, rfl⟩ := p
      exact q

end
section
variable {P : Program} {w : World} {K : PySem.W.Frag} {mg : Str → Option Value} {base : Heap} {CS CG aN : Addr}
-- twofold
abbrev s_twofold : Stmt := top 16
abbrev N_twofold : List Str := ["machine"]
theorem sc_twofold : FnScope N_twofold ["machine"] (defScope s_twofold) := ⟨rfl, rfl, rfl, by decide +kernel, rfl, by decide +kernel, by decide +kernel⟩

theorem ok_twofold (F : FunAt K mg "twofold" s_twofold) (T : TxtS K mg CS CG aN) (c_check_machine : Cal P w K mg base CX0 2 "check_machine" ["machine"] (spCheck K)) (i_Gaps : CalI P w K mg base CX0 6 CG "Gaps" ["self", "machine"] (spGapsInit K CS CG)) : Cal P w K mg base CX0 10 "twofold" ["machine"] (spTwofold K) := by
  refine F.cal sc_twofold (fun _ _ _ _ _ _ us hl => match us, hl with | [_], _ => rfl) (fun vs H Q E h => by obtain ⟨_, _, rfl, _⟩ := h; rfl) (fun f cdv A outer s H vs Q E hr h => ?_)
  obtain ⟨v, M, rfl, hd, ok, hstr, qA, qB⟩ := h
  refine ⟨_, (pss_cons (ps_expr (pe_callC c_check_machine hr (by decide) (by rfl) (pa_cons (pv 0) pa_nil)))
  (pss_one (ps_ret (pe_fld (pe_makeC i_Gaps hr (by decide) (by rfl) (pa_cons (pv 0) pa_nil)) rfl)))), ?_⟩
  refine r_start (σ' := [some v]) rfl ?_
  walk_at "rd"
  refine ⟨v, M, rfl, hd, ok, ?_⟩
  walk_at "rd"
  intro g dg hg hdg ndg
  refine ⟨H, g, dg, v, M, rfl, same_mut (same_up hdg) hg, hg, upd_same, hd, ok, hstr, fun H1 Hq sq fd cd l ft qs rd W ds pr s1 GA alt => ⟨rfl, ?_⟩⟩
  have fp := GA.f_proof T
  walk_at "rd"
  rcases alt with ⟨rfl, F, G, Cs, TB, tab⟩ | ⟨rfl, hfd, nl⟩ | pf
  · exact qA H1 s1 (tab.not_two ok.r)
  · exact qA H1 s1 (dead_not_two ok.r nl)
  · obtain ⟨p, p1, p2, z, ks, js, w1, w2, rfl, h1, h2, h3, h4, h5, h6, h7, h8⟩ := pf
    exact qB H1 p p1 p2 z ks js w1 w2 s1 h1 h2 h3 h4 h5 h6 h7 h8
/-- a row of ahead -/
def rowF (e : Sq × (Str × Str)) : Option JS := if e.1.o = emS then some ⟨e.1.p, e.1.q, e.2.1, e.2.2⟩ else none
def RJs (K : PySem.W.Frag) (H : Hp) (v : V) (s : JS) : Prop := ∃ a, v = .ref a ∧ SqT K H a [.int s.p, .int s.q, .str s.r, .str s.w]
instance {K : PySem.W.Frag} : Stay (RJs K) := ⟨fun k ⟨a, e, h⟩ => ⟨a, e, keep_sqT k h⟩⟩
theorem row_mem {F : List Sq} {G : List (Str × Str)} {j : JS} : j ∈ (F.zip G).filterMap rowF ↔ ∃ (i : Nat), F[i]? = some ⟨j.p, j.q, emS⟩ ∧ G[i]? = some (j.r, j.w) := by
  constructor
  · intro h
    obtain ⟨⟨s, g⟩, he, hf⟩ := List.mem_filterMap.mp h
    obtain ⟨i, hi⟩ := List.getElem?_of_mem he
    rw [List.getElem?_zip_eq_some] at hi
    unfold rowF at hf
    split at hf
    · rename_i ho
      cases hf
      obtain ⟨p, q, o⟩ := s
      dsimp only at ho
      subst ho
      exact ⟨i, hi.1, hi.2⟩
    · cases hf
  · rintro ⟨i, h1, h2⟩
    refine List.mem_filterMap.mpr ⟨(⟨j.p, j.q, emS⟩, (j.r, j.w)), List.mem_of_getElem? (i := i) ?_, ?_⟩
    · rw [List.getElem?_zip_eq_some]
      exact ⟨h1, h2⟩
    · unfold rowF
      rw [if_pos rfl]
/-- the rows are what stands together -/
theorem rows_ok {M : Mc} {F : List Sq} {G : List (Str × Str)} {Cs : List (Option En)} (ok : M.Ok) (hs : ∀ m ∈ M.moves, PyData.strOk m.r = true ∧ PyData.strOk m.w = true) (I : GInv M F G Cs) (T : GTab M F G) : ((F.zip G).filterMap rowF).Pairwise (fun a b => ¬ (a.p = b.p ∧ a.q = b.q)) ∧ AheadOk M (((F.zip G).filterMap rowF).mergeSort (PySem.W.dataLe false jsD)) := by
  have mm : ∀ e, e ∈ ((F.zip G).filterMap rowF).mergeSort (PySem.W.dataLe false jsD) ↔ e ∈ (F.zip G).filterMap rowF := fun e => (List.mergeSort_perm _ _).mem_iff
  have fz : (F.zip G).map Prod.fst = F := List.map_fst_zip (by rw [I.lg]; exact Nat.le_refl _)
  have pw : ((F.zip G).filterMap rowF).Pairwise (fun a b => ¬ (a.p = b.p ∧ a.q = b.q)) := by
    rw [List.pairwise_filterMap]
    have nd := I.nd
    rw [← fz] at nd
    have nd2 : (F.zip G).Pairwise fun a b => a.1 ≠ b.1 := List.pairwise_map.mp nd
    refine nd2.imp (fun {a b} h x hx y hy z => h ?_)
    obtain ⟨⟨a1, a2, a3⟩, ag⟩ := a
    obtain ⟨⟨b1, b2, b3⟩, bg⟩ := b
    unfold rowF at hx hy
    split at hx
    · split at hy
      · rename_i e1 e2
        cases hx
        cases hy
        obtain ⟨z1, z2⟩ := z
        dsimp only at z1 z2 e1 e2 ⊢
        rw [z1, z2, e1, e2]
      · cases hy
    · cases hx
  have at_ : ∀ e ∈ ((F.zip G).filterMap rowF).mergeSort (PySem.W.dataLe false jsD), ∃ (i : Nat), F[i]? = some ⟨e.p, e.q, emS⟩ ∧ G[i]? = some (e.r, e.w) := fun e he => row_mem.mp ((mm e).mp he)
  have inj : ∀ {i j : Nat} {s : Sq}, F[i]? = some s → F[j]? = some s → i = j := fun {i j s} hi hj => by
    obtain ⟨l1, g1⟩ := List.getElem?_eq_some_iff.mp hi
    obtain ⟨l2, g2⟩ := List.getElem?_eq_some_iff.mp hj
    exact (List.getElem_inj I.nd).mp (g1.trans g2.symm)
  refine ⟨pw, js_sorted pw, fun p q => ?_, fun e he => ?_, fun e he x y hj => ?_, ?_, fun e he => ?_⟩
  · rw [tog_iff ok.r]
    constructor
    · rintro ⟨e, he, rfl, rfl⟩
      obtain ⟨i, h1, _⟩ := at_ e he
      exact I.lv _ (List.mem_of_getElem? h1)
    · rintro ⟨⟨mv, x, y, pth⟩, lv⟩
      obtain ⟨j, g, h1, h2, _, _⟩ := T.path _ rfl pth lv
      exact ⟨⟨p, q, g.1, g.2⟩, (mm _).mpr (row_mem.mpr ⟨j, h1, h2⟩), rfl, rfl⟩
  · obtain ⟨i, h1, h2⟩ := at_ e he
    obtain ⟨mv, x, y, _, gp⟩ := I.way i h1 h2
    exact gp.2
  · obtain ⟨i, h1, h2⟩ := at_ e he
    obtain ⟨mv, pth⟩ := j_spath ok.r hj
    obtain ⟨j, g, k1, k2, gp, _⟩ := T.path _ rfl pth (I.lv _ (List.mem_of_getElem? h1)).2
    obtain rfl := inj h1 k1
    rw [h2] at k2
    cases k2
    refine tl_inj ?_
    rw [tl_cat, tl_cat]
    exact gp.1
  · have n1 := ok.n1
    have n2 := ok.n2
    have bnd : ∀ e ∈ ((F.zip G).filterMap rowF).mergeSort (PySem.W.dataLe false jsD), St? M.n e.p ∧ St? M.n e.q := fun e he => by
      obtain ⟨i, h1, _⟩ := at_ e he
      have := RcS.ok ok (I.lv _ (List.mem_of_getElem? h1)).1
      exact ⟨this.1, this.2.1⟩
    have h2 := nodup_lt 10000 ((((F.zip G).filterMap rowF).mergeSort (PySem.W.dataLe false jsD)).map fun e => e.p.toNat * 100 + e.q.toNat) ?_ (fun c hc => ?_)
    · rw [List.length_map] at h2
      exact h2
    · refine List.pairwise_map.mpr ?_
      have pw2 : (((F.zip G).filterMap rowF).mergeSort (PySem.W.dataLe false jsD)).Pairwise fun a b => ¬ (a.p = b.p ∧ a.q = b.q) := ((List.mergeSort_perm _ _).symm.pairwise_iff (fun {a b} h z => h ⟨z.1.symm, z.2.symm⟩)).mp pw
      refine List.Pairwise.imp_of_mem (fun {a b} ha hb hne e => hne ?_) pw2
      have z1 := bnd _ ha
      have z2 := bnd _ hb
      obtain ⟨⟨a1, a2⟩, a3, a4⟩ := z1
      obtain ⟨⟨b1, b2⟩, b3, b4⟩ := z2
      constructor <;> omega
    · obtain ⟨e, he, rfl⟩ := List.mem_map.mp hc
      obtain ⟨⟨a1, a2⟩, a3, a4⟩ := bnd e he
      omega
  · obtain ⟨i, h1, h2⟩ := at_ e he
    exact I.strs hs _ (List.mem_of_getElem? h2)
-- ahead
abbrev s_ahead : Stmt := top 17
abbrev N_ahead : List Str := ["machine", "gaps", "spot", "gap"]
theorem sc_ahead : FnScope N_ahead ["machine"] (defScope s_ahead) := ⟨rfl, rfl, rfl, by decide +kernel, rfl, by decide +kernel, by decide +kernel⟩

theorem ok_ahead {eT : Addr} (F : FunAt K mg "ahead" s_ahead) (T : TxtS K mg CS CG aN) (R : RaiseOk K mg "Twofold" eT) (n_sorted : mg "sorted" = none) (c_check_machine : Cal P w K mg base CX0 2 "check_machine" ["machine"] (spCheck K)) (i_Gaps : CalI P w K mg base CX0 6 CG "Gaps" ["self", "machine"] (spGapsInit K CS CG)) : Cal P w K mg base (L2.CX P w) 10 "ahead" ["machine"] (spAhead K eT) := by
  refine F.calX sc_ahead (fun _ _ _ _ _ _ us hl => match us, hl with | [_], _ => rfl) (fun vs H Q E h => by obtain ⟨_, _, rfl, _⟩ := h; rfl) (fun f cdv A outer s H vs Q E hr h => ?_)
  obtain ⟨v, M, rfl, hd, ok, hstr, qA, qB⟩ := h
  refine ⟨_, (pss_cons (ps_expr (pe_callC c_check_machine hr (by decide) (by rfl) (pa_cons (pv 0) pa_nil)))
  (pss_cons (ps_set (i := 1) sc_ahead.nd rfl (Or.inl rfl) (pe_makeC i_Gaps hr (by decide) (by rfl) (pa_cons (pv 0) pa_nil)))
  (pss_cons (ps_if (pt_cmpR op_notN (pe_fld (pv 1) rfl) pe_non (nomark _))
    (pss_one (ps_raise1 rfl (takes_of rfl rfl rfl rfl) R rfl))
    pss_nil)
  (pss_one (ps_ret (pe_callB (cr_sortedD jsD hr.units) (by rfl) n_sorted (by decide +kernel) (pa_cons (pe_lock (pe_lc (own := [("spot", 2), ("gap", 3)]) (g := (gTup K 2 (gCons (gName 2) (gCons (gName 3) gNil)))) (tt := (tTest (tOp _ (tOp (rIxT K) (tVar 2) (tC _)) (tC _)))) (te := (tTup (tCons (tOp (rIxT K) (tVar 2) (tC _)) (tCons (tOp (rIxT K) (tVar 2) (tC _)) (tCons (tOp (rIxT K) (tVar 3) (tC _)) (tCons (tOp (rIxT K) (tVar 3) (tC _)) tNil)))))) rfl sc_ahead.nd (pi_itemsT (pe_fld (pv 1) rfl)) (blkOk_by (N := N_ahead) (sc := defScope s_ahead) (by decide +kernel)) (fun _ _ _ _ _ => (pg_tup (by rfl) (pgs_cons (pg_name (i := 2) sc_ahead.nd rfl (Or.inl rfl)) (pgs_cons (pg_name (i := 3) sc_ahead.nd rfl (Or.inl rfl)) pgs_nil)))) (fun _ _ _ _ _ => pts_one (pt_cmpR op_eq (pe_ix ix_tup (pv 2) pe_int (fun _ _ => rfl)) pe_str (nomark _))) (fun _ _ _ _ _ => (pe_tup (pa_cons (pe_ix ix_tup (pv 2) pe_int (fun _ _ => rfl)) (pa_cons (pe_ix ix_tup (pv 2) pe_int (fun _ _ => rfl)) (pa_cons (pe_ix ix_tup (pv 3) pe_int (fun _ _ => rfl)) (pa_cons (pe_ix ix_tup (pv 3) pe_int (fun _ _ => rfl)) pa_nil)))))))) pa_nil))))))), ?_⟩
  refine r_start (σ' := [some v, none, none, none]) rfl ?_
  walk_at "rd"
  refine ⟨v, M, rfl, hd, ok, ?_⟩
  walk_at "rd"
  intro g dg hg hdg ndg
  refine ⟨H, g, dg, v, M, rfl, same_mut (same_up hdg) hg, hg, upd_same, hd, ok, hstr, fun H1 Hq sq fd cd l ft qs rd W ds pr s1 GA alt => ⟨rfl, ?_⟩⟩
  have fp := GA.f_proof T
  have ff := GA.f_found T
  walk_at "rd"
  have main : ∀ (F : List Sq) (G : List (Str × Str)), Td (RGap K) fd F G H1 → F.length ≤ 110000 → ¬ Twof M → AheadOk M (((F.zip G).filterMap rowF).mergeSort (PySem.W.dataLe false jsD)) →
      tRet (tCB (rSortedD K jsD) (tCons (tLockE (tLc (iItemsT (tFld K (tVar 1) (Str.ofString "found"))) (gTup K 2 (gCons (gName 2) (gCons (gName 3) gNil))) (tTest (tOp rEq (tOp (rIxT K) (tVar 2) (tC (V.int 2))) (tC (V.str (Str.ofString "")))))
        (tTup (tCons (tOp (rIxT K) (tVar 2) (tC (V.int 0))) (tCons (tOp (rIxT K) (tVar 2) (tC (V.int 1))) (tCons (tOp (rIxT K) (tVar 3) (tC (V.int 0))) (tCons (tOp (rIxT K) (tVar 3) (tC (V.int 1))) tNil))))) [2, 3])) tNil))
        { nx := fun x H' => Q V.non H', rt := Q } [some v, some (V.ref g), none, none] H1 := fun F G TB few nt ah => by
    have ngf : g ≠ fd := fun z => by
      obtain ⟨dx, hg⟩ := GA.gi
      obtain ⟨_, h, _⟩ := TB.h
      rw [z, h] at hg
      cases hg
    walk_at "rd"
    refine r_lcIT (R := RGap K) (S := RJs K) (W := F) (xs := G) (σw := [some v, some (V.ref g), none, none]) rowF rfl TB (fun H Q h q => ?_) (fun H' e => (ff.at (by obtain ⟨dx, hg⟩ := GA.gi; rw [e g _ ngf hg, hg]))) (by omega) (fun i T1 k x y u H' QY QN hk hx hT hy hu old yes no => ?_) (fun H2 D s2 hD lD => ?_)
    · walk_at "rd"
      exact q
    · obtain ⟨b, rfl, hb⟩ := hy
      obtain ⟨c, rfl, hc⟩ := hu
      obtain ⟨p1, p2, p3⟩ := k
      obtain ⟨g1, g2⟩ := x
      have hT2 := SqT.of (K := K) hT
      have hb2 : SqT K H' b [.int p1, .int p2, .str p3] := SqT.of hb
      walk_at "rd"
      refine ⟨rfl, ?_⟩
      walk_at "rd"
      by_cases e : p3 = emS
      · refine r_is (decide_eq_true (by rw [e])) ?_
        walk_at "rd"
        refine r_new (Nat.le_of_ble_eq_true rfl) fun t ht => ?_
        refine yes _ _ ⟨p1, p2, g1, g2⟩ (same_up ht) (by unfold rowF; rw [if_pos e]) ⟨t, rfl, SqT.of upd_same⟩
      · refine r_isnt (decide_eq_false ?_) ?_
        · intro z
          exact e (by injection z)
        · exact no _ (Same.refl _) (by unfold rowF; rw [if_neg e])
    · obtain ⟨vs, e1, e2⟩ := lD
      walk_at "rd"
      refine ⟨D, vs, (F.zip G).filterMap rowF, rfl, SqL.of e1, e2.dp (fun v x h => ?_), js_alike _, js_sortable _, fun b _ => js_depth b, fun ys p hys hp => ?_⟩
      · obtain ⟨a, rfl, h⟩ := h
        exact js_dp h
      · have s3 : Same H2 (upd H2 p (.lst ys)) := same_up hp
        exact qB nt _ p ys _ (s1.trans (s2.trans s3)) upd_same (dpAll_same s3 hys) ah
  rcases alt with ⟨rfl, F, G, Cs, TB, tab⟩ | ⟨rfl, hfd, nl⟩ | pf
  · walk_at "rd"
    exact main F G TB.tf (TB.gi.few ok) (tab.not_two ok.r) (rows_ok ok hstr TB.gi tab).2
  · walk_at "rd"
    refine main [] [] ⟨⟨[], hfd, .nil⟩, rfl, List.nodup_nil⟩ (Nat.zero_le _) (dead_not_two ok.r nl) ?_
    have e : (([] : List Sq).zip ([] : List (Str × Str))).filterMap rowF = [] := rfl
    rw [e, List.mergeSort_nil]
    refine ⟨List.Pairwise.nil, fun p q => ⟨fun ⟨e, he, _⟩ => (nomatch he), fun h => ?_⟩, fun e he => (nomatch he), fun e he => (nomatch he), Nat.zero_le _, fun e he => (nomatch he)⟩
    obtain ⟨⟨mv, x, y, p1⟩, mv2, t, x2, y2, p2, la⟩ := (tog_iff ok.r).mp h
    exact absurd ⟨_, t, _, _, p1.app p2, la⟩ nl
  · obtain ⟨p, p1, p2, z, ks, js, w1, w2, rfl, h1, h2, h3, h4, h5, h6, h7, h8⟩ := pf
    refine r_is (by rw [decide_eq_false (by intro z; cases z)]; rfl) ?_
    exact qA ⟨_, _, _, ⟨_, h4⟩, ⟨_, h5⟩, h6⟩ H1 s1

end
end Tw


namespace Tw
open PySem L2
section
variable {P : Program} {w : World} {K : PySem.W.Frag} {mg : Str → Option Value} {base : Heap}
def strsOk (M : Mc) : Prop := ∀ m ∈ M.moves, PyData.strOk m.r = true ∧ PyData.strOk m.w = true
-- _law_cell
abbrev s__law_cell : Stmt := top 21
abbrev N__law_cell : List Str := ["_law_script", "_law_k"]
theorem sc__law_cell : FnScope N__law_cell ["_law_script", "_law_k"] (defScope s__law_cell) := ⟨rfl, rfl, rfl, by decide +kernel, rfl, by decide +kernel, by decide +kernel⟩

def cell (ns : List Int) (k : Nat) : Int := ns.getD k 0
def spCell' (K : PySem.W.Frag) : Sp := fun vs H Q _ => ∃ (a : Addr) (ns : List Int) (k : Int), vs = [.ref a, .int k] ∧ SqL K H a (ns.map V.int) ∧ 0 ≤ k ∧ Q (.int (cell ns k.toNat)) H
theorem ok__law_cell (F : FunAt K mg "_law_cell" s__law_cell) (T : Txt K mg) : Cal P w K mg base CX0 1 "_law_cell" ["_law_script", "_law_k"] (spCell' K) := by
  refine F.cal sc__law_cell (fun _ _ _ _ _ _ us hl => match us, hl with | [_, _], _ => rfl) (fun vs H Q E h => by obtain ⟨_, _, _, rfl, _⟩ := h; rfl) (fun f cdv A outer s H vs Q E hr h => ?_)
  obtain ⟨a, ns, k, rfl, hs, hk, q⟩ := h
  refine ⟨_, (pss_cons (ps_if (pt_cmpR op_lt (pv 1) (pe_callB call_lenQ (by rfl) T.n_len PySem.boot_len (pa_cons (pv 0) pa_nil)) (nomark _))
    (pss_one (ps_ret (pe_ix ix_list (pv 0) (pv 1) (fun _ _ => rfl))))
    pss_nil)
  (pss_one (ps_ret pe_int))), ?_⟩
  refine r_start (σ' := [some (.ref a), some (.int k)]) rfl ?_
  walk_at "rd"
  refine r_both (fun h => ?_) (fun h => ?_)
  · walk_at "rd"
    rw [List.length_map] at h
    have h2 : k.toNat < ns.length := by omega
    refine r_ixL (v := .int (cell ns k.toNat)) hs ?_ q
    have e : ((k.toNat : Nat) : Int) = k := Int.toNat_of_nonneg hk
    have g : (ns.map V.int)[k.toNat]? = some (.int (cell ns k.toNat)) := by
      rw [List.getElem?_map, List.getElem?_eq_getElem h2]
      simp [cell, h2]
    have g2 := atI_nat g
    rw [e] at g2
    exact g2
  · walk_at "rd"
    rw [List.length_map] at h
    have e : cell ns k.toNat = 0 := by
      unfold cell
      rw [List.getD_eq_getElem?_getD, List.getElem?_eq_none (by omega)]
      rfl
    rw [e] at q
    exact q

/-- one sign -/
def One (x : Str) : Prop := x.length = 1 ∧ PyData.strOk x = true
/-- ninety-four unlike signs -/
def signsOk (z : Str) : Bool := decide (z.cps.toList.length = 94) && PyData.strOk z && decide (z.cps.toList.Nodup)
theorem r_signAt {H : Hp} {Q : VK} {z : Str} {j : Int} (hz : signsOk z = true) (h0 : 0 ≤ j) (h1 : j < 94) (h : ∀ c, z.cps.toList[j.toNat]? = some c → One ⟨#[c]⟩ → Q (.str ⟨#[c]⟩) H) : rIxS (.str z) (.int j) H Q := by
  unfold signsOk at hz
  rw [Bool.and_eq_true, Bool.and_eq_true] at hz
  have hl := of_decide_eq_true hz.1.1
  have hj : j.toNat < z.cps.toList.length := by omega
  have ej : ((j.toNat : Nat) : Int) = j := Int.toNat_of_nonneg h0
  have ha : atI z.cps.toList j = some z.cps.toList[j.toNat] := by
    have := atI_nat (xs := z.cps.toList) (List.getElem?_eq_getElem hj)
    rw [ej] at this
    exact this
  have e : z.length = 94 := by
    show z.cps.size = 94
    rw [← Array.length_toList]
    exact hl
  refine r_ixS (by rw [e]; decide) ha (h _ (List.getElem?_eq_getElem hj) ⟨rfl, ?_⟩)
  have h2 := hz.1.2
  unfold PyData.strOk at h2 ⊢
  rw [Array.all_eq_true'] at h2
  have h3 := h2 _ (Array.mem_def.mpr (List.getElem_mem hj))
  simpa using h3
theorem sign_ne {z : Str} (hz : signsOk z = true) {i j : Nat} {c d : Nat} (h1 : z.cps.toList[i]? = some c) (h2 : z.cps.toList[j]? = some d) (ne : i ≠ j) : (⟨#[c]⟩ : Str) ≠ ⟨#[d]⟩ := by
  unfold signsOk at hz
  rw [Bool.and_eq_true] at hz
  have nd := of_decide_eq_true hz.2
  obtain ⟨l1, g1⟩ := List.getElem?_eq_some_iff.mp h1
  obtain ⟨l2, g2⟩ := List.getElem?_eq_some_iff.mp h2
  intro e
  injection e with e
  have e2 : c = d := by
    have := congrArg Array.toList e
    simpa using this
  exact ne ((List.getElem_inj nd).mp (g1.trans (e2.trans g2.symm)))
structure Three (a b c : Str) : Prop where
  oa : One a
  ob : One b
  oc : One c
  ab : a ≠ b
  ac : a ≠ c
  bc : b ≠ c
-- _law_signs
abbrev s__law_signs : Stmt := top 22
abbrev N__law_signs : List Str := ["_law_cell_here", "_law_some", "_law_second", "_law_third"]
theorem sc__law_signs : FnScope N__law_signs ["_law_cell_here"] (defScope s__law_signs) := ⟨rfl, rfl, rfl, by decide +kernel, rfl, by decide +kernel, by decide +kernel⟩

def spSigns : Sp := fun vs H Q _ => ∃ (k : Int), vs = [.int k] ∧ ∀ (H' : Hp) (p : Addr) (a b c : Str), Same H H' → H p = none → Three a b c → H' p = some (.lst ([a, b, c].map V.str)) → Q (.ref p) H'
theorem ok__law_signs (F : FunAt K mg "_law_signs" s__law_signs) : Cal P w K mg base CX0 1 "_law_signs" ["_law_cell_here"] spSigns := by
  refine F.cal sc__law_signs (fun _ _ _ _ _ _ us hl => match us, hl with | [_], _ => rfl) (fun vs H Q E h => by obtain ⟨_, rfl, _⟩ := h; rfl) (fun f cdv A outer s H vs Q E hr h => ?_)
  obtain ⟨c, rfl, q⟩ := h
  refine ⟨_, (pss_cons (ps_set (i := 1) sc__law_signs.nd rfl (Or.inl rfl) pe_str)
  (pss_cons (ps_set (i := 1) sc__law_signs.nd rfl (Or.inl rfl) (pe_op op_add_str (pv 1) pe_str))
  (pss_cons (ps_set (i := 2) sc__law_signs.nd rfl (Or.inl rfl) (pe_op op_mod (pe_op op_add (pe_op op_add (pv 0) pe_int) (pe_op op_mod (pe_op op_fdiv (pv 0) pe_int) pe_int)) pe_int))
  (pss_cons (ps_set (i := 3) sc__law_signs.nd rfl (Or.inl rfl) (pe_op op_mod (pe_op op_add (pe_op op_add (pv 0) pe_int) (pe_op op_mod (pe_op op_fdiv (pv 0) pe_int) pe_int)) pe_int))
  (pss_one (ps_ret (pe_lst (pa_cons (pe_ix ix_str (pv 1) (pe_op op_mod (pv 0) pe_int) (fun _ _ => rfl)) (pa_cons (pe_ix ix_str (pv 1) (pv 2) (fun _ _ => rfl)) (pa_cons (pe_ix ix_str (pv 1) (pv 3) (fun _ _ => rfl)) pa_nil)))))))))), ?_⟩
  refine r_start (σ' := [some (.int c), none, none, none]) rfl ?_
  walk_at "rd"
  refine r_signAt (by decide +kernel) (by omega) (by omega) (fun c1 g1 k1 => ?_)
  walk_at "rd"
  refine r_signAt (by decide +kernel) (by omega) (by omega) (fun c2 g2 k2 => ?_)
  walk_at "rd"
  refine r_signAt (by decide +kernel) (by omega) (by omega) (fun c3 g3 k3 => ?_)
  walk_at "rd"
  refine r_new (Nat.le_of_ble_eq_true rfl) (fun p hp => ?_)
  refine q _ p ⟨#[c1]⟩ ⟨#[c2]⟩ ⟨#[c3]⟩ (same_up hp) hp ⟨k1, k2, k3, sign_ne (by decide +kernel) g1 g2 ?_, sign_ne (by decide +kernel) g1 g3 ?_, sign_ne (by decide +kernel) g2 g3 ?_⟩ upd_same
  · omega
  · omega
  · have b1 : 0 ≤ c / 94 % 46 ∧ c / 94 % 46 < 46 := by omega
    have b2 : 0 ≤ c / 4324 % 46 ∧ c / 4324 % 46 < 46 := by omega
    generalize c / 94 % 46 = e1 at b1 ⊢
    generalize c / 4324 % 46 = e2 at b2 ⊢
    omega
-- _law_text
abbrev s__law_text : Stmt := top 23
abbrev N__law_text : List Str := ["_law_cell_here", "_law_size", "_law_signs_here", "_law_k"]
theorem sc__law_text : FnScope N__law_text ["_law_cell_here", "_law_size", "_law_signs_here"] (defScope s__law_text) := ⟨rfl, rfl, rfl, by decide +kernel, rfl, by decide +kernel, by decide +kernel⟩

def pick (a b c : Str) (j : Int) : Str := if j = 0 then a else if j = 1 then b else c
def txF (k : Int) (a b c : Str) (i : Nat) : Str := pick a b c ((k + 104729 * (i : Int) * (i : Int)) * 48271 % 2147483647 % 3)
def spText (K : PySem.W.Frag) : Sp := fun vs H Q _ => ∃ (k n : Int) (l : Addr) (a b c : Str), vs = [.int k, .int n, .ref l] ∧ 0 ≤ n ∧ n ≤ 40 ∧ SqL K H l ([a, b, c].map V.str) ∧ ∀ (H' : Hp) (p : Addr), Same H H' → H p = none → H' p = some (.lst (((List.range n.toNat).map (txF k a b c)).map V.str)) → Q (.ref p) H'
theorem ok__law_text (F : FunAt K mg "_law_text" s__law_text) (T : Txt K mg) : Cal P w K mg base CX0 1 "_law_text" ["_law_cell_here", "_law_size", "_law_signs_here"] (spText K) := by
  refine F.cal sc__law_text (fun _ _ _ _ _ _ us hl => match us, hl with | [_, _, _], _ => rfl) (fun vs H Q E h => by obtain ⟨_, _, _, _, _, _, rfl, _⟩ := h; rfl) (fun f cdv A outer s H vs Q E hr h => ?_)
  obtain ⟨k, n, l, a, b, c, rfl, n0, n40, hl, q⟩ := h
  refine ⟨_, (pss_one (ps_ret (pe_lc (own := [("_law_k", 3)]) (g := (gName 3)) (tt := tYes) (te := (tOp (rIxL K) (tVar 2) (tOp _ (tOp _ (tOp _ (tOp _ (tVar 0) (tOp _ (tOp _ (tC _) (tVar 3)) (tVar 3))) (tC _)) (tC _)) (tC _)))) rfl sc__law_text.nd (pi_range1 (by rfl) T.n_range (pa_cons (pv 1) pa_nil)) (blkOk_by (N := N__law_text) (sc := defScope s__law_text) (by decide +kernel)) (fun _ _ _ _ _ => (pg_name (i := 3) sc__law_text.nd rfl (Or.inl rfl))) (fun _ _ _ _ _ => pts_nil) (fun _ _ _ _ _ => (pe_ix ix_list (pv 2) (pe_op op_mod (pe_op op_mod (pe_op op_mul (pe_op op_add (pv 0) (pe_op op_mul (pe_op op_mul pe_int (pv 3)) (pv 3))) pe_int) pe_int) pe_int) (fun _ _ => rfl)))))), ?_⟩
  refine r_start (σ' := [some (.int k), some (.int n), some (.ref l), none]) rfl ?_
  walk_at "rd"
  refine r_lcR (K := K) (n := n) (σw := [some (.int k), some (.int n), some (.ref l), none]) (fun i => some (.str (txF k a b c i))) rfl (fun R h => by walk_at "rd"; exact h) (by omega) (by omega) (fun i d e => by cases e; rfl) (fun i H' QY QN hi s1 yes no => ?_) (fun H' D acc s1 hD hD2 hA => ?_)
  · have hl' := same_sqL s1 hl
    refine r_gname rfl ⟨rfl, r_yes (r_true ?_)⟩
    dsimp only [List.set_cons_succ, List.set_cons_zero]
    walk_at "rd"
    have hx : atI ([a, b, c].map V.str) ((k + 104729 * (i : Int) * (i : Int)) * 48271 % 2147483647 % 3) = some (.str (txF k a b c i)) := by
      unfold txF pick
      generalize (k + 104729 * (i : Int) * (i : Int)) * 48271 % 2147483647 = z
      have : z % 3 = 0 ∨ z % 3 = 1 ∨ z % 3 = 2 := by omega
      rcases this with h | h | h <;> rw [h] <;> rfl
    refine r_ixL hl' hx ?_
    exact yes _ _ _ (Same.refl _) rfl (.str _)
  · have e : (List.range n.toNat).filterMap (fun i => some (PyData.str (txF k a b c i))) = ((List.range n.toNat).map (txF k a b c)).map .str := by
      rw [List.map_map]
      exact fm_some _ _
    rw [e] at hA
    rw [dpAll_strs hA] at hD2
    exact q _ D s1 hD hD2
-- _law_turned
abbrev s__law_turned : Stmt := top 25
abbrev N__law_turned : List Str := ["_law_states", "_law_state", "_law_is_down"]
theorem sc__law_turned : FnScope N__law_turned ["_law_states", "_law_state", "_law_is_down"] (defScope s__law_turned) := ⟨rfl, rfl, rfl, by decide +kernel, rfl, by decide +kernel, by decide +kernel⟩

def spTurnS : Sp := fun vs H Q _ => ∃ (n k : Int) (b : Bool), vs = [.int n, .int k, .bl b] ∧ Q (.int (if b = true then n - 1 - k else k)) H
theorem ok__law_turned (F : FunAt K mg "_law_turned" s__law_turned) : Cal P w K mg base CX0 1 "_law_turned" ["_law_states", "_law_state", "_law_is_down"] spTurnS := by
  refine F.cal sc__law_turned (fun _ _ _ _ _ _ us hl => match us, hl with | [_, _, _], _ => rfl) (fun vs H Q E h => by obtain ⟨_, _, _, rfl, _⟩ := h; rfl) (fun f cdv A outer s H vs Q E hr h => ?_)
  obtain ⟨n, k, b, rfl, q⟩ := h
  refine ⟨_, (pss_cons (ps_if (pt_val (pv 2))
    (pss_one (ps_ret (pe_op op_sub (pe_op op_sub (pv 0) pe_int) (pv 1))))
    pss_nil)
  (pss_one (ps_ret (pv 1)))), ?_⟩
  refine r_start (σ' := [some (.int n), some (.int k), some (.bl b)]) rfl ?_
  cases b with
  | true =>
    walk_at "rd"
    exact q
  | false =>
    walk_at "rd"
    exact q
-- _law_is_refused
abbrev s__law_is_refused : Stmt := top 27
abbrev N__law_is_refused : List Str := ["_law_machine"]
theorem sc__law_is_refused : FnScope N__law_is_refused ["_law_machine"] (defScope s__law_is_refused) := ⟨rfl, rfl, rfl, by decide +kernel, rfl, by decide +kernel, by decide +kernel⟩

/-- the refusal of machines that are twofold -/
structure ErrT (K : PySem.W.Frag) (mg : Str → Option Value) (T : Addr) : Prop where
  gT : mg "Twofold" = some (.ref T)
  sTT : PySem.W.exmOne K (.ref T) (.ref T) = some true
/-- whether ahead refuses a machine -/
def spRefused11 (K : PySem.W.Frag) : Sp := fun vs H Q _ => ∃ (v : V) (M : Mc), vs = [v] ∧ Dp K H v (mcD M) ∧ M.Ok ∧ strsOk M ∧ ∀ H' b, Same H H' → (b = true ↔ Twof M) → Q (.bl b) H'
theorem ok__law_is_refused {eT : Addr} (F : FunAt K mg "_law_is_refused" s__law_is_refused) (T : Txt K mg) (ET : ErrT K mg eT) (c_ahead : Cal P w K mg base (L2.CX P w) 10 "ahead" ["machine"] (spAhead K eT)) : Cal P w K mg base CX0 11 "_law_is_refused" ["_law_machine"] (spRefused11 K) := by
  refine F.cal sc__law_is_refused (fun _ _ _ _ _ _ us hl => match us, hl with | [_], _ => rfl) (fun vs H Q E h => by obtain ⟨_, _, rfl, _⟩ := h; rfl) (fun f cdv A outer s H vs Q E hr h => ?_)
  obtain ⟨v, M, rfl, hd, ok, so, q⟩ := h
  refine ⟨_, (pss_cons (ps_try_only rfl rfl ⟨rfl, by decide, .inl ET.gT⟩ takes0 (fun W pn xe tk _ => (pss_one (ps_expr (pe_callSC c_ahead hr (by decide) (by rfl) (fun σ => passAt tk σ) (pa_cons (pv 0) pa_nil)))))
    (fun a oe cls d pn _ _ => (pss_one (ps_ret pe_bl))))
  (pss_one (ps_ret pe_bl))), ?_⟩
  refine r_start (σ' := [some v]) rfl ?_
  refine r_seq ?_
  walk_at "rd"
  refine ⟨v, M, rfl, hd, ok, so, fun tw H1 s1 => ?_, fun no H1 p xs rows s1 _ _ _ => ?_⟩
  · refine ⟨true, ET.sTT, fun _ a ha => ?_, fun z => nomatch z⟩
    walk_at "rd"
    exact q _ true s1 ⟨fun _ => tw, fun _ => rfl⟩
  · walk_at "rd"
    exact q _ false s1 ⟨(fun z => by cases z), fun tw => absurd tw no⟩

end
end Tw


namespace Tw
open PySem L2
section
variable {P : Program} {w : World} {K : PySem.W.Frag} {mg : Str → Option Value} {base : Heap}
/-- the k-th move of a road -/
def rdMv (t row : List Str) (b : Int) (k : Nat) : Mv := ⟨b + k - (if k = 0 then 1 else 0) * b, t.getD k emS, row.getD k emS, b + k + 1⟩
theorem cutV_at (l : List V) (k : Nat) : cutV l (some (k : Int)) (some ((k : Int) + 1)) = (l.drop k).take 1 := by
  unfold cutV
  rw [show ((k : Int) + 1) = ((k + 1 : Nat) : Int) by omega, HT.sIx_nat, HT.sIx_nat]
  by_cases h : k < l.length
  · rw [Nat.min_eq_left (by omega), Nat.min_eq_left (by omega)]
    congr 1
    omega
  · rw [List.drop_eq_nil_of_le (by omega), List.drop_eq_nil_of_le (by omega)]
    simp
-- _law_road
abbrev s__law_road : Stmt := top 24
abbrev N__law_road : List Str := ["_law_text_here", "_law_writing", "_law_late", "_law_base", "_law_row", "_law_moves", "_law_k", "_law_read"]
theorem sc__law_road : FnScope N__law_road ["_law_text_here", "_law_writing", "_law_late", "_law_base"] (defScope s__law_road) := ⟨rfl, rfl, rfl, by decide +kernel, rfl, by decide +kernel, by decide +kernel⟩

def spRoad (K : PySem.W.Frag) : Sp := fun vs H Q _ => ∃ (l m : Addr) (t ws : List Str) (late b : Int), vs = [.ref l, .ref m, .int late, .int b] ∧ SqL K H l (t.map V.str) ∧ H m = some (.lst (ws.map V.str)) ∧ 0 ≤ late ∧ late ≤ 40 ∧ 0 ≤ b ∧ b ≤ 40 ∧ ws.length ≤ 40 ∧ (∀ x ∈ t, One x) ∧ (∀ x ∈ ws, One x) ∧
  ∀ (H' : Hp) (p : Addr) (xs : List V), Same H H' → H' p = some (.lst xs) → DpAll K H' xs (((List.range (late.toNat + ws.length)).map (rdMv t (List.replicate late.toNat emS ++ ws) b)).map mvD) → Q (.ref p) H'
theorem ok__law_road (F : FunAt K mg "_law_road" s__law_road) (T : Txt K mg) : Cal P w K mg base CX0 1 "_law_road" ["_law_text_here", "_law_writing", "_law_late", "_law_base"] (spRoad K) := by
  refine F.cal sc__law_road (fun _ _ _ _ _ _ us hl => match us, hl with | [_, _, _, _], _ => rfl) (fun vs H Q E h => by obtain ⟨_, _, _, _, _, _, rfl, _⟩ := h; rfl) (fun f cdv A outer s H vs Q E hr h => ?_)
  obtain ⟨l, m, t, ws, late, b, rfl, hl, hm, l0, l40, b0, b40, w40, ht, hw, q⟩ := h
  refine ⟨_, (pss_cons (ps_set (i := 4) sc__law_road.nd rfl (Or.inl rfl) (pe_op op_cat (pe_op op_rep (pe_lst (pa_cons pe_str pa_nil)) (pv 2)) (pv 1)))
  (pss_cons (ps_set (i := 5) sc__law_road.nd rfl (Or.inl rfl) (pe_lst pa_nil))
  (pss_cons (ps_for PassesOwn.never rfl (pi_range1 (by rfl) T.n_range (pa_cons (pe_callB call_lenQ (by rfl) T.n_len PySem.boot_len (pa_cons (pv 4) pa_nil)) pa_nil)) (pg_name (i := 6) sc__law_road.nd rfl (Or.inl rfl))
    (pss_cons (ps_set (i := 7) sc__law_road.nd rfl (Or.inl rfl) (pe_join pe_str (pe_slice sl_list (pv 0) (po_some (pv 6)) (po_some (pe_op op_add (pv 6) pe_int)))))
  (pss_one (ps_expr (pe_bm PySem.F.plainAttrs_list PySem.F.slot_list_append PySem.F.type_list_append mt_append (pv 5) (pa_cons (pe_tup (pa_cons (pe_op op_sub (pe_op op_add (pv 3) (pv 6)) (pe_op op_mul (pe_callTy call_int1 (by rfl) T.n_int (by decide +kernel) (pa_cons (pe_cmpR op_eq (pv 6) pe_int (nomark _)) pa_nil)) (pv 3))) (pa_cons (pv 7) (pa_cons (pe_ix ix_list (pv 4) (pv 6) (fun _ _ => rfl)) (pa_cons (pe_op op_add (pe_op op_add (pv 3) (pv 6)) pe_int) pa_nil))))) pa_nil))))))
  (pss_one (ps_ret (pv 5)))))), ?_⟩
  refine r_start (σ' := [some (.ref l), some (.ref m), some (.int late), some (.int b), none, none, none, none]) rfl ?_
  walk_at "rd"
  refine r_new (Nat.le_of_ble_eq_true rfl) fun e1 he1 => ?_
  have s1 : Same H (upd H e1 (.lst [.str (Str.ofString "")])) := same_up he1
  have h1 : (upd H e1 (.lst [.str (Str.ofString "")])) e1 = some (.lst [.str (Str.ofString "")]) := upd_same
  generalize upd H e1 (.lst [.str (Str.ofString "")]) = H1 at s1 h1 ⊢
  walk_at "rd"
  refine ⟨e1, late, _, rfl, rfl, h1, by omega, by omega, (by
    show 1 * late.toNat ≤ sizeLine
    have : (40 : Nat) ≤ sizeLine := by decide
    omega), fun p1 hp1 => ?_⟩
  have erep : (List.replicate late.toNat [V.str (Str.ofString "")]).flatten = (List.replicate late.toNat emS).map V.str := by
    rw [List.map_replicate]
    induction late.toNat with
    | zero => rfl
    | succ n ih => rw [List.replicate_succ, List.flatten_cons, ih, List.replicate_succ]; rfl
  rw [erep]
  have s2 : Same H1 (upd H1 p1 (.lst ((List.replicate late.toNat emS).map V.str))) := same_up hp1
  have h2 : (upd H1 p1 (.lst ((List.replicate late.toNat emS).map V.str))) p1 = some (.lst ((List.replicate late.toNat emS).map V.str)) := upd_same
  generalize upd H1 p1 (.lst ((List.replicate late.toNat emS).map V.str)) = H2 at s2 h2 ⊢
  walk_at "rd"
  refine r_cat h2 (s2 _ _ (s1 _ _ hm)) (by simp only [List.length_map, List.length_replicate]; omega) fun p2 hp2 => ?_
  rw [← List.map_append]
  generalize hrow : List.replicate late.toNat emS ++ ws = row
  have lrow : row.length = late.toNat + ws.length := by rw [← hrow, List.length_append, List.length_replicate]
  have s3 : Same H2 (upd H2 p2 (.lst (row.map V.str))) := same_up hp2
  have h3 : SqL K (upd H2 p2 (.lst (row.map V.str))) p2 (row.map V.str) := SqL.of upd_same
  have s03 := s1.trans (s2.trans s3)
  generalize upd H2 p2 (.lst (row.map V.str)) = H3 at s3 h3 s03 ⊢
  walk_at "rd"
  refine r_new (Nat.zero_le _) fun L hL => ?_
  walk_at "rd"
  have s4 : Same H3 (upd H3 L (.lst [])) := same_up hL
  refine r_forR (n := ((row.map V.str).length : Int)) (fun i σ H' => ∃ (x6 x7 : Option V), σ = [some (.ref l), some (.ref m), some (.int late), some (.int b), some (.ref p2), some (.ref L), x6, x7] ∧ Gro K H3 L (((List.range i).map (rdMv t row b)).map mvD) H') (fun R h => ?_) (by omega) (by rw [List.length_map]; omega)
    ⟨none, none, rfl, Gro.new hL⟩ (fun i σ H' hi p => ?_) (fun σ H' p => ?_)
  · walk_at "rd"
    exact h
  · obtain ⟨x6, x7, rfl, g⟩ := p
    rw [List.length_map] at hi
    have hir : i < row.length := by omega
    have gs := g.s
    have hlT := same_sqL (s03.trans gs) hl
    have hrT := same_sqL gs h3
    walk_at "rd"
    intro c1 hc1
    rw [cutV_at, ← List.map_drop, ← List.map_take]
    have s5 : Same H' (upd H' c1 (.lst (((t.drop i).take 1).map V.str))) := same_up hc1
    have h5 : SqL K (upd H' c1 (.lst (((t.drop i).take 1).map V.str))) c1 (((t.drop i).take 1).map V.str) := SqL.of upd_same
    have g5 := g.same s5
    have hr5 := same_sqL s5 hrT
    generalize upd H' c1 (.lst (((t.drop i).take 1).map V.str)) = H5 at s5 h5 g5 hr5 ⊢
    have ej : Txt.join (Str.ofString "") ((t.drop i).take 1) = t.getD i emS := tl_inj (by
      rw [tl_join, List.getD_eq_getElem?_getD]
      by_cases h : i < t.length
      · rw [List.drop_eq_getElem_cons h, List.take_succ_cons, List.take_zero, List.map_cons, List.map_nil, List.flatten_cons, List.flatten_nil, List.append_nil, List.getElem?_eq_getElem h, Option.getD_some]
      · rw [List.drop_eq_nil_of_le (by omega), List.getElem?_eq_none (by omega)]
        exact tl_nil.symm)
    refine r_join h5 ?_ ?_
    · have z : (Str.ofString "").length = 0 := em_len
      rw [z, Nat.mul_zero]
      have := sum_len1 ((t.drop i).take 1) (fun y hy => by
        have := ht y ((List.drop_sublist _ _).subset ((List.take_sublist _ _).subset hy))
        exact Nat.le_of_eq this.1)
      have h2 : ((t.drop i).take 1).length ≤ 1 := by rw [List.length_take]; omega
      omega
    rw [ej]
    walk_at "rd"
    obtain ⟨vs5, hv5, _⟩ := id g5.h
    refine r_tyL (SqL.of hv5) ?_
    have hx : atI (row.map V.str) (i : Int) = some (.str (row.getD i emS)) := by
      refine atI_nat ?_
      rw [List.getElem?_map, List.getElem?_eq_getElem hir, List.getD_eq_getElem?_getD, List.getElem?_eq_getElem hir]
      rfl
    walk_at "rd"
    have e0 : (if decide (V.int (i : Int) = V.int 0) = true then (1 : Int) else 0) = if i = 0 then 1 else 0 := by
      by_cases h : i = 0
      · subst h
        rfl
      · rw [if_neg h, if_neg (fun z => h (by
          have := of_decide_eq_true z
          injection this with this
          omega))]
    rw [e0]
    refine r_new (Nat.le_of_ble_eq_true rfl) fun t6 ht6 => ?_
    walk_at "rd"
    have s6 : Same H5 (upd H5 t6 (.tup [.int (b + (i : Int) - (if i = 0 then 1 else 0) * b), .str (t.getD i emS), .str (row.getD i emS), .int (b + (i : Int) + 1)])) := same_up ht6
    refine (g5.same s6).app (d := mvD (rdMv t row b i)) (.tup (SqT.of upd_same) (.cons (.int _) (.cons (.str _) (.cons (.str _) (.cons (.int _) .nil))))) rfl (by rw [List.length_map, List.length_map, List.length_range]; omega) (fun H7 g7 _ _ => ?_)
    refine ⟨_, _, rfl, ?_⟩
    rw [List.range_succ, List.map_append, List.map_append]
    exact g7
  · obtain ⟨x6, x7, rfl, g⟩ := p
    obtain ⟨vs, v1, v2⟩ := g.h
    walk_at "rd"
    rw [List.length_map, Int.toNat_natCast, lrow, ← hrow] at v2
    exact q H' L vs (s03.trans g.s) v1 v2
theorem cutV_mid (l : List V) (i n : Nat) : cutV l (some (i : Int)) (some (n : Int)) = (l.drop i).take (n - i) := by
  unfold cutV
  rw [HT.sIx_nat, HT.sIx_nat]
  by_cases h : i ≤ l.length
  · rw [Nat.min_eq_left h]
    rcases Nat.le_total n l.length with hn | hn
    · rw [Nat.min_eq_left hn]
    · rw [Nat.min_eq_right hn, List.take_of_length_le (by rw [List.length_drop]; omega), List.take_of_length_le (by rw [List.length_drop]; omega)]
  · rw [List.drop_eq_nil_of_le (by omega), List.drop_eq_nil_of_le (by omega)]
    simp
theorem cutV_tail (l : List V) (i : Nat) : cutV l (some (i : Int)) none = l.drop i := by
  unfold cutV
  rw [HT.sIx_nat, HT.sIx_none]
  rcases Nat.le_total i l.length with h | h
  · rw [Nat.min_eq_left h, List.take_of_length_le (by rw [List.length_drop]; omega)]
  · rw [Nat.min_eq_right h, List.drop_eq_nil_of_le (Nat.le_refl _), List.drop_eq_nil_of_le h]
    simp
/-- a piece of the writing, joined -/
theorem join_mo (D : Two) (a b : Nat) : Txt.join (Str.ofString "") ((D.wr.drop a).take (b - a)) = D.mo a b := tl_inj (by
  rw [tl_join]
  unfold Two.mo
  rw [tl_toS]
  exact (Fl_list D.wr (b - a) a).symm)
/-- rows that stand at p -/
def RowsAt (K : PySem.W.Frag) (H : Hp) (p : Addr) (es : List JS) : Prop := ∃ vs, H p = some (.lst vs) ∧ DpAll K H vs (es.map jsD)
theorem RowsAt.same {H H' : Hp} {p : Addr} {es : List JS} (h : RowsAt K H p es) (e : Same H H') : RowsAt K H' p es := by
  obtain ⟨vs, h1, h2⟩ := h
  exact ⟨vs, e _ _ h1, dpAll_same e h2⟩
theorem RowsAt.cat {H : Hp} {Q : VK} {p r : Addr} {es fs : List JS} (h1 : RowsAt K H p es) (h2 : RowsAt K H r fs) (hl : es.length + fs.length ≤ 16777216) (q : ∀ H' t, Same H H' → H t = none → RowsAt K H' t (es ++ fs) → Q (.ref t) H') : rCat (.ref p) (.ref r) H Q := by
  obtain ⟨vs, a1, a2⟩ := h1
  obtain ⟨ws, b1, b2⟩ := h2
  refine ⟨p, r, vs, ws, rfl, rfl, a1, b1, by rw [dpAll_len a2, dpAll_len b2, List.length_map, List.length_map]; exact hl, fun t ht => q _ t (same_up ht) ht ⟨_, upd_same, ?_⟩⟩
  rw [List.map_append]
  exact dpAll_same (same_up ht) (dpAll_app a2 b2)
theorem mo_self (D : Two) {a b : Nat} (h : b ≤ a) : D.mo a b = emS := by
  unfold Two.mo
  rw [show b - a = 0 by omega, Fl.zero]
  exact toS_nil
section
variable (D : Two)
theorem E1 (k : Nat) : D.E (false, k, false, k) = ⟨k, k, emS, emS⟩ := by
  unfold Two.E
  rw [mo_self D (Nat.le_refl _)]
  rfl
theorem sT {k : Nat} (h : 1 ≤ k) : D.s true k = D.n + k := by
  show (if k = 0 then 0 else D.n + k) = _
  rw [if_neg (by omega)]
theorem E2 {k : Nat} (h : 1 ≤ k) : D.E (true, k, true, k) = ⟨((D.n + k : Nat) : Int), ((D.n + k : Nat) : Int), emS, emS⟩ := by
  unfold Two.E
  rw [mo_self D (Nat.le_refl _)]
  dsimp only
  rw [sT D h]
theorem E3 {k : Nat} (h : 1 ≤ k) : D.E (false, k, true, k) = ⟨k, ((D.n + k : Nat) : Int), D.mo (k - D.late) k, emS⟩ := by
  unfold Two.E
  dsimp only
  rw [sT D h, mo_self D (show D.ev true k ≤ D.ev false k by show k - D.late ≤ k; omega)]
  rfl
theorem E4 {k : Nat} (h : 1 ≤ k) : D.E (true, k, false, k) = ⟨((D.n + k : Nat) : Int), k, emS, D.mo (k - D.late) k⟩ := by
  unfold Two.E
  dsimp only
  rw [sT D h, mo_self D (show D.ev true k ≤ D.ev false k by show k - D.late ≤ k; omega)]
  rfl
theorem E5 {j : Nat} (h : 1 ≤ j) (hl : j ≤ D.late) : D.E (false, D.n, true, D.n + j) = ⟨D.n, ((D.n + (D.n + j) : Nat) : Int), D.mo (D.n + j - D.late) D.n, emS⟩ := by
  unfold Two.E
  dsimp only
  rw [sT D (by omega), mo_self D (show D.ev true (D.n + j) ≤ D.ev false D.n by show D.n + j - D.late ≤ D.n; omega)]
  rfl
theorem E6 {j : Nat} (h : 1 ≤ j) (hl : j ≤ D.late) : D.E (true, D.n + j, false, D.n) = ⟨((D.n + (D.n + j) : Nat) : Int), D.n, emS, D.mo (D.n + j - D.late) D.n⟩ := by
  unfold Two.E
  dsimp only
  rw [sT D (by omega), mo_self D (show D.ev true (D.n + j) ≤ D.ev false D.n by show D.n + j - D.late ≤ D.n; omega)]
  rfl
theorem E7 {i j : Nat} (n1 : 1 ≤ D.n) : D.E (true, D.n + i, true, D.n + j) = ⟨((D.n + (D.n + i) : Nat) : Int), ((D.n + (D.n + j) : Nat) : Int), D.mo (D.n + j - D.late) (D.n + i - D.late), D.mo (D.n + i - D.late) (D.n + j - D.late)⟩ := by
  unfold Two.E
  dsimp only
  rw [sT D (by omega), sT D (by omega)]
  rfl
end
theorem sum_one {l : List Str} (h : ∀ x ∈ l, One x) (n : Nat) (hn : l.length ≤ n) : (l.map (·.length)).sum + l.length * (Str.ofString "").length ≤ n := by
  have z : (Str.ofString "").length = 0 := em_len
  rw [z, Nat.mul_zero]
  have := sum_len1 l (fun y hy => Nat.le_of_eq (h y hy).1)
  omega
theorem r_forR1 {n : Nat} {σ : St} {H : Hp} {g : TG} {tb : TS} {D : Ends} {ta : TA} (Pv : Nat → St → Hp → Prop) (ha : ∀ Q : List V → Hp → Prop, Q [.int 1, .int ((n : Int) + 1)] H → ta σ H Q) (hn : n ≤ 1000000) (h0 : Pv 0 σ H)
    (h2 : ∀ (i : Nat) σ H, i < n → Pv i σ H → g (.int ((i + 1 : Nat) : Int)) σ H fun σ2 H2 => tb { D with nx := Pv (i + 1), ct := Pv (i + 1), bk := D.nx } σ2 H2) (h3 : ∀ σ H, Pv n σ H → D.nx σ H) : tFor (iRng2 ta) g tb D σ H := by
  refine ha _ ⟨1, (n : Int) + 1, rfl, by omega, ?_⟩
  rw [show ((n : Int) + 1 - 1).toNat = n by omega]
  refine for_range (lo := 1) (n := n) Pv h0 (fun i σ' H' hi p => ?_) h3
  have e : (1 : Int) + (i : Int) = ((i + 1 : Nat) : Int) := by omega
  rw [e]
  exact h2 i σ' H' hi p
/-- four rows -/
theorem four_rows {H : Hp} {t1 t2 t3 t4 p : Addr} {a b c d : JS} (h1 : Dp K H (.ref t1) (jsD a)) (h2 : Dp K H (.ref t2) (jsD b)) (h3 : Dp K H (.ref t3) (jsD c)) (h4 : Dp K H (.ref t4) (jsD d)) (hp : H p = some (.lst [.ref t1, .ref t2, .ref t3, .ref t4])) : RowsAt K H p [a, b, c, d] := ⟨_, hp, .cons h1 (.cons h2 (.cons h3 (.cons h4 .nil)))⟩
theorem fm_range {α : Type} (f : Nat → List α) (n : Nat) : (List.range (n + 1)).flatMap f = (List.range n).flatMap f ++ f n := by
  rw [List.range_succ, List.flatMap_append]
  simp
theorem hards_js : ∀ es : List JS, hards (es.map jsD) = true
  | [] => rfl
  | e :: es => by
    show (hard (jsD e) && hards (es.map jsD)) = true
    rw [hard_js, hards_js es]
    rfl
-- _law_due
abbrev s__law_due : Stmt := top 26
abbrev N__law_due : List Str := ["_law_writing", "_law_late", "_law_size", "_law_rows", "_law_k", "_law_more", "_law_one", "_law_other", "_law_j", "_law_last", "_law_i", "_law_low", "_law_both"]
theorem sc__law_due : FnScope N__law_due ["_law_writing", "_law_late"] (defScope s__law_due) := ⟨rfl, rfl, rfl, by decide +kernel, rfl, by decide +kernel, by decide +kernel⟩

def spDue (K : PySem.W.Frag) : Sp := fun vs H Q _ => ∃ (l : Addr) (D : Two), vs = [.ref l, .int (D.late : Int)] ∧ D.Ok ∧ H l = some (.lst (D.wr.map V.str)) ∧
  ∀ (H' : Hp) (p : Addr) (xs : List V), Same H H' → H' p = some (.lst xs) → DpAll K H' xs ((D.Ia.map D.E).map jsD) → Q (.ref p) H'
theorem ok__law_due (F : FunAt K mg "_law_due" s__law_due) (T : Txt K mg) : Cal P w K mg base CX0 1 "_law_due" ["_law_writing", "_law_late"] (spDue K) := by
  refine F.cal sc__law_due (fun _ _ _ _ _ _ us hl => match us, hl with | [_, _], _ => rfl) (fun vs H Q E h => by obtain ⟨_, _, rfl, _⟩ := h; rfl) (fun f cdv A outer s H vs Q E hr h => ?_)
  obtain ⟨l, D, rfl, ok, hl, q⟩ := h
  have n1 := ok.n1
  have n2 := ok.n2
  have l1 := ok.l1
  have l2 := ok.l2
  have lw := ok.lw
  have hl' : SqL K H l (D.wr.map V.str) := SqL.of hl
  refine ⟨_, (pss_cons (ps_set (i := 2) sc__law_due.nd rfl (Or.inl rfl) (pe_callB call_lenQ (by rfl) T.n_len PySem.boot_len (pa_cons (pv 0) pa_nil)))
  (pss_cons (ps_set (i := 3) sc__law_due.nd rfl (Or.inl rfl) (pe_lst (pa_cons (pe_tup (pa_cons pe_int (pa_cons pe_int (pa_cons pe_str (pa_cons pe_str pa_nil))))) pa_nil)))
  (pss_cons (ps_for PassesOwn.never rfl (pi_range2 (by rfl) T.n_range (pa_cons pe_int (pa_cons (pe_op op_add (pv 2) pe_int) pa_nil))) (pg_name (i := 4) sc__law_due.nd rfl (Or.inl rfl))
    (pss_cons (ps_set (i := 5) sc__law_due.nd rfl (Or.inl rfl) (pe_join pe_str (pe_slice sl_list (pv 0) (po_some (pe_callB (call_max2 rfl) (by rfl) T.n_max (by decide +kernel) (pa_cons pe_int (pa_cons (pe_op op_sub (pv 4) (pv 1)) pa_nil)))) (po_some (pv 4)))))
  (pss_cons (ps_set (i := 6) sc__law_due.nd rfl (Or.inl rfl) (pv 4))
  (pss_cons (ps_set (i := 7) sc__law_due.nd rfl (Or.inl rfl) (pe_op op_add (pv 2) (pv 4)))
  (pss_cons (ps_set (i := 3) sc__law_due.nd rfl (Or.inl rfl) (pe_op op_cat (pv 3) (pe_lst (pa_cons (pe_tup (pa_cons (pv 6) (pa_cons (pv 6) (pa_cons pe_str (pa_cons pe_str pa_nil))))) (pa_cons (pe_tup (pa_cons (pv 7) (pa_cons (pv 7) (pa_cons pe_str (pa_cons pe_str pa_nil))))) (pa_cons (pe_tup (pa_cons (pv 6) (pa_cons (pv 7) (pa_cons (pv 5) (pa_cons pe_str pa_nil))))) (pa_cons (pe_tup (pa_cons (pv 7) (pa_cons (pv 6) (pa_cons pe_str (pa_cons (pv 5) pa_nil))))) pa_nil)))))))
  (pss_one (ps_if (pt_cmpR op_eq (pv 4) (pv 2) (nomark _))
    (pss_one (ps_for PassesOwn.never rfl (pi_range2 (by rfl) T.n_range (pa_cons pe_int (pa_cons (pe_op op_add (pv 1) pe_int) pa_nil))) (pg_name (i := 8) sc__law_due.nd rfl (Or.inl rfl))
    (pss_cons (ps_set (i := 5) sc__law_due.nd rfl (Or.inl rfl) (pe_join pe_str (pe_slice sl_list (pv 0) (po_some (pe_op op_add (pe_op op_sub (pv 2) (pv 1)) (pv 8))) po_none)))
  (pss_cons (ps_set (i := 9) sc__law_due.nd rfl (Or.inl rfl) (pe_op op_add (pe_op op_mul pe_int (pv 2)) (pv 8)))
  (pss_one (ps_set (i := 3) sc__law_due.nd rfl (Or.inl rfl) (pe_op op_cat (pv 3) (pe_lst (pa_cons (pe_tup (pa_cons (pv 6) (pa_cons (pv 9) (pa_cons (pv 5) (pa_cons pe_str pa_nil))))) (pa_cons (pe_tup (pa_cons (pv 9) (pa_cons (pv 6) (pa_cons pe_str (pa_cons (pv 5) pa_nil))))) pa_nil))))))))))
    pss_nil)))))))
  (pss_cons (ps_for PassesOwn.never rfl (pi_range1 (by rfl) T.n_range (pa_cons (pe_op op_add (pv 1) pe_int) pa_nil)) (pg_name (i := 10) sc__law_due.nd rfl (Or.inl rfl))
    (pss_one (ps_for PassesOwn.never rfl (pi_range1 (by rfl) T.n_range (pa_cons (pe_op op_add (pv 1) pe_int) pa_nil)) (pg_name (i := 8) sc__law_due.nd rfl (Or.inl rfl))
    (pss_cons (ps_set (i := 11) sc__law_due.nd rfl (Or.inl rfl) (pe_callB (call_min2 rfl) (by rfl) T.n_min (by decide +kernel) (pa_cons (pv 10) (pa_cons (pv 8) pa_nil))))
  (pss_cons (ps_set (i := 5) sc__law_due.nd rfl (Or.inl rfl) (pe_join pe_str (pe_slice sl_list (pv 0) (po_some (pe_op op_add (pe_op op_sub (pv 2) (pv 1)) (pv 11))) (po_some (pe_op op_add (pe_op op_sub (pv 2) (pv 1)) (pe_callB (call_max2 rfl) (by rfl) T.n_max (by decide +kernel) (pa_cons (pv 10) (pa_cons (pv 8) pa_nil))))))))
  (pss_one (ps_if (pt_cmpR op_gt (pe_op op_add (pv 10) (pv 8)) pe_int (nomark _))
    (pss_cons (ps_set (i := 12) sc__law_due.nd rfl (Or.inl rfl) (pe_ix ix_list (pe_lst (pa_cons (pe_tup (pa_cons pe_str (pa_cons (pv 5) pa_nil))) (pa_cons (pe_tup (pa_cons (pv 5) (pa_cons pe_str pa_nil))) pa_nil))) (pe_callTy call_int1 (by rfl) T.n_int (by decide +kernel) (pa_cons (pe_cmpR op_gt (pv 10) (pv 8) (nomark _)) pa_nil)) (fun _ _ => rfl)))
  (pss_one (ps_expr (pe_bm PySem.F.plainAttrs_list PySem.F.slot_list_append PySem.F.type_list_append mt_append (pv 3) (pa_cons (pe_op op_catT (pe_tup (pa_cons (pe_op op_add (pe_op op_mul pe_int (pv 2)) (pv 10)) (pa_cons (pe_op op_add (pe_op op_mul pe_int (pv 2)) (pv 8)) pa_nil))) (pv 12)) pa_nil)))))
    pss_nil)))))))
  (pss_one (ps_ret (pv 3))))))), ?_⟩
  refine r_start (σ' := [some (.ref l), some (.int (D.late : Int)), none, none, none, none, none, none, none, none, none, none, none]) rfl ?_
  walk_at "rd"
  refine r_new (Nat.le_of_ble_eq_true rfl) fun t0 ht0 => ?_
  have s1 : Same H (upd H t0 (.tup [.int 0, .int 0, .str (Str.ofString ""), .str (Str.ofString "")])) := same_up ht0
  have d0 : Dp K (upd H t0 (.tup [.int 0, .int 0, .str (Str.ofString ""), .str (Str.ofString "")])) (.ref t0) (jsD (D.E (false, 0, false, 0))) := by
    rw [E1]
    exact js_dp (SqT.of upd_same)
  generalize upd H t0 (.tup [.int 0, .int 0, .str (Str.ofString ""), .str (Str.ofString "")]) = H1 at s1 d0 ⊢
  walk_at "rd"
  refine r_new (Nat.le_of_ble_eq_true rfl) fun p0 hp0 => ?_
  have s2 : Same H1 (upd H1 p0 (.lst [.ref t0])) := same_up hp0
  have r0 : RowsAt K (upd H1 p0 (.lst [.ref t0])) p0 [D.E (false, 0, false, 0)] := ⟨_, upd_same, .cons (dp_same s2 d0) .nil⟩
  have s02 := s1.trans s2
  generalize upd H1 p0 (.lst [.ref t0]) = H2 at s2 r0 s02 ⊢
  walk_at "rd"
  rw [List.length_map, lw]
  have ikl : ∀ k, (D.Ik k).length ≤ 22 := fun k => by
    unfold Two.Ik
    have e : ∀ m, ((List.range' 1 m).flatMap (fun j => [((false, D.n, true, D.n + j) : Ix), (true, D.n + j, false, D.n)])).length = 2 * m := fun m => by
      rw [List.length_flatMap]
      simp [List.map_const', List.sum_replicate_nat]
      omega
    rw [List.length_append]
    split
    · rw [e]
      simp only [List.length_cons, List.length_nil]
      omega
    · simp only [List.length_cons, List.length_nil]
      omega
  refine r_forR1 (n := D.n) (fun i σ H' => ∃ (p : Addr) (y4 y5 y6 y7 y8 y9 : Option V), σ = [some (.ref l), some (.int (D.late : Int)), some (.int (D.n : Int)), some (.ref p), y4, y5, y6, y7, y8, y9, none, none, none] ∧ Same H H' ∧ RowsAt K H' p ((([(false, 0, false, 0)] : List Ix) ++ (List.range' 1 i).flatMap D.Ik).map D.E) ∧ H p = none ∧ ((List.range' 1 i).flatMap D.Ik).length ≤ i * 22)
    (fun R h => by walk_at "rd"; exact h) (by omega) ⟨_, _, _, _, _, _, _, rfl, s02, r0, s1.free hp0, Nat.le_refl _⟩ (fun i σ H' hi p => ?_) (fun σ H' p => ?_)
  · obtain ⟨p, y4, y5, y6, y7, y8, y9, rfl, sH, rw0, pn0, ln0⟩ := p
    have hlH := same_sqL sH hl'
    walk_at "rd"
    have k1 : 1 ≤ i + 1 := by omega
    generalize hk : i + 1 = k at k1 ⊢
    have kn : k ≤ D.n := by omega
    refine ⟨_, _, rfl, ?_⟩
    have em : (if ((k : Int) - (D.late : Int)) > 0 then ((k : Int) - (D.late : Int)) else 0) = ((k - D.late : Nat) : Int) := by split <;> omega
    rw [em]
    walk_at "rd"
    intro c1 hc1
    rw [cutV_mid, ← List.map_drop, ← List.map_take]
    have s5 : Same H' (upd H' c1 (.lst (((D.wr.drop (k - D.late)).take (k - (k - D.late))).map V.str))) := same_up hc1
    have h5 : SqL K (upd H' c1 (.lst (((D.wr.drop (k - D.late)).take (k - (k - D.late))).map V.str))) c1 (((D.wr.drop (k - D.late)).take (k - (k - D.late))).map V.str) := SqL.of upd_same
    have rw5 := rw0.same s5
    have sH5 := sH.trans s5
    generalize upd H' c1 (.lst (((D.wr.drop (k - D.late)).take (k - (k - D.late))).map V.str)) = H5 at s5 h5 rw5 sH5 ⊢
    refine r_join h5 (sum_one (fun x hx => ok.w1 x ((List.drop_sublist _ _).subset ((List.take_sublist _ _).subset hx))) _ (by rw [List.length_take, List.length_drop]; omega)) ?_
    rw [join_mo]
    walk_at "rd"
    have z2 : (D.n : Int) + (k : Int) = ((D.n + k : Nat) : Int) := by omega
    rw [z2]
    refine r_new (Nat.le_of_ble_eq_true rfl) fun t1 ht1 => ?_
    have q1 : Same H5 (upd H5 t1 (.tup [.int k, .int k, .str (Str.ofString ""), .str (Str.ofString "")])) := same_up ht1
    have e1 : Dp K (upd H5 t1 (.tup [.int k, .int k, .str (Str.ofString ""), .str (Str.ofString "")])) (.ref t1) (jsD (D.E (false, k, false, k))) := by
      rw [E1]
      exact js_dp (SqT.of upd_same)
    generalize upd H5 t1 (.tup [.int k, .int k, .str (Str.ofString ""), .str (Str.ofString "")]) = H6 at q1 e1 ⊢
    walk_at "rd"
    refine r_new (Nat.le_of_ble_eq_true rfl) fun t2 ht2 => ?_
    have q2 : Same H6 (upd H6 t2 (.tup [.int ((D.n + k : Nat) : Int), .int ((D.n + k : Nat) : Int), .str (Str.ofString ""), .str (Str.ofString "")])) := same_up ht2
    have e2 : Dp K (upd H6 t2 (.tup [.int ((D.n + k : Nat) : Int), .int ((D.n + k : Nat) : Int), .str (Str.ofString ""), .str (Str.ofString "")])) (.ref t2) (jsD (D.E (true, k, true, k))) := by
      rw [E2 D k1]
      exact js_dp (SqT.of upd_same)
    generalize upd H6 t2 (.tup [.int ((D.n + k : Nat) : Int), .int ((D.n + k : Nat) : Int), .str (Str.ofString ""), .str (Str.ofString "")]) = H7 at q2 e2 ⊢
    walk_at "rd"
    refine r_new (Nat.le_of_ble_eq_true rfl) fun t3 ht3 => ?_
    have q3 : Same H7 (upd H7 t3 (.tup [.int k, .int ((D.n + k : Nat) : Int), .str (D.mo (k - D.late) k), .str (Str.ofString "")])) := same_up ht3
    have e3 : Dp K (upd H7 t3 (.tup [.int k, .int ((D.n + k : Nat) : Int), .str (D.mo (k - D.late) k), .str (Str.ofString "")])) (.ref t3) (jsD (D.E (false, k, true, k))) := by
      rw [E3 D k1]
      exact js_dp (SqT.of upd_same)
    generalize upd H7 t3 (.tup [.int k, .int ((D.n + k : Nat) : Int), .str (D.mo (k - D.late) k), .str (Str.ofString "")]) = H8 at q3 e3 ⊢
    walk_at "rd"
    refine r_new (Nat.le_of_ble_eq_true rfl) fun t4 ht4 => ?_
    have q4 : Same H8 (upd H8 t4 (.tup [.int ((D.n + k : Nat) : Int), .int k, .str (Str.ofString ""), .str (D.mo (k - D.late) k)])) := same_up ht4
    have e4 : Dp K (upd H8 t4 (.tup [.int ((D.n + k : Nat) : Int), .int k, .str (Str.ofString ""), .str (D.mo (k - D.late) k)])) (.ref t4) (jsD (D.E (true, k, false, k))) := by
      rw [E4 D k1]
      exact js_dp (SqT.of upd_same)
    generalize upd H8 t4 (.tup [.int ((D.n + k : Nat) : Int), .int k, .str (Str.ofString ""), .str (D.mo (k - D.late) k)]) = H9 at q4 e4 ⊢
    walk_at "rd"
    refine r_new (Nat.le_of_ble_eq_true rfl) fun p5 hp5 => ?_
    have q5 : Same H9 (upd H9 p5 (.lst [.ref t1, .ref t2, .ref t3, .ref t4])) := same_up hp5
    have r5 : RowsAt K (upd H9 p5 (.lst [.ref t1, .ref t2, .ref t3, .ref t4])) p5 [D.E (false, k, false, k), D.E (true, k, true, k), D.E (false, k, true, k), D.E (true, k, false, k)] :=
      four_rows (dp_same (q2.trans (q3.trans (q4.trans q5))) e1) (dp_same (q3.trans (q4.trans q5)) e2) (dp_same (q4.trans q5) e3) (dp_same q5 e4) upd_same
    have q15 := q1.trans (q2.trans (q3.trans (q4.trans q5)))
    generalize upd H9 p5 (.lst [.ref t1, .ref t2, .ref t3, .ref t4]) = H10 at q5 r5 q15 ⊢
    have sH10 := sH5.trans q15
    refine (rw5.same q15).cat r5 (by simp only [List.length_map, List.length_append, List.length_cons, List.length_nil]; omega) (fun H11 pr s11 pf11 rw11 => ?_)
    have pn11 : H pr = none := sH10.free pf11
    have sH11 := sH10.trans s11
    walk_at "rd"
    have tk : (List.range' 1 (i + 1)).flatMap D.Ik = (List.range' 1 i).flatMap D.Ik ++ D.Ik (i + 1) := by
      rw [List.range'_concat, List.flatMap_append]
      simp [Nat.add_comm]
    refine r_both (fun hkn => ?_) (fun hkn => ?_)
    · have hkD : k = D.n := by
        injection hkn with hkn
        omega
      subst hkD
      walk_at "rd"
      refine r_forR1 (n := D.late) (fun m σ H12 => ∃ (p : Addr) (y5 y8 y9 : Option V), σ = [some (.ref l), some (.int (D.late : Int)), some (.int (D.n : Int)), some (.ref p), some (.int (D.n : Int)), y5, some (.int (D.n : Int)), some (.int ((D.n + D.n : Nat) : Int)), y8, y9, none, none, none] ∧ Same H H12 ∧
        RowsAt K H12 p ((([(false, 0, false, 0)] : List Ix) ++ (List.range' 1 i).flatMap D.Ik ++ [(false, D.n, false, D.n), (true, D.n, true, D.n), (false, D.n, true, D.n), (true, D.n, false, D.n)] ++ (List.range' 1 m).flatMap (fun j => [(false, D.n, true, D.n + j), (true, D.n + j, false, D.n)])).map D.E) ∧ H p = none ∧ ((List.range' 1 m).flatMap (fun j => [((false, D.n, true, D.n + j) : Ix), (true, D.n + j, false, D.n)])).length ≤ m * 2)
        (fun R h => by walk_at "rd"; exact h) (by omega) ⟨pr, _, _, _, rfl, sH11, by rw [show (List.range' 1 0).flatMap (fun j => [((false, D.n, true, D.n + j) : Ix), (true, D.n + j, false, D.n)]) = [] from rfl, List.append_nil, List.map_append]; exact rw11, pn11, Nat.zero_le _⟩ (fun m σ H12 hm p => ?_) (fun σ H12 p => ?_)
      · obtain ⟨p, y5, y8, y9, rfl, sH12, rw12, pn12, ln12⟩ := p
        have hlH := same_sqL sH12 hl'
        walk_at "rd"
        have j1 : 1 ≤ m + 1 := by omega
        generalize hj : m + 1 = j at j1 ⊢
        have jl : j ≤ D.late := by omega
        have z3 : ((D.n : Int) - (D.late : Int) + (j : Int)) = ((D.n + j - D.late : Nat) : Int) := by omega
        rw [z3]
        walk_at "rd"
        intro c1 hc1
        rw [cutV_tail, ← List.map_drop]
        have ed : D.wr.drop (D.n + j - D.late) = (D.wr.drop (D.n + j - D.late)).take (D.n - (D.n + j - D.late)) := (List.take_of_length_le (by rw [List.length_drop]; omega)).symm
        rw [ed]
        have s13 : Same H12 (upd H12 c1 (.lst (((D.wr.drop (D.n + j - D.late)).take (D.n - (D.n + j - D.late))).map V.str))) := same_up hc1
        have h13 : SqL K (upd H12 c1 (.lst (((D.wr.drop (D.n + j - D.late)).take (D.n - (D.n + j - D.late))).map V.str))) c1 (((D.wr.drop (D.n + j - D.late)).take (D.n - (D.n + j - D.late))).map V.str) := SqL.of upd_same
        generalize upd H12 c1 (.lst (((D.wr.drop (D.n + j - D.late)).take (D.n - (D.n + j - D.late))).map V.str)) = H13 at s13 h13 ⊢
        refine r_join h13 (sum_one (fun x hx => ok.w1 x ((List.drop_sublist _ _).subset ((List.take_sublist _ _).subset hx))) _ (by rw [List.length_take, List.length_drop]; omega)) ?_
        rw [join_mo]
        walk_at "rd"
        have z4 : (2 * (D.n : Int) + (j : Int)) = ((D.n + (D.n + j) : Nat) : Int) := by omega
        rw [z4]
        refine r_new (Nat.le_of_ble_eq_true rfl) fun u1 hu1 => ?_
        have q1' : Same H13 (upd H13 u1 (.tup [.int (D.n : Int), .int ((D.n + (D.n + j) : Nat) : Int), .str (D.mo (D.n + j - D.late) D.n), .str (Str.ofString "")])) := same_up hu1
        have e1' : Dp K (upd H13 u1 (.tup [.int (D.n : Int), .int ((D.n + (D.n + j) : Nat) : Int), .str (D.mo (D.n + j - D.late) D.n), .str (Str.ofString "")])) (.ref u1) (jsD (D.E (false, D.n, true, D.n + j))) := by
          rw [E5 D j1 jl]
          exact js_dp (SqT.of upd_same)
        generalize upd H13 u1 (.tup [.int (D.n : Int), .int ((D.n + (D.n + j) : Nat) : Int), .str (D.mo (D.n + j - D.late) D.n), .str (Str.ofString "")]) = H14 at q1' e1' ⊢
        walk_at "rd"
        refine r_new (Nat.le_of_ble_eq_true rfl) fun u2 hu2 => ?_
        have q2' : Same H14 (upd H14 u2 (.tup [.int ((D.n + (D.n + j) : Nat) : Int), .int (D.n : Int), .str (Str.ofString ""), .str (D.mo (D.n + j - D.late) D.n)])) := same_up hu2
        have e2' : Dp K (upd H14 u2 (.tup [.int ((D.n + (D.n + j) : Nat) : Int), .int (D.n : Int), .str (Str.ofString ""), .str (D.mo (D.n + j - D.late) D.n)])) (.ref u2) (jsD (D.E (true, D.n + j, false, D.n))) := by
          rw [E6 D j1 jl]
          exact js_dp (SqT.of upd_same)
        generalize upd H14 u2 (.tup [.int ((D.n + (D.n + j) : Nat) : Int), .int (D.n : Int), .str (Str.ofString ""), .str (D.mo (D.n + j - D.late) D.n)]) = H15 at q2' e2' ⊢
        walk_at "rd"
        refine r_new (Nat.le_of_ble_eq_true rfl) fun u3 hu3 => ?_
        have q3' : Same H15 (upd H15 u3 (.lst [.ref u1, .ref u2])) := same_up hu3
        have r3' : RowsAt K (upd H15 u3 (.lst [.ref u1, .ref u2])) u3 [D.E (false, D.n, true, D.n + j), D.E (true, D.n + j, false, D.n)] := ⟨_, upd_same, .cons (dp_same (q2'.trans q3') e1') (.cons (dp_same q3' e2') .nil)⟩
        have q13' := s13.trans (q1'.trans (q2'.trans q3'))
        generalize upd H15 u3 (.lst [.ref u1, .ref u2]) = H16 at q3' r3' q13' ⊢
        refine (rw12.same q13').cat r3' (by simp only [List.length_map, List.length_append, List.length_cons, List.length_nil]; omega) (fun H17 p7 s17 pf17 rw17 => ?_)
        have pn17 : H p7 = none := (sH12.trans q13').free pf17
        walk_at "rd"
        have tk2 : (List.range' 1 (m + 1)).flatMap (fun j => [((false, D.n, true, D.n + j) : Ix), (true, D.n + j, false, D.n)]) = (List.range' 1 m).flatMap (fun j => [((false, D.n, true, D.n + j) : Ix), (true, D.n + j, false, D.n)]) ++ [(false, D.n, true, D.n + j), (true, D.n + j, false, D.n)] := by
          rw [List.range'_concat, List.flatMap_append, ← hj]
          simp [Nat.add_comm]
        rw [hj] at tk2
        refine ⟨p7, _, _, _, rfl, sH12.trans (q13'.trans s17), ?_, pn17, ?_⟩
        · rw [tk2, ← List.append_assoc, List.map_append]
          exact rw17
        · rw [tk2, List.length_append]
          simp only [List.length_cons, List.length_nil]
          omega
      · obtain ⟨p, y5, y8, y9, rfl, sH12, rw12, pn12, ln12⟩ := p
        refine ⟨p, _, _, _, _, _, _, rfl, sH12, ?_, pn12, ?_⟩
        · rw [hk] at tk
          rw [tk]
          unfold Two.Ik at rw12 ⊢
          rw [if_pos rfl, ← List.append_assoc, ← List.append_assoc]
          exact rw12
        · have := ikl D.n
          rw [hk] at tk
          rw [tk, List.length_append]
          omega
    · have hkD : ¬ k = D.n := fun z => hkn (by rw [z])
      refine ⟨pr, _, _, _, _, _, _, rfl, sH11, ?_, pn11, ?_⟩
      · rw [hk] at tk
        rw [tk]
        unfold Two.Ik at rw11 ⊢
        rw [if_neg hkD, List.append_nil, ← List.append_assoc, List.map_append]
        exact rw11
      · have := ikl k
        rw [hk] at tk
        rw [tk, List.length_append]
        omega
  · obtain ⟨p, y4, y5, y6, y7, y8, y9, rfl, sH, rw0, pn0, ln0⟩ := p
    walk_at "rd"
    obtain ⟨vs0, v01, v02⟩ := rw0
    have G0 : Gro K H p (((([(false, 0, false, 0)] : List Ix) ++ (List.range' 1 D.n).flatMap D.Ik).map D.E).map jsD) H' := ⟨sH, pn0, ⟨vs0, v01, v02⟩, hards_js _⟩
    have l0 : ((([(false, 0, false, 0)] : List Ix) ++ (List.range' 1 D.n).flatMap D.Ik)).length ≤ 881 := by
      rw [List.length_append]
      simp only [List.length_cons, List.length_nil]
      omega
    have eIa : D.Ia = (([(false, 0, false, 0)] : List Ix) ++ (List.range' 1 D.n).flatMap D.Ik) ++ D.I2 := rfl
    generalize (([(false, 0, false, 0)] : List Ix) ++ (List.range' 1 D.n).flatMap D.Ik) = L1 at G0 l0 eIa
    refine r_forR (n := (D.late : Int) + 1) (fun a σ H2' => ∃ (y4 y5 y6 y7 y8 y9 y10 y11 y12 : Option V), σ = [some (.ref l), some (.int (D.late : Int)), some (.int (D.n : Int)), some (.ref p), y4, y5, y6, y7, y8, y9, y10, y11, y12] ∧
      Gro K H p (((L1 ++ (List.range a).flatMap fun i => (List.range (D.late + 1)).flatMap fun j => if 0 < i + j then [((true, D.n + i, true, D.n + j) : Ix)] else []).map D.E).map jsD) H2' ∧ ((List.range a).flatMap fun i => (List.range (D.late + 1)).flatMap fun j => if 0 < i + j then [((true, D.n + i, true, D.n + j) : Ix)] else []).length ≤ a * 10)
      (fun R h => by walk_at "rd"; exact h) (by omega) (by omega) ⟨_, _, _, _, _, _, _, _, _, rfl, by rw [show (List.range 0).flatMap (fun i => (List.range (D.late + 1)).flatMap fun j => if 0 < i + j then [((true, D.n + i, true, D.n + j) : Ix)] else []) = [] from rfl, List.append_nil]; exact G0, Nat.zero_le _⟩ (fun a σ H2' ha p => ?_) (fun σ H2' p => ?_)
    · obtain ⟨y4, y5, y6, y7, y8, y9, y10, y11, y12, rfl, g, lg⟩ := p
      walk_at "rd"
      generalize hL2 : (L1 ++ (List.range a).flatMap fun i => (List.range (D.late + 1)).flatMap fun j => if 0 < i + j then [((true, D.n + i, true, D.n + j) : Ix)] else []) = L2 at g
      have l2' : L2.length ≤ 881 + a * 10 := by rw [← hL2, List.length_append]; omega
      refine r_forR (n := (D.late : Int) + 1) (fun b σ H3' => ∃ (y4 y5 y6 y7 y8 y9 y11 y12 : Option V), σ = [some (.ref l), some (.int (D.late : Int)), some (.int (D.n : Int)), some (.ref p), y4, y5, y6, y7, y8, y9, some (.int (a : Int)), y11, y12] ∧
        Gro K H p (((L2 ++ (List.range b).flatMap fun j => if 0 < a + j then [((true, D.n + a, true, D.n + j) : Ix)] else []).map D.E).map jsD) H3' ∧ ((List.range b).flatMap fun j => if 0 < a + j then [((true, D.n + a, true, D.n + j) : Ix)] else []).length ≤ b)
        (fun R h => by walk_at "rd"; exact h) (by omega) (by omega) ⟨_, _, _, _, _, _, _, _, rfl, by rw [show (List.range 0).flatMap (fun j => if 0 < a + j then [((true, D.n + a, true, D.n + j) : Ix)] else []) = [] from rfl, List.append_nil]; exact g, Nat.zero_le _⟩ (fun b σ H3' hb p => ?_) (fun σ H3' p => ?_)
      · obtain ⟨y4, y5, y6, y7, y8, y9, y11, y12, rfl, g3, lg3⟩ := p
        have hlH := same_sqL g3.s hl'
        have aL : a ≤ D.late := by omega
        have bL : b ≤ D.late := by omega
        have tk3 : (List.range (b + 1)).flatMap (fun j => if 0 < a + j then [((true, D.n + a, true, D.n + j) : Ix)] else []) = (List.range b).flatMap (fun j => if 0 < a + j then [((true, D.n + a, true, D.n + j) : Ix)] else []) ++ if 0 < a + b then [((true, D.n + a, true, D.n + b) : Ix)] else [] := by
          exact fm_range _ b
        walk_at "rd"
        refine ⟨_, _, rfl, ?_⟩
        have em1 : (if (b : Int) < (a : Int) then (b : Int) else (a : Int)) = ((min a b : Nat) : Int) := by split <;> omega
        rw [em1]
        walk_at "rd"
        refine ⟨_, _, rfl, ?_⟩
        have em2 : (if (b : Int) > (a : Int) then (b : Int) else (a : Int)) = ((max a b : Nat) : Int) := by split <;> omega
        rw [em2]
        walk_at "rd"
        have z5 : ((D.n : Int) - (D.late : Int) + ((min a b : Nat) : Int)) = ((D.n + min a b - D.late : Nat) : Int) := by omega
        have z6 : ((D.n : Int) - (D.late : Int) + ((max a b : Nat) : Int)) = ((D.n + max a b - D.late : Nat) : Int) := by omega
        rw [z5, z6]
        intro c1 hc1
        rw [cutV_mid, ← List.map_drop, ← List.map_take]
        generalize hlo : D.n + min a b - D.late = lo
        generalize hhi : D.n + max a b - D.late = hi
        have s13 : Same H3' (upd H3' c1 (.lst (((D.wr.drop lo).take (hi - lo)).map V.str))) := same_up hc1
        have h13 : SqL K (upd H3' c1 (.lst (((D.wr.drop lo).take (hi - lo)).map V.str))) c1 (((D.wr.drop lo).take (hi - lo)).map V.str) := SqL.of upd_same
        have g13 := g3.same s13
        generalize upd H3' c1 (.lst (((D.wr.drop lo).take (hi - lo)).map V.str)) = H13 at s13 h13 g13 ⊢
        refine r_join h13 (sum_one (fun x hx => ok.w1 x ((List.drop_sublist _ _).subset ((List.take_sublist _ _).subset hx))) _ (by rw [List.length_take, List.length_drop]; omega)) ?_
        rw [join_mo]
        walk_at "rd"
        refine r_both (fun hpos => ?_) (fun hneg => ?_)
        · have hpos' : 0 < a + b := by omega
          rw [if_pos hpos'] at tk3
          walk_at "rd"
          refine r_new (Nat.le_of_ble_eq_true rfl) fun t1 ht1 => ?_
          have q1 : Same H13 (upd H13 t1 (.tup [.str (Str.ofString ""), .str (D.mo lo hi)])) := same_up ht1
          have e1 : SqT K (upd H13 t1 (.tup [.str (Str.ofString ""), .str (D.mo lo hi)])) t1 [.str emS, .str (D.mo lo hi)] := SqT.of upd_same
          generalize upd H13 t1 (.tup [.str (Str.ofString ""), .str (D.mo lo hi)]) = H14 at q1 e1 ⊢
          walk_at "rd"
          refine r_new (Nat.le_of_ble_eq_true rfl) fun t2 ht2 => ?_
          have q2 : Same H14 (upd H14 t2 (.tup [.str (D.mo lo hi), .str (Str.ofString "")])) := same_up ht2
          have e2 : SqT K (upd H14 t2 (.tup [.str (D.mo lo hi), .str (Str.ofString "")])) t2 [.str (D.mo lo hi), .str emS] := SqT.of upd_same
          generalize upd H14 t2 (.tup [.str (D.mo lo hi), .str (Str.ofString "")]) = H15 at q2 e2 ⊢
          walk_at "rd"
          refine r_new (Nat.le_of_ble_eq_true rfl) fun t3 ht3 => ?_
          have q3 : Same H15 (upd H15 t3 (.lst [.ref t1, .ref t2])) := same_up ht3
          have e3 : SqL K (upd H15 t3 (.lst [.ref t1, .ref t2])) t3 [.ref t1, .ref t2] := SqL.of upd_same
          have e1' := same_sqT (q2.trans q3) e1
          have e2' := same_sqT q3 e2
          have g16 := g13.same (q1.trans (q2.trans q3))
          generalize upd H15 t3 (.lst [.ref t1, .ref t2]) = H16 at q3 e3 e1' e2' g16 ⊢
          walk_at "rd"
          dsimp only
          by_cases hab : (b : Int) < (a : Int)
          · have c1 : (if decide ((b : Int) < (a : Int)) = true then (1 : Int) else 0) = 1 := if_pos (decide_eq_true hab)
            rw [c1]
            refine r_ixL (v := .ref t2) e3 rfl ?_
            obtain ⟨vp, hvp, _⟩ := id g16.h
            walk_at "rd"
            refine r_tyL (SqL.of hvp) ?_
            walk_at "rd"
            refine r_new (Nat.le_of_ble_eq_true rfl) fun t4 ht4 => ?_
            have q4 : Same H16 (upd H16 t4 (.tup [.int (2 * (D.n : Int) + (a : Int)), .int (2 * (D.n : Int) + (b : Int))])) := same_up ht4
            have e4 : SqT K (upd H16 t4 (.tup [.int (2 * (D.n : Int) + (a : Int)), .int (2 * (D.n : Int) + (b : Int))])) t4 [.int (2 * (D.n : Int) + (a : Int)), .int (2 * (D.n : Int) + (b : Int))] := SqT.of upd_same
            have e5 := same_sqT q4 e2'
            have g17 := g16.same q4
            generalize upd H16 t4 (.tup [.int (2 * (D.n : Int) + (a : Int)), .int (2 * (D.n : Int) + (b : Int))]) = H17 at q4 e4 e5 g17 ⊢
            walk_at "rd"
            refine ⟨t4, _, _, _, rfl, rfl, e4, e5, (by simp), (by show 4 ≤ sizeLine; decide), (fun z => by cases z), fun _ t5 ht5 => ?_⟩
            walk_at "rd"
            have q5 : Same H17 (upd H17 t5 (.tup ([.int (2 * (D.n : Int) + (a : Int)), .int (2 * (D.n : Int) + (b : Int))] ++ [.str (D.mo lo hi), .str emS]))) := same_up ht5
            have eE : D.E (true, D.n + a, true, D.n + b) = ⟨2 * (D.n : Int) + (a : Int), 2 * (D.n : Int) + (b : Int), (D.mo lo hi), emS⟩ := by
              rw [E7 D n1]
              have z1 : ((D.n + (D.n + a) : Nat) : Int) = 2 * (D.n : Int) + (a : Int) := by omega
              have z2 : ((D.n + (D.n + b) : Nat) : Int) = 2 * (D.n : Int) + (b : Int) := by omega
              rw [z1, z2, show D.n + b - D.late = lo by rw [← hlo]; omega, show D.n + a - D.late = hi by rw [← hhi]; omega, mo_self D (show lo ≤ hi by omega)]
            refine (g17.same q5).app (d := jsD (D.E (true, D.n + a, true, D.n + b))) (by rw [eE]; exact js_dp (SqT.of upd_same)) (hard_js _) (by simp only [List.length_map, List.length_append]; omega) (fun H18 g18 _ _ => ?_)
            refine ⟨_, _, _, _, _, _, _, _, rfl, ?_, ?_⟩
            · rw [tk3, ← List.append_assoc, List.map_append, List.map_append]
              exact g18
            · rw [tk3, List.length_append]
              simp only [List.length_cons, List.length_nil]
              omega
          · have c1 : (if decide ((b : Int) < (a : Int)) = true then (1 : Int) else 0) = 0 := if_neg (fun z => hab (of_decide_eq_true z))
            rw [c1]
            refine r_ixL (v := .ref t1) e3 rfl ?_
            obtain ⟨vp, hvp, _⟩ := id g16.h
            walk_at "rd"
            refine r_tyL (SqL.of hvp) ?_
            walk_at "rd"
            refine r_new (Nat.le_of_ble_eq_true rfl) fun t4 ht4 => ?_
            have q4 : Same H16 (upd H16 t4 (.tup [.int (2 * (D.n : Int) + (a : Int)), .int (2 * (D.n : Int) + (b : Int))])) := same_up ht4
            have e4 : SqT K (upd H16 t4 (.tup [.int (2 * (D.n : Int) + (a : Int)), .int (2 * (D.n : Int) + (b : Int))])) t4 [.int (2 * (D.n : Int) + (a : Int)), .int (2 * (D.n : Int) + (b : Int))] := SqT.of upd_same
            have e5 := same_sqT q4 e1'
            have g17 := g16.same q4
            generalize upd H16 t4 (.tup [.int (2 * (D.n : Int) + (a : Int)), .int (2 * (D.n : Int) + (b : Int))]) = H17 at q4 e4 e5 g17 ⊢
            walk_at "rd"
            refine ⟨t4, _, _, _, rfl, rfl, e4, e5, (by simp), (by show 4 ≤ sizeLine; decide), (fun z => by cases z), fun _ t5 ht5 => ?_⟩
            walk_at "rd"
            have q5 : Same H17 (upd H17 t5 (.tup ([.int (2 * (D.n : Int) + (a : Int)), .int (2 * (D.n : Int) + (b : Int))] ++ [.str emS, .str (D.mo lo hi)]))) := same_up ht5
            have eE : D.E (true, D.n + a, true, D.n + b) = ⟨2 * (D.n : Int) + (a : Int), 2 * (D.n : Int) + (b : Int), emS, (D.mo lo hi)⟩ := by
              rw [E7 D n1]
              have z1 : ((D.n + (D.n + a) : Nat) : Int) = 2 * (D.n : Int) + (a : Int) := by omega
              have z2 : ((D.n + (D.n + b) : Nat) : Int) = 2 * (D.n : Int) + (b : Int) := by omega
              rw [z1, z2, show D.n + b - D.late = hi by rw [← hhi]; omega, show D.n + a - D.late = lo by rw [← hlo]; omega, mo_self D (show lo ≤ hi by omega)]
            refine (g17.same q5).app (d := jsD (D.E (true, D.n + a, true, D.n + b))) (by rw [eE]; exact js_dp (SqT.of upd_same)) (hard_js _) (by simp only [List.length_map, List.length_append]; omega) (fun H18 g18 _ _ => ?_)
            refine ⟨_, _, _, _, _, _, _, _, rfl, ?_, ?_⟩
            · rw [tk3, ← List.append_assoc, List.map_append, List.map_append]
              exact g18
            · rw [tk3, List.length_append]
              simp only [List.length_cons, List.length_nil]
              omega
        · have hneg' : ¬ 0 < a + b := by omega
          rw [if_neg hneg', List.append_nil] at tk3
          refine ⟨_, _, _, _, _, _, _, _, rfl, ?_, ?_⟩
          · rw [tk3]
            exact g13
          · rw [tk3]
            omega
      · obtain ⟨y4, y5, y6, y7, y8, y9, y11, y12, rfl, g3, lg3⟩ := p
        have e1 : ((D.late : Int) + 1).toNat = D.late + 1 := by omega
        rw [e1] at g3 lg3
        have tk4 : (List.range (a + 1)).flatMap (fun i => (List.range (D.late + 1)).flatMap fun j => if 0 < i + j then [((true, D.n + i, true, D.n + j) : Ix)] else []) = (List.range a).flatMap (fun i => (List.range (D.late + 1)).flatMap fun j => if 0 < i + j then [((true, D.n + i, true, D.n + j) : Ix)] else []) ++ (List.range (D.late + 1)).flatMap fun j => if 0 < a + j then [((true, D.n + a, true, D.n + j) : Ix)] else [] := by
          exact fm_range _ a
        refine ⟨_, _, _, _, _, _, _, _, _, rfl, ?_, ?_⟩
        · rw [tk4, ← List.append_assoc, hL2]
          exact g3
        · rw [tk4, List.length_append]
          omega
    · obtain ⟨y4, y5, y6, y7, y8, y9, y10, y11, y12, rfl, g, lg⟩ := p
      have e1 : ((D.late : Int) + 1).toNat = D.late + 1 := by omega
      rw [e1] at g
      obtain ⟨vs, v1, v2⟩ := g.h
      walk_at "rd"
      exact q H2' p vs g.s v1 (by rw [eIa]; exact v2)
end
end Tw


namespace Tw
open PySem L2
section
variable {P : Program} {w : World} {K : PySem.W.Frag} {mg : Str → Option Value} {base : Heap}
theorem un65 {k : Nat} {A : Around} (r : Room k A) : A.units + 65 < cLine := by have := r.un; omega
def tmv (N : Int) (down : Bool) (m : Mv) : Mv := ⟨if down = true then N - 1 - m.s else m.s, m.r, m.w, if down = true then N - 1 - m.g else m.g⟩
theorem moves_is (n late : Nat) (txt wr ot : List Str) (down : Bool) : (((List.range n).map (rdMv txt (List.replicate 0 emS ++ wr) 0)) ++ ((List.range (late + n)).map (rdMv txt (List.replicate late emS ++ ot) (n : Int)))).map (tmv (1 + 2 * (n : Int) + (late : Int)) down) = (Two.mk n late txt wr ot down).M.moves := by
  rw [List.map_append, List.map_map, List.map_map, Nat.add_comm late n]
  have eN : (((Two.mk n late txt wr ot down).N : Nat) : Int) = 1 + 2 * (n : Int) + (late : Int) := by
    show ((1 + 2 * n + late : Nat) : Int) = _
    omega
  have ef : ∀ (x : Int) (s : Nat), x = (s : Int) → (if down = true then 1 + 2 * (n : Int) + (late : Int) - 1 - x else x) = (Two.mk n late txt wr ot down).f s := fun x s e => by
    unfold Two.f
    rw [eN, e]
  show _ = (List.range n).map ((Two.mk n late txt wr ot down).mv false) ++ (List.range (n + late)).map ((Two.mk n late txt wr ot down).mv true)
  congr 1
  · refine List.map_congr_left fun k _ => ?_
    show Mv.mk _ _ _ _ = Mv.mk _ _ _ _
    congr 1
    · exact ef _ k (by show (0 : Int) + k - (if k = 0 then 1 else 0) * 0 = k; omega)
    · exact ef _ (k + 1) (by show (0 : Int) + k + 1 = ((k + 1 : Nat) : Int); omega)
  · refine List.map_congr_left fun k _ => ?_
    show Mv.mk _ _ _ _ = Mv.mk _ _ _ _
    congr 1
    · refine ef _ (if k = 0 then 0 else n + k) ?_
      show (n : Int) + k - (if k = 0 then 1 else 0) * (n : Int) = _
      split <;> simp <;> (try omega)
    all_goals
      refine ef _ (n + (k + 1)) ?_
      show (n : Int) + k + 1 = _
      omega
theorem f_is (n late : Nat) (txt wr ot : List Str) (down : Bool) (x : Int) (s : Nat) (e : x = (s : Int)) : (if down = true then 1 + 2 * (n : Int) + (late : Int) - 1 - x else x) = (Two.mk n late txt wr ot down).f s := by
  have eN : (((Two.mk n late txt wr ot down).N : Nat) : Int) = 1 + 2 * (n : Int) + (late : Int) := by
    show ((1 + 2 * n + late : Nat) : Int) = _
    omega
  unfold Two.f
  rw [eN, e]
def tjs (N : Int) (down : Bool) (e : JS) : JS := ⟨if down = true then N - 1 - e.p else e.p, if down = true then N - 1 - e.q else e.q, e.r, e.w⟩
theorem due_is (n late : Nat) (txt wr ot : List Str) (down : Bool) : ((Two.mk n late txt wr ot down).Ia.map (Two.mk n late txt wr ot down).E).map (tjs (1 + 2 * (n : Int) + (late : Int)) down) = (Two.mk n late txt wr ot down).Ia.map fun x => (Two.mk n late txt wr ot down).dn ((Two.mk n late txt wr ot down).E x) := by
  rw [List.map_map]
  refine List.map_congr_left fun x _ => ?_
  show tjs _ down ((Two.mk n late txt wr ot down).E x) = (Two.mk n late txt wr ot down).dn ((Two.mk n late txt wr ot down).E x)
  unfold tjs Two.dn
  rw [f_is n late txt wr ot down ((Two.mk n late txt wr ot down).E x).p ((Two.mk n late txt wr ot down).E x).p.toNat rfl, f_is n late txt wr ot down ((Two.mk n late txt wr ot down).E x).q ((Two.mk n late txt wr ot down).E x).q.toNat rfl]
theorem fm_len {α β : Type} {g : α → List β} (c : Nat) : ∀ l : List α, (∀ a ∈ l, (g a).length ≤ c) → (l.flatMap g).length ≤ l.length * c
  | [], _ => Nat.zero_le _
  | a :: l, h => by
    have h1 := h a List.mem_cons_self
    have h2 := fm_len c l fun b hb => h b (List.mem_cons_of_mem _ hb)
    rw [List.flatMap_cons, List.length_append, List.length_cons, Nat.succ_mul]
    omega
theorem ia_len {D : Two} (ok : D.Ok) : D.Ia.length ≤ 1000000 := by
  have l9 := ok.l2
  have n2 := ok.n2
  have e1 : ∀ k, (D.Ik k).length ≤ 22 := fun k => by
    unfold Two.Ik
    rw [List.length_append]
    split
    · have := fm_len (g := fun j => [((false, D.n, true, D.n + j) : Ix), (true, D.n + j, false, D.n)]) 2 (List.range' 1 D.late) (fun _ _ => Nat.le_refl _)
      rw [List.length_range'] at this
      simp only [List.length_cons, List.length_nil]
      omega
    · simp only [List.length_cons, List.length_nil]
      omega
  have e2 := fm_len (g := D.Ik) 22 (List.range' 1 D.n) (fun k _ => e1 k)
  have e3 : D.I2.length ≤ 100 := by
    have z := fm_len (g := fun i => (List.range (D.late + 1)).flatMap fun j => if 0 < i + j then [((true, D.n + i, true, D.n + j) : Ix)] else []) 10 (List.range (D.late + 1)) (fun i _ => by
      have := fm_len (g := fun j => if 0 < i + j then [((true, D.n + i, true, D.n + j) : Ix)] else []) 1 (List.range (D.late + 1)) (fun j _ => by split <;> simp)
      rw [List.length_range] at this
      omega)
    rw [List.length_range] at z
    have : (D.late + 1) * 10 ≤ 100 := by omega
    exact Nat.le_trans z this
  rw [List.length_range'] at e2
  unfold Two.Ia
  rw [List.length_append, List.length_append]
  simp only [List.length_cons, List.length_nil]
  omega
-- law
abbrev s_law : Stmt := top 28
abbrev N_law : List Str := ["_law_script", "_law_signs_here", "_law_size", "_law_late", "_law_text_here", "_law_writing", "_law_other", "_law_is_spoilt", "_law_at", "_law_moves", "_law_is_down", "_law_states", "_law_ends", "_law_machine", "_law_found", "_law_roads", "_law_due_here", "_law_a", "_law_b", "_law_c", "_law_d"]
theorem sc_law : FnScope N_law ["_law_script"] (defScope s_law) := ⟨rfl, rfl, rfl, by decide +kernel, rfl, by decide +kernel, by decide +kernel⟩

def spLaw (K : PySem.W.Frag) : Sp := fun vs H Q _ => ∃ (a : Addr) (ns : List Int), vs = [.ref a] ∧ SqL K H a (ns.map V.int) ∧ ns.length ≤ 63 ∧ ∀ H', Q (.bl true) H'
theorem ok_law {f : Addr} {fd : FuncData} {eT : Addr} (F : Fun K "law" "law" s_law f fd) (T : Txt K mg) (c__law_cell : Cal P w K mg base CX0 1 "_law_cell" ["_law_script", "_law_k"] (spCell' K)) (c__law_signs : Cal P w K mg base CX0 1 "_law_signs" ["_law_cell_here"] spSigns)
    (c__law_text : Cal P w K mg base CX0 1 "_law_text" ["_law_cell_here", "_law_size", "_law_signs_here"] (spText K)) (c__law_road : Cal P w K mg base CX0 1 "_law_road" ["_law_text_here", "_law_writing", "_law_late", "_law_base"] (spRoad K)) (c__law_turned : Cal P w K mg base CX0 1 "_law_turned" ["_law_states", "_law_state", "_law_is_down"] spTurnS)
    (c__law_due : Cal P w K mg base CX0 1 "_law_due" ["_law_writing", "_law_late"] (spDue K)) (c__law_is_refused : Cal P w K mg base CX0 11 "_law_is_refused" ["_law_machine"] (spRefused11 K))
    (c_twofold : Cal P w K mg base CX0 10 "twofold" ["machine"] (spTwofold K)) (c_ahead : Cal P w K mg base (L2.CX P w) 10 "ahead" ["machine"] (spAhead K eT)) : FnOk P w K mg base CX0 12 f fd ["_law_script"] (spLaw K) := by
  refine F.ok sc_law (fun vs H Q E h => by obtain ⟨_, _, rfl, _⟩ := h; rfl) (fun cdv A outer s H vs Q E hr h => ?_)
  obtain ⟨a0, ns, rfl, hs, hl63, q⟩ := h
  refine ⟨_, (pss_cons (ps_set (i := 1) sc_law.nd rfl (Or.inl rfl) (pe_callC c__law_signs hr (by decide) (by rfl) (pa_cons (pe_callC c__law_cell hr (by decide) (by rfl) (pa_cons (pv 0) (pa_cons pe_int pa_nil))) pa_nil)))
  (pss_cons (ps_set (i := 2) sc_law.nd rfl (Or.inl rfl) (pe_op op_add pe_int (pe_op op_mod (pe_callC c__law_cell hr (by decide) (by rfl) (pa_cons (pv 0) (pa_cons pe_int pa_nil))) pe_int)))
  (pss_cons (ps_set (i := 3) sc_law.nd rfl (Or.inl rfl) (pe_op op_mod (pe_callC c__law_cell hr (by decide) (by rfl) (pa_cons (pv 0) (pa_cons pe_int pa_nil))) (pe_op op_add (pv 2) pe_int)))
  (Evl.pss_cut (ps_if (pt_cmpR op_gt (pv 3) pe_int (nomark _))
    (pss_one (ps_set (i := 3) sc_law.nd rfl (Or.inl rfl) (pe_op op_add pe_int (pe_op op_mod (pv 3) pe_int))))
    pss_nil)
  (pss_cons (ps_set (i := 4) sc_law.nd rfl (Or.inl rfl) (pe_callC c__law_text hr (by decide) (by rfl) (pa_cons (pe_callC c__law_cell hr (by decide) (by rfl) (pa_cons (pv 0) (pa_cons pe_int pa_nil))) (pa_cons (pv 2) (pa_cons (pv 1) pa_nil)))))
  (pss_cons (ps_set (i := 5) sc_law.nd rfl (Or.inl rfl) (pe_callC c__law_text hr (by decide) (by rfl) (pa_cons (pe_callC c__law_cell hr (by decide) (by rfl) (pa_cons (pv 0) (pa_cons pe_int pa_nil))) (pa_cons (pv 2) (pa_cons (pv 1) pa_nil)))))
  (pss_cons (ps_set (i := 6) sc_law.nd rfl (Or.inl rfl) (pe_callTy call_list_of (by rfl) T.n_list (by decide +kernel) (pa_cons (pv 5) pa_nil)))
  (pss_cons (ps_set (i := 7) sc_law.nd rfl (Or.inl rfl) (pe_cmpR op_eq (pe_op op_mod (pe_callC c__law_cell hr (by decide) (by rfl) (pa_cons (pv 0) (pa_cons pe_int pa_nil))) pe_int) pe_int (nomark _)))
  (Evl.pss_cut (ps_if (pt_val (pv 7))
    (pss_cons (ps_set (i := 8) sc_law.nd rfl (Or.inl rfl) (pe_op op_mod (pe_op op_fdiv (pe_callC c__law_cell hr (by decide) (by rfl) (pa_cons (pv 0) (pa_cons pe_int pa_nil))) pe_int) (pv 2)))
  (pss_one (ps_asg (pe_ix ix_list (pv 1) (pe_op op_mod (pe_op op_add (pe_bm PySem.F.plainAttrs_list PySem.F.slot_list_index PySem.F.type_list_index mt_index (pv 1) (pa_cons (pe_ix ix_list (pv 6) (pv 8) (fun _ _ => rfl)) pa_nil)) pe_int) pe_int) (fun _ _ => rfl)) (pg_sub (pv 6) (pv 8) set_list))))
    pss_nil)
  (pss_cons (ps_set (i := 9) sc_law.nd rfl (Or.inl rfl) (pe_op op_cat (pe_callC c__law_road hr (by decide) (by rfl) (pa_cons (pv 4) (pa_cons (pv 5) (pa_cons pe_int (pa_cons pe_int pa_nil))))) (pe_callC c__law_road hr (by decide) (by rfl) (pa_cons (pv 4) (pa_cons (pv 6) (pa_cons (pv 3) (pa_cons (pv 2) pa_nil)))))))
  (pss_cons (ps_set (i := 10) sc_law.nd rfl (Or.inr rfl) (pe_cmpR op_eq (pe_op op_mod (pe_op op_fdiv (pe_callC c__law_cell hr (by decide) (by rfl) (pa_cons (pv 0) (pa_cons pe_int pa_nil))) pe_int) pe_int) pe_int (nomark _)))
  (pss_cons (ps_set (i := 11) sc_law.nd rfl (Or.inr rfl) (pe_op op_add (pe_op op_add pe_int (pe_op op_mul pe_int (pv 2))) (pv 3)))
  (pss_cons (ps_setLc (i := 9) (own := [("_law_a", 17), ("_law_b", 18), ("_law_c", 19), ("_law_d", 20)]) (g := (gTup K 4 (gCons (gName 17) (gCons (gName 18) (gCons (gName 19) (gCons (gName 20) gNil)))))) (tt := tYes) rfl sc_law.nd rfl rfl (sw_true rfl rfl rfl (by decide +kernel)) (pi_list (pv 9)) (blkOk_by (N := N_law) (sc := defScope s_law) (by decide +kernel)) (fun _ _ _ _ _ => (pg_tup (by rfl) (pgs_cons (pg_name (i := 17) sc_law.nd rfl (Or.inl rfl)) (pgs_cons (pg_name (i := 18) sc_law.nd rfl (Or.inl rfl)) (pgs_cons (pg_name (i := 19) sc_law.nd rfl (Or.inl rfl)) (pgs_cons (pg_name (i := 20) sc_law.nd rfl (Or.inl rfl)) pgs_nil)))))) (fun _ _ _ _ _ => pts_nil) (fun _ _ _ _ _ => (pe_tup (pa_cons (pe_callC c__law_turned hr (by decide) (by rfl) (pa_cons (pv 11) (pa_cons (pv 17) (pa_cons (pv 10) pa_nil)))) (pa_cons (pv 18) (pa_cons (pv 19) (pa_cons (pe_callC c__law_turned hr (by decide) (by rfl) (pa_cons (pv 11) (pa_cons (pv 20) (pa_cons (pv 10) pa_nil)))) pa_nil)))))))
  (pss_cons (ps_set (i := 12) sc_law.nd rfl (Or.inl rfl) (pe_lst (pa_cons (pe_callC c__law_turned hr (by decide) (by rfl) (pa_cons (pv 11) (pa_cons (pv 2) (pa_cons (pv 10) pa_nil)))) (pa_cons (pe_callC c__law_turned hr (by decide) (by rfl) (pa_cons (pv 11) (pa_cons (pe_op op_add (pe_op op_mul pe_int (pv 2)) (pv 3)) (pa_cons (pv 10) pa_nil)))) pa_nil))))
  (pss_cons (ps_set (i := 13) sc_law.nd rfl (Or.inl rfl) (pe_tup (pa_cons (pv 11) (pa_cons (pe_callC c__law_turned hr (by decide) (by rfl) (pa_cons (pv 11) (pa_cons pe_int (pa_cons (pv 10) pa_nil)))) (pa_cons (pv 12) (pa_cons (pv 9) pa_nil))))))
  (pss_cons (ps_set (i := 14) sc_law.nd rfl (Or.inl rfl) (pe_callC c_twofold hr (by decide) (by rfl) (pa_cons (pv 13) pa_nil)))
  (pss_cons (ps_if (pt_val (pv 7))
    (pss_cons (ps_set (i := 15) sc_law.nd rfl (Or.inl rfl) (pe_lst (pa_cons (pe_listRg rfl (by rfl) T.n_list (prg_1 (by rfl) T.n_range (pv 2))) (pa_cons (pe_listRg rfl (by rfl) T.n_list (prg_2 (by rfl) T.n_range (pv 2) (pe_callB call_lenQ (by rfl) T.n_len PySem.boot_len (pa_cons (pv 9) pa_nil)))) pa_nil))))
  (pss_cons (ps_if (PW.pt (pw_or (pt_not (pt_val (pe_callB call_isi (by rfl) T.n_isinstance (by decide +kernel) (pa_cons (pv 14) (pa_cons (pe_bltn (v := .ty "tuple") (by rfl) T.n_tuple (by decide +kernel) rfl) pa_nil))))) (pw_or (pt_cmpR op_ne (pe_callB call_lenQ (by rfl) T.n_len PySem.boot_len (pa_cons (pv 14) pa_nil)) pe_int (nomark _)) (pw_or1 (pt_cmpR op_ne (pe_ix ix_tup (pv 14) pe_int (fun _ _ => rfl)) (pe_join pe_str (pv 4)) (nomark _))))))
    (pss_one (ps_ret pe_bl))
    pss_nil)
  (pss_one (ps_ret (pe_and (pe_cmpR (op_inD (un65 hr)) (pe_lst (pa_cons (pe_ix ix_tup (pv 14) pe_int (fun _ _ => rfl)) (pa_cons (pe_ix ix_tup (pv 14) pe_int (fun _ _ => rfl)) pa_nil))) (pe_lst (pa_cons (pv 15) (pa_cons (pe_lst (pa_cons (pe_ix ix_list (pv 15) pe_int (fun _ _ => rfl)) (pa_cons (pe_ix ix_list (pv 15) pe_int (fun _ _ => rfl)) pa_nil))) pa_nil))) (by rfl)) (pe_one (pe_callC c__law_is_refused hr (by decide) (by rfl) (pa_cons (pv 13) pa_nil))))))))
    pss_nil)
  (pss_cons (ps_set (i := 16) sc_law.nd rfl (Or.inl rfl) (pe_callC c__law_due hr (by decide) (by rfl) (pa_cons (pv 5) (pa_cons (pv 3) pa_nil))))
  (pss_cons (ps_setLc (i := 16) (own := [("_law_a", 17), ("_law_b", 18), ("_law_c", 19), ("_law_d", 20)]) (g := (gTup K 4 (gCons (gName 17) (gCons (gName 18) (gCons (gName 19) (gCons (gName 20) gNil)))))) (tt := tYes) rfl sc_law.nd rfl rfl (sw_true rfl rfl rfl (by decide +kernel)) (pi_list (pv 16)) (blkOk_by (N := N_law) (sc := defScope s_law) (by decide +kernel)) (fun _ _ _ _ _ => (pg_tup (by rfl) (pgs_cons (pg_name (i := 17) sc_law.nd rfl (Or.inl rfl)) (pgs_cons (pg_name (i := 18) sc_law.nd rfl (Or.inl rfl)) (pgs_cons (pg_name (i := 19) sc_law.nd rfl (Or.inl rfl)) (pgs_cons (pg_name (i := 20) sc_law.nd rfl (Or.inl rfl)) pgs_nil)))))) (fun _ _ _ _ _ => pts_nil) (fun _ _ _ _ _ => (pe_tup (pa_cons (pe_callC c__law_turned hr (by decide) (by rfl) (pa_cons (pv 11) (pa_cons (pv 17) (pa_cons (pv 10) pa_nil)))) (pa_cons (pe_callC c__law_turned hr (by decide) (by rfl) (pa_cons (pv 11) (pa_cons (pv 18) (pa_cons (pv 10) pa_nil)))) (pa_cons (pv 19) (pa_cons (pv 20) pa_nil)))))))
  (pss_one (ps_ret (pe_and (pe_cmpR op_isN (pv 14) pe_non (nomark _)) (pe_one (pe_cmpR (op_eqD hr.units) (pe_callL c_ahead hr (by decide) (by rfl) (pa_cons (pv 13) pa_nil)) (pe_callB (cr_sortedD jsD hr.units) (by rfl) T.n_sorted (by decide +kernel) (pa_cons (pv 16) pa_nil)) (nomark _))))))))))))))))))))))))), ?_⟩
  refine r_start (σ' := [some (.ref a0), none, none, none, none, none, none, none, none, none, none, none, none, none, none, none, none, none, none, none, none]) rfl ?_
  walk_at "rd"
  refine ⟨a0, ns, 0, rfl, hs, by decide, ?_⟩
  walk_at "rd"
  refine ⟨_, rfl, fun H1 ps ca cb cc s1 hps th h1 => ?_⟩
  have hs1 := same_sqL s1 hs
  have sg1 : SqL K H1 ps ([ca, cb, cc].map V.str) := SqL.of h1
  walk_at "rd"
  refine ⟨a0, ns, 1, rfl, hs1, by decide, ?_⟩
  walk_at "rd"
  refine ⟨a0, ns, 2, rfl, hs1, by decide, ?_⟩
  generalize cell ns (1 : Int).toNat = z1
  generalize cell ns (2 : Int).toNat = z2
  obtain ⟨n, hn⟩ : ∃ n : Nat, (1 + z1 % 40 : Int) = (n : Int) := ⟨(1 + z1 % 40).toNat, by omega⟩
  have n1 : 1 ≤ n := by omega
  have n40 : n ≤ 40 := by omega
  rw [hn]
  walk_at "rd"
  have m0 : 0 ≤ z2 % ((n : Int) + 1) := Int.emod_nonneg _ (by omega)
  have m1 : z2 % ((n : Int) + 1) < (n : Int) + 1 := Int.emod_lt_of_pos _ (by omega)
  generalize z2 % ((n : Int) + 1) = z3 at m0 m1 ⊢
  refine r_cut (fun σ H' => ∃ late : Nat, late ≤ n ∧ late ≤ 9 ∧ σ = [some (.ref a0), some (.ref ps), some (.int (n : Int)), some (.int (late : Int)), none, none, none, none, none, none, none, none, none, none, none, none, none, none, none, none, none] ∧ H' = H1) ?_ (fun σ H' hmid => ?_)
  · walk_at "rd"
    refine r_both (fun h9 => ?_) (fun h9 => ?_)
    · walk_at "rd"
      exact ⟨(1 + z3 % 9).toNat, by omega, by omega, by rw [Int.toNat_of_nonneg (by omega)], rfl⟩
    · walk_at "rd"
      exact ⟨z3.toNat, by omega, by omega, by rw [Int.toNat_of_nonneg (by omega)], rfl⟩
  · obtain ⟨late, ll1, ll2, rfl, rfl⟩ := hmid
    walk_at "rd"
    refine ⟨a0, ns, 3, rfl, hs1, by decide, ?_⟩
    walk_at "rd"
    refine ⟨_, (n : Int), ps, ca, cb, cc, rfl, by omega, by omega, sg1, fun H2 pt s2 hpt h2 => ?_⟩
    have hs2 := same_sqL s2 hs1
    walk_at "rd"
    refine ⟨a0, ns, 4, rfl, hs2, by decide, ?_⟩
    walk_at "rd"
    refine ⟨_, (n : Int), ps, ca, cb, cc, rfl, by omega, by omega, same_sqL s2 sg1, fun H3 pw s3 hpw h3 => ?_⟩
    rw [Int.toNat_natCast] at h2 h3
    have onF : ∀ z, ∀ x ∈ (List.range n).map (txF z ca cb cc), One x ∧ (x = ca ∨ x = cb ∨ x = cc) := fun z x hx => by
      obtain ⟨i, _, rfl⟩ := List.mem_map.mp hx
      unfold txF pick
      split
      · exact ⟨th.oa, .inl rfl⟩
      · split
        · exact ⟨th.ob, .inr (.inl rfl)⟩
        · exact ⟨th.oc, .inr (.inr rfl)⟩
    have lnF : ∀ z, ((List.range n).map (txF z ca cb cc)).length = n := fun z => by rw [List.length_map, List.length_range]
    obtain ⟨txt, htxt⟩ : ∃ t, t = (List.range n).map (txF (cell ns (3 : Int).toNat) ca cb cc) := ⟨_, rfl⟩
    obtain ⟨wr, hwr⟩ : ∃ t, t = (List.range n).map (txF (cell ns (4 : Int).toNat) ca cb cc) := ⟨_, rfl⟩
    have tOn : ∀ x ∈ txt, One x := fun x hx => by rw [htxt] at hx; exact (onF _ x hx).1
    have wOn : ∀ x ∈ wr, One x ∧ (x = ca ∨ x = cb ∨ x = cc) := fun x hx => by rw [hwr] at hx; exact onF _ x hx
    have tLn : txt.length = n := by rw [htxt]; exact lnF _
    have wLn : wr.length = n := by rw [hwr]; exact lnF _
    rw [← htxt] at h2
    rw [← hwr] at h3
    have hs3 := same_sqL s3 hs2
    have sg3 := same_sqL (s2.trans s3) sg1
    have h23 := s3 _ _ h2
    clear onF lnF htxt hwr
    walk_at "rd"
    refine ⟨pw, _, rfl, .inl (SqL.of h3), fun po hpo => ?_⟩
    have s4 : Same H3 (upd H3 po (.lst (wr.map V.str))) := same_up hpo
    have h4 : (upd H3 po (.lst (wr.map V.str))) po = some (.lst (wr.map V.str)) := upd_same
    generalize upd H3 po (.lst (wr.map V.str)) = H4 at s4 h4 ⊢
    have hs4 := same_sqL s4 hs3
    have sg4 := same_sqL s4 sg3
    walk_at "rd"
    refine ⟨a0, ns, 5, rfl, hs4, by decide, ?_⟩
    generalize cell ns (5 : Int).toNat = z5
    walk_at "rd"
    generalize hsp : decide (V.int (z5 % 3) = V.int 1) = sp
    refine r_cut (fun σ H' => ∃ (ot : List Str) (y8 : Option V), σ = [some (.ref a0), some (.ref ps), some (.int (n : Int)), some (.int (late : Int)), some (.ref pt), some (.ref pw), some (.ref po), some (.bl sp), y8, none, none, none, none, none, none, none, none, none, none, none, none] ∧ Same H3 H' ∧ H' po = some (.lst (ot.map V.str)) ∧ ot.length = n ∧ (∀ x ∈ ot, One x) ∧ (sp = true → ot ≠ wr) ∧ (sp = false → ot = wr)) ?_ (fun σ H' hmid => ?_)
    · cases sp with
      | false =>
        walk_at "rd"
        exact ⟨wr, _, rfl, s4, h4, wLn, fun x hx => (wOn x hx).1, (fun z => by cases z), fun _ => rfl⟩
      | true =>
        walk_at "rd"
        refine ⟨a0, ns, 5, rfl, hs4, by decide, ?_⟩
        walk_at "rd"
        have j0 : 0 ≤ cell ns (Int.toNat 5) / 3 % (n : Int) := Int.emod_nonneg _ (by omega)
        have j1 : cell ns (Int.toNat 5) / 3 % (n : Int) < (n : Int) := Int.emod_lt_of_pos _ (by omega)
        generalize cell ns (Int.toNat 5) / 3 % (n : Int) = zj at j0 j1 ⊢
        obtain ⟨j, rfl⟩ : ∃ j : Nat, zj = (j : Int) := ⟨zj.toNat, by omega⟩
        have jn : j < wr.length := by omega
        obtain ⟨x, hx⟩ : ∃ x, x = wr[j] := ⟨_, rfl⟩
        have hxj : wr[j]? = some x := by rw [hx]; exact List.getElem?_eq_getElem jn
        obtain ⟨xo, xc⟩ := wOn x (List.mem_of_getElem? hxj)
        refine r_ixL (v := .str x) (SqL.of h4) (atI_nat (by rw [List.getElem?_map, hxj]; rfl)) ?_
        clear hx
        walk_at "rd"
        have fin : ∀ (y : Str), One y → y ≠ x → ∃ (ot : List Str), (wr.map V.str).set j (.str y) = ot.map V.str ∧ ot.length = n ∧ (∀ x ∈ ot, One x) ∧ ot ≠ wr := fun y hy hne => by
          refine ⟨wr.set j y, by rw [List.map_set], by rw [List.length_set]; exact wLn, fun z hz => ?_, fun e => ?_⟩
          · rcases List.mem_or_eq_of_mem_set hz with h | h
            · exact (wOn z h).1
            · rw [h]
              exact hy
          · have := congrArg (fun l => l[j]?) e
            rw [List.getElem?_set_self jn, hxj] at this
            injection this with this
            exact hne this
        have setj : ∀ (y : Str), One y → y ≠ x → ∀ (R : Hp → Prop), (∀ ot H', Same H3 H' → H' po = some (.lst (ot.map V.str)) → ot.length = n → (∀ x ∈ ot, One x) → ot ≠ wr → R H') → rSetL (.ref po) (.int (j : Int)) (.str y) H4 R := fun y hy hne R k => by
          obtain ⟨ot, e1, e2, e3, e4⟩ := fin y hy hne
          refine ⟨po, _, (j : Int), j, rfl, rfl, h4, ?_, ?_⟩
          · rw [List.length_map]
            unfold ixN
            simp
            omega
          · rw [e1]
            exact k ot _ (same_mut s4 hpo) upd_same e2 e3 e4
        rcases xc with rfl | rfl | rfl
        · refine ⟨ps, [x, cb, cc].map V.str, .str x, 0, .str x, rfl, rfl, sg4, rfl, rfl, rfl, beq_self_eq_true _, fun m z' hm hz => ?_, ?_⟩
          · omega
          · walk_at "rd"
            refine r_ixL (v := .str cb) sg4 rfl ?_
            refine r_var rfl (r_var rfl ?_)
            refine setj cb th.ob (fun e => th.ab e.symm) _ (fun ot H' s h l o ne => ?_)
            exact ⟨ot, _, rfl, s, h, l, o, fun _ => ne, fun z => by cases z⟩
        · refine ⟨ps, [ca, x, cc].map V.str, .str x, 1, .str x, rfl, rfl, sg4, rfl, rfl, rfl, beq_self_eq_true _, fun m z' hm hz => ?_, ?_⟩
          · obtain rfl : m = 0 := by omega
            cases hz
            exact beq_eq_false_iff_ne.mpr th.ab
          · walk_at "rd"
            refine r_ixL (v := .str cc) sg4 rfl ?_
            refine r_var rfl (r_var rfl ?_)
            refine setj cc th.oc (fun e => th.bc e.symm) _ (fun ot H' s h l o ne => ?_)
            exact ⟨ot, _, rfl, s, h, l, o, fun _ => ne, fun z => by cases z⟩
        · refine ⟨ps, [ca, cb, x].map V.str, .str x, 2, .str x, rfl, rfl, sg4, rfl, rfl, rfl, beq_self_eq_true _, fun m z' hm hz => ?_, ?_⟩
          · rcases (show m = 0 ∨ m = 1 by omega) with rfl | rfl
            · cases hz
              exact beq_eq_false_iff_ne.mpr th.ac
            · cases hz
              exact beq_eq_false_iff_ne.mpr th.bc
          · walk_at "rd"
            refine r_ixL (v := .str ca) sg4 rfl ?_
            refine r_var rfl (r_var rfl ?_)
            refine setj ca th.oa th.ac _ (fun ot H' s h l o ne => ?_)
            exact ⟨ot, _, rfl, s, h, l, o, fun _ => ne, fun z => by cases z⟩
    · obtain ⟨ot, y8, rfl, s5, h5, oLn, oOn, spT, spF⟩ := hmid
      have D0 : ∀ down : Bool, (Two.mk n late txt wr ot down).Ok := fun down => ⟨n1, n40, ll1, ll2, tLn, wLn, oLn, tOn, fun x hx => (wOn x hx).1, oOn⟩
      have hs5 := same_sqL s5 hs3
      have h2' := s5 _ _ h23
      have h3' := s5 _ _ h3
      walk_at "rd"
      refine ⟨pt, pw, txt, wr, 0, 0, rfl, SqL.of h2', h3', by omega, by omega, by omega, by omega, by omega, tOn, fun x hx => (wOn x hx).1, fun H6 m1 xs1 s6 hm1 hx1 => ?_⟩
      walk_at "rd"
      refine ⟨pt, po, txt, ot, (late : Int), (n : Int), rfl, SqL.of (s6 _ _ h2'), s6 _ _ h5, by omega, by omega, by omega, by omega, by omega, tOn, oOn, fun H7 m2 xs2 s7 hm2 hx2 => ?_⟩
      rw [Int.toNat_natCast, oLn] at hx2
      have h0t : (0 : Int).toNat = 0 := rfl
      rw [h0t, Nat.zero_add, wLn] at hx1
      have lx1 : xs1.length = n := by rw [dpAll_len hx1, List.length_map, List.length_map, List.length_range]
      have lx2 : xs2.length = late + n := by rw [dpAll_len hx2, List.length_map, List.length_map, List.length_range]
      walk_at "rd"
      refine r_cat (s7 _ _ hm1) hm2 (by omega) fun m3 hm3 => ?_
      have s8 : Same H7 (upd H7 m3 (.lst (xs1 ++ xs2))) := same_up hm3
      have h8 : (upd H7 m3 (.lst (xs1 ++ xs2))) m3 = some (.lst (xs1 ++ xs2)) := upd_same
      have dp8 := dpAll_same s8 (dpAll_app (dpAll_same s7 hx1) hx2)
      have s58 := s6.trans (s7.trans s8)
      generalize upd H7 m3 (.lst (xs1 ++ xs2)) = H8 at s8 h8 dp8 s58 ⊢
      have hs8 := same_sqL s58 hs5
      walk_at "rd"
      refine ⟨a0, ns, 1, rfl, hs8, by decide, ?_⟩
      walk_at "rd"
      generalize hdn : decide (V.int (cell ns (Int.toNat 1) / 40 % 2) = V.int 1) = down
      generalize hD : Two.mk n late txt wr ot down = D
      have ok : D.Ok := by rw [← hD]; exact D0 down
      refine r_lcL (a := m3) (xs := xs1 ++ xs2) (K := K) (σw := [some (.ref a0), some (.ref ps), some (.int (n : Int)), some (.int (late : Int)), some (.ref pt), some (.ref pw), some (.ref po), some (.bl sp), y8, some (.ref m3), some (.bl down), some (.int (1 + 2 * (n : Int) + (late : Int))), none, none, none, none, none, none, none, none, none])
        (fun i => ((((List.range n).map (rdMv txt (List.replicate 0 emS ++ wr) 0)) ++ ((List.range (late + n)).map (rdMv txt (List.replicate late emS ++ ot) (n : Int))))[i]?).map fun m => mvD (tmv (1 + 2 * (n : Int) + (late : Int)) down m)) rfl (fun R h => ⟨_, rfl, h⟩) (SqL.of h8) (by rw [List.length_append]; omega)
        (fun i d e => by
          obtain ⟨m, _, rfl⟩ := Option.map_eq_some_iff.mp e
          rfl) (fun i x H' QY QN hx s' yes noo => ?_) (fun H9 m4 acc s9 hm4 hacc hA => ?_)
      · have dp8' := dpAll_same s' dp8
        rw [← List.map_append] at dp8'
        obtain ⟨d, g1, g2⟩ := dpAll_get dp8' hx
        rw [List.getElem?_map] at g1
        obtain ⟨m, hm, rfl⟩ := Option.map_eq_some_iff.mp g1
        obtain ⟨qa, rfl, hqa⟩ := dp_mv g2
        walk_at "rd"
        refine ⟨rfl, ?_⟩
        walk_at "rd"
        refine ⟨_, _, _, rfl, ?_⟩
        walk_at "rd"
        refine ⟨_, _, _, rfl, ?_⟩
        walk_at "rd"
        refine r_new (Nat.le_of_ble_eq_true rfl) fun t9 ht9 => ?_
        refine yes _ _ (mvD (tmv (1 + 2 * (n : Int) + (late : Int)) down m)) (same_up ht9) (by rw [hm]; rfl) ?_
        exact .tup (SqT.of upd_same) (.cons (.int _) (.cons (.str _) (.cons (.str _) (.cons (.int _) .nil))))
      have eA : (List.range (xs1 ++ xs2).length).filterMap (fun i => ((((List.range n).map (rdMv txt (List.replicate 0 emS ++ wr) 0)) ++ ((List.range (late + n)).map (rdMv txt (List.replicate late emS ++ ot) (n : Int))))[i]?).map fun m => mvD (tmv (1 + 2 * (n : Int) + (late : Int)) down m)) = D.M.moves.map mvD := by
        rw [range_fm_all _ (fun m => mvD (tmv (1 + 2 * (n : Int) + (late : Int)) down m)) (by rw [List.length_append, List.length_append, List.length_map, List.length_map, List.length_range, List.length_range]; omega), ← hD, ← moves_is n late txt wr ot down, List.map_map]
        rfl
      rw [eA] at hA
      have lacc : acc.length = 2 * n + late := by
        rw [dpAll_len hA, List.length_map, Two.len ok, ← hD]
      have g1 : (if down = true then 1 + 2 * (n : Int) + (late : Int) - 1 - (n : Int) else (n : Int)) = D.st false D.n := by
        rw [f_is n late txt wr ot down _ n rfl, hD, ← hD]
        rfl
      have g2 : (if down = true then 1 + 2 * (n : Int) + (late : Int) - 1 - (2 * (n : Int) + (late : Int)) else (2 * (n : Int) + (late : Int))) = D.st true (D.n + D.late) := by
        rw [f_is n late txt wr ot down _ (n + (n + late)) (by omega), hD, ← hD]
        show Two.f _ _ = Two.f _ (if n + late = 0 then 0 else n + (n + late))
        rw [if_neg (by omega)]
      have g3 : (if down = true then 1 + 2 * (n : Int) + (late : Int) - 1 - 0 else (0 : Int)) = D.M.b := by
        rw [f_is n late txt wr ot down 0 0 rfl, hD, ← hD]
        rfl
      have gN : (1 + 2 * (n : Int) + (late : Int)) = D.M.n := by
        rw [← hD]
        show _ = ((1 + 2 * n + late : Nat) : Int)
        omega
      walk_at "rd"
      refine ⟨_, _, _, rfl, ?_⟩
      walk_at "rd"
      refine ⟨_, _, _, rfl, ?_⟩
      rw [g1, g2]
      walk_at "rd"
      refine r_new (Nat.le_of_ble_eq_true rfl) fun pe hpe => ?_
      have s10 : Same H9 (upd H9 pe (.lst [.int (D.st false D.n), .int (D.st true (D.n + D.late))])) := same_up hpe
      have h10 : SqL K (upd H9 pe (.lst [.int (D.st false D.n), .int (D.st true (D.n + D.late))])) pe (D.M.ends.map V.int) := SqL.of upd_same
      have hA10 := dpAll_same s10 hA
      have hm410 := s10 _ _ hacc
      generalize upd H9 pe (.lst [.int (D.st false D.n), .int (D.st true (D.n + D.late))]) = H10 at s10 h10 hA10 hm410 ⊢
      walk_at "rd"
      refine ⟨_, _, _, rfl, ?_⟩
      rw [g3]
      walk_at "rd"
      refine r_new (Nat.le_of_ble_eq_true rfl) fun tm htm => ?_
      have s11 : Same H10 (upd H10 tm (.tup [.int (1 + 2 * (n : Int) + (late : Int)), .int D.M.b, .ref pe, .ref m4])) := same_up htm
      have dpM : Dp K (upd H10 tm (.tup [.int (1 + 2 * (n : Int) + (late : Int)), .int D.M.b, .ref pe, .ref m4])) (.ref tm) (mcD D.M) := by
        rw [gN]
        exact .tup (SqT.of upd_same) (.cons (.int _) (.cons (.int _) (.cons (.lst (same_sqL (same_up htm) h10) dpAll_of_ints) (.cons (.lst (SqL.of (same_up htm _ _ hm410)) (dpAll_same (same_up htm) hA10)) .nil))))
      have h411 := s11 _ _ hm410
      have s311 := s5.trans (s58.trans (s9.trans (s10.trans s11)))
      generalize upd H10 tm (.tup [.int (1 + 2 * (n : Int) + (late : Int)), .int D.M.b, .ref pe, .ref m4]) = H11 at s11 dpM h411 s311 ⊢
      walk_at "rd"
      refine ⟨.ref tm, D.M, rfl, dpM, Two.Mok ok, Two.Mstr ok, fun H12 s12 no => ?_, fun H12 p p1 p2 x ks js w1 w2 s12 hp hp1 hp2 i1 i2 ne _ _ => ?_⟩
      · cases sp with
        | true => exact absurd (Two.two ok (by rw [← hD]; exact spT rfl)) no
        | false =>
          walk_at "rd"
          refine ⟨pw, D, by rw [← hD]; rfl, ok, by rw [← hD]; exact (s311.trans s12) _ _ h3, fun H13 pd xsd s13 hpd hxd => ?_⟩
          have lxd : xsd.length = D.Ia.length := by rw [dpAll_len hxd, List.length_map, List.length_map]
          have lIa := ia_len ok
          walk_at "rd"
          refine r_lcL (a := pd) (xs := xsd) (K := K) (σw := [some (.ref a0), some (.ref ps), some (.int (n : Int)), some (.int (late : Int)), some (.ref pt), some (.ref pw), some (.ref po), some (.bl false), y8, some (.ref m4), some (.bl down), some (.int (1 + 2 * (n : Int) + (late : Int))), some (.ref pe), some (.ref tm), some .non, none, some (.ref pd), none, none, none, none])
            (fun i => ((D.Ia.map D.E)[i]?).map fun m => jsD (tjs (1 + 2 * (n : Int) + (late : Int)) down m)) rfl (fun R h => ⟨_, rfl, h⟩) (SqL.of hpd) (by omega)
            (fun i d e => by
              obtain ⟨m, _, rfl⟩ := Option.map_eq_some_iff.mp e
              rfl) (fun i x H' QY QN hx s' yes noo => ?_) (fun H14 m5 acc5 s14 hm5 hacc5 hA5 => ?_)
          · obtain ⟨d, k1, k2⟩ := dpAll_get (dpAll_same s' hxd) hx
            rw [List.getElem?_map] at k1
            obtain ⟨m, hm, rfl⟩ := Option.map_eq_some_iff.mp k1
            obtain ⟨qa, rfl, hqa⟩ := dp_js k2
            walk_at "rd"
            refine ⟨rfl, ?_⟩
            walk_at "rd"
            refine ⟨_, _, _, rfl, ?_⟩
            walk_at "rd"
            refine ⟨_, _, _, rfl, ?_⟩
            walk_at "rd"
            refine r_new (Nat.le_of_ble_eq_true rfl) fun t9 ht9 => ?_
            exact yes _ _ (jsD (tjs (1 + 2 * (n : Int) + (late : Int)) down m)) (same_up ht9) (by rw [hm]; rfl) (js_dp (s := tjs (1 + 2 * (n : Int) + (late : Int)) down m) (SqT.of upd_same))
          have eA5 : (List.range xsd.length).filterMap (fun i => ((D.Ia.map D.E)[i]?).map fun m => jsD (tjs (1 + 2 * (n : Int) + (late : Int)) down m)) = (D.Ia.map fun x => D.dn (D.E x)).map jsD := by
            rw [range_fm_all _ (fun m => jsD (tjs (1 + 2 * (n : Int) + (late : Int)) down m)) (by rw [lxd, List.length_map])]
            show (D.Ia.map D.E).map (jsD ∘ tjs (1 + 2 * (n : Int) + (late : Int)) down) = _
            rw [← List.map_map, ← hD, due_is]
          rw [eA5] at hA5
          walk_at "rd"
          refine ⟨.ref tm, D.M, rfl, dp_same (s12.trans (s13.trans s14)) dpM, Two.Mok ok, Two.Mstr ok, fun tw => absurd tw no, fun _ H15 pa xsa rows s15 ha hxa ak => ?_⟩
          have hacc15 := s15 _ _ hacc5
          have hA15 := dpAll_same s15 hA5
          walk_at "rd"
          refine ⟨m5, acc5, D.Ia.map fun x => D.dn (D.E x), rfl, SqL.of hacc15, hA15, js_alike _, js_sortable _, fun b _ => js_depth b, fun ys pS hys hpS => ?_⟩
          rw [← Two.due ok (by rw [← hD]; exact spF rfl) ak] at hys
          have s16 : Same H15 (upd H15 pS (.lst ys)) := same_up hpS
          have cl := js_canLay rows ak.ok
          have shp := shaped_list cl.1 (Nat.le_trans cl.2 (by decide))
          refine ⟨.list (rows.map jsD), .list (rows.map jsD), .lst (SqL.of (s16 _ _ ha)) (dpAll_same s16 hxa), .lst (SqL.of upd_same) (dpAll_same s16 hys), shp, shp, ?_⟩
          rw [eqv_self shp]
          exact q _
      · cases sp with
        | false => exact absurd ⟨_, _, _, ⟨_, i1⟩, ⟨_, i2⟩, ne⟩ (Two.not_two ok (by rw [← hD]; exact spF rfl))
        | true =>
          obtain ⟨ex, A, eks, ejs⟩ := Two.roads ok i1 i2 ne
          have two : Twof D.M := ⟨_, _, _, ⟨_, i1⟩, ⟨_, i2⟩, ne⟩
          walk_at "rd"
          refine r_listRg (K := K) (n := n) (by omega) (fun R h => ⟨_, rfl, h⟩) fun q1 hq1 => ?_
          have s13 : Same H12 (upd H12 q1 (.lst (((List.range n).map fun (i : Nat) => (i : Int)).map V.int))) := same_up hq1
          have l13 : SqL K (upd H12 q1 (.lst (((List.range n).map fun (i : Nat) => (i : Int)).map V.int))) q1 (((List.range n).map fun (i : Nat) => (i : Int)).map V.int) := SqL.of upd_same
          generalize upd H12 q1 (.lst (((List.range n).map fun (i : Nat) => (i : Int)).map V.int)) = H13 at s13 l13 ⊢
          have m13 : SqL K H13 m4 acc := SqL.of (s13 _ _ (s12 _ _ h411))
          refine ⟨_, rfl, ?_⟩
          walk_at "rd"
          refine ⟨_, _, rfl, rfl, .of_le (by omega) (by omega) (by omega) (by omega), fun q2 hq2 => ?_⟩
          have er0 : ((List.range n).map fun (i : Nat) => (i : Int)).map V.int = ksV ((List.range' 0 (D.L false)).map (D.base false + ·)) := by
            rw [← hD]
            show _ = ksV ((List.range' 0 n).map ((0 : Nat) + ·))
            unfold ksV
            rw [List.range_eq_range', List.map_map, List.map_map]
            exact List.map_congr_left fun k _ => by
              show V.int ((k : Nat) : Int) = V.int (((0 + k : Nat)) : Int)
              rw [Nat.zero_add]
          have er1 : rgV (n : Int) ((acc.length : Nat) : Int) = ksV ((List.range' 0 (D.L true)).map (D.base true + ·)) := by
            rw [← hD]
            show _ = ksV ((List.range' 0 (n + late)).map (n + ·))
            unfold rgV ksV
            rw [lacc, show (((2 * n + late : Nat) : Int) - (n : Int)).toNat = n + late by omega, List.range_eq_range', List.map_map]
            exact List.map_congr_left fun k _ => by show V.int _ = V.int _; congr 1
          rw [er1]
          rw [er0] at l13
          have s14 : Same H13 (upd H13 q2 (.lst (ksV ((List.range' 0 (D.L true)).map (D.base true + ·))))) := same_up hq2
          have l14 : SqL K (upd H13 q2 (.lst (ksV ((List.range' 0 (D.L true)).map (D.base true + ·))))) q2 (ksV ((List.range' 0 (D.L true)).map (D.base true + ·))) := SqL.of upd_same
          have l13' := same_sqL s14 l13
          generalize upd H13 q2 (.lst (ksV ((List.range' 0 (D.L true)).map (D.base true + ·)))) = H14 at s14 l14 l13' ⊢
          walk_at "rd"
          refine r_new (Nat.le_of_ble_eq_true rfl) fun q3 hq3 => ?_
          have s15 : Same H14 (upd H14 q3 (.lst [.ref q1, .ref q2])) := same_up hq3
          have l15 : SqL K (upd H14 q3 (.lst [.ref q1, .ref q2])) q3 [.ref q1, .ref q2] := SqL.of upd_same
          have la := same_sqL s15 l13'
          have lb := same_sqL s15 l14
          generalize upd H14 q3 (.lst [.ref q1, .ref q2]) = H15 at s15 l15 la lb ⊢
          have s1215 : Same H12 H15 := s13.trans (s14.trans s15)
          have hp15 : SqT K H15 p [.str x, .ref p1, .ref p2] := SqT.of (s1215 _ _ hp)
          have ht15 : SqL K H15 pt (txt.map V.str) := SqL.of ((s311.trans (s12.trans s1215)) _ _ h23)
          have exj : x = Txt.join (Str.ofString "") txt := tl_inj (by rw [tl_join, ex, ← hD])
          walk_at "rd"
          refine r_join ht15 (sum_one tOn _ (by omega)) ?_
          rw [← exj]
          walk_at "rd"
          refine r_new (Nat.le_of_ble_eq_true rfl) fun q4 hq4 => ?_
          have s16 : Same H15 (upd H15 q4 (.lst [.ref p1, .ref p2])) := same_up hq4
          have l16 : SqL K (upd H15 q4 (.lst [.ref p1, .ref p2])) q4 [.ref p1, .ref p2] := SqL.of upd_same
          have l15' := same_sqL s16 l15
          have la' := same_sqL s16 la
          have lb' := same_sqL s16 lb
          generalize upd H15 q4 (.lst [.ref p1, .ref p2]) = H16 at s16 l16 l15' la' lb' ⊢
          walk_at "rd"
          refine r_ixL (v := .ref q2) l15' rfl ?_
          walk_at "rd"
          refine r_ixL (v := .ref q1) l15' rfl ?_
          walk_at "rd"
          refine r_new (Nat.le_of_ble_eq_true rfl) fun q5 hq5 => ?_
          have s17 : Same H16 (upd H16 q5 (.lst [.ref q2, .ref q1])) := same_up hq5
          have l17 : SqL K (upd H16 q5 (.lst [.ref q2, .ref q1])) q5 [.ref q2, .ref q1] := SqL.of upd_same
          generalize upd H16 q5 (.lst [.ref q2, .ref q1]) = H17 at s17 l17 ⊢
          walk_at "rd"
          refine r_new (Nat.le_of_ble_eq_true rfl) fun q6 hq6 => ?_
          have s18 : Same H17 (upd H17 q6 (.lst [.ref q3, .ref q5])) := same_up hq6
          have l18 : SqL K (upd H17 q6 (.lst [.ref q3, .ref q5])) q6 [.ref q3, .ref q5] := SqL.of upd_same
          have s1618 := s17.trans s18
          have la18 := same_sqL s1618 la'
          have lb18 := same_sqL s1618 lb'
          have l1518 := same_sqL s1618 l15'
          have l1618 := same_sqL s1618 l16
          have l1718 := same_sqL s18 l17
          have hp118 : SqL K (upd H17 q6 (.lst [.ref q3, .ref q5])) p1 (ksV ks) := SqL.of ((s1215.trans (s16.trans s1618)) _ _ hp1)
          have hp218 : SqL K (upd H17 q6 (.lst [.ref q3, .ref q5])) p2 (ksV js) := SqL.of ((s1215.trans (s16.trans s1618)) _ _ hp2)
          have dp18 := dp_same (s12.trans (s1215.trans (s16.trans s1618))) dpM
          generalize upd H17 q6 (.lst [.ref q3, .ref q5]) = H18 at s18 l18 s1618 la18 lb18 l1518 l1618 l1718 hp118 hp218 dp18 ⊢
          have o1 : ∀ l : List Nat, PyData.canLayAll0 (ksD l) = true := fun l => by
            have z := (shape_ints (l.map fun (k : Nat) => (k : Int))).1
            rw [List.map_map] at z
            exact z
          have o2 : ∀ l : List Nat, PyData.depthAll (ksD l) = 0 := fun l => by
            have z := (shape_ints (l.map fun (k : Nat) => (k : Int))).2
            rw [List.map_map] at z
            exact z
          have sh2 : ∀ l l' : List Nat, SeqAt.shaped (.list [.list (ksD l), .list (ksD l')]) = true := fun l l' => shaped_list (by simp [PyData.canLayAll0, PyData.canLay0, o1]) (by simp [PyData.depthAll, PyData.depth, o2])
          generalize hR0 : (List.range' 0 (D.L false)).map (D.base false + ·) = R0 at *
          generalize hR1 : (List.range' 0 (D.L true)).map (D.base true + ·) = R1 at *
          refine ⟨.list [.list (ksD ks), .list (ksD js)], [.list [.list (ksD R0), .list (ksD R1)], .list [.list (ksD R1), .list (ksD R0)]], .lst l1618 (.cons (.lst hp118 (ks_dp _)) (.cons (.lst hp218 (ks_dp _)) .nil)),
            .lst l18 (.cons (.lst l1518 (.cons (.lst la18 (ks_dp _)) (.cons (.lst lb18 (ks_dp _)) .nil))) (.cons (.lst l1718 (.cons (.lst lb18 (ks_dp _)) (.cons (.lst la18 (ks_dp _)) .nil))) .nil)), sh2 _ _, ?_, ?_⟩
          · exact shaped_list (by simp [PyData.canLayAll0, PyData.canLay0, o1]) (by simp [PyData.depthAll, PyData.depth, o2])
          · have hany : ([.list [.list (ksD R0), .list (ksD R1)], .list [.list (ksD R1), .list (ksD R0)]] : List PyData).any (fun z => PyData.eqv z (.list [.list (ksD ks), .list (ksD js)])) = true := by
              cases A with
              | false =>
                rw [eks, ejs]
                have : (!false) = true := rfl
                rw [this, hR0, hR1]
                simp [eqv_self (sh2 R0 R1)]
              | true =>
                rw [eks, ejs]
                have : (!true) = false := rfl
                rw [this, hR0, hR1]
                simp [eqv_self (sh2 R1 R0)]
            rw [hany]
            walk_at "rd"
            refine ⟨.ref tm, D.M, rfl, dp18, Two.Mok ok, Two.Mstr ok, fun H19 b s19 hb => ?_⟩
            rw [hb.mpr two]
            exact q _
end
end Tw

namespace Tw
open PySem L2
theorem all_mk {lw : PySem.W.OpenLaw} {w : World} {K : PySem.W.Frag} {h : Heap} {mg : Str → Option Value} {fa : Addr} (X : K.In h) (G : h.Ns mainGlobals mg) (hfa : mg "law" = some (.ref fa))
    {f0 f1 f2 f3 f4 f5 f6 f7 f8 f9 f10 f11 f12 f13 f14 f15 f16 f17 f18 f19 f20 f21 f22 f23 f24 f25 f26 f27 : Addr} {od0 an0 od1 an1 od2 an2 od3 an3 od4 an4 od5 an5 od6 an6 od7 an7 od8 an8 od9 an9 od10 an10 od11 an11 od12 an12 od13 an13 od14 an14 od15 an15 od16 an16 od17 an17 od18 an18 od19 an19 od20 an20 od21 an21 od22 an22 od23 an23 od24 an24 od25 an25 od26 an26 od27 an27 : Option Addr} {sl0 sl1 sl2 sl3 sl4 sl5 sl6 sl7 sl8 sl9 sl10 sl11 sl12 sl13 sl14 sl15 sl16 sl17 sl18 sl19 sl20 sl21 sl22 sl23 sl24 sl25 sl26 sl27 : Array (Option Value)} {oc0 kV0 dc0 pm0 cd0 ct0 oc1 kV1 dc1 pm1 cd1 ct1 oc2 kV2 dc2 pm2 cd2 ct2 oc3 kV3 dc3 pm3 cd3 ct3 oc4 kV4 dc4 pm4 cd4 ct4 oc5 kV5 dc5 pm5 cd5 ct5 oc6 kV6 dc6 pm6 cd6 ct6 oc7 kV7 dc7 pm7 cd7 ct7 oc8 kV8 dc8 pm8 cd8 ct8 oc9 kV9 dc9 pm9 cd9 ct9 oc10 kV10 dc10 pm10 cd10 ct10 oc11 kV11 dc11 pm11 cd11 ct11 oc12 kV12 dc12 pm12 cd12 ct12 oc13 kV13 dc13 pm13 cd13 ct13 oc14 kV14 dc14 pm14 cd14 ct14 oc15 kV15 dc15 pm15 cd15 ct15 oc16 kV16 dc16 pm16 cd16 ct16 oc17 kV17 dc17 pm17 cd17 ct17 oc18 kV18 dc18 pm18 cd18 ct18 oc19 kV19 dc19 pm19 cd19 ct19 oc20 kV20 dc20 pm20 cd20 ct20 oc21 kV21 dc21 pm21 cd21 ct21 oc22 kV22 dc22 pm22 cd22 ct22 oc23 kV23 dc23 pm23 cd23 ct23 oc24 kV24 dc24 pm24 cd24 ct24 oc25 kV25 dc25 pm25 cd25 ct25 oc26 kV26 dc26 pm26 cd26 ct26 oc27 kV27 dc27 pm27 cd27 ct27 : Value}
    {t_MOST_STATES : Tok}
    {t_MOST_MOVES : Tok}
    {t_FIRST : Tok}
    {t_SECOND : Tok}
    {eT : Addr}
    {CS CG : Addr}
    {aN : Addr} {odN : Option Addr} {slN : Array (Option Value)} {nN : Nat} {tA tB : Tok}
    (a0 : PySem.W.nsIn K mainGlobals "_law_cell" = some (some (.ref f0)))
    (l0 : K.lookup f0 = some ⟨oc0, od0, .func (PySem.W.fnOf "_law_cell" "_law_cell" (defArgs s__law_cell) (defBody s__law_cell) (defScope s__law_cell) .none kV0 dc0 pm0 an0 cd0 ct0), sl0⟩)
    (c0 : PySem.W.codeIn K cd0 "_law_cell" = true)
    (k0 : PySem.W.keepIn K (.ref f0) = true)
    (a1 : PySem.W.nsIn K mainGlobals "_law_signs" = some (some (.ref f1)))
    (l1 : K.lookup f1 = some ⟨oc1, od1, .func (PySem.W.fnOf "_law_signs" "_law_signs" (defArgs s__law_signs) (defBody s__law_signs) (defScope s__law_signs) .none kV1 dc1 pm1 an1 cd1 ct1), sl1⟩)
    (c1 : PySem.W.codeIn K cd1 "_law_signs" = true)
    (k1 : PySem.W.keepIn K (.ref f1) = true)
    (a2 : PySem.W.nsIn K mainGlobals "_law_text" = some (some (.ref f2)))
    (l2 : K.lookup f2 = some ⟨oc2, od2, .func (PySem.W.fnOf "_law_text" "_law_text" (defArgs s__law_text) (defBody s__law_text) (defScope s__law_text) .none kV2 dc2 pm2 an2 cd2 ct2), sl2⟩)
    (c2 : PySem.W.codeIn K cd2 "_law_text" = true)
    (k2 : PySem.W.keepIn K (.ref f2) = true)
    (a3 : PySem.W.nsIn K mainGlobals "_law_road" = some (some (.ref f3)))
    (l3 : K.lookup f3 = some ⟨oc3, od3, .func (PySem.W.fnOf "_law_road" "_law_road" (defArgs s__law_road) (defBody s__law_road) (defScope s__law_road) .none kV3 dc3 pm3 an3 cd3 ct3), sl3⟩)
    (c3 : PySem.W.codeIn K cd3 "_law_road" = true)
    (k3 : PySem.W.keepIn K (.ref f3) = true)
    (a4 : PySem.W.nsIn K mainGlobals "_law_turned" = some (some (.ref f4)))
    (l4 : K.lookup f4 = some ⟨oc4, od4, .func (PySem.W.fnOf "_law_turned" "_law_turned" (defArgs s__law_turned) (defBody s__law_turned) (defScope s__law_turned) .none kV4 dc4 pm4 an4 cd4 ct4), sl4⟩)
    (c4 : PySem.W.codeIn K cd4 "_law_turned" = true)
    (k4 : PySem.W.keepIn K (.ref f4) = true)
    (a5 : PySem.W.nsIn K mainGlobals "_law_due" = some (some (.ref f5)))
    (l5 : K.lookup f5 = some ⟨oc5, od5, .func (PySem.W.fnOf "_law_due" "_law_due" (defArgs s__law_due) (defBody s__law_due) (defScope s__law_due) .none kV5 dc5 pm5 an5 cd5 ct5), sl5⟩)
    (c5 : PySem.W.codeIn K cd5 "_law_due" = true)
    (k5 : PySem.W.keepIn K (.ref f5) = true)
    (a6 : PySem.W.nsIn K mainGlobals "_law_is_refused" = some (some (.ref f6)))
    (l6 : K.lookup f6 = some ⟨oc6, od6, .func (PySem.W.fnOf "_law_is_refused" "_law_is_refused" (defArgs s__law_is_refused) (defBody s__law_is_refused) (defScope s__law_is_refused) .none kV6 dc6 pm6 an6 cd6 ct6), sl6⟩)
    (c6 : PySem.W.codeIn K cd6 "_law_is_refused" = true)
    (k6 : PySem.W.keepIn K (.ref f6) = true)
    (a7 : PySem.W.nsIn K mainGlobals "check_state" = some (some (.ref f7)))
    (l7 : K.lookup f7 = some ⟨oc7, od7, .func (PySem.W.fnOf "check_state" "check_state" (defArgs s_check_state) (defBody s_check_state) (defScope s_check_state) .none kV7 dc7 pm7 an7 cd7 ct7), sl7⟩)
    (c7 : PySem.W.codeIn K cd7 "check_state" = true)
    (k7 : PySem.W.keepIn K (.ref f7) = true)
    (a8 : PySem.W.nsIn K mainGlobals "check_sign" = some (some (.ref f8)))
    (l8 : K.lookup f8 = some ⟨oc8, od8, .func (PySem.W.fnOf "check_sign" "check_sign" (defArgs s_check_sign) (defBody s_check_sign) (defScope s_check_sign) .none kV8 dc8 pm8 an8 cd8 ct8), sl8⟩)
    (c8 : PySem.W.codeIn K cd8 "check_sign" = true)
    (k8 : PySem.W.keepIn K (.ref f8) = true)
    (a9 : PySem.W.nsIn K mainGlobals "check_machine" = some (some (.ref f9)))
    (l9 : K.lookup f9 = some ⟨oc9, od9, .func (PySem.W.fnOf "check_machine" "check_machine" (defArgs s_check_machine) (defBody s_check_machine) (defScope s_check_machine) .none kV9 dc9 pm9 an9 cd9 ct9), sl9⟩)
    (c9 : PySem.W.codeIn K cd9 "check_machine" = true)
    (k9 : PySem.W.keepIn K (.ref f9) = true)
    (a10 : PySem.W.nsIn K mainGlobals "gap_after" = some (some (.ref f10)))
    (l10 : K.lookup f10 = some ⟨oc10, od10, .func (PySem.W.fnOf "gap_after" "gap_after" (defArgs s_gap_after) (defBody s_gap_after) (defScope s_gap_after) .none kV10 dc10 pm10 an10 cd10 ct10), sl10⟩)
    (c10 : PySem.W.codeIn K cd10 "gap_after" = true)
    (k10 : PySem.W.keepIn K (.ref f10) = true)
    (a11 : PySem.W.nsIn K mainGlobals "twofold" = some (some (.ref f11)))
    (l11 : K.lookup f11 = some ⟨oc11, od11, .func (PySem.W.fnOf "twofold" "twofold" (defArgs s_twofold) (defBody s_twofold) (defScope s_twofold) .none kV11 dc11 pm11 an11 cd11 ct11), sl11⟩)
    (c11 : PySem.W.codeIn K cd11 "twofold" = true)
    (k11 : PySem.W.keepIn K (.ref f11) = true)
    (a12 : PySem.W.nsIn K mainGlobals "ahead" = some (some (.ref f12)))
    (l12 : K.lookup f12 = some ⟨oc12, od12, .func (PySem.W.fnOf "ahead" "ahead" (defArgs s_ahead) (defBody s_ahead) (defScope s_ahead) .none kV12 dc12 pm12 an12 cd12 ct12), sl12⟩)
    (c12 : PySem.W.codeIn K cd12 "ahead" = true)
    (k12 : PySem.W.keepIn K (.ref f12) = true)
    (a13 : PySem.W.nsIn K mainGlobals "law" = some (some (.ref f13)))
    (l13 : K.lookup f13 = some ⟨oc13, od13, .func (PySem.W.fnOf "law" "law" (defArgs s_law) (defBody s_law) (defScope s_law) .none kV13 dc13 pm13 an13 cd13 ct13), sl13⟩)
    (c13 : PySem.W.codeIn K cd13 "law" = true)
    (k13 : PySem.W.keepIn K (.ref f13) = true)
    (gCS : PySem.W.nsIn K mainGlobals "Square" = some (some (.ref CS)))
    (gCG : PySem.W.nsIn K mainGlobals "Gaps" = some (some (.ref CG)))
    (a14 : PySem.W.findIn K (.ref CS) "__init__" = some (some (.ref f14)))
    (i14 : PySem.W.isFn K (.ref f14) = true)
    (l14 : K.lookup f14 = some ⟨oc14, od14, .func (PySem.W.fnOf "__init__" "Square.__init__" (defArgs s_Square___init__) (defBody s_Square___init__) (defScope s_Square___init__) .none kV14 dc14 pm14 an14 cd14 ct14), sl14⟩)
    (c14 : PySem.W.codeIn K cd14 "Square.__init__" = true)
    (k14 : PySem.W.keepIn K (.ref f14) = true)
    (a15 : PySem.W.findIn K (.ref CS) "is_last" = some (some (.ref f15)))
    (i15 : PySem.W.isFn K (.ref f15) = true)
    (l15 : K.lookup f15 = some ⟨oc15, od15, .func (PySem.W.fnOf "is_last" "Square.is_last" (defArgs s_Square_is_last) (defBody s_Square_is_last) (defScope s_Square_is_last) .none kV15 dc15 pm15 an15 cd15 ct15), sl15⟩)
    (c15 : PySem.W.codeIn K cd15 "Square.is_last" = true)
    (k15 : PySem.W.keepIn K (.ref f15) = true)
    (a16 : PySem.W.findIn K (.ref CS) "steps" = some (some (.ref f16)))
    (i16 : PySem.W.isFn K (.ref f16) = true)
    (l16 : K.lookup f16 = some ⟨oc16, od16, .func (PySem.W.fnOf "steps" "Square.steps" (defArgs s_Square_steps) (defBody s_Square_steps) (defScope s_Square_steps) .none kV16 dc16 pm16 an16 cd16 ct16), sl16⟩)
    (c16 : PySem.W.codeIn K cd16 "Square.steps" = true)
    (k16 : PySem.W.keepIn K (.ref f16) = true)
    (a17 : PySem.W.findIn K (.ref CS) "found_before" = some (some (.ref f17)))
    (i17 : PySem.W.isFn K (.ref f17) = true)
    (l17 : K.lookup f17 = some ⟨oc17, od17, .func (PySem.W.fnOf "found_before" "Square.found_before" (defArgs s_Square_found_before) (defBody s_Square_found_before) (defScope s_Square_found_before) .none kV17 dc17 pm17 an17 cd17 ct17), sl17⟩)
    (c17 : PySem.W.codeIn K cd17 "Square.found_before" = true)
    (k17 : PySem.W.keepIn K (.ref f17) = true)
    (a18 : PySem.W.findIn K (.ref CS) "found_rest" = some (some (.ref f18)))
    (i18 : PySem.W.isFn K (.ref f18) = true)
    (l18 : K.lookup f18 = some ⟨oc18, od18, .func (PySem.W.fnOf "found_rest" "Square.found_rest" (defArgs s_Square_found_rest) (defBody s_Square_found_rest) (defScope s_Square_found_rest) .none kV18 dc18 pm18 an18 cd18 ct18), sl18⟩)
    (c18 : PySem.W.codeIn K cd18 "Square.found_rest" = true)
    (k18 : PySem.W.keepIn K (.ref f18) = true)
    (a19 : PySem.W.findIn K (.ref CS) "moved_from" = some (some (.ref f19)))
    (i19 : PySem.W.isFn K (.ref f19) = true)
    (l19 : K.lookup f19 = some ⟨oc19, od19, .func (PySem.W.fnOf "moved_from" "Square.moved_from" (defArgs s_Square_moved_from) (defBody s_Square_moved_from) (defScope s_Square_moved_from) .none kV19 dc19 pm19 an19 cd19 ct19), sl19⟩)
    (c19 : PySem.W.codeIn K cd19 "Square.moved_from" = true)
    (k19 : PySem.W.keepIn K (.ref f19) = true)
    (a20 : PySem.W.findIn K (.ref CG) "__init__" = some (some (.ref f20)))
    (i20 : PySem.W.isFn K (.ref f20) = true)
    (l20 : K.lookup f20 = some ⟨oc20, od20, .func (PySem.W.fnOf "__init__" "Gaps.__init__" (defArgs s_Gaps___init__) (defBody s_Gaps___init__) (defScope s_Gaps___init__) .none kV20 dc20 pm20 an20 cd20 ct20), sl20⟩)
    (c20 : PySem.W.codeIn K cd20 "Gaps.__init__" = true)
    (k20 : PySem.W.keepIn K (.ref f20) = true)
    (a21 : PySem.W.findIn K (.ref CG) "measure" = some (some (.ref f21)))
    (i21 : PySem.W.isFn K (.ref f21) = true)
    (l21 : K.lookup f21 = some ⟨oc21, od21, .func (PySem.W.fnOf "measure" "Gaps.measure" (defArgs s_Gaps_measure) (defBody s_Gaps_measure) (defScope s_Gaps_measure) .none kV21 dc21 pm21 an21 cd21 ct21), sl21⟩)
    (c21 : PySem.W.codeIn K cd21 "Gaps.measure" = true)
    (k21 : PySem.W.keepIn K (.ref f21) = true)
    (a22 : PySem.W.findIn K (.ref CG) "measure_from" = some (some (.ref f22)))
    (i22 : PySem.W.isFn K (.ref f22) = true)
    (l22 : K.lookup f22 = some ⟨oc22, od22, .func (PySem.W.fnOf "measure_from" "Gaps.measure_from" (defArgs s_Gaps_measure_from) (defBody s_Gaps_measure_from) (defScope s_Gaps_measure_from) .none kV22 dc22 pm22 an22 cd22 ct22), sl22⟩)
    (c22 : PySem.W.codeIn K cd22 "Gaps.measure_from" = true)
    (k22 : PySem.W.keepIn K (.ref f22) = true)
    (a23 : PySem.W.findIn K (.ref CG) "can_be" = some (some (.ref f23)))
    (i23 : PySem.W.isFn K (.ref f23) = true)
    (l23 : K.lookup f23 = some ⟨oc23, od23, .func (PySem.W.fnOf "can_be" "Gaps.can_be" (defArgs s_Gaps_can_be) (defBody s_Gaps_can_be) (defScope s_Gaps_can_be) .none kV23 dc23 pm23 an23 cd23 ct23), sl23⟩)
    (c23 : PySem.W.codeIn K cd23 "Gaps.can_be" = true)
    (k23 : PySem.W.keepIn K (.ref f23) = true)
    (a24 : PySem.W.findIn K (.ref CG) "prove" = some (some (.ref f24)))
    (i24 : PySem.W.isFn K (.ref f24) = true)
    (l24 : K.lookup f24 = some ⟨oc24, od24, .func (PySem.W.fnOf "prove" "Gaps.prove" (defArgs s_Gaps_prove) (defBody s_Gaps_prove) (defScope s_Gaps_prove) .none kV24 dc24 pm24 an24 cd24 ct24), sl24⟩)
    (c24 : PySem.W.codeIn K cd24 "Gaps.prove" = true)
    (k24 : PySem.W.keepIn K (.ref f24) = true)
    (a25 : PySem.W.findIn K (.ref CG) "proof_by" = some (some (.ref f25)))
    (i25 : PySem.W.isFn K (.ref f25) = true)
    (l25 : K.lookup f25 = some ⟨oc25, od25, .func (PySem.W.fnOf "proof_by" "Gaps.proof_by" (defArgs s_Gaps_proof_by) (defBody s_Gaps_proof_by) (defScope s_Gaps_proof_by) .none kV25 dc25 pm25 an25 cd25 ct25), sl25⟩)
    (c25 : PySem.W.codeIn K cd25 "Gaps.proof_by" = true)
    (k25 : PySem.W.keepIn K (.ref f25) = true)
    (a26 : PySem.W.findIn K (.ref CG) "told" = some (some (.ref f26)))
    (i26 : PySem.W.isFn K (.ref f26) = true)
    (l26 : K.lookup f26 = some ⟨oc26, od26, .func (PySem.W.fnOf "told" "Gaps.told" (defArgs s_Gaps_told) (defBody s_Gaps_told) (defScope s_Gaps_told) .none kV26 dc26 pm26 an26 cd26 ct26), sl26⟩)
    (c26 : PySem.W.codeIn K cd26 "Gaps.told" = true)
    (k26 : PySem.W.keepIn K (.ref f26) = true)
    (a27 : PySem.W.findIn K (.ref CG) "moved_to" = some (some (.ref f27)))
    (i27 : PySem.W.isFn K (.ref f27) = true)
    (l27 : K.lookup f27 = some ⟨oc27, od27, .func (PySem.W.fnOf "moved_to" "Gaps.moved_to" (defArgs s_Gaps_moved_to) (defBody s_Gaps_moved_to) (defScope s_Gaps_moved_to) .none kV27 dc27 pm27 an27 cd27 ct27), sl27⟩)
    (c27 : PySem.W.codeIn K cd27 "Gaps.moved_to" = true)
    (k27 : PySem.W.keepIn K (.ref f27) = true)
    (pgCS : PySem.W.plainGet K CS Str.empty = true)
    (hdCS : PySem.W.hasDictIn K CS = true)
    (poCS : PySem.W.plainOver K CS = true)
    (saCS : PySem.W.findIn K (.ref CS) "__setattr__" = some (some (.builtin "object.__setattr__")))
    (mkCS : PySem.W.makesIn K CS = true)
    (kcCS : PySem.W.keepIn K (.ref CS) = true)
    (naCS_moves : PySem.W.findIn K (.ref CS) "moves" = some none)
    (naCS_leaving : PySem.W.findIn K (.ref CS) "leaving" = some none)
    (naCS_first : PySem.W.findIn K (.ref CS) "first" = some none)
    (naCS_ends : PySem.W.findIn K (.ref CS) "ends" = some none)
    (naCS_rest : PySem.W.findIn K (.ref CS) "rest" = some none)
    (pgCG : PySem.W.plainGet K CG Str.empty = true)
    (hdCG : PySem.W.hasDictIn K CG = true)
    (poCG : PySem.W.plainOver K CG = true)
    (saCG : PySem.W.findIn K (.ref CG) "__setattr__" = some (some (.builtin "object.__setattr__")))
    (mkCG : PySem.W.makesIn K CG = true)
    (kcCG : PySem.W.keepIn K (.ref CG) = true)
    (naCG_square : PySem.W.findIn K (.ref CG) "square" = some none)
    (naCG_found : PySem.W.findIn K (.ref CG) "found" = some none)
    (naCG_came : PySem.W.findIn K (.ref CG) "came" = some none)
    (naCG_proof : PySem.W.findIn K (.ref CG) "proof" = some none)
    (gN : PySem.W.nsIn K mainGlobals "NO_GAP" = some (some (.ref aN)))
    (vN : K.lookup aN = some ⟨.type "tuple", odN, .seq #[.str emS tA, .str emS tB] nN, slN⟩)
    (u_MOST_STATES : PySem.W.nsIn K mainGlobals "MOST_STATES" = some (some (.int 100 t_MOST_STATES)))
    (u_MOST_MOVES : PySem.W.nsIn K mainGlobals "MOST_MOVES" = some (some (.int 1000 t_MOST_MOVES)))
    (u_FIRST : PySem.W.nsIn K mainGlobals "FIRST" = some (some (.int 0 t_FIRST)))
    (u_SECOND : PySem.W.nsIn K mainGlobals "SECOND" = some (some (.int 1 t_SECOND)))
    (z_len : PySem.W.nsIn K mainGlobals "len" = some none)
    (z_list : PySem.W.nsIn K mainGlobals "list" = some none)
    (z_range : PySem.W.nsIn K mainGlobals "range" = some none)
    (z_isinstance : PySem.W.nsIn K mainGlobals "isinstance" = some none)
    (z_int : PySem.W.nsIn K mainGlobals "int" = some none)
    (z_bool : PySem.W.nsIn K mainGlobals "bool" = some none)
    (z_tuple : PySem.W.nsIn K mainGlobals "tuple" = some none)
    (z_str : PySem.W.nsIn K mainGlobals "str" = some none)
    (z_dict : PySem.W.nsIn K mainGlobals "dict" = some none)
    (z_sorted : PySem.W.nsIn K mainGlobals "sorted" = some none)
    (z_min : PySem.W.nsIn K mainGlobals "min" = some none)
    (z_max : PySem.W.nsIn K mainGlobals "max" = some none)
    (z_sum : PySem.W.nsIn K mainGlobals "sum" = some none)
    (z_enumerate : PySem.W.nsIn K mainGlobals "enumerate" = some none)
    (geT : PySem.W.nsIn K mainGlobals "Twofold" = some (some (.ref eT)))
    (xT_hs : PySem.W.subIn K (.ref eT) (.type "BaseException") = some true)
    (xT_hd : PySem.W.hasDictIn K eT = true)
    (q_yT : PySem.W.typeIn K (.ref eT) = some (.type "type"))
    (q_zTT : PySem.W.subIn K (.ref eT) (.ref eT) = some true)
    (rq : PySem.W.excIn K eT [.type "ValueError", .type "Exception", .type "BaseException", .type "object"] "ValueError.__new__" = true)
    (rk : PySem.W.keepIn K (.ref eT) = true)
    : ∃ fd : FuncData, (∀ (s : Shared) (u : Value), BindsTo s fd ⟨[u], []⟩ [("_law_script", u)]) ∧ ∀ base : Heap, K.In base → base.Ns mainGlobals mg → FnOk lw.prog w K mg base CX0 12 fa fd ["_law_script"] (spLaw K) := by
  have T : Txt K mg := { c_MOST_STATES := ⟨_, PySem.W.mg_of X G u_MOST_STATES⟩, c_MOST_MOVES := ⟨_, PySem.W.mg_of X G u_MOST_MOVES⟩, n_len := PySem.W.mg_none_of X G z_len, n_list := PySem.W.mg_none_of X G z_list, n_range := PySem.W.mg_none_of X G z_range, n_isinstance := PySem.W.mg_none_of X G z_isinstance, n_int := PySem.W.mg_none_of X G z_int, n_bool := PySem.W.mg_none_of X G z_bool, n_tuple := PySem.W.mg_none_of X G z_tuple, n_str := PySem.W.mg_none_of X G z_str, n_dict := PySem.W.mg_none_of X G z_dict, n_sorted := PySem.W.mg_none_of X G z_sorted, n_min := PySem.W.mg_none_of X G z_min, n_max := PySem.W.mg_none_of X G z_max, n_sum := PySem.W.mg_none_of X G z_sum }
  have TS : TxtS K mg CS CG aN := { toTxt := T, c_FIRST := ⟨_, PySem.W.mg_of X G u_FIRST⟩, c_SECOND := ⟨_, PySem.W.mg_of X G u_SECOND⟩, n_enumerate := PySem.W.mg_none_of X G z_enumerate, g_NO_GAP := PySem.W.mg_of X G gN, k_NO_GAP := fun H => .inr ⟨_, _, _, vN, rfl, rfl, by show 2 ≤ sizeLine; decide, .cons ⟨_, rfl⟩ (.cons ⟨_, rfl⟩ .nil)⟩, cl_Square := ⟨pgCS, hdCS, poCS, saCS⟩, cl_Gaps := ⟨pgCG, hdCG, poCG, saCG⟩, na_moves := naCS_moves, na_leaving := naCS_leaving, na_first := naCS_first, na_ends := naCS_ends, na_rest := naCS_rest, na_square := naCG_square, na_found := naCG_found, na_came := naCG_came, na_proof := naCG_proof }
  have ET : ErrT K mg eT := ⟨PySem.W.mg_of X G geT, PySem.W.exm_ref xT_hs xT_hd q_yT q_zTT⟩
  have R : RaiseOk K mg "Twofold" eT := ⟨PySem.W.mg_of X G geT, rq, rk, xT_hs, q_yT⟩
  refine law_at (st := s_law) X G hfa a13 l13 c13 k13 (fun s u => .of_eq rfl) (fun base f fd F => ?_)
  have F__law_cell : FunAt K mg "_law_cell" s__law_cell := fun_at X G a0 l0 c0 k0
  have F__law_signs : FunAt K mg "_law_signs" s__law_signs := fun_at X G a1 l1 c1 k1
  have F__law_text : FunAt K mg "_law_text" s__law_text := fun_at X G a2 l2 c2 k2
  have F__law_road : FunAt K mg "_law_road" s__law_road := fun_at X G a3 l3 c3 k3
  have F__law_turned : FunAt K mg "_law_turned" s__law_turned := fun_at X G a4 l4 c4 k4
  have F__law_due : FunAt K mg "_law_due" s__law_due := fun_at X G a5 l5 c5 k5
  have F__law_is_refused : FunAt K mg "_law_is_refused" s__law_is_refused := fun_at X G a6 l6 c6 k6
  have F_check_state : FunAt K mg "check_state" s_check_state := fun_at X G a7 l7 c7 k7
  have F_check_sign : FunAt K mg "check_sign" s_check_sign := fun_at X G a8 l8 c8 k8
  have F_check_machine : FunAt K mg "check_machine" s_check_machine := fun_at X G a9 l9 c9 k9
  have F_gap_after : FunAt K mg "gap_after" s_gap_after := fun_at X G a10 l10 c10 k10
  have F_twofold : FunAt K mg "twofold" s_twofold := fun_at X G a11 l11 c11 k11
  have F_ahead : FunAt K mg "ahead" s_ahead := fun_at X G a12 l12 c12 k12
  have F_Square_init : MakAt K mg CS "Square" "Square.__init__" s_Square___init__ := mak_at X G gCS mkCS a14 i14 kcCS l14 c14 k14
  have F_Square_is_last : MetAt K CS "is_last" "Square.is_last" s_Square_is_last := met_at a15 i15 l15 c15 k15
  have F_Square_steps : MetAt K CS "steps" "Square.steps" s_Square_steps := met_at a16 i16 l16 c16 k16
  have F_Square_found_before : MetAt K CS "found_before" "Square.found_before" s_Square_found_before := met_at a17 i17 l17 c17 k17
  have F_Square_found_rest : MetAt K CS "found_rest" "Square.found_rest" s_Square_found_rest := met_at a18 i18 l18 c18 k18
  have F_Square_moved_from : MetAt K CS "moved_from" "Square.moved_from" s_Square_moved_from := met_at a19 i19 l19 c19 k19
  have F_Gaps_init : MakAt K mg CG "Gaps" "Gaps.__init__" s_Gaps___init__ := mak_at X G gCG mkCG a20 i20 kcCG l20 c20 k20
  have F_Gaps_measure : MetAt K CG "measure" "Gaps.measure" s_Gaps_measure := met_at a21 i21 l21 c21 k21
  have F_Gaps_measure_from : MetAt K CG "measure_from" "Gaps.measure_from" s_Gaps_measure_from := met_at a22 i22 l22 c22 k22
  have F_Gaps_can_be : MetAt K CG "can_be" "Gaps.can_be" s_Gaps_can_be := met_at a23 i23 l23 c23 k23
  have F_Gaps_prove : MetAt K CG "prove" "Gaps.prove" s_Gaps_prove := met_at a24 i24 l24 c24 k24
  have F_Gaps_proof_by : MetAt K CG "proof_by" "Gaps.proof_by" s_Gaps_proof_by := met_at a25 i25 l25 c25 k25
  have F_Gaps_told : MetAt K CG "told" "Gaps.told" s_Gaps_told := met_at a26 i26 l26 c26 k26
  have F_Gaps_moved_to : MetAt K CG "moved_to" "Gaps.moved_to" s_Gaps_moved_to := met_at a27 i27 l27 c27 k27
  have C_Square_is_last := ok_Square_is_last (P := lw.prog) (w := w) (base := base) F_Square_is_last TS
  have C_Square_steps := ok_Square_steps (P := lw.prog) (w := w) (base := base) F_Square_steps TS
  have C_Square_found_before := ok_Square_found_before (P := lw.prog) (w := w) (base := base) F_Square_found_before TS C_Square_steps
  have C_Square_found_rest := ok_Square_found_rest (P := lw.prog) (w := w) (base := base) F_Square_found_rest TS C_Square_found_before C_Square_is_last
  have C_Square_moved_from := ok_Square_moved_from (P := lw.prog) (w := w) (base := base) F_Square_moved_from TS
  have C_Square_init := ok_Square_init (P := lw.prog) (w := w) (base := base) F_Square_init TS C_Square_found_rest
  have C_gap_after := ok_gap_after (P := lw.prog) (w := w) (base := base) F_gap_after TS
  have C_Gaps_told := ok_Gaps_told (P := lw.prog) (w := w) (base := base) F_Gaps_told TS
  have C_Gaps_proof_by := ok_Gaps_proof_by (P := lw.prog) (w := w) (base := base) F_Gaps_proof_by TS C_Gaps_told
  have C_Gaps_moved_to := ok_Gaps_moved_to (P := lw.prog) (w := w) (base := base) F_Gaps_moved_to TS
  have C_Gaps_can_be := ok_Gaps_can_be (P := lw.prog) (w := w) (base := base) F_Gaps_can_be TS C_Square_is_last
  have C_Gaps_prove := ok_Gaps_prove (P := lw.prog) (w := w) (base := base) F_Gaps_prove TS C_Square_moved_from C_Gaps_moved_to C_Gaps_proof_by
  have C_Gaps_measure_from := ok_Gaps_measure_from (P := lw.prog) (w := w) (base := base) F_Gaps_measure_from TS C_Square_steps C_gap_after C_Gaps_can_be C_Gaps_prove
  have C_Gaps_measure := ok_Gaps_measure (P := lw.prog) (w := w) (base := base) F_Gaps_measure TS C_Gaps_measure_from
  have C_Gaps_init := ok_Gaps_init (P := lw.prog) (w := w) (base := base) F_Gaps_init TS C_Square_init C_Gaps_measure
  have C_check_state := ok_check_state (P := lw.prog) (w := w) (base := base) F_check_state 
  have C_check_sign := ok_check_sign (P := lw.prog) (w := w) (base := base) F_check_sign T
  have C_check_machine := ok_check_machine (P := lw.prog) (w := w) (base := base) F_check_machine T C_check_state C_check_sign
  have C_twofold := ok_twofold (P := lw.prog) (w := w) (base := base) F_twofold TS C_check_machine C_Gaps_init
  have C_ahead := ok_ahead (P := lw.prog) (w := w) (base := base) F_ahead TS R T.n_sorted C_check_machine C_Gaps_init
  have C__law_cell := ok__law_cell (P := lw.prog) (w := w) (base := base) F__law_cell T
  have C__law_signs := ok__law_signs (P := lw.prog) (w := w) (base := base) F__law_signs 
  have C__law_text := ok__law_text (P := lw.prog) (w := w) (base := base) F__law_text T
  have C__law_road := ok__law_road (P := lw.prog) (w := w) (base := base) F__law_road T
  have C__law_turned := ok__law_turned (P := lw.prog) (w := w) (base := base) F__law_turned 
  have C__law_due := ok__law_due (P := lw.prog) (w := w) (base := base) F__law_due T
  have C__law_is_refused := ok__law_is_refused (P := lw.prog) (w := w) (base := base) F__law_is_refused T ET C_ahead
  exact ok_law F T C__law_cell C__law_signs C__law_text C__law_road C__law_turned C__law_due C__law_is_refused C_twofold C_ahead
end Tw
open PySem PySem.W PyProof.Rows in
set_option maxRecDepth 100000 in
set_option maxHeartbeats 0 in
theorem PySem.Challenge.cw_turnwriter_k12_one_writes_later_holds : PySem.Challenge.rw_turnwriter_k12_one_writes_later.Holds := by
  w_on; o_law; k_head; (case hw => w_witness2)
  k_fill
  refine L2.walk_of (l := PySem.Challenge.rw_turnwriter_k12_one_writes_later) (n := 63) (k := 12) (x := "_law_script") (CX := fun _ => L2.CX0) (sp := fun w => Tw.spLaw _) rfl (by decide) rfl ⟨rfl, by decide, by decide⟩ (fun w h Y => PySem.W.kIn_of Y) ?F (fun _ _ a ns hl _ hS => ⟨a, ns, rfl, hS, hl, fun _ => rfl⟩) (fun _ _ _ _ _ h => h)
  case F =>
    intro w mg fa h KX G hmg
    refine' Tw.all_mk KX G hmg ?a0 ?l0 ?c0 ?k0 ?a1 ?l1 ?c1 ?k1 ?a2 ?l2 ?c2 ?k2 ?a3 ?l3 ?c3 ?k3 ?a4 ?l4 ?c4 ?k4 ?a5 ?l5 ?c5 ?k5 ?a6 ?l6 ?c6 ?k6 ?a7 ?l7 ?c7 ?k7 ?a8 ?l8 ?c8 ?k8 ?a9 ?l9 ?c9 ?k9 ?a10 ?l10 ?c10 ?k10 ?a11 ?l11 ?c11 ?k11 ?a12 ?l12 ?c12 ?k12 ?a13 ?l13 ?c13 ?k13 ?gCS ?gCG ?a14 ?i14 ?l14 ?c14 ?k14 ?a15 ?i15 ?l15 ?c15 ?k15 ?a16 ?i16 ?l16 ?c16 ?k16 ?a17 ?i17 ?l17 ?c17 ?k17 ?a18 ?i18 ?l18 ?c18 ?k18 ?a19 ?i19 ?l19 ?c19 ?k19 ?a20 ?i20 ?l20 ?c20 ?k20 ?a21 ?i21 ?l21 ?c21 ?k21 ?a22 ?i22 ?l22 ?c22 ?k22 ?a23 ?i23 ?l23 ?c23 ?k23 ?a24 ?i24 ?l24 ?c24 ?k24 ?a25 ?i25 ?l25 ?c25 ?k25 ?a26 ?i26 ?l26 ?c26 ?k26 ?a27 ?i27 ?l27 ?c27 ?k27 ?pgCS ?hdCS ?poCS ?saCS ?mkCS ?kcCS ?naCS_moves ?naCS_leaving ?naCS_first ?naCS_ends ?naCS_rest ?pgCG ?hdCG ?poCG ?saCG ?mkCG ?kcCG ?naCG_square ?naCG_found ?naCG_came ?naCG_proof ?gN ?vN ?u_MOST_STATES ?u_MOST_MOVES ?u_FIRST ?u_SECOND ?z_len ?z_list ?z_range ?z_isinstance ?z_int ?z_bool ?z_tuple ?z_str ?z_dict ?z_sorted ?z_min ?z_max ?z_sum ?z_enumerate ?geT ?xT_hs ?xT_hd ?q_yT ?q_zTT ?rq ?rk
    (case a0 => k_is)
    (case l0 => k_is)
    (case c0 => k_is)
    (case k0 => k_is)
    (case a1 => k_is)
    (case l1 => k_is)
    (case c1 => k_is)
    (case k1 => k_is)
    (case a2 => k_is)
    (case l2 => k_is)
    (case c2 => k_is)
    (case k2 => k_is)
    (case a3 => k_is)
    (case l3 => k_is)
    (case c3 => k_is)
    (case k3 => k_is)
    (case a4 => k_is)
    (case l4 => k_is)
    (case c4 => k_is)
    (case k4 => k_is)
    (case a5 => k_is)
    (case l5 => k_is)
    (case c5 => k_is)
    (case k5 => k_is)
    (case a6 => k_is)
    (case l6 => k_is)
    (case c6 => k_is)
    (case k6 => k_is)
    (case a7 => k_is)
    (case l7 => k_is)
    (case c7 => k_is)
    (case k7 => k_is)
    (case a8 => k_is)
    (case l8 => k_is)
    (case c8 => k_is)
    (case k8 => k_is)
    (case a9 => k_is)
    (case l9 => k_is)
    (case c9 => k_is)
    (case k9 => k_is)
    (case a10 => k_is)
    (case l10 => k_is)
    (case c10 => k_is)
    (case k10 => k_is)
    (case a11 => k_is)
    (case l11 => k_is)
    (case c11 => k_is)
    (case k11 => k_is)
    (case a12 => k_is)
    (case l12 => k_is)
    (case c12 => k_is)
    (case k12 => k_is)
    (case a13 => k_is)
    (case l13 => k_is)
    (case c13 => k_is)
    (case k13 => k_is)
    (case gCS => k_is)
    (case gCG => k_is)
    (case a14 => k_is)
    (case i14 => k_is)
    (case l14 => k_is)
    (case c14 => k_is)
    (case k14 => k_is)
    (case a15 => k_is)
    (case i15 => k_is)
    (case l15 => k_is)
    (case c15 => k_is)
    (case k15 => k_is)
    (case a16 => k_is)
    (case i16 => k_is)
    (case l16 => k_is)
    (case c16 => k_is)
    (case k16 => k_is)
    (case a17 => k_is)
    (case i17 => k_is)
    (case l17 => k_is)
    (case c17 => k_is)
    (case k17 => k_is)
    (case a18 => k_is)
    (case i18 => k_is)
    (case l18 => k_is)
    (case c18 => k_is)
    (case k18 => k_is)
    (case a19 => k_is)
    (case i19 => k_is)
    (case l19 => k_is)
    (case c19 => k_is)
    (case k19 => k_is)
    (case a20 => k_is)
    (case i20 => k_is)
    (case l20 => k_is)
    (case c20 => k_is)
    (case k20 => k_is)
    (case a21 => k_is)
    (case i21 => k_is)
    (case l21 => k_is)
    (case c21 => k_is)
    (case k21 => k_is)
    (case a22 => k_is)
    (case i22 => k_is)
    (case l22 => k_is)
    (case c22 => k_is)
    (case k22 => k_is)
    (case a23 => k_is)
    (case i23 => k_is)
    (case l23 => k_is)
    (case c23 => k_is)
    (case k23 => k_is)
    (case a24 => k_is)
    (case i24 => k_is)
    (case l24 => k_is)
    (case c24 => k_is)
    (case k24 => k_is)
    (case a25 => k_is)
    (case i25 => k_is)
    (case l25 => k_is)
    (case c25 => k_is)
    (case k25 => k_is)
    (case a26 => k_is)
    (case i26 => k_is)
    (case l26 => k_is)
    (case c26 => k_is)
    (case k26 => k_is)
    (case a27 => k_is)
    (case i27 => k_is)
    (case l27 => k_is)
    (case c27 => k_is)
    (case k27 => k_is)
    (case pgCS => k_is)
    (case hdCS => k_is)
    (case poCS => k_is)
    (case saCS => k_is)
    (case mkCS => k_is)
    (case kcCS => k_is)
    (case naCS_moves => k_is)
    (case naCS_leaving => k_is)
    (case naCS_first => k_is)
    (case naCS_ends => k_is)
    (case naCS_rest => k_is)
    (case pgCG => k_is)
    (case hdCG => k_is)
    (case poCG => k_is)
    (case saCG => k_is)
    (case mkCG => k_is)
    (case kcCG => k_is)
    (case naCG_square => k_is)
    (case naCG_found => k_is)
    (case naCG_came => k_is)
    (case naCG_proof => k_is)
    (case gN => k_is)
    (case vN => k_is)
    (case u_MOST_STATES => k_is)
    (case u_MOST_MOVES => k_is)
    (case u_FIRST => k_is)
    (case u_SECOND => k_is)
    (case z_len => k_is)
    (case z_list => k_is)
    (case z_range => k_is)
    (case z_isinstance => k_is)
    (case z_int => k_is)
    (case z_bool => k_is)
    (case z_tuple => k_is)
    (case z_str => k_is)
    (case z_dict => k_is)
    (case z_sorted => k_is)
    (case z_min => k_is)
    (case z_max => k_is)
    (case z_sum => k_is)
    (case z_enumerate => k_is)
    (case geT => k_is)
    (case xT_hs => k_is)
    (case xT_hd => k_is)
    (case q_yT => k_is)
    (case q_zTT => k_is)
    (case rq => k_exc)
    (case rk => k_is)

