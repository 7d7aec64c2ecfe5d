import PyProof.Rows.All
import Wide.All
import OpenK.AllK
import Wide.FinOn
import KE.KStateDown
import HandS.Head0
import HandS.Head1
import HandS.Head2
import KE.KDictDisplayH
import HandS.HeadHook1
import HandS.Ends
import HandS.HeadEnd
import HandS.ForMost
import HandS.IsInst
import HandS.Defaults
import HandS.Wide
import HandS.TupAny
import HandS.TupLe
import HandS.AnyAll
import HandS.More
import HandS.WrittenGet
import HandS.Comp
import PyProof.WalksPairs
import PyProof.GenCompT
import HandS.Set
import HandS.SetTxt0
import HandS.Iter
import HandS.Zip
import HandS.Deep
import HandS.HeadHook4
import HandS.HeadWalk
import HandS.HeadHook2
import HandS.HeadHook3
import HandS.Base
import HandS.Call
import HandS.Words
import PySem.Challenge.RW_regionsay_k02_what_leads_to_what
set_option Elab.async false
set_option linter.all false
set_option maxRecDepth 100000
set_option maxHeartbeats 0
/-! LedRun -/
namespace LedRun
open PySem PySem.W PySem.Calls PyProof.Rows
section
variable {den : Code → Sem Fin} {pr : Program} {w : World}
/-- a step, or several: calm all the way -/
inductive Rn (den : Code → Sem Fin) (pr : Program) (w : World) : Shared → Thread → Shared → Thread → Prop
  | refl {s s2 t t2} (hs : Shared.forget s = Shared.forget s2) (ht : Thread.forget t = Thread.forget t2) : Rn den pr w s t s2 t2
  | step {s t s1 t1 s2 t2} (c : Thread.calm t = true) (h : (PySem.step den pr w s t).forget = (Step.go s1 t1).forget) (r : Rn den pr w s1 t1 s2 t2) : Rn den pr w s t s2 t2
theorem Rn.trans {s t s1 t1 s2 t2} (a : Rn den pr w s t s1 t1) (b : Rn den pr w s1 t1 s2 t2) : Rn den pr w s t s2 t2 := by
  induction a with
  | refl hs ht =>
    cases b with
    | refl hs' ht' => exact .refl (hs.trans hs') (ht.trans ht')
    | step c h r =>
      refine .step ?_ ?_ r
      · rw [← Thread.calm_forget, ht, Thread.calm_forget]; exact c
      · exact (step_same den pr w hs ht).trans h
  | step c h _ ih => exact .step c h (ih b)
theorem Rn.one {s t s1 t1} (c : Thread.calm t = true) (h : PySem.step den pr w s t = .go s1 t1) : Rn den pr w s t s1 t1 := .step c (by rw [h]) (.refl rfl rfl)
/-- what the scheduler does with it -/
theorem Rn.sched {s t s2 t2} (a : Rn den pr w s t s2 t2) : ∀ {s0 : Shared} {t0 : Thread}, s0.forget = s.forget → t0.forget = t.forget → s0.asleep →
    ∃ m σ τ, schedN den pr w m (.single s0 t0) = .running (.single σ τ) ∧ σ.forget = s2.forget ∧ τ.forget = t2.forget ∧ σ.heap.life = s0.heap.life := by
  induction a with
  | refl hs ht => exact fun es et hr => ⟨0, _, _, rfl, es.trans hs, et.trans ht, rfl⟩
  | step c h _ ih =>
    intro s0 t0 es et hr
    have c0 : t0.calm = true := by rw [← Thread.calm_forget, et, Thread.calm_forget]; exact c
    have h0 := (step_same den pr w es et).trans h
    cases e : PySem.step den pr w s0 t0 with
    | halt o z => rw [e] at h0; cases h0
    | go z u =>
      rw [e] at h0
      simp only [Step.forget, Step.go.injEq] at h0
      have el := step_life den pr w s0 z t0 u e
      obtain ⟨m, σ, τ, hm, h1, h2, h3⟩ := ih h0.1 h0.2 (Shared.asleep_of_life el hr)
      refine ⟨m + 1, σ, τ, ?_, h1, h2, h3.trans el⟩
      have q : sstep den pr w (.single s0 t0) = .go (.single z u) := by
        rcases sstep_single den pr w s0 t0 c0 hr with q | q
        · rw [q, e]; rfl
        · rw [e] at q; cases q
      simp only [schedN, q]
      exact hm
/-- a run of the model's own machine -/
theorem Rn.ofI : ∀ {n : Nat} {s t s2 t2}, runNI den pr w n s t = .running s2 t2 → Rn den pr w s t s2 t2
  | 0, s, t, s2, t2, h => by
    injection h with a b
    subst a b
    exact .refl rfl rfl
  | n + 1, s, t, s2, t2, h => by
    simp only [runNI] at h
    cases hl : t.loud with
    | true => simp only [stepI_loud den pr w hl] at h; cases h
    | false =>
      simp only [stepI_quiet den pr w hl] at h
      cases hr : t.refused with
      | true =>
        obtain ⟨what, e⟩ := stepK_refused den pr w (s := s) hr
        simp only [e] at h
        cases h
      | false =>
        cases hs : stepK den pr w s t with
        | halt o z => simp only [hs] at h; cases h
        | go z u =>
          simp only [hs] at h
          refine .step (by rw [Thread.calm_eq, hl, hr]; rfl) ?_ (Rn.ofI h)
          rw [← stepK_forget, hs]
end
section
variable {M : Model}
/-- what is shown of a part of the code, as a run of the whole: behind it stands the continuation -/
theorem wpRun {α : Type} {K : α → Sem Fin} {H : Value → Sem Fin} {gd : Bool → Bool} {lv : List Value → List Value} {G : Ctx} {st : List Frame} (hf : G.Fits st) (t : Sem α) :
    ∀ (Q : α → Pos → Shared → Prop) (p : Pos) (s : Shared), Sem.wp M G t Q (fun _ _ _ => False) p s →
      ∃ a s2 p2, Q a p2 s2 ∧ Comes M s ⟨t.wrap K H gd lv, G.code, p, st⟩ s2 ⟨K a, G.code, p2, st⟩ := by
  induction t with
  | pure a => exact fun Q p s h => ⟨a, s, p, h, .refl _ _⟩
  | raise e => exact fun Q p s h => h.elim
  | unsupported _ => exact fun Q p s h => h.elim
  | finish _ => exact fun Q p s h => h.elim
  | rule tag k ih => exact fun Q p s h => let ⟨a, s2, p2, q, c⟩ := ih () Q p s h; ⟨a, s2, p2, q, .step (step_rule ..) c⟩
  | «at» p0 k ih => exact fun Q p s h => let ⟨a, s2, p2, q, c⟩ := ih () Q p0 s h; ⟨a, s2, p2, q, .step (step_at ..) c⟩
  | load b part k ih => exact fun Q p s ⟨o, ho, h⟩ => let ⟨a, s2, p2, q, c⟩ := ih o Q p s h; ⟨a, s2, p2, q, .step (step_load _ _ _ _ _ _ _ ho) c⟩
  | update b part f k ih => exact fun Q p s ⟨hb, h⟩ => let ⟨a, s2, p2, q, c⟩ := ih () Q p _ h; ⟨a, s2, p2, q, .step (step_update _ _ _ _ _ _ _ _ hb) c⟩
  | loadIfAlive b k ih => exact fun Q p s h => let ⟨a, s2, p2, q, c⟩ := ih _ Q p s h; ⟨a, s2, p2, q, .step (step_loadIfAlive ..) c⟩
  | point l k ih => exact fun Q p s h => let ⟨a, s2, p2, q, c⟩ := ih () Q p s h; ⟨a, s2, p2, q, .step (step_point ..) c⟩
  | register b k _ => exact fun Q p s h => h.elim
  | alloc o k ih => exact fun Q p s h => let ⟨a, s2, p2, q, c⟩ := ih _ Q p _ h; ⟨a, s2, p2, q, .step (step_alloc ..) c⟩
  | fresh k ih => exact fun Q p s h => let ⟨a, s2, p2, q, c⟩ := ih _ Q p _ h; ⟨a, s2, p2, q, .step (step_fresh ..) c⟩
  | ask k ih => exact fun Q p s h => let ⟨a, s2, p2, q, c⟩ := ih _ Q p s h; ⟨a, s2, p2, q, .step (step_ask ..) c⟩
  | choose src n k ih => exact fun Q p s ⟨hn, h⟩ => let ⟨a, s2, p2, q, c⟩ := ih _ Q p _ h; ⟨a, s2, p2, q, .step (step_choose _ _ _ _ _ _ _ hn) c⟩
  | os qq l k ih => exact fun Q p s h => let ⟨a, s2, p2, q, c⟩ := ih _ Q p _ h; ⟨a, s2, p2, q, .step (step_os ..) c⟩
  | call cd h0 g l k ih =>
    intro Q p s h
    obtain ⟨r, s1, hr, h⟩ := h
    obtain ⟨t', c', p', pre', hc1, hx⟩ := (runs_reach hr _ (hf.enter cd (fun r => (k r).wrap K H gd lv) h0 (gd g) (lv l) p [])).comes
    obtain ⟨rfl, rfl⟩ := hx
    obtain ⟨a, s2, p2, q, c⟩ := ih r Q p s1 h
    exact ⟨a, s2, p2, q, .step (step_call ..) (.trans hc1 (.step (step_leaf_ret ..) c))⟩
  | handled own k ih =>
    intro Q p s h
    obtain ⟨a, s2, p2, q, c⟩ := ih _ Q p s h
    refine ⟨a, s2, p2, q, .step ?_ c⟩
    show M.step s ⟨.handled own (fun x => (k x).wrap K H gd lv), G.code, p, st⟩ = _
    rw [step_handled]
    cases own
    · rw [hf.handled]; rfl
    · rw [hf.own]; rfl
  | genState g k ih => exact fun Q p s ⟨x, hg, h⟩ => let ⟨a, s2, p2, q, c⟩ := ih _ Q p s h; ⟨a, s2, p2, q, .step (step_genState _ _ _ _ _ _ hg) c⟩
  | newGen cd k ih => exact fun Q p s h => let ⟨a, s2, p2, q, c⟩ := ih _ Q p _ h; ⟨a, s2, p2, q, .step (step_newGen ..) c⟩
  | resume g r l k ih =>
    intro Q p s h
    obtain ⟨res, s1, hw, h⟩ := h
    obtain ⟨a, s2, p2, q, c⟩ := ih res Q p s1 h
    exact ⟨a, s2, p2, q, .trans (wakes_comes hf (lv l) (fun r => (k r).wrap K H gd lv) hw) c⟩
  | yield v g l k _ => exact fun Q p s h => h.elim
  | stack k ih =>
    intro Q p s h
    obtain ⟨a, s2, p2, q, c⟩ := ih _ Q p s h
    refine ⟨a, s2, p2, q, .step ?_ c⟩
    rw [hf.below]
    exact step_stack ..
  | fork cd k _ => exact fun Q p s h => h.elim
  | thread k ih => exact fun Q p s h => let ⟨a, s2, p2, q, c⟩ := ih _ Q p s h; ⟨a, s2, p2, q, .step (step_thread ..) c⟩
  | await b f d l k _ => exact fun Q p s h => h.elim
end
section
variable {α : Type} {tb : String → Option Builtin} {pr : Program} {w : World} {n0 : Nat} {ann : Option Value} {B : List Frame} {K2 : α → Sem Fin} {H2 : Value → Sem Fin} {gd : Bool → Bool} {lv : List Value → List Value} {res : α → Flow}
theorem calm_of {t : Thread} (h : stepOk n0 ann t = true) : t.calm = true := (Bool.and_eq_true_iff.mp h).1
theorem segRn (hB : splitAtGen B = none) : ∀ (n : Nat) (s : Shared) (t t' : Thread) (f : Flow) (s' : Shared) (c' : Code) (p' : Pos),
    Rel2 (fun a => .pure (.done (res a))) K2 deadEnd H2 gd lv B t t' → segRun tb pr w n0 ann B.length n s t = some (f, s', c', p') →
    ∃ a, res a = f ∧ Rn (denote tb) pr w s t' s' ⟨K2 a, c', p', B⟩ := by
  intro n
  induction n with
  | zero => intro s t t' f s' c' p' R h; simp [segRun] at h
  | succ n ih =>
    rintro s ⟨cur, code, pos, st⟩ ⟨cur', code', pos', st'⟩ f s' c' p' ⟨e1, e2, R⟩ h
    dsimp only at e1 e2 R
    subst e1 e2
    unfold segRun at h
    cases he : endAt B.length ⟨cur, code, pos, st⟩ with
    | some g =>
      rw [he] at h
      have h5 : (g, s, code, pos) = (f, s', c', p') := Option.some.inj h
      simp only [Prod.mk.injEq] at h5
      obtain ⟨rfl, rfl, rfl, rfl⟩ := h5
      rcases R with ⟨rfl, rfl, x, rfl, rfl⟩ | ⟨rfl, F⟩
      · cases x with
        | pure a =>
          simp only [endAt, Sem.wrap, beq_self_eq_true, Option.some.injEq] at he
          exact ⟨a, he, .refl rfl rfl⟩
        | _ => simp [endAt, Sem.wrap] at he
      · have z : (st.length == B.length) = false := beq_eq_false_iff_ne.mpr (Nat.ne_of_gt F.longer.1)
        simp only [endAt, z] at he
        cases he
    | none =>
      rw [he] at h
      cases hk : stepOk n0 ann ⟨cur, code, pos, st⟩ with
      | false => rw [hk] at h; cases h
      | true =>
        rw [hk] at h
        cases hs : PySem.step (denote tb) pr w s ⟨cur, code, pos, st⟩ with
        | halt o s2 => rw [hs] at h; cases h
        | go s2 t2 =>
          rw [hs] at h
          have key : stepOk n0 ann ⟨cur', code, pos, st'⟩ = true ∧ ∃ t3, PySem.step (denote tb) pr w s ⟨cur', code, pos, st'⟩ = .go s2 t3 ∧ Rel2 (fun a => .pure (.done (res a))) K2 deadEnd H2 gd lv B t2 t3 := by
            rcases R with ⟨rfl, rfl, x, rfl, rfl⟩ | ⟨rfl, F⟩
            · have np : ∀ a, x ≠ .pure a := fun a z => by
                subst z
                simp [endAt, Sem.wrap] at he
              have nr : ∀ e, x ≠ .raise e := fun e z => by
                subst z
                obtain ⟨heap, gens, drawn, toks, os⟩ := s
                simp only [Sem.wrap, PySem.step] at hs
                cases hs
              exact ⟨(okOuter (K' := K2) (H' := H2) np nr hk).1, step_outer hB np hs⟩
            · exact ⟨(okInner hB F hk).1, step_inner hB F hs⟩
          obtain ⟨k1, t3, k2, R2⟩ := key
          obtain ⟨a, ha, r⟩ := ih s2 t2 t3 f s' c' p' R2 h
          exact ⟨a, ha, .step (calm_of k1) (by rw [k2]) r⟩
variable {env : Env} {q : Pos}
theorem pieces {n : Nat} {s s' : Shared} {l rest : List Stmt} {c : Code} {pos p' : Pos} (h : segRun tb pr w n0 ann 1 n s (piecesOf l env c pos [topFrame q]) = some (.next, s', c, p')) :
    Rn (denote tb) pr w s (restOf (l ++ rest) env c pos [topFrame q]) s' (restOf rest env c p' [topFrame q]) := by
  have R : Rel2 (fun a : Flow => .pure (.done (id a))) (fun f => match f with | .next => (execs rest env).wrap doneF (leaveH env) id id | f => doneF f) deadEnd (leaveH env) id id [topFrame q]
      (piecesOf l env c pos [topFrame q]) ⟨(execs l env).wrap (fun f => match f with | .next => (execs rest env).wrap doneF (leaveH env) id id | f => doneF f) (leaveH env) id id, c, pos, [topFrame q]⟩ :=
    ⟨rfl, rfl, .inl ⟨rfl, rfl, _, rfl, rfl⟩⟩
  obtain ⟨a, ha, r⟩ := segRn rfl n s _ _ _ _ _ _ R h
  have ea : a = .next := ha
  subst ea
  unfold restOf
  rw [execs_app_wrap]
  exact r
theorem block {n : Nat} {s s' : Shared} {b : List Stmt} {c : Code} {pos p' : Pos} (h : segRun tb pr w n0 ann 1 n s (blockOf b env c pos [topFrame q]) = some (.next, s', c, p')) :
    Rn (denote tb) pr w s ⟨denote tb (.body b env), c, pos, [topFrame q]⟩ s' (restOf b env c p' [topFrame q]) := by
  have R : Rel2 (fun a : Unit => .pure (.done ((fun _ => Flow.next) a))) (fun _ => (execs b env).wrap doneF (leaveH env) id id) deadEnd Sem.raise id id [topFrame q]
      (blockOf b env c pos [topFrame q]) ⟨(blockStart b env).wrap (fun _ => (execs b env).wrap doneF (leaveH env) id id) .raise id id, c, pos, [topFrame q]⟩ :=
    ⟨rfl, rfl, .inl ⟨rfl, rfl, _, rfl, rfl⟩⟩
  obtain ⟨a, ha, r⟩ := segRn (res := fun _ : Unit => Flow.next) rfl n s _ _ _ _ _ _ R h
  rw [body_wrap]
  exact r
theorem goRn : ∀ {n : Nat} {s s' : Shared} {t t' : Thread}, topGo tb pr w n0 ann n s t = some (s', t') → Rn (denote tb) pr w s t s' t'
  | 0, s, s', t, t', h => by
    have h5 : (s, t) = (s', t') := Option.some.inj h
    simp only [Prod.mk.injEq] at h5
    obtain ⟨rfl, rfl⟩ := h5
    exact .refl rfl rfl
  | n + 1, s, s', t, t', h => by
    unfold topGo at h
    cases ht : through t with
    | true => rw [ht] at h; cases h
    | false =>
      rw [ht] at h
      cases hk : stepOk n0 ann t with
      | false => rw [hk] at h; cases h
      | true =>
        rw [hk] at h
        cases hs : PySem.step (denote tb) pr w s t with
        | halt o z => rw [hs] at h; cases h
        | go z u => rw [hs] at h; exact .step (calm_of hk) (by rw [hs]) (goRn h)
end
end LedRun
/-! LedDisp -/
namespace LedRun
open PySem PySem.W PySem.Calls PyProof.Rows
def strVs : List Str → Nat → List Value
  | [], _ => []
  | x :: r, k => .str x k :: strVs r (k + 1)
theorem strVs_len : ∀ (l : List Str) (k : Nat), (strVs l k).length = l.length
  | [], _ => rfl
  | _ :: r, k => by show (strVs r (k + 1)).length + 1 = r.length + 1; rw [strVs_len r]
def tupO (xs : List Str) (k : Nat) : Obj := { cls := .type "tuple", data := .seq (strVs xs k).toArray }
def mkT (xs : List Str) (s : Shared) : Shared := { s with heap := s.heap.push (tupO xs s.toks), toks := s.toks + xs.length }
abbrev P2 := List Str × List Str
section
variable {prog : Program} {w : World} {A : Around} {E : Value → Shared → Prop} {s : Shared} {env : Env}
abbrev knd (prog : Program) (w : World) := tupleKind (PySem.strKind prog w)
/-- the expression makes a new tuple of these texts -/
def Mk (prog : Program) (w : World) (t : Sem Value) (xs : List Str) : Prop := ∀ (A : Around) (E : Value → Shared → Prop) (s : Shared) (Q : Value → Shared → Prop), Q (.ref s.heap.objs.size) (mkT xs s) → wpAny (model prog w) A t Q E s
def isStrs : List Expr → List Str → Bool
  | [], [] => true
  | .Constant (.str x) _ _ :: r, y :: l => decide (x = y) && isStrs r l
  | _, _ => false
theorem spl_strs {pos : Pos} : ∀ (es : List Expr) (xs : List Str) (s : Shared) (Q : List Value → Shared → Prop), isStrs es xs = true → Q (strVs xs s.toks) { s with toks := s.toks + xs.length } →
    wpAny (model prog w) A (spliced (backTo pos (starEach es env))) Q E s
  | [], [], s, Q, _, h => spliced_nil (by
      have e : ({ s with toks := s.toks + ([] : List Str).length } : Shared) = s := by simp
      rw [e] at h
      exact h)
  | e :: r, [], s, Q, z, _ => by
    cases e <;> first | cases z | (rename_i c _ _; cases c <;> cases z)
  | [], _ :: _, s, Q, z, _ => by cases z
  | e :: r, y :: l, s, Q, z, h => by
    cases e <;> try cases z
    rename_i c k p
    cases c <;> try cases z
    rename_i x
    obtain ⟨z1, z2⟩ := Bool.and_eq_true_iff.mp z
    have ex : x = y := of_decide_eq_true z1
    subst ex
    refine spliced_cons ?_
    show wpAny _ _ (eval (.Constant (.str x) k p) env) _ _ s
    refine Constant_str ?_
    refine spl_strs r l _ _ z2 ?_
    have e : ({ s with toks := s.toks + 1 + l.length } : Shared) = { s with toks := s.toks + (x :: l).length } := by
      rw [List.length_cons, Nat.add_assoc, Nat.add_comm 1]
    show Q (.str x s.toks :: strVs l (s.toks + 1)) { s with toks := s.toks + 1 + l.length }
    rw [e]
    exact h
def isTup : Expr → List Str → Bool
  | .Tuple es _ _, xs => isStrs es xs && decide (xs.length ≤ 1000)
  | _, _ => false
theorem mk_tup {e : Expr} {xs : List Str} (h : isTup e xs = true) : Mk prog w (eval e env) xs := by
  intro A E s Q q
  cases e <;> try cases h
  rename_i es k pos
  obtain ⟨h1, h2⟩ := Bool.and_eq_true_iff.mp h
  have hl : xs.length ≤ 1000 := of_decide_eq_true h2
  refine wpAny_Tuple_spliced (spl_strs es xs s _ h1 ⟨?_, q⟩)
  rw [strVs_len]
  exact Nat.le_trans hl (by decide)
theorem mk_then {t : Sem Value} {xs : List Str} {pos : Pos} (h : Mk prog w t xs) : Mk prog w (do let x ← t; standAt pos; pure x) xs := fun A E s Q q =>
  wpAny_bind (h A E s _ (wpAny_bind (wpAny_standAt (wpAny_pure q))))
def putE (d : Addr) (h : Int) (k v : Value) (s : Shared) : Shared := { s with heap := s.heap.update d (Obj.mapDictKeys (·.push ⟨h, k, v⟩)) }
def hsh (w : World) (prog : Program) (ks : List Str) : Int := (knd prog w).hash ks
theorem key_tup {s : Shared} {xs : List Str} {k : Nat} {a : Addr} {h : Heap} (e : h.get? a = some (tupO xs k)) : (knd prog w).is h xs a := by
  refine ⟨tupO xs k, (strVs xs k).toArray, 0, e, rfl, rfl, ?_⟩
  show ItemsAre (PySem.strKind prog w) xs (strVs xs k).toArray.toList
  rw [List.toList_toArray]
  clear e
  induction xs generalizing k with
  | nil => exact .nil
  | cons x r ih => exact .cons (strKind_is prog w x k) ih
theorem dof_keep {h h' : Heap} {d : Addr} {xs : List (List Str × Addr × Value)} (hm : h.DictOfH (knd prog w) d xs) (k : ∀ b o, h.get? b = some o → h'.get? b = some o) : h'.DictOfH (knd prog w) d xs := by
  obtain ⟨o, es, ep, ho, hc, hd, he, his, hn⟩ := hm
  refine ⟨o, es, ep, k _ _ ho, hc, hd, he, fun x hx => ?_, hn⟩
  obtain ⟨o1, it, n, e1, e2⟩ := his x hx
  exact ⟨o1, it, n, k _ _ e1, e2⟩
theorem dof_same {h h' : Heap} {d c : Addr} {xs : List (List Str × Addr × Value)} {o : Obj} {es : Array DictEntry} {ep : Nat} (hm : h.DictOfH (knd prog w) d xs) (hc : h.get? c = some o) (hod : o.data = .dict es ep) (hne : d ≠ c) (sb : Heap.SameBut c h h') : h'.DictOfH (knd prog w) d xs := by
  obtain ⟨o2, es2, ep2, ho, hc2, hd, he, his, hn⟩ := hm
  exact ⟨o2, es2, ep2, (sb.2 d hne).trans ho, hc2, hd, he, fun x hx => (knd prog w).keeps (his x hx) hc hod sb, hn⟩
theorem dof_put {d : Addr} {xs : List (List Str × Addr × Value)} {k : List Str} {a : Addr} {v : Value} (hm : s.heap.DictOfH (knd prog w) d xs) (hk : (knd prog w).is s.heap k a) (hn : k ∉ xs.map (·.1)) :
    (putE d (hsh w prog k) (.ref a) v s).heap.DictOfH (knd prog w) d (xs ++ [(k, a, v)]) := by
  obtain ⟨o, es, ep, ho, hc, hd, he, his, hnd⟩ := hm
  refine ⟨_, es.push ⟨hsh w prog k, .ref a, v⟩, ep + 1, Heap.get?_update_self _ ho (Obj.isFreed_of_dict (Obj.data_mapDictKeys hd _)), hc.mapDictKeys _, Obj.data_mapDictKeys hd _, ?_, ?_, ?_⟩
  · rw [Array.toList_push, he, List.map_append]
    rfl
  · intro x hx
    rcases List.mem_append.mp hx with hx | hx
    · exact (knd prog w).keeps (his x hx) ho hd (Heap.SameBut.update ..)
    · rw [List.mem_singleton] at hx
      subst hx
      exact (knd prog w).keeps hk ho hd (Heap.SameBut.update ..)
  · rw [List.map_append, List.nodup_append]
    refine ⟨hnd, by simp, fun x hx y hy e => ?_⟩
    rw [List.map_cons, List.map_nil, List.mem_singleton] at hy
    have z : x = k := e.trans hy
    rw [z] at hx
    exact hn hx
theorem none_at {xs : List (List Str × Addr × Value)} {k : List Str} (hn : k ∉ xs.map (·.1)) {j : Nat} {p : Addr × Value} : xs[j]? ≠ some (k, p) := fun e =>
  hn (List.mem_map.mpr ⟨_, List.mem_of_getElem? e, rfl⟩)
theorem size_ofD {d : Addr} {xs : List (List Str × Addr × Value)} {o : Obj} {es : Array DictEntry} (he : es.toList = xs.map (entryOfKey (knd prog w))) : es.size = xs.length := size_of_entries he
def setE (w : World) (prog : Program) (d : Addr) (ks : List Str) (a : Addr) (v : Value) (s : Shared) : Shared := putE d (hsh w prog ks) (.ref a) v { s with toks := s.toks + (ks.length + 1) }
theorem set_new {d a : Addr} {xs : List (List Str × Addr × Value)} {k : List Str} {v : Value} {Q : Unit → Shared → Prop} (hu : A.units < cLine) (hk : (knd prog w).is s.heap k a) (hm : s.heap.DictOfH (knd prog w) d xs) (hn : k ∉ xs.map (·.1)) (hl : xs.length ≤ 1000)
    (q : Q () (setE w prog d k a v s)) : wpAny (model prog w) A (dictSet d (.ref a) v) Q E s := by
  obtain ⟨o, es, ep, ho, hc, hd, he, his, hnd⟩ := hm
  unfold dictSet
  refine wpAny_holding ?_
  refine wpAny_bind ((knd prog w).pyHash hu hk ?_)
  unfold dictSetHashed
  refine wpAny_holding ?_
  refine wpAny_bind (wpAny_dictFind_heap (knd := knd prog w) (s := { s with toks := s.toks + (knd prog w).draws k }) hu hk ho hd he his hnd (fun _ => ?_) fun j p e => absurd e (none_at hn))
  have hz : es.size ≤ sizeLine := by
    rw [size_of_entries he]
    exact Nat.le_trans hl (by decide)
  exact wpAny_bind (wpAny_rule (wpAny_updateDictKeys (hz := hz) (s := { s with toks := s.toks + (knd prog w).draws k }) ho hd q))
theorem put_new {d a : Addr} {xs : List (List Str × Addr × Value)} {k : List Str} {v : Value} {Q : Unit → Shared → Prop} (hu : A.units < cLine) (hk : (knd prog w).is s.heap k a) (hm : s.heap.DictOfH (knd prog w) d xs) (hn : k ∉ xs.map (·.1)) (hl : xs.length ≤ 1000)
    (q : Q () (putE d (hsh w prog k) (.ref a) v s)) : wpAny (model prog w) A (dictPut d (hsh w prog k) (.ref a) v) Q E s := by
  obtain ⟨o, es, ep, ho, hc, hd, he, his, hnd⟩ := hm
  unfold dictPut
  refine wpAny_bind (wpAny_dictFind_heap (knd := knd prog w) hu hk ho hd he his hnd (fun _ => ?_) fun j p e => absurd e (none_at hn))
  have hz : es.size ≤ sizeLine := by
    rw [size_of_entries he]
    exact Nat.le_trans hl (by decide)
  exact wpAny_updateDictKeys (hz := hz) ho hd q
end
end LedRun
/-! LedDisp2 -/
namespace LedRun
open PySem PySem.W PySem.Calls PyProof.Rows
abbrev Ent := List Str × Addr × Value
def MkP (prog : Program) (w : World) : List (Sem Value × Sem Value) → List P2 → Prop
  | [], [] => True
  | p :: r, x :: l => Mk prog w p.1 x.1 ∧ Mk prog w p.2 x.2 ∧ MkP prog w r l
  | _, _ => False
theorem MkP.len {prog : Program} {w : World} : ∀ {a : List (Sem Value × Sem Value)} {b : List P2}, MkP prog w a b → a.length = b.length
  | [], [], _ => rfl
  | _ :: _, _ :: _, h => by rw [List.length_cons, List.length_cons, MkP.len h.2.2]
  | [], _ :: _, h => h.elim
  | _ :: _, [], h => h.elim
theorem MkP.app {prog : Program} {w : World} : ∀ {a c : List (Sem Value × Sem Value)} {b d : List P2}, MkP prog w a b → MkP prog w c d → MkP prog w (a ++ c) (b ++ d)
  | [], _, [], _, _, k => k
  | _ :: _, _, _ :: _, _, h, k => ⟨h.1, h.2.1, MkP.app h.2.2 k⟩
  | [], _, _ :: _, _, h, _ => h.elim
  | _ :: _, _, [], _, h, _ => h.elim
def entL : Nat → List P2 → List Ent
  | _, [] => []
  | n, (ks, _) :: r => (ks, n, .ref (n + 1)) :: entL (n + 2) r
theorem entL_keys : ∀ (l : List P2) (n : Nat), (entL n l).map (·.1) = l.map (·.1)
  | [], _ => rfl
  | (ks, vs) :: r, n => by show ks :: (entL (n + 2) r).map (·.1) = ks :: r.map (·.1); rw [entL_keys r]
theorem entL_len (l : List P2) (n : Nat) : (entL n l).length = l.length := by
  have h := congrArg List.length (entL_keys l n)
  rw [List.length_map, List.length_map] at h
  exact h
def evS : List P2 → Shared → Shared
  | [], s => s
  | (ks, vs) :: r, s => evS r (mkT vs (mkT ks s))
theorem mkT_size (xs : List Str) (s : Shared) : (mkT xs s).heap.objs.size = s.heap.objs.size + 1 := Heap.size_push ..
theorem mkT_keep (xs : List Str) (s : Shared) : ∀ b o, s.heap.get? b = some o → (mkT xs s).heap.get? b = some o := fun b o e => Heap.get?_push_of_some _ e
theorem evS_keep : ∀ (l : List P2) (s : Shared), ∀ b o, s.heap.get? b = some o → (evS l s).heap.get? b = some o
  | [], _, _, _, e => e
  | (ks, vs) :: r, s, b, o, e => evS_keep r _ b o (mkT_keep _ _ _ _ (mkT_keep _ _ _ _ e))
theorem evS_size : ∀ (l : List P2) (s : Shared), (evS l s).heap.objs.size = s.heap.objs.size + 2 * l.length
  | [], _ => rfl
  | (ks, vs) :: r, s => by
    show (evS r (mkT vs (mkT ks s))).heap.objs.size = _
    rw [evS_size r, mkT_size, mkT_size, List.length_cons]
    omega
theorem mkT_new (xs : List Str) (s : Shared) : (mkT xs s).heap.get? s.heap.objs.size = some (tupO xs s.toks) := Heap.get?_push_size _ rfl
section
variable {prog : Program} {w : World}
theorem evS_keys : ∀ (l : List P2) (s : Shared), ∀ x ∈ entL s.heap.objs.size l, (knd prog w).is (evS l s).heap x.1 x.2.1
  | [], _, x, h => by cases h
  | (ks, vs) :: r, s, x, h => by
    rcases List.mem_cons.mp h with h | h
    · subst h
      exact key_tup (s := s) (evS_keep r _ _ _ (mkT_keep vs _ _ _ (mkT_new ks s)))
    · refine evS_keys r (mkT vs (mkT ks s)) x ?_
      rw [mkT_size, mkT_size]
      exact h
variable {A : Around} {E : Value → Shared → Prop} {s : Shared}
def setsS (w : World) (prog : Program) (d : Addr) : List Ent → Shared → Shared
  | [], s => s
  | (ks, a, v) :: r, s => setsS w prog d r (setE w prog d ks a v s)
def putsS (w : World) (prog : Program) (d : Addr) : List Ent → Shared → Shared
  | [], s => s
  | (ks, a, v) :: r, s => putsS w prog d r (putE d (hsh w prog ks) (.ref a) v s)
def longS (w : World) (prog : Program) (d : Addr) : List P2 → Shared → Shared
  | [], s => s
  | (ks, vs) :: r, s => longS w prog d r (setE w prog d ks s.heap.objs.size (.ref (s.heap.objs.size + 1)) (mkT vs (mkT ks s)))
def newD (s : Shared) : Shared := { s with heap := s.heap.push { cls := .type "dict", data := .dict #[] } }
def subX (w : World) (prog : Program) (l : List P2) (s : Shared) : Shared :=
  if l.length ≤ 15 then setsS w prog s.heap.objs.size (entL (s.heap.objs.size + 1) l) (evS l (newD s)) else longS w prog s.heap.objs.size l (newD s)
theorem putE_sb (d : Addr) (h : Int) (k v : Value) (s : Shared) : Heap.SameBut d s.heap (putE d h k v s).heap := Heap.SameBut.update ..
theorem putE_size (d : Addr) (h : Int) (k v : Value) (s : Shared) : (putE d h k v s).heap.objs.size = s.heap.objs.size := (putE_sb d h k v s).1
theorem keys_one {xs : List Ent} {ks : List Str} {L : List (List Str)} (h : (xs.map (·.1) ++ ks :: L).Nodup) : ks ∉ xs.map (·.1) := by
  rw [List.nodup_append] at h
  exact fun z => h.2.2 ks z ks (List.mem_cons_self ..) rfl
theorem keys_next {xs : List Ent} {ks : List Str} {a : Addr} {v : Value} {L : List (List Str)} (h : (xs.map (·.1) ++ ks :: L).Nodup) : ((xs ++ [(ks, a, v)]).map (·.1) ++ L).Nodup := by
  rw [List.map_append, List.append_assoc]
  exact h
/-- the entries one by one into d, all keys there -/
theorem sets_ok {d : Addr} (hu : A.units < cLine) : ∀ (l : List Ent) (xs : List Ent) (s : Shared) (Q : PUnit → Shared → Prop), s.heap.DictOfH (knd prog w) d xs → (∀ x ∈ l, (knd prog w).is s.heap x.1 x.2.1) → (xs.map (·.1) ++ l.map (·.1)).Nodup → xs.length + l.length ≤ 1000 →
    ((setsS w prog d l s).heap.DictOfH (knd prog w) d (xs ++ l) → Q PUnit.unit (setsS w prog d l s)) →
    wpAny (model prog w) A (forIn (l.map fun x => ((Value.ref x.2.1, x.2.2) : Value × Value)) PUnit.unit fun (x : Value × Value) (_ : PUnit) => (do dictSet d x.1 x.2; pure (ForInStep.yield PUnit.unit) : Sem (ForInStep PUnit))) Q E s
  | [], xs, s, Q, hm, _, _, _, q => by
    rw [List.map_nil, List.forIn_nil]
    rw [List.append_nil] at q
    exact wpAny_pure (q hm)
  | (ks, a, v) :: r, xs, s, Q, hm, hk, hn, hl, q => by
    rw [List.length_cons] at hl
    have hk1 : (knd prog w).is s.heap ks a := hk (ks, a, v) (List.mem_cons_self ..)
    have hn1 : ks ∉ xs.map (·.1) := keys_one hn
    rw [List.map_cons, List.forIn_cons]
    refine wpAny_bind (wpAny_bind (set_new hu hk1 hm hn1 (by omega) (wpAny_pure ?_)))
    have hm1 : (setE w prog d ks a v s).heap.DictOfH (knd prog w) d (xs ++ [(ks, a, v)]) := dof_put (s := { s with toks := s.toks + (ks.length + 1) }) hm hk1 hn1
    obtain ⟨o, es, ep, ho, _, hd, _⟩ := hm
    refine sets_ok hu r _ _ Q hm1 (fun x hx => (knd prog w).keeps (hk x (List.mem_cons_of_mem _ hx)) ho hd (putE_sb ..)) (keys_next hn) (by rw [List.length_append, List.length_singleton]; omega) ?_
    rw [List.append_assoc]
    exact q
theorem long_ok {d : Addr} (hu : A.units < cLine) : ∀ (ts : List (Sem Value × Sem Value)) (l : List P2) (xs : List Ent) (s : Shared) (Q : PUnit → Shared → Prop), MkP prog w ts l → s.heap.DictOfH (knd prog w) d xs → (xs.map (·.1) ++ l.map (·.1)).Nodup → xs.length + l.length ≤ 1000 →
    ((longS w prog d l s).heap.DictOfH (knd prog w) d (xs ++ entL s.heap.objs.size l) → Q PUnit.unit (longS w prog d l s)) →
    wpAny (model prog w) A (forIn ts PUnit.unit fun (x : Sem Value × Sem Value) (_ : PUnit) => (do let kv ← x.1; let vv ← holding [kv] x.2; holding [kv, vv] (dictSet d kv vv); pure (ForInStep.yield PUnit.unit) : Sem (ForInStep PUnit))) Q E s
  | [], [], xs, s, Q, _, hm, _, _, q => by
    rw [List.forIn_nil]
    rw [show entL s.heap.objs.size [] = [] from rfl, List.append_nil] at q
    exact wpAny_pure (q hm)
  | [], _ :: _, _, _, _, h, _, _, _, _ => h.elim
  | _ :: _, [], _, _, _, h, _, _, _, _ => h.elim
  | (tk, tv) :: ts, (ks, vs) :: r, xs, s, Q, ⟨h1, h2, h3⟩, hm, hn, hl, q => by
    rw [List.length_cons] at hl
    rw [List.forIn_cons]
    have hn1 : ks ∉ xs.map (·.1) := keys_one hn
    refine wpAny_bind (wpAny_bind (h1 _ _ _ _ (wpAny_bind (wpAny_holding (h2 _ _ _ _ (wpAny_bind (wpAny_holding ?_)))))))
    have hm0 : (mkT vs (mkT ks s)).heap.DictOfH (knd prog w) d xs := dof_keep hm fun b o e => mkT_keep _ _ _ _ (mkT_keep _ _ _ _ e)
    have hk0 : (knd prog w).is (mkT vs (mkT ks s)).heap ks s.heap.objs.size := key_tup (s := s) (mkT_keep vs _ _ _ (mkT_new ks s))
    rw [mkT_size]
    refine set_new hu hk0 hm0 hn1 (by omega) (wpAny_pure ?_)
    have hm1 := dof_put (v := .ref (s.heap.objs.size + 1)) (s := { mkT vs (mkT ks s) with toks := (mkT vs (mkT ks s)).toks + (ks.length + 1) }) hm0 hk0 hn1
    have sz : (setE w prog d ks s.heap.objs.size (.ref (s.heap.objs.size + 1)) (mkT vs (mkT ks s))).heap.objs.size = s.heap.objs.size + 2 := by
      show (putE _ _ _ _ _).heap.objs.size = _
      rw [putE_size]
      show (mkT vs (mkT ks s)).heap.objs.size = _
      rw [mkT_size, mkT_size]
    refine long_ok hu ts r _ _ Q h3 hm1 (keys_next hn) (by rw [List.length_append, List.length_singleton]; omega) ?_
    rw [sz, List.append_assoc]
    exact q
theorem evp_ok : ∀ (ts : List (Sem Value × Sem Value)) (l : List P2) (s : Shared) (Q : List (Value × Value) → Shared → Prop), MkP prog w ts l → Q ((entL s.heap.objs.size l).map fun x => (Value.ref x.2.1, x.2.2)) (evS l s) →
    wpAny (model prog w) A (evalPairs ts) Q E s
  | [], [], s, Q, _, q => wpAny_pure q
  | [], _ :: _, _, _, h, _ => h.elim
  | _ :: _, [], _, _, h, _ => h.elim
  | (tk, tv) :: ts, (ks, vs) :: r, s, Q, ⟨h1, h2, h3⟩, q => by
    unfold evalPairs
    refine wpAny_bind (h1 _ _ _ _ (wpAny_bind (wpAny_holding (h2 _ _ _ _ (wpAny_bind (wpAny_holding (evp_ok ts r _ _ h3 (wpAny_pure ?_))))))))
    simp only [mkT_size]
    exact q
theorem newD_of (s : Shared) : (newD s).heap.DictOfH (knd prog w) s.heap.objs.size [] := Heap.DictOfH.new s.heap
theorem newD_size (s : Shared) : (newD s).heap.objs.size = s.heap.objs.size + 1 := Heap.size_push ..
theorem sub_ok (hu : A.units < cLine) {ts : List (Sem Value × Sem Value)} {l : List P2} {Q : Addr → Shared → Prop} (h : MkP prog w ts l) (hn : (l.map (·.1)).Nodup) (hl : l.length ≤ 1000)
    (q : (subX w prog l s).heap.DictOfH (knd prog w) s.heap.objs.size (entL (s.heap.objs.size + 1) l) → Q s.heap.objs.size (subX w prog l s)) : wpAny (model prog w) A (subDict ts) Q E s := by
  unfold subDict
  refine wpAny_bind (wpAny_alloc ?_)
  refine wpAny_bind (wpAny_holding ?_)
  unfold subX at q
  by_cases h15 : l.length ≤ 15
  · rw [if_pos h15] at q
    rw [if_pos (by rw [h.len]; exact h15)]
    refine wpAny_bind (evp_ok ts l (newD s) _ h ?_)
    refine wpAny_holding ?_
    rw [newD_size]
    refine wpAny_bind (sets_ok hu (entL (s.heap.objs.size + 1) l) [] (evS l (newD s)) _ (dof_keep (newD_of s) (evS_keep l _)) ?_ (by rw [entL_keys]; exact hn) (by rw [entL_len]; simpa using hl) fun hm => wpAny_pure (wpAny_pure (q hm)))
    intro x hx
    refine evS_keys l (newD s) x ?_
    rw [newD_size]
    exact hx
  · rw [if_neg h15] at q
    rw [if_neg (by rw [h.len]; exact h15)]
    refine wpAny_bind (wpAny_rule ?_)
    refine wpAny_bind (long_ok hu ts l [] (newD s) _ h (newD_of s) hn (by simpa using hl) fun hm => wpAny_pure (wpAny_pure (q ?_)))
    rw [newD_size, List.nil_append] at hm
    exact hm
theorem puts_dof {d : Addr} : ∀ (l : List Ent) (xs : List Ent) (s : Shared), s.heap.DictOfH (knd prog w) d xs → (∀ x ∈ l, (knd prog w).is s.heap x.1 x.2.1) → (xs.map (·.1) ++ l.map (·.1)).Nodup → (putsS w prog d l s).heap.DictOfH (knd prog w) d (xs ++ l)
  | [], xs, s, hm, _, _ => by rw [List.append_nil]; exact hm
  | (ks, a, v) :: r, xs, s, hm, hk, hn => by
    have hk1 : (knd prog w).is s.heap ks a := hk (ks, a, v) (List.mem_cons_self ..)
    have hm1 := dof_put (v := v) hm hk1 (keys_one hn)
    obtain ⟨o, es, ep, ho, _, hd, _⟩ := hm
    have z := puts_dof r _ _ hm1 (fun x hx => (knd prog w).keeps (hk x (List.mem_cons_of_mem _ hx)) ho hd (putE_sb ..)) (keys_next hn)
    rw [List.append_assoc] at z
    exact z
theorem merge_loop {d c : Addr} (hu : A.units < cLine) (hdc : d ≠ c) {o : Obj} {es : Array DictEntry} {ep : Nat} {ys : List Ent} (hdat : o.data = .dict es ep) (hes : es.toList = ys.map (entryOfKey (knd prog w))) :
    ∀ (l : List Ent) (i : Nat) (xs : List Ent) (s : Shared) (Q : PUnit → Shared → Prop), s.heap.get? c = some o → s.heap.DictOfH (knd prog w) d xs → (∀ x ∈ l, (knd prog w).is s.heap x.1 x.2.1) → (xs.map (·.1) ++ l.map (·.1)).Nodup → xs.length + l.length ≤ 1000 → ys.drop i = l →
    Q PUnit.unit (putsS w prog d l s) →
    wpAny (model prog w) A (forIn (List.range' i l.length) PUnit.unit fun (i : Nat) (_ : PUnit) => (do
      match (← dictEntries c)[i]? with
      | some e => do
        holding [e.key, e.val] (dictPut d e.hash e.key e.val)
        let z ← dictEpoch c
        if (z != ep) = true then do
          let _ ← (unsupported "dict.changed-during-merge" : Sem PUnit)
          pure (ForInStep.yield PUnit.unit)
        else pure (ForInStep.yield PUnit.unit)
      | _ => do
        let _ ← (unsupported "dict.changed-during-merge" : Sem PUnit)
        pure (ForInStep.yield PUnit.unit) : Sem (ForInStep PUnit))) Q E s
  | [], i, xs, s, Q, _, _, _, _, _, _, q => by
    rw [List.length_nil, List.range'_zero, List.forIn_nil]
    exact wpAny_pure q
  | (ks, a, v) :: r, i, xs, s, Q, hc, hm, hk, hn, hl, hy, q => by
    rw [List.length_cons] at hl
    have hk1 : (knd prog w).is s.heap ks a := hk (ks, a, v) (List.mem_cons_self ..)
    have hn1 : ks ∉ xs.map (·.1) := keys_one hn
    rw [List.length_cons, List.range'_succ, List.forIn_cons]
    have hi : ys[i]? = some (ks, a, v) := by
      have z := congrArg (·[0]?) hy
      simpa using z
    have he : es[i]? = some (entryOfKey (knd prog w) (ks, a, v)) := by rw [entry_at hes i, hi]; rfl
    refine wpAny_bind (wpAny_bind (wpAny_dictEntries hc hdat ?_))
    rw [he]
    refine wpAny_bind (wpAny_holding ?_)
    show wpAny _ _ (dictPut d (hsh w prog ks) (.ref a) v) _ _ s
    refine put_new hu hk1 hm hn1 (by omega) ?_
    have hc1 : (putE d (hsh w prog ks) (.ref a) v s).heap.get? c = some o := ((putE_sb d _ _ v s).2 c (Ne.symm hdc)).trans hc
    refine wpAny_bind (wpAny_dictEpoch hc1 hdat ?_)
    rw [if_neg (by simp)]
    refine wpAny_pure ?_
    have hm1 := dof_put (v := v) hm hk1 hn1
    obtain ⟨o2, es2, ep2, ho2, _, hd2, _⟩ := hm
    refine merge_loop hu hdc hdat hes r (i + 1) _ _ Q hc1 hm1 (fun x hx => (knd prog w).keeps (hk x (List.mem_cons_of_mem _ hx)) ho2 hd2 (putE_sb ..)) (keys_next hn) (by rw [List.length_append, List.length_singleton]; omega) ?_ q
    have z := congrArg (List.drop 1) hy
    rw [List.drop_drop] at z
    exact z
theorem merge_ok {d c : Addr} (hu : A.units < cLine) (hdc : d ≠ c) (hcm : (c == sysModules) = false) {xs ys : List Ent} (hm : s.heap.DictOfH (knd prog w) d xs) (hy : s.heap.DictOfH (knd prog w) c ys) (hx : xs ≠ []) (hn : (xs.map (·.1) ++ ys.map (·.1)).Nodup) (hl : xs.length + ys.length ≤ 1000)
    {Q : Unit → Shared → Prop} (q : Q () (putsS w prog d ys s)) : wpAny (model prog w) A (mergeMapping d (.ref c) false) Q E s := by
  have hT := hy.typeIs
  have hm2 := hm
  obtain ⟨o, es, ep, ho, hex, hdat, hes, his, hnd⟩ := hy
  obtain ⟨o2, es2, ep2, ho2, hex2, hd2, he2, his2, hnd2⟩ := hm
  unfold mergeMapping
  refine wpAny_bind (wpAny_isInstance hT isSubtype_dict_dict ?_)
  rw [if_pos rfl]
  refine wpAny_bind (wpAny_specialOf hT F.slot_dict_iter.lookup ?_)
  refine wpAny_bind (wpAny_pure ?_)
  simp only [beq_self_eq_true]
  rw [if_neg (by rw [hcm]; exact Bool.false_ne_true)]
  refine wpAny_bind (wpAny_dictEntries ho2 hd2 ?_)
  have hne : es2.isEmpty = false := by
    cases z : es2.isEmpty with
    | false => rfl
    | true =>
      have z1 := Array.isEmpty_iff.mp z
      rw [z1] at he2
      cases xs with
      | nil => exact absurd rfl hx
      | cons _ _ => cases he2
  rw [if_neg (by rw [hne]; exact Bool.false_ne_true)]
  refine wpAny_bind (wpAny_dictEntries ho hdat ?_)
  refine wpAny_bind (wpAny_dictEpoch ho hdat ?_)
  rw [size_of_entries hes, List.range_eq_range']
  refine wpAny_bind (merge_loop hu hdc hdat hes ys 0 xs s (fun _ s' => wpAny (model prog w) A (pure ()) Q E s') ho hm2 his hn hl (by simp) (wpAny_pure q))
end
end LedRun
/-! LedDisp3 -/
namespace LedRun
open PySem PySem.W PySem.Calls PyProof.Rows
section
variable {prog : Program} {w : World} {A : Around} {E : Value → Shared → Prop} {s : Shared}
def flushS (w : World) (prog : Program) (l : List P2) (m : Option Addr) (s : Shared) : Option Addr × Shared := match l with
  | [] => (m, s)
  | x :: r => match m with
    | none => (some s.heap.objs.size, subX w prog (x :: r) s)
    | some d => (some d, putsS w prog d (entL (s.heap.objs.size + 1) (x :: r)) (subX w prog (x :: r) s))
/-- what the display holds so far -/
def Holds (w : World) (prog : Program) (m : Option Addr) (xs : List Ent) (s : Shared) : Prop := match m with
  | none => xs = []
  | some d => s.heap.DictOfH (knd prog w) d xs ∧ xs ≠ [] ∧ d < s.heap.objs.size
abbrev flushP (ts : List (Sem Value × Sem Value)) (m : Option Addr) : Sem (Option Addr) :=
  if ts.isEmpty = true then pure m else match m with
    | none => do let z ← subDict ts; pure (some z)
    | some d => do
      let sub ← holding [Value.ref d] (subDict ts)
      (holding [Value.ref d, Value.ref sub] (mergeMapping d (Value.ref sub) false)).onRaise fun x => do
        let _ ← holding [Value.ref d, x] (runValue (Code.builtin "proto.let_go" { }))
        pure ()
      pure (some d)
theorem setsS_sb {d : Addr} : ∀ (l : List Ent) (s : Shared), Heap.SameBut d s.heap (setsS w prog d l s).heap
  | [], s => Heap.SameBut.refl _ _
  | (ks, a, v) :: r, s => (putE_sb d (hsh w prog ks) (.ref a) v { s with toks := s.toks + (ks.length + 1) }).trans (setsS_sb r _)
theorem putsS_sb {d : Addr} : ∀ (l : List Ent) (s : Shared), Heap.SameBut d s.heap (putsS w prog d l s).heap
  | [], s => Heap.SameBut.refl _ _
  | (ks, a, v) :: r, s => (putE_sb d (hsh w prog ks) (.ref a) v s).trans (putsS_sb r _)
theorem longS_old {d : Addr} : ∀ (l : List P2) (s : Shared), s.heap.objs.size ≤ (longS w prog d l s).heap.objs.size ∧ ∀ b o, b ≠ d → s.heap.get? b = some o → (longS w prog d l s).heap.get? b = some o
  | [], s => ⟨Nat.le_refl _, fun _ _ _ e => e⟩
  | (ks, vs) :: r, s => by
    have z := longS_old (d := d) r (setE w prog d ks s.heap.objs.size (.ref (s.heap.objs.size + 1)) (mkT vs (mkT ks s)))
    have sb := putE_sb d (hsh w prog ks) (.ref s.heap.objs.size) (.ref (s.heap.objs.size + 1)) { mkT vs (mkT ks s) with toks := (mkT vs (mkT ks s)).toks + (ks.length + 1) }
    refine ⟨Nat.le_trans ?_ z.1, fun b o hb e => z.2 b o hb ((sb.2 b hb).trans (mkT_keep vs _ _ _ (mkT_keep ks _ _ _ e)))⟩
    show s.heap.objs.size ≤ (putE _ _ _ _ _).heap.objs.size
    rw [putE_size]
    show s.heap.objs.size ≤ (mkT vs (mkT ks s)).heap.objs.size
    rw [mkT_size, mkT_size]
    omega
theorem newD_keep (s : Shared) : ∀ b o, s.heap.get? b = some o → (newD s).heap.get? b = some o := fun b o e => Heap.get?_push_of_some _ e
theorem subX_old (l : List P2) (s : Shared) : s.heap.objs.size < (subX w prog l s).heap.objs.size ∧ ∀ b o, s.heap.get? b = some o → (subX w prog l s).heap.get? b = some o := by
  unfold subX
  have lt : ∀ b o, s.heap.get? b = some o → b ≠ s.heap.objs.size := fun b o e => Nat.ne_of_lt (Heap.lt_size e)
  split
  · have sb := setsS_sb (w := w) (prog := prog) (d := s.heap.objs.size) (entL (s.heap.objs.size + 1) l) (evS l (newD s))
    refine ⟨?_, fun b o e => (sb.2 b (lt b o e)).trans (evS_keep l _ b o (newD_keep s b o e))⟩
    rw [sb.1, evS_size, newD_size]
    omega
  · have z := longS_old (w := w) (prog := prog) (d := s.heap.objs.size) l (newD s)
    refine ⟨?_, fun b o e => z.2 b o (lt b o e) (newD_keep s b o e)⟩
    have z1 := z.1
    rw [newD_size] at z1
    omega
theorem flush_ok (hu : A.units < cLine) {ts : List (Sem Value × Sem Value)} {l : List P2} {m : Option Addr} {xs : List Ent} {Q : Option Addr → Shared → Prop} (h : MkP prog w ts l) (hm : Holds w prog m xs s) (hn : (xs.map (·.1) ++ l.map (·.1)).Nodup) (hl : xs.length + l.length ≤ 1000) (hlow : sysModules < s.heap.objs.size)
    (q : ∀ ys, ys.map (·.1) = xs.map (·.1) ++ l.map (·.1) → Holds w prog (flushS w prog l m s).1 ys (flushS w prog l m s).2 → sysModules < (flushS w prog l m s).2.heap.objs.size → Q (flushS w prog l m s).1 (flushS w prog l m s).2) :
    wpAny (model prog w) A (flushP ts m) Q E s := by
  unfold flushP
  cases l with
  | nil =>
    cases ts with
    | cons _ _ => exact h.elim
    | nil =>
      rw [if_pos (show ([] : List (Sem Value × Sem Value)).isEmpty = true from rfl)]
      exact wpAny_pure (q xs (by simp) hm hlow)
  | cons x r =>
    have hts : ts.isEmpty = false := by
      cases ts with
      | nil => exact h.elim
      | cons _ _ => rfl
    rw [if_neg (by rw [hts]; exact Bool.false_ne_true)]
    have hnl : ((x :: r).map (·.1)).Nodup := (List.nodup_append.mp hn).2.1
    have old := subX_old (w := w) (prog := prog) (x :: r) s
    cases m with
    | none =>
      refine wpAny_bind (sub_ok hu h hnl (by omega) fun hd => wpAny_pure (q (entL (s.heap.objs.size + 1) (x :: r)) ?_ ⟨hd, ?_, old.1⟩ (Nat.lt_trans hlow old.1)))
      · have hx : xs = [] := hm
        rw [hx, entL_keys]
        rfl
      · intro z
        have z1 := entL_len (x :: r) (s.heap.objs.size + 1)
        rw [z] at z1
        cases z1
    | some d =>
      obtain ⟨hd, hne, hlt⟩ := hm
      refine wpAny_bind (wpAny_holding (sub_ok hu h hnl (by omega) fun hs => ?_))
      have hd1 : (subX w prog (x :: r) s).heap.DictOfH (knd prog w) d xs := dof_keep hd old.2
      have hdc : d ≠ s.heap.objs.size := Nat.ne_of_lt hlt
      have hcs : (s.heap.objs.size == sysModules) = false := beq_eq_false_iff_ne.mpr (Nat.ne_of_gt hlow)
      have hk2 : (xs.map (·.1) ++ (entL (s.heap.objs.size + 1) (x :: r)).map (·.1)).Nodup := by rw [entL_keys]; exact hn
      refine wpAny_bind (wpAny_onRaise (wpAny_mono (wpAny_holding (merge_ok (E := fun _ _ => False) (Q := fun _ s' => s' = putsS w prog d (entL (s.heap.objs.size + 1) (x :: r)) (subX w prog (x :: r) s)) hu hdc hcs hd1 hs hne hk2 (by rw [entL_len]; exact hl) rfl)) ?_ ?_))
      · intro u s' es
        subst es
        refine wpAny_pure (q (xs ++ entL (s.heap.objs.size + 1) (x :: r)) (by rw [List.map_append, entL_keys]) ⟨?_, ?_, ?_⟩ ?_)
        · obtain ⟨o, es, ep, ho, hex, hdat, hes, his, hnd⟩ := hs
          exact puts_dof _ _ _ hd1 his hk2
        · exact fun z => hne (List.append_eq_nil_iff.mp z).1
        · rw [show (flushS w prog (x :: r) (some d) s).2 = putsS w prog d (entL (s.heap.objs.size + 1) (x :: r)) (subX w prog (x :: r) s) from rfl, (putsS_sb _ _).1]
          exact Nat.lt_trans hlt old.1
        · rw [show (flushS w prog (x :: r) (some d) s).2 = putsS w prog d (entL (s.heap.objs.size + 1) (x :: r)) (subX w prog (x :: r) s) from rfl, (putsS_sb _ _).1]
          exact Nat.lt_trans hlow old.1
      · exact fun _ _ z => z.elim
/-- the whole display -/
def dispS (w : World) (prog : Program) : List P2 → List P2 → Option Addr → Shared → Option Addr × Shared
  | [], run, m, s => flushS w prog run m s
  | p :: r, run, m, s => if (run ++ [p]).length = 17 then dispS w prog r [] (flushS w prog (run ++ [p]) m s).1 (flushS w prog (run ++ [p]) m s).2 else dispS w prog r (run ++ [p]) m s
abbrev St2 := Option Addr × List (Sem Value × Sem Value)
abbrev turnP (p : Sem Value × Sem Value) (st : St2) : Sem (ForInStep St2) :=
  if ((st.2 ++ [(p.1, p.2)]).length == 17) = true then do
    let m ← flushP (st.2 ++ [(p.1, p.2)]) st.1
    pure (ForInStep.yield (m, []))
  else pure (ForInStep.yield (st.1, st.2 ++ [(p.1, p.2)]))
theorem disp_loop (hu : A.units < cLine) {body : Option (Sem Value) × Sem Value → St2 → Sem (ForInStep St2)} (hb : ∀ p st, body (some p.1, p.2) st = turnP p st) : ∀ (ts : List (Sem Value × Sem Value)) (l : List P2) (run : List (Sem Value × Sem Value)) (lr : List P2) (m : Option Addr) (xs : List Ent) (s : Shared) (Q : Value → Shared → Prop),
    MkP prog w ts l → MkP prog w run lr → Holds w prog m xs s → (xs.map (·.1) ++ (lr.map (·.1) ++ l.map (·.1))).Nodup → xs.length + (lr.length + l.length) ≤ 1000 → sysModules < s.heap.objs.size →
    (∀ ys, ys.map (·.1) = xs.map (·.1) ++ (lr.map (·.1) ++ l.map (·.1)) → Holds w prog (dispS w prog l lr m s).1 ys (dispS w prog l lr m s).2 → ∀ d, (dispS w prog l lr m s).1 = some d → Q (.ref d) (dispS w prog l lr m s).2) →
    ((dispS w prog l lr m s).1.isSome = true) →
    wpAny (model prog w) A (forIn (ts.map fun p => (some p.1, p.2)) (m, run) body) (fun st s' => wpAny (model prog w) A (do
      let z ← flushP st.2 st.1
      match z with
      | some d => pure (Value.ref d)
      | none => newDict) Q E s') E s
  | [], [], run, lr, m, xs, s, Q, _, hr, hm, hn, hl, hlow, q, hz => by
    rw [List.map_nil, List.forIn_nil]
    refine wpAny_pure ?_
    have hn2 : (xs.map (·.1) ++ lr.map (·.1)).Nodup := by simpa using hn
    refine wpAny_bind (flush_ok hu hr hm hn2 (by simpa using hl) hlow fun ys e1 e2 _ => ?_)
    cases e : (flushS w prog lr m s).1 with
    | none =>
      have hz1 : (flushS w prog lr m s).1.isSome = true := hz
      rw [e] at hz1
      cases hz1
    | some d => exact wpAny_pure (q ys (by rw [e1]; simp) e2 d e)
  | [], _ :: _, _, _, _, _, _, _, h, _, _, _, _, _, _, _ => h.elim
  | _ :: _, [], _, _, _, _, _, _, h, _, _, _, _, _, _, _ => h.elim
  | (tk, tv) :: ts, p :: l, run, lr, m, xs, s, Q, ⟨h1, h2, h3⟩, hr, hm, hn, hl, hlow, q, hz => by
    rw [List.map_cons, List.forIn_cons, hb (tk, tv)]
    have hr1 : MkP prog w (run ++ [(tk, tv)]) (lr ++ [p]) := hr.app ⟨h1, h2, trivial⟩
    have hlen : (run ++ [(tk, tv)]).length = (lr ++ [p]).length := hr1.len
    have en : lr.map (·.1) ++ (p :: l).map (·.1) = (lr ++ [p]).map (·.1) ++ l.map (·.1) := by simp
    rw [en] at hn
    have el : lr.length + (p :: l).length = (lr ++ [p]).length + l.length := by
      rw [List.length_cons, List.length_append, List.length_singleton]
      omega
    rw [el] at hl
    have q' : ∀ ys, ys.map (·.1) = xs.map (·.1) ++ ((lr ++ [p]).map (·.1) ++ l.map (·.1)) → Holds w prog (dispS w prog (p :: l) lr m s).1 ys (dispS w prog (p :: l) lr m s).2 → ∀ d, (dispS w prog (p :: l) lr m s).1 = some d → Q (.ref d) (dispS w prog (p :: l) lr m s).2 := fun ys e => q ys (by rw [en]; exact e)
    unfold dispS at q' hz
    by_cases h17 : (lr ++ [p]).length = 17
    · rw [if_pos h17] at q' hz
      refine wpAny_bind ?_
      show wpAny _ _ (if ((run ++ [(tk, tv)]).length == 17) = true then _ else _) _ _ s
      rw [if_pos (by rw [hlen, h17]; rfl)]
      have hn2 : (xs.map (·.1) ++ (lr ++ [p]).map (·.1)).Nodup := by
        rw [← List.append_assoc] at hn
        exact (List.nodup_append.mp hn).1
      refine wpAny_bind (flush_ok hu hr1 hm hn2 (by omega) hlow fun ys e1 e2 e3 => wpAny_pure ?_)
      have ys_len : ys.length = xs.length + (lr ++ [p]).length := by
        have z := congrArg List.length e1
        rw [List.length_append, List.length_map, List.length_map, List.length_map] at z
        exact z
      have z := disp_loop hu hb ts l [] [] (flushS w prog (lr ++ [p]) m s).1 ys (flushS w prog (lr ++ [p]) m s).2 Q h3 trivial e2 (by rw [e1, List.map_nil, List.nil_append, List.append_assoc]; exact hn) (by rw [ys_len, List.length_nil]; omega) e3
        (fun zs f1 f2 d f3 => q' zs (by rw [f1, e1, List.map_nil, List.nil_append, List.append_assoc]) f2 d f3) hz
      exact z
    · rw [if_neg h17] at q' hz
      refine wpAny_bind ?_
      show wpAny _ _ (if ((run ++ [(tk, tv)]).length == 17) = true then _ else _) _ _ s
      rw [if_neg (by rw [hlen]; exact fun z => h17 (beq_iff_eq.mp z))]
      refine wpAny_pure ?_
      have z := disp_loop hu hb ts l (run ++ [(tk, tv)]) (lr ++ [p]) m xs s Q h3 hr1 hm hn hl hlow q' hz
      exact z
theorem display_ok (hu : A.units < cLine) {ts : List (Sem Value × Sem Value)} {l : List P2} {Q : Value → Shared → Prop} (h : MkP prog w ts l) (hn : (l.map (·.1)).Nodup) (hl : l.length ≤ 1000) (hlow : sysModules < s.heap.objs.size) (hz : (dispS w prog l [] none s).1.isSome = true)
    (q : ∀ ys, ys.map (·.1) = l.map (·.1) → ∀ d, (dispS w prog l [] none s).1 = some d → (dispS w prog l [] none s).2.heap.DictOfH (knd prog w) d ys → Q (.ref d) (dispS w prog l [] none s).2) :
    wpAny (model prog w) A (dictDisplay (ts.map fun p => (some p.1, p.2))) Q E s := by
  unfold dictDisplay
  exact wpAny_bind (disp_loop hu (fun _ _ => rfl) ts l [] [] none [] s Q h trivial rfl (by simpa using hn) (by simpa using hl) hlow (fun ys e1 e2 d e3 => q ys (by simpa using e1) d e3 (by
    rw [e3] at e2
    exact e2.1)) hz)
end
end LedRun
/-! LedHead -/
namespace LedRun
open PySem PySem.W PySem.Calls PyProof.Rows
section
variable {tb : String → Option Builtin} {pr : Program} {w : World} {n0 : Nat} {ann : Option Value}
structure Kept (n0 : Nat) (ann : Option Value) (s s' : Shared) : Prop where
  life : s'.heap.life = s.heap.life
  os : s'.os = s.os
  old : ∀ b o, b < n0 → b ≠ mainNs → b ≠ cStatics → ann ≠ some (.ref b) → s.heap.get? b = some o → s'.heap.get? b = some o
theorem Kept.refl (s : Shared) : Kept n0 ann s s := ⟨rfl, rfl, fun _ _ _ _ _ _ e => e⟩
theorem Kept.trans {s s1 s2 : Shared} (a : Kept n0 ann s s1) (b : Kept n0 ann s1 s2) : Kept n0 ann s s2 :=
  ⟨b.life.trans a.life, b.os.trans a.os, fun c o h1 h2 h3 h4 e => b.old c o h1 h2 h3 h4 (a.old c o h1 h2 h3 h4 e)⟩
theorem kept_step {s s' : Shared} {t t' : Thread} (hk : stepOk n0 ann t = true) (hs : PySem.step (denote tb) pr w s t = .go s' t') : Kept n0 ann s s' := by
  obtain ⟨_, k2⟩ := Bool.and_eq_true_iff.mp hk
  refine ⟨step_life (denote tb) pr w s s' t t' hs, step_os_same hs ?_, fun b o h1 h2 h3 h4 e => ?_⟩
  · generalize t.cur = c at k2
    cases c <;> first | rfl | cases k2
  · rw [step_heap (denote tb) pr w s s' t t' hs]
    generalize t.cur = c at k2
    cases c with
    | update a part f k =>
      have ne : b ≠ a := fun z => by
        subst z
        simp only [Bool.or_eq_true, Nat.ble_eq, beq_iff_eq] at k2
        rcases k2 with ((z | z) | z) | z
        · exact Nat.lt_irrefl _ (Nat.lt_of_lt_of_le h1 z)
        · exact h2 z
        · exact h3 z
        · exact h4 z
      exact (Heap.get?_update_ne _ _ _ _ ne).trans e
    | alloc x k => exact Heap.get?_push_of_some x e
    | _ => exact e
theorem kept_go : ∀ {n : Nat} {s s' : Shared} {t t' : Thread}, topGo tb pr w n0 ann n s t = some (s', t') → Kept n0 ann s s'
  | 0, s, s', t, t', h => by
    have h5 : (s, t) = (s', t') := Option.some.inj h
    simp only [Prod.mk.injEq] at h5
    rw [h5.1]
    exact .refl _
  | n + 1, s, s', t, t', h => by
    unfold topGo at h
    cases ht : through t with
    | true => rw [ht] at h; cases h
    | false =>
      rw [ht] at h
      cases hk : stepOk n0 ann t with
      | false => rw [hk] at h; cases h
      | true =>
        rw [hk] at h
        cases hs : PySem.step (denote tb) pr w s t with
        | halt o z => rw [hs] at h; cases h
        | go z u => rw [hs] at h; exact (kept_step hk hs).trans (kept_go h)
theorem kept_seg {b : Nat} : ∀ {n : Nat} {s s' : Shared} {t : Thread} {f : Flow} {c : Code} {p : Pos}, segRun tb pr w n0 ann b n s t = some (f, s', c, p) → Kept n0 ann s s'
  | 0, _, _, _, _, _, _, h => by simp [segRun] at h
  | n + 1, s, s', t, f, c, p, h => by
    unfold segRun at h
    cases he : endAt b t with
    | some g =>
      rw [he] at h
      have h5 : (g, s, t.code, t.pos) = (f, s', c, p) := Option.some.inj h
      simp only [Prod.mk.injEq] at h5
      rw [h5.2.1]
      exact .refl _
    | none =>
      rw [he] at h
      cases hk : stepOk n0 ann t with
      | false => rw [hk] at h; cases h
      | true =>
        rw [hk] at h
        cases hs : PySem.step (denote tb) pr w s t with
        | halt o z => rw [hs] at h; cases h
        | go z u => rw [hs] at h; exact (kept_step hk hs).trans (kept_seg h)
end
section
variable {prog : Program} {w : World}
theorem sets_rest {d : Addr} : ∀ (l : List Ent) (s : Shared), (setsS w prog d l s).heap.life = s.heap.life ∧ (setsS w prog d l s).os = s.os ∧ (setsS w prog d l s).gens = s.gens
  | [], _ => ⟨rfl, rfl, rfl⟩
  | (ks, a, v) :: r, s => by
    have z := sets_rest (d := d) r (setE w prog d ks a v s)
    exact ⟨z.1, z.2.1, z.2.2⟩
theorem puts_rest {d : Addr} : ∀ (l : List Ent) (s : Shared), (putsS w prog d l s).heap.life = s.heap.life ∧ (putsS w prog d l s).os = s.os ∧ (putsS w prog d l s).gens = s.gens
  | [], _ => ⟨rfl, rfl, rfl⟩
  | (ks, a, v) :: r, s => by
    have z := puts_rest (d := d) r (putE d (hsh w prog ks) (.ref a) v s)
    exact ⟨z.1, z.2.1, z.2.2⟩
theorem evS_rest : ∀ (l : List P2) (s : Shared), (evS l s).heap.life = s.heap.life ∧ (evS l s).os = s.os ∧ (evS l s).gens = s.gens
  | [], _ => ⟨rfl, rfl, rfl⟩
  | (ks, vs) :: r, s => by
    have z := evS_rest r (mkT vs (mkT ks s))
    exact ⟨z.1, z.2.1, z.2.2⟩
theorem longS_rest {d : Addr} : ∀ (l : List P2) (s : Shared), (longS w prog d l s).heap.life = s.heap.life ∧ (longS w prog d l s).os = s.os ∧ (longS w prog d l s).gens = s.gens
  | [], _ => ⟨rfl, rfl, rfl⟩
  | (ks, vs) :: r, s => by
    have z := longS_rest (d := d) r (setE w prog d ks s.heap.objs.size (.ref (s.heap.objs.size + 1)) (mkT vs (mkT ks s)))
    exact ⟨z.1, z.2.1, z.2.2⟩
theorem subX_rest (l : List P2) (s : Shared) : (subX w prog l s).heap.life = s.heap.life ∧ (subX w prog l s).os = s.os ∧ (subX w prog l s).gens = s.gens := by
  unfold subX
  split
  · have a := sets_rest (w := w) (prog := prog) (d := s.heap.objs.size) (entL (s.heap.objs.size + 1) l) (evS l (newD s))
    have b := evS_rest l (newD s)
    exact ⟨a.1.trans b.1, a.2.1.trans b.2.1, a.2.2.trans b.2.2⟩
  · have a := longS_rest (w := w) (prog := prog) (d := s.heap.objs.size) l (newD s)
    exact ⟨a.1, a.2.1, a.2.2⟩
theorem subX_lt (l : List P2) (s : Shared) : s.heap.objs.size ≤ (subX w prog l s).heap.objs.size := Nat.le_of_lt (subX_old l s).1
/-- d may be changed where it is new -/
theorem flush_kept {z : Shared} (l : List P2) (m : Option Addr) (s : Shared) (hm : ∀ d, m = some d → z.heap.objs.size ≤ d) (hz : z.heap.objs.size ≤ s.heap.objs.size) (k : (∀ b o, z.heap.get? b = some o → s.heap.get? b = some o) ∧ s.heap.life = z.heap.life ∧ s.os = z.os ∧ s.gens = z.gens) :
    (∀ d, (flushS w prog l m s).1 = some d → z.heap.objs.size ≤ d) ∧ z.heap.objs.size ≤ (flushS w prog l m s).2.heap.objs.size ∧
    (∀ b o, z.heap.get? b = some o → (flushS w prog l m s).2.heap.get? b = some o) ∧ (flushS w prog l m s).2.heap.life = z.heap.life ∧ (flushS w prog l m s).2.os = z.os ∧ (flushS w prog l m s).2.gens = z.gens := by
  obtain ⟨k1, k2, k3, k4⟩ := k
  cases l with
  | nil => exact ⟨hm, hz, k1, k2, k3, k4⟩
  | cons x r =>
    have o := subX_old (w := w) (prog := prog) (x :: r) s
    have q := subX_rest (w := w) (prog := prog) (x :: r) s
    cases m with
    | none =>
      refine ⟨fun d e => ?_, Nat.le_trans hz (Nat.le_of_lt o.1), fun b ob e => o.2 b ob (k1 b ob e), q.1.trans k2, q.2.1.trans k3, q.2.2.trans k4⟩
      have e1 : s.heap.objs.size = d := Option.some.inj e
      rw [← e1]
      exact hz
    | some d =>
      have sb := putsS_sb (w := w) (prog := prog) (d := d) (entL (s.heap.objs.size + 1) (x :: r)) (subX w prog (x :: r) s)
      have pr := puts_rest (w := w) (prog := prog) (d := d) (entL (s.heap.objs.size + 1) (x :: r)) (subX w prog (x :: r) s)
      refine ⟨fun c e => ?_, ?_, fun b ob e => ?_, pr.1.trans (q.1.trans k2), pr.2.1.trans (q.2.1.trans k3), pr.2.2.trans (q.2.2.trans k4)⟩
      · have e1 : d = c := Option.some.inj e
        rw [← e1]
        exact hm d rfl
      · rw [show (flushS w prog (x :: r) (some d) s).2 = putsS w prog d (entL (s.heap.objs.size + 1) (x :: r)) (subX w prog (x :: r) s) from rfl, sb.1]
        exact Nat.le_trans hz (Nat.le_of_lt o.1)
      · have lt := Heap.lt_size e
        have ne : b ≠ d := fun y => by
          rw [y] at lt
          exact Nat.lt_irrefl _ (Nat.lt_of_lt_of_le lt (hm d rfl))
        exact (sb.2 b ne).trans (o.2 b ob (k1 b ob e))
theorem disp_kept {z : Shared} : ∀ (l run : List P2) (m : Option Addr) (s : Shared), (∀ d, m = some d → z.heap.objs.size ≤ d) → z.heap.objs.size ≤ s.heap.objs.size → ((∀ b o, z.heap.get? b = some o → s.heap.get? b = some o) ∧ s.heap.life = z.heap.life ∧ s.os = z.os ∧ s.gens = z.gens) →
    (∀ b o, z.heap.get? b = some o → (dispS w prog l run m s).2.heap.get? b = some o) ∧ (dispS w prog l run m s).2.heap.life = z.heap.life ∧ (dispS w prog l run m s).2.os = z.os ∧ (dispS w prog l run m s).2.gens = z.gens
  | [], run, m, s, hm, hz, k => (flush_kept run m s hm hz k).2.2
  | p :: r, run, m, s, hm, hz, k => by
    unfold dispS
    split
    · obtain ⟨a, b, c⟩ := flush_kept (w := w) (prog := prog) (run ++ [p]) m s hm hz k
      exact disp_kept r [] _ _ a b c
    · exact disp_kept r (run ++ [p]) m s hm hz k
end
end LedRun
/-! LedHead2 -/
namespace LedRun
open PySem PySem.W PySem.Calls PyProof.Rows
def storeS (x : Str) (px : Pos) (value : Expr) (env : Env) (v : Value) : Sem Flow := do assignStores env v (← swappedStores [.Name x px] value env) ((assignEach [.Name x px] env).map (·.2))
def behindS (x : Str) (px : Pos) (value : Expr) (rest : List Stmt) (env : Env) (v : Value) : Sem Flow := (storeS x px value env v).bind fun f => match f with
  | .next => execs rest env
  | f => .pure f
def aheadS (keys : List (Option Expr)) (values : List Expr) (dpos spos : Pos) (env : Env) : Sem Value := do
  standAt spos
  standAt dpos
  dictDisplay ((evalEachOpt keys env).zip ((evalEach values env).map fun v => do let x ← v; standAt dpos; pure x))
theorem ledSplit {x : Str} {px dpos spos : Pos} {keys : List (Option Expr)} {values : List Expr} {rest : List Stmt} {env : Env} {c : Code} {p : Pos} {B : List Frame} (hsw : swapsWithSole [.Name x px] (.Dict keys values dpos) spos.line env = pure false) :
    restOf (.Assign [.Name x px] (.Dict keys values dpos) spos :: rest) env c p B =
      ⟨(aheadS keys values dpos spos env).wrap (fun v => (behindS x px (.Dict keys values dpos) rest env v).wrap doneF (leaveH env) id id) (leaveH env) id id, c, p, B⟩ := by
  unfold restOf
  rw [execs_cons_wrap]
  have e : exec (.Assign [.Name x px] (.Dict keys values dpos) spos) env = (aheadS keys values dpos spos env).bind (storeS x px (.Dict keys values dpos) env) := by
    rw [arm_exec_Assign, hsw]
    rfl
  rw [e, Sem.bind_eq_wrap, Sem.wrap_wrap]
  have e2 : ∀ v, (storeS x px (.Dict keys values dpos) env v).wrap (fun f => match f with | .next => (execs rest env).wrap doneF (leaveH env) id id | f => doneF f) (leaveH env) id id = (behindS x px (.Dict keys values dpos) rest env v).wrap doneF (leaveH env) id id := by
    intro v
    unfold behindS
    rw [Sem.bind_eq_wrap, Sem.wrap_wrap]
    exact Sem.wrap_congr _ _ _ (fun f => by cases f <;> rfl) fun _ => rfl
  refine congrArg (fun z => (⟨z, c, p, B⟩ : Thread)) ?_
  exact Sem.wrap_congr _ _ _ (fun v => e2 v) fun _ => rfl
def frX {α : Type} (s : SharedT) (k : SharedT → α) : α := HandSHeadRun.frS s k
section
variable (st : SharedT → Thread → Option (SharedT × Thread)) (n0 : Nat) (ann : Option Value)
def goT : Nat → SharedT → Thread → Option (SharedT × Thread)
  | 0, s, t => some (s, t)
  | m + 1, s, t => match through t with
    | true => none
    | false => match stepOk n0 ann t with
      | false => none
      | true => match st s t with
        | some (s', t') => frX s' fun s' => goT m s' t'
        | none => none
def segT : Nat → SharedT → Thread → Option (SharedT × Code × Pos)
  | 0, _, _ => none
  | m + 1, s, t => match endAt 1 t with
    | some f => (match f with
      | .next => some (s, t.code, t.pos)
      | _ => none)
    | none => match stepOk n0 ann t with
      | false => none
      | true => match st s t with
        | some (s', t') => frX s' fun s' => segT m s' t'
        | none => none
end
section
variable {tb : String → Option Builtin} {pr : Program} {w : World} {n0 : Nat} {ann : Option Value}
theorem goT_ok : ∀ {m : Nat} {s s' : SharedT} {t t' : Thread}, goT (stepT (denote tb) pr w) n0 ann m s t = some (s', t') → topGo tb pr w n0 ann m s.abs t = some (s'.abs, t')
  | 0, s, s', t, t', h => by
    have h5 : (s, t) = (s', t') := Option.some.inj h
    simp only [Prod.mk.injEq] at h5
    rw [h5.1, h5.2]
    rfl
  | m + 1, s, s', t, t', h => by
    unfold goT at h
    unfold topGo
    cases ht : through t with
    | true => rw [ht] at h; cases h
    | false =>
      rw [ht] at h
      cases hk : stepOk n0 ann t with
      | false => rw [hk] at h; cases h
      | true =>
        rw [hk] at h
        cases hs : stepT (denote tb) pr w s t with
        | none => rw [hs] at h; cases h
        | some r =>
          obtain ⟨s2, t2⟩ := r
          rw [hs] at h
          have h3 : (frX s2 fun s' => goT (stepT (denote tb) pr w) n0 ann m s' t2) = some (s', t') := h
          unfold frX at h3
          rw [HandSHeadRun.frS_eq] at h3
          show (match PySem.step (denote tb) pr w s.abs t with
            | .go s' t' => topGo tb pr w n0 ann m s' t'
            | .halt _ _ => none) = _
          rw [stepT_spec hs]
          exact goT_ok h3
theorem segT_ok : ∀ {m : Nat} {s s' : SharedT} {t : Thread} {c : Code} {p : Pos}, segT (stepT (denote tb) pr w) n0 ann m s t = some (s', c, p) → segRun tb pr w n0 ann 1 m s.abs t = some (.next, s'.abs, c, p)
  | 0, _, _, _, _, _, h => by cases h
  | m + 1, s, s', t, c, p, h => by
    unfold segT at h
    unfold segRun
    cases he : endAt 1 t with
    | some f =>
      rw [he] at h
      cases f with
      | next =>
        have h5 : (s, t.code, t.pos) = (s', c, p) := Option.some.inj h
        simp only [Prod.mk.injEq] at h5
        obtain ⟨h6, h7, h8⟩ := h5
        rw [h6, h7, h8]
      | _ => cases h
    | none =>
      rw [he] at h
      cases hk : stepOk n0 ann t with
      | false => rw [hk] at h; cases h
      | true =>
        rw [hk] at h
        cases hs : stepT (denote tb) pr w s t with
        | none => rw [hs] at h; cases h
        | some r =>
          obtain ⟨s2, t2⟩ := r
          rw [hs] at h
          have h3 : (frX s2 fun s' => segT (stepT (denote tb) pr w) n0 ann m s' t2) = some (s', c, p) := h
          unfold frX at h3
          rw [HandSHeadRun.frS_eq] at h3
          show (match PySem.step (denote tb) pr w s.abs t with
            | .go s' t' => segRun tb pr w n0 ann 1 m s' t'
            | .halt _ _ => none) = _
          rw [stepT_spec hs]
          exact segT_ok h3
theorem top_end {s : Shared} {c : Code} {p q : Pos} : Rn (denote tb) pr w s ⟨doneF .next, c, p, [topFrame q]⟩ s ⟨topAfter (.ok .next), .builtin "claim.caller" {}, q, []⟩ := Rn.one rfl rfl
theorem top_through {q : Pos} : through ⟨topAfter (.ok .next), .builtin "claim.caller" {}, q, []⟩ = true := rfl
end
/-- what a context may count on -/
def ctxA (G : Ctx) : Around := { handled := G.handled, depth := frameCount G.below + G.code.weight, frames := none, guards := none, units := G.units }
theorem ctxA_in (G : Ctx) : G.In (ctxA G) := ⟨rfl, Nat.le_refl _, fun l hl => (by cases hl), fun g hg => (by cases hg), Nat.le_refl _⟩
theorem top_units {b : List Stmt} {env : Env} {q : Pos} : (ctxA (Ctx.of (.body b env) [topFrame q])).units < cLine := (show (7 : Nat) < 9900 by decide)
/-- the display, run in the midst of the top -/
theorem led_rn {prog : Program} {w : World} {s : Shared} {b : List Stmt} {env : Env} {p q : Pos} {K : Value → Sem Fin} {H : Value → Sem Fin} {keys : List (Option Expr)} {values : List Expr} {dpos spos : Pos} {ts : List (Sem Value × Sem Value)} {l : List P2} {d : Addr}
    (hi : (evalEachOpt keys env).zip ((evalEach values env).map fun v => do let x ← v; standAt dpos; pure x) = ts.map fun p => (some p.1, p.2)) (h : MkP prog w ts l) (hn : (l.map (·.1)).Nodup) (hl : l.length ≤ 1000) (hlow : sysModules < s.heap.objs.size) (hd : (dispS w prog l [] none s).1 = some d) :
    ∃ p2, Rn (denote table) prog w s ⟨(aheadS keys values dpos spos env).wrap K H id id, .body b env, p, [topFrame q]⟩ (dispS w prog l [] none s).2 ⟨K (.ref d), .body b env, p2, [topFrame q]⟩ := by
  have w1 : wpAny (model prog w) (ctxA (Ctx.of (.body b env) [topFrame q])) (aheadS keys values dpos spos env) (fun v s' => v = .ref d ∧ s' = (dispS w prog l [] none s).2) (fun _ _ => False) s := by
    unfold aheadS
    refine wpAny_bind (wpAny_standAt (wpAny_bind (wpAny_standAt ?_)))
    rw [hi]
    refine display_ok top_units h hn hl hlow (by rw [hd]; rfl) fun ys _ d2 e _ => ?_
    rw [hd] at e
    exact ⟨by rw [Option.some.inj e], rfl⟩
  have w2 := w1 _ p (ctxA_in _)
  obtain ⟨a, s2, p2, ⟨ea, es⟩, n, hc⟩ := wpRun (K := K) (H := H) (gd := id) (lv := id) (Ctx.fits_of (.body b env) [topFrame q]) (aheadS keys values dpos spos env) (fun v _ s' => v = .ref d ∧ s' = (dispS w prog l [] none s).2) p s w2
  subst ea es
  exact ⟨p2, Rn.ofI hc⟩
end LedRun
/-! LedHead3 -/
noncomputable section
namespace LedRun
open PySem PySem.W PySem.Calls PyProof.Rows HandSHeadRun
/-- what the run of the top leaves at a world -/
def Left1 (p q : Program) (loose : List PySem.Str) (XP : (PySem.Str → Option Value) → Heap → Prop) (YP : World → Heap → Prop) (w : World) : Prop :=
  (∃ s, AfterRun (opening p) w s) ∧ ∀ s, AfterRun (opening p) w s → ∃ s0, fenceModules? p s = some s0 ∧ s0.gens = #[] ∧ ∃ s1, TopRan p w s0 s1 ∧ s1.asleep ∧ s1.gens = #[] ∧ s1.heap.isNs mainGlobals = true ∧
    Ground q loose [] XP w s1 (s1.heap.nsMap mainGlobals) (s1.heap.nsMap builtinsNs) s1.heap ∧ YP w s1.heap
/-- the parts of a top with one display: what stands ahead of it, its name and place, its keys and values, what stands behind -/
structure Parts where
  pre : List Stmt
  x : PySem.Str
  px : Pos
  keys : List (Option Expr)
  values : List Expr
  dpos : Pos
  spos : Pos
  rest : List Stmt
def Parts.body (d : Parts) : List Stmt := d.pre ++ .Assign [.Name d.x d.px] (.Dict d.keys d.values d.dpos) d.spos :: d.rest
def Parts.val (d : Parts) : Expr := .Dict d.keys d.values d.dpos
structure Res where
  c2 : Code
  c3 : Code
  low : Bool
  fin : SharedT
def pieceT (t : Sem Flow) (c : Code) (p q : Pos) : Thread := ⟨t.wrap doneF deadEnd id id, c, p, [topFrame q]⟩
/-- behind the display -/
def runC (st : SharedT → Thread → Option (SharedT × Thread)) (n0 : Nat) (ann : Option Value) (d : Parts) (env : Env) (q P : Pos) (M : Nat) (c2 c3 : Code) (low : Bool) (z : Option Addr × Shared) : Option Res := match z.1 with
  | none => none
  | some a => match putAll z.2.heap.objs.toList .nil 0 with
    | none => none
    | some (t4, n4) => frNat n4 fun n4 => match segT st n0 ann M ⟨t4, n4, z.2.heap.life, z.2.gens, z.2.drawn, z.2.toks, z.2.os⟩ (pieceT (behindS d.x d.px d.val d.rest env (.ref a)) (.body d.body env) P q) with
      | none => none
      | some (s5, _, _) => some ⟨c2, c3, low, s5⟩
/-- from the state ahead of the body -/
def runB (st : SharedT → Thread → Option (SharedT × Thread)) (w : World) (p : Program) (n0 : Nat) (ann : Option Value) (d : Parts) (l : List P2) (env : Env) (p1 q P : Pos) (M : Nat) (s1 : SharedT) : Option Res := match segT st n0 ann M s1 (blockOf d.body env (.body d.body env) p1 [topFrame q]) with
  | none => none
  | some (s2, c2, p2) => match segT st n0 ann M s2 (piecesOf d.pre env c2 p2 [topFrame q]) with
    | none => none
    | some (s3, c3, _) => runC st n0 ann d env q P M c2 c3 (Nat.blt sysModules s3.n) (dispS w p l [] none s3.abs)
/-- ahead of the body -/
def runA (st : SharedT → Thread → Option (SharedT × Thread)) (w : World) (os : OsState) (p : Program) (m0 : Nat) : Option (SharedT × Thread) := match putAll (boot_heap w.params).objs.toList .nil 0 with
  | some (t, n) => frNat n fun n0 => goT st n0 (bootAnn w) m0 (bootT w os (t, n0)) (topStub p)
  | none => none
def runAll (st : SharedT → Thread → Option (SharedT × Thread)) (w : World) (os : OsState) (p : Program) (m0 : Nat) (d : Parts) (l : List P2) (env : Env) (p1 q P : Pos) (M : Nat) : Option Res := match runA st w os p m0 with
  | none => none
  | some (s1, _) => frNat (boot_heap w.params).objs.toList.length fun n0 => runB st w p n0 (bootAnn w) d l env p1 q P M s1
theorem through_forget {t u : Thread} (h : t.forget = u.forget) (hu : through u = true) : through t = true := by
  obtain ⟨c, k, p, st⟩ := t
  obtain ⟨c2, k2, p2, st2⟩ := u
  unfold through at hu
  obtain ⟨h1, h2⟩ := Bool.and_eq_true_iff.mp hu
  have e : st2 = [] := by
    cases st2 with
    | nil => rfl
    | cons _ _ => cases h1
  subst e
  unfold Thread.forget at h
  simp only [Thread.mk.injEq] at h
  obtain ⟨e1, _, _, e4⟩ := h
  have e5 : st = [] := by
    cases st with
    | nil => rfl
    | cons _ _ => cases e4
  subst e5 e1
  exact hu
section
variable {p q : Program} {loose : List PySem.Str} {Xt : Shared → Bool} {XP : (PySem.Str → Option Value) → Heap → Prop} {α : Type} {Yf : Shared → α} {Ya : World → α} {YP : World → Heap → Prop} {w : World} {d : Parts} {l : List P2} {env : Env} {p1 qq : Pos} {m0 M : Nat} {ts : List (Sem Value × Sem Value)}
theorem left1_of (e : opening p = plainProg p.main.scope.names) (f : ∀ s, fenceModules? p s = some s) (hX : ∀ s, Xt s = true → XP (s.heap.nsMap mainGlobals) s.heap) (hch : chainsOk q = true) (hY : ∀ w s, Yf s = Ya w → YP w s.heap)
    (hsw : swapsWithSole [.Name d.x d.px] (.Dict d.keys d.values d.dpos) d.spos.line env = pure false)
    (hi : (evalEachOpt d.keys env).zip ((evalEach d.values env).map fun v => do let x ← v; standAt d.dpos; pure x) = ts.map fun p => (some p.1, p.2)) (hMk : MkP p w ts l) (hn : (l.map (·.1)).Nodup) (hl : l.length ≤ 1000)
    (A0 : ∀ os, (runA (stepQ (denQ tabQ) p w) w os p m0).map (·.2) = some ⟨denQ tabQ (.body d.body env), .body d.body env, p1, [topFrame qq]⟩)
    (A1 : ∀ os P, (runAll (stepQ (denQ tabQ) p w) w os p m0 d l env p1 qq P M).map (fun r => (r.c2, r.c3, r.low, looksF p (boot_heap w.params) r.fin.abs, seenQ q loose (importedModules p.main.body) Xt r.fin.abs, Yf r.fin.abs)) =
      some (.body d.body env, .body d.body env, true, true, openGood q loose, Ya w)) : Left1 p q loose XP YP w := by
  obtain ⟨⟨h0, gs, dr, tk, os⟩, a, a'⟩ := Option.map_eq_some_iff.mp (boot_open (N := 600) e rfl f w)
  obtain ⟨rfl, rfl, rfl, rfl⟩ : h0 = boot_heap w.params ∧ gs = Array.mk [] ∧ dr = boot_drawn ∧ tk = boot_toks := by simpa using a'
  obtain ⟨s, b1, b2⟩ := Option.bind_eq_some_iff.mp a
  rw [← table_eq_tree] at b1
  have AI := AfterImport.of_importEnds b1
  refine ⟨⟨s, AI⟩, fun s' hs' => ?_⟩
  obtain rfl : s' = s := AfterImport.unique hs' AI
  refine ⟨_, b2, rfl, ?_⟩
  have zz : (⟨boot_heap w.params, Array.mk [], boot_drawn, boot_toks, os⟩ : Shared).asleep := Shared.asleep_of_life (fence_lifeW b2) AI.life
  obtain ⟨r, hr, hv⟩ := Option.map_eq_some_iff.mp (A1 os ⟨0, 0, 0, 0⟩)
  simp only [Prod.mk.injEq] at hv
  -- the state ahead of the body
  obtain ⟨⟨s1, t1⟩, r0, e0⟩ := Option.map_eq_some_iff.mp (A0 os)
  have e0 : t1 = _ := e0
  subst e0
  have key : ∃ n0, n0 = (boot_heap w.params).objs.size ∧ ∃ bt : SharedT, bt.abs = ⟨boot_heap w.params, #[], boot_drawn, boot_toks, os⟩ ∧ goT (stepQ (denQ tabQ) p w) n0 (bootAnn w) m0 bt (topStub p) = some (s1, ⟨denQ tabQ (.body d.body env), .body d.body env, p1, [topFrame qq]⟩) := by
    unfold runA at r0
    cases ep : putAll (boot_heap w.params).objs.toList .nil 0 with
    | none => rw [ep] at r0; cases r0
    | some tn =>
      obtain ⟨t, n⟩ := tn
      rw [ep] at r0
      have r1 : (frNat n fun n0 => goT (stepQ (denQ tabQ) p w) n0 (bootAnn w) m0 (bootT w os (t, n0)) (topStub p)) = some (s1, _) := r0
      rw [frNat_eq] at r1
      have eh := putAll_heap ep
      refine ⟨n, ?_, bootT w os (t, n), ?_, r1⟩
      · rw [← eh]
        exact (absHeap_size t n _).symm
      · show (⟨absHeap t n (boot_heap w.params).life, #[], boot_drawn, boot_toks, os⟩ : Shared) = _
        rw [eh]
  obtain ⟨n0, en0, bt, ebt, r1⟩ := key
  rw [← stepQ_eq, ← denQ_eq, ← tabQ_eq, ← table_eq_tree] at r1
  have g1 := goT_ok r1
  rw [ebt] at g1
  have R0 := goRn g1
  have K0 := kept_go g1
  have en1 : (boot_heap w.params).objs.toList.length = n0 := by rw [en0, Array.length_toList]
  -- the whole
  have whole : ∀ P r, runAll (stepQ (denQ tabQ) p w) w os p m0 d l env p1 qq P M = some r → runB (stepT (denote table) p w) w p n0 (bootAnn w) d l env p1 qq P M s1 = some r := by
    intro P r h
    unfold runAll at h
    rw [r0] at h
    have h1 : (frNat (boot_heap w.params).objs.toList.length fun n0 => runB (stepQ (denQ tabQ) p w) w p n0 (bootAnn w) d l env p1 qq P M s1) = some r := h
    rw [frNat_eq, en1, ← stepQ_eq, ← denQ_eq, ← tabQ_eq, ← table_eq_tree] at h1
    exact h1
  have parts : ∀ P r, runB (stepT (denote table) p w) w p n0 (bootAnn w) d l env p1 qq P M s1 = some r → ∃ s2 c2 p2 s3 c3 p3, segT (stepT (denote table) p w) n0 (bootAnn w) M s1 (blockOf d.body env (.body d.body env) p1 [topFrame qq]) = some (s2, c2, p2) ∧
      segT (stepT (denote table) p w) n0 (bootAnn w) M s2 (piecesOf d.pre env c2 p2 [topFrame qq]) = some (s3, c3, p3) ∧ runC (stepT (denote table) p w) n0 (bootAnn w) d env qq P M c2 c3 (Nat.blt sysModules s3.n) (dispS w p l [] none s3.abs) = some r := by
    intro P r h
    unfold runB at h
    cases q1 : segT (stepT (denote table) p w) n0 (bootAnn w) M s1 (blockOf d.body env (.body d.body env) p1 [topFrame qq]) with
    | none => rw [q1] at h; cases h
    | some z =>
      obtain ⟨s2, c2, p2⟩ := z
      rw [q1] at h
      have h : (match segT (stepT (denote table) p w) n0 (bootAnn w) M s2 (piecesOf d.pre env c2 p2 [topFrame qq]) with
        | none => none
        | some (s3, c3, _) => runC (stepT (denote table) p w) n0 (bootAnn w) d env qq P M c2 c3 (Nat.blt sysModules s3.n) (dispS w p l [] none s3.abs)) = some r := h
      cases q2 : segT (stepT (denote table) p w) n0 (bootAnn w) M s2 (piecesOf d.pre env c2 p2 [topFrame qq]) with
      | none => rw [q2] at h; cases h
      | some z =>
        obtain ⟨s3, c3, p3⟩ := z
        rw [q2] at h
        exact ⟨s2, c2, p2, s3, c3, p3, rfl, q2, h⟩
  have lastp : ∀ P r c2 c3 low z, runC (stepT (denote table) p w) n0 (bootAnn w) d env qq P M c2 c3 low z = some r → ∃ a s4 c5 p5, z.1 = some a ∧ SharedT.abs s4 = z.2 ∧ segT (stepT (denote table) p w) n0 (bootAnn w) M s4 (pieceT (behindS d.x d.px d.val d.rest env (.ref a)) (.body d.body env) P qq) = some (r.fin, c5, p5) ∧ r.c2 = c2 ∧ r.c3 = c3 ∧ r.low = low := by
    rintro P r c2 c3 low ⟨z1, z2⟩ h
    unfold runC at h
    cases z1 with
    | none => cases h
    | some a =>
      have h : (match putAll z2.heap.objs.toList .nil 0 with
        | none => none
        | some (t4, n4) => frNat n4 fun n4 => match segT (stepT (denote table) p w) n0 (bootAnn w) M ⟨t4, n4, z2.heap.life, z2.gens, z2.drawn, z2.toks, z2.os⟩ (pieceT (behindS d.x d.px d.val d.rest env (.ref a)) (.body d.body env) P qq) with
          | none => none
          | some (s5, _, _) => some (⟨c2, c3, low, s5⟩ : Res)) = some r := h
      cases ep : putAll z2.heap.objs.toList .nil 0 with
      | none => rw [ep] at h; cases h
      | some tn =>
        obtain ⟨t4, n4⟩ := tn
        rw [ep] at h
        have h : (frNat n4 fun n4 => match segT (stepT (denote table) p w) n0 (bootAnn w) M ⟨t4, n4, z2.heap.life, z2.gens, z2.drawn, z2.toks, z2.os⟩ (pieceT (behindS d.x d.px d.val d.rest env (.ref a)) (.body d.body env) P qq) with
          | none => none
          | some (s5, _, _) => some (⟨c2, c3, low, s5⟩ : Res)) = some r := h
        rw [frNat_eq] at h
        cases q5 : segT (stepT (denote table) p w) n0 (bootAnn w) M ⟨t4, n4, z2.heap.life, z2.gens, z2.drawn, z2.toks, z2.os⟩ (pieceT (behindS d.x d.px d.val d.rest env (.ref a)) (.body d.body env) P qq) with
        | none => rw [q5] at h; cases h
        | some z =>
          obtain ⟨s5, c5, p5⟩ := z
          rw [q5] at h
          have h5 : (⟨c2, c3, low, s5⟩ : Res) = r := Option.some.inj h
          subst h5
          refine ⟨a, _, c5, p5, rfl, ?_, q5, rfl, rfl, rfl⟩
          show (⟨absHeap t4 n4 z2.heap.life, z2.gens, z2.drawn, z2.toks, z2.os⟩ : Shared) = z2
          rw [putAll_heap ep]
  have hr1 := whole _ _ hr
  obtain ⟨s2, c2, p2, s3, c3, p3, q1, q2, q3⟩ := parts _ _ hr1
  obtain ⟨a, s4, c5, p5, z1, z2, q5, y1, y2, y3⟩ := lastp _ _ _ _ _ _ q3
  have hc2 : c2 = .body d.body env := y1.symm.trans hv.1
  have hc3 : c3 = .body d.body env := y2.symm.trans hv.2.1
  have hlow1 : Nat.blt sysModules s3.n = true := y3.symm.trans hv.2.2.1
  subst hc2 hc3
  have hlow : sysModules < s3.abs.heap.objs.size := by
    show sysModules < (absHeap s3.tree s3.n s3.life).objs.size
    rw [absHeap_size]
    exact Nat.le_of_ble_eq_true hlow1
  have g2 := segT_ok q1
  have R1 := block g2
  have K1 := kept_seg g2
  have g3 := segT_ok q2
  have R2 := pieces (rest := .Assign [.Name d.x d.px] (.Dict d.keys d.values d.dpos) d.spos :: d.rest) g3
  have K2 := kept_seg g3
  obtain ⟨P, R3⟩ := led_rn (prog := p) (w := w) (s := s3.abs) (b := d.body) (env := env) (p := p3) (q := qq) (K := fun v => (behindS d.x d.px d.val d.rest env v).wrap doneF (leaveH env) id id) (H := leaveH env) (spos := d.spos) hi hMk hn hl hlow z1
  -- once more, at the place where the display has left it
  obtain ⟨r', hr', hv'⟩ := Option.map_eq_some_iff.mp (A1 os P)
  simp only [Prod.mk.injEq] at hv'
  obtain ⟨s2', c2', p2', s3', c3', p3', q1', q2', q3'⟩ := parts _ _ (whole _ _ hr')
  rw [q1] at q1'
  have i1 := Option.some.inj q1'
  simp only [Prod.mk.injEq] at i1
  obtain ⟨rfl, rfl, rfl⟩ := i1
  rw [q2] at q2'
  have i2 := Option.some.inj q2'
  simp only [Prod.mk.injEq] at i2
  obtain ⟨rfl, rfl, rfl⟩ := i2
  obtain ⟨a2, s4', c5', p5', z1', z2', q5', _, _, _⟩ := lastp _ _ _ _ _ _ q3'
  have ea : a = a2 := Option.some.inj (z1.symm.trans z1')
  subst ea
  have g5 := segT_ok q5'
  rw [z2'] at g5
  have R4 : Rn (denote table) p w (dispS w p l [] none s3.abs).2 ⟨(behindS d.x d.px d.val d.rest env (.ref a)).wrap doneF (leaveH env) id id, .body d.body env, P, [topFrame qq]⟩ r'.fin.abs ⟨doneF .next, c5', p5', [topFrame qq]⟩ := by
    have RR : Rel2 (fun a : Flow => .pure (.done (id a))) doneF deadEnd (leaveH env) id id [topFrame qq] (pieceT (behindS d.x d.px d.val d.rest env (.ref a)) (.body d.body env) P qq) ⟨(behindS d.x d.px d.val d.rest env (.ref a)).wrap doneF (leaveH env) id id, .body d.body env, P, [topFrame qq]⟩ :=
      ⟨rfl, rfl, .inl ⟨rfl, rfl, _, rfl, rfl⟩⟩
    obtain ⟨f, ef, R⟩ := segRn rfl M _ _ _ _ _ _ _ RR g5
    have ef : f = .next := ef
    subst ef
    exact R
  have K4 := kept_seg g5
  rw [ledSplit hsw] at R2
  have R := ((((R0.trans R1).trans R2).trans R3).trans R4).trans top_end
  obtain ⟨m, sg, tau, hm, f1, f2, f3⟩ := R.sched rfl rfl zz
  have G := ground_of_open (w := w) (q := q) (loose := loose) (mods := importedModules p.main.body) (Xt := Xt) (XP := XP) (g0 := true) hX hch (by rw [seenQ_eq]; exact hv'.2.2.2.2.1)
  obtain ⟨G1, G2, G3, G4, G5, G6, G7⟩ := G
  have hgens : r'.fin.abs.gens = #[] := Array.eq_empty_of_size_eq_zero (beq_iff_eq.mp G2)
  have esg : sg = r'.fin.abs := Shared.eq_of_forget_eq f1 hgens
  subst esg
  have dk := disp_kept (w := w) (prog := p) (z := s3.abs) l [] none s3.abs (fun _ e => by cases e) (Nat.le_refl _) ⟨fun _ _ e => e, rfl, rfl, rfl⟩
  have K3 : Kept n0 (bootAnn w) s3.abs (dispS w p l [] none s3.abs).2 := ⟨dk.2.1, dk.2.2.1, fun b o _ _ _ _ e => dk.1 b o e⟩
  have K := (((K0.trans K1).trans K2).trans K3).trans K4
  obtain ⟨L1, L2⟩ := Bool.and_eq_true_iff.mp hv'.2.2.2.1
  obtain ⟨L3, L4⟩ := Bool.and_eq_true_iff.mp L1
  obtain ⟨L5, L6⟩ := Bool.and_eq_true_iff.mp L3
  have hg0 : (boot_heap w.params).isNs mainGlobals = true := boot_ns w.params
  refine ⟨r'.fin.abs, ⟨⟨m, tau, hm, through_forget f2 top_through⟩, K.life, Shared.rest_eq K.os, fun b o hb hno => ?_, G4, statics_of_ok L5, G5, G6, G7, gens_of_done L4, names_of_bound L6, laid_of_kept L2⟩, Shared.asleep_of_life K.life zz, hgens, G3, G1, hY _ _ hv'.2.2.2.2.2⟩
  refine K.old b o (by rw [en0]; exact Heap.lt_size hb) (fun z => hno (.inl z)) (fun z => hno (.inr (.inl z))) (fun z => hno (.inr (.inr ?_))) hb
  exact (Pin.globalOf_eq hg0 _).trans z
end
end LedRun
end
/-! LedHold -/
noncomputable section
namespace LedRun
open PySem PySem.W PySem.Calls PyProof.Rows HandSHeadRun
/-- the row, from what the run of the top leaves at each world -/
theorem hold_left {r : OpenRow} {q : Program} {loose : List PySem.Str} {YP : World → Heap → Prop} {d : DefRec} {kwd : List (PySem.Str × PySem.Expr)}
    (left : ∀ w, Left1 r.prog q loose (fun mg h => XL q [] mg h ∧ RecFacts r.records h) YP w) (hYk : ∀ w h h', YP w h → (∀ b o, h.get? b = some o → h'.get? b = some o) → YP w h')
    (hdef : defOf q r.name = some (d, kwd)) (hp : r.prog.theDef r.name = some (d.params, d.body, d.scope)) (hk : kwWritten? d.params.kwonlyargs d.params.kw_defaults = some kwd)
    (hwr : (!r.writes || r.records.isEmpty) = true) (k1 : r.wellSaid = true) (ok : (chainsOk q && opensWell r.prog && (frees r.toRowW && r.within.isEmpty)) = true) (hb : r.prog.bare) (hw : r.toRowW.promised)
    (call : WalkO q loose (XL q []) YP r.toRowW d kwd fun f vs => PySem.call f vs) : r.Holds := by
  obtain ⟨ok1, ok2⟩ := Bool.and_eq_true_iff.mp ok
  obtain ⟨_, o1⟩ := Bool.and_eq_true_iff.mp ok1
  obtain ⟨k5, k6⟩ := Bool.and_eq_true_iff.mp ok2
  obtain ⟨hsame, hu, ha, hap, hm⟩ := frees_parts k5
  have hid := ident_freeW hu ha hap
  have hin : r.toRowW.claim.within = [] := List.isEmpty_iff.mp k6
  refine ⟨k1, hw, ⟨hb, o1, ?_⟩, hw.witness, fun w => ⟨(left w).1, fun s' hs' => ?_⟩⟩
  · show r.makers.map _ = []
    rw [hm]
    rfl
  obtain ⟨s0, hf, hg0, s, hT, hz, hgens, hg, G00, y⟩ := (left w).2 s' hs'
  obtain ⟨gT, gB, gD, gE, gC, gW, gX, gcl, ghas, gap, gon, gK⟩ := G00
  have G0 : Ground q loose [] (XL q []) w s (s.heap.nsMap mainGlobals) (s.heap.nsMap builtinsNs) s.heap := ⟨gT, gB, gD, gE, gC, gW, gX.1, gcl, ghas, gap, gon, gK⟩
  have G : Ground q loose r.records (XL q []) w s (s.heap.nsMap mainGlobals) (s.heap.nsMap builtinsNs) s.heap := RecFacts.ground gX.2 G0
  have hT' := hT
  refine ⟨s0, hf, hg0, s, hT, fun n hn => ?_, gX.2.1, gX.2.2.1, ?_⟩
  · have e : n = r.name := by
      split at hn
      · exact List.mem_singleton.mp hn
      · cases hn
    subst e
    exact pinned_of_view hg G0 hdef hp hk
  refine ClaimW.callFrom_of_specG (c := r.toRowW.claim) (tree := fun vs => do
      match ← nsGet mainNs r.name with
      | some f => do ret (← PySem.call f vs)
      | none => unsupported "claim.caller:no-such-global") hz hgens fun args hpre hlay ord hord => ?_
  obtain ⟨⟨vs, s1⟩, laid⟩ := Option.isSome_iff_exists.mp (layAllW_isSome (P := w.params) (ord := ord) G.has args r.args s (pre_splitW hpre).1)
  have keeps := layAllW_keeps _ _ _ laid
  have rest := layAllW_rest _ _ _ laid
  obtain ⟨as, hrd, hin2, hold⟩ := reads_layAllW hord _ _ _ laid hlay s1.heap fun _ _ e => e
  have L : Laid r.records w s s1 args vs as := ⟨⟨ord, hord, laid⟩, hrd, hin2, hold, keeps, rest.1.trans hgens, rest.2.2.1⟩
  have G1 := G.keeps (XL.keeps) keeps
  obtain ⟨a, o, pm, cd, doc, dV, kV, h1, h2, h3, h4, h5⟩ := G1.fn hdef
  have h1n := defOf_name hdef ▸ h1
  have z := call w s s1 _ _ G1 (hYk _ _ _ y keeps) a o pm cd doc dV kV h2 h3 h4 h5 h1n L.gens args vs as hpre hlay L.reads L.well (L.low G.low)
  refine ⟨vs, s1, laid, ?_⟩
  refine wpAny_bind (wpAny_nsGet G1.T.g ?_)
  have e2 : s.heap.nsMap mainGlobals r.name = some (.ref a) := h1
  rw [e2]
  refine wpAny_bind (wpAny_mono z (fun v s' g => wpAny_pure ?_) fun e s' g => ?_)
  · have t := g.laid (c := r.toRowW.claim) hsame hin hid L
    exact ⟨_, rfl, t.1, t.2.1, t.2.2, fun q2 => ⟨namesKept_of hT' hg r.keeps keeps g.2.1.old, noTable hwr q2⟩⟩
  · have t := g.laid (c := r.toRowW.claim) hsame hin hid L
    exact ⟨t.1, t.2.1, t.2.2, fun q2 => ⟨namesKept_of hT' hg r.keeps keeps g.2.1.old, noTable hwr q2⟩⟩
end LedRun
end
/-! Ev0 -/
namespace Ev
open PySem PySem.Spec PyProof.Rows L2
inductive D where
  | non | bl (b : Bool) | int (i : Int) | str (x : Str) | lst (l : List D) | rol (l : List D) | tup (l : List D) | dK (l : List (Key × D)) | dT (l : List (List Key × D))
abbrev Frag := PySem.W.Frag
/-- the tables of code objects that may grow behind everybody's back -/
class Tabs where
  l : List Addr
variable [Tabs]
def Ex (H H' : Hp) : Prop := ∀ a o, H a = some o → H' a = some o
theorem Ex.refl (H : Hp) : Ex H H := fun _ _ h => h
theorem Ex.trans {H H1 H2 : Hp} (a : Ex H H1) (b : Ex H1 H2) : Ex H H2 := fun x o h => b x o (a x o h)
theorem Ex.new {H : Hp} {p : Addr} {o : HO} (h : H p = none) : Ex H (upd H p o) := fun a u e => by
  rw [upd_ne (ne_of_none e h)]
  exact e
theorem Ex.none {H H' : Hp} {p : Addr} (e : Ex H H') (h : H' p = none) : H p = none := by
  cases q : H p with
  | none => rfl
  | some o =>
    rw [e p o q] at h
    cases h
theorem Ex.rd {H H' : Hp} {a : Addr} {u : HO} (e : Ex H H') (h : Rd H a u) : Rd H' a u := by
  rcases h with h | ⟨o, h⟩
  · exact .inl (e a _ h)
  · exact .inr ⟨o, e a _ h⟩
theorem Ex.seqL {K : Frag} {H H' : Hp} {a : Addr} {xs : List V} (e : Ex H H') (h : SqL K H a xs) : SqL K H' a xs := h.imp e.rd id
theorem Ex.seqT {K : Frag} {H H' : Hp} {a : Addr} {xs : List V} (e : Ex H H') (h : SqT K H a xs) : SqT K H' a xs := h.imp e.rd id
mutual
inductive R (K : Frag) (F : Hp) : V → D → Prop
  | non : R K F .non .non
  | bl (b : Bool) : R K F (.bl b) (.bl b)
  | int (i : Int) : R K F (.int i) (.int i)
  | str (x : Str) : R K F (.str x) (.str x)
  | lst {a : Addr} {xs : List V} {ds : List D} (h : F a = some (.lst xs)) (r : Rs K F xs ds) : R K F (.ref a) (.lst ds)
  | rol {a : Addr} {xs : List V} {ds : List D} (h : SqL K F a xs) (r : Rs K F xs ds) : R K F (.ref a) (.rol ds)
  | tup {a : Addr} {xs : List V} {ds : List D} (h : SqT K F a xs) (r : Rs K F xs ds) : R K F (.ref a) (.tup ds)
  | dK {a : Addr} {kvs : List (Key × V)} {ds : List (Key × D)} (h : Rd F a (.dK kvs)) (r : RKs K F kvs ds) : R K F (.ref a) (.dK ds)
  | dT {a : Addr} {kvs : List (List Key × V)} {ds : List (List Key × D)} (h : F a = some (.dT kvs)) (r : RTs K F kvs ds) : R K F (.ref a) (.dT ds)
inductive Rs (K : Frag) (F : Hp) : List V → List D → Prop
  | nil : Rs K F [] []
  | cons {v : V} {d : D} {vs : List V} {ds : List D} (h : R K F v d) (r : Rs K F vs ds) : Rs K F (v :: vs) (d :: ds)
inductive RKs (K : Frag) (F : Hp) : List (Key × V) → List (Key × D) → Prop
  | nil : RKs K F [] []
  | cons {k : Key} {v : V} {d : D} {vs : List (Key × V)} {ds : List (Key × D)} (h : R K F v d) (r : RKs K F vs ds) : RKs K F ((k, v) :: vs) ((k, d) :: ds)
inductive RTs (K : Frag) (F : Hp) : List (List Key × V) → List (List Key × D) → Prop
  | nil : RTs K F [] []
  | cons {k : List Key} {v : V} {d : D} {vs : List (List Key × V)} {ds : List (List Key × D)} (h : R K F v d) (r : RTs K F vs ds) : RTs K F ((k, v) :: vs) ((k, d) :: ds)
end
section
variable {K : Frag} {F F' : Hp}
mutual
theorem R.mono (e : Ex F F') : ∀ {v : V} {d : D}, R K F v d → R K F' v d
  | _, _, .non => .non
  | _, _, .bl b => .bl b
  | _, _, .int i => .int i
  | _, _, .str x => .str x
  | _, _, .lst h r => .lst (e _ _ h) (Rs.mono e r)
  | _, _, .rol h r => .rol (e.seqL h) (Rs.mono e r)
  | _, _, .tup h r => .tup (e.seqT h) (Rs.mono e r)
  | _, _, .dK h r => .dK (e.rd h) (RKs.mono e r)
  | _, _, .dT h r => .dT (e _ _ h) (RTs.mono e r)
theorem Rs.mono (e : Ex F F') : ∀ {vs : List V} {ds : List D}, Rs K F vs ds → Rs K F' vs ds
  | _, _, .nil => .nil
  | _, _, .cons h r => .cons (R.mono e h) (Rs.mono e r)
theorem RKs.mono (e : Ex F F') : ∀ {vs : List (Key × V)} {ds : List (Key × D)}, RKs K F vs ds → RKs K F' vs ds
  | _, _, .nil => .nil
  | _, _, .cons h r => .cons (R.mono e h) (RKs.mono e r)
theorem RTs.mono (e : Ex F F') : ∀ {vs : List (List Key × V)} {ds : List (List Key × D)}, RTs K F vs ds → RTs K F' vs ds
  | _, _, .nil => .nil
  | _, _, .cons h r => .cons (R.mono e h) (RTs.mono e r)
end
theorem Rs.len : ∀ {vs : List V} {ds : List D}, Rs K F vs ds → vs.length = ds.length
  | _, _, .nil => rfl
  | _, _, .cons _ r => congrArg (· + 1) r.len
theorem Rs.get : ∀ {vs : List V} {ds : List D} {i : Nat} {d : D}, Rs K F vs ds → ds[i]? = some d → ∃ v, vs[i]? = some v ∧ R K F v d
  | _, _, _, _, .nil, e => by simp at e
  | _, _, 0, _, .cons h _, e => by
    rw [List.getElem?_cons_zero] at e
    cases e
    exact ⟨_, rfl, h⟩
  | _, _, i + 1, _, .cons _ r, e => by
    rw [List.getElem?_cons_succ] at e
    obtain ⟨v, e1, h⟩ := r.get e
    exact ⟨v, by rw [List.getElem?_cons_succ]; exact e1, h⟩
theorem Rs.getV : ∀ {vs : List V} {ds : List D} {i : Nat} {v : V}, Rs K F vs ds → vs[i]? = some v → ∃ d, ds[i]? = some d ∧ R K F v d
  | _, _, _, _, .nil, e => by simp at e
  | _, _, 0, _, .cons h _, e => by
    rw [List.getElem?_cons_zero] at e
    cases e
    exact ⟨_, rfl, h⟩
  | _, _, i + 1, _, .cons _ r, e => by
    rw [List.getElem?_cons_succ] at e
    obtain ⟨d, e1, h⟩ := r.getV e
    exact ⟨d, by rw [List.getElem?_cons_succ]; exact e1, h⟩
theorem Rs.app : ∀ {vs ws : List V} {ds es : List D}, Rs K F vs ds → Rs K F ws es → Rs K F (vs ++ ws) (ds ++ es)
  | _, _, _, _, .nil, q => q
  | _, _, _, _, .cons h r, q => .cons h (r.app q)
theorem Rs.take : ∀ {vs : List V} {ds : List D} (n : Nat), Rs K F vs ds → Rs K F (vs.take n) (ds.take n)
  | _, _, 0, _ => .nil
  | _, _, _ + 1, .nil => .nil
  | _, _, n + 1, .cons h r => .cons h (r.take n)
theorem Rs.drop : ∀ {vs : List V} {ds : List D} (n : Nat), Rs K F vs ds → Rs K F (vs.drop n) (ds.drop n)
  | _, _, 0, r => r
  | _, _, _ + 1, .nil => .nil
  | _, _, n + 1, .cons _ r => r.drop n
theorem Rs.set : ∀ {vs : List V} {ds : List D} {v : V} {d : D} (i : Nat), R K F v d → Rs K F vs ds → Rs K F (vs.set i v) (ds.set i d)
  | _, _, _, _, _, _, .nil => .nil
  | _, _, _, _, 0, h, .cons _ r => .cons h r
  | _, _, _, _, i + 1, h, .cons q r => .cons q (r.set i h)
theorem Rs.one {v : V} {d : D} (h : R K F v d) : Rs K F [v] [d] := .cons h .nil
theorem RKs.len : ∀ {vs : List (Key × V)} {ds : List (Key × D)}, RKs K F vs ds → vs.length = ds.length
  | _, _, .nil => rfl
  | _, _, .cons _ r => congrArg (· + 1) r.len
theorem RTs.len : ∀ {vs : List (List Key × V)} {ds : List (List Key × D)}, RTs K F vs ds → vs.length = ds.length
  | _, _, .nil => rfl
  | _, _, .cons _ r => congrArg (· + 1) r.len
/-- the ints of a list -/
theorem Rs.ints : ∀ {ns : List Int}, Rs K F (ns.map V.int) (ns.map D.int)
  | [] => .nil
  | n :: _ => .cons (.int n) Rs.ints
theorem Rs.strs : ∀ {ns : List Str}, Rs K F (ns.map V.str) (ns.map D.str)
  | [] => .nil
  | n :: _ => .cons (.str n) Rs.strs
theorem Rs.strs_inv : ∀ {vs : List V} {ns : List Str}, Rs K F vs (ns.map D.str) → vs = ns.map V.str
  | _, [], .nil => rfl
  | _, n :: r, .cons (.str _) t => by rw [Rs.strs_inv t]; rfl
end
/-- a name's place: nothing, a value, a list or dict of the def's own, one that was handed in to be changed -/
inductive Sl where
  | none | val (d : D) | own (d : D) | ref (d : D)
abbrev EnvD := List Sl
/-- what an expression gives: a value, a new list or dict -/
inductive Re where
  | val (d : D) | new (d : D)
def Re.d : Re → D
  | .val d => d
  | .new d => d
/-- what stands at an address that may be changed -/
def Cell (K : Frag) (F H : Hp) (l : Addr) (d : D) : Prop := match d with
  | .lst ds => ∃ xs, H l = some (.lst xs) ∧ Rs K F xs ds
  | .dK ds => ∃ kvs, H l = some (.dK kvs) ∧ RKs K F kvs ds
  | .dT ds => ∃ kvs, H l = some (.dT kvs) ∧ RTs K F kvs ds
  | _ => False
theorem Cell.mono {K : Frag} {F F' H H' : Hp} {l : Addr} {d : D} (c : Cell K F H l d) (e : Ex F F') (h : H' l = H l) : Cell K F' H' l d := by
  cases d with
  | lst ds => obtain ⟨xs, a, b⟩ := c; exact ⟨xs, h.trans a, b.mono e⟩
  | dK ds => obtain ⟨xs, a, b⟩ := c; exact ⟨xs, h.trans a, b.mono e⟩
  | dT ds => obtain ⟨xs, a, b⟩ := c; exact ⟨xs, h.trans a, b.mono e⟩
  | _ => exact c
theorem Cell.there {K : Frag} {F H : Hp} {l : Addr} {d : D} (c : Cell K F H l d) : ∃ o, H l = some o := by
  cases d with
  | lst ds => obtain ⟨xs, a, b⟩ := c; exact ⟨_, a⟩
  | dK ds => obtain ⟨xs, a, b⟩ := c; exact ⟨_, a⟩
  | dT ds => obtain ⟨xs, a, b⟩ := c; exact ⟨_, a⟩
  | _ => exact c.elim
theorem Cell.ext {K : Frag} {F F' H H' : Hp} {l : Addr} {d : D} (c : Cell K F H l d) (e : Ex F F') (h : Ex H H') : Cell K F' H' l d := by
  obtain ⟨o, ho⟩ := c.there
  exact c.mono e (by rw [h l o ho, ho])
/-- a cell is frozen: it stands among what is never changed -/
theorem Cell.frz {K : Frag} {F H : Hp} {l : Addr} {d : D} {o : HO} (c : Cell K F H l d) (hF : F l = none) (ho : H l = some o) : R K (upd F l o) (.ref l) d := by
  have e : Ex F (upd F l o) := Ex.new hF
  cases d with
  | lst ds =>
    obtain ⟨xs, a, b⟩ := c
    rw [ho] at a
    cases a
    exact .lst upd_same (b.mono e)
  | dK ds =>
    obtain ⟨xs, a, b⟩ := c
    rw [ho] at a
    cases a
    exact .dK (.inl upd_same) (b.mono e)
  | dT ds =>
    obtain ⟨xs, a, b⟩ := c
    rw [ho] at a
    cases a
    exact .dT upd_same (b.mono e)
  | _ => exact c.elim
/-- the addresses of the environment's cells, by place -/
def cellOf (ρ : EnvD) (i : Nat) : Option D := match ρ[i]? with
  | some (.own d) => some d
  | some (.ref d) => some d
  | _ => none
/-- H holds what nobody here may touch (G), what never changes (F), and the cells of the environment; B: the places handed in to be changed, with their addresses -/
structure Rep (K : Frag) (G : Hp) (B : List (Nat × Addr)) (F H : Hp) (ρ : EnvD) (σ : L2.St) : Prop where
  len : ρ.length = σ.length
  exF : Ex F H
  exG : Ex G H
  dis : ∀ a o, F a = some o → G a = none
  val : ∀ (i : Nat) (d : D), ρ[i]? = some (Sl.val d) → ∃ v, σ[i]? = some (some v) ∧ R K F v d
  own : ∀ (i : Nat) (d : D), cellOf ρ i = some d → ∃ l, σ[i]? = some (some (.ref l)) ∧ F l = none ∧ G l = none ∧ Cell K F H l d
  sep : ∀ (i j : Nat) (d e : D) (l : Addr), cellOf ρ i = some d → cellOf ρ j = some e → σ[i]? = some (some (.ref l)) → σ[j]? = some (some (.ref l)) → i = j
  bor : ∀ (i : Nat) (l : Addr), (i, l) ∈ B → (∃ d, ρ[i]? = some (Sl.ref d)) ∧ σ[i]? = some (some (.ref l))
  tab : ∀ P, P ∈ Tabs.l → GxR.TabG H P ∧ F P = none ∧ G P = none
def RRe (K : Frag) (G F H : Hp) (ρ : EnvD) (σ : L2.St) (v : V) : Re → Prop
  | .val d => R K F v d
  | .new d => ∃ l, v = .ref l ∧ F l = none ∧ G l = none ∧ Cell K F H l d ∧ ∀ (i : Nat) (e : D), cellOf ρ i = some e → σ[i]? ≠ some (some (.ref l))
abbrev Fe := EnvD → Option (Re × EnvD)
abbrev Fv := EnvD → Option (D × EnvD)
abbrev Fb := EnvD → Option (Bool × EnvD)
abbrev Fl := EnvD → Option (List D × EnvD)
/-- the reading of an expression: what the function over data gives -/
def tE (K : Frag) (f : Fe) : TE := fun σ H Q => ∃ G B F ρ r ρ', Rep K G B F H ρ σ ∧ f ρ = some (r, ρ') ∧ ∀ v F' H', Ex F F' → Rep K G B F' H' ρ' σ → RRe K G F' H' ρ' σ v r → Q v H'
def tV (K : Frag) (f : Fv) : TE := fun σ H Q => ∃ G B F ρ d ρ', Rep K G B F H ρ σ ∧ f ρ = some (d, ρ') ∧ ∀ v F' H', Ex F F' → Rep K G B F' H' ρ' σ → R K F' v d → Q v H'
def tT (K : Frag) (f : Fb) : TT := fun σ H Q => ∃ G B F ρ b ρ', Rep K G B F H ρ σ ∧ f ρ = some (b, ρ') ∧ ∀ F' H', Ex F F' → Rep K G B F' H' ρ' σ → Q b H'
def tL (K : Frag) (f : Fl) : TA := fun σ H Q => ∃ G B F ρ ds ρ', Rep K G B F H ρ σ ∧ f ρ = some (ds, ρ') ∧ ∀ vs F' H', Ex F F' → Rep K G B F' H' ρ' σ → Rs K F' vs ds → Q vs H'
theorem PE.weak {X : Cx} {e : Expr} {t t' : TE} (h : PE X e t) (w : ∀ σ H Q, t' σ H Q → t σ H Q) : PE X e t' := ⟨fun pins s σ H Q I q => h.run pins s σ H Q I (w σ H Q q)⟩
theorem PT.weak {X : Cx} {e : Expr} {t t' : TT} (h : PT X e t) (w : ∀ σ H Q, t' σ H Q → t σ H Q) : PT X e t' := ⟨fun pins s σ H Q I q => h.run pins s σ H Q I (w σ H Q q)⟩
theorem PA.weak {X : Cx} {es : List Expr} {t t' : TA} (h : PA X es t) (w : ∀ σ H Q, t' σ H Q → t σ H Q) : PA X es t' := ⟨fun p pins s σ H Q I q => h.run p pins s σ H Q I (w σ H Q q)⟩
theorem PS.weak {X : Cx} {st : Stmt} {t t' : TS} (h : PS X st t) (w : ∀ D σ H, t' D σ H → t D σ H) : PS X st t' := ⟨fun pins s σ H D I q => h.run pins s σ H D I (w D σ H q)⟩
theorem PSs.weak {X : Cx} {st : List Stmt} {t t' : TS} (h : PSs X st t) (w : ∀ D σ H, t' D σ H → t D σ H) : PSs X st t' := ⟨fun pins s σ H D I q => h.run pins s σ H D I (w D σ H q)⟩
/-- of a new list the freedom is given up -/
def frzF (f : Fe) : Fv := fun ρ => (f ρ).map fun x => (x.1.d, x.2)
section
variable {K : Frag} {G : Hp} {B : List (Nat × Addr)} {F F' H H' : Hp} {ρ ρ' : EnvD} {σ : L2.St}
theorem Cell.obj {F H : Hp} {l : Addr} {d : D} (c : Cell K F H l d) : ∃ o, H l = some o ∧ ∀ ps, o ≠ .tbl ps := by
  cases d with
  | lst ds => obtain ⟨xs, a, b⟩ := c; exact ⟨_, a, fun ps z => by cases z⟩
  | dK ds => obtain ⟨xs, a, b⟩ := c; exact ⟨_, a, fun ps z => by cases z⟩
  | dT ds => obtain ⟨xs, a, b⟩ := c; exact ⟨_, a, fun ps z => by cases z⟩
  | _ => exact c.elim
theorem tab_ne {H : Hp} {P l : Addr} {o : HO} (t : GxR.TabG H P) (ho : H l = some o) (hT : ∀ ps, o ≠ .tbl ps) : P ≠ l := fun z => by
  obtain ⟨ps, e, _⟩ := t
  rw [z, ho] at e
  exact hT ps (Option.some.inj e)
theorem Rep.frz {l : Addr} {o : HO} (r : Rep K G B F H ρ σ) (hG : G l = none) (hF : F l = none) (ho : H l = some o) (hT : ∀ ps, o ≠ .tbl ps) (hs : ∀ (i : Nat) (e : D), cellOf ρ i = some e → σ[i]? ≠ some (some (.ref l))) : Rep K G B (upd F l o) H ρ σ := by
  have e : Ex F (upd F l o) := Ex.new hF
  refine ⟨r.len, fun a u q => ?_, r.exG, fun a u q => ?_, fun i d q => ?_, fun i d q => ?_, r.sep, r.bor, fun P hP => ⟨(r.tab P hP).1, by rw [upd_ne (tab_ne (r.tab P hP).1 ho hT)]; exact (r.tab P hP).2.1, (r.tab P hP).2.2⟩⟩
  · by_cases h : a = l
    · subst h
      rw [upd_same] at q
      cases q
      exact ho
    · rw [upd_ne h] at q
      exact r.exF a u q
  · by_cases h : a = l
    · rw [h]; exact hG
    · rw [upd_ne h] at q
      exact r.dis a u q
  · obtain ⟨v, a, b⟩ := r.val i d q
    exact ⟨v, a, b.mono e⟩
  · obtain ⟨m, a, b, c, d2⟩ := r.own i d q
    have ne : m ≠ l := fun z => by
      subst z
      exact hs i d q a
    exact ⟨m, a, by rw [upd_ne ne]; exact b, c, d2.mono e rfl⟩
theorem frz_re {v : V} {r : Re} (p : Rep K G B F H ρ σ) (q : RRe K G F H ρ σ v r) : ∃ F', Ex F F' ∧ Rep K G B F' H ρ σ ∧ R K F' v r.d := by
  cases r with
  | val d => exact ⟨F, Ex.refl _, p, q⟩
  | new d =>
    obtain ⟨l, rfl, hF, hG, c, hs⟩ := q
    obtain ⟨o, ho, hT⟩ := c.obj
    exact ⟨upd F l o, Ex.new hF, p.frz hG hF ho hT hs, c.frz hF ho⟩
end
theorem PE.frz {X : Cx} {e : Expr} {K : Frag} {f : Fe} (h : PE X e (tE K f)) : PE X e (tV K (frzF f)) := PE.weak h fun σ H Q ⟨G, B, F, ρ, d, ρ', rp, ef, k⟩ => by
  unfold frzF at ef
  cases q : f ρ with
  | none => rw [q] at ef; cases ef
  | some x =>
    obtain ⟨r, ρ2⟩ := x
    rw [q] at ef
    have e2 : (r.d, ρ2) = (d, ρ') := Option.some.inj ef
    simp only [Prod.mk.injEq] at e2
    obtain ⟨rfl, rfl⟩ := e2
    refine ⟨G, B, F, ρ, r, ρ2, rp, q, fun v F' H' e rp' rr => ?_⟩
    obtain ⟨F2, e3, rp2, r2⟩ := frz_re rp' rr
    exact k v F2 H' (e.trans e3) rp2 r2
/-- a value as an expression's result -/
def valF (f : Fv) : Fe := fun ρ => (f ρ).map fun x => (.val x.1, x.2)
theorem PE.val {X : Cx} {e : Expr} {K : Frag} {f : Fv} (h : PE X e (tV K f)) : PE X e (tE K (valF f)) := PE.weak h fun σ H Q ⟨G, B, F, ρ, r, ρ', rp, ef, k⟩ => by
  unfold valF at ef
  cases q : f ρ with
  | none => rw [q] at ef; cases ef
  | some x =>
    obtain ⟨d, ρ2⟩ := x
    rw [q] at ef
    have e2 : (Re.val d, ρ2) = (r, ρ') := Option.some.inj ef
    simp only [Prod.mk.injEq] at e2
    obtain ⟨rfl, rfl⟩ := e2
    exact ⟨G, B, F, ρ, d, ρ2, rp, q, k⟩
/-- what is never reached -/
theorem pe_no {X : Cx} {e : Expr} {K : Frag} : PE X e (tE K fun _ => none) := ⟨fun pins s σ H Q I ⟨G, B, F, ρ, r, ρ', rp, ef, k⟩ => by cases ef⟩
end Ev
/-! Ev1 -/
namespace Ev
open PySem PySem.Spec PyProof.Rows L2
variable [Tabs]
section
variable {K : Frag} {G : Hp} {B : List (Nat × Addr)} {F F' H H' : Hp} {ρ ρ' : EnvD} {σ : L2.St}
/-- a new object is laid -/
theorem tab_ext {H H' : Hp} {P : Addr} (t : GxR.TabG H P) (e : Ex H H') : GxR.TabG H' P := by
  obtain ⟨ps, a, b⟩ := t
  exact ⟨ps, e _ _ a, b⟩
theorem Rep.new {p : Addr} {o : HO} (r : Rep K G B F H ρ σ) (h : H p = none) : Rep K G B F (upd H p o) ρ σ ∧ F p = none ∧ G p = none ∧ ∀ (i : Nat) (e : D), cellOf ρ i = some e → σ[i]? ≠ some (some (.ref p)) := by
  have e : Ex H (upd H p o) := Ex.new h
  refine ⟨⟨r.len, r.exF.trans e, r.exG.trans e, r.dis, r.val, fun i d q => ?_, r.sep, r.bor, fun P hP => ⟨tab_ext (r.tab P hP).1 e, (r.tab P hP).2⟩⟩, r.exF.none h, r.exG.none h, fun i d q z => ?_⟩
  · obtain ⟨l, a, b, c, d2⟩ := r.own i d q
    exact ⟨l, a, b, c, d2.ext (Ex.refl F) e⟩
  · obtain ⟨l, a, b, c, d2⟩ := r.own i d q
    rw [a] at z
    cases z
    obtain ⟨o2, ho⟩ := d2.there
    rw [h] at ho
    cases ho
/-- a new object that is never changed -/
theorem Rep.newF {p : Addr} {o : HO} (r : Rep K G B F H ρ σ) (h : H p = none) (hT : ∀ ps, o ≠ .tbl ps := by intro ps z; cases z) : Rep K G B (upd F p o) (upd H p o) ρ σ ∧ Ex F (upd F p o) := by
  obtain ⟨a, b, c, d⟩ := r.new (o := o) h
  exact ⟨a.frz c b upd_same hT d, Ex.new b⟩
theorem Rep.lt (r : Rep K G B F H ρ σ) {i : Nat} {x : Sl} (h : ρ[i]? = some x) : i < σ.length := by
  rw [← r.len]
  exact (List.getElem?_eq_some_iff.mp h).1
theorem cell_set_val {ρ : EnvD} {i j : Nat} {d : D} : cellOf (ρ.set i (.val d)) j = if i = j ∧ i < ρ.length then none else cellOf ρ j := by
  unfold cellOf
  rw [List.getElem?_set]
  by_cases h : i = j
  · subst h
    by_cases h2 : i < ρ.length
    · simp [h2]
    · simp [h2]
  · simp [h]
theorem cell_set_none {ρ : EnvD} {i j : Nat} : cellOf (ρ.set i .none) j = if i = j ∧ i < ρ.length then none else cellOf ρ j := by
  unfold cellOf
  rw [List.getElem?_set]
  by_cases h : i = j
  · subst h
    by_cases h2 : i < ρ.length
    · simp [h2]
    · simp [h2]
  · simp [h]
theorem cell_own {ρ : EnvD} {i : Nat} {d : D} (h : ρ[i]? = some (Sl.own d)) : cellOf ρ i = some d := by unfold cellOf; rw [h]
theorem cell_ref {ρ : EnvD} {i : Nat} {d : D} (h : ρ[i]? = some (Sl.ref d)) : cellOf ρ i = some d := by unfold cellOf; rw [h]
theorem cell_val {ρ : EnvD} {i : Nat} {d : D} (h : ρ[i]? = some (Sl.val d)) : cellOf ρ i = none := by unfold cellOf; rw [h]
/-- the def's own cell i is given away -/
theorem Rep.giveup {i : Nat} {d : D} (r : Rep K G B F H ρ σ) (h : ρ[i]? = some (Sl.own d)) : ∃ l F', σ[i]? = some (some (.ref l)) ∧ Ex F F' ∧ Rep K G B F' H (ρ.set i (.val d)) σ ∧ R K F' (.ref l) d := by
  obtain ⟨l, a, b, c, d2⟩ := r.own i d (cell_own h)
  obtain ⟨o, ho, hT⟩ := d2.obj
  have e : Ex F (upd F l o) := Ex.new b
  have hlt : i < ρ.length := (List.getElem?_eq_some_iff.mp h).1
  have hR : R K (upd F l o) (.ref l) d := d2.frz b ho
  refine ⟨l, upd F l o, a, e, ⟨by rw [List.length_set]; exact r.len, fun x u q => ?_, r.exG, fun x u q => ?_, fun j e2 q => ?_, fun j e2 q => ?_, fun j k e2 e3 m q1 q2 => ?_, fun j m q => ?_, fun P hP => ⟨(r.tab P hP).1, by rw [upd_ne (tab_ne (r.tab P hP).1 ho hT)]; exact (r.tab P hP).2.1, (r.tab P hP).2.2⟩⟩, hR⟩
  · by_cases z : x = l
    · subst z
      rw [upd_same] at q
      cases q
      exact ho
    · rw [upd_ne z] at q
      exact r.exF x u q
  · by_cases z : x = l
    · rw [z]; exact c
    · rw [upd_ne z] at q
      exact r.dis x u q
  · rw [List.getElem?_set] at q
    by_cases z : i = j
    · subst z
      rw [if_pos rfl, if_pos hlt] at q
      cases q
      exact ⟨_, a, hR⟩
    · rw [if_neg z] at q
      obtain ⟨v, q1, q2⟩ := r.val j e2 q
      exact ⟨v, q1, q2.mono e⟩
  · rw [cell_set_val] at q
    split at q
    · cases q
    · rename_i z
      obtain ⟨m, q1, q2, q3, q4⟩ := r.own j e2 q
      have ne : m ≠ l := fun y => by
        subst y
        exact z ⟨r.sep i j d e2 m (cell_own h) q a q1, hlt⟩
      exact ⟨m, q1, by rw [upd_ne ne]; exact q2, q3, q4.mono e rfl⟩
  · rw [cell_set_val] at q1 q2
    split at q1
    · cases q1
    · split at q2
      · cases q2
      · exact r.sep j k e2 e3 m q1 q2
  · obtain ⟨⟨e2, q1⟩, q2⟩ := r.bor j m q
    refine ⟨⟨e2, ?_⟩, q2⟩
    rw [List.getElem?_set]
    have ne : i ≠ j := fun y => by
      subst y
      rw [h] at q1
      cases q1
    rw [if_neg ne]
    exact q1
end
def varE (i : Nat) : Fe := fun ρ => match ρ[i]? with
  | some (.val d) => some (.val d, ρ)
  | some (.own d) => some (.val d, ρ.set i (.val d))
  | _ => none
theorem ev_var {X : Cx} {K : Frag} {x : Str} {pos : Pos} {i : Nat} (hN : X.N[i]? = some x) (hv : Vis X.env.scope x) (hd : (x == ("__debug__" : Str)) = false) (hc : (x == ("__classdict__" : Str)) = false) : PE X (.Name x pos) (tE K (varE i)) :=
  PE.weak (pe_var (i := i) hN hv hd hc) fun σ H Q ⟨G, B, F, ρ, r, ρ', rp, ef, k⟩ => by
    unfold varE at ef
    cases q : ρ[i]? with
    | none => rw [q] at ef; cases ef
    | some sl =>
      rw [q] at ef
      cases sl with
      | val d =>
        have e2 : (Re.val d, ρ) = (r, ρ') := Option.some.inj ef
        simp only [Prod.mk.injEq] at e2
        obtain ⟨rfl, rfl⟩ := e2
        obtain ⟨v, a, b⟩ := rp.val i d q
        exact ⟨v, a, k v F H (Ex.refl F) rp b⟩
      | own d =>
        have e2 : (Re.val d, ρ.set i (.val d)) = (r, ρ') := Option.some.inj ef
        simp only [Prod.mk.injEq] at e2
        obtain ⟨rfl, rfl⟩ := e2
        obtain ⟨l, F', a, e, rp', rr⟩ := rp.giveup q
        exact ⟨.ref l, a, k _ F' H e rp' rr⟩
      | none => cases ef
      | ref d => cases ef
def conE (d : D) : Fe := fun ρ => some (.val d, ρ)
theorem ev_con {X : Cx} {K : Frag} {e : Expr} {v : V} {d : D} (h : PE X e (tC v)) (hr : ∀ F : Hp, R K F v d) : PE X e (tE K (conE d)) :=
  PE.weak h fun σ H Q ⟨G, B, F, ρ, r, ρ', rp, ef, k⟩ => by
    have e2 : (Re.val d, ρ) = (r, ρ') := Option.some.inj ef
    simp only [Prod.mk.injEq] at e2
    obtain ⟨rfl, rfl⟩ := e2
    exact k v F H (Ex.refl F) rp (hr F)
abbrev Op2 := D → D → Option Re
def op2E (g : Op2) (f1 f2 : Fv) : Fe := fun ρ => match f1 ρ with
  | some (x, ρ1) => (match f2 ρ1 with
    | some (y, ρ2) => (match g x y with
      | some r => some (r, ρ2)
      | none => none)
    | none => none)
  | none => none
/-- an operation on values does what g says of data -/
def Op2Ok (K : Frag) (r : R2) (g : Op2) : Prop := ∀ (G : Hp) (B : List (Nat × Addr)) (F H : Hp) (ρ : EnvD) (σ : L2.St) (v u : V) (x y : D) (z : Re) (Q : VK), Rep K G B F H ρ σ → R K F v x → R K F u y → g x y = some z →
  (∀ w F' H', Ex F F' → Rep K G B F' H' ρ σ → RRe K G F' H' ρ σ w z → Q w H') → r v u H Q
theorem ev_tOp {X : Cx} {K : Frag} {e : Expr} {r : R2} {g : Op2} {f1 f2 : Fv} (h : PE X e (tOp r (tV K f1) (tV K f2))) (ok : Op2Ok K r g) : PE X e (tE K (op2E g f1 f2)) :=
  PE.weak h fun σ H Q ⟨G, B, F, ρ, z, ρ', rp, ef, k⟩ => by
    unfold op2E at ef
    cases q1 : f1 ρ with
    | none => rw [q1] at ef; cases ef
    | some x1 =>
      obtain ⟨x, ρ1⟩ := x1
      rw [q1] at ef
      cases q2 : f2 ρ1 with
      | none => simp only [q2] at ef; cases ef
      | some y1 =>
        obtain ⟨y, ρ2⟩ := y1
        simp only [q2] at ef
        cases q3 : g x y with
        | none => rw [q3] at ef; cases ef
        | some z2 =>
          rw [q3] at ef
          have e2 : (z2, ρ2) = (z, ρ') := Option.some.inj ef
          simp only [Prod.mk.injEq] at e2
          obtain ⟨rfl, rfl⟩ := e2
          refine ⟨G, B, F, ρ, x, ρ1, rp, q1, fun v F1 H1 e1 rp1 r1 => ?_⟩
          refine ⟨G, B, F1, ρ1, y, ρ2, rp1, q2, fun u F2 H2 e2 rp2 r2 => ?_⟩
          exact ok G B F2 H2 ρ2 σ v u x y z2 Q rp2 (r1.mono e2) r2 q3 fun w F3 H3 e3 rp3 r3 => k w F3 H3 ((e1.trans e2).trans e3) rp3 r3
theorem Op2Ok.or {K : Frag} {r r' : R2} {g g' : Op2} (h : Op2Ok K r g) (h' : Op2Ok K r' g') : Op2Ok K (fun x y H Q => r x y H Q ∨ r' x y H Q) (fun x y => (g x y).or (g' x y)) := by
  intro G B F H ρ σ v u x y z Q rp r1 r2 e k
  have e : (g x y).or (g' x y) = some z := e
  cases q : g x y with
  | some z2 =>
    rw [q] at e
    cases e
    exact .inl (h G B F H ρ σ v u x y z Q rp r1 r2 q k)
  | none =>
    rw [q] at e
    exact .inr (h' G B F H ρ σ v u x y z Q rp r1 r2 e k)
theorem OpR.or {X : Cx} {f : Value → Value → Sem Value} {r r' : R2} (h : OpR X f r) (h' : OpR X f r') : OpR X f (fun x y H Q => r x y H Q ∨ r' x y H Q) := fun pins s σ H x y v u Q I rx ry q => by
  rcases q with q | q
  · exact h pins s σ H x y v u Q I rx ry q
  · exact h' pins s σ H x y v u Q I rx ry q
/-- ints -/
def gI (g : Int → Int → Option D) : Op2 := fun x y => match x, y with
  | .int i, .int j => (g i j).map Re.val
  | _, _ => none
theorem gI_ok {K : Frag} {C : Int → Int → Prop} {f : Int → Int → V} {g : Int → Int → Option D} (h : ∀ i j d, g i j = some d → C i j ∧ ∀ F, R K F (f i j) d) : Op2Ok K (rI C f) (gI g) := by
  intro G B F H ρ σ v u x y z Q rp r1 r2 e k
  cases r1 <;> cases r2 <;> try cases e
  rename_i i j
  have e1 : (g i j).map Re.val = some z := e
  obtain ⟨d, e2, e3⟩ := Option.map_eq_some_iff.mp e1
  subst e3
  obtain ⟨c, hr⟩ := h i j d e2
  exact ⟨i, j, rfl, rfl, c, k _ F H (Ex.refl F) rp (hr F)⟩
theorem gI0_ok {K : Frag} {f : Int → Int → V} {g : Int → Int → Option D} (h : ∀ i j d, g i j = some d → ∀ F, R K F (f i j) d) : Op2Ok K (rI0 f) (gI g) := by
  intro G B F H ρ σ v u x y z Q rp r1 r2 e k
  cases r1 <;> cases r2 <;> try cases e
  rename_i i j
  have e1 : (g i j).map Re.val = some z := e
  obtain ⟨d, e2, e3⟩ := Option.map_eq_some_iff.mp e1
  subst e3
  exact ⟨i, j, rfl, rfl, k _ F H (Ex.refl F) rp (h i j d e2 F)⟩
/-- texts -/
def gS (g : Str → Str → Option D) : Op2 := fun x y => match x, y with
  | .str i, .str j => (g i j).map Re.val
  | _, _ => none
def isLine (n : Nat) : Bool := decide (n ≤ sizeLine)
def gAddS : Op2 := gS fun i j => if isLine (i.length + j.length) then some (.str (i ++ j)) else none
def rAddS : R2 := fun x y H Q => ∃ i j, x = .str i ∧ y = .str j ∧ i.length + j.length ≤ sizeLine ∧ Q (.str (i ++ j)) H
theorem gAddS_ok {K : Frag} : Op2Ok K rAddS gAddS := by
  intro G B F H ρ σ v u x y z Q rp r1 r2 e k
  cases r1 <;> cases r2 <;> try cases e
  rename_i i j
  have e1 : (if isLine (i.length + j.length) then some (D.str (i ++ j)) else none).map Re.val = some z := e
  split at e1
  · rename_i hl
    cases e1
    exact ⟨i, j, rfl, rfl, of_decide_eq_true hl, k _ F H (Ex.refl F) rp (.str _)⟩
  · cases e1
def gAddI : Op2 := gI fun i j => some (.int (i + j))
def gAddL : Op2 := fun x y => match x, y with
  | .lst a, .lst b => if isLine (a.length + b.length) then some (.new (.lst (a ++ b))) else none
  | _, _ => none
theorem gAddL_ok {K : Frag} : Op2Ok K rCat gAddL := by
  intro G B F H ρ σ v u x y z Q rp r1 r2 e k
  cases r1 <;> try cases e
  cases r2 <;> try cases e
  rename_i a xs ds h1 s1 b ys es h2 s2
  have e1 : (if isLine (ds.length + es.length) then some (Re.new (.lst (ds ++ es))) else none) = some z := e
  split at e1
  · rename_i hl
    cases e1
    refine ⟨a, b, xs, ys, rfl, rfl, rp.exF _ _ h1, rp.exF _ _ h2, by rw [s1.len, s2.len]; exact of_decide_eq_true hl, fun p hp => ?_⟩
    obtain ⟨rp2, f, g, ne⟩ := rp.new (o := .lst (xs ++ ys)) hp
    exact k _ F _ (Ex.refl F) rp2 ⟨p, rfl, f, g, ⟨_, upd_same, s1.app s2⟩, ne⟩
  · cases e1
def gAddT : Op2 := fun x y => match x, y with
  | .tup a, .tup b => if isLine (a.length + b.length) then some (.val (.tup (a ++ b))) else none
  | _, _ => none
theorem gAddT_ok {K : Frag} : Op2Ok K (rCatA K) gAddT := by
  intro G B F H ρ σ v u x y z Q rp r1 r2 e k
  cases r1 <;> try cases e
  cases r2 <;> try cases e
  rename_i a xs ds h1 s1 b ys es h2 s2
  have e1 : (if isLine (ds.length + es.length) then some (Re.val (.tup (ds ++ es))) else none) = some z := e
  split at e1
  · rename_i hl
    cases e1
    have hs := s1.app s2
    refine ⟨a, b, xs, ys, rfl, rfl, rp.exF.seqT h1, rp.exF.seqT h2, by rw [s1.len, s2.len]; exact of_decide_eq_true hl, fun e0 => ?_, fun _ e0 => ?_, fun _ _ p hp => ?_⟩
    · rw [e0, List.nil_append] at hs
      exact k _ F H (Ex.refl F) rp (.tup h2 hs)
    · rw [e0, List.append_nil] at hs
      exact k _ F H (Ex.refl F) rp (.tup h1 hs)
    · obtain ⟨rp2, ex⟩ := rp.newF (o := .tup (xs ++ ys)) hp
      exact k _ _ _ ex rp2 (.tup (SqT.of upd_same) (hs.mono ex))
  · cases e1
abbrev gAdd : Op2 := fun x y => ((((gAddI x y).or (gAddS x y))).or (gAddL x y)).or (gAddT x y)
theorem gAdd_ok {K : Frag} : Op2Ok K (fun x y H Q => ((rI0 (fun i j => .int (i + j)) x y H Q ∨ rAddS x y H Q) ∨ rCat x y H Q) ∨ rCatA K x y H Q) gAdd :=
  (((gI0_ok fun i j d e F => by cases e; exact .int _).or gAddS_ok).or gAddL_ok).or gAddT_ok
section
variable {X : Cx} {a b : Expr} {f1 f2 : Fv} {pos : Pos}
theorem ev_add (ha : PE X a (tV X.K f1)) (hb : PE X b (tV X.K f2)) : PE X (.BinOp a .Add b pos) (tE X.K (op2E gAdd f1 f2)) :=
  ev_tOp (pe_op (OpR.or (OpR.or (OpR.or op_add op_add_str) op_cat) op_catA) ha hb) gAdd_ok
def gSub : Op2 := gI fun i j => some (.int (i - j))
theorem ev_sub (ha : PE X a (tV X.K f1)) (hb : PE X b (tV X.K f2)) : PE X (.BinOp a .Sub b pos) (tE X.K (op2E gSub f1 f2)) :=
  ev_tOp (pe_op op_sub ha hb) (gI0_ok fun i j d e F => by cases e; exact .int _)
def inW : Int → Bool
  | .ofNat n => Nat.ble n 18446744073709551615
  | .negSucc n => Nat.ble n 18446744073709551614
theorem inW_ok {i : Int} (h : inW i = true) : -(2 ^ 64) < i ∧ i < 2 ^ 64 := by
  cases i with
  | ofNat n =>
    have := Nat.le_of_ble_eq_true h
    rw [show Int.ofNat n = (n : Int) from rfl]
    exact ⟨by omega, by omega⟩
  | negSucc n =>
    have := Nat.le_of_ble_eq_true h
    rw [Int.negSucc_eq]
    exact ⟨by omega, by omega⟩
def gMulI : Op2 := gI fun i j => if inW i || inW j then some (.int (i * j)) else none
def gMulL : Op2 := fun x y => match x, y with
  | .lst a, .int k => if inW k && (decide (-(2 ^ 63) ≤ k) && (decide (k < 2 ^ 63) && isLine (a.length * k.toNat))) then some (.new (.lst (List.replicate k.toNat a).flatten)) else none
  | _, _ => none
theorem Rs.rep {K : Frag} {F : Hp} {vs : List V} {ds : List D} (r : Rs K F vs ds) : ∀ n : Nat, Rs K F (List.replicate n vs).flatten (List.replicate n ds).flatten
  | 0 => .nil
  | n + 1 => by
    rw [List.replicate_succ, List.replicate_succ, List.flatten_cons, List.flatten_cons]
    exact r.app (r.rep n)
theorem gMulL_ok {K : Frag} : Op2Ok K rRep gMulL := by
  intro G B F H ρ σ v u x y z Q rp r1 r2 e k
  cases r1 <;> try cases e
  cases r2 <;> try cases e
  rename_i a xs ds h1 s1 j
  have e1 : (if inW j && (decide (-(2 ^ 63) ≤ j) && (decide (j < 2 ^ 63) && isLine (ds.length * j.toNat))) then some (Re.new (.lst (List.replicate j.toNat ds).flatten)) else none) = some z := e
  split at e1
  · rename_i hl
    cases e1
    simp only [Bool.and_eq_true, decide_eq_true_eq] at hl
    refine ⟨a, j, xs, rfl, rfl, rp.exF _ _ h1, hl.2.1, hl.2.2.1, by rw [s1.len]; exact of_decide_eq_true hl.2.2.2, fun p hp => ?_⟩
    obtain ⟨rp2, f, g, ne⟩ := rp.new (o := .lst (List.replicate j.toNat xs).flatten) hp
    exact k _ F _ (Ex.refl F) rp2 ⟨p, rfl, f, g, ⟨_, upd_same, s1.rep _⟩, ne⟩
  · cases e1
abbrev gMul : Op2 := fun x y => (gMulI x y).or (gMulL x y)
theorem ev_mul (ha : PE X a (tV X.K f1)) (hb : PE X b (tV X.K f2)) : PE X (.BinOp a .Mult b pos) (tE X.K (op2E gMul f1 f2)) :=
  ev_tOp (pe_op (OpR.or op_mul op_rep) ha hb) (Op2Ok.or (gI_ok fun i j d e => by
    split at e
    · rename_i hc
      cases e
      refine ⟨?_, fun F => .int _⟩
      rcases Bool.or_eq_true_iff.mp hc with h | h
      · exact .inl (inW_ok h)
      · exact .inr (inW_ok h)
    · cases e) gMulL_ok)
def gFdiv : Op2 := gI fun i j => if decide (j ≠ 0) && decide (j.natAbs < 1073741824) then some (.int (i.fdiv j)) else none
theorem ev_fdiv (ha : PE X a (tV X.K f1)) (hb : PE X b (tV X.K f2)) : PE X (.BinOp a .FloorDiv b pos) (tE X.K (op2E gFdiv f1 f2)) :=
  ev_tOp (pe_op op_fdivN ha hb) (gI_ok fun i j d e => by
    split at e
    · rename_i hc
      cases e
      obtain ⟨a, b⟩ := Bool.and_eq_true_iff.mp hc
      exact ⟨⟨of_decide_eq_true a, of_decide_eq_true b⟩, fun F => .int _⟩
    · cases e)
def gMod : Op2 := gI fun i j => if decide (j ≠ 0) then some (.int (i.fmod j)) else none
theorem ev_mod (ha : PE X a (tV X.K f1)) (hb : PE X b (tV X.K f2)) : PE X (.BinOp a .Mod b pos) (tE X.K (op2E gMod f1 f2)) :=
  ev_tOp (pe_op op_modN ha hb) (gI_ok fun i j d e => by
    split at e
    · rename_i hc
      cases e
      exact ⟨of_decide_eq_true hc, fun F => .int _⟩
    · cases e)
def gPow : Op2 := gI fun i j => if decide (0 ≤ j) && (decide (j ≤ 1000000) && decide (i.natAbs < 2 ^ 64)) then some (.int (i ^ j.toNat)) else none
theorem ev_pow (ha : PE X a (tV X.K f1)) (hb : PE X b (tV X.K f2)) : PE X (.BinOp a .Pow b pos) (tE X.K (op2E gPow f1 f2)) :=
  ev_tOp (pe_op op_pow ha hb) (gI_ok fun i j d e => by
    split at e
    · rename_i hc
      cases e
      simp only [Bool.and_eq_true, decide_eq_true_eq] at hc
      exact ⟨⟨hc.1, hc.2.1, hc.2.2⟩, fun F => .int _⟩
    · cases e)
end
end Ev
/-! Ev2 -/
namespace Ev
open PySem PySem.Spec PyProof.Rows L2
variable [Tabs]
section
variable {X : Cx} {a b c : Expr} {f1 f2 f3 : Fv} {pos : Pos} {op : CmpOp}
theorem ev_cmp {r : R2} {g : Op2} (ho : OpR X (compareOp op) r) (ok : Op2Ok X.K r g) (ha : PE X a (tV X.K f1)) (hb : PE X b (tV X.K f2)) (hm : behindInMarks op b = false) : PE X (.Compare a [op] [b] pos) (tE X.K (op2E g f1 f2)) :=
  ev_tOp (pe_cmpR ho ha hb hm) ok
def toFlat : D → Option V
  | .non => some .non
  | .bl b => some (.bl b)
  | .int i => some (.int i)
  | .str x => some (.str x)
  | _ => none
theorem toFlat_ok {K : Frag} {F : Hp} {v u : V} {d : D} (r : R K F v d) (e : toFlat d = some u) : v = u ∧ flatV v = true := by
  cases r <;> cases e <;> exact ⟨rfl, rfl⟩
/-- x == y of flat values -/
def gEqF : Op2 := fun x y => match toFlat x, toFlat y with
  | some v, some u => if scal v u then some (.val (.bl (decide (v = u)))) else none
  | _, _ => none
def gNeF : Op2 := fun x y => match toFlat x, toFlat y with
  | some v, some u => if scal v u then some (.val (.bl (!decide (v = u)))) else none
  | _, _ => none
theorem gEqF_ok {K : Frag} : Op2Ok K rEq gEqF := by
  intro G B F H ρ σ v u x y z Q rp r1 r2 e k
  unfold gEqF at e
  cases q1 : toFlat x with
  | none => rw [q1] at e; cases e
  | some v1 =>
    cases q2 : toFlat y with
    | none => rw [q1, q2] at e; cases e
    | some u1 =>
      rw [q1, q2] at e
      obtain ⟨rfl, _⟩ := toFlat_ok r1 q1
      obtain ⟨rfl, _⟩ := toFlat_ok r2 q2
      have e : (if scal v u then some (Re.val (.bl (decide (v = u)))) else none) = some z := e
      split at e
      · rename_i hs
        cases e
        exact ⟨hs, k _ F H (Ex.refl F) rp (.bl _)⟩
      · cases e
theorem gNeF_ok {K : Frag} : Op2Ok K rNe gNeF := by
  intro G B F H ρ σ v u x y z Q rp r1 r2 e k
  unfold gNeF at e
  cases q1 : toFlat x with
  | none => rw [q1] at e; cases e
  | some v1 =>
    cases q2 : toFlat y with
    | none => rw [q1, q2] at e; cases e
    | some u1 =>
      rw [q1, q2] at e
      obtain ⟨rfl, _⟩ := toFlat_ok r1 q1
      obtain ⟨rfl, _⟩ := toFlat_ok r2 q2
      have e : (if scal v u then some (Re.val (.bl (!decide (v = u)))) else none) = some z := e
      split at e
      · rename_i hs
        cases e
        exact ⟨hs, k _ F H (Ex.refl F) rp (.bl _)⟩
      · cases e
mutual
def toPy : D → Option PyData
  | .non => some .none
  | .bl b => some (.bool b)
  | .int i => some (.int i)
  | .str x => some (.str x)
  | .lst l => (toPys l).map .list
  | .rol l => (toPys l).map .list
  | .tup l => (toPys l).map .tuple
  | .dK _ => none
  | .dT _ => none
def toPys : List D → Option (List PyData)
  | [] => some []
  | d :: l => match toPy d, toPys l with
    | some x, some r => some (x :: r)
    | _, _ => none
end
section
variable {K : Frag} {F H : Hp}
mutual
theorem toPy_ok (e : Ex F H) : ∀ {v : V} {d : D} {p : PyData}, R K F v d → toPy d = some p → Dp K H v p
  | _, _, _, .non, q => by cases q; exact .non
  | _, _, _, .bl b, q => by cases q; exact .bl b
  | _, _, _, .int i, q => by cases q; exact .int i
  | _, _, _, .str x, q => by cases q; exact .str x
  | _, _, _, .lst h r, q => by
    unfold toPy at q
    obtain ⟨l, q1, q2⟩ := Option.map_eq_some_iff.mp q
    subst q2
    exact .lst (SqL.of (e _ _ h)) (toPys_ok e r q1)
  | _, _, _, .rol h r, q => by
    unfold toPy at q
    obtain ⟨l, q1, q2⟩ := Option.map_eq_some_iff.mp q
    subst q2
    exact .lst (e.seqL h) (toPys_ok e r q1)
  | _, _, _, .tup h r, q => by
    unfold toPy at q
    obtain ⟨l, q1, q2⟩ := Option.map_eq_some_iff.mp q
    subst q2
    exact .tup (e.seqT h) (toPys_ok e r q1)
  | _, _, _, .dK _ _, q => by cases q
  | _, _, _, .dT _ _, q => by cases q
theorem toPys_ok (e : Ex F H) : ∀ {vs : List V} {ds : List D} {ps : List PyData}, Rs K F vs ds → toPys ds = some ps → DpAll K H vs ps
  | _, _, _, .nil, q => by cases q; exact .nil
  | _, _, _, .cons (d := d) (ds := ds) h r, q => by
    unfold toPys at q
    cases q1 : toPy d with
    | none => rw [q1] at q; cases q
    | some x =>
      cases q2 : toPys ds with
      | none => rw [q1, q2] at q; cases q
      | some l =>
        rw [q1, q2] at q
        have q3 : x :: l = _ := Option.some.inj q
        subst q3
        exact .cons (toPy_ok e h q1) (toPys_ok e r q2)
end
end
def gEqD (neg : Bool) : Op2 := fun x y => match toPy x, toPy y with
  | some p, some q => if SeqAt.shaped p && SeqAt.shaped q then some (.val (.bl (if neg then !PyData.eqv p q else PyData.eqv p q))) else none
  | _, _ => none
theorem gEqD_ok {K : Frag} : Op2Ok K (rEqD K) (gEqD false) := by
  intro G B F H ρ σ v u x y z Q rp r1 r2 e k
  unfold gEqD at e
  cases q1 : toPy x with
  | none => rw [q1] at e; cases e
  | some p =>
    cases q2 : toPy y with
    | none => rw [q1, q2] at e; cases e
    | some q =>
      rw [q1, q2] at e
      have e : (if SeqAt.shaped p && SeqAt.shaped q then some (Re.val (.bl (PyData.eqv p q))) else none) = some z := e
      split at e
      · rename_i hs
        obtain ⟨h1, h2⟩ := Bool.and_eq_true_iff.mp hs
        cases e
        exact ⟨p, q, toPy_ok rp.exF r1 q1, toPy_ok rp.exF r2 q2, h1, h2, k _ F H (Ex.refl F) rp (.bl _)⟩
      · cases e
theorem gNeD_ok {K : Frag} : Op2Ok K (rNeD K) (gEqD true) := by
  intro G B F H ρ σ v u x y z Q rp r1 r2 e k
  unfold gEqD at e
  cases q1 : toPy x with
  | none => rw [q1] at e; cases e
  | some p =>
    cases q2 : toPy y with
    | none => rw [q1, q2] at e; cases e
    | some q =>
      rw [q1, q2] at e
      have e : (if SeqAt.shaped p && SeqAt.shaped q then some (Re.val (.bl (!PyData.eqv p q))) else none) = some z := e
      split at e
      · rename_i hs
        obtain ⟨h1, h2⟩ := Bool.and_eq_true_iff.mp hs
        cases e
        exact ⟨p, q, toPy_ok rp.exF r1 q1, toPy_ok rp.exF r2 q2, h1, h2, k _ F H (Ex.refl F) rp (.bl _)⟩
      · cases e
abbrev gEq : Op2 := fun x y => (gEqF x y).or (gEqD false x y)
abbrev gNe : Op2 := fun x y => (gNeF x y).or (gEqD true x y)
theorem ev_eq (hu : X.A.units + 64 < cLine) (ha : PE X a (tV X.K f1)) (hb : PE X b (tV X.K f2)) : PE X (.Compare a [.Eq] [b] pos) (tE X.K (op2E gEq f1 f2)) :=
  ev_cmp (OpR.or op_eq (op_eqD hu)) (gEqF_ok.or gEqD_ok) ha hb (nomark _)
theorem ev_ne (hu : X.A.units + 64 < cLine) (ha : PE X a (tV X.K f1)) (hb : PE X b (tV X.K f2)) : PE X (.Compare a [.NotEq] [b] pos) (tE X.K (op2E gNe f1 f2)) :=
  ev_cmp (OpR.or op_ne (op_neD hu)) (gNeF_ok.or gNeD_ok) ha hb (nomark _)
def gB (g : Int → Int → Bool) : Op2 := gI fun i j => some (.bl (g i j))
theorem gB_ok {K : Frag} {g : Int → Int → Bool} : Op2Ok K (rI0 fun i j => .bl (g i j)) (gB g) := gI0_ok fun i j d e F => by cases e; exact .bl _
def gSB (g : Str → Str → Bool) : Op2 := gS fun i j => some (.bl (g i j))
theorem gSB_ok {K : Frag} {g : Str → Str → Bool} : Op2Ok K (fun x y H Q => ∃ i j, x = .str i ∧ y = .str j ∧ Q (.bl (g i j)) H) (gSB g) := by
  intro G B F H ρ σ v u x y z Q rp r1 r2 e k
  cases r1 <;> try cases e
  cases r2 <;> try cases e
  exact ⟨_, _, rfl, rfl, k _ F H (Ex.refl F) rp (.bl _)⟩
abbrev ltS (i j : Str) : Bool := decide (i.cps.toList < j.cps.toList)
abbrev gLt : Op2 := fun x y => (gB (fun i j => decide (i < j)) x y).or (gSB ltS x y)
abbrev gGt : Op2 := fun x y => (gB (fun i j => decide (j < i)) x y).or (gSB (fun i j => ltS j i) x y)
abbrev gLe : Op2 := fun x y => (gB (fun i j => decide (i ≤ j)) x y).or (gSB (fun i j => !ltS j i) x y)
abbrev gGe : Op2 := fun x y => (gB (fun i j => decide (j ≤ i)) x y).or (gSB (fun i j => !ltS i j) x y)
theorem ev_lt (ha : PE X a (tV X.K f1)) (hb : PE X b (tV X.K f2)) : PE X (.Compare a [.Lt] [b] pos) (tE X.K (op2E gLt f1 f2)) := ev_cmp (OpR.or op_lt op_lt_str) (gB_ok.or gSB_ok) ha hb (nomark _)
theorem ev_gt (ha : PE X a (tV X.K f1)) (hb : PE X b (tV X.K f2)) : PE X (.Compare a [.Gt] [b] pos) (tE X.K (op2E gGt f1 f2)) := ev_cmp (OpR.or op_gt op_gt_str) (gB_ok.or gSB_ok) ha hb (nomark _)
theorem ev_le (ha : PE X a (tV X.K f1)) (hb : PE X b (tV X.K f2)) : PE X (.Compare a [.LtE] [b] pos) (tE X.K (op2E gLe f1 f2)) := ev_cmp (OpR.or op_le op_le_str) (gB_ok.or gSB_ok) ha hb (nomark _)
theorem ev_ge (ha : PE X a (tV X.K f1)) (hb : PE X b (tV X.K f2)) : PE X (.Compare a [.GtE] [b] pos) (tE X.K (op2E gGe f1 f2)) := ev_cmp (OpR.or op_ge op_ge_str) (gB_ok.or gSB_ok) ha hb (nomark _)
def itemsOf : D → Option (List D)
  | .lst l => some l
  | .rol l => some l
  | .tup l => some l
  | _ => none
def toFlats : List D → Option (List V)
  | [] => some []
  | d :: l => match toFlat d, toFlats l with
    | some v, some r => some (v :: r)
    | _, _ => none
theorem toFlats_ok {K : Frag} {F : Hp} : ∀ {vs : List V} {ds : List D} {us : List V}, Rs K F vs ds → toFlats ds = some us → vs = us ∧ vs.all flatV = true
  | _, _, _, .nil, e => by cases e; exact ⟨rfl, rfl⟩
  | _, _, _, .cons (d := d) (ds := ds) h r, e => by
    unfold toFlats at e
    cases q1 : toFlat d with
    | none => rw [q1] at e; cases e
    | some x =>
      cases q2 : toFlats ds with
      | none => rw [q1, q2] at e; cases e
      | some l =>
        rw [q1, q2] at e
        have e : x :: l = _ := Option.some.inj e
        subst e
        obtain ⟨rfl, h1⟩ := toFlat_ok h q1
        obtain ⟨rfl, h2⟩ := toFlats_ok r q2
        exact ⟨rfl, by rw [List.all_cons, h1, h2]; rfl⟩
theorem itemsOf_ok {K : Frag} {F H : Hp} (e : Ex F H) {v : V} {d : D} {l : List D} (r : R K F v d) (q : itemsOf d = some l) : ∃ p xs, v = .ref p ∧ (SqL K H p xs ∨ SqT K H p xs) ∧ Rs K F xs l := by
  cases r <;> cases q
  · exact ⟨_, _, rfl, .inl (SqL.of (e _ _ ‹_›)), ‹_›⟩
  · exact ⟨_, _, rfl, .inl (e.seqL ‹_›), ‹_›⟩
  · exact ⟨_, _, rfl, .inr (e.seqT ‹_›), ‹_›⟩
def gInF (neg : Bool) : Op2 := fun x y => match toFlat x, itemsOf y with
  | some v, some l => (match toFlats l with
    | some vs => some (.val (.bl (if neg then !inV v vs else inV v vs)))
    | none => none)
  | _, _ => none
theorem gInF_ok {K : Frag} {neg : Bool} : Op2Ok K (rIn K neg) (gInF neg) := by
  intro G B F H ρ σ v u x y z Q rp r1 r2 e k
  unfold gInF at e
  cases q1 : toFlat x with
  | none => rw [q1] at e; cases e
  | some v1 =>
    cases q2 : itemsOf y with
    | none => rw [q1, q2] at e; cases e
    | some l =>
      cases q3 : toFlats l with
      | none => simp only [q1, q2, q3] at e; cases e
      | some vs =>
        simp only [q1, q2, q3] at e
        cases e
        obtain ⟨rfl, f1⟩ := toFlat_ok r1 q1
        obtain ⟨p, xs, rfl, hs, rs⟩ := itemsOf_ok rp.exF r2 q2
        obtain ⟨rfl, f2⟩ := toFlats_ok rs q3
        exact ⟨p, xs, rfl, hs, f1, f2, k _ F H (Ex.refl F) rp (.bl _)⟩
/-- one sign in a text -/
def gIn1 (neg : Bool) : Op2 := gS fun i j => match i.cps.toList with
  | [c] => some (.bl (if neg then !decide (c ∈ j.cps.toList) else decide (c ∈ j.cps.toList)))
  | _ => none
def rIn1 (neg : Bool) : R2 := fun x y H Q => ∃ (c : Nat) (z : Str), x = .str ⟨#[c]⟩ ∧ y = .str z ∧ Q (.bl (if neg then !decide (c ∈ z.cps.toList) else decide (c ∈ z.cps.toList))) H
theorem one_sign {i : Str} {c : Nat} (h : i.cps.toList = [c]) : i = ⟨#[c]⟩ := by
  obtain ⟨z⟩ := i
  have h : z.toList = [c] := h
  rw [show z = #[c] from Array.ext' h]
theorem gIn1_ok {K : Frag} {neg : Bool} : Op2Ok K (rIn1 neg) (gIn1 neg) := by
  intro G B F H ρ σ v u x y z Q rp r1 r2 e k
  cases r1 <;> try cases e
  cases r2 <;> try cases e
  rename_i i j
  have e1 : (match i.cps.toList with
    | [c] => some (D.bl (if neg then !decide (c ∈ j.cps.toList) else decide (c ∈ j.cps.toList)))
    | _ => none).map Re.val = some z := e
  split at e1
  · rename_i c hc
    cases e1
    exact ⟨c, j, by rw [one_sign hc], rfl, k _ F H (Ex.refl F) rp (.bl _)⟩
  · cases e1
abbrev gIn (neg : Bool) : Op2 := fun x y => (gInF neg x y).or (gIn1 neg x y)
theorem ev_in (ha : PE X a (tV X.K f1)) (hb : PE X b (tV X.K f2)) (hm : behindInMarks .In b = false) : PE X (.Compare a [.In] [b] pos) (tE X.K (op2E (gIn false) f1 f2)) :=
  ev_cmp (OpR.or op_in_seq op_in_sign) (gInF_ok.or gIn1_ok) ha hb hm
theorem ev_notIn (ha : PE X a (tV X.K f1)) (hb : PE X b (tV X.K f2)) (hm : behindInMarks .NotIn b = false) : PE X (.Compare a [.NotIn] [b] pos) (tE X.K (op2E (gIn true) f1 f2)) :=
  ev_cmp (OpR.or op_notIn_seq op_notIn_sign) (gInF_ok.or gIn1_ok) ha hb hm
/-- is None -/
def gIsN (neg : Bool) : Op2 := fun x y => match y with
  | .non => some (.val (.bl (match x with
    | .non => !neg
    | _ => neg)))
  | _ => none
theorem isN_V {K : Frag} {F : Hp} {v : V} {x : D} (r : R K F v x) : decide (v = .non) = (match x with
    | .non => true
    | _ => false) := by
  cases r <;> rfl
theorem ev_isN (ha : PE X a (tV X.K f1)) (hb : PE X b (tV X.K f2)) : PE X (.Compare a [.Is] [b] pos) (tE X.K (op2E (gIsN false) f1 f2)) :=
  ev_cmp op_isN (fun G B F H ρ σ v u x y z Q rp r1 r2 e k => by
    cases r2 <;> try cases e
    refine ⟨rfl, ?_⟩
    have q := k (.bl (decide (v = .non))) F H (Ex.refl F) rp
    rw [isN_V r1] at q
    rw [isN_V r1]
    cases x <;> exact q (.bl _)) ha hb (nomark _)
theorem ev_notN (ha : PE X a (tV X.K f1)) (hb : PE X b (tV X.K f2)) : PE X (.Compare a [.IsNot] [b] pos) (tE X.K (op2E (gIsN true) f1 f2)) :=
  ev_cmp op_notN (fun G B F H ρ σ v u x y z Q rp r1 r2 e k => by
    cases r2 <;> try cases e
    refine ⟨rfl, ?_⟩
    have q := k (.bl (!decide (v = .non))) F H (Ex.refl F) rp
    rw [isN_V r1] at q
    rw [isN_V r1]
    cases x <;> exact q (.bl _)) ha hb (nomark _)
end
end Ev
/-! Ev3 -/
namespace Ev
open PySem PySem.Spec PyProof.Rows L2
variable [Tabs]
theorem PE.or {X : Cx} {e : Expr} {t t' : TE} (h : PE X e t) (h' : PE X e t') : PE X e (fun σ H Q => t σ H Q ∨ t' σ H Q) := ⟨fun pins s σ H Q I q => by
  rcases q with q | q
  · exact h.run pins s σ H Q I q
  · exact h'.run pins s σ H Q I q⟩
def lookOf (ρ : EnvD) (i : Nat) : Option D := match ρ[i]? with
  | some (.val d) => some d
  | some (.own d) => some d
  | some (.ref d) => some d
  | _ => none
def RL (K : Frag) (F H : Hp) (v : V) (d : D) : Prop := R K F v d ∨ ∃ l, v = .ref l ∧ Cell K F H l d
theorem Rep.look {K : Frag} {G : Hp} {B : List (Nat × Addr)} {F H : Hp} {ρ : EnvD} {σ : L2.St} (r : Rep K G B F H ρ σ) {i : Nat} {d : D} (h : lookOf ρ i = some d) : ∃ v, σ[i]? = some (some v) ∧ RL K F H v d := by
  unfold lookOf at h
  cases q : ρ[i]? with
  | none => rw [q] at h; cases h
  | some sl =>
    rw [q] at h
    cases sl with
    | val e => cases h; obtain ⟨v, a, b⟩ := r.val i d q; exact ⟨v, a, .inl b⟩
    | own e => cases h; obtain ⟨l, a, _, _, c⟩ := r.own i d (cell_own q); exact ⟨_, a, .inr ⟨l, rfl, c⟩⟩
    | ref e => cases h; obtain ⟨l, a, _, _, c⟩ := r.own i d (cell_ref q); exact ⟨_, a, .inr ⟨l, rfl, c⟩⟩
    | none => cases h
theorem RL.items {K : Frag} {F H : Hp} (e : Ex F H) {v : V} {d : D} {l : List D} (r : RL K F H v d) (q : itemsOf d = some l) : ∃ p xs, v = .ref p ∧ (SqL K H p xs ∨ SqT K H p xs) ∧ Rs K F xs l := by
  rcases r with r | ⟨p, rfl, c⟩
  · exact itemsOf_ok e r q
  · cases d <;> cases q
    · obtain ⟨xs, a, b⟩ := c
      exact ⟨p, xs, rfl, .inl (SqL.of a), b⟩
    · exact c.elim
    · exact c.elim
section
variable {X : Cx} {a b c : Expr} {f1 f2 f3 : Fv} {g1 g2 g3 : Fe} {pos : Pos}
def truD : D → Option Bool
  | .non => some false
  | .bl b => some b
  | .int i => some (i != 0)
  | .str x => if isLine x.length then some ((x.length : Int) != 0) else none
  | .lst l => some (!l.isEmpty)
  | .rol l => some (!l.isEmpty)
  | .tup l => some (!l.isEmpty)
  | .dK l => some (!l.isEmpty)
  | .dT _ => none
theorem isEmpty_len {α β : Type} {l : List α} {m : List β} (h : l.length = m.length) : l.isEmpty = m.isEmpty := by
  cases l <;> cases m <;> first | rfl | cases h
theorem truD_ok {K : Frag} {F H : Hp} (e : Ex F H) {v : V} {d : D} {k : Bool} (r : RL K F H v d) (q : truD d = some k) (hf : ∀ l, d = .dK l → ∃ p kvs, v = .ref p ∧ H p = some (.dK kvs) ∧ kvs.length = l.length) : TruV K v H k := by
  rcases r with r | ⟨p, rfl, c⟩
  · cases r with
    | non => cases q; rfl
    | bl b => cases q; rfl
    | int i => cases q; rfl
    | str x =>
      have q : (if isLine x.length then some ((x.length : Int) != 0) else none) = some k := q
      split at q
      · rename_i h
        cases q
        exact ⟨of_decide_eq_true h, rfl⟩
      · cases q
    | lst h r => cases q; exact .inl ⟨_, SqL.of (e _ _ h), by rw [isEmpty_len r.len]⟩
    | rol h r => cases q; exact .inl ⟨_, e.seqL h, by rw [isEmpty_len r.len]⟩
    | tup h r => cases q; exact .inr (.inl ⟨_, e.seqT h, by rw [isEmpty_len r.len]⟩)
    | dK h r =>
      cases q
      obtain ⟨p, kvs, e1, e2, e3⟩ := hf _ rfl
      cases e1
      exact .inr (.inr ⟨kvs, e2, by rw [isEmpty_len e3]⟩)
    | dT h r => cases q
  · cases d with
    | lst l => cases q; obtain ⟨xs, a, b⟩ := c; exact .inl ⟨_, SqL.of a, by rw [isEmpty_len b.len]⟩
    | dK l => cases q; obtain ⟨xs, a, b⟩ := c; exact .inr (.inr ⟨_, a, by rw [isEmpty_len b.len]⟩)
    | dT l => cases q
    | _ => exact c.elim
/-- of a dict that is never changed, by what it is -/
def truN (d : D) : Option Bool := match d with
  | .dK _ => none
  | d => truD d
theorem truN_ok {K : Frag} {F H : Hp} (e : Ex F H) {v : V} {d : D} {k : Bool} (r : R K F v d) (q : truN d = some k) : TruV K v H k := by
  refine truD_ok e (.inl r) ?_ fun l z => ?_
  · cases d <;> first | exact q | cases q
  · subst z
    cases q
def truF (f : Fv) : Fb := fun ρ => match f ρ with
  | some (d, ρ1) => (truN d).map fun k => (k, ρ1)
  | none => none
theorem et_val (h : PE X a (tV X.K f1)) (he : ∀ whole, isTrue a X.env whole = (do let v ← whole; standAt a.pos; holding [v] (truthy v))) : PT X a (tT X.K (truF f1)) :=
  PT.weak (pt_truth h he) fun σ H Q ⟨G, B, F, ρ, k, ρ', rp, ef, q⟩ => by
    unfold truF at ef
    cases q1 : f1 ρ with
    | none => rw [q1] at ef; cases ef
    | some x1 =>
      obtain ⟨d, ρ1⟩ := x1
      rw [q1] at ef
      obtain ⟨k1, e1, e2⟩ := Option.map_eq_some_iff.mp ef
      simp only [Prod.mk.injEq] at e2
      obtain ⟨rfl, rfl⟩ := e2
      exact ⟨G, B, F, ρ, d, ρ1, rp, q1, fun v F1 H1 e1' rp1 r1 => ⟨k1, truN_ok rp1.exF r1 e1, q F1 H1 e1' rp1⟩⟩
/-- a bool's -/
def blF (f : Fv) : Fb := fun ρ => match f ρ with
  | some (.bl k, ρ1) => some (k, ρ1)
  | _ => none
theorem et_cmp {r : R2} {g : Op2} {op : CmpOp} (ho : OpR X (compareOp op) r) (ok : Op2Ok X.K r g) (ha : PE X a (tV X.K f1)) (hb : PE X b (tV X.K f2)) (hm : behindInMarks op b = false) : PT X (.Compare a [op] [b] pos) (tT X.K (blF (frzF (op2E g f1 f2)))) := by
  have h1 := PE.frz (ev_tOp (pe_cmpR (pos := pos) ho ha hb hm) ok)
  refine PT.weak (pt_cmpR (pos := pos) ho ha hb hm) fun σ H Q ⟨G, B, F, ρ, k, ρ', rp, ef, q⟩ => ?_
  unfold blF frzF op2E at ef
  cases q1 : f1 ρ with
  | none => simp only [q1] at ef; cases ef
  | some x1 =>
    obtain ⟨x, ρ1⟩ := x1
    simp only [q1] at ef
    cases q2 : f2 ρ1 with
    | none => simp only [q2] at ef; cases ef
    | some y1 =>
      obtain ⟨y, ρ2⟩ := y1
      simp only [q2] at ef
      cases q3 : g x y with
      | none => simp only [q3] at ef; cases ef
      | some z =>
        simp only [q3] at ef
        have ef : (match (some (z.d, ρ2) : Option (D × EnvD)) with
          | some (.bl k, ρ1) => some (k, ρ1)
          | _ => none) = some (k, ρ') := ef
        refine ⟨G, B, F, ρ, x, ρ1, rp, q1, fun v F1 H1 e1 rp1 r1 => ?_⟩
        refine ⟨G, B, F1, ρ1, y, ρ2, rp1, q2, fun u F2 H2 e2 rp2 r2 => ?_⟩
        refine ok G B F2 H2 ρ2 σ v u x y z _ rp2 (r1.mono e2) r2 q3 fun w F3 H3 e3 rp3 r3 => ?_
        cases z with
        | new d =>
          cases d <;> cases ef
          obtain ⟨l, _, _, _, cc, _⟩ := r3
          exact cc.elim
        | val d =>
          cases d <;> cases ef
          have r4 : R X.K F3 w (.bl k) := r3
          cases r4
          exact ⟨k, rfl, q F3 H3 ((e1.trans e2).trans e3) rp3⟩
def andF (p q : Fb) : Fb := fun ρ => match p ρ with
  | some (true, ρ1) => q ρ1
  | some (false, ρ1) => some (false, ρ1)
  | none => none
def orF (p q : Fb) : Fb := fun ρ => match p ρ with
  | some (true, ρ1) => some (true, ρ1)
  | some (false, ρ1) => q ρ1
  | none => none
def notF (p : Fb) : Fb := fun ρ => (p ρ).map fun x => (!x.1, x.2)
theorem wk_and {K : Frag} {p q : Fb} {σ : L2.St} {H : Hp} {Q : Bool → Hp → Prop} (h : tT K (andF p q) σ H Q) : tAnd (tT K p) (tT K q) σ H Q := by
  obtain ⟨G, B, F, ρ, k, ρ', rp, ef, z⟩ := h
  unfold andF at ef
  cases q1 : p ρ with
  | none => rw [q1] at ef; cases ef
  | some x1 =>
    obtain ⟨c, ρ1⟩ := x1
    rw [q1] at ef
    refine ⟨G, B, F, ρ, c, ρ1, rp, q1, fun F1 H1 e1 rp1 => ?_⟩
    cases c with
    | true => exact iteT ⟨G, B, F1, ρ1, k, ρ', rp1, ef, fun F2 H2 e2 rp2 => z F2 H2 (e1.trans e2) rp2⟩
    | false =>
      cases ef
      exact iteF (z F1 H1 e1 rp1)
theorem wk_or {K : Frag} {p q : Fb} {σ : L2.St} {H : Hp} {Q : Bool → Hp → Prop} (h : tT K (orF p q) σ H Q) : tOr (tT K p) (tT K q) σ H Q := by
  obtain ⟨G, B, F, ρ, k, ρ', rp, ef, z⟩ := h
  unfold orF at ef
  cases q1 : p ρ with
  | none => rw [q1] at ef; cases ef
  | some x1 =>
    obtain ⟨c, ρ1⟩ := x1
    rw [q1] at ef
    refine ⟨G, B, F, ρ, c, ρ1, rp, q1, fun F1 H1 e1 rp1 => ?_⟩
    cases c with
    | false => exact iteF ⟨G, B, F1, ρ1, k, ρ', rp1, ef, fun F2 H2 e2 rp2 => z F2 H2 (e1.trans e2) rp2⟩
    | true =>
      cases ef
      exact iteT (z F1 H1 e1 rp1)
theorem PW.weak {e : Expr} {t t' : TT} (h : PW X e t) (w : ∀ σ H Q, t' σ H Q → t σ H Q) : PW X e t' := ⟨fun wh pins s σ H Q I q => h.run wh pins s σ H Q I (w σ H Q q)⟩
theorem et_and {rest : List Expr} {p q : Fb} (ha : PT X a (tT X.K p)) (hb : PW X (.BoolOp .And (b :: rest) pos) (tT X.K q)) : PW X (.BoolOp .And (a :: b :: rest) pos) (tT X.K (andF p q)) := PW.weak (pw_and ha hb) fun _ _ _ => wk_and
theorem et_or {rest : List Expr} {p q : Fb} (ha : PT X a (tT X.K p)) (hb : PW X (.BoolOp .Or (b :: rest) pos) (tT X.K q)) : PW X (.BoolOp .Or (a :: b :: rest) pos) (tT X.K (orF p q)) := PW.weak (pw_or ha hb) fun _ _ _ => wk_or
theorem et_not {p : Fb} (ha : PT X a (tT X.K p)) : PT X (.UnaryOp .Not a pos) (tT X.K (notF p)) := PT.weak (pt_not ha) fun σ H Q ⟨G, B, F, ρ, k, ρ', rp, ef, z⟩ => by
  unfold notF at ef
  obtain ⟨x, e1, e2⟩ := Option.map_eq_some_iff.mp ef
  obtain ⟨c, ρ1⟩ := x
  simp only [Prod.mk.injEq] at e2
  obtain ⟨rfl, rfl⟩ := e2
  exact ⟨G, B, F, ρ, c, ρ1, rp, e1, z⟩
/-- .. as values: bools ahead, anything last -/
def andE (p : Fv) (q : Fe) : Fe := fun ρ => match p ρ with
  | some (.bl true, ρ1) => q ρ1
  | some (.bl false, ρ1) => some (.val (.bl false), ρ1)
  | _ => none
def orE (p : Fv) (q : Fe) : Fe := fun ρ => match p ρ with
  | some (.bl true, ρ1) => some (.val (.bl true), ρ1)
  | some (.bl false, ρ1) => q ρ1
  | _ => none
def notE (p : Fv) : Fe := fun ρ => match p ρ with
  | some (.bl k, ρ1) => some (.val (.bl (!k)), ρ1)
  | _ => none
theorem ev_one {op : BoolOp} (h : PE X a (tE X.K g1)) : PE X (.BoolOp op [a] pos) (tE X.K g1) := pe_one h
theorem ev_and {rest : List Expr} (ha : PE X a (tV X.K f1)) (hb : PE X (.BoolOp .And (b :: rest) pos) (tE X.K g1)) : PE X (.BoolOp .And (a :: b :: rest) pos) (tE X.K (andE f1 g1)) :=
  PE.weak (pe_and ha hb) fun σ H Q ⟨G, B, F, ρ, r, ρ', rp, ef, z⟩ => by
    unfold andE at ef
    cases q1 : f1 ρ with
    | none => rw [q1] at ef; cases ef
    | some x1 =>
      obtain ⟨d, ρ1⟩ := x1
      rw [q1] at ef
      refine ⟨G, B, F, ρ, d, ρ1, rp, q1, fun v F1 H1 e1 rp1 r1 => ?_⟩
      cases d <;> try cases ef
      rename_i k
      cases r1
      refine ⟨k, rfl, ?_⟩
      cases k with
      | true => exact iteT ⟨G, B, F1, ρ1, r, ρ', rp1, ef, fun v F2 H2 e2 rp2 rr => z v F2 H2 (e1.trans e2) rp2 rr⟩
      | false =>
        cases ef
        exact iteF (z _ F1 H1 e1 rp1 (.bl false))
theorem ev_or {rest : List Expr} (ha : PE X a (tV X.K f1)) (hb : PE X (.BoolOp .Or (b :: rest) pos) (tE X.K g1)) : PE X (.BoolOp .Or (a :: b :: rest) pos) (tE X.K (orE f1 g1)) :=
  PE.weak (pe_or ha hb) fun σ H Q ⟨G, B, F, ρ, r, ρ', rp, ef, z⟩ => by
    unfold orE at ef
    cases q1 : f1 ρ with
    | none => rw [q1] at ef; cases ef
    | some x1 =>
      obtain ⟨d, ρ1⟩ := x1
      rw [q1] at ef
      refine ⟨G, B, F, ρ, d, ρ1, rp, q1, fun v F1 H1 e1 rp1 r1 => ?_⟩
      cases d <;> try cases ef
      rename_i k
      cases r1
      refine ⟨k, rfl, ?_⟩
      cases k with
      | false => exact iteF ⟨G, B, F1, ρ1, r, ρ', rp1, ef, fun v F2 H2 e2 rp2 rr => z v F2 H2 (e1.trans e2) rp2 rr⟩
      | true =>
        cases ef
        exact iteT (z _ F1 H1 e1 rp1 (.bl true))
theorem ev_not (ha : PE X a (tV X.K f1)) : PE X (.UnaryOp .Not a pos) (tE X.K (notE f1)) :=
  PE.weak (pe_not ha) fun σ H Q ⟨G, B, F, ρ, r, ρ', rp, ef, z⟩ => by
    unfold notE at ef
    cases q1 : f1 ρ with
    | none => rw [q1] at ef; cases ef
    | some x1 =>
      obtain ⟨d, ρ1⟩ := x1
      rw [q1] at ef
      refine ⟨G, B, F, ρ, d, ρ1, rp, q1, fun v F1 H1 e1 rp1 r1 => ?_⟩
      cases d <;> cases ef
      cases r1
      exact ⟨_, rfl, z _ F1 H1 e1 rp1 (.bl _)⟩
/-- a if c else b -/
def iteE (p : Fb) (x y : Fe) : Fe := fun ρ => match p ρ with
  | some (true, ρ1) => x ρ1
  | some (false, ρ1) => y ρ1
  | none => none
theorem ev_ite {p : Fb} (hc : PT X c (tT X.K p)) (ha : PE X a (tE X.K g1)) (hb : PE X b (tE X.K g2)) : PE X (.IfExp c a b pos) (tE X.K (iteE p g1 g2)) :=
  PE.weak (pe_ifExp hc ha hb) fun σ H Q ⟨G, B, F, ρ, r, ρ', rp, ef, z⟩ => by
    unfold iteE at ef
    cases q1 : p ρ with
    | none => rw [q1] at ef; cases ef
    | some x1 =>
      obtain ⟨k, ρ1⟩ := x1
      rw [q1] at ef
      refine ⟨G, B, F, ρ, k, ρ1, rp, q1, fun F1 H1 e1 rp1 => ?_⟩
      cases k with
      | true => exact iteT ⟨G, B, F1, ρ1, r, ρ', rp1, ef, fun v F2 H2 e2 rp2 rr => z v F2 H2 (e1.trans e2) rp2 rr⟩
      | false => exact iteF ⟨G, B, F1, ρ1, r, ρ', rp1, ef, fun v F2 H2 e2 rp2 rr => z v F2 H2 (e1.trans e2) rp2 rr⟩
/-- -a -/
def negE (f : Fv) : Fe := fun ρ => match f ρ with
  | some (.int i, ρ1) => some (.val (.int (-i)), ρ1)
  | _ => none
theorem ev_neg (ha : PE X a (tV X.K f1)) : PE X (.UnaryOp .USub a pos) (tE X.K (negE f1)) :=
  PE.weak (pe_un un_neg ha) fun σ H Q ⟨G, B, F, ρ, r, ρ', rp, ef, z⟩ => by
    unfold negE at ef
    cases q1 : f1 ρ with
    | none => rw [q1] at ef; cases ef
    | some x1 =>
      obtain ⟨d, ρ1⟩ := x1
      rw [q1] at ef
      refine ⟨G, B, F, ρ, d, ρ1, rp, q1, fun v F1 H1 e1 rp1 r1 => ?_⟩
      cases d <;> cases ef
      cases r1
      exact ⟨_, rfl, z _ F1 H1 e1 rp1 (.int _)⟩
def nilF : Fl := fun ρ => some ([], ρ)
def consF (f : Fv) (g : Fl) : Fl := fun ρ => match f ρ with
  | some (d, ρ1) => (match g ρ1 with
    | some (ds, ρ2) => some (d :: ds, ρ2)
    | none => none)
  | none => none
theorem ea_nil : PA X [] (tL X.K nilF) := PA.weak pa_nil fun σ H Q ⟨G, B, F, ρ, ds, ρ', rp, ef, z⟩ => by
  cases ef
  exact z [] F H (Ex.refl F) rp .nil
theorem ea_cons {es : List Expr} {g : Fl} (ha : PE X a (tV X.K f1)) (hb : PA X es (tL X.K g)) (hs : starEach (a :: es) X.env = (false, eval a X.env) :: starEach es X.env) : PA X (a :: es) (tL X.K (consF f1 g)) :=
  PA.weak (pa_cons ha hb hs) fun σ H Q ⟨G, B, F, ρ, ds, ρ', rp, ef, z⟩ => by
    unfold consF at ef
    cases q1 : f1 ρ with
    | none => rw [q1] at ef; cases ef
    | some x1 =>
      obtain ⟨d, ρ1⟩ := x1
      rw [q1] at ef
      cases q2 : g ρ1 with
      | none => simp only [q2] at ef; cases ef
      | some x2 =>
        obtain ⟨es', ρ2⟩ := x2
        simp only [q2] at ef
        cases ef
        refine ⟨G, B, F, ρ, d, ρ1, rp, q1, fun v F1 H1 e1 rp1 r1 => ?_⟩
        exact ⟨G, B, F1, ρ1, es', ρ', rp1, q2, fun vs F2 H2 e2 rp2 r2 => z (v :: vs) F2 H2 (e1.trans e2) rp2 (.cons (r1.mono e2) r2)⟩
/-- [a, b, ..], (a, b, ..) -/
def lstE (g : Fl) : Fe := fun ρ => match g ρ with
  | some (ds, ρ1) => if isLine ds.length then some (.new (.lst ds), ρ1) else none
  | none => none
def tupE (g : Fl) : Fe := fun ρ => match g ρ with
  | some (ds, ρ1) => if isLine ds.length then some (.val (.tup ds), ρ1) else none
  | none => none
theorem ev_lst {es : List Expr} {g : Fl} (h : PA X es (tL X.K g)) : PE X (.List es pos) (tE X.K (lstE g)) :=
  PE.weak (pe_lst h) fun σ H Q ⟨G, B, F, ρ, r, ρ', rp, ef, z⟩ => by
    unfold lstE at ef
    cases q1 : g ρ with
    | none => rw [q1] at ef; cases ef
    | some x1 =>
      obtain ⟨ds, ρ1⟩ := x1
      rw [q1] at ef
      have ef : (if isLine ds.length then some (Re.new (.lst ds), ρ1) else none) = some (r, ρ') := ef
      split at ef
      · rename_i hl
        cases ef
        refine ⟨G, B, F, ρ, ds, ρ', rp, q1, fun vs F1 H1 e1 rp1 r1 => ⟨by rw [r1.len]; exact of_decide_eq_true hl, fun p hp => ?_⟩⟩
        obtain ⟨rp2, f, g, ne⟩ := rp1.new (o := .lst vs) hp
        exact z _ F1 _ e1 rp2 ⟨p, rfl, f, g, ⟨_, upd_same, r1⟩, ne⟩
      · cases ef
theorem ev_tup {es : List Expr} {g : Fl} {x1 : Nat} (h : PA X es (tL X.K g)) : PE X (.Tuple es x1 pos) (tE X.K (tupE g)) :=
  PE.weak (pe_tup h) fun σ H Q ⟨G, B, F, ρ, r, ρ', rp, ef, z⟩ => by
    unfold tupE at ef
    cases q1 : g ρ with
    | none => rw [q1] at ef; cases ef
    | some x1 =>
      obtain ⟨ds, ρ1⟩ := x1
      rw [q1] at ef
      have ef : (if isLine ds.length then some (Re.val (.tup ds), ρ1) else none) = some (r, ρ') := ef
      split at ef
      · rename_i hl
        cases ef
        refine ⟨G, B, F, ρ, ds, ρ', rp, q1, fun vs F1 H1 e1 rp1 r1 => ⟨by rw [r1.len]; exact of_decide_eq_true hl, fun p hp => ?_⟩⟩
        obtain ⟨rp2, ex⟩ := rp1.newF (o := .tup vs) hp
        exact z _ _ _ (e1.trans ex) rp2 (.tup (SqT.of upd_same) (r1.mono ex))
      · cases ef
end
end Ev
/-! Ev4 -/
namespace Ev
open PySem PySem.Spec PyProof.Rows L2
variable [Tabs]
/-- how a statement ends -/
inductive Out where
  | nx (ρ : EnvD) | rt (r : Re) (ρ : EnvD) | bk (ρ : EnvD) | ct (ρ : EnvD)
abbrev Fs := EnvD → Option Out
def Post (K : Frag) (G : Hp) (B : List (Nat × Addr)) (F : Hp) (D : Ends) : Out → Prop
  | .nx ρ => ∀ σ F' H', Ex F F' → Rep K G B F' H' ρ σ → D.nx σ H'
  | .rt r ρ => ∀ σ v F' H', Ex F F' → Rep K G B F' H' ρ σ → RRe K G F' H' ρ σ v r → D.rt v H'
  | .bk ρ => ∀ σ F' H', Ex F F' → Rep K G B F' H' ρ σ → D.bk σ H'
  | .ct ρ => ∀ σ F' H', Ex F F' → Rep K G B F' H' ρ σ → D.ct σ H'
theorem Post.ex {K : Frag} {G : Hp} {B : List (Nat × Addr)} {F F' : Hp} {D : Ends} {o : Out} (p : Post K G B F D o) (e : Ex F F') : Post K G B F' D o := by
  cases o with
  | nx ρ => exact fun σ F2 H2 e2 r => p σ F2 H2 (e.trans e2) r
  | rt q ρ => exact fun σ v F2 H2 e2 r rr => p σ v F2 H2 (e.trans e2) r rr
  | bk ρ => exact fun σ F2 H2 e2 r => p σ F2 H2 (e.trans e2) r
  | ct ρ => exact fun σ F2 H2 e2 r => p σ F2 H2 (e.trans e2) r
def tS (K : Frag) (f : Fs) : TS := fun D σ H => ∃ G B F ρ o, Rep K G B F H ρ σ ∧ f ρ = some o ∧ Post K G B F D o
theorem ps_none {X : Cx} {st : Stmt} {K : Frag} : PS X st (tS K fun _ => none) := ⟨fun pins s σ H D I ⟨G, B, F, ρ, o, rp, ef, k⟩ => by cases ef⟩
theorem pss_none {X : Cx} {st : List Stmt} {K : Frag} : PSs X st (tS K fun _ => none) := ⟨fun pins s σ H D I ⟨G, B, F, ρ, o, rp, ef, k⟩ => by cases ef⟩
theorem PS.or {X : Cx} {st : Stmt} {t t' : TS} (h : PS X st t) (h' : PS X st t') : PS X st (fun D σ H => t D σ H ∨ t' D σ H) := ⟨fun pins s σ H D I q => by
  rcases q with q | q
  · exact h.run pins s σ H D I q
  · exact h'.run pins s σ H D I q⟩
theorem PI.or {X : Cx} {a b : Expr} {t t' : TI} (h : PI X a b t) (h' : PI X a b t') : PI X a b (fun σ H R => t σ H R ∨ t' σ H R) := ⟨fun pins s σ H R I q => by
  rcases q with q | q
  · exact h.run pins s σ H R I q
  · exact h'.run pins s σ H R I q⟩
def slOf : Re → Sl
  | .val d => .val d
  | .new d => .own d
def isRef (ρ : EnvD) (i : Nat) : Bool := match ρ[i]? with
  | some (.ref _) => true
  | _ => false
theorem cell_set_own {ρ : EnvD} {i j : Nat} {d : D} : cellOf (ρ.set i (.own d)) j = if i = j ∧ i < ρ.length then some d else cellOf ρ j := by
  unfold cellOf
  rw [List.getElem?_set]
  by_cases h : i = j
  · subst h
    by_cases h2 : i < ρ.length
    · simp [h2]
    · simp [h2]
  · simp [h]
theorem cell_lt {ρ : EnvD} {i : Nat} {d : D} (h : cellOf ρ i = some d) : i < ρ.length := by
  unfold cellOf at h
  cases q : ρ[i]? with
  | none => rw [q] at h; cases h
  | some x => exact (List.getElem?_eq_some_iff.mp q).1
section
variable {K : Frag} {G : Hp} {B : List (Nat × Addr)} {F F' H H' : Hp} {ρ ρ' : EnvD} {σ : L2.St}
theorem set_at {α : Type} {l : List α} {i : Nat} {x : α} (h : i < l.length) : (l.set i x)[i]? = some x := by
  rw [List.getElem?_set, if_pos rfl, if_pos h]
theorem set_ne {α : Type} {l : List α} {i j : Nat} {x : α} (h : i ≠ j) : (l.set i x)[j]? = l[j]? := by
  rw [List.getElem?_set, if_neg h]
/-- a value is put to a place -/
theorem Rep.set {v : V} {r : Re} (i : Nat) (p : Rep K G B F H ρ σ) (q : RRe K G F H ρ σ v r) (h : isRef ρ i = false) : Rep K G B F H (ρ.set i (slOf r)) (σ.set i (some v)) := by
  by_cases hi : i < ρ.length
  · have hi2 : i < σ.length := by rw [← p.len]; exact hi
    refine ⟨by rw [List.length_set, List.length_set]; exact p.len, p.exF, p.exG, p.dis, fun j d e => ?_, fun j d e => ?_, fun j k d e l q1 q2 s1 s2 => ?_, fun j l e => ?_, p.tab⟩
    · by_cases z : i = j
      · subst z
        rw [set_at hi] at e
        cases r with
        | val d' => cases e; exact ⟨v, set_at hi2, q⟩
        | new d' => cases e
      · rw [set_ne z] at e
        rw [set_ne z]
        exact p.val j d e
    · by_cases z : i = j
      · subst z
        cases r with
        | val d' =>
          rw [show slOf (.val d') = .val d' from rfl, cell_set_val, if_pos ⟨rfl, hi⟩] at e
          cases e
        | new d' =>
          rw [show slOf (.new d') = .own d' from rfl, cell_set_own, if_pos ⟨rfl, hi⟩] at e
          cases e
          obtain ⟨l, rfl, a, b, c, _⟩ := q
          exact ⟨l, set_at hi2, a, b, c⟩
      · have e2 : cellOf ρ j = some d := by
          unfold cellOf at e ⊢
          rw [set_ne z] at e
          exact e
        rw [set_ne z]
        exact p.own j d e2
    · have nr : ∀ (m : Nat) (d : D) (l : Addr), i ≠ m → cellOf (ρ.set i (slOf r)) m = some d → (σ.set i (some v))[m]? = some (some (.ref l)) → cellOf ρ m = some d ∧ σ[m]? = some (some (.ref l)) := fun m d l z e1 e2 => by
        rw [set_ne z] at e2
        unfold cellOf at e1 ⊢
        rw [set_ne z] at e1
        exact ⟨e1, e2⟩
      by_cases z1 : i = j
      · by_cases z2 : i = k
        · exact z1.symm.trans z2
        · exfalso
          subst z1
          rw [set_at hi2] at s1
          obtain ⟨c2, c3⟩ := nr k e l z2 q2 s2
          cases r with
          | val d' => rw [show slOf (.val d') = .val d' from rfl, cell_set_val, if_pos ⟨rfl, hi⟩] at q1; cases q1
          | new d' =>
            obtain ⟨m, rfl, _, _, _, ne⟩ := q
            have e0 : m = l := by injection s1 with s1; injection s1 with s1; injection s1
            subst e0
            exact ne k e c2 c3
      · by_cases z2 : i = k
        · exfalso
          subst z2
          rw [set_at hi2] at s2
          obtain ⟨c2, c3⟩ := nr j d l z1 q1 s1
          cases r with
          | val d' => rw [show slOf (.val d') = .val d' from rfl, cell_set_val, if_pos ⟨rfl, hi⟩] at q2; cases q2
          | new d' =>
            obtain ⟨m, rfl, _, _, _, ne⟩ := q
            have e0 : m = l := by injection s2 with s2; injection s2 with s2; injection s2
            subst e0
            exact ne j d c2 c3
        · obtain ⟨a1, a2⟩ := nr j d l z1 q1 s1
          obtain ⟨b1, b2⟩ := nr k e l z2 q2 s2
          exact p.sep j k d e l a1 b1 a2 b2
    · obtain ⟨⟨d, a⟩, b⟩ := p.bor j l e
      have z : i ≠ j := fun y => by
        subst y
        unfold isRef at h
        rw [a] at h
        cases h
      exact ⟨⟨d, by rw [set_ne z]; exact a⟩, by rw [set_ne z]; exact b⟩
  · have hi2 : σ.length ≤ i := by rw [← p.len]; omega
    rw [List.set_eq_of_length_le (by omega), List.set_eq_of_length_le hi2]
    exact p
/-- a place is forgotten -/
theorem Rep.drop (i : Nat) (p : Rep K G B F H ρ σ) (h : isRef ρ i = false) : Rep K G B F H (ρ.set i .none) σ := by
  refine ⟨by rw [List.length_set]; exact p.len, p.exF, p.exG, p.dis, fun j d e => ?_, fun j d e => ?_, fun j k d e l q1 q2 s1 s2 => ?_, fun j l e => ?_, p.tab⟩
  · by_cases z : i = j
    · subst z
      by_cases hi : i < ρ.length
      · rw [set_at hi] at e
        cases e
      · rw [List.set_eq_of_length_le (by omega)] at e
        exact p.val _ d e
    · rw [set_ne z] at e
      exact p.val j d e
  · rw [cell_set_none] at e
    split at e
    · cases e
    · exact p.own j d e
  · rw [cell_set_none] at q1 q2
    split at q1
    · cases q1
    · split at q2
      · cases q2
      · exact p.sep j k d e l q1 q2 s1 s2
  · obtain ⟨⟨d, a⟩, b⟩ := p.bor j l e
    have z : i ≠ j := fun y => by
      subst y
      unfold isRef at h
      rw [a] at h
      cases h
    exact ⟨⟨d, by rw [set_ne z]; exact a⟩, b⟩
end
section
variable {X : Cx} {a b c : Expr} {f1 f2 f3 : Fv} {g1 g2 g3 : Fe} {s1 s2 : Fs} {pos : Pos} {st : Stmt} {rest : List Stmt}
def seqF (f g : Fs) : Fs := fun ρ => match f ρ with
  | some (.nx ρ1) => g ρ1
  | o => o
def nextF : Fs := fun ρ => some (.nx ρ)
theorem es_nil : PSs X [] (tS X.K nextF) := PSs.weak pss_nil fun D σ H ⟨G, B, F, ρ, o, rp, ef, z⟩ => by
  cases ef
  exact z σ F H (Ex.refl F) rp
theorem es_cons (h : PS X st (tS X.K s1)) (h2 : PSs X rest (tS X.K s2)) : PSs X (st :: rest) (tS X.K (seqF s1 s2)) :=
  PSs.weak (pss_cons h h2) fun D σ H ⟨G, B, F, ρ, o, rp, ef, z⟩ => by
    unfold seqF at ef
    cases q : s1 ρ with
    | none => rw [q] at ef; cases ef
    | some o1 =>
      rw [q] at ef
      cases o1 with
      | nx ρ1 => exact ⟨G, B, F, ρ, .nx ρ1, rp, q, fun σ1 F1 H1 e1 rp1 => ⟨G, B, F1, ρ1, o, rp1, ef, z.ex e1⟩⟩
      | rt r ρ1 => cases ef; exact ⟨G, B, F, ρ, _, rp, q, z⟩
      | bk ρ1 => cases ef; exact ⟨G, B, F, ρ, _, rp, q, z⟩
      | ct ρ1 => cases ef; exact ⟨G, B, F, ρ, _, rp, q, z⟩
theorem es_one (h : PS X st (tS X.K s1)) : PSs X [st] (tS X.K s1) := pss_one h
theorem es_pass : PS X (.Pass pos) (tS X.K nextF) := PS.weak ps_pass fun D σ H ⟨G, B, F, ρ, o, rp, ef, z⟩ => by
  cases ef
  exact z σ F H (Ex.refl F) rp
theorem es_break : PS X (.Break pos) (tS X.K fun ρ => some (.bk ρ)) := PS.weak ps_break fun D σ H ⟨G, B, F, ρ, o, rp, ef, z⟩ => by
  cases ef
  exact z σ F H (Ex.refl F) rp
theorem es_continue : PS X (.Continue pos) (tS X.K fun ρ => some (.ct ρ)) := PS.weak ps_continue fun D σ H ⟨G, B, F, ρ, o, rp, ef, z⟩ => by
  cases ef
  exact z σ F H (Ex.refl F) rp
def ifF (p : Fb) (f g : Fs) : Fs := fun ρ => match p ρ with
  | some (true, ρ1) => f ρ1
  | some (false, ρ1) => g ρ1
  | none => none
theorem es_if {p : Fb} {x y : List Stmt} (hc : PT X c (tT X.K p)) (ha : PSs X x (tS X.K s1)) (hb : PSs X y (tS X.K s2)) : PS X (.If c x y pos) (tS X.K (ifF p s1 s2)) :=
  PS.weak (ps_if hc ha hb) fun D σ H ⟨G, B, F, ρ, o, rp, ef, z⟩ => by
    unfold ifF at ef
    cases q : p ρ with
    | none => rw [q] at ef; cases ef
    | some y1 =>
      obtain ⟨k, ρ1⟩ := y1
      rw [q] at ef
      refine ⟨G, B, F, ρ, k, ρ1, rp, q, fun F1 H1 e1 rp1 => ?_⟩
      cases k with
      | true => exact iteT ⟨G, B, F1, ρ1, o, rp1, ef, z.ex e1⟩
      | false => exact iteF ⟨G, B, F1, ρ1, o, rp1, ef, z.ex e1⟩
def dropF (f : Fe) : Fs := fun ρ => (f ρ).map fun x => .nx x.2
theorem es_expr (h : PE X a (tE X.K g1)) (hs : swapsWith a none pos.line X.env = pure false) : PS X (.Expr a pos) (tS X.K (dropF g1)) :=
  PS.weak (ps_expr h hs) fun D σ H ⟨G, B, F, ρ, o, rp, ef, z⟩ => by
    unfold dropF at ef
    obtain ⟨x, e1, e2⟩ := Option.map_eq_some_iff.mp ef
    obtain ⟨r, ρ1⟩ := x
    subst e2
    exact ⟨G, B, F, ρ, r, ρ1, rp, e1, fun v F1 H1 e rp1 rr => z σ F1 H1 e rp1⟩
def retF (f : Fe) : Fs := fun ρ => (f ρ).map fun x => .rt x.1 x.2
theorem es_ret (h : PE X a (tE X.K g1)) : PS X (.Return (some a) pos) (tS X.K (retF g1)) :=
  PS.weak (ps_ret h) fun D σ H ⟨G, B, F, ρ, o, rp, ef, z⟩ => by
    unfold retF at ef
    obtain ⟨x, e1, e2⟩ := Option.map_eq_some_iff.mp ef
    obtain ⟨r, ρ1⟩ := x
    subst e2
    exact ⟨G, B, F, ρ, r, ρ1, rp, e1, fun v F1 H1 e rp1 rr => z σ v F1 H1 e rp1 rr⟩
theorem es_retN : PS X (.Return none pos) (tS X.K fun ρ => some (.rt (.val .non) ρ)) :=
  PS.weak ps_retN fun D σ H ⟨G, B, F, ρ, o, rp, ef, z⟩ => by
    cases ef
    exact z σ _ F H (Ex.refl F) rp .non
/-- a def's own list is handed out -/
def retVarF (i : Nat) : Fs := fun ρ => match ρ[i]? with
  | some (.val d) => some (.rt (.val d) ρ)
  | some (.own d) => some (.rt (.new d) (ρ.set i .none))
  | _ => none
theorem es_retVar {x : Str} {pos' : Pos} {i : Nat} (hN : X.N[i]? = some x) (hv : Vis X.env.scope x) (hd : (x == ("__debug__" : Str)) = false) (hc : (x == ("__classdict__" : Str)) = false) : PS X (.Return (some (.Name x pos')) pos) (tS X.K (retVarF i)) :=
  PS.weak (ps_ret (pe_var (i := i) hN hv hd hc)) fun D σ H ⟨G, B, F, ρ, o, rp, ef, z⟩ => by
    unfold retVarF at ef
    cases q : ρ[i]? with
    | none => rw [q] at ef; cases ef
    | some sl =>
      rw [q] at ef
      cases sl with
      | val d =>
        cases ef
        obtain ⟨v, a, b⟩ := rp.val i d q
        exact ⟨v, a, z σ v F H (Ex.refl F) rp b⟩
      | own d =>
        cases ef
        obtain ⟨l, a, b, c, d2⟩ := rp.own i d (cell_own q)
        have hr : isRef ρ i = false := by unfold isRef; rw [q]
        refine ⟨.ref l, a, z σ _ F H (Ex.refl F) (rp.drop i hr) ⟨l, rfl, b, c, d2, fun j e hj hs => ?_⟩⟩
        rw [cell_set_none] at hj
        split at hj
        · cases hj
        · rename_i nj
          have ij := rp.sep i j d e l (cell_own q) hj a hs
          exact nj ⟨ij, (List.getElem?_eq_some_iff.mp q).1⟩
      | none => cases ef
      | ref d => cases ef
def setF (i : Nat) (f : Fe) : Fs := fun ρ => match f ρ with
  | some (r, ρ1) => if isRef ρ1 i then none else some (.nx (ρ1.set i (slOf r)))
  | none => none
theorem es_set {x : Str} {i : Nat} {pos' : Pos} (nd : X.N.Nodup) (hN : X.N[i]? = some x) (hl : L2.Loc X.env.scope x) (h : PE X a (tE X.K g1)) (hs : swapsWith a (some (.Name x pos')) pos.line X.env = pure false) (hf : X.fn x = true ∨ List.lookup x X.env.scope.names = some NameKind.local) : PS X (.Assign [.Name x pos'] a pos) (tS X.K (setF i g1)) :=
  PS.weak (ps_set (i := i) nd hN hl h hs hf) fun D σ H ⟨G, B, F, ρ, o, rp, ef, z⟩ => by
    unfold setF at ef
    cases q : g1 ρ with
    | none => rw [q] at ef; cases ef
    | some y1 =>
      obtain ⟨r, ρ1⟩ := y1
      rw [q] at ef
      have ef : (if isRef ρ1 i then none else some (Out.nx (ρ1.set i (slOf r)))) = some o := ef
      split at ef
      · cases ef
      · rename_i hr
        cases ef
        exact ⟨G, B, F, ρ, r, ρ1, rp, q, fun v F1 H1 e1 rp1 rr => z _ F1 H1 e1 (rp1.set i rr (by simpa using hr))⟩
end
end Ev
/-! Ev5 -/
namespace Ev
open PySem PySem.Spec PyProof.Rows L2
variable [Tabs]
theorem PG.weak {X : Cx} {e : Expr} {t t' : TG} (h : PG X e t) (w : ∀ v σ H Q, t' v σ H Q → t v σ H Q) : PG X e t' := ⟨fun pins s σ H v u Q I r q => h.run pins s σ H v u Q I r (w v σ H Q q)⟩
theorem PGs.weak {X : Cx} {es : List Expr} {t t' : TGs} (h : PGs X es t) (w : ∀ vs σ H Q, t' vs σ H Q → t vs σ H Q) : PGs X es t' := ⟨fun pins s σ H v u Q I r q => h.run pins s σ H v u Q I r (w v σ H Q q)⟩
inductive Tg where
  | nm (i : Nat) | tp (is : List Nat)
def Tg.ix : Tg → List Nat
  | .nm i => [i]
  | .tp is => is
def put1 (i : Nat) (d : D) (ρ : EnvD) : Option EnvD := if isRef ρ i then none else some (ρ.set i (.val d))
def puts : List Nat → List D → EnvD → Option EnvD
  | [], [], ρ => some ρ
  | i :: is, d :: ds, ρ => match put1 i d ρ with
    | some ρ1 => puts is ds ρ1
    | none => none
  | _, _, _ => none
def putT (t : Tg) (d : D) (ρ : EnvD) : Option EnvD := match t with
  | .nm i => put1 i d ρ
  | .tp is => match d with
    | .tup ds => puts is ds ρ
    | _ => none
def Same (is : List Nat) (σ σ' : L2.St) : Prop := σ'.length = σ.length ∧ ∀ j, j ∉ is → σ'[j]? = σ[j]?
def gT (K : Frag) (t : Tg) : TG := fun v σ H Q => ∃ G B F ρ d ρ', Rep K G B F H ρ σ ∧ R K F v d ∧ putT t d ρ = some ρ' ∧ ∀ σ', Same t.ix σ σ' → Rep K G B F H ρ' σ' → Q σ' H
def gTs (K : Frag) (is : List Nat) : TGs := fun vs σ H Q => ∃ G B F ρ ds ρ', Rep K G B F H ρ σ ∧ Rs K F vs ds ∧ puts is ds ρ = some ρ' ∧ ∀ σ', Same is σ σ' → Rep K G B F H ρ' σ' → Q σ' H
theorem Same.one {i : Nat} {σ : L2.St} {x : Option V} : Same [i] σ (σ.set i x) := ⟨List.length_set, fun j h => set_ne (fun e => h (by rw [e]; exact List.mem_singleton.mpr rfl))⟩
theorem Same.mono {is js : List Nat} {σ σ' : L2.St} (h : Same is σ σ') (k : ∀ j, j ∈ is → j ∈ js) : Same js σ σ' := ⟨h.1, fun j hj => h.2 j fun z => hj (k j z)⟩
theorem Same.trans {is : List Nat} {σ σ' σ2 : L2.St} (h : Same is σ σ') (k : Same is σ' σ2) : Same is σ σ2 := ⟨k.1.trans h.1, fun j hj => (k.2 j hj).trans (h.2 j hj)⟩
section
variable {K : Frag} {G : Hp} {B : List (Nat × Addr)} {F F' H H' : Hp} {ρ ρ' : EnvD} {σ : L2.St}
theorem Rep.put1 {i : Nat} {v : V} {d : D} (p : Rep K G B F H ρ σ) (r : R K F v d) (e : Ev.put1 i d ρ = some ρ') : Rep K G B F H ρ' (σ.set i (some v)) := by
  unfold Ev.put1 at e
  split at e
  · cases e
  · rename_i h
    cases e
    exact p.set (r := .val d) i r (by simpa using h)
end
section
variable {X : Cx} {a b c : Expr} {f1 f2 f3 : Fv} {g1 g2 g3 : Fe} {s1 s2 : Fs} {pos : Pos} {st : Stmt} {rest : List Stmt}
theorem eg_name {x : Str} {i : Nat} (nd : X.N.Nodup) (hN : X.N[i]? = some x) (hl : L2.Loc X.env.scope x) (hf : X.fn x = true ∨ List.lookup x X.env.scope.names = some NameKind.local) : PG X (.Name x pos) (gT X.K (.nm i)) :=
  PG.weak (pg_name (i := i) nd hN hl hf) fun v σ H Q ⟨G, B, F, ρ, d, ρ', rp, r, e, k⟩ => k _ Same.one (rp.put1 r e)
theorem egs_nil : PGs X [] (gTs X.K []) := PGs.weak pgs_nil fun vs σ H Q ⟨G, B, F, ρ, ds, ρ', rp, r, e, k⟩ => by
  cases r with
  | nil => cases e; exact ⟨rfl, k σ ⟨rfl, fun _ _ => rfl⟩ rp⟩
  | cons h t => cases e
theorem egs_cons {i : Nat} {is : List Nat} {es : List Expr} (h : PG X a (gT X.K (.nm i))) (t : PGs X es (gTs X.K is)) (hm : List.map (fun x => x.snd) (assignEach (a :: es) X.env) = assign a X.env :: List.map (fun x => x.snd) (assignEach es X.env)) : PGs X (a :: es) (gTs X.K (i :: is)) :=
  PGs.weak (pgs_cons h t hm) fun vs σ H Q ⟨G, B, F, ρ, ds, ρ', rp, r, e, k⟩ => by
    cases r with
    | nil => cases e
    | @cons v d vs ds hd tl =>
      unfold puts at e
      cases q : Ev.put1 i d ρ with
      | none => rw [q] at e; cases e
      | some ρ1 =>
        rw [q] at e
        refine ⟨v, vs, rfl, G, B, F, ρ, d, ρ1, rp, hd, q, fun σ1 s1 rp1 => ⟨G, B, F, ρ1, ds, ρ', rp1, tl, e, fun σ2 s2 rp2 => ?_⟩⟩
        refine k σ2 ?_ rp2
        exact (Same.mono s1 (fun j hj => by rw [List.mem_singleton.mp hj]; exact List.mem_cons_self)).trans (s2.mono fun j hj => List.mem_cons_of_mem _ hj)
theorem puts_len {is : List Nat} : ∀ {ds : List D} {ρ ρ' : EnvD}, puts is ds ρ = some ρ' → ds.length = is.length := by
  induction is with
  | nil => intro ds ρ ρ' e; cases ds with
    | nil => rfl
    | cons _ _ => cases e
  | cons i is ih => intro ds ρ ρ' e; cases ds with
    | nil => cases e
    | cons d ds =>
      unfold puts at e
      split at e
      · rename_i ρ1 _
        exact congrArg (· + 1) (ih e)
      · cases e
theorem eg_tup {is : List Nat} {es : List Expr} {k n : Nat} (hc : X.calm = true) (h : PGs X es (gTs X.K is)) (hn : (assignEach es X.env).length = n) (hs : List.findIdx? (fun x => x.fst) (assignEach es X.env) = none) (hi : is.length = n) : PG X (.Tuple es k pos) (gT X.K (.tp is)) :=
  PG.weak (pg_tup hc h hn hs) fun v σ H Q ⟨G, B, F, ρ, d, ρ', rp, r, e, kk⟩ => by
    cases r with
    | @tup a xs ds sq rs =>
      have e : puts is ds ρ = some ρ' := e
      exact ⟨a, xs, rfl, rp.exF.seqT sq, by rw [rs.len, puts_len e, hi], G, B, F, ρ, ds, ρ', rp, rs, e, kk⟩
    | _ => cases e
def loopF (t : Tg) (body : Fs) : List D → EnvD → Option Out
  | [], ρ => some (.nx ρ)
  | d :: ds, ρ => match putT t d ρ with
    | none => none
    | some ρ1 => match body ρ1 with
      | some (.nx ρ2) => loopF t body ds ρ2
      | some (.ct ρ2) => loopF t body ds ρ2
      | some (.bk ρ2) => some (.nx ρ2)
      | some (.rt r ρ2) => some (.rt r ρ2)
      | none => none
def forF (t : Tg) (it : Fv) (body : Fs) : Fs := fun ρ => match it ρ with
  | some (d, ρ1) => (match itemsOf d with
    | some ds => loopF t body ds ρ1
    | none => none)
  | none => none
/-- what holds ahead of turn i -/
def Turn (K : Frag) (G : Hp) (B : List (Nat × Addr)) (F : Hp) (t : Tg) (body : Fs) (ds : List D) (o : Out) (i : Nat) (σ : L2.St) (H : Hp) : Prop := ∃ F1 ρ1, Ex F F1 ∧ Rep K G B F1 H ρ1 σ ∧ loopF t body (ds.drop i) ρ1 = some o
theorem turn_ok {K : Frag} {G : Hp} {B : List (Nat × Addr)} {F H : Hp} {D : Ends} {o : Out} {t : Tg} {body : Fs} {xs : List V} {ds : List Ev.D} {i : Nat} {x : V} {σ : L2.St} (rs : Rs K F xs ds) (z : Post K G B F D o) (hx : xs[i]? = some x) (q : Turn K G B F t body ds o i σ H) :
    gT K t x σ H fun σ2 H2 => tS K body { nx := Turn K G B F t body ds o (i + 1), rt := D.rt, bk := D.nx, ct := Turn K G B F t body ds o (i + 1) } σ2 H2 := by
  obtain ⟨F1, ρ1, e1, rp1, q1⟩ := q
  obtain ⟨d, hd, hr⟩ := rs.getV hx
  have hlt := (List.getElem?_eq_some_iff.mp hd)
  obtain ⟨hl, hde⟩ := hlt
  rw [List.drop_eq_getElem_cons hl, hde] at q1
  unfold loopF at q1
  cases q2 : putT t d ρ1 with
  | none => rw [q2] at q1; cases q1
  | some ρ2 =>
    rw [q2] at q1
    refine ⟨G, B, F1, ρ1, d, ρ2, rp1, hr.mono e1, q2, fun σ2 _ rp2 => ?_⟩
    have q1 : (match body ρ2 with
      | some (.nx ρ2) => loopF t body (ds.drop (i + 1)) ρ2
      | some (.ct ρ2) => loopF t body (ds.drop (i + 1)) ρ2
      | some (.bk ρ2) => some (.nx ρ2)
      | some (.rt r ρ2) => some (.rt r ρ2)
      | none => none) = some o := q1
    cases q3 : body ρ2 with
    | none => rw [q3] at q1; cases q1
    | some o3 =>
      rw [q3] at q1
      refine ⟨G, B, F1, ρ2, o3, rp2, q3, ?_⟩
      cases o3 with
      | nx ρ3 => exact fun σ3 F3 H3 e3 rp3 => ⟨F3, ρ3, e1.trans e3, rp3, q1⟩
      | ct ρ3 => exact fun σ3 F3 H3 e3 rp3 => ⟨F3, ρ3, e1.trans e3, rp3, q1⟩
      | bk ρ3 => cases q1; exact fun σ3 F3 H3 e3 rp3 => z σ3 F3 H3 (e1.trans e3) rp3
      | rt r ρ3 => cases q1; exact fun σ3 v F3 H3 e3 rp3 rr => z σ3 v F3 H3 (e1.trans e3) rp3 rr
theorem turn_end {K : Frag} {G : Hp} {B : List (Nat × Addr)} {F H : Hp} {D : Ends} {o : Out} {t : Tg} {body : Fs} {xs : List V} {ds : List Ev.D} {σ : L2.St} (rs : Rs K F xs ds) (z : Post K G B F D o) (q : Turn K G B F t body ds o xs.length σ H) : D.nx σ H := by
  obtain ⟨F1, ρ1, e1, rp1, q1⟩ := q
  rw [rs.len, List.drop_length] at q1
  cases q1
  exact z σ F1 H e1 rp1
theorem es_for {t : Tg} {tg : Expr} {body : List Stmt} (po : PassesOwn (model X.prog X.w) X.A X.env X.xe) (hc : X.calm = true) (ha : PE X a (tV X.K f1)) (hg : PG X tg (gT X.K t)) (hb : PSs X body (tS X.K s1)) (hs : ∀ x : Value, foldedSetIterable a X.env x = pure x) : PS X (.For tg a body [] pos) (tS X.K (forF t f1 s1)) :=
  PS.weak (ps_for po hc (PI.or (pi_list ha) (pi_tup ha)) hg hb hs) fun D σ H ⟨G, B, F, ρ, o, rp, ef, z⟩ => by
    unfold forF at ef
    cases q1 : f1 ρ with
    | none => rw [q1] at ef; cases ef
    | some y1 =>
      obtain ⟨d, ρ1⟩ := y1
      rw [q1] at ef
      have ef : (match itemsOf d with
        | some ds => loopF t s1 ds ρ1
        | none => none) = some o := ef
      cases q2 : itemsOf d with
      | none => rw [q2] at ef; cases ef
      | some ds =>
        rw [q2] at ef
        have key : ∀ v F1 H1, Ex F F1 → Rep X.K G B F1 H1 ρ1 σ → R X.K F1 v d → ∃ p xs, v = .ref p ∧ (SqL X.K H1 p xs ∨ SqT X.K H1 p xs) ∧ Rs X.K F1 xs ds := fun v F1 H1 e1 rp1 r1 => itemsOf_ok rp1.exF r1 q2
        cases d with
        | tup l =>
          refine .inr ⟨G, B, F, ρ, _, ρ1, rp, q1, fun v F1 H1 e1 rp1 r1 => ?_⟩
          cases q2
          cases r1 with
          | tup sq rs =>
            rename_i p xs
            refine ⟨p, rfl, ⟨xs, rp1.exF.seqT sq⟩, for_tup (xs := xs) (Turn X.K G B F1 t s1 ds o) ⟨F1, ρ1, Ex.refl _, rp1, ef⟩ (fun i σ H _ q => ?_) (fun i x σ H hx q => turn_ok rs (z.ex e1) hx q) (fun σ H q => turn_end rs (z.ex e1) q)⟩
            obtain ⟨F2, ρ2, e2, rp2, _⟩ := q
            exact rp2.exF.seqT (e2.seqT sq)
        | lst l =>
          refine .inl ⟨G, B, F, ρ, _, ρ1, rp, q1, fun v F1 H1 e1 rp1 r1 => ?_⟩
          cases q2
          cases r1 with
          | lst sq rs =>
            rename_i p xs
            refine ⟨p, rfl, ⟨xs, SqL.of (rp1.exF _ _ sq)⟩, for_list (xs := xs) (Turn X.K G B F1 t s1 ds o) ⟨F1, ρ1, Ex.refl _, rp1, ef⟩ (fun i σ H _ q => ?_) (fun i x σ H hx q => turn_ok rs (z.ex e1) hx q) (fun σ H q => turn_end rs (z.ex e1) q)⟩
            obtain ⟨F2, ρ2, e2, rp2, _⟩ := q
            exact SqL.of (rp2.exF _ _ (e2 _ _ sq))
        | rol l =>
          refine .inl ⟨G, B, F, ρ, _, ρ1, rp, q1, fun v F1 H1 e1 rp1 r1 => ?_⟩
          cases q2
          cases r1 with
          | rol sq rs =>
            rename_i p xs
            refine ⟨p, rfl, ⟨xs, rp1.exF.seqL sq⟩, for_list (xs := xs) (Turn X.K G B F1 t s1 ds o) ⟨F1, ρ1, Ex.refl _, rp1, ef⟩ (fun i σ H _ q => ?_) (fun i x σ H hx q => turn_ok rs (z.ex e1) hx q) (fun σ H q => turn_end rs (z.ex e1) q)⟩
            obtain ⟨F2, ρ2, e2, rp2, _⟩ := q
            exact rp2.exF.seqL (e2.seqL sq)
        | _ => cases q2
def intsD (lo : Int) (n : Nat) : List D := (List.range n).map fun i => D.int (lo + (i : Nat))
theorem ints_get {lo : Int} {n i : Nat} (h : i < n) : (intsD lo n)[i]? = some (.int (lo + (i : Nat))) := by
  unfold intsD
  rw [List.getElem?_map, List.getElem?_range h]
  rfl
theorem ints_len {lo : Int} {n : Nat} : (intsD lo n).length = n := by unfold intsD; rw [List.length_map, List.length_range]
theorem ints_Rs {K : Frag} {F : Hp} {lo : Int} {n : Nat} : Rs K F ((List.range n).map fun i => V.int (lo + (i : Nat))) (intsD lo n) := by
  unfold intsD
  generalize List.range n = l
  induction l with
  | nil => exact .nil
  | cons a l ih => exact .cons (.int _) ih
def in62 : Int → Bool
  | .ofNat n => Nat.ble n 4611686018427387903
  | .negSucc n => Nat.ble n 4611686018427387903
theorem in62_ok {i : Int} (h : in62 i = true) : -(2 ^ 62) ≤ i ∧ i < 2 ^ 62 := by
  cases i with
  | ofNat n =>
    have := Nat.le_of_ble_eq_true h
    rw [show Int.ofNat n = (n : Int) from rfl]
    exact ⟨by omega, by omega⟩
  | negSucc n =>
    have := Nat.le_of_ble_eq_true h
    rw [Int.negSucc_eq]
    exact ⟨by omega, by omega⟩
def rngD1 : List D → Option (List D)
  | [.int j] => if in62 j then some (intsD 0 j.toNat) else none
  | _ => none
def rngD2 : List D → Option (List D)
  | [.int i, .int j] => if in62 i && in62 j then some (intsD i (j - i).toNat) else none
  | _ => none
theorem rngD1_inv {ds l : List D} (h : rngD1 ds = some l) : ∃ j, ds = [.int j] ∧ in62 j = true ∧ l = intsD 0 j.toNat := by
  unfold rngD1 at h
  split at h
  · split at h
    · rename_i j hj
      cases h
      exact ⟨j, rfl, hj, rfl⟩
    · cases h
  · cases h
theorem rngD2_inv {ds l : List D} (h : rngD2 ds = some l) : ∃ i j, ds = [.int i, .int j] ∧ in62 i = true ∧ in62 j = true ∧ l = intsD i (j - i).toNat := by
  unfold rngD2 at h
  split at h
  · split at h
    · rename_i i j hj
      cases h
      obtain ⟨a, b⟩ := Bool.and_eq_true_iff.mp hj
      exact ⟨i, j, rfl, a, b, rfl⟩
    · cases h
  · cases h
theorem Rs.one_inv {K : Frag} {F : Hp} {vs : List V} {j : Int} (r : Rs K F vs [.int j]) : vs = [.int j] := by
  cases r with
  | cons h t =>
    cases h
    cases t
    rfl
theorem Rs.two_inv {K : Frag} {F : Hp} {vs : List V} {i j : Int} (r : Rs K F vs [.int i, .int j]) : vs = [.int i, .int j] := by
  cases r with
  | cons h t =>
    cases h
    rw [Rs.one_inv t]
def rngF (rd : List D → Option (List D)) (t : Tg) (it : Fl) (body : Fs) : Fs := fun ρ => match it ρ with
  | some (ds, ρ1) => (match rd ds with
    | some l => loopF t body l ρ1
    | none => none)
  | none => none
theorem rngF_inv {rd : List D → Option (List D)} {t : Tg} {it : Fl} {body : Fs} {ρ : EnvD} {o : Out} (h : rngF rd t it body ρ = some o) : ∃ ds ρ1 l, it ρ = some (ds, ρ1) ∧ rd ds = some l ∧ loopF t body l ρ1 = some o := by
  unfold rngF at h
  cases q1 : it ρ with
  | none => rw [q1] at h; cases h
  | some y1 =>
    obtain ⟨ds, ρ1⟩ := y1
    rw [q1] at h
    have h : (match rd ds with
      | some l => loopF t body l ρ1
      | none => none) = some o := h
    cases q2 : rd ds with
    | none => rw [q2] at h; cases h
    | some l =>
      rw [q2] at h
      exact ⟨ds, ρ1, l, rfl, q2, h⟩
theorem turn_int {K : Frag} {G : Hp} {B : List (Nat × Addr)} {F : Hp} {D : Ends} {o : Out} {t : Tg} {body : Fs} {lo : Int} {n : Nat} {σ : L2.St} {H : Hp} (z : Post K G B F D o) (q : Turn K G B F t body (intsD lo n) o 0 σ H) : ∃ W : Nat → Nat → L2.St → Hp → Prop, (∃ m, W 0 m σ H) ∧ ∀ (i m : Nat) (σ : L2.St) (H : Hp), W i m σ H →
    (Itr lo n).stop i H ∧ D.nx σ H ∨ (Itr lo n).go i H ∧ ∃ N : L2.St → Hp → Prop, (∀ (σ' : L2.St) (H' : Hp), N σ' H' → ∃ m', m' < m ∧ W (i + 1) m' σ' H') ∧ ∀ (x : V) (H' : Hp), (Itr lo n).yld i H x H' → gT K t x σ H' fun σ2 H2 => tS K body { nx := N, rt := D.rt, bk := D.nx, ct := N } σ2 H2 :=
  for_range (Turn K G B F t body (intsD lo n) o) q
    (fun i σ H hi q => turn_ok (x := .int (lo + (i : Nat))) ints_Rs z (by rw [List.getElem?_map, List.getElem?_range hi]; rfl) q)
    (fun σ H q => turn_end (xs := (List.range n).map fun i => V.int (lo + (i : Nat))) ints_Rs z (by rw [List.length_map, List.length_range]; exact q))
theorem es_range1 {t : Tg} {tg : Expr} {body : List Stmt} {l1 : Fl} {p : Pos} {pos2 : Pos} (po : PassesOwn (model X.prog X.w) X.A X.env X.xe) (hc : X.calm = true) (gl : Gl X (Str.ofString "range")) (hm : X.mg (Str.ofString "range") = none) (ha : PA X [a] (tL X.K l1)) (hg : PG X tg (gT X.K t)) (hb : PSs X body (tS X.K s1)) (hst : starEach [a] X.env = [(false, eval a X.env)]) (hs : ∀ x : Value, foldedSetIterable (Expr.Call (.Name (Str.ofString "range") p) [a] [] pos2) X.env x = pure x) : PS X (.For tg (Expr.Call (.Name (Str.ofString "range") p) [a] [] pos2) body [] pos) (tS X.K (rngF rngD1 t l1 s1)) :=
  PS.weak (ps_for po hc (pi_range1 gl hm ha hst) hg hb hs) fun D σ H ⟨G, B, F, ρ, o, rp, ef, z⟩ => by
    obtain ⟨ds, ρ1, l, q1, q2, q3⟩ := rngF_inv ef
    obtain ⟨j, rfl, hj, rfl⟩ := rngD1_inv q2
    refine ⟨G, B, F, ρ, _, ρ1, rp, q1, fun vs F1 H1 e1 rp1 r1 => ?_⟩
    obtain ⟨a1, a2⟩ := in62_ok hj
    exact ⟨j, Rs.one_inv r1, a1, a2, turn_int (z.ex e1) ⟨F1, ρ1, Ex.refl _, rp1, q3⟩⟩
theorem es_range2 {t : Tg} {tg : Expr} {body : List Stmt} {l1 : Fl} {p : Pos} {pos2 : Pos} (po : PassesOwn (model X.prog X.w) X.A X.env X.xe) (hc : X.calm = true) (gl : Gl X (Str.ofString "range")) (hm : X.mg (Str.ofString "range") = none) (ha : PA X [a, b] (tL X.K l1)) (hg : PG X tg (gT X.K t)) (hb : PSs X body (tS X.K s1)) (hst : starEach [a, b] X.env = [(false, eval a X.env), (false, eval b X.env)]) (hst2 : starEach [b] X.env = [(false, eval b X.env)]) (hs : ∀ x : Value, foldedSetIterable (Expr.Call (.Name (Str.ofString "range") p) [a, b] [] pos2) X.env x = pure x) : PS X (.For tg (Expr.Call (.Name (Str.ofString "range") p) [a, b] [] pos2) body [] pos) (tS X.K (rngF rngD2 t l1 s1)) :=
  PS.weak (ps_for po hc (pi_range2 gl hm ha hst hst2) hg hb hs) fun D σ H ⟨G, B, F, ρ, o, rp, ef, z⟩ => by
    obtain ⟨ds, ρ1, l, q1, q2, q3⟩ := rngF_inv ef
    obtain ⟨i, j, rfl, hi, hj, rfl⟩ := rngD2_inv q2
    refine ⟨G, B, F, ρ, _, ρ1, rp, q1, fun vs F1 H1 e1 rp1 r1 => ?_⟩
    obtain ⟨a1, a2⟩ := in62_ok hi
    obtain ⟨b1, b2⟩ := in62_ok hj
    exact ⟨i, j, Rs.two_inv r1, ⟨a1, a2, b1, b2⟩, turn_int (z.ex e1) ⟨F1, ρ1, Ex.refl _, rp1, q3⟩⟩
end
end Ev
/-! Ev6 -/
namespace Ev
open PySem PySem.Spec PyProof.Rows L2
variable [Tabs]
/-- the places vs forgotten -/
def clr (ρ : EnvD) : List Nat → EnvD
  | [] => ρ
  | v :: vs => (clr ρ vs).set v .none
theorem clr_length (ρ : EnvD) : ∀ vs : List Nat, (clr ρ vs).length = ρ.length
  | [] => rfl
  | v :: vs => by
    unfold clr
    rw [List.length_set]
    exact clr_length ρ vs
theorem clr_out {ρ : EnvD} {i : Nat} : ∀ {vs : List Nat}, i ∉ vs → (clr ρ vs)[i]? = ρ[i]?
  | [], _ => rfl
  | v :: vs, h => by
    unfold clr
    rw [set_ne (fun e => h (by rw [e]; exact List.mem_cons_self))]
    exact clr_out fun z => h (List.mem_cons_of_mem _ z)
theorem clr_in {ρ : EnvD} {i : Nat} {s : Sl} : ∀ {vs : List Nat}, i ∈ vs → (clr ρ vs)[i]? = some s → s = .none
  | v :: vs, h, e => by
    unfold clr at e
    by_cases z : v = i
    · subst z
      rw [List.getElem?_set, if_pos rfl] at e
      split at e
      · cases e; rfl
      · cases e
    · rw [set_ne z] at e
      exact clr_in (by
        cases h with
        | head => exact absurd rfl z
        | tail _ h => exact h) e
/-- no cell stands at the places -/
def noCell (ρ : EnvD) (vs : List Nat) : Bool := vs.all fun v => match ρ[v]? with
  | some (.own _) => false
  | some (.ref _) => false
  | _ => true
theorem noCell_of {ρ : EnvD} {vs : List Nat} (h : noCell ρ vs = true) {i : Nat} (hi : i ∈ vs) : cellOf ρ i = none := by
  have q := List.all_eq_true.mp h i hi
  unfold cellOf
  cases e : ρ[i]? with
  | none => rfl
  | some s =>
    rw [e] at q
    cases s <;> first | rfl | cases q
/-- what stood at the places ahead stands there again -/
def back (ρ0 ρ : EnvD) : List Nat → EnvD
  | [] => ρ
  | v :: vs => (back ρ0 ρ vs).set v ((ρ0[v]?).getD .none)
theorem back_length (ρ0 ρ : EnvD) : ∀ vs : List Nat, (back ρ0 ρ vs).length = ρ.length
  | [] => rfl
  | v :: vs => by
    unfold back
    rw [List.length_set]
    exact back_length ρ0 ρ vs
theorem back_out {ρ0 ρ : EnvD} {i : Nat} : ∀ {vs : List Nat}, i ∉ vs → (back ρ0 ρ vs)[i]? = ρ[i]?
  | [], _ => rfl
  | v :: vs, h => by
    unfold back
    rw [set_ne (fun e => h (by rw [e]; exact List.mem_cons_self))]
    exact back_out fun z => h (List.mem_cons_of_mem _ z)
theorem back_in {ρ0 ρ : EnvD} {i : Nat} : ∀ {vs : List Nat}, i ∈ vs → i < ρ.length → ρ0.length = ρ.length → (back ρ0 ρ vs)[i]? = ρ0[i]?
  | v :: vs, h, hl, he => by
    unfold back
    by_cases z : v = i
    · subst z
      rw [set_at (by rw [back_length]; exact hl)]
      cases e : ρ0[v]? with
      | none =>
        rw [List.getElem?_eq_none_iff] at e
        omega
      | some s => rfl
    · rw [set_ne z]
      exact back_in (by
        cases h with
        | head => exact absurd rfl z
        | tail _ h => exact h) hl he
section
variable {K : Frag} {G : Hp} {B : List (Nat × Addr)} {F F' H H' : Hp} {ρ ρ' ρ0 : EnvD} {σ σ' : L2.St}
theorem wipe_in {i : Nat} {x : Option V} : ∀ {vs : List Nat}, i ∈ vs → (wipe σ vs)[i]? = some x → x = none
  | v :: vs, h, e => by
    rw [wipe.eq_def] at e
    have e : (List.set (wipe σ vs) v none)[i]? = some x := e
    by_cases z : v = i
    · subst z
      rw [List.getElem?_set, if_pos rfl] at e
      split at e
      · cases e; rfl
      · cases e
    · rw [set_ne z] at e
      exact wipe_in (by
        cases h with
        | head => exact absurd rfl z
        | tail _ h => exact h) e
theorem wipe_same {vs is : List Nat} (h : Same is σ σ') (k : ∀ j, j ∈ is → j ∈ vs) : wipe σ' vs = wipe σ vs := by
  apply List.ext_getElem?
  intro i
  by_cases hi : i ∈ vs
  · have l1 : (wipe σ' vs).length = (wipe σ vs).length := by rw [wipe_length, wipe_length, h.1]
    cases e1 : (wipe σ' vs)[i]? with
    | none =>
      rw [List.getElem?_eq_none_iff] at e1
      rw [eq_comm, List.getElem?_eq_none_iff]
      omega
    | some x =>
      cases e2 : (wipe σ vs)[i]? with
      | none =>
        rw [List.getElem?_eq_none_iff] at e2
        have := (List.getElem?_eq_some_iff.mp e1).1
        omega
      | some y => rw [wipe_in hi e1, wipe_in hi e2]
  · rw [wipe_out hi, wipe_out hi]
    exact h.2 i fun z => hi (k i z)
theorem wipe_wipe {vs : List Nat} : wipe (wipe σ vs) vs = wipe σ vs := by
  refine wipe_same (is := vs) ⟨wipe_length _ _, fun j hj => wipe_out hj⟩ fun j h => h
/-- the places are wiped -/
theorem Rep.wipe {vs : List Nat} (p : Rep K G B F H ρ σ) (h : noCell ρ vs = true) : Rep K G B F H (clr ρ vs) (L2.wipe σ vs) := by
  have cl : ∀ i d, cellOf (clr ρ vs) i = some d → cellOf ρ i = some d ∧ i ∉ vs := fun i d e => by
    by_cases hi : i ∈ vs
    · exfalso
      unfold cellOf at e
      cases q : (clr ρ vs)[i]? with
      | none => rw [q] at e; cases e
      | some s =>
        have := clr_in hi q
        subst this
        rw [q] at e
        cases e
    · refine ⟨?_, hi⟩
      unfold cellOf at e ⊢
      rw [clr_out hi] at e
      exact e
  refine ⟨by rw [clr_length, wipe_length]; exact p.len, p.exF, p.exG, p.dis, fun i d e => ?_, fun i d e => ?_, fun i j d e l q1 q2 s1 s2 => ?_, fun i l e => ?_, p.tab⟩
  · by_cases hi : i ∈ vs
    · have := clr_in hi e
      cases this
    · rw [clr_out hi] at e
      rw [wipe_out hi]
      exact p.val i d e
  · obtain ⟨e1, hi⟩ := cl i d e
    rw [wipe_out hi]
    exact p.own i d e1
  · obtain ⟨a1, h1⟩ := cl i d q1
    obtain ⟨a2, h2⟩ := cl j e q2
    rw [wipe_out h1] at s1
    rw [wipe_out h2] at s2
    exact p.sep i j d e l a1 a2 s1 s2
  · obtain ⟨⟨d, a⟩, b⟩ := p.bor i l e
    have hi : i ∉ vs := fun hi => by
      have := noCell_of h hi
      rw [cell_ref a] at this
      cases this
    exact ⟨⟨d, by rw [clr_out hi]; exact a⟩, by rw [wipe_out hi]; exact b⟩
/-- .. and what stood there stands there again -/
theorem Rep.unwipe {vs : List Nat} (p0 : Rep K G B F H ρ0 σ) (h0 : noCell ρ0 vs = true) (e : Ex F F') (p : Rep K G B F' H' (clr ρ vs) (L2.wipe σ vs)) : Rep K G B F' H' (back ρ0 (clr ρ vs) vs) σ := by
  have ll : ρ0.length = (clr ρ vs).length := by rw [p0.len, p.len, wipe_length]
  have cl : ∀ i d, cellOf (back ρ0 (clr ρ vs) vs) i = some d → cellOf (clr ρ vs) i = some d ∧ i ∉ vs := fun i d q => by
    by_cases hi : i ∈ vs
    · exfalso
      have hl := cell_lt q
      rw [back_length] at hl
      have z := noCell_of h0 hi
      unfold cellOf at q z
      rw [back_in hi hl ll] at q
      rw [z] at q
      cases q
    · refine ⟨?_, hi⟩
      unfold cellOf at q ⊢
      rw [back_out hi] at q
      exact q
  refine ⟨by rw [back_length, ← ll]; exact p0.len, p.exF, p.exG, p.dis, fun i d q => ?_, fun i d q => ?_, fun i j d e' l q1 q2 s1 s2 => ?_, fun i l q => ?_, p.tab⟩
  · by_cases hi : i ∈ vs
    · have hl : i < (clr ρ vs).length := by
        have := (List.getElem?_eq_some_iff.mp q).1
        rw [back_length] at this
        exact this
      rw [back_in hi hl ll] at q
      obtain ⟨v, a, b⟩ := p0.val i d q
      exact ⟨v, a, b.mono e⟩
    · rw [back_out hi] at q
      obtain ⟨v, a, b⟩ := p.val i d q
      rw [wipe_out hi] at a
      exact ⟨v, a, b⟩
  · obtain ⟨a, hi⟩ := cl i d q
    have := p.own i d a
    rw [wipe_out hi] at this
    exact this
  · obtain ⟨a1, h1⟩ := cl i d q1
    obtain ⟨a2, h2⟩ := cl j e' q2
    refine p.sep i j d e' l a1 a2 ?_ ?_
    · rw [wipe_out h1]; exact s1
    · rw [wipe_out h2]; exact s2
  · obtain ⟨⟨d, a⟩, b⟩ := p.bor i l q
    have hi : i ∉ vs := fun hi => by
      have := clr_in hi a
      cases this
    exact ⟨⟨d, by rw [back_out hi]; exact a⟩, by rw [wipe_out hi] at b; exact b⟩
/-- one address more that nobody may touch -/
theorem Rep.inG {p : Addr} {o : HO} (r : Rep K G B F H ρ σ) (ho : H p = some o) (hF : F p = none) (hG : G p = none) (hs : ∀ (i : Nat) (e : D), cellOf ρ i = some e → σ[i]? ≠ some (some (.ref p))) (hT : ∀ ps, o ≠ .tbl ps := by intro ps z; cases z) : Rep K (upd G p o) B F H ρ σ := by
  refine ⟨r.len, r.exF, fun a u q => ?_, fun a u q => ?_, r.val, fun i d q => ?_, r.sep, r.bor, fun P hP => ⟨(r.tab P hP).1, (r.tab P hP).2.1, by rw [upd_ne (tab_ne (r.tab P hP).1 ho hT)]; exact (r.tab P hP).2.2⟩⟩
  · by_cases z : a = p
    · subst z
      rw [upd_same] at q
      cases q
      exact ho
    · rw [upd_ne z] at q
      exact r.exG a u q
  · by_cases z : a = p
    · subst z
      rw [hF] at q
      cases q
    · rw [upd_ne z]
      exact r.dis a u q
  · obtain ⟨l, a, b, c, d2⟩ := r.own i d q
    have ne : l ≠ p := fun z => by
      subst z
      exact hs i d q a
    exact ⟨l, a, b, by rw [upd_ne ne]; exact c, d2⟩
/-- what stands there is changed -/
theorem Rep.chG {p : Addr} {o o' : HO} (r : Rep K (upd G p o) B F H ρ σ) : Rep K (upd G p o') B F (upd H p o') ρ σ := by
  have hF : F p = none := by
    cases q : F p with
    | none => rfl
    | some u =>
      have := r.dis p u q
      rw [upd_same] at this
      cases this
  have neP : ∀ P, P ∈ Tabs.l → P ≠ p := fun P hP z => by
    have q := (r.tab P hP).2.2
    rw [z, upd_same] at q
    cases q
  refine ⟨r.len, fun a u q => ?_, fun a u q => ?_, fun a u q => ?_, r.val, fun i d q => ?_, r.sep, r.bor, fun P hP => ⟨?_, (r.tab P hP).2.1, ?_⟩⟩
  rotate_left 4
  · obtain ⟨ps, e1, e2⟩ := (r.tab P hP).1
    exact ⟨ps, by rw [upd_ne (neP P hP)]; exact e1, e2⟩
  · have q := (r.tab P hP).2.2
    rw [upd_ne (neP P hP)] at q ⊢
    exact q
  · have ne : a ≠ p := fun z => by
      subst z
      rw [hF] at q
      cases q
    rw [upd_ne ne]
    exact r.exF a u q
  · by_cases z : a = p
    · subst z
      rw [upd_same] at q ⊢
      exact q
    · rw [upd_ne z] at q ⊢
      exact r.exG a u (by rw [upd_ne z]; exact q)
  · have ne : a ≠ p := fun z => by
      subst z
      rw [hF] at q
      cases q
    have := r.dis a u q
    rw [upd_ne ne] at this ⊢
    exact this
  · obtain ⟨l, a, b, c, d2⟩ := r.own i d q
    have ne : l ≠ p := fun z => by
      subst z
      rw [upd_same] at c
      cases c
    refine ⟨l, a, b, ?_, d2.mono (Ex.refl F) (by rw [upd_ne ne])⟩
    rw [upd_ne ne] at c ⊢
    exact c
/-- .. and handed out -/
theorem Rep.outG {p : Addr} {o : HO} (r : Rep K (upd G p o) B F H ρ σ) (hG : G p = none) : Rep K G B F H ρ σ ∧ F p = none ∧ H p = some o ∧ ∀ (i : Nat) (e : D), cellOf ρ i = some e → σ[i]? ≠ some (some (.ref p)) := by
  have gle : ∀ a, upd G p o a = none → G a = none := fun a h => by
    by_cases z : a = p
    · rw [z]; exact hG
    · rw [upd_ne z] at h; exact h
  refine ⟨⟨r.len, r.exF, fun a u q => ?_, fun a u q => gle a (r.dis a u q), r.val, fun i d q => ?_, r.sep, r.bor, fun P hP => ⟨(r.tab P hP).1, (r.tab P hP).2.1, gle P (r.tab P hP).2.2⟩⟩, ?_, r.exG p o upd_same, fun i d q z => ?_⟩
  · have ne : a ≠ p := fun z => by
      subst z
      rw [hG] at q
      cases q
    exact r.exG a u (by rw [upd_ne ne]; exact q)
  · obtain ⟨l, a, b, c, d2⟩ := r.own i d q
    exact ⟨l, a, b, gle l c, d2⟩
  · cases q : F p with
    | none => rfl
    | some u =>
      have := r.dis p u q
      rw [upd_same] at this
      cases this
  · obtain ⟨l, a, b, c, d2⟩ := r.own i d q
    rw [a] at z
    cases z
    rw [upd_same] at c
    cases c
end
def lcLoop (vs : List Nat) (t : Tg) (c : Fb) (e : Fv) : List D → List D → EnvD → Option (List D × EnvD)
  | [], acc, ρ => some (acc, ρ)
  | d :: ds, acc, ρ => match putT t d ρ with
    | none => none
    | some ρ1 => match c ρ1 with
      | none => none
      | some (false, ρ2) => if noCell ρ2 vs then lcLoop vs t c e ds acc (clr ρ2 vs) else none
      | some (true, ρ2) => match e ρ2 with
        | none => none
        | some (y, ρ3) => if noCell ρ3 vs && decide (acc.length < sizeLine) then lcLoop vs t c e ds (acc ++ [y]) (clr ρ3 vs) else none
def lcRun (vs : List Nat) (t : Tg) (c : Fb) (e : Fv) (ds : List D) (ρ1 : EnvD) : Option (Re × EnvD) :=
  if noCell ρ1 vs then match lcLoop vs t c e ds [] (clr ρ1 vs) with
    | some (acc, ρ2) => some (.new (.lst acc), back ρ1 (clr ρ2 vs) vs)
    | none => none
  else none
def yesF : Fb := fun ρ => some (true, ρ)
theorem ets_nil {X : Cx} : PTs X [] (tT X.K yesF) := ⟨fun pins s σ H Q I ⟨G, B, F, ρ, b, ρ', rp, ef, k⟩ => by
  cases ef
  exact (pts_nil (X := X)).run pins s σ H Q I (k F H (Ex.refl F) rp)⟩
theorem ets_one {X : Cx} {c : Expr} {p : Fb} (h : PT X c (tT X.K p)) : PTs X [c] (tT X.K p) := pts_one h
/-- what holds ahead of turn i -/
def LTurn (K : Frag) (G : Hp) (B : List (Nat × Addr)) (F : Hp) (vs : List Nat) (t : Tg) (c : Fb) (e : Fv) (ds : List D) (D0 : Addr) (σ : L2.St) (o : List D × EnvD) (i : Nat) (H : Hp) : Prop :=
  ∃ F1 ρ1 acc as, Ex F F1 ∧ Rep K (upd G D0 (.lst acc)) B F1 H (clr ρ1 vs) (wipe σ vs) ∧ Rs K F1 acc as ∧ lcLoop vs t c e (ds.drop i) as (clr ρ1 vs) = some o
section
variable {K : Frag} {G : Hp} {B : List (Nat × Addr)} {F F' H H' : Hp} {ρ ρ' ρ0 : EnvD} {σ σ' : L2.St} {vs : List Nat} {t : Tg} {c : Fb} {e : Fv} {ds : List D} {D0 : Addr} {o : List D × EnvD} {xs : List V}
theorem lturn_ok {i : Nat} {x : V} (rs : Rs K F xs ds) (ht : ∀ j, j ∈ t.ix → j ∈ vs) (hx : xs[i]? = some x) (q : LTurn K G B F vs t c e ds D0 σ o i H) :
    gT K t x (wipe σ vs) H fun σ2 H2 => wipe σ2 vs = wipe σ vs ∧ tT K c σ2 H2 fun b H3 =>
      if b = true then tV K e σ2 H3 fun y H4 => ∃ acc, H4 D0 = some (.lst acc) ∧ acc.length < sizeLine ∧ LTurn K G B F vs t c e ds D0 σ o (i + 1) (upd H4 D0 (.lst (acc ++ [y])))
      else LTurn K G B F vs t c e ds D0 σ o (i + 1) H3 := by
  obtain ⟨F1, ρ1, acc, as, e1, rp1, ra, q1⟩ := q
  obtain ⟨d, hd, hr⟩ := rs.getV hx
  obtain ⟨hl, hde⟩ := List.getElem?_eq_some_iff.mp hd
  rw [List.drop_eq_getElem_cons hl, hde] at q1
  unfold lcLoop at q1
  cases q2 : putT t d (clr ρ1 vs) with
  | none => rw [q2] at q1; cases q1
  | some ρ2 =>
    simp only [q2] at q1
    refine ⟨_, B, F1, clr ρ1 vs, d, ρ2, rp1, hr.mono e1, q2, fun σ2 s2 rp2 => ?_⟩
    have w2 : wipe σ2 vs = wipe σ vs := by rw [wipe_same s2 ht, wipe_wipe]
    refine ⟨w2, ?_⟩
    cases q3 : c ρ2 with
    | none => simp only [q3] at q1; cases q1
    | some y =>
      obtain ⟨b, ρ3⟩ := y
      simp only [q3] at q1
      refine ⟨_, B, F1, ρ2, b, ρ3, rp2, q3, fun F3 H3 e3 rp3 => ?_⟩
      cases b with
      | false =>
        refine iteF ?_
        have q1 : (if noCell ρ3 vs = true then lcLoop vs t c e (ds.drop (i + 1)) as (clr ρ3 vs) else none) = some o := q1
        split at q1
        · rename_i hn
          have rp4 := rp3.wipe hn
          rw [w2] at rp4
          exact ⟨F3, ρ3, acc, as, e1.trans e3, rp4, ra.mono e3, q1⟩
        · cases q1
      | true =>
        refine iteT ?_
        have q1 : (match e ρ3 with
          | none => none
          | some (y, ρ3) => if (noCell ρ3 vs && decide (as.length < sizeLine)) = true then lcLoop vs t c e (ds.drop (i + 1)) (as ++ [y]) (clr ρ3 vs) else none) = some o := q1
        cases q4 : e ρ3 with
        | none => rw [q4] at q1; cases q1
        | some y =>
          obtain ⟨y, ρ4⟩ := y
          rw [q4] at q1
          have q1 : (if (noCell ρ4 vs && decide (as.length < sizeLine)) = true then lcLoop vs t c e (ds.drop (i + 1)) (as ++ [y]) (clr ρ4 vs) else none) = some o := q1
          split at q1
          · rename_i hn
            obtain ⟨h1, h2⟩ := Bool.and_eq_true_iff.mp hn
            refine ⟨_, B, F3, ρ3, y, ρ4, rp3, q4, fun v F4 H4 e4 rp4 r4 => ?_⟩
            refine ⟨acc, rp4.exG D0 _ upd_same, by rw [ra.len]; exact of_decide_eq_true h2, ?_⟩
            have rp5 := (rp4.wipe h1).chG (o' := .lst (acc ++ [v]))
            rw [w2] at rp5
            exact ⟨F4, ρ4, acc ++ [v], as ++ [y], (e1.trans e3).trans e4, rp5, ((ra.mono e3).mono e4).app (Rs.one r4), q1⟩
          · cases q1
theorem lturn_start {ρ1 : EnvD} {D0 : Addr} (rp : Rep K G B F H ρ1 σ) (hn : noCell ρ1 vs = true) (hD : H D0 = none) (q : lcLoop vs t c e ds [] (clr ρ1 vs) = some o) : G D0 = none ∧ LTurn K G B F vs t c e ds D0 σ o 0 (upd H D0 (.lst [])) := by
  obtain ⟨a, b, g, d⟩ := rp.new (o := .lst []) hD
  refine ⟨g, F, ρ1, [], [], Ex.refl F, ?_, .nil, q⟩
  have r2 := a.wipe hn
  refine r2.inG upd_same b g fun i e' h z => ?_
  have hi : i ∉ vs := fun hi => by
    have z2 := wipe_in hi z
    cases z2
  rw [wipe_out hi] at z
  refine d i e' ?_ z
  unfold cellOf at h ⊢
  rw [clr_out hi] at h
  exact h
theorem lturn_end {acc : List D} {ρ1 ρ2 : EnvD} {r : Re} (rs : Rs K F xs ds) (rp : Rep K G B F H ρ1 σ) (hn : noCell ρ1 vs = true) (hG : G D0 = none) (q : LTurn K G B F vs t c e ds D0 σ (acc, ρ2) xs.length H') : ∃ F', Ex F F' ∧ Rep K G B F' H' (back ρ1 (clr ρ2 vs) vs) σ ∧ RRe K G F' H' (back ρ1 (clr ρ2 vs) vs) σ (.ref D0) (.new (.lst acc)) := by
  obtain ⟨F1, ρ3, as, bs, e1, rp1, ra, q1⟩ := q
  rw [rs.len, List.drop_length] at q1
  cases q1
  have cc : clr (clr ρ3 vs) vs = clr ρ3 vs := by
    apply List.ext_getElem?
    intro i
    by_cases hi : i ∈ vs
    · have l1 : (clr (clr ρ3 vs) vs).length = (clr ρ3 vs).length := clr_length _ _
      cases e1 : (clr (clr ρ3 vs) vs)[i]? with
      | none =>
        rw [List.getElem?_eq_none_iff] at e1
        rw [eq_comm, List.getElem?_eq_none_iff]
        omega
      | some x =>
        cases e2 : (clr ρ3 vs)[i]? with
        | none =>
          rw [List.getElem?_eq_none_iff] at e2
          have := (List.getElem?_eq_some_iff.mp e1).1
          omega
        | some y => rw [clr_in hi e1, clr_in hi e2]
    · rw [clr_out hi]
  rw [cc]
  obtain ⟨r1, r2, r3, r4⟩ := rp1.outG hG
  have r5 := Rep.unwipe rp hn e1 r1
  refine ⟨F1, e1, r5, D0, rfl, r2, hG, ⟨as, r3, ra⟩, fun i e' h z => ?_⟩
  by_cases hi : i ∈ vs
  · have hl := cell_lt h
    rw [back_length] at hl
    have zz := noCell_of hn hi
    unfold cellOf at h zz
    rw [back_in hi hl (by rw [rp.len, r1.len, wipe_length])] at h
    rw [zz] at h
    cases h
  · refine r4 i e' ?_ (by rw [wipe_out hi]; exact z)
    unfold cellOf at h ⊢
    rw [back_out hi] at h
    exact h
end
def lcE (vs : List Nat) (t : Tg) (it : Fv) (c : Fb) (e : Fv) : Fe := fun ρ => match it ρ with
  | some (d, ρ1) => (match itemsOf d with
    | some ds => lcRun vs t c e ds ρ1
    | none => none)
  | none => none
theorem lcRun_inv {vs : List Nat} {t : Tg} {c : Fb} {e : Fv} {ds : List D} {ρ1 ρ' : EnvD} {r : Re} (h : lcRun vs t c e ds ρ1 = some (r, ρ')) : noCell ρ1 vs = true ∧ ∃ acc ρ2, lcLoop vs t c e ds [] (clr ρ1 vs) = some (acc, ρ2) ∧ r = .new (.lst acc) ∧ ρ' = back ρ1 (clr ρ2 vs) vs := by
  unfold lcRun at h
  split at h
  · rename_i hn
    split at h
    · rename_i acc ρ2 q
      cases h
      exact ⟨hn, acc, ρ2, q, rfl, rfl⟩
    · cases h
  · cases h
section
variable {X : Cx} {a : Expr} {f1 : Fv}
theorem wk_lc {own : List Nat} {t : Tg} {fc : Fb} {fe : Fv} (ht : ∀ j, j ∈ t.ix → j ∈ own) (σ : L2.St) (H : Hp) (Q : VK) (h : tE X.K (lcE own t f1 fc fe) σ H Q) :
    tLc (fun σ H R => iList X.K (tV X.K f1) σ H R ∨ iTup X.K (tV X.K f1) σ H R) (gT X.K t) (tT X.K fc) (tV X.K fe) own σ H Q := by
  obtain ⟨G, B, F, ρ, r, ρ', rp, ef, z⟩ := h
  unfold lcE at ef
  cases q1 : f1 ρ with
  | none => rw [q1] at ef; cases ef
  | some y1 =>
    obtain ⟨d, ρ1⟩ := y1
    rw [q1] at ef
    have ef : (match itemsOf d with
      | some ds => lcRun own t fc fe ds ρ1
      | none => none) = some (r, ρ') := ef
    cases d with
    | tup ds =>
      obtain ⟨hn, acc, ρ2, q3, rfl, rfl⟩ := lcRun_inv ef
      refine .inr ⟨G, B, F, ρ, _, ρ1, rp, q1, fun v F1 H1 e1 rp1 r1 => ?_⟩
      cases r1 with
      | @tup p xs _ sq rs =>
        refine ⟨p, rfl, ⟨xs, rp1.exF.seqT sq⟩, fun D0 hD => ?_⟩
        obtain ⟨hG, st⟩ := lturn_start rp1 hn hD q3
        refine lc_tup (xs := xs) (LTurn X.K G B F1 own t fc fe ds D0 σ (acc, ρ2)) st (fun i H _ q => ?_) (fun i x H hx q => lturn_ok rs ht hx q) (fun H q => ?_)
        · obtain ⟨F2, ρ2, _, _, e2, rp2, _, _⟩ := q
          exact rp2.exF.seqT (e2.seqT sq)
        · obtain ⟨F2, e2, rp2, rr⟩ := lturn_end (r := .val .non) rs rp1 hn hG q
          exact z _ F2 H (e1.trans e2) rp2 rr
    | lst ds =>
      obtain ⟨hn, acc, ρ2, q3, rfl, rfl⟩ := lcRun_inv ef
      refine .inl ⟨G, B, F, ρ, _, ρ1, rp, q1, fun v F1 H1 e1 rp1 r1 => ?_⟩
      cases r1 with
      | @lst p xs _ sq rs =>
        refine ⟨p, rfl, ⟨xs, SqL.of (rp1.exF _ _ sq)⟩, fun D0 hD => ?_⟩
        obtain ⟨hG, st⟩ := lturn_start rp1 hn hD q3
        refine lc_list (xs := xs) (LTurn X.K G B F1 own t fc fe ds D0 σ (acc, ρ2)) st (fun i H _ q => ?_) (fun i x H hx q => lturn_ok rs ht hx q) (fun H q => ?_)
        · obtain ⟨F2, ρ2, _, _, e2, rp2, _, _⟩ := q
          exact SqL.of (rp2.exF _ _ (e2 _ _ sq))
        · obtain ⟨F2, e2, rp2, rr⟩ := lturn_end (r := .val .non) rs rp1 hn hG q
          exact z _ F2 H (e1.trans e2) rp2 rr
    | rol ds =>
      obtain ⟨hn, acc, ρ2, q3, rfl, rfl⟩ := lcRun_inv ef
      refine .inl ⟨G, B, F, ρ, _, ρ1, rp, q1, fun v F1 H1 e1 rp1 r1 => ?_⟩
      cases r1 with
      | @rol p xs _ sq rs =>
        refine ⟨p, rfl, ⟨xs, rp1.exF.seqL sq⟩, fun D0 hD => ?_⟩
        obtain ⟨hG, st⟩ := lturn_start rp1 hn hD q3
        refine lc_list (xs := xs) (LTurn X.K G B F1 own t fc fe ds D0 σ (acc, ρ2)) st (fun i H _ q => ?_) (fun i x H hx q => lturn_ok rs ht hx q) (fun H q => ?_)
        · obtain ⟨F2, ρ2, _, _, e2, rp2, _, _⟩ := q
          exact rp2.exF.seqL (e2.seqL sq)
        · obtain ⟨F2, e2, rp2, rr⟩ := lturn_end (r := .val .non) rs rp1 hn hG q
          exact z _ F2 H (e1.trans e2) rp2 rr
    | _ => cases ef
end
end Ev
/-! Ev7 -/
namespace Ev
open PySem PySem.Spec PyProof.Rows L2
variable [Tabs]
/-- an argument: a value, or a place whose list or dict the def may change -/
inductive AD where
  | v (d : D) | r (i : Nat)
abbrev Fa := EnvD → Option (List AD × EnvD)
def ARel (K : Frag) (F : Hp) (σ : L2.St) (v : V) : AD → Prop
  | .v d => R K F v d
  | .r i => σ[i]? = some (some v)
inductive ARels (K : Frag) (F : Hp) (σ : L2.St) : List V → List AD → Prop
  | nil : ARels K F σ [] []
  | cons {v : V} {a : AD} {vs : List V} {as : List AD} (h : ARel K F σ v a) (t : ARels K F σ vs as) : ARels K F σ (v :: vs) (a :: as)
section
variable {K : Frag} {F F' : Hp} {σ : L2.St}
theorem ARel.mono {v : V} {a : AD} (e : Ex F F') (h : ARel K F σ v a) : ARel K F' σ v a := by
  cases a with
  | v d => exact R.mono e h
  | r i => exact h
theorem ARels.mono {vs : List V} {as : List AD} (e : Ex F F') (h : ARels K F σ vs as) : ARels K F' σ vs as := by
  induction h with
  | nil => exact .nil
  | cons h t ih => exact .cons (h.mono e) ih
theorem ARels.len {vs : List V} {as : List AD} (h : ARels K F σ vs as) : vs.length = as.length := by
  induction h with
  | nil => rfl
  | cons h t ih => exact congrArg (· + 1) ih
theorem ARels.get {vs : List V} {as : List AD} {i : Nat} {a : AD} (h : ARels K F σ vs as) (e : as[i]? = some a) : ∃ v, vs[i]? = some v ∧ ARel K F σ v a := by
  induction h generalizing i with
  | nil => simp at e
  | cons h t ih =>
    cases i with
    | zero =>
      rw [List.getElem?_cons_zero] at e
      cases e
      exact ⟨_, rfl, h⟩
    | succ i =>
      rw [List.getElem?_cons_succ] at e
      obtain ⟨v, a, b⟩ := ih e
      exact ⟨v, by rw [List.getElem?_cons_succ]; exact a, b⟩
theorem ARels.app {vs ws : List V} {as bs : List AD} (h : ARels K F σ vs as) (k : ARels K F σ ws bs) : ARels K F σ (vs ++ ws) (as ++ bs) := by
  induction h with
  | nil => exact k
  | cons h t ih => exact .cons h ih
theorem ARels.vals : ∀ {vs : List V} {ds : List D}, Rs K F vs ds → ARels K F σ vs (ds.map AD.v)
  | _, _, .nil => .nil
  | _, _, .cons h t => .cons h (ARels.vals t)
end
def tA (K : Frag) (f : Fa) : TA := fun σ H Q => ∃ G B F ρ as ρ', Rep K G B F H ρ σ ∧ f ρ = some (as, ρ') ∧ ∀ vs F' H', Ex F F' → Rep K G B F' H' ρ' σ → ARels K F' σ vs as → Q vs H'
def anilF : Fa := fun ρ => some ([], ρ)
def avF (f : Fv) (g : Fa) : Fa := fun ρ => match f ρ with
  | some (d, ρ1) => (match g ρ1 with
    | some (as, ρ2) => some (.v d :: as, ρ2)
    | none => none)
  | none => none
def arF (i : Nat) (g : Fa) : Fa := fun ρ => match ρ[i]? with
  | some .none => none
  | none => none
  | some _ => (match g ρ with
    | some (as, ρ2) => some (.r i :: as, ρ2)
    | none => none)
section
variable {X : Cx} {a b : Expr} {f1 : Fv} {pos : Pos}
theorem aa_nil : PA X [] (tA X.K anilF) := PA.weak pa_nil fun σ H Q ⟨G, B, F, ρ, ds, ρ', rp, ef, z⟩ => by
  cases ef
  exact z [] F H (Ex.refl F) rp .nil
theorem aa_consV {es : List Expr} {g : Fa} (ha : PE X a (tV X.K f1)) (hb : PA X es (tA X.K g)) (hs : starEach (a :: es) X.env = (false, eval a X.env) :: starEach es X.env) : PA X (a :: es) (tA X.K (avF f1 g)) :=
  PA.weak (pa_cons ha hb hs) fun σ H Q ⟨G, B, F, ρ, ds, ρ', rp, ef, z⟩ => by
    unfold avF at ef
    cases q1 : f1 ρ with
    | none => rw [q1] at ef; cases ef
    | some x1 =>
      obtain ⟨d, ρ1⟩ := x1
      rw [q1] at ef
      cases q2 : g ρ1 with
      | none => simp only [q2] at ef; cases ef
      | some x2 =>
        obtain ⟨es', ρ2⟩ := x2
        simp only [q2] at ef
        cases ef
        refine ⟨G, B, F, ρ, d, ρ1, rp, q1, fun v F1 H1 e1 rp1 r1 => ?_⟩
        exact ⟨G, B, F1, ρ1, es', ρ', rp1, q2, fun vs F2 H2 e2 rp2 r2 => z (v :: vs) F2 H2 (e1.trans e2) rp2 (.cons (R.mono e2 r1) r2)⟩
theorem Rep.there {K : Frag} {G : Hp} {B : List (Nat × Addr)} {F H : Hp} {ρ : EnvD} {σ : L2.St} (p : Rep K G B F H ρ σ) {i : Nat} {s : Sl} (h : ρ[i]? = some s) (hs : s ≠ .none) : ∃ v, σ[i]? = some (some v) := by
  cases s with
  | none => exact absurd rfl hs
  | val d => obtain ⟨v, a, _⟩ := p.val i d h; exact ⟨v, a⟩
  | own d => obtain ⟨l, a, _⟩ := p.own i d (cell_own h); exact ⟨_, a⟩
  | ref d => obtain ⟨l, a, _⟩ := p.own i d (cell_ref h); exact ⟨_, a⟩
theorem aa_consR {es : List Expr} {g : Fa} {x : Str} {pos' : Pos} {i : Nat} (hN : X.N[i]? = some x) (hv : Vis X.env.scope x) (hd : (x == ("__debug__" : Str)) = false) (hc : (x == ("__classdict__" : Str)) = false) (hb : PA X es (tA X.K g)) (hs : starEach (.Name x pos' :: es) X.env = (false, eval (.Name x pos') X.env) :: starEach es X.env) : PA X (.Name x pos' :: es) (tA X.K (arF i g)) :=
  PA.weak (pa_cons (pe_var (i := i) hN hv hd hc) hb hs) fun σ H Q ⟨G, B, F, ρ, ds, ρ', rp, ef, z⟩ => by
    unfold arF at ef
    cases q1 : ρ[i]? with
    | none => rw [q1] at ef; cases ef
    | some s =>
      rw [q1] at ef
      have ef : s ≠ .none ∧ (match g ρ with
        | some (as, ρ2) => some (AD.r i :: as, ρ2)
        | none => none) = some (ds, ρ') := by
        cases s with
        | none => cases ef
        | val d => exact ⟨(fun h => nomatch h), ef⟩
        | own d => exact ⟨(fun h => nomatch h), ef⟩
        | ref d => exact ⟨(fun h => nomatch h), ef⟩
      obtain ⟨hs, ef⟩ := ef
      obtain ⟨v, hv⟩ := rp.there q1 hs
      cases q2 : g ρ with
      | none => simp only [q2] at ef; cases ef
      | some x2 =>
        obtain ⟨es', ρ2⟩ := x2
        simp only [q2] at ef
        cases ef
        exact ⟨v, hv, G, B, F, ρ, es', ρ', rp, q2, fun vs F2 H2 e2 rp2 r2 => z (v :: vs) F2 H2 e2 rp2 (.cons hv r2)⟩
end
def inE (ms : List Bool) (ds : List D) : EnvD := List.zipWith (fun m d => if m = true then Sl.ref d else Sl.val d) ms ds
theorem inE_get {ms : List Bool} {ds : List D} {i : Nat} : (inE ms ds)[i]? = match ms[i]?, ds[i]? with
    | some true, some d => some (.ref d)
    | some false, some d => some (.val d)
    | _, _ => none := by
  unfold inE
  rw [List.getElem?_zipWith]
  cases ms[i]? with
  | none => rfl
  | some m =>
    cases ds[i]? with
    | none => cases m <;> rfl
    | some d => cases m <;> rfl
/-- what a def promises: f of the data handed in gives the answer and what the changed ones hold then -/
def spD (K : Frag) (ms : List Bool) (f : List D → Option (Re × List D)) : Sp := fun vs H Q E => ∃ G B F ds r ds', ds.length = ms.length ∧ Rep K G B F H (inE ms ds) (vs.map some) ∧ f ds = some (r, ds') ∧
  (∀ i, ms[i]? = some true → ∃ l, (i, l) ∈ B) ∧
  ∀ v F' H', Ex F F' → Rep K G B F' H' (inE ms ds') (vs.map some) → RRe K G F' H' (inE ms ds') (vs.map some) v r → Q v H'
/-- the changed ones behind -/
def outs : List Bool → List D → EnvD → Option (List D)
  | [], [], _ => some []
  | true :: ms, _ :: ds, .ref d :: ρ => (outs ms ds ρ).map (d :: ·)
  | false :: ms, d :: ds, _ :: ρ => (outs ms ds ρ).map (d :: ·)
  | _, _, _ => none
theorem outs_len {ms : List Bool} : ∀ {ds ds' : List D} {ρ : EnvD}, outs ms ds ρ = some ds' → ds'.length = ms.length ∧ ds.length = ms.length := by
  induction ms with
  | nil => intro ds ds' ρ h; cases ds with
    | nil => cases h; exact ⟨rfl, rfl⟩
    | cons _ _ => cases h
  | cons m ms ih =>
    intro ds ds' ρ h
    cases ds with
    | nil => cases m <;> cases h
    | cons d ds =>
      cases ρ with
      | nil => cases m <;> cases h
      | cons s ρ =>
        cases m with
        | true =>
          cases s <;> try cases h
          obtain ⟨x, a, b⟩ := Option.map_eq_some_iff.mp h
          subst b
          obtain ⟨a1, a2⟩ := ih a
          exact ⟨congrArg (· + 1) a1, congrArg (· + 1) a2⟩
        | false =>
          have h : (outs ms ds ρ).map (d :: ·) = some ds' := h
          obtain ⟨x, a, b⟩ := Option.map_eq_some_iff.mp h
          subst b
          obtain ⟨a1, a2⟩ := ih a
          exact ⟨congrArg (· + 1) a1, congrArg (· + 1) a2⟩
theorem outs_get {ms : List Bool} : ∀ {ds ds' : List D} {ρ : EnvD} {i : Nat}, outs ms ds ρ = some ds' → (ms[i]? = some true → ∃ d, ρ[i]? = some (.ref d) ∧ ds'[i]? = some d) ∧ (ms[i]? = some false → ds'[i]? = ds[i]?) := by
  induction ms with
  | nil => intro ds ds' ρ i h; exact ⟨fun h => by simp at h, fun h => by simp at h⟩
  | cons m ms ih =>
    intro ds ds' ρ i h
    cases ds with
    | nil => cases m <;> cases h
    | cons d ds =>
      cases ρ with
      | nil => cases m <;> cases h
      | cons s ρ =>
        cases m with
        | true =>
          cases s <;> try cases h
          obtain ⟨x, a, b⟩ := Option.map_eq_some_iff.mp h
          subst b
          cases i with
          | zero => exact ⟨fun _ => ⟨_, rfl, rfl⟩, fun h => by cases h⟩
          | succ i => exact ih a
        | false =>
          have h : (outs ms ds ρ).map (d :: ·) = some ds' := h
          obtain ⟨x, a, b⟩ := Option.map_eq_some_iff.mp h
          subst b
          cases i with
          | zero => exact ⟨(fun h => by cases h), fun _ => rfl⟩
          | succ i => exact ih a
/-- a def by its body -/
def bodyF (ms : List Bool) (k : Nat) (fb : Fs) : List D → Option (Re × List D) := fun ds => match fb (inE ms ds ++ List.replicate k .none) with
  | some (.rt r ρ') => (outs ms ds ρ').map fun ds' => (r, ds')
  | some (.nx ρ') => (outs ms ds ρ').map fun ds' => (.val .non, ds')
  | _ => none
section
variable {K : Frag} {G : Hp} {B : List (Nat × Addr)} {F F' H H' : Hp} {ρ ρ' ρ0 : EnvD} {σ σ' : L2.St}
theorem app_get {α : Type} {l m : List α} {i : Nat} (h : i < l.length) : (l ++ m)[i]? = l[i]? := by
  rw [List.getElem?_append_left h]
theorem rep_get {α : Type} {x y : α} {k i : Nat} (h : (List.replicate k x)[i]? = some y) : y = x := by
  rw [List.getElem?_replicate] at h
  split at h
  · cases h; rfl
  · cases h
/-- places more -/
theorem Rep.ext (p : Rep K G B F H ρ σ) (k : Nat) : Rep K G B F H (ρ ++ List.replicate k .none) (σ ++ List.replicate k none) := by
  have gg : ∀ i s, (ρ ++ List.replicate k Sl.none)[i]? = some s → s ≠ .none → i < ρ.length := fun i s h hs => by
    by_cases z : i < ρ.length
    · exact z
    · rw [List.getElem?_append_right (by omega)] at h
      exact absurd (rep_get h) hs
  have cc : ∀ i d, cellOf (ρ ++ List.replicate k Sl.none) i = some d → i < ρ.length ∧ cellOf ρ i = some d := fun i d h => by
    have hl : i < ρ.length := by
      unfold cellOf at h
      cases q : (ρ ++ List.replicate k Sl.none)[i]? with
      | none => rw [q] at h; cases h
      | some s => exact gg i s q fun z => by rw [q, z] at h; cases h
    refine ⟨hl, ?_⟩
    unfold cellOf at h ⊢
    rw [app_get hl] at h
    exact h
  refine ⟨by rw [List.length_append, List.length_append, List.length_replicate, List.length_replicate, p.len], p.exF, p.exG, p.dis, fun i d q => ?_, fun i d q => ?_, fun i j d e l q1 q2 s1 s2 => ?_, fun i l q => ?_, p.tab⟩
  · have hl := gg i _ q (fun h => nomatch h)
    rw [app_get hl] at q
    rw [app_get (by rw [← p.len]; exact hl)]
    exact p.val i d q
  · obtain ⟨hl, q⟩ := cc i d q
    rw [app_get (by rw [← p.len]; exact hl)]
    exact p.own i d q
  · obtain ⟨h1, q1⟩ := cc i d q1
    obtain ⟨h2, q2⟩ := cc j e q2
    rw [app_get (by rw [← p.len]; exact h1)] at s1
    rw [app_get (by rw [← p.len]; exact h2)] at s2
    exact p.sep i j d e l q1 q2 s1 s2
  · obtain ⟨⟨d, a⟩, b⟩ := p.bor i l q
    have hl : i < ρ.length := (List.getElem?_eq_some_iff.mp a).1
    exact ⟨⟨d, by rw [app_get hl]; exact a⟩, by rw [app_get (by rw [← p.len]; exact hl)]; exact b⟩
/-- behind a def's body: the def's own names are gone -/
theorem Rep.leave {ms : List Bool} {ds ds' : List D} {vs : List V} (p0 : Rep K G B F H (inE ms ds) (vs.map some)) (hl : ds.length = ms.length) (hB : ∀ i, ms[i]? = some true → ∃ l, (i, l) ∈ B) (e : Ex F F') (p : Rep K G B F' H' ρ' σ') (ho : outs ms ds ρ' = some ds') :
    Rep K G B F' H' (inE ms ds') (vs.map some) ∧ ∀ (v : V) (r : Re), RRe K G F' H' ρ' σ' v r → RRe K G F' H' (inE ms ds') (vs.map some) v r := by
  obtain ⟨hl', _⟩ := outs_len ho
  have len0 : (inE ms ds').length = (inE ms ds).length := by unfold inE; rw [List.length_zipWith, List.length_zipWith, hl', hl]
  -- a cell of the def's, seen from within
  have cel : ∀ i d, cellOf (inE ms ds') i = some d → ∃ l, (vs.map some)[i]? = some (some (.ref l)) ∧ cellOf ρ' i = some d ∧ σ'[i]? = some (some (.ref l)) := fun i d h => by
    unfold cellOf at h
    rw [inE_get] at h
    cases q1 : ms[i]? with
    | none => rw [q1] at h; cases h
    | some m =>
      cases q2 : ds'[i]? with
      | none => rw [q1, q2] at h; cases m <;> cases h
      | some d2 =>
        rw [q1, q2] at h
        cases m with
        | false => cases h
        | true =>
          cases h
          obtain ⟨l, hl⟩ := hB i q1
          obtain ⟨d3, a, b⟩ := (outs_get ho).1 q1
          rw [q2] at b
          cases b
          exact ⟨l, (p0.bor i l hl).2, cell_ref a, (p.bor i l hl).2⟩
  refine ⟨⟨by rw [len0]; exact p0.len, p.exF, p.exG, p.dis, fun i d q => ?_, fun i d q => ?_, fun i j d e l q1 q2 s1 s2 => ?_, fun i l q => ?_, p.tab⟩, fun v r q => ?_⟩
  · rw [inE_get] at q
    cases q1 : ms[i]? with
    | none => rw [q1] at q; cases q
    | some m =>
      cases q2 : ds'[i]? with
      | none => rw [q1, q2] at q; cases m <;> cases q
      | some d2 =>
        rw [q1, q2] at q
        cases m with
        | true => cases q
        | false =>
          cases q
          have e2 := (outs_get (i := i) ho).2 q1
          rw [q2] at e2
          obtain ⟨v, a, b⟩ := p0.val i d (by rw [inE_get, q1, ← e2])
          exact ⟨v, a, b.mono e⟩
  · obtain ⟨l, a, b, c⟩ := cel i d q
    obtain ⟨l2, a2, b2, c2, d2⟩ := p.own i d b
    rw [c] at a2
    cases a2
    exact ⟨l, a, b2, c2, d2⟩
  · obtain ⟨l1, a1, b1, c1⟩ := cel i d q1
    obtain ⟨l2, a2, b2, c2⟩ := cel j e q2
    rw [a1] at s1
    cases s1
    rw [a2] at s2
    cases s2
    exact p.sep i j d e l b1 b2 c1 c2
  · obtain ⟨⟨d, a⟩, b⟩ := p0.bor i l q
    refine ⟨?_, b⟩
    rw [inE_get] at a
    cases q1 : ms[i]? with
    | none => rw [q1] at a; cases a
    | some m =>
      cases m with
      | false => rw [q1] at a; cases z : ds[i]? <;> rw [z] at a <;> cases a
      | true =>
        obtain ⟨d3, _, b3⟩ := (outs_get (i := i) ho).1 q1
        exact ⟨d3, by rw [inE_get, q1, b3]⟩
  · cases r with
    | val d => exact q
    | new d =>
      obtain ⟨l, a1, a2, a3, a4, a5⟩ := q
      refine ⟨l, a1, a2, a3, a4, fun i e h z => ?_⟩
      obtain ⟨l2, b1, b2, b3⟩ := cel i e h
      rw [b1] at z
      cases z
      exact a5 i e b2 b3
end
/-- a def keeps its promise -/
theorem fn_of {P : Program} {w : World} {K : Frag} {mg : Str → Option Value} {base : Heap} {x qual : Str} {params : Arguments} {body : List Stmt} {scope : Scope} {dvs : List V} {kws : List (Str × V)} {f : Addr} {fd : FuncData} {CX : CXT} {N ps : List Str} {k : Nat} {ms : List Bool} {fb : Fs}
    (fu : FunD K x qual params body scope dvs kws f fd) (sc : FnScope N ps scope) (hm : ms.length = ps.length)
    (hb : ∀ (cdv : Value) (A : Around) (outer : List Env) (s : Shared) (H : Hp) (E : XK), Room k (A.deeper (PyProof.Rows.envOfC qual scope s.heap.objs.size f cdv)) → PSs (cxOf CX P w K mg base N qual scope f cdv A outer s H E) body (tS K fb)) :
    FnOk P w K mg base CX (k + 1) f fd ps (spD K ms (bodyF ms (N.length - ms.length) fb)) := by
  refine fu.ok sc (fun vs H Q E ⟨G, B, F, ds, r, ds', hl, rp, _, _, _⟩ => ?_) (fun cdv A outer s H vs Q E hr ⟨G, B, F, ds, r, ds', hl, rp, ef, hB, z⟩ => ⟨_, hb cdv A outer s H E hr, ?_⟩)
  · have := rp.len
    unfold inE at this
    rw [List.length_zipWith, List.length_map, hl, Nat.min_self] at this
    rw [← this, hm]
  · have hv : vs.length = ms.length := by
      have := rp.len
      unfold inE at this
      rw [List.length_zipWith, List.length_map, hl, Nat.min_self] at this
      exact this.symm
    have rp2 := rp.ext (N.length - ms.length)
    unfold bodyF at ef
    cases q : fb (inE ms ds ++ List.replicate (N.length - ms.length) .none) with
    | none => rw [q] at ef; cases ef
    | some o =>
      rw [q] at ef
      refine ⟨G, B, F, _, o, ?_, q, ?_⟩
      · unfold L2.start
        rw [hv]
        exact rp2
      · cases o with
        | rt r1 ρ1 =>
          obtain ⟨y, e1, e2⟩ := Option.map_eq_some_iff.mp ef
          cases e2
          intro σ v F' H' e rp3 rr
          obtain ⟨a, b⟩ := Rep.leave rp hl hB e rp3 e1
          exact z v F' H' e a (b v _ rr)
        | nx ρ1 =>
          obtain ⟨y, e1, e2⟩ := Option.map_eq_some_iff.mp ef
          cases e2
          intro σ F' H' e rp3
          obtain ⟨a, b⟩ := Rep.leave rp hl hB e rp3 e1
          exact z _ F' H' e a .non
        | bk ρ1 => cases ef
        | ct ρ1 => cases ef
end Ev
/-! Ev8 -/
namespace Ev
open PySem PySem.Spec PyProof.Rows L2
variable [Tabs]
def AD.isR : AD → Bool
  | .v _ => false
  | .r _ => true
/-- what the def is handed, as data -/
def argD : List AD → EnvD → Option (List D)
  | [], _ => some []
  | .v d :: as, ρ => (argD as ρ).map (d :: ·)
  | .r i :: as, ρ => match cellOf ρ i, argD as ρ with
    | some d, some ds => some (d :: ds)
    | _, _ => none
def refsOf : List AD → List Nat
  | [] => []
  | .v _ :: as => refsOf as
  | .r i :: as => i :: refsOf as
/-- what the def left in place j -/
def refAt : List AD → List D → Nat → Option D
  | .r i :: as, d :: ds, j => if i = j then some d else refAt as ds j
  | .v _ :: as, _ :: ds, j => refAt as ds j
  | _, _, _ => none
def newSl (o : Option D) (s : Sl) : Sl := match o with
  | none => s
  | some d => match s with
    | .own _ => .own d
    | .ref _ => .ref d
    | s => s
def putBack (as : List AD) (ds : List D) (ρ : EnvD) : EnvD := ρ.mapIdx fun j s => newSl (refAt as ds j) s
def noDup : List Nat → Bool
  | [] => true
  | i :: is => !is.contains i && noDup is
def callE (ms : List Bool) (dds : List D) (f : List D → Option (Re × List D)) (args : Fa) : Fe := fun ρ => match args ρ with
  | some (as0, ρ1) => let as := as0 ++ dds.map AD.v
    if decide (as.map AD.isR = ms) && noDup (refsOf as) then match argD as ρ1 with
      | some ds => (match f ds with
        | some (r, ds') => if decide (ds'.length = ds.length) then some (r, putBack as ds' ρ1) else none
        | none => none)
      | none => none
    else none
  | none => none
theorem argD_len : ∀ {as : List AD} {ρ : EnvD} {ds : List D}, argD as ρ = some ds → ds.length = as.length
  | [], _, _, h => by cases h; rfl
  | .v d :: as, ρ, ds, h => by
    obtain ⟨x, a, b⟩ := Option.map_eq_some_iff.mp h
    subst b
    exact congrArg (· + 1) (argD_len a)
  | .r i :: as, ρ, ds, h => by
    unfold argD at h
    cases q1 : cellOf ρ i with
    | none => rw [q1] at h; cases h
    | some d =>
      cases q2 : argD as ρ with
      | none => rw [q1, q2] at h; cases h
      | some l =>
        rw [q1, q2] at h
        cases h
        exact congrArg (· + 1) (argD_len q2)
theorem argD_v : ∀ {as : List AD} {ρ : EnvD} {ds : List D} {i : Nat} {d : D}, argD as ρ = some ds → as[i]? = some (.v d) → ds[i]? = some d
  | [], _, _, _, _, _, e => by simp at e
  | .v d :: as, ρ, ds, i, d', h, e => by
    obtain ⟨x, a, b⟩ := Option.map_eq_some_iff.mp h
    subst b
    cases i with
    | zero => cases e; rfl
    | succ i => rw [List.getElem?_cons_succ]; exact argD_v (as := as) (i := i) a (by rw [List.getElem?_cons_succ] at e; exact e)
  | .r j :: as, ρ, ds, i, d', h, e => by
    unfold argD at h
    cases q1 : cellOf ρ j with
    | none => rw [q1] at h; cases h
    | some d =>
      cases q2 : argD as ρ with
      | none => rw [q1, q2] at h; cases h
      | some l =>
        rw [q1, q2] at h
        cases h
        cases i with
        | zero => cases e
        | succ i => rw [List.getElem?_cons_succ]; exact argD_v (as := as) (i := i) q2 (by rw [List.getElem?_cons_succ] at e; exact e)
theorem argD_r : ∀ {as : List AD} {ρ : EnvD} {ds : List D} {i j : Nat}, argD as ρ = some ds → as[i]? = some (.r j) → ∃ d, ds[i]? = some d ∧ cellOf ρ j = some d
  | [], _, _, _, _, _, e => by simp at e
  | .v d :: as, ρ, ds, i, d', h, e => by
    obtain ⟨x, a, b⟩ := Option.map_eq_some_iff.mp h
    subst b
    cases i with
    | zero => cases e
    | succ i => rw [List.getElem?_cons_succ]; exact argD_r (as := as) (i := i) a (by rw [List.getElem?_cons_succ] at e; exact e)
  | .r j :: as, ρ, ds, i, d', h, e => by
    unfold argD at h
    cases q1 : cellOf ρ j with
    | none => rw [q1] at h; cases h
    | some d =>
      cases q2 : argD as ρ with
      | none => rw [q1, q2] at h; cases h
      | some l =>
        rw [q1, q2] at h
        cases h
        cases i with
        | zero => cases e; exact ⟨d, rfl, q1⟩
        | succ i => rw [List.getElem?_cons_succ]; exact argD_r (as := as) (i := i) q2 (by rw [List.getElem?_cons_succ] at e; exact e)
theorem refs_mem : ∀ {as : List AD} {j : Nat}, j ∈ refsOf as ↔ ∃ i : Nat, as[i]? = some (AD.r j)
  | [], j => ⟨(fun h => nomatch h), fun ⟨i, h⟩ => by simp at h⟩
  | .v d :: as, j => by
    unfold refsOf
    rw [refs_mem (as := as)]
    constructor
    · rintro ⟨i, h⟩
      exact ⟨i + 1, h⟩
    · rintro ⟨i, h⟩
      cases i with
      | zero => cases h
      | succ i => exact ⟨i, h⟩
  | .r k :: as, j => by
    unfold refsOf
    rw [List.mem_cons, refs_mem (as := as)]
    constructor
    · rintro (h | ⟨i, h⟩)
      · subst h
        exact ⟨0, rfl⟩
      · exact ⟨i + 1, h⟩
    · rintro ⟨i, h⟩
      cases i with
      | zero => cases h; exact .inl rfl
      | succ i => exact .inr ⟨i, h⟩
theorem noDup_ix : ∀ {as : List AD} {i k j : Nat}, noDup (refsOf as) = true → as[i]? = some (.r j) → as[k]? = some (.r j) → i = k
  | [], _, _, _, _, e, _ => by simp at e
  | .v d :: as, i, k, j, h, e1, e2 => by
    cases i with
    | zero => cases e1
    | succ i =>
      cases k with
      | zero => cases e2
      | succ k => exact congrArg (· + 1) (noDup_ix (as := as) h e1 e2)
  | .r m :: as, i, k, j, h, e1, e2 => by
    have h : (!(refsOf as).contains m && noDup (refsOf as)) = true := h
    obtain ⟨h1, h2⟩ := Bool.and_eq_true_iff.mp h
    have nm : m ∉ refsOf as := fun z => by
      rw [List.contains_iff_mem.mpr z] at h1
      cases h1
    cases i with
    | zero =>
      cases k with
      | zero => rfl
      | succ k =>
        cases e1
        exact absurd (refs_mem.mpr ⟨k, e2⟩) nm
    | succ i =>
      cases k with
      | zero =>
        cases e2
        exact absurd (refs_mem.mpr ⟨i, e1⟩) nm
      | succ k => exact congrArg (· + 1) (noDup_ix (as := as) h2 e1 e2)
theorem refAt_some : ∀ {as : List AD} {ds : List D} {j : Nat} {d : D}, refAt as ds j = some d → ∃ i : Nat, as[i]? = some (AD.r j) ∧ ds[i]? = some d
  | [], ds, _, _, h => by cases ds <;> cases h
  | .v _ :: as, [], _, _, h => by cases h
  | .r _ :: as, [], _, _, h => by cases h
  | .v _ :: as, _ :: ds, j, d, h => by
    obtain ⟨i, a, b⟩ := refAt_some (as := as) (ds := ds) h
    exact ⟨i + 1, a, b⟩
  | .r m :: as, d' :: ds, j, d, h => by
    unfold refAt at h
    split at h
    · rename_i z
      cases h
      exact ⟨0, by rw [z]; rfl, rfl⟩
    · obtain ⟨i, a, b⟩ := refAt_some (as := as) (ds := ds) h
      exact ⟨i + 1, a, b⟩
theorem refAt_none : ∀ {as : List AD} {ds : List D} {j : Nat}, as.length = ds.length → refAt as ds j = none → j ∉ refsOf as
  | [], _, _, _, _ => fun h => nomatch h
  | .v _ :: as, [], _, h, _ => by cases h
  | .r _ :: as, [], _, h, _ => by cases h
  | .v _ :: as, _ :: ds, j, hl, h => refAt_none (as := as) (ds := ds) (Nat.succ.inj hl) h
  | .r m :: as, d' :: ds, j, hl, h => by
    unfold refAt at h
    split at h
    · cases h
    · rename_i z
      intro q
      cases q with
      | head => exact z rfl
      | tail _ q => exact refAt_none (as := as) (ds := ds) (Nat.succ.inj hl) h q
theorem put_get {as : List AD} {ds : List D} {ρ : EnvD} {j : Nat} : (putBack as ds ρ)[j]? = (ρ[j]?).map (newSl (refAt as ds j)) := by
  unfold putBack
  rw [List.getElem?_mapIdx]
theorem cell_put {as : List AD} {ds : List D} {ρ : EnvD} {j : Nat} {d : D} (h : cellOf (putBack as ds ρ) j = some d) : ∃ d0, cellOf ρ j = some d0 ∧ (refAt as ds j = some d ∨ refAt as ds j = none ∧ d0 = d) := by
  unfold cellOf at h ⊢
  rw [put_get] at h
  cases q : ρ[j]? with
  | none => rw [q] at h; cases h
  | some s =>
    rw [q] at h
    cases s with
    | none => cases q2 : refAt as ds j <;> rw [q2] at h <;> cases h
    | val _ => cases q2 : refAt as ds j <;> rw [q2] at h <;> cases h
    | own e =>
      refine ⟨e, rfl, ?_⟩
      cases q2 : refAt as ds j with
      | none => rw [q2] at h; cases h; exact .inr ⟨rfl, rfl⟩
      | some d2 => rw [q2] at h; cases h; exact .inl rfl
    | ref e =>
      refine ⟨e, rfl, ?_⟩
      cases q2 : refAt as ds j with
      | none => rw [q2] at h; cases h; exact .inr ⟨rfl, rfl⟩
      | some d2 => rw [q2] at h; cases h; exact .inl rfl
section
variable {K : Frag} {G : Hp} {B : List (Nat × Addr)} {F F' H H' : Hp} {ρ ρ' ρ0 : EnvD} {σ σ' : L2.St}
open Classical in
/-- the caller's own lists that are not handed on: nobody may touch them within -/
noncomputable def Gx (G H : Hp) (P : Addr → Prop) : Hp := fun a => if P a then H a else G a
theorem Gx_in {G H : Hp} {P : Addr → Prop} {a : Addr} (h : P a) : Gx G H P a = H a := if_pos h
theorem Gx_out {G H : Hp} {P : Addr → Prop} {a : Addr} (h : ¬P a) : Gx G H P a = G a := if_neg h
def Kept (ρ : EnvD) (σ : L2.St) (rs : List Nat) (a : Addr) : Prop := ∃ j d, cellOf ρ j = some d ∧ j ∉ rs ∧ σ[j]? = some (some (.ref a))
/-- the places handed in to be changed -/
def borOf (as : List AD) (vs : List V) : List (Nat × Addr) := (List.range as.length).filterMap fun (i : Nat) => match as[i]?, vs[i]? with
  | some (AD.r _), some (V.ref l) => some (i, l)
  | _, _ => none
theorem borOf_mem {as : List AD} {vs : List V} {i : Nat} {l : Addr} : (i, l) ∈ borOf as vs ↔ ∃ j, as[i]? = some (.r j) ∧ vs[i]? = some (.ref l) := by
  unfold borOf
  rw [List.mem_filterMap]
  constructor
  · rintro ⟨k, _, h⟩
    split at h
    · rename_i j l2 h1 h2
      cases h
      exact ⟨j, h1, h2⟩
    · cases h
  · rintro ⟨j, h1, h2⟩
    refine ⟨i, List.mem_range.mpr (List.getElem?_eq_some_iff.mp h1).1, ?_⟩
    rw [h1, h2]
theorem modes_get {as : List AD} {i : Nat} {b : Bool} (h : (as.map AD.isR)[i]? = some b) : (b = true ∧ ∃ j, as[i]? = some (.r j)) ∨ (b = false ∧ ∃ d, as[i]? = some (.v d)) := by
  rw [List.getElem?_map] at h
  cases q : as[i]? with
  | none => rw [q] at h; cases h
  | some a =>
    rw [q] at h
    cases a with
    | v d => cases h; exact .inr ⟨rfl, d, rfl⟩
    | r j => cases h; exact .inl ⟨rfl, j, rfl⟩
theorem inE_ref {as : List AD} {ds : List D} {i : Nat} {d : D} (h : cellOf (inE (as.map AD.isR) ds) i = some d) : ∃ j, as[i]? = some (.r j) ∧ ds[i]? = some d := by
  unfold cellOf at h
  rw [inE_get] at h
  cases q1 : (as.map AD.isR)[i]? with
  | none => rw [q1] at h; cases h
  | some m =>
    cases q2 : ds[i]? with
    | none => rw [q1, q2] at h; cases m <;> cases h
    | some d2 =>
      rw [q1, q2] at h
      rcases modes_get q1 with ⟨rfl, j, hj⟩ | ⟨rfl, _⟩
      · cases h; exact ⟨j, hj, rfl⟩
      · cases h
theorem inE_val {as : List AD} {ds : List D} {i : Nat} {d : D} (h : (inE (as.map AD.isR) ds)[i]? = some (.val d)) : ∃ d', as[i]? = some (.v d') ∧ ds[i]? = some d := by
  rw [inE_get] at h
  cases q1 : (as.map AD.isR)[i]? with
  | none => rw [q1] at h; cases h
  | some m =>
    cases q2 : ds[i]? with
    | none => rw [q1, q2] at h; cases m <;> cases h
    | some d2 =>
      rw [q1, q2] at h
      rcases modes_get q1 with ⟨rfl, _⟩ | ⟨rfl, d', hd⟩
      · cases h
      · cases h; exact ⟨d', hd, rfl⟩
/-- into the def -/
theorem Rep.enter {as : List AD} {ds : List D} {vs : List V} (p : Rep K G B F H ρ σ) (ra : ARels K F σ vs as) (ha : argD as ρ = some ds) (nd : noDup (refsOf as) = true) :
    Rep K (Gx G H (Kept ρ σ (refsOf as))) (borOf as vs) F H (inE (as.map AD.isR) ds) (vs.map some) := by
  have hl := argD_len ha
  have arg : ∀ i d, cellOf (inE (as.map AD.isR) ds) i = some d → ∃ j l, as[i]? = some (.r j) ∧ cellOf ρ j = some d ∧ σ[j]? = some (some (.ref l)) ∧ vs[i]? = some (.ref l) := fun i d h => by
    obtain ⟨j, hj, hd⟩ := inE_ref h
    obtain ⟨d2, e1, e2⟩ := argD_r ha hj
    rw [hd] at e1
    cases e1
    obtain ⟨l, a, _⟩ := p.own j d e2
    obtain ⟨v, b1, b2⟩ := ra.get hj
    have b2 : σ[j]? = some (some v) := b2
    rw [a] at b2
    cases b2
    exact ⟨j, l, hj, e2, a, b1⟩
  refine ⟨?_, p.exF, fun a o q => ?_, fun a o q => ?_, fun i d q => ?_, fun i d q => ?_, fun i j d e l q1 q2 s1 s2 => ?_, fun i l q => ?_, fun P hP => ⟨(p.tab P hP).1, (p.tab P hP).2.1, ?_⟩⟩
  rotate_left 7
  · have z : ¬Kept ρ σ (refsOf as) P := fun ⟨j, d, c1, _, c2⟩ => by
      obtain ⟨l, a1, a2, _, a4⟩ := p.own j d c1
      rw [c2] at a1
      cases a1
      obtain ⟨o, ho, hT⟩ := a4.obj
      exact tab_ne (p.tab P hP).1 ho hT rfl
    rw [Gx_out z]
    exact (p.tab P hP).2.2
  · unfold inE
    rw [List.length_zipWith, List.length_map, List.length_map, hl, Nat.min_self, ra.len]
  · by_cases z : Kept ρ σ (refsOf as) a
    · rw [Gx_in z] at q; exact q
    · rw [Gx_out z] at q; exact p.exG a o q
  · have z : ¬Kept ρ σ (refsOf as) a := fun ⟨j, d, c1, _, c2⟩ => by
      obtain ⟨l, a1, a2, _⟩ := p.own j d c1
      rw [c2] at a1
      cases a1
      rw [a2] at q
      cases q
    rw [Gx_out z]
    exact p.dis a o q
  · obtain ⟨d', h1, h2⟩ := inE_val q
    have := argD_v ha h1
    rw [h2] at this
    cases this
    obtain ⟨v, b1, b2⟩ := ra.get h1
    refine ⟨v, ?_, b2⟩
    rw [List.getElem?_map, b1]
    rfl
  · obtain ⟨j, l, h1, h2, h3, h4⟩ := arg i d q
    obtain ⟨l2, a1, a2, a3, a4⟩ := p.own j d h2
    rw [h3] at a1
    cases a1
    refine ⟨l, by rw [List.getElem?_map, h4]; rfl, a2, ?_, a4⟩
    have z : ¬Kept ρ σ (refsOf as) l := fun ⟨k, d', c1, c2, c3⟩ => by
      have := p.sep k j d' d l c1 h2 c3 h3
      subst this
      exact c2 (refs_mem.mpr ⟨i, h1⟩)
    rw [Gx_out z]
    exact a3
  · obtain ⟨k1, l1, a1, a2, a3, a4⟩ := arg i d q1
    obtain ⟨k2, l2, b1, b2, b3, b4⟩ := arg j e q2
    rw [List.getElem?_map, a4] at s1
    cases s1
    rw [List.getElem?_map, b4] at s2
    cases s2
    have := p.sep k1 k2 d e l a2 b2 a3 b3
    subst this
    exact noDup_ix nd a1 b1
  · obtain ⟨j, h1, h2⟩ := borOf_mem.mp q
    obtain ⟨d, e1, e2⟩ := argD_r ha h1
    refine ⟨⟨d, ?_⟩, by rw [List.getElem?_map, h2]; rfl⟩
    rw [inE_get, List.getElem?_map, h1, e1]
    rfl
/-- out of the def -/
theorem Rep.exit {as : List AD} {ds ds' : List D} {vs : List V} {v : V} {r : Re} (p : Rep K G B F H ρ σ) (ra : ARels K F σ vs as) (ha : argD as ρ = some ds) (nd : noDup (refsOf as) = true) (hl' : ds'.length = ds.length) (e : Ex F F')
    (q : Rep K (Gx G H (Kept ρ σ (refsOf as))) (borOf as vs) F' H' (inE (as.map AD.isR) ds') (vs.map some)) (rr : RRe K (Gx G H (Kept ρ σ (refsOf as))) F' H' (inE (as.map AD.isR) ds') (vs.map some) v r) :
    Rep K G B F' H' (putBack as ds' ρ) σ ∧ RRe K G F' H' (putBack as ds' ρ) σ v r := by
  have hl := argD_len ha
  have kin : ∀ a, Kept ρ σ (refsOf as) a → (∃ o, H a = some o) ∧ G a = none ∧ F a = none := fun a ⟨j, d, c1, c2, c3⟩ => by
    obtain ⟨l, a1, a2, a3, a4⟩ := p.own j d c1
    rw [c3] at a1
    cases a1
    exact ⟨a4.there, a3, a2⟩
  have gnone : ∀ a, Gx G H (Kept ρ σ (refsOf as)) a = none → G a = none ∧ ¬Kept ρ σ (refsOf as) a := fun a h => by
    by_cases z : Kept ρ σ (refsOf as) a
    · obtain ⟨⟨o, ho⟩, _⟩ := kin a z
      rw [Gx_in z, ho] at h
      cases h
    · rw [Gx_out z] at h
      exact ⟨h, z⟩
  -- a cell behind: its address, from within or kept
  have cel : ∀ j d, cellOf (putBack as ds' ρ) j = some d → ∃ d0 l, cellOf ρ j = some d0 ∧ σ[j]? = some (some (.ref l)) ∧ F' l = none ∧ G l = none ∧ Cell K F' H' l d ∧ (v = .ref l → (∃ d, r = .new d) → False) := fun j d h => by
    obtain ⟨d0, c0, hh⟩ := cell_put h
    obtain ⟨l, a1, a2, a3, a4⟩ := p.own j d0 c0
    rcases hh with h | ⟨hn, hde⟩
    · obtain ⟨i, h1, h2⟩ := refAt_some h
      obtain ⟨w, b1, b2⟩ := ra.get h1
      have b2 : σ[j]? = some (some w) := b2
      rw [a1] at b2
      cases b2
      have ci : cellOf (inE (as.map AD.isR) ds') i = some d := by
        unfold cellOf
        rw [inE_get, List.getElem?_map, h1, h2]
        rfl
      obtain ⟨l2, c1, c2, c3, c4⟩ := q.own i d ci
      rw [List.getElem?_map, b1] at c1
      cases c1
      refine ⟨d0, l, c0, a1, c2, a3, c4, fun hv ⟨d9, hr⟩ => ?_⟩
      subst hv hr
      obtain ⟨m, e1, _, _, _, ne⟩ := rr
      cases e1
      exact ne i d ci (by rw [List.getElem?_map, b1]; rfl)
    · have hk : Kept ρ σ (refsOf as) l := ⟨j, d0, c0, refAt_none (by rw [hl', hl]) hn, a1⟩
      subst hde
      obtain ⟨o, ho⟩ := a4.there
      have hH : H' l = H l := by rw [ho]; exact q.exG l o (by rw [Gx_in hk]; exact ho)
      refine ⟨d0, l, c0, a1, ?_, a3, a4.mono e hH, fun hv ⟨d9, hr⟩ => ?_⟩
      · cases z : F' l with
        | none => rfl
        | some o2 =>
          have := q.dis l o2 z
          rw [Gx_in hk, ho] at this
          cases this
      · subst hv hr
        obtain ⟨m, e1, _, g1, _, _⟩ := rr
        cases e1
        exact (gnone l g1).2 hk
  refine ⟨⟨?_, q.exF, fun a o h => ?_, fun a o h => (gnone a (q.dis a o h)).1, fun j d h => ?_, fun j d h => ?_, fun i j d e' l q1 q2 s1 s2 => ?_, fun j l h => ?_, fun P hP => ⟨(q.tab P hP).1, (q.tab P hP).2.1, (gnone P (q.tab P hP).2.2).1⟩⟩, ?_⟩
  · unfold putBack
    rw [List.length_mapIdx]
    exact p.len
  · have z : ¬Kept ρ σ (refsOf as) a := fun z => by
      obtain ⟨_, g, _⟩ := kin a z
      rw [g] at h
      cases h
    exact q.exG a o (by rw [Gx_out z]; exact h)
  · have : ρ[j]? = some (.val d) := by
      rw [put_get] at h
      cases q2 : ρ[j]? with
      | none => rw [q2] at h; cases h
      | some s =>
        rw [q2] at h
        cases s with
        | val d2 => cases q3 : refAt as ds' j <;> rw [q3] at h <;> cases h <;> rfl
        | none => cases q3 : refAt as ds' j <;> rw [q3] at h <;> cases h
        | own d2 => cases q3 : refAt as ds' j <;> rw [q3] at h <;> cases h
        | ref d2 => cases q3 : refAt as ds' j <;> rw [q3] at h <;> cases h
    obtain ⟨w, a, b⟩ := p.val j d this
    exact ⟨w, a, b.mono e⟩
  · obtain ⟨d0, l, _, a, b, c, d1, _⟩ := cel j d h
    exact ⟨l, a, b, c, d1⟩
  · obtain ⟨d0, l1, c1, a1, _⟩ := cel i d q1
    obtain ⟨d2, l2, c2, a2, _⟩ := cel j e' q2
    exact p.sep i j d0 d2 l c1 c2 s1 s2
  · obtain ⟨⟨d, a⟩, b⟩ := p.bor j l h
    refine ⟨?_, b⟩
    rw [put_get, a]
    cases refAt as ds' j with
    | none => exact ⟨d, rfl⟩
    | some d2 => exact ⟨d2, rfl⟩
  · cases r with
    | val d => exact rr
    | new d =>
      obtain ⟨l, e1, a2, a3, a4, a5⟩ := rr
      refine ⟨l, e1, a2, (gnone l a3).1, a4, fun j e' h z => ?_⟩
      obtain ⟨d0, l2, _, a, _, _, _, ne⟩ := cel j e' h
      rw [z] at a
      cases a
      exact ne e1 ⟨d, rfl⟩
end
section
variable {X : Cx}
theorem callE_inv {ms : List Bool} {dds : List D} {f : List D → Option (Re × List D)} {args : Fa} {ρ ρ' : EnvD} {r : Re} (h : callE ms dds f args ρ = some (r, ρ')) :
    ∃ as0 ρ1 ds ds', args ρ = some (as0, ρ1) ∧ (as0 ++ dds.map AD.v).map AD.isR = ms ∧ noDup (refsOf (as0 ++ dds.map AD.v)) = true ∧ argD (as0 ++ dds.map AD.v) ρ1 = some ds ∧ f ds = some (r, ds') ∧ ds'.length = ds.length ∧ ρ' = putBack (as0 ++ dds.map AD.v) ds' ρ1 := by
  unfold callE at h
  cases q1 : args ρ with
  | none => rw [q1] at h; cases h
  | some y =>
    obtain ⟨as0, ρ1⟩ := y
    rw [q1] at h
    simp only at h
    split at h
    · rename_i hc
      obtain ⟨c1, c2⟩ := Bool.and_eq_true_iff.mp hc
      split at h
      · rename_i ds q2
        split at h
        · rename_i r2 ds' q3
          split at h
          · rename_i hl
            cases h
            exact ⟨as0, ρ1, ds, ds', rfl, of_decide_eq_true c1, c2, q2, q3, of_decide_eq_true hl, rfl⟩
          · cases h
        · cases h
      · cases h
    · cases h
theorem wk_call {ms : List Bool} {dvs : List V} {dds : List D} {f : List D → Option (Re × List D)} {args : Fa} {E : XK} (hd : ∀ F : Hp, Rs X.K F dvs dds) (σ : L2.St) (H : Hp) (Q : VK) (h : tE X.K (callE ms dds f args) σ H Q) : tCall (spD X.K ms f) dvs E (tA X.K args) σ H Q := by
  obtain ⟨G, B, F, ρ, r, ρ', rp, ef, z⟩ := h
  obtain ⟨as0, ρ1, ds, ds', q1, rfl, c2, q2, q3, hl, rfl⟩ := callE_inv ef
  refine ⟨G, B, F, ρ, as0, ρ1, rp, q1, fun vs F1 H1 e1 rp1 ra => ?_⟩
  have ra2 : ARels X.K F1 σ (vs ++ dvs) (as0 ++ dds.map AD.v) := ra.app (ARels.vals (hd F1))
  refine ⟨_, _, F1, ds, r, ds', ?_, rp1.enter ra2 q2 c2, q3, fun i hi => ?_, fun v F2 H2 e2 rp2 rr => ?_⟩
  · rw [argD_len q2, List.length_map]
  · rcases modes_get hi with ⟨_, j, hj⟩ | ⟨h, _⟩
    · obtain ⟨d, e3, e4⟩ := argD_r q2 hj
      obtain ⟨l, a1, _⟩ := rp1.own j d e4
      obtain ⟨w, b1, b2⟩ := ra2.get hj
      have b2 : σ[j]? = some (some w) := b2
      rw [a1] at b2
      cases b2
      exact ⟨l, borOf_mem.mpr ⟨j, hj, b1⟩⟩
    · cases h
  · obtain ⟨a, b⟩ := rp1.exit ra2 q2 c2 hl e2 rp2 rr
    exact z v F2 H2 (e1.trans e2) a b
end
end Ev
/-! Ev9 -/
namespace Ev
open PySem PySem.Spec PyProof.Rows L2
variable [Tabs]
/-- one operand: a value, or a place that is only looked at -/
abbrev Fo := EnvD → Option (AD × EnvD)
def tO (K : Frag) (f : Fo) : TE := fun σ H Q => ∃ G B F ρ a ρ', Rep K G B F H ρ σ ∧ f ρ = some (a, ρ') ∧ ∀ v F' H', Ex F F' → Rep K G B F' H' ρ' σ → ARel K F' σ v a → Q v H'
def ovF (f : Fv) : Fo := fun ρ => (f ρ).map fun x => (.v x.1, x.2)
def orefF (i : Nat) : Fo := fun ρ => match ρ[i]? with
  | some .none => none
  | none => none
  | some _ => some (.r i, ρ)
section
variable {X : Cx} {a b : Expr} {f1 f2 : Fv} {pos : Pos}
theorem eo_val (h : PE X a (tV X.K f1)) : PE X a (tO X.K (ovF f1)) := PE.weak h fun σ H Q ⟨G, B, F, ρ, x, ρ', rp, ef, z⟩ => by
  unfold ovF at ef
  obtain ⟨y, e1, e2⟩ := Option.map_eq_some_iff.mp ef
  cases e2
  exact ⟨G, B, F, ρ, y.1, y.2, rp, e1, z⟩
theorem eo_var {x : Str} {i : Nat} (hN : X.N[i]? = some x) (hv : Vis X.env.scope x) (hd : (x == ("__debug__" : Str)) = false) (hc : (x == ("__classdict__" : Str)) = false) : PE X (.Name x pos) (tO X.K (orefF i)) :=
  PE.weak (pe_var (i := i) hN hv hd hc) fun σ H Q ⟨G, B, F, ρ, r, ρ', rp, ef, k⟩ => by
    unfold orefF at ef
    cases q : ρ[i]? with
    | none => rw [q] at ef; cases ef
    | some s =>
      rw [q] at ef
      have ef : s ≠ .none ∧ some (AD.r i, ρ) = some (r, ρ') := by
        cases s with
        | none => cases ef
        | val d => exact ⟨(fun h => nomatch h), ef⟩
        | own d => exact ⟨(fun h => nomatch h), ef⟩
        | ref d => exact ⟨(fun h => nomatch h), ef⟩
      obtain ⟨hs, ef⟩ := ef
      cases ef
      obtain ⟨v, hv⟩ := rp.there q hs
      exact ⟨v, hv, k v F H (Ex.refl F) rp hv⟩
/-- operands in a row -/
def aoF (f : Fo) (g : Fa) : Fa := fun ρ => match f ρ with
  | some (d, ρ1) => (match g ρ1 with
    | some (as, ρ2) => some (d :: as, ρ2)
    | none => none)
  | none => none
theorem aa_consO {es : List Expr} {f : Fo} {g : Fa} (ha : PE X a (tO X.K f)) (hb : PA X es (tA X.K g)) (hs : starEach (a :: es) X.env = (false, eval a X.env) :: starEach es X.env) : PA X (a :: es) (tA X.K (aoF f g)) :=
  PA.weak (pa_cons ha hb hs) fun σ H Q ⟨G, B, F, ρ, ds, ρ', rp, ef, z⟩ => by
    unfold aoF at ef
    cases q1 : f ρ with
    | none => rw [q1] at ef; cases ef
    | some x1 =>
      obtain ⟨d, ρ1⟩ := x1
      rw [q1] at ef
      cases q2 : g ρ1 with
      | none => simp only [q2] at ef; cases ef
      | some x2 =>
        obtain ⟨es', ρ2⟩ := x2
        simp only [q2] at ef
        cases ef
        refine ⟨G, B, F, ρ, d, ρ1, rp, q1, fun v F1 H1 e1 rp1 r1 => ?_⟩
        exact ⟨G, B, F1, ρ1, es', ρ', rp1, q2, fun vs F2 H2 e2 rp2 r2 => z (v :: vs) F2 H2 (e1.trans e2) rp2 (.cons (r1.mono e2) r2)⟩
end
/-- what an operand holds -/
def lookA (ρ : EnvD) : AD → Option D
  | .v d => some d
  | .r i => lookOf ρ i
def lookAs (ρ : EnvD) : List AD → Option (List D)
  | [] => some []
  | a :: as => match lookA ρ a, lookAs ρ as with
    | some d, some ds => some (d :: ds)
    | _, _ => none
inductive RLs (K : Frag) (F H : Hp) : List V → List D → Prop
  | nil : RLs K F H [] []
  | cons {v : V} {d : D} {vs : List V} {ds : List D} (h : RL K F H v d) (t : RLs K F H vs ds) : RLs K F H (v :: vs) (d :: ds)
section
variable {K : Frag} {G : Hp} {B : List (Nat × Addr)} {F F' H H' : Hp} {ρ ρ' : EnvD} {σ : L2.St}
theorem look_ok (p : Rep K G B F H ρ σ) {v : V} {a : AD} {d : D} (r : ARel K F σ v a) (h : lookA ρ a = some d) : RL K F H v d := by
  cases a with
  | v d2 => cases h; exact .inl r
  | r i =>
    obtain ⟨u, a1, a2⟩ := p.look h
    have r : σ[i]? = some (some v) := r
    rw [a1] at r
    cases r
    exact a2
theorem looks_ok (p : Rep K G B F H ρ σ) {vs : List V} {as : List AD} (r : ARels K F σ vs as) : ∀ {ds : List D}, lookAs ρ as = some ds → RLs K F H vs ds := by
  induction r with
  | nil => intro ds h; cases h; exact .nil
  | @cons v a vs as h t ih =>
    intro ds e
    unfold lookAs at e
    cases q1 : lookA ρ a with
    | none => rw [q1] at e; cases e
    | some d =>
      cases q2 : lookAs ρ as with
      | none => rw [q1, q2] at e; cases e
      | some l =>
        rw [q1, q2] at e
        cases e
        exact .cons (look_ok p h q1) (ih q2)
end
abbrev OpL := List D → Option Re
/-- what an operation on values does, told of data -/
def CbOk (K : Frag) (r : List V → Hp → VK → Prop) (g : OpL) : Prop := ∀ (G : Hp) (B : List (Nat × Addr)) (F H : Hp) (ρ : EnvD) (σ : L2.St) (vs : List V) (ds : List D) (z : Re) (Q : VK), Rep K G B F H ρ σ → RLs K F H vs ds → g ds = some z →
  (∀ w F' H', Ex F F' → Rep K G B F' H' ρ σ → RRe K G F' H' ρ σ w z → Q w H') → r vs H Q
def opLE (g : OpL) (f : Fa) : Fe := fun ρ => match f ρ with
  | some (as, ρ1) => (match lookAs ρ1 as with
    | some ds => (g ds).map fun r => (r, ρ1)
    | none => none)
  | none => none
theorem opLE_inv {g : OpL} {f : Fa} {ρ ρ' : EnvD} {z : Re} (h : opLE g f ρ = some (z, ρ')) : ∃ as ds, f ρ = some (as, ρ') ∧ lookAs ρ' as = some ds ∧ g ds = some z := by
  unfold opLE at h
  cases q1 : f ρ with
  | none => rw [q1] at h; cases h
  | some x1 =>
    obtain ⟨as, ρ1⟩ := x1
    rw [q1] at h
    have h : (match lookAs ρ1 as with
      | some ds => (g ds).map fun r => (r, ρ1)
      | none => none) = some (z, ρ') := h
    cases q2 : lookAs ρ1 as with
    | none => rw [q2] at h; cases h
    | some ds =>
      rw [q2] at h
      obtain ⟨r, e1, e2⟩ := Option.map_eq_some_iff.mp h
      cases e2
      exact ⟨as, ds, rfl, q2, e1⟩
theorem wk_cb {K : Frag} {r : List V → Hp → VK → Prop} {g : OpL} {f : Fa} (ok : CbOk K r g) (σ : L2.St) (H : Hp) (Q : VK) (h : tE K (opLE g f) σ H Q) : tCB r (tA K f) σ H Q := by
  obtain ⟨G, B, F, ρ, z, ρ', rp, ef, k⟩ := h
  obtain ⟨as, ds, q1, q2, q3⟩ := opLE_inv ef
  exact ⟨G, B, F, ρ, as, ρ', rp, q1, fun vs F1 H1 e1 rp1 ra => ok G B F1 H1 ρ' σ vs ds z Q rp1 (looks_ok rp1 ra q2) q3 fun w F2 H2 e2 rp2 rr => k w F2 H2 (e1.trans e2) rp2 rr⟩
theorem CbOk.or {K : Frag} {r r' : List V → Hp → VK → Prop} {g g' : OpL} (h : CbOk K r g) (h' : CbOk K r' g') : CbOk K (fun vs H Q => r vs H Q ∨ r' vs H Q) (fun ds => (g ds).or (g' ds)) := by
  intro G B F H ρ σ vs ds z Q rp rl e k
  have e : (g ds).or (g' ds) = some z := e
  cases q : g ds with
  | some z2 =>
    rw [q] at e
    cases e
    exact .inl (h G B F H ρ σ vs ds z Q rp rl q k)
  | none =>
    rw [q] at e
    exact .inr (h' G B F H ρ σ vs ds z Q rp rl e k)
theorem CallR.or {X : Cx} {f : Value} {r r' : List V → Hp → VK → Prop} (h : CallR X f r) (h' : CallR X f r') : CallR X f (fun vs H Q => r vs H Q ∨ r' vs H Q) := fun pins s σ H xs us Q I rx q => by
  rcases q with q | q
  · exact h pins s σ H xs us Q I rx q
  · exact h' pins s σ H xs us Q I rx q
theorem PE.cb {X : Cx} {e : Expr} {r : List V → Hp → VK → Prop} {g : OpL} {f : Fa} (h : PE X e (tCB r (tA X.K f))) (ok : CbOk X.K r g) : PE X e (tE X.K (opLE g f)) := PE.weak h fun σ H Q => wk_cb ok σ H Q
def gLen : OpL
  | [d] => match itemsOf d with
    | some l => some (.val (.int (l.length : Nat)))
    | none => none
  | _ => none
theorem gLen_ok {K : Frag} : CbOk K (fun xs H Q => ∃ p ys, xs = [V.ref p] ∧ (SqL K H p ys ∨ SqT K H p ys) ∧ Q (V.int ys.length) H) gLen := by
  intro G B F H ρ σ vs ds z Q rp rl e k
  cases rl with
  | nil => cases e
  | @cons v d vs ds h t =>
    cases t with
    | cons _ _ => cases e
    | nil =>
      have e : (match itemsOf d with
        | some l => some (Re.val (.int (l.length : Nat)))
        | none => none) = some z := e
      cases q : itemsOf d with
      | none => rw [q] at e; cases e
      | some l =>
        rw [q] at e
        cases e
        obtain ⟨p, xs, rfl, hs, rs⟩ := h.items rp.exF q
        refine ⟨p, xs, rfl, hs, k _ F H (Ex.refl F) rp ?_⟩
        rw [rs.len]
        exact .int _
def gLenS : OpL
  | [.str x] => if isLine x.length then some (.val (.int (x.length : Nat))) else none
  | _ => none
theorem RL.str {K : Frag} {F H : Hp} {v : V} {x : Str} (r : RL K F H v (.str x)) : v = .str x := by
  rcases r with r | ⟨l, _, c⟩
  · cases r; rfl
  · exact c.elim
theorem RL.int {K : Frag} {F H : Hp} {v : V} {x : Int} (r : RL K F H v (.int x)) : v = .int x := by
  rcases r with r | ⟨l, _, c⟩
  · cases r; rfl
  · exact c.elim
theorem RL.bl {K : Frag} {F H : Hp} {v : V} {x : Bool} (r : RL K F H v (.bl x)) : v = .bl x := by
  rcases r with r | ⟨l, _, c⟩
  · cases r; rfl
  · exact c.elim
theorem RLs.one {K : Frag} {F H : Hp} {vs : List V} {d : D} (r : RLs K F H vs [d]) : ∃ v, vs = [v] ∧ RL K F H v d := by
  cases r with
  | cons h t =>
    cases t
    exact ⟨_, rfl, h⟩
theorem RLs.two {K : Frag} {F H : Hp} {vs : List V} {d e : D} (r : RLs K F H vs [d, e]) : ∃ v u, vs = [v, u] ∧ RL K F H v d ∧ RL K F H u e := by
  cases r with
  | cons h t =>
    obtain ⟨u, rfl, h2⟩ := t.one
    exact ⟨_, _, rfl, h, h2⟩
theorem gLenS_ok {K : Frag} : CbOk K (fun xs H Q => ∃ z, xs = [V.str z] ∧ z.length ≤ sizeLine ∧ Q (V.int z.length) H) gLenS := by
  intro G B F H ρ σ vs ds z Q rp rl e k
  unfold gLenS at e
  split at e
  · rename_i x
    split at e
    · rename_i hl
      cases e
      obtain ⟨v, rfl, h⟩ := rl.one
      cases h.str
      exact ⟨x, rfl, of_decide_eq_true hl, k _ F H (Ex.refl F) rp (.int _)⟩
    · cases e
  · cases e
def gList : OpL
  | [d] => (itemsOf d).map fun l => .new (.lst l)
  | _ => none
theorem gList_ok {K : Frag} : CbOk K (fun xs H Q => ∃ p ys, xs = [V.ref p] ∧ (SqL K H p ys ∨ SqT K H p ys) ∧ ∀ l, H l = none → Q (V.ref l) (upd H l (.lst ys))) gList := by
  intro G B F H ρ σ vs ds z Q rp rl e k
  unfold gList at e
  split at e
  · rename_i d
    obtain ⟨l, q, rfl⟩ := Option.map_eq_some_iff.mp e
    obtain ⟨v, rfl, h⟩ := rl.one
    obtain ⟨p, xs, rfl, hs, rs⟩ := h.items rp.exF q
    refine ⟨p, xs, rfl, hs, fun l hl => ?_⟩
    obtain ⟨rp2, f, g, ne⟩ := rp.new (o := .lst xs) hl
    exact k _ F _ (Ex.refl F) rp2 ⟨l, rfl, f, g, ⟨_, upd_same, rs⟩, ne⟩
  · cases e
def gTuple : OpL
  | [d] => (itemsOf d).map fun l => .val (.tup l)
  | _ => none
theorem RL.lst {K : Frag} {F H : Hp} (e : Ex F H) {v : V} {l : List D} (r : RL K F H v (.lst l)) : ∃ p xs, v = .ref p ∧ H p = some (.lst xs) ∧ Rs K F xs l := by
  rcases r with r | ⟨p, rfl, c⟩
  · cases r with
    | lst h rs => exact ⟨_, _, rfl, e _ _ h, rs⟩
  · obtain ⟨xs, a, b⟩ := c
    exact ⟨p, xs, rfl, a, b⟩
theorem RL.rol {K : Frag} {F H : Hp} (e : Ex F H) {v : V} {l : List D} (r : RL K F H v (.rol l)) : ∃ p xs, v = .ref p ∧ SqL K H p xs ∧ Rs K F xs l := by
  rcases r with r | ⟨p, rfl, c⟩
  · cases r with
    | rol h rs => exact ⟨_, _, rfl, e.seqL h, rs⟩
  · exact c.elim
theorem RL.tup {K : Frag} {F H : Hp} (e : Ex F H) {v : V} {l : List D} (r : RL K F H v (.tup l)) : ∃ p xs, v = .ref p ∧ SqT K H p xs ∧ Rs K F xs l ∧ R K F v (.tup l) := by
  rcases r with r | ⟨p, rfl, c⟩
  · cases r with
    | tup h rs => exact ⟨_, _, rfl, e.seqT h, rs, .tup h rs⟩
  · exact c.elim
theorem gTuple_ok {K : Frag} : CbOk K (fun xs H Q => ∃ p ys, xs = [V.ref p] ∧ ((SqL K H p ys ∧ ∀ l, H l = none → Q (V.ref l) (upd H l (.tup ys))) ∨ SqT K H p ys ∧ Q (V.ref p) H)) gTuple := by
  intro G B F H ρ σ vs ds z Q rp rl e k
  unfold gTuple at e
  split at e
  · rename_i d
    obtain ⟨l, q, rfl⟩ := Option.map_eq_some_iff.mp e
    obtain ⟨v, rfl, h⟩ := rl.one
    have lst : ∀ p xs, v = .ref p → SqL K H p xs → Rs K F xs l → ∃ p ys, [v] = [V.ref p] ∧ ((SqL K H p ys ∧ ∀ l, H l = none → Q (V.ref l) (upd H l (.tup ys))) ∨ SqT K H p ys ∧ Q (V.ref p) H) := fun p xs hv hs rs => by
      subst hv
      refine ⟨p, xs, rfl, .inl ⟨hs, fun l hl => ?_⟩⟩
      obtain ⟨rp2, ex⟩ := rp.newF (o := .tup xs) hl
      exact k _ _ _ ex rp2 (.tup (SqT.of upd_same) (rs.mono ex))
    cases d with
    | tup l2 =>
      cases q
      obtain ⟨p, xs, rfl, sq, rs, rr⟩ := h.tup rp.exF
      exact ⟨p, xs, rfl, .inr ⟨sq, k _ F H (Ex.refl F) rp rr⟩⟩
    | lst l2 =>
      cases q
      obtain ⟨p, xs, e1, sq, rs⟩ := h.lst rp.exF
      exact lst p xs e1 (SqL.of sq) rs
    | rol l2 =>
      cases q
      obtain ⟨p, xs, e1, sq, rs⟩ := h.rol rp.exF
      exact lst p xs e1 sq rs
    | _ => cases q
  · cases e
def gInt : OpL
  | [.int i] => some (.val (.int i))
  | [.bl b] => some (.val (.int (if b = true then 1 else 0)))
  | _ => none
theorem gInt_ok {K : Frag} : CbOk K (fun xs H Q => (∃ i, xs = [.int i] ∧ Q (.int i) H) ∨ ∃ k, xs = [.bl k] ∧ Q (.int (if k = true then 1 else 0)) H) gInt := by
  intro G B F H ρ σ vs ds z Q rp rl e k
  unfold gInt at e
  split at e
  · rename_i i
    cases e
    obtain ⟨v, rfl, h⟩ := rl.one
    cases h.int
    exact .inl ⟨i, rfl, k _ F H (Ex.refl F) rp (.int _)⟩
  · rename_i b
    cases e
    obtain ⟨v, rfl, h⟩ := rl.one
    cases h.bl
    exact .inr ⟨b, rfl, k _ F H (Ex.refl F) rp (.int _)⟩
  · cases e
section
variable {X : Cx} {a b : Expr} {es : List Expr} {f : Fa} {fo : Fo} {f1 f2 : Fv} {pos p : Pos}
/-- a built-in by its name -/
theorem ev_blt {x : Str} {id : String} {r : List V → Hp → VK → Prop} {g : OpL} (hr : CallR X (.builtin id) r) (ok : CbOk X.K r g) (gl : Gl X x) (hm : X.mg x = none) (hv : bootBuiltins x = some (.builtin id)) (ha : PA X (a :: es) (tA X.K f)) (h1 : x ≠ Str.ofString "__name__") (h2 : (x == Str.ofString "__debug__") = false) (h3 : starEach (a :: es) X.env = (false, eval a X.env) :: starEach es X.env) (h4 : ((backTo pos (starEach es X.env)).any fun x => x.fst) = false) : PE X (.Call (.Name x p) (a :: es) [] pos) (tE X.K (opLE g f)) :=
  PE.cb (pe_callB hr gl hm hv ha h1 h2 h3 h4) ok
theorem ev_bty {x : Str} {T : String} {r : List V → Hp → VK → Prop} {g : OpL} (hr : CallR X (.type T) r) (ok : CbOk X.K r g) (gl : Gl X x) (hm : X.mg x = none) (hv : bootBuiltins x = some (.type T)) (ha : PA X (a :: es) (tA X.K f)) (h1 : x ≠ Str.ofString "__name__") (h2 : (x == Str.ofString "__debug__") = false) (h3 : starEach (a :: es) X.env = (false, eval a X.env) :: starEach es X.env) (h4 : ((backTo pos (starEach es X.env)).any fun x => x.fst) = false) : PE X (.Call (.Name x p) (a :: es) [] pos) (tE X.K (opLE g f)) :=
  PE.cb (pe_callTy hr gl hm hv ha h1 h2 h3 h4) ok
def ixE (g : D → D → Option D) (f1 : Fo) (f2 : Fv) : Fe := fun ρ => match f1 ρ with
  | some (a, ρ1) => (match f2 ρ1 with
    | some (y, ρ2) => (match lookA ρ2 a with
      | some x => (g x y).map fun d => (.val d, ρ2)
      | none => none)
    | none => none)
  | none => none
theorem ixE_inv {g : D → D → Option D} {f1 : Fo} {f2 : Fv} {ρ ρ' : EnvD} {z : Re} (h : ixE g f1 f2 ρ = some (z, ρ')) : ∃ a ρ1 y x d, f1 ρ = some (a, ρ1) ∧ f2 ρ1 = some (y, ρ') ∧ lookA ρ' a = some x ∧ g x y = some d ∧ z = .val d := by
  unfold ixE at h
  cases q1 : f1 ρ with
  | none => rw [q1] at h; cases h
  | some x1 =>
    obtain ⟨a, ρ1⟩ := x1
    rw [q1] at h
    cases q2 : f2 ρ1 with
    | none => simp only [q2] at h; cases h
    | some x2 =>
      obtain ⟨y, ρ2⟩ := x2
      simp only [q2] at h
      cases q3 : lookA ρ2 a with
      | none => rw [q3] at h; cases h
      | some x =>
        rw [q3] at h
        obtain ⟨r, e1, e2⟩ := Option.map_eq_some_iff.mp h
        cases e2
        exact ⟨a, ρ1, y, x, r, rfl, q2, q3, e1, rfl⟩
def gIx (x y : D) : Option D := match y with
  | .int i => (match itemsOf x with
    | some l => atI l i
    | none => (match x with
      | .str s => if isLine s.length then (atI s.cps.toList i).map fun c => .str ⟨#[c]⟩ else none
      | _ => none))
  | _ => none
theorem atI_Rs {K : Frag} {F : Hp} {xs : List V} {l : List D} {i : Int} {d : D} (rs : Rs K F xs l) (h : atI l i = some d) : ∃ v, atI xs i = some v ∧ R K F v d := by
  unfold atI at h ⊢
  rw [rs.len]
  cases q : ixN l.length i with
  | none => rw [q] at h; cases h
  | some j =>
    rw [q] at h
    exact rs.get h
theorem ev_ix (ha : PE X a (tO X.K fo)) (hb : PE X b (tV X.K f2)) (hs : PlainIx b) : PE X (.Subscript a b pos) (tE X.K (ixE gIx fo f2)) :=
  PE.weak (pe_ix ix_seq ha hb hs) fun σ H Q ⟨G, B, F, ρ, z, ρ', rp, ef, k⟩ => by
    obtain ⟨a, ρ1, y, x, d, q1, q2, q3, q4, rfl⟩ := ixE_inv ef
    refine ⟨G, B, F, ρ, a, ρ1, rp, q1, fun v F1 H1 e1 rp1 r1 => ?_⟩
    refine ⟨G, B, F1, ρ1, y, ρ', rp1, q2, fun u F2 H2 e2 rp2 r2 => ?_⟩
    have rl := look_ok rp2 (r1.mono e2) q3
    unfold gIx at q4
    split at q4
    · rename_i i
      cases r2
      split at q4
      · rename_i l hl
        obtain ⟨p, xs, rfl, hq, rs⟩ := rl.items rp2.exF hl
        obtain ⟨w, e3, e4⟩ := atI_Rs rs q4
        have fin := k w F2 H2 (e1.trans e2) rp2 e4
        rcases hq with hq | hq
        · exact .inl ⟨p, xs, i, w, rfl, rfl, hq, e3, fin⟩
        · exact .inr (.inl ⟨p, xs, i, w, rfl, rfl, hq, e3, fin⟩)
      · split at q4
        · split at q4
          · rename_i hl
            obtain ⟨c, e3, e4⟩ := Option.map_eq_some_iff.mp q4
            cases e4
            cases rl.str
            exact .inr (.inr ⟨_, i, c, rfl, rfl, of_decide_eq_true hl, e3, k _ F2 H2 (e1.trans e2) rp2 (.str _)⟩)
          · cases q4
        · cases q4
    · cases q4
def keyOf : D → Option Key
  | .int i => some (.inl i)
  | .str x => some (.inr x)
  | _ => none
def valD {κ : Type} [DecidableEq κ] (kvs : List (κ × D)) (k : κ) : Option D := (kvs.find? fun kv => decide (kv.1 = k)).map (·.2)
theorem keyOf_ok {K : Frag} {F : Hp} {v : V} {d : D} {k : Key} (r : R K F v d) (h : keyOf d = some k) : v = kV k := by
  cases r <;> cases h <;> rfl
theorem RKs.find {K : Frag} {F : Hp} {k : Key} : ∀ {kvs : List (Key × V)} {ds : List (Key × D)}, RKs K F kvs ds → (∀ d, valD ds k = some d → ∃ v, valV kvs k = some v ∧ R K F v d) ∧ (valD ds k = none → valV kvs k = none)
  | _, _, .nil => ⟨(fun d h => by cases h), fun _ => rfl⟩
  | _, _, .cons (k := k1) (v := v) (d := d) (vs := vs) (ds := ds) h r => by
    unfold valD valV
    rw [List.find?_cons, List.find?_cons]
    by_cases z : k1 = k
    · have : decide (k1 = k) = true := decide_eq_true z
      simp only [this]
      exact ⟨(fun d' e => by cases e; exact ⟨v, rfl, h⟩), (fun e => by cases e)⟩
    · have : decide (k1 = k) = false := decide_eq_false z
      simp only [this]
      exact r.find
def gDget (x y : D) : Option D := match x, keyOf y with
  | .dK l, some k => valD l k
  | _, _ => none
theorem RL.dK {K : Frag} {F H : Hp} (e : Ex F H) {v : V} {l : List (Key × D)} (r : RL K F H v (.dK l)) : ∃ p kvs, v = .ref p ∧ Rd H p (.dK kvs) ∧ RKs K F kvs l := by
  rcases r with r | ⟨p, rfl, c⟩
  · cases r with
    | dK h rs => exact ⟨_, _, rfl, e.rd h, rs⟩
  · obtain ⟨xs, a, b⟩ := c
    exact ⟨p, xs, rfl, .inl a, b⟩
theorem ev_dget (hu : X.A.units + 1 < cLine) (ha : PE X a (tO X.K fo)) (hb : PE X b (tV X.K f2)) (hs : NoSl b) : PE X (.Subscript a b pos) (tE X.K (ixE gDget fo f2)) :=
  PE.weak (pe_dget hu ha hb hs) fun σ H Q ⟨G, B, F, ρ, z, ρ', rp, ef, k⟩ => by
    obtain ⟨a, ρ1, y, x, d, q1, q2, q3, q4, rfl⟩ := ixE_inv ef
    refine ⟨G, B, F, ρ, a, ρ1, rp, q1, fun v F1 H1 e1 rp1 r1 => ?_⟩
    refine ⟨G, B, F1, ρ1, y, ρ', rp1, q2, fun u F2 H2 e2 rp2 r2 => ?_⟩
    have rl := look_ok rp2 (r1.mono e2) q3
    unfold gDget at q4
    split at q4
    · rename_i l kk hk
      obtain ⟨p, kvs, rfl, hd, rs⟩ := rl.dK rp2.exF
      cases keyOf_ok r2 hk
      obtain ⟨w, e3, e4⟩ := rs.find.1 d q4
      exact ⟨p, w, rfl, .inl ⟨kvs, kk, hd, rfl, e3.symm⟩, k w F2 H2 (e1.trans e2) rp2 e4⟩
    · cases q4
/-- .. d.get(k, x) -/
def dgetF (fo : Fo) (f1 f2 : Fv) : Fe := fun ρ => match fo ρ with
  | some (a, ρ1) => (match f1 ρ1 with
    | some (y, ρ2) => (match f2 ρ2 with
      | some (z, ρ3) => (match lookA ρ1 a, lookA ρ3 a, keyOf y with
        | some (.dK _), some (.dK l), some k => some (.val ((valD l k).getD z), ρ3)
        | _, _, _ => none)
      | none => none)
    | none => none)
  | none => none
theorem ev_dget2 {c : Expr} {apos : Pos} (hu : X.A.units + 1 < cLine) (ha : PE X a (tO X.K fo)) (hb : PE X b (tV X.K f1)) (hc : PE X c (tV X.K f2)) (m : M2 X a (Str.ofString "get") apos b c pos) : PE X (.Call (.Attribute a (Str.ofString "get") apos) [b, c] [] pos) (tE X.K (dgetF fo f1 f2)) :=
  PE.weak (pe_dget2 hu ha hb hc m) fun σ H Q ⟨G, B, F, ρ, z, ρ', rp, ef, k⟩ => by
    unfold dgetF at ef
    cases q1 : fo ρ with
    | none => rw [q1] at ef; cases ef
    | some x1 =>
      obtain ⟨a, ρ1⟩ := x1
      simp only [q1] at ef
      cases q2 : f1 ρ1 with
      | none => simp only [q2] at ef; cases ef
      | some x2 =>
        obtain ⟨y, ρ2⟩ := x2
        simp only [q2] at ef
        cases q3 : f2 ρ2 with
        | none => simp only [q3] at ef; cases ef
        | some x3 =>
          obtain ⟨dz, ρ3⟩ := x3
          simp only [q3] at ef
          split at ef
          · rename_i l0 l kk h1 h2 h3
            cases ef
            refine ⟨G, B, F, ρ, a, ρ1, rp, q1, fun v F1 H1 e1 rp1 r1 => ?_⟩
            obtain ⟨p, kvs0, rfl, hd0, _⟩ := (look_ok rp1 r1 h1).dK rp1.exF
            refine ⟨p, rfl, .inl ⟨kvs0, hd0⟩, G, B, F1, ρ1, y, ρ2, rp1, q2, fun u F2 H2 e2 rp2 r2 => ?_⟩
            refine ⟨G, B, F2, ρ2, dz, _, rp2, q3, fun w F3 H3 e3 rp3 r3 => ?_⟩
            obtain ⟨p2, kvs, e4, hd, rs⟩ := (look_ok rp3 ((r1.mono e2).mono e3) h2).dK rp3.exF
            cases e4
            cases keyOf_ok (r2.mono e3) h3
            refine ⟨valV kvs kk, .inl ⟨kvs, kk, hd, rfl, rfl⟩, k _ F3 H3 ((e1.trans e2).trans e3) rp3 ?_⟩
            cases q5 : valD l kk with
            | none =>
              rw [rs.find.2 q5]
              exact r3
            | some d =>
              obtain ⟨w2, e6, e7⟩ := rs.find.1 d q5
              rw [e6]
              exact e7
          · cases ef
end
end Ev
/-! Ev10 -/
namespace Ev
open PySem PySem.Spec PyProof.Rows L2
variable [Tabs]
def setC (ρ : EnvD) (k : Nat) (c : D) : EnvD := match ρ[k]? with
  | some (.own _) => ρ.set k (.own c)
  | some (.ref _) => ρ.set k (.ref c)
  | _ => ρ
theorem cell_set_ref {ρ : EnvD} {i j : Nat} {d : D} : cellOf (ρ.set i (.ref d)) j = if i = j ∧ i < ρ.length then some d else cellOf ρ j := by
  unfold cellOf
  rw [List.getElem?_set]
  by_cases h : i = j
  · subst h
    by_cases h2 : i < ρ.length
    · simp [h2]
    · simp [h2]
  · simp [h]
theorem cell_setC {ρ : EnvD} {k j : Nat} {c d : D} (hk : cellOf ρ k = some d) : cellOf (setC ρ k c) j = if k = j then some c else cellOf ρ j := by
  have hl := cell_lt hk
  unfold cellOf at hk
  unfold setC
  cases q : ρ[k]? with
  | none => rw [q] at hk; cases hk
  | some s =>
    rw [q] at hk
    cases s with
    | none => cases hk
    | val _ => cases hk
    | own e =>
      show cellOf (ρ.set k (.own c)) j = _
      rw [cell_set_own]
      by_cases z : k = j
      · rw [if_pos ⟨z, hl⟩, if_pos z]
      · rw [if_neg (fun h => z h.1), if_neg z]
    | ref e =>
      show cellOf (ρ.set k (.ref c)) j = _
      rw [cell_set_ref]
      by_cases z : k = j
      · rw [if_pos ⟨z, hl⟩, if_pos z]
      · rw [if_neg (fun h => z h.1), if_neg z]
theorem setC_length {ρ : EnvD} {k : Nat} {c : D} : (setC ρ k c).length = ρ.length := by
  unfold setC
  split
  · exact List.length_set
  · exact List.length_set
  · rfl
theorem setC_val {ρ : EnvD} {k j : Nat} {c d : D} (h : (setC ρ k c)[j]? = some (.val d)) : ρ[j]? = some (.val d) := by
  unfold setC at h
  split at h
  · by_cases z : k = j
    · subst z
      rw [List.getElem?_set, if_pos rfl] at h
      split at h <;> cases h
    · rw [set_ne z] at h
      exact h
  · by_cases z : k = j
    · subst z
      rw [List.getElem?_set, if_pos rfl] at h
      split at h <;> cases h
    · rw [set_ne z] at h
      exact h
  · exact h
section
variable {K : Frag} {G : Hp} {B : List (Nat × Addr)} {F F' H H' : Hp} {ρ ρ' : EnvD} {σ : L2.St}
theorem Rep.store {k : Nat} {l : Addr} {c c' : D} {o : HO} (p : Rep K G B F H ρ σ) (hc : cellOf ρ k = some c) (hs : σ[k]? = some (some (.ref l))) (hn : Cell K F (upd H l o) l c') : Rep K G B F (upd H l o) (setC ρ k c') σ := by
  obtain ⟨l2, a1, a2, a3, a4⟩ := p.own k c hc
  rw [hs] at a1
  cases a1
  refine ⟨by rw [setC_length]; exact p.len, fun a u q => ?_, fun a u q => ?_, p.dis, fun j d q => p.val j d (setC_val q), fun j d q => ?_, fun i j d e m q1 q2 s1 s2 => ?_, fun j m q => ?_, fun P hP => ⟨?_, (p.tab P hP).2⟩⟩
  rotate_left 5
  · obtain ⟨o2, ho, hT⟩ := a4.obj
    obtain ⟨ps, e1, e2⟩ := (p.tab P hP).1
    exact ⟨ps, by rw [upd_ne (tab_ne (p.tab P hP).1 ho hT)]; exact e1, e2⟩
  · have ne : a ≠ l := fun z => by
      subst z
      rw [a2] at q
      cases q
    rw [upd_ne ne]
    exact p.exF a u q
  · have ne : a ≠ l := fun z => by
      subst z
      rw [a3] at q
      cases q
    rw [upd_ne ne]
    exact p.exG a u q
  · rw [cell_setC hc] at q
    split at q
    · rename_i z
      subst z
      cases q
      exact ⟨l, hs, a2, a3, hn⟩
    · rename_i z
      obtain ⟨m, b1, b2, b3, b4⟩ := p.own j d q
      have ne : m ≠ l := fun y => by
        subst y
        exact z (p.sep k j c d m hc q hs b1)
      exact ⟨m, b1, b2, b3, b4.mono (Ex.refl F) (by rw [upd_ne ne])⟩
  · have f : ∀ (x : Nat) (y : D), cellOf (setC ρ k c') x = some y → ∃ y', cellOf ρ x = some y' := fun x y h => by
      rw [cell_setC hc] at h
      split at h
      · rename_i z
        subst z
        exact ⟨c, hc⟩
      · exact ⟨y, h⟩
    obtain ⟨d', h1⟩ := f i d q1
    obtain ⟨e', h2⟩ := f j e q2
    exact p.sep i j d' e' m h1 h2 s1 s2
  · obtain ⟨⟨d, a⟩, b⟩ := p.bor j m q
    refine ⟨?_, b⟩
    by_cases z : k = j
    · subst z
      refine ⟨c', ?_⟩
      unfold setC
      rw [a]
      exact set_at (List.getElem?_eq_some_iff.mp a).1
    · refine ⟨d, ?_⟩
      unfold setC
      split
      · rw [set_ne z]; exact a
      · rw [set_ne z]; exact a
      · exact a
end
def setItF (g : D → D → D → Option D) (k : Nat) (fe fi : Fv) : Fs := fun ρ => match fe ρ with
  | some (d, ρ1) => (match cellOf ρ1 k, fi ρ1 with
    | some _, some (y, ρ2) => (match cellOf ρ2 k with
      | some c => (g c y d).map fun c' => .nx (setC ρ2 k c')
      | none => none)
    | _, _ => none)
  | none => none
theorem setItF_inv {g : D → D → D → Option D} {k : Nat} {fe fi : Fv} {ρ : EnvD} {o : Out} (h : setItF g k fe fi ρ = some o) : ∃ d ρ1 c0 y ρ2 c c', fe ρ = some (d, ρ1) ∧ cellOf ρ1 k = some c0 ∧ fi ρ1 = some (y, ρ2) ∧ cellOf ρ2 k = some c ∧ g c y d = some c' ∧ o = .nx (setC ρ2 k c') := by
  unfold setItF at h
  cases q1 : fe ρ with
  | none => rw [q1] at h; cases h
  | some x1 =>
    obtain ⟨d, ρ1⟩ := x1
    rw [q1] at h
    cases q2 : cellOf ρ1 k with
    | none => simp only [q2] at h; cases h
    | some c0 =>
      cases q3 : fi ρ1 with
      | none => simp only [q2, q3] at h; cases h
      | some x2 =>
        obtain ⟨y, ρ2⟩ := x2
        simp only [q2, q3] at h
        cases q4 : cellOf ρ2 k with
        | none => simp only [q4] at h; cases h
        | some c =>
          simp only [q4] at h
          obtain ⟨c', e1, e2⟩ := Option.map_eq_some_iff.mp h
          exact ⟨d, ρ1, c0, y, ρ2, c, c', rfl, q2, q3, q4, e1, e2.symm⟩
/-- of a list -/
def gSetL (c y d : D) : Option D := match c, y with
  | .lst l, .int i => (ixN l.length i).map fun j => .lst (l.set j d)
  | _, _ => none
/-- of a dict by whole numbers and texts -/
def putD {κ : Type} [DecidableEq κ] (kvs : List (κ × D)) (k : κ) (v : D) : List (κ × D) :=
  if (kvs.any fun kv => decide (kv.1 = k)) = true then kvs.map (fun kv => if kv.1 = k then (kv.1, v) else kv) else kvs ++ [(k, v)]
def gPutK (c y d : D) : Option D := match c, keyOf y with
  | .dK l, some k => if decide (l.length < sizeLine) then some (.dK (putD l k d)) else none
  | _, _ => none
theorem RKs.any {K : Frag} {F : Hp} {k : Key} : ∀ {kvs : List (Key × V)} {ds : List (Key × D)}, RKs K F kvs ds → (kvs.any fun kv => decide (kv.1 = k)) = (ds.any fun kv => decide (kv.1 = k))
  | _, _, .nil => rfl
  | _, _, .cons h r => by
    rw [List.any_cons, List.any_cons, r.any]
theorem RKs.app {K : Frag} {F : Hp} : ∀ {kvs kvs2 : List (Key × V)} {ds ds2 : List (Key × D)}, RKs K F kvs ds → RKs K F kvs2 ds2 → RKs K F (kvs ++ kvs2) (ds ++ ds2)
  | _, _, _, _, .nil, t => t
  | _, _, _, _, .cons h r, t => .cons h (r.app t)
theorem RKs.map {K : Frag} {F : Hp} {k : Key} {v : V} {d : D} (hv : R K F v d) : ∀ {kvs : List (Key × V)} {ds : List (Key × D)}, RKs K F kvs ds → RKs K F (kvs.map fun kv => if kv.1 = k then (kv.1, v) else kv) (ds.map fun kv => if kv.1 = k then (kv.1, d) else kv)
  | _, _, .nil => .nil
  | _, _, .cons (k := k1) h r => by
    rw [List.map_cons, List.map_cons]
    by_cases z : k1 = k
    · rw [if_pos z, if_pos z]
      exact .cons hv (RKs.map hv r)
    · rw [if_neg z, if_neg z]
      exact .cons h (RKs.map hv r)
theorem RKs.put {K : Frag} {F : Hp} {k : Key} {v : V} {d : D} {kvs : List (Key × V)} {ds : List (Key × D)} (hv : R K F v d) (r : RKs K F kvs ds) : RKs K F (putK kvs k v) (putD ds k d) := by
  unfold putK putD
  rw [r.any]
  split
  · exact r.map hv
  · exact r.app (.cons hv .nil)
section
variable {X : Cx} {a b c e : Expr} {f1 f2 fe fi : Fv} {pos pos' pos2 : Pos} {x : Str} {k : Nat}
theorem Rep.cellAt {K : Frag} {G : Hp} {B : List (Nat × Addr)} {F H : Hp} {ρ : EnvD} {σ : L2.St} (p : Rep K G B F H ρ σ) {i : Nat} {d : D} {l : Addr} (h : cellOf ρ i = some d) (hs : σ[i]? = some (some (.ref l))) : F l = none ∧ G l = none ∧ Cell K F H l d := by
  obtain ⟨m, a, b, c, d2⟩ := p.own i d h
  rw [hs] at a
  cases a
  exact ⟨b, c, d2⟩
theorem es_setL (hN : X.N[k]? = some x) (hv : Vis X.env.scope x) (hd : (x == ("__debug__" : Str)) = false) (hcd : (x == ("__classdict__" : Str)) = false) (he : PE X e (tV X.K fe)) (hi : PE X b (tV X.K fi))
    (ha : ∀ v : Value, assign (Expr.Subscript (.Name x pos') b pos2) X.env v = do
      let ov ← holding [v] (eval (.Name x pos') X.env)
      let iv ← holding [v, ov] (eval b X.env)
      standAt pos2
      holding [v, ov, iv] (setItem ov iv v)
      release [v, ov, iv] [])
    (h1 : swapsWithSole [Expr.Subscript (.Name x pos') b pos2] e pos.line X.env = pure false) (h2 : swappedStores [Expr.Subscript (.Name x pos') b pos2] e X.env = pure none) (h3 : List.map (fun x => x.snd) (assignEach [Expr.Subscript (.Name x pos') b pos2] X.env) = [assign (Expr.Subscript (.Name x pos') b pos2) X.env]) :
    PS X (.Assign [.Subscript (.Name x pos') b pos2] e pos) (tS X.K (setItF gSetL k fe fi)) :=
  PS.weak (ps_asg he (pg_sub (pe_var (i := k) hN hv hd hcd) hi set_list ha) h1 h2 h3) fun D σ H ⟨G, B, F, ρ, o, rp, ef, z⟩ => by
    obtain ⟨d, ρ1, c0, y, ρ2, c, c', q1, q2, q3, q4, q5, rfl⟩ := setItF_inv ef
    refine ⟨G, B, F, ρ, d, ρ1, rp, q1, fun v F1 H1 e1 rp1 r1 => ?_⟩
    obtain ⟨l, a1, a2, a3, a4⟩ := rp1.own k c0 q2
    refine ⟨.ref l, a1, G, B, F1, ρ1, y, ρ2, rp1, q3, fun u F2 H2 e2 rp2 r2 => ?_⟩
    obtain ⟨b2, b3, b4⟩ := rp2.cellAt q4 a1
    unfold gSetL at q5
    split at q5
    · rename_i ls i
      obtain ⟨j, e3, e4⟩ := Option.map_eq_some_iff.mp q5
      subst e4
      cases r2
      obtain ⟨xs, c1, c2⟩ := b4
      refine ⟨l, xs, i, j, rfl, rfl, c1, by rw [c2.len]; exact e3, ?_⟩
      exact z σ F2 _ (e1.trans e2) (rp2.store q4 a1 ⟨_, upd_same, c2.set j (r1.mono e2)⟩)
    · cases q5
theorem es_putK (hu : X.A.units + 1 < cLine) (hN : X.N[k]? = some x) (hv : Vis X.env.scope x) (hd : (x == ("__debug__" : Str)) = false) (hcd : (x == ("__classdict__" : Str)) = false) (he : PE X e (tV X.K fe)) (hi : PE X b (tV X.K fi))
    (h1 : swapsWith e (some (Expr.Subscript (.Name x pos') b pos2)) pos.line X.env = pure false) :
    PS X (.Assign [.Subscript (.Name x pos') b pos2] e pos) (tS X.K (setItF gPutK k fe fi)) :=
  PS.weak (ps_dput hu (pe_var (i := k) hN hv hd hcd) hi he h1) fun D σ H ⟨G, B, F, ρ, o, rp, ef, z⟩ => by
    obtain ⟨d, ρ1, c0, y, ρ2, c, c', q1, q2, q3, q4, q5, rfl⟩ := setItF_inv ef
    refine ⟨G, B, F, ρ, d, ρ1, rp, q1, fun v F1 H1 e1 rp1 r1 => ?_⟩
    obtain ⟨l, a1, a2, a3, a4⟩ := rp1.own k c0 q2
    refine ⟨.ref l, a1, G, B, F1, ρ1, y, ρ2, rp1, q3, fun u F2 H2 e2 rp2 r2 => ?_⟩
    obtain ⟨b2, b3, b4⟩ := rp2.cellAt q4 a1
    unfold gPutK at q5
    split at q5
    · rename_i ls kk hk
      split at q5
      · rename_i hlt
        cases q5
        cases keyOf_ok r2 hk
        obtain ⟨kvs, c1, c2⟩ := b4
        refine ⟨l, _, rfl, .inl ⟨kvs, kk, c1, rfl, by rw [c2.len]; exact of_decide_eq_true hlt, rfl⟩, ?_⟩
        exact z σ F2 _ (e1.trans e2) (rp2.store q4 a1 ⟨_, upd_same, c2.put (r1.mono e2)⟩)
      · cases q5
    · cases q5
end
abbrev MutD := D → List D → Option (D × D)
def MutOk (K : Frag) (r : V → List V → Hp → VK → Prop) (g : MutD) : Prop := ∀ (F H : Hp) (l : Addr) (c : D) (vs : List V) (ds : List D) (res c' : D) (Q : VK), Cell K F H l c → Rs K F vs ds → g c ds = some (res, c') →
  (∀ w o', Cell K F (upd H l o') l c' → R K F w res → Q w (upd H l o')) → r (.ref l) vs H Q
def kindC (T : String) : D → Bool
  | .lst _ => T == "list"
  | .dK _ => T == "dict"
  | .dT _ => T == "dict"
  | _ => false
theorem kindC_ok {K : Frag} {F H : Hp} {T : String} {c : D} {l : Addr} (h : kindC T c = true) (q : Cell K F H l c) : tyV K T (.ref l) H := by
  cases c with
  | lst d => obtain ⟨xs, a, _⟩ := q; exact .inl ⟨eq_of_beq h, xs, SqL.of a⟩
  | dK d => obtain ⟨xs, a, _⟩ := q; exact .inr (.inr (.inl ⟨eq_of_beq h, .inl ⟨xs, a⟩⟩))
  | dT d => obtain ⟨xs, a, _⟩ := q; exact .inr (.inr (.inl ⟨eq_of_beq h, .inr ⟨xs, a⟩⟩))
  | _ => exact q.elim
def mutE (T : String) (g : MutD) (k : Nat) (fl : Fl) : Fe := fun ρ => match cellOf ρ k with
  | some c0 => if kindC T c0 then (match fl ρ with
    | some (ds, ρ1) => (match cellOf ρ1 k with
      | some c => (g c ds).map fun x => (.val x.1, setC ρ1 k x.2)
      | none => none)
    | none => none) else none
  | none => none
theorem mutE_inv {T : String} {g : MutD} {k : Nat} {fl : Fl} {ρ ρ' : EnvD} {z : Re} (h : mutE T g k fl ρ = some (z, ρ')) : ∃ c0 ds ρ1 c res c', cellOf ρ k = some c0 ∧ kindC T c0 = true ∧ fl ρ = some (ds, ρ1) ∧ cellOf ρ1 k = some c ∧ g c ds = some (res, c') ∧ z = .val res ∧ ρ' = setC ρ1 k c' := by
  unfold mutE at h
  cases q1 : cellOf ρ k with
  | none => rw [q1] at h; cases h
  | some c0 =>
    rw [q1] at h
    simp only at h
    split at h
    · rename_i hk
      cases q2 : fl ρ with
      | none => rw [q2] at h; cases h
      | some x1 =>
        obtain ⟨ds, ρ1⟩ := x1
        rw [q2] at h
        simp only at h
        cases q3 : cellOf ρ1 k with
        | none => rw [q3] at h; cases h
        | some c =>
          rw [q3] at h
          obtain ⟨y, e1, e2⟩ := Option.map_eq_some_iff.mp h
          obtain ⟨res, c'⟩ := y
          cases e2
          exact ⟨c0, ds, ρ1, c, res, c', rfl, hk, rfl, q3, e1, rfl, rfl⟩
    · cases h
section
variable {X : Cx} {e : Expr} {es : List Expr} {fl : Fl} {pos apos cpos : Pos} {x name : Str} {k : Nat} {T id : String} {r : V → List V → Hp → VK → Prop} {g : MutD}
theorem ev_mut (hN : X.N[k]? = some x) (hv : Vis X.env.scope x) (hd : (x == ("__debug__" : Str)) = false) (hcd : (x == ("__classdict__" : Str)) = false) (p1 : PlainAttrs T) (p2 : Slot T name id) (p3 : typeOf (.builtin id) = pure (.type "method_descriptor")) (hm : MtR X id r) (ok : MutOk X.K r g) (ha : PA X (e :: es) (tL X.K fl))
    (h1 : attributeBase (.Name x pos) name X.env (eval (.Name x pos) X.env) = eval (.Name x pos) X.env)
    (h2 : (((backTo cpos (starEach (e :: es) X.env)).all fun x => !x.fst) && (backToKw cpos (keywordEach [] X.env)).all fun x => x.fst.isSome) && decide (((e :: es).length + ([] : List Keyword).length + if ([] : List Keyword).isEmpty = true then 0 else 1) < 30))
    (h3 : (apos.endLine == cpos.line) = true) (h4 : starEach (e :: es) X.env = (false, eval e X.env) :: starEach es X.env) (h5 : ((backTo cpos (starEach es X.env)).any fun x => x.fst) = false) :
    PE X (.Call (.Attribute (.Name x pos) name apos) (e :: es) [] cpos) (tE X.K (mutE T g k fl)) :=
  PE.weak (pe_bm p1 p2 p3 hm (pe_var (i := k) hN hv hd hcd) ha h1 h2 h3 h4 h5) fun σ H Q ⟨G, B, F, ρ, z, ρ', rp, ef, kk⟩ => by
    obtain ⟨c0, ds, ρ1, c, res, c', q1, q2, q3, q4, q5, rfl, rfl⟩ := mutE_inv ef
    obtain ⟨l, a1, a2, a3, a4⟩ := rp.own k c0 q1
    refine ⟨.ref l, a1, kindC_ok q2 a4, G, B, F, ρ, ds, ρ1, rp, q3, fun vs F1 H1 e1 rp1 r1 => ?_⟩
    obtain ⟨b2, b3, b4⟩ := rp1.cellAt q4 a1
    exact ok F1 H1 l c vs ds res c' Q b4 r1 q5 fun w o' hc hr => kk w F1 _ e1 (rp1.store q4 a1 hc) hr
theorem ev_mut0 (hN : X.N[k]? = some x) (hv : Vis X.env.scope x) (hd : (x == ("__debug__" : Str)) = false) (hcd : (x == ("__classdict__" : Str)) = false) (p1 : PlainAttrs T) (p2 : Slot T name id) (p3 : typeOf (.builtin id) = pure (.type "method_descriptor")) (hm : MtR X id r) (ok : MutOk X.K r g)
    (h1 : attributeBase (.Name x pos) name X.env (eval (.Name x pos) X.env) = eval (.Name x pos) X.env) (h3 : (apos.endLine == cpos.line) = true) :
    PE X (.Call (.Attribute (.Name x pos) name apos) [] [] cpos) (tE X.K (mutE T g k nilF)) :=
  PE.weak (pe_bm0 p1 p2 p3 hm (pe_var (i := k) hN hv hd hcd) h1 h3) fun σ H Q ⟨G, B, F, ρ, z, ρ', rp, ef, kk⟩ => by
    obtain ⟨c0, ds, ρ1, c, res, c', q1, q2, q3, q4, q5, rfl, rfl⟩ := mutE_inv ef
    cases q3
    obtain ⟨l, a1, a2, a3, a4⟩ := rp.own k c0 q1
    obtain ⟨b2, b3, b4⟩ := rp.cellAt q4 a1
    exact ⟨.ref l, a1, kindC_ok q2 a4, ok F H l c [] [] res c' Q b4 .nil q5 fun w o' hc hr => kk w F _ (Ex.refl F) (rp.store q4 a1 hc) hr⟩
end
def gAppend : MutD
  | .lst l, [d] => if decide (l.length < sizeLine) then some (.non, .lst (l ++ [d])) else none
  | _, _ => none
theorem gAppend_ok {K : Frag} : MutOk K rAppend gAppend := by
  intro F H l c vs ds res c' Q hc hr e k
  unfold gAppend at e
  split at e
  · split at e
    · rename_i hl
      cases e
      obtain ⟨xs, a, b⟩ := hc
      cases hr with
      | cons h1 t =>
        cases t
        exact ⟨l, xs, _, rfl, rfl, a, by rw [b.len]; exact of_decide_eq_true hl, k _ _ ⟨_, upd_same, b.app (Rs.one h1)⟩ .non⟩
    · cases e
  · cases e
def gClear : MutD
  | .lst _, [] => some (.non, .lst [])
  | _, _ => none
theorem gClear_ok {K : Frag} : MutOk K rClear gClear := by
  intro F H l c vs ds res c' Q hc hr e k
  unfold gClear at e
  split at e
  · cases e
    obtain ⟨xs, a, b⟩ := hc
    cases hr
    exact ⟨l, xs, rfl, rfl, a, k _ _ ⟨_, upd_same, .nil⟩ .non⟩
  · cases e
def gPop : MutD
  | .lst l, [] => match l[l.length - 1]? with
    | some d => some (d, .lst l.dropLast)
    | none => none
  | _, _ => none
theorem Rs.dropLast {K : Frag} {F : Hp} {vs : List V} {ds : List D} (r : Rs K F vs ds) : Rs K F vs.dropLast ds.dropLast := by
  rw [List.dropLast_eq_take, List.dropLast_eq_take, r.len]
  exact r.take _
theorem gPop_ok {K : Frag} : MutOk K rPop gPop := by
  intro F H l c vs ds res c' Q hc hr e k
  unfold gPop at e
  split at e
  · split at e
    · rename_i d hd
      cases e
      obtain ⟨xs, a, b⟩ := hc
      cases hr
      obtain ⟨w, e1, e2⟩ := b.get hd
      exact ⟨l, xs, w, rfl, rfl, a, by rw [b.len]; exact e1, k _ _ ⟨_, upd_same, b.dropLast⟩ e2⟩
    · cases e
  · cases e
def tyN : D → String
  | .non => "NoneType"
  | .bl _ => "bool"
  | .int _ => "int"
  | .str _ => "str"
  | .lst _ => "list"
  | .rol _ => "list"
  | .tup _ => "tuple"
  | .dK _ => "dict"
  | .dT _ => "dict"
theorem SqL.ty {K : Frag} {H : Hp} {p : Addr} {xs : List V} (h : SqL K H p xs) : TyX K H (.ref p) (.type "list") := by
  rcases h with (h | ⟨o, h⟩) | ⟨o, its, n, h1, h2, _⟩
  · exact .base (.lst h)
  · exact .base (.frz h)
  · exact .kList h1 h2
theorem SqT.ty {K : Frag} {H : Hp} {p : Addr} {xs : List V} (h : SqT K H p xs) : TyX K H (.ref p) (.type "tuple") := by
  rcases h with (h | ⟨o, h⟩) | ⟨o, its, n, h1, h2, _⟩
  · exact .base (.tup h)
  · exact .fTuple h
  · exact .kTuple h1 h2
theorem tyN_ok {K : Frag} {F H : Hp} (e : Ex F H) {v : V} {d : D} (r : RL K F H v d) : TyX K H v (.type (tyN d)) := by
  rcases r with r | ⟨p, rfl, c⟩
  · cases r with
    | non => exact .base .non
    | bl b => exact .base (.bl b)
    | int i => exact .base (.int i)
    | str x => exact .base (.str x)
    | lst h _ => exact .base (.lst (e _ _ h))
    | rol h _ => exact SqL.ty (e.seqL h)
    | tup h _ => exact SqT.ty (e.seqT h)
    | dK h _ =>
      rcases e.rd h with h | ⟨o, h⟩
      · exact .base (.dK h)
      · exact .fDict h
    | dT h _ => exact .base (.dT (e _ _ h))
  · cases d with
    | lst _ => obtain ⟨xs, a, _⟩ := c; exact .base (.lst a)
    | dK _ => obtain ⟨xs, a, _⟩ := c; exact .base (.dK a)
    | dT _ => obtain ⟨xs, a, _⟩ := c; exact .base (.dT a)
    | _ => exact c.elim
def isiE (T : String) (fo : Fo) : Fe := fun ρ => match fo ρ with
  | some (a, ρ1) => (match lookA ρ1 a with
    | some d => (match kitB (tyN d) T with
      | some b => some (.val (.bl b), ρ1)
      | none => none)
    | none => none)
  | none => none
section
variable {X : Cx} {a : Expr} {fo : Fo} {pos p p2 : Pos} {x : Str}
theorem ev_isi {T : String} (ha : PE X a (tO X.K fo)) (gl : Gl X (Str.ofString "isinstance")) (hm : X.mg (Str.ofString "isinstance") = none) (hv : bootBuiltins (Str.ofString "isinstance") = some (.builtin "isinstance")) (glt : Gl X x) (hmt : X.mg x = none) (hvt : bootBuiltins x = some (.type T)) (hn : x ≠ Str.ofString "__name__") (hdb : (x == Str.ofString "__debug__") = false)
    (h3 : starEach [a, .Name x p2] X.env = (false, eval a X.env) :: starEach [.Name x p2] X.env) (h4 : ((backTo pos (starEach [.Name x p2] X.env)).any fun x => x.fst) = false) (h5 : starEach [Expr.Name x p2] X.env = (false, eval (Expr.Name x p2) X.env) :: starEach [] X.env) :
    PE X (.Call (.Name (Str.ofString "isinstance") p) [a, .Name x p2] [] pos) (tE X.K (isiE T fo)) :=
  PE.weak (pe_callB call_isi gl hm hv (pa_cons ha (pa_cons (pe_bltn (v := .ty T) glt hmt hvt (by exact rfl) hn hdb) pa_nil h5) h3) (by decide) (by decide) h3 h4) fun σ H Q ⟨G, B, F, ρ, z, ρ', rp, ef, k⟩ => by
    unfold isiE at ef
    cases q1 : fo ρ with
    | none => rw [q1] at ef; cases ef
    | some x1 =>
      obtain ⟨a, ρ1⟩ := x1
      rw [q1] at ef
      simp only at ef
      cases q2 : lookA ρ1 a with
      | none => rw [q2] at ef; cases ef
      | some d =>
        rw [q2] at ef
        simp only at ef
        cases q3 : kitB (tyN d) T with
        | none => rw [q3] at ef; cases ef
        | some b =>
          rw [q3] at ef
          cases ef
          refine ⟨G, B, F, ρ, a, _, rp, q1, fun v F1 H1 e1 rp1 r1 => ?_⟩
          exact ⟨v, .ty T, .type (tyN d), .type T, b, rfl, .ty T, tyN_ok rp1.exF (look_ok rp1 r1 q2), kit_ty q3, k _ F1 H1 e1 rp1 (.bl b)⟩
end
end Ev
/-! Ev11 -/
namespace Ev
open PySem PySem.Spec PyProof.Rows L2
variable [Tabs]
def kindT (T : String) : D → Bool
  | .str _ => T == "str"
  | .int _ => T == "int"
  | .lst _ => T == "list"
  | .rol _ => T == "list"
  | _ => false
theorem kindT_ok {K : Frag} {F H : Hp} (e : Ex F H) {T : String} {d : D} {v : V} (h : kindT T d = true) (r : RL K F H v d) : tyV K T v H := by
  cases d with
  | str x => cases r.str; exact eq_of_beq h
  | int x => cases r.int; exact eq_of_beq h
  | lst l => obtain ⟨p, xs, rfl, a, _⟩ := r.lst e; exact .inl ⟨eq_of_beq h, xs, SqL.of a⟩
  | rol l => obtain ⟨p, xs, rfl, a, _⟩ := r.rol e; exact .inl ⟨eq_of_beq h, xs, a⟩
  | _ => cases h
/-- o.m(args), o only looked at -/
def methE (T : String) (g : OpL) (fo : Fo) (fa : Fa) : Fe := fun ρ => match fo ρ with
  | some (a, ρ1) => (match lookA ρ1 a with
    | some d0 => if kindT T d0 then (match fa ρ1 with
      | some (as, ρ2) => (match lookAs ρ2 (a :: as) with
        | some ds => (g ds).map fun r => (r, ρ2)
        | none => none)
      | none => none) else none
    | none => none)
  | none => none
theorem methE_inv {T : String} {g : OpL} {fo : Fo} {fa : Fa} {ρ ρ' : EnvD} {z : Re} (h : methE T g fo fa ρ = some (z, ρ')) : ∃ a ρ1 d0 as ds, fo ρ = some (a, ρ1) ∧ lookA ρ1 a = some d0 ∧ kindT T d0 = true ∧ fa ρ1 = some (as, ρ') ∧ lookAs ρ' (a :: as) = some ds ∧ g ds = some z := by
  unfold methE at h
  cases q1 : fo ρ with
  | none => rw [q1] at h; cases h
  | some x1 =>
    obtain ⟨a, ρ1⟩ := x1
    rw [q1] at h
    simp only at h
    cases q2 : lookA ρ1 a with
    | none => rw [q2] at h; cases h
    | some d0 =>
      rw [q2] at h
      simp only at h
      split at h
      · rename_i hk
        cases q3 : fa ρ1 with
        | none => rw [q3] at h; cases h
        | some x2 =>
          obtain ⟨as, ρ2⟩ := x2
          rw [q3] at h
          simp only at h
          cases q4 : lookAs ρ2 (a :: as) with
          | none => rw [q4] at h; cases h
          | some ds =>
            rw [q4] at h
            obtain ⟨y, e1, e2⟩ := Option.map_eq_some_iff.mp h
            cases e2
            exact ⟨a, ρ1, d0, as, ds, rfl, q2, hk, q3, q4, e1⟩
      · cases h
/-- a method's rule as one of a list of values -/
def asCb (r : V → List V → Hp → VK → Prop) : List V → Hp → VK → Prop
  | [] => fun _ _ => False
  | x :: xs => r x xs
section
variable {X : Cx} {o e : Expr} {es : List Expr} {fo : Fo} {fa : Fa} {pos apos cpos : Pos} {name : Str} {T id : String} {r : V → List V → Hp → VK → Prop} {g : OpL}
theorem ev_meth (ho : PE X o (tO X.K fo)) (p1 : PlainAttrs T) (p2 : Slot T name id) (p3 : typeOf (.builtin id) = pure (.type "method_descriptor")) (hm : MtR X id r) (ok : CbOk X.K (asCb r) g) (ha : PA X (e :: es) (tA X.K fa))
    (h1 : attributeBase o name X.env (eval o X.env) = eval o X.env)
    (h2 : (((backTo cpos (starEach (e :: es) X.env)).all fun x => !x.fst) && (backToKw cpos (keywordEach [] X.env)).all fun x => x.fst.isSome) && decide (((e :: es).length + ([] : List Keyword).length + if ([] : List Keyword).isEmpty = true then 0 else 1) < 30))
    (h3 : (apos.endLine == cpos.line) = true) (h4 : starEach (e :: es) X.env = (false, eval e X.env) :: starEach es X.env) (h5 : ((backTo cpos (starEach es X.env)).any fun x => x.fst) = false) :
    PE X (.Call (.Attribute o name apos) (e :: es) [] cpos) (tE X.K (methE T g fo fa)) :=
  PE.weak (pe_bm p1 p2 p3 hm ho ha h1 h2 h3 h4 h5) fun σ H Q ⟨G, B, F, ρ, z, ρ', rp, ef, kk⟩ => by
    obtain ⟨a, ρ1, d0, as, ds, q1, q2, q3, q4, q5, q6⟩ := methE_inv ef
    refine ⟨G, B, F, ρ, a, ρ1, rp, q1, fun v F1 H1 e1 rp1 r1 => ⟨kindT_ok rp1.exF q3 (look_ok rp1 r1 q2), ?_⟩⟩
    refine ⟨G, B, F1, ρ1, as, ρ', rp1, q4, fun vs F2 H2 e2 rp2 r2 => ?_⟩
    exact ok G B F2 H2 ρ' σ (v :: vs) ds z Q rp2 (looks_ok rp2 (.cons (r1.mono e2) r2) q5) q6 fun w F3 H3 e3 rp3 rr => kk w F3 H3 ((e1.trans e2).trans e3) rp3 rr
end
def gSplit : OpL
  | [.str a, .str b] => if (b.length == 0) = false ∧ a.length + 2 ≤ sizeLine then some (.new (.lst ((Txt.split a b).map D.str))) else none
  | _ => none
theorem gSplit_ok {K : Frag} : CbOk K (asCb fun x xs H Q => ∃ a b, x = .str a ∧ xs = [.str b] ∧ (b.length == 0) = false ∧ a.length + 2 ≤ sizeLine ∧ rNewStrs (Txt.split a b) H Q) gSplit := by
  intro G B F H ρ σ vs ds z Q rp rl e k
  unfold gSplit at e
  split at e
  · rename_i a b
    split at e
    · rename_i hc
      cases e
      obtain ⟨v, u, rfl, h1, h2⟩ := rl.two
      cases h1.str
      cases h2.str
      refine ⟨a, b, rfl, rfl, hc.1, hc.2, fun p hp => ?_⟩
      obtain ⟨rp2, f, g, ne⟩ := rp.new (o := .lst ((Txt.split a b).map V.str)) hp
      exact k _ F _ (Ex.refl F) rp2 ⟨p, rfl, f, g, ⟨_, upd_same, Rs.strs⟩, ne⟩
    · cases e
  · cases e
def strsOf : List D → Option (List Str)
  | [] => some []
  | .str x :: l => (strsOf l).map (x :: ·)
  | _ => none
theorem strsOf_ok : ∀ {l : List D} {ys : List Str}, strsOf l = some ys → l = ys.map D.str
  | [], _, h => by cases h; rfl
  | .str x :: l, ys, h => by
    obtain ⟨zs, a, b⟩ := Option.map_eq_some_iff.mp h
    subst b
    rw [strsOf_ok a]
    rfl
  | .non :: _, _, h => by cases h
  | .bl _ :: _, _, h => by cases h
  | .int _ :: _, _, h => by cases h
  | .lst _ :: _, _, h => by cases h
  | .rol _ :: _, _, h => by cases h
  | .tup _ :: _, _, h => by cases h
  | .dK _ :: _, _, h => by cases h
  | .dT _ :: _, _, h => by cases h
def gJoin : OpL
  | [.str a, d] => match itemsOf d with
    | some l => (match strsOf l with
      | some ys => if (ys.map fun x => x.length).sum + ys.length * a.length ≤ 16777216 then some (.val (.str (Txt.join a ys))) else none
      | none => none)
    | none => none
  | _ => none
theorem gJoin_ok {K : Frag} : CbOk K (asCb fun x xs H Q => ∃ a p ys, x = .str a ∧ xs = [.ref p] ∧ (SqL K H p (ys.map V.str) ∨ SqT K H p (ys.map V.str)) ∧ (ys.map fun x => x.length).sum + ys.length * a.length ≤ 16777216 ∧ Q (.str (Txt.join a ys)) H) gJoin := by
  intro G B F H ρ σ vs ds z Q rp rl e k
  unfold gJoin at e
  split at e
  · rename_i a d
    split at e
    · rename_i l hl
      split at e
      · rename_i ys hy
        split at e
        · rename_i hc
          cases e
          obtain ⟨v, u, rfl, h1, h2⟩ := rl.two
          cases h1.str
          obtain ⟨p, xs, rfl, hs, rs⟩ := h2.items rp.exF hl
          rw [strsOf_ok hy] at rs
          rw [Rs.strs_inv rs] at hs
          exact ⟨a, p, ys, rfl, rfl, hs, hc, k _ F H (Ex.refl F) rp (.str _)⟩
        · cases e
      · cases e
    · cases e
  · cases e
def gIndex : OpL
  | [d, y] => match d with
    | .tup _ => none
    | d => match itemsOf d, toFlat y with
      | some l, some v => (match toFlats l with
        | some us => (us.findIdx? fun u => eqV u v).map fun j => .val (.int (j : Nat))
        | none => none)
      | _, _ => none
  | _ => none
theorem RL.flat {K : Frag} {F H : Hp} {v u : V} {d : D} (r : RL K F H v d) (h : toFlat d = some u) : v = u ∧ flatV v = true := by
  rcases r with r | ⟨l, _, c⟩
  · exact toFlat_ok r h
  · cases d <;> first | exact c.elim | cases h
theorem gIndex_ok {K : Frag} : CbOk K (asCb (rIndex K)) gIndex := by
  intro G B F H ρ σ vs ds z Q rp rl e k
  unfold gIndex at e
  split at e
  · rename_i d y
    split at e
    · cases e
    · rename_i nt
      split at e
      · rename_i l v hl hv
        split at e
        · rename_i us hu
          obtain ⟨j, e1, e2⟩ := Option.map_eq_some_iff.mp e
          subst e2
          obtain ⟨w, u, rfl, h1, h2⟩ := rl.two
          obtain ⟨rfl, hf⟩ := h2.flat hv
          have hq : ∃ p xs, w = .ref p ∧ SqL K H p xs ∧ Rs K F xs l := by
            cases d with
            | tup l2 => exact absurd rfl (nt l2)
            | lst l2 => cases hl; obtain ⟨p, xs, a, b, c⟩ := h1.lst rp.exF; exact ⟨p, xs, a, SqL.of b, c⟩
            | rol l2 => cases hl; exact h1.rol rp.exF
            | _ => cases hl
          obtain ⟨p, xs, rfl, hs, rs⟩ := hq
          obtain ⟨rfl, ha⟩ := toFlats_ok rs hu
          obtain ⟨hj, e4, e5⟩ := List.findIdx?_eq_some_iff_getElem.mp e1
          refine ⟨p, xs, u, j, xs[j], rfl, rfl, hs, hf, ha, List.getElem?_eq_getElem hj, e4, fun m z' hm hz => ?_, k _ F H (Ex.refl F) rp (.int _)⟩
          have := e5 m hm
          obtain ⟨h6, h7⟩ := List.getElem?_eq_some_iff.mp hz
          rw [h7] at this
          simpa using this
        · cases e
      · cases e
  · cases e
abbrev Fp := EnvD → Option (List (Key × D) × EnvD)
def pairF : List (Fv × Fv) → Fp
  | [] => fun ρ => some ([], ρ)
  | (fk, fv) :: r => fun ρ => match fk ρ with
    | some (dk, ρ1) => (match keyOf dk, fv ρ1 with
      | some k, some (d, ρ2) => (match pairF r ρ2 with
        | some (l, ρ3) => some ((k, d) :: l, ρ3)
        | none => none)
      | _, _ => none)
    | none => none
theorem pairs_ok {K : Frag} : ∀ (r : List (Fv × Fv)) (G : Hp) (B : List (Nat × Addr)) (F H : Hp) (ρ ρ' : EnvD) (σ : L2.St) (l : List (Key × D)) (Q : List (V × V) → Hp → Prop), Rep K G B F H ρ σ → pairF r ρ = some (l, ρ') →
    (∀ kvs F' H', Ex F F' → Rep K G B F' H' ρ' σ → RKs K F' kvs l → Q (kvs.map fun kv => (kV kv.1, kv.2)) H') → tPairs (r.map fun p => (tV K p.1, tV K p.2)) σ H Q
  | [], G, B, F, H, ρ, ρ', σ, l, Q, rp, ef, k => by
    cases ef
    exact k [] F H (Ex.refl F) rp .nil
  | (fk, fv) :: r, G, B, F, H, ρ, ρ', σ, l, Q, rp, ef, k => by
    unfold pairF at ef
    cases q1 : fk ρ with
    | none => rw [q1] at ef; cases ef
    | some x1 =>
      obtain ⟨dk, ρ1⟩ := x1
      rw [q1] at ef
      simp only at ef
      cases q2 : keyOf dk with
      | none => rw [q2] at ef; cases ef
      | some kk =>
        cases q3 : fv ρ1 with
        | none => rw [q2, q3] at ef; cases ef
        | some x2 =>
          obtain ⟨d, ρ2⟩ := x2
          rw [q2, q3] at ef
          simp only at ef
          cases q4 : pairF r ρ2 with
          | none => rw [q4] at ef; cases ef
          | some x3 =>
            obtain ⟨l2, ρ3⟩ := x3
            rw [q4] at ef
            cases ef
            refine ⟨G, B, F, ρ, dk, ρ1, rp, q1, fun v F1 H1 e1 rp1 r1 => ?_⟩
            cases keyOf_ok r1 q2
            refine ⟨G, B, F1, ρ1, d, ρ2, rp1, q3, fun u F2 H2 e2 rp2 r2 => ?_⟩
            exact pairs_ok r G B F2 H2 ρ2 ρ' σ l2 _ rp2 q4 fun kvs F3 H3 e3 rp3 r3 => k ((kk, u) :: kvs) F3 H3 ((e1.trans e2).trans e3) rp3 (.cons (r2.mono e3) r3)
def mergeD (l more : List (Key × D)) : List (Key × D) := more.foldl (fun acc kv => putD acc kv.1 kv.2) l
theorem RKs.merge {K : Frag} {F : Hp} {b : List (Key × V)} {e : List (Key × D)} (t : RKs K F b e) : ∀ {a : List (Key × V)} {d : List (Key × D)}, RKs K F a d → RKs K F (mergeK a b) (mergeD d e) := by
  induction b generalizing e with
  | nil =>
    intro a d r
    cases t
    exact r
  | cons kv b ih =>
    intro a d r
    cases t with
    | cons h t => exact ih t (r.put h)
def dispE (r : List (Fv × Fv)) : Fe := fun ρ => match pairF r ρ with
  | some (l, ρ1) => if decide (l.length ≤ 15) then some (.new (.dK (mergeD [] l)), ρ1) else none
  | none => none
section
variable {X : Cx} {pos : Pos}
theorem eps_nil : PPs X pos [] [] (([] : List (Fv × Fv)).map fun p => (tV X.K p.1, tV X.K p.2)) := pps_nil
theorem eps_cons {k v : Expr} {ks : List (Option Expr)} {vs : List Expr} {fk fv : Fv} {r : List (Fv × Fv)} (hk : PE X k (tV X.K fk)) (hv : PE X v (tV X.K fv)) (h : PPs X pos ks vs (r.map fun p => (tV X.K p.1, tV X.K p.2))) : PPs X pos (some k :: ks) (v :: vs) (((fk, fv) :: r).map fun p => (tV X.K p.1, tV X.K p.2)) := pps_cons hk hv h
theorem ev_disp {keys : List (Option Expr)} {vals : List Expr} {r : List (Fv × Fv)} (h : PPs X pos keys vals (r.map fun p => (tV X.K p.1, tV X.K p.2))) (h1 : (keys.all fun x => x.isSome) = true) (h2 : keys.length = vals.length) (h3 : keys ≠ []) (h4 : keys.length ≤ 15) : PE X (.Dict keys vals pos) (tE X.K (dispE r)) :=
  PE.weak (pe_disp h h1 h2 h3 h4) fun σ H Q ⟨G, B, F, ρ, z, ρ', rp, ef, k⟩ => by
    unfold dispE at ef
    cases q : pairF r ρ with
    | none => rw [q] at ef; cases ef
    | some x1 =>
      obtain ⟨l, ρ1⟩ := x1
      rw [q] at ef
      simp only at ef
      split at ef
      · rename_i hl
        cases ef
        intro p hp
        obtain ⟨a, b, g, d⟩ := rp.new (o := .dK []) hp
        refine pairs_ok r _ B F _ ρ ρ' σ l _ (a.inG upd_same b g d) q fun kvs F1 H1 e1 rp1 r1 => ?_
        have ln : kvs.length ≤ 15 := by rw [r1.len]; exact of_decide_eq_true hl
        refine ⟨rp1.exG p _ upd_same, kvs, rfl, ln, ?_⟩
        obtain ⟨a1, b1, c1, d1⟩ := (rp1.chG (o' := .dK (mergeK [] kvs))).outG g
        exact k _ F1 _ e1 a1 ⟨p, rfl, b1, g, ⟨_, upd_same, RKs.merge r1 .nil⟩, d1⟩
      · cases ef
/-- {} -/
theorem ev_dnew : PE X (.Dict [] [] pos) (tE X.K fun ρ => some (.new (.dK []), ρ)) :=
  PE.weak pe_dnewK fun σ H Q ⟨G, B, F, ρ, z, ρ', rp, ef, k⟩ => by
    cases ef
    intro p hp
    obtain ⟨a, b, g, d⟩ := rp.new (o := .dK []) hp
    exact k _ F _ (Ex.refl F) a ⟨p, rfl, b, g, ⟨_, upd_same, .nil⟩, d⟩
def lcRngE (rd : List D → Option (List D)) (vs : List Nat) (t : Tg) (it : Fl) (c : Fb) (e : Fv) : Fe := fun ρ => match it ρ with
  | some (ds, ρ1) => (match rd ds with
    | some l => lcRun vs t c e l ρ1
    | none => none)
  | none => none
theorem wk_lcInts {G : Hp} {B : List (Nat × Addr)} {F H1 : Hp} {ρ1 ρ2 : EnvD} {own : List Nat} {t : Tg} {fc : Fb} {fe : Fv} {σ : L2.St} {lo : Int} {n : Nat} {acc : List D} {D0 : Addr} {Q : VK} (ht : ∀ j, j ∈ t.ix → j ∈ own) (rp1 : Rep X.K G B F H1 ρ1 σ) (hn : noCell ρ1 own = true) (q3 : lcLoop own t fc fe (intsD lo n) [] (clr ρ1 own) = some (acc, ρ2)) (hD : H1 D0 = none)
    (z : ∀ F' H', Ex F F' → Rep X.K G B F' H' (back ρ1 (clr ρ2 own) own) σ → RRe X.K G F' H' (back ρ1 (clr ρ2 own) own) σ (.ref D0) (.new (.lst acc)) → Q (.ref D0) H') :
    ∃ W : Nat → Nat → Hp → Prop, (∃ m, W 0 m (upd H1 D0 (.lst []))) ∧ ∀ (i m : Nat) (H : Hp), W i m H → (Itr lo n).stop i H ∧ Q (.ref D0) H ∨ (Itr lo n).go i H ∧ ∃ Nx : Hp → Prop, (∀ H' : Hp, Nx H' → ∃ m', m' < m ∧ W (i + 1) m' H') ∧ ∀ (x : V) (H' : Hp), (Itr lo n).yld i H x H' → gT X.K t x (L2.wipe σ own) H' fun σ2 H2 => L2.wipe σ2 own = L2.wipe σ own ∧ tT X.K fc σ2 H2 fun b H3 => if b = true then tV X.K fe σ2 H3 fun y H4 => ∃ acc, H4 D0 = some (.lst acc) ∧ acc.length < sizeLine ∧ Nx (upd H4 D0 (.lst (acc ++ [y]))) else Nx H3 := by
  obtain ⟨hG, st⟩ := lturn_start rp1 hn hD q3
  refine lc_range (LTurn X.K G B F own t fc fe (intsD lo n) D0 σ (acc, ρ2)) st (fun i H hi q => lturn_ok (x := .int (lo + (i : Nat))) ints_Rs ht (by rw [List.getElem?_map, List.getElem?_range hi]; rfl) q) (fun H q => ?_)
  obtain ⟨F2, e2, rp2, rr⟩ := lturn_end (r := .val .non) (ints_Rs (K := X.K) (F := F) (lo := lo) (n := n)) rp1 hn hG (by rw [List.length_map, List.length_range]; exact q)
  exact z F2 H e2 rp2 rr
theorem wk_lcR1 {own : List Nat} {t : Tg} {fl : Fl} {fc : Fb} {fe : Fv} (ht : ∀ j, j ∈ t.ix → j ∈ own) (σ : L2.St) (H : Hp) (Q : VK) (h : tE X.K (lcRngE rngD1 own t fl fc fe) σ H Q) :
    tLc (iRng1 (tL X.K fl)) (gT X.K t) (tT X.K fc) (tV X.K fe) own σ H Q := by
  obtain ⟨G, B, F, ρ, r, ρ', rp, ef, z⟩ := h
  unfold lcRngE at ef
  cases q1 : fl ρ with
  | none => rw [q1] at ef; cases ef
  | some y1 =>
    obtain ⟨ds, ρ1⟩ := y1
    rw [q1] at ef
    simp only at ef
    cases q2 : rngD1 ds with
    | none => rw [q2] at ef; cases ef
    | some l =>
      rw [q2] at ef
      obtain ⟨hn, acc, ρ2, q3, rfl, rfl⟩ := lcRun_inv ef
      obtain ⟨j, rfl, hj, rfl⟩ := rngD1_inv q2
      refine ⟨G, B, F, ρ, _, ρ1, rp, q1, fun vs F1 H1 e1 rp1 r1 => ?_⟩
      obtain ⟨a1, a2⟩ := in62_ok hj
      exact ⟨j, Rs.one_inv r1, a1, a2, fun D0 hD => wk_lcInts ht rp1 hn q3 hD fun F2 H2 e2 rp2 rr => z _ F2 H2 (e1.trans e2) rp2 rr⟩
theorem wk_lcR2 {own : List Nat} {t : Tg} {fl : Fl} {fc : Fb} {fe : Fv} (ht : ∀ j, j ∈ t.ix → j ∈ own) (σ : L2.St) (H : Hp) (Q : VK) (h : tE X.K (lcRngE rngD2 own t fl fc fe) σ H Q) :
    tLc (iRng2 (tL X.K fl)) (gT X.K t) (tT X.K fc) (tV X.K fe) own σ H Q := by
  obtain ⟨G, B, F, ρ, r, ρ', rp, ef, z⟩ := h
  unfold lcRngE at ef
  cases q1 : fl ρ with
  | none => rw [q1] at ef; cases ef
  | some y1 =>
    obtain ⟨ds, ρ1⟩ := y1
    rw [q1] at ef
    simp only at ef
    cases q2 : rngD2 ds with
    | none => rw [q2] at ef; cases ef
    | some l =>
      rw [q2] at ef
      obtain ⟨hn, acc, ρ2, q3, rfl, rfl⟩ := lcRun_inv ef
      obtain ⟨i, j, rfl, hi, hj, rfl⟩ := rngD2_inv q2
      refine ⟨G, B, F, ρ, _, ρ1, rp, q1, fun vs F1 H1 e1 rp1 r1 => ?_⟩
      obtain ⟨a1, a2⟩ := in62_ok hi
      obtain ⟨b1, b2⟩ := in62_ok hj
      exact ⟨i, j, Rs.two_inv r1, ⟨a1, a2, b1, b2⟩, fun D0 hD => wk_lcInts ht rp1 hn q3 hD fun F2 H2 e2 rp2 rr => z _ F2 H2 (e1.trans e2) rp2 rr⟩
end
end Ev
/-! Ev12 -/
namespace Ev
open PySem PySem.Spec PyProof.Rows L2
variable [Tabs]
abbrev OpB := D → D → Option Bool
def CmpOk (K : Frag) (r : R2) (g : OpB) : Prop := ∀ (F H : Hp) (v u : V) (x y : D) (b : Bool) (Q : VK), Ex F H → RL K F H v x → RL K F H u y → g x y = some b → Q (.bl b) H → r v u H Q
theorem CmpOk.or {K : Frag} {r r' : R2} {g g' : OpB} (h : CmpOk K r g) (h' : CmpOk K r' g') : CmpOk K (fun x y H Q => r x y H Q ∨ r' x y H Q) (fun x y => (g x y).or (g' x y)) := by
  intro F H v u x y b Q e r1 r2 q k
  have q : (g x y).or (g' x y) = some b := q
  cases z : g x y with
  | some b2 =>
    rw [z] at q
    cases q
    exact .inl (h F H v u x y b Q e r1 r2 z k)
  | none =>
    rw [z] at q
    exact .inr (h' F H v u x y b Q e r1 r2 q k)
def look2 (f1 f2 : Fo) (ρ : EnvD) : Option (D × D × EnvD) := match f1 ρ with
  | some (a, ρ1) => (match f2 ρ1 with
    | some (b, ρ2) => (match lookA ρ2 a, lookA ρ2 b with
      | some x, some y => some (x, y, ρ2)
      | _, _ => none)
    | none => none)
  | none => none
def cmpE (g : OpB) (f1 f2 : Fo) : Fe := fun ρ => match look2 f1 f2 ρ with
  | some (x, y, ρ2) => (g x y).map fun b => (.val (.bl b), ρ2)
  | none => none
def cmpT (g : OpB) (f1 f2 : Fo) : Fb := fun ρ => match look2 f1 f2 ρ with
  | some (x, y, ρ2) => (g x y).map fun b => (b, ρ2)
  | none => none
theorem look2_ok {K : Frag} {r : R2} {g : OpB} (ok : CmpOk K r g) {f1 f2 : Fo} {σ : L2.St} {H : Hp} {Q : VK} {G : Hp} {B : List (Nat × Addr)} {F : Hp} {ρ ρ2 : EnvD} {x y : D} {b : Bool} (rp : Rep K G B F H ρ σ) (e : look2 f1 f2 ρ = some (x, y, ρ2)) (q : g x y = some b) (k : ∀ F' H', Ex F F' → Rep K G B F' H' ρ2 σ → Q (.bl b) H') : tOp r (tO K f1) (tO K f2) σ H Q := by
  unfold look2 at e
  cases q1 : f1 ρ with
  | none => rw [q1] at e; cases e
  | some x1 =>
    obtain ⟨a, ρ1⟩ := x1
    rw [q1] at e
    simp only at e
    cases q2 : f2 ρ1 with
    | none => rw [q2] at e; cases e
    | some x2 =>
      obtain ⟨b', ρ3⟩ := x2
      rw [q2] at e
      simp only at e
      split at e
      · rename_i x3 y3 h1 h2
        cases e
        refine ⟨G, B, F, ρ, a, ρ1, rp, q1, fun v F1 H1 e1 rp1 r1 => ?_⟩
        refine ⟨G, B, F1, ρ1, b', ρ2, rp1, q2, fun u F2 H2 e2 rp2 r2 => ?_⟩
        exact ok F2 H2 v u x y b Q rp2.exF (look_ok rp2 (r1.mono e2) h1) (look_ok rp2 r2 h2) q (k F2 H2 (e1.trans e2) rp2)
      · cases e
section
variable {X : Cx} {a b : Expr} {f1 f2 : Fo} {pos : Pos} {op : CmpOp} {r : R2} {g : OpB}
theorem ec_cmp (ho : OpR X (compareOp op) r) (ok : CmpOk X.K r g) (ha : PE X a (tO X.K f1)) (hb : PE X b (tO X.K f2)) (hm : behindInMarks op b = false) : PE X (.Compare a [op] [b] pos) (tE X.K (cmpE g f1 f2)) :=
  PE.weak (pe_cmpR ho ha hb hm) fun σ H Q ⟨G, B, F, ρ, z, ρ', rp, ef, k⟩ => by
    unfold cmpE at ef
    cases q : look2 f1 f2 ρ with
    | none => rw [q] at ef; cases ef
    | some y =>
      obtain ⟨x, y, ρ2⟩ := y
      rw [q] at ef
      obtain ⟨b, e1, e2⟩ := Option.map_eq_some_iff.mp ef
      cases e2
      exact look2_ok ok rp q e1 fun F' H' e rp' => k _ F' H' e rp' (.bl b)
theorem ec_cmpT (ho : OpR X (compareOp op) r) (ok : CmpOk X.K r g) (ha : PE X a (tO X.K f1)) (hb : PE X b (tO X.K f2)) (hm : behindInMarks op b = false) : PT X (.Compare a [op] [b] pos) (tT X.K (cmpT g f1 f2)) :=
  PT.weak (pt_cmpR ho ha hb hm) fun σ H Q ⟨G, B, F, ρ, z, ρ', rp, ef, k⟩ => by
    unfold cmpT at ef
    cases q : look2 f1 f2 ρ with
    | none => rw [q] at ef; cases ef
    | some y =>
      obtain ⟨x, y, ρ2⟩ := y
      rw [q] at ef
      obtain ⟨b, e1, e2⟩ := Option.map_eq_some_iff.mp ef
      cases e2
      exact look2_ok (Q := fun x H1 => ∃ k, x = .bl k ∧ Q k H1) ok rp q e1 fun F' H' e rp' => ⟨_, rfl, k F' H' e rp'⟩
end
def bInt (g : Int → Int → Bool) : OpB := fun x y => match x, y with
  | .int i, .int j => some (g i j)
  | _, _ => none
theorem bInt_ok {K : Frag} {g : Int → Int → Bool} : CmpOk K (rI0 fun i j => .bl (g i j)) (bInt g) := by
  intro F H v u x y b Q e r1 r2 q k
  unfold bInt at q
  split at q
  · cases q
    cases r1.int
    cases r2.int
    exact ⟨_, _, rfl, rfl, k⟩
  · cases q
def bStr (g : Str → Str → Bool) : OpB := fun x y => match x, y with
  | .str i, .str j => some (g i j)
  | _, _ => none
theorem bStr_ok {K : Frag} {g : Str → Str → Bool} : CmpOk K (fun x y H Q => ∃ i j, x = .str i ∧ y = .str j ∧ Q (.bl (g i j)) H) (bStr g) := by
  intro F H v u x y b Q e r1 r2 q k
  unfold bStr at q
  split at q
  · cases q
    cases r1.str
    cases r2.str
    exact ⟨_, _, rfl, rfl, k⟩
  · cases q
abbrev bLt : OpB := fun x y => (bInt (fun i j => decide (i < j)) x y).or (bStr ltS x y)
abbrev bGt : OpB := fun x y => (bInt (fun i j => decide (j < i)) x y).or (bStr (fun i j => ltS j i) x y)
abbrev bLe : OpB := fun x y => (bInt (fun i j => decide (i ≤ j)) x y).or (bStr (fun i j => !ltS j i) x y)
abbrev bGe : OpB := fun x y => (bInt (fun i j => decide (j ≤ i)) x y).or (bStr (fun i j => !ltS i j) x y)
/-- == of flat values and of data of any depth -/
def bEqF (neg : Bool) : OpB := fun x y => match toFlat x, toFlat y with
  | some v, some u => if scal v u then some (if neg then !decide (v = u) else decide (v = u)) else none
  | _, _ => none
theorem bEqF_ok {K : Frag} : CmpOk K rEq (bEqF false) := by
  intro F H v u x y b Q e r1 r2 q k
  unfold bEqF at q
  split at q
  · rename_i v1 u1 h1 h2
    obtain ⟨rfl, _⟩ := r1.flat h1
    obtain ⟨rfl, _⟩ := r2.flat h2
    split at q
    · rename_i hs
      cases q
      exact ⟨hs, k⟩
    · cases q
  · cases q
theorem bNeF_ok {K : Frag} : CmpOk K rNe (bEqF true) := by
  intro F H v u x y b Q e r1 r2 q k
  unfold bEqF at q
  split at q
  · rename_i v1 u1 h1 h2
    obtain ⟨rfl, _⟩ := r1.flat h1
    obtain ⟨rfl, _⟩ := r2.flat h2
    split at q
    · rename_i hs
      cases q
      exact ⟨hs, k⟩
    · cases q
  · cases q
theorem RL.dp {K : Frag} {F H : Hp} (e : Ex F H) {v : V} {d : D} {p : PyData} (r : RL K F H v d) (h : toPy d = some p) : Dp K H v p := by
  rcases r with r | ⟨l, rfl, c⟩
  · exact toPy_ok e r h
  · cases d with
    | lst ds =>
      obtain ⟨xs, a, b⟩ := c
      unfold toPy at h
      obtain ⟨ps, h1, h2⟩ := Option.map_eq_some_iff.mp h
      subst h2
      exact .lst (SqL.of a) (toPys_ok e b h1)
    | dK _ => cases h
    | dT _ => cases h
    | _ => exact c.elim
def bEqD (neg : Bool) : OpB := fun x y => match toPy x, toPy y with
  | some p, some q => if SeqAt.shaped p && SeqAt.shaped q then some (if neg then !PyData.eqv p q else PyData.eqv p q) else none
  | _, _ => none
theorem bEqD_ok {K : Frag} : CmpOk K (rEqD K) (bEqD false) := by
  intro F H v u x y b Q e r1 r2 q k
  unfold bEqD at q
  split at q
  · rename_i p1 p2 h1 h2
    split at q
    · rename_i hs
      obtain ⟨a1, a2⟩ := Bool.and_eq_true_iff.mp hs
      cases q
      exact ⟨p1, p2, r1.dp e h1, r2.dp e h2, a1, a2, k⟩
    · cases q
  · cases q
theorem bNeD_ok {K : Frag} : CmpOk K (rNeD K) (bEqD true) := by
  intro F H v u x y b Q e r1 r2 q k
  unfold bEqD at q
  split at q
  · rename_i p1 p2 h1 h2
    split at q
    · rename_i hs
      obtain ⟨a1, a2⟩ := Bool.and_eq_true_iff.mp hs
      cases q
      exact ⟨p1, p2, r1.dp e h1, r2.dp e h2, a1, a2, k⟩
    · cases q
  · cases q
abbrev bEq (neg : Bool) : OpB := fun x y => (bEqF neg x y).or (bEqD neg x y)
def bInF (neg : Bool) : OpB := fun x y => match toFlat x, itemsOf y with
  | some v, some l => (match toFlats l with
    | some vs => some (if neg then !inV v vs else inV v vs)
    | none => none)
  | _, _ => none
theorem bInF_ok {K : Frag} {neg : Bool} : CmpOk K (rIn K neg) (bInF neg) := by
  intro F H v u x y b Q e r1 r2 q k
  unfold bInF at q
  split at q
  · rename_i v1 l h1 h2
    split at q
    · rename_i vs h3
      cases q
      obtain ⟨rfl, f1⟩ := r1.flat h1
      obtain ⟨p, xs, rfl, hs, rs⟩ := r2.items e h2
      obtain ⟨rfl, f2⟩ := toFlats_ok rs h3
      exact ⟨p, xs, rfl, hs, f1, f2, k⟩
    · cases q
  · cases q
def bIn1 (neg : Bool) : OpB := fun x y => match x, y with
  | .str i, .str j => (match i.cps.toList with
    | [c] => some (if neg then !decide (c ∈ j.cps.toList) else decide (c ∈ j.cps.toList))
    | _ => none)
  | _, _ => none
theorem bIn1_ok {K : Frag} {neg : Bool} : CmpOk K (rIn1 neg) (bIn1 neg) := by
  intro F H v u x y b Q e r1 r2 q k
  unfold bIn1 at q
  split at q
  · split at q
    · rename_i c hc
      cases q
      cases r1.str
      cases r2.str
      exact ⟨c, _, by rw [one_sign hc], rfl, k⟩
    · cases q
  · cases q
abbrev bIn (neg : Bool) : OpB := fun x y => (bInF neg x y).or (bIn1 neg x y)
def bIsN (neg : Bool) : OpB := fun x y => match y with
  | .non => some (match x with
    | .non => !neg
    | _ => neg)
  | _ => none
theorem isN_RL {K : Frag} {F H : Hp} {v : V} {x : D} (r : RL K F H v x) : decide (v = .non) = (match x with
    | .non => true
    | _ => false) := by
  rcases r with r | ⟨l, rfl, c⟩
  · cases r <;> rfl
  · cases x <;> first | rfl | exact c.elim
theorem RL.non {K : Frag} {F H : Hp} {v : V} (r : RL K F H v .non) : v = .non := by
  rcases r with r | ⟨l, _, c⟩
  · cases r; rfl
  · exact c.elim
section
variable {X : Cx} {a b : Expr} {f1 f2 : Fo} {pos : Pos}
variable (ha : PE X a (tO X.K f1)) (hb : PE X b (tO X.K f2))
include ha hb
theorem ec_lt : PE X (.Compare a [.Lt] [b] pos) (tE X.K (cmpE bLt f1 f2)) := ec_cmp (OpR.or op_lt op_lt_str) (bInt_ok.or bStr_ok) ha hb (nomark _)
theorem ec_gt : PE X (.Compare a [.Gt] [b] pos) (tE X.K (cmpE bGt f1 f2)) := ec_cmp (OpR.or op_gt op_gt_str) (bInt_ok.or bStr_ok) ha hb (nomark _)
theorem ec_le : PE X (.Compare a [.LtE] [b] pos) (tE X.K (cmpE bLe f1 f2)) := ec_cmp (OpR.or op_le op_le_str) (bInt_ok.or bStr_ok) ha hb (nomark _)
theorem ec_ge : PE X (.Compare a [.GtE] [b] pos) (tE X.K (cmpE bGe f1 f2)) := ec_cmp (OpR.or op_ge op_ge_str) (bInt_ok.or bStr_ok) ha hb (nomark _)
theorem ec_eq (hu : X.A.units + 64 < cLine) : PE X (.Compare a [.Eq] [b] pos) (tE X.K (cmpE (bEq false) f1 f2)) := ec_cmp (OpR.or op_eq (op_eqD hu)) (bEqF_ok.or bEqD_ok) ha hb (nomark _)
theorem ec_ne (hu : X.A.units + 64 < cLine) : PE X (.Compare a [.NotEq] [b] pos) (tE X.K (cmpE (bEq true) f1 f2)) := ec_cmp (OpR.or op_ne (op_neD hu)) (bNeF_ok.or bNeD_ok) ha hb (nomark _)
theorem ec_in (hm : behindInMarks .In b = false) : PE X (.Compare a [.In] [b] pos) (tE X.K (cmpE (bIn false) f1 f2)) := ec_cmp (OpR.or op_in_seq op_in_sign) (bInF_ok.or bIn1_ok) ha hb hm
theorem ec_notIn (hm : behindInMarks .NotIn b = false) : PE X (.Compare a [.NotIn] [b] pos) (tE X.K (cmpE (bIn true) f1 f2)) := ec_cmp (OpR.or op_notIn_seq op_notIn_sign) (bInF_ok.or bIn1_ok) ha hb hm
theorem ct_lt : PT X (.Compare a [.Lt] [b] pos) (tT X.K (cmpT bLt f1 f2)) := ec_cmpT (OpR.or op_lt op_lt_str) (bInt_ok.or bStr_ok) ha hb (nomark _)
theorem ct_gt : PT X (.Compare a [.Gt] [b] pos) (tT X.K (cmpT bGt f1 f2)) := ec_cmpT (OpR.or op_gt op_gt_str) (bInt_ok.or bStr_ok) ha hb (nomark _)
theorem ct_le : PT X (.Compare a [.LtE] [b] pos) (tT X.K (cmpT bLe f1 f2)) := ec_cmpT (OpR.or op_le op_le_str) (bInt_ok.or bStr_ok) ha hb (nomark _)
theorem ct_ge : PT X (.Compare a [.GtE] [b] pos) (tT X.K (cmpT bGe f1 f2)) := ec_cmpT (OpR.or op_ge op_ge_str) (bInt_ok.or bStr_ok) ha hb (nomark _)
theorem ct_eq (hu : X.A.units + 64 < cLine) : PT X (.Compare a [.Eq] [b] pos) (tT X.K (cmpT (bEq false) f1 f2)) := ec_cmpT (OpR.or op_eq (op_eqD hu)) (bEqF_ok.or bEqD_ok) ha hb (nomark _)
theorem ct_ne (hu : X.A.units + 64 < cLine) : PT X (.Compare a [.NotEq] [b] pos) (tT X.K (cmpT (bEq true) f1 f2)) := ec_cmpT (OpR.or op_ne (op_neD hu)) (bNeF_ok.or bNeD_ok) ha hb (nomark _)
theorem ct_in (hm : behindInMarks .In b = false) : PT X (.Compare a [.In] [b] pos) (tT X.K (cmpT (bIn false) f1 f2)) := ec_cmpT (OpR.or op_in_seq op_in_sign) (bInF_ok.or bIn1_ok) ha hb hm
theorem ct_notIn (hm : behindInMarks .NotIn b = false) : PT X (.Compare a [.NotIn] [b] pos) (tT X.K (cmpT (bIn true) f1 f2)) := ec_cmpT (OpR.or op_notIn_seq op_notIn_sign) (bInF_ok.or bIn1_ok) ha hb hm
end
theorem isN_ok {K : Frag} : CmpOk K (fun x y H Q => y = .non ∧ Q (.bl (decide (x = .non))) H) (bIsN false) := by
  intro F H v u x y b Q e r1 r2 q k
  unfold bIsN at q
  split at q
  · cases r2.non
    refine ⟨rfl, ?_⟩
    rw [isN_RL r1]
    cases x <;> cases q <;> exact k
  · cases q
theorem notN_ok {K : Frag} : CmpOk K (fun x y H Q => y = .non ∧ Q (.bl (!decide (x = .non))) H) (bIsN true) := by
  intro F H v u x y b Q e r1 r2 q k
  unfold bIsN at q
  split at q
  · cases r2.non
    refine ⟨rfl, ?_⟩
    rw [isN_RL r1]
    cases x <;> cases q <;> exact k
  · cases q
section
variable {X : Cx} {a b : Expr} {f1 f2 : Fo} {pos : Pos}
theorem ec_isN (ha : PE X a (tO X.K f1)) (hb : PE X b (tO X.K f2)) : PE X (.Compare a [.Is] [b] pos) (tE X.K (cmpE (bIsN false) f1 f2)) := ec_cmp op_isN isN_ok ha hb (nomark _)
theorem ec_notN (ha : PE X a (tO X.K f1)) (hb : PE X b (tO X.K f2)) : PE X (.Compare a [.IsNot] [b] pos) (tE X.K (cmpE (bIsN true) f1 f2)) := ec_cmp op_notN notN_ok ha hb (nomark _)
theorem ct_isN (ha : PE X a (tO X.K f1)) (hb : PE X b (tO X.K f2)) : PT X (.Compare a [.Is] [b] pos) (tT X.K (cmpT (bIsN false) f1 f2)) := ec_cmpT op_isN isN_ok ha hb (nomark _)
theorem ct_notN (ha : PE X a (tO X.K f1)) (hb : PE X b (tO X.K f2)) : PT X (.Compare a [.IsNot] [b] pos) (tT X.K (cmpT (bIsN true) f1 f2)) := ec_cmpT op_notN notN_ok ha hb (nomark _)
def truA (ρ : EnvD) : AD → Option Bool
  | .v d => truN d
  | .r i => match ρ[i]? with
    | some (.val d) => truN d
    | some (.own d) => truD d
    | some (.ref d) => truD d
    | _ => none
def truO (f : Fo) : Fb := fun ρ => match f ρ with
  | some (a, ρ1) => (truA ρ1 a).map fun k => (k, ρ1)
  | none => none
theorem cell_tru {K : Frag} {F H : Hp} {l : Addr} {d : D} {k : Bool} (c : Cell K F H l d) (q : truD d = some k) : TruV K (.ref l) H k := by
  cases d with
  | lst l => cases q; obtain ⟨xs, a, b⟩ := c; exact .inl ⟨_, SqL.of a, by rw [isEmpty_len b.len]⟩
  | dK l => cases q; obtain ⟨xs, a, b⟩ := c; exact .inr (.inr ⟨_, a, by rw [isEmpty_len b.len]⟩)
  | dT l => cases q
  | _ => exact c.elim
theorem et_look (h : PE X a (tO X.K f1)) (he : ∀ whole, PySem.isTrue a X.env whole = (do let v ← whole; standAt a.pos; holding [v] (truthy v))) : PT X a (tT X.K (truO f1)) :=
  PT.weak (pt_truth h he) fun σ H Q ⟨G, B, F, ρ, k, ρ', rp, ef, q⟩ => by
    unfold truO at ef
    cases q1 : f1 ρ with
    | none => rw [q1] at ef; cases ef
    | some x1 =>
      obtain ⟨d, ρ1⟩ := x1
      rw [q1] at ef
      obtain ⟨k1, e1, e2⟩ := Option.map_eq_some_iff.mp ef
      cases e2
      refine ⟨G, B, F, ρ, d, _, rp, q1, fun v F1 H1 e1' rp1 r1 => ⟨_, ?_, q F1 H1 e1' rp1⟩⟩
      cases d with
      | v d => exact truN_ok rp1.exF r1 e1
      | r i =>
        have r1 : σ[i]? = some (some v) := r1
        unfold truA at e1
        cases q2 : ρ'[i]? with
        | none => simp only [q2] at e1; cases e1
        | some sl =>
          simp only [q2] at e1
          cases sl with
          | none => cases e1
          | val d =>
            obtain ⟨u, a1, a2⟩ := rp1.val i d q2
            rw [r1] at a1
            cases a1
            exact truN_ok rp1.exF a2 e1
          | own d =>
            obtain ⟨l, a1, a2, a3, a4⟩ := rp1.own i d (cell_own q2)
            rw [r1] at a1
            cases a1
            exact cell_tru a4 e1
          | ref d =>
            obtain ⟨l, a1, a2, a3, a4⟩ := rp1.own i d (cell_ref q2)
            rw [r1] at a1
            cases a1
            exact cell_tru a4 e1
/-- x[i] of lists, tuples, texts, dicts -/
abbrev gSub2 (x y : D) : Option D := (gIx x y).or (gDget x y)
theorem ixE_or {g g' : D → D → Option D} {fo : Fo} {fv : Fv} {ρ ρ' : EnvD} {z : Re} (h : ixE (fun x y => (g x y).or (g' x y)) fo fv ρ = some (z, ρ')) : ixE g fo fv ρ = some (z, ρ') ∨ ixE g' fo fv ρ = some (z, ρ') := by
  obtain ⟨a, ρ1, y, x, d, q1, q2, q3, q4, rfl⟩ := ixE_inv h
  unfold ixE
  rw [q1]
  simp only [q2, q3]
  cases q5 : g x y with
  | some d2 =>
    rw [q5] at q4
    cases q4
    exact .inl rfl
  | none =>
    rw [q5] at q4
    have q4 : g' x y = some d := q4
    rw [q4]
    exact .inr rfl
theorem ev_sub2 {fo : Fo} {f2 : Fv} (hu : X.A.units + 1 < cLine) (ha : PE X a (tO X.K fo)) (hb : PE X b (tV X.K f2)) (hs : PlainIx b) (hs2 : NoSl b) : PE X (.Subscript a b pos) (tE X.K (ixE gSub2 fo f2)) :=
  PE.weak (PE.or (ev_ix (pos := pos) ha hb hs) (ev_dget (pos := pos) hu ha hb hs2)) fun σ H Q ⟨G, B, F, ρ, z, ρ', rp, ef, k⟩ => by
    rcases ixE_or ef with h | h
    · exact .inl ⟨G, B, F, ρ, z, ρ', rp, h, k⟩
    · exact .inr ⟨G, B, F, ρ, z, ρ', rp, h, k⟩
end
section
variable {X : Cx}
theorem ev_call {CX : CXT} {k : Nat} {f : Addr} {fd : FuncData} {ps : List Str} {ms : List Bool} {ff : List D → Option (Re × List D)} {dvs : List V} {ds : List Value} {dds : List D} {E : XK} {x : Str} {p pos : Pos} {e : Expr} {es : List Expr} {fa : Fa}
    (G : FnOk X.prog X.w X.K X.mg X.base CX k f fd ps (spD X.K ms ff)) (hr : Room k X.A) (gl : Gl X x) (hm : X.mg x = some (.ref f)) (kp : W.keepIn X.K (.ref f) = true) (b : Binds X.K fd ps ds) (hv : Vals dvs ds) (hd : ∀ F : Hp, Rs X.K F dvs dds) (pa : Passes CX X E) (ha : PA X (e :: es) (tA X.K fa))
    (h1 : (x == Str.ofString "__debug__") = false) (h2 : starEach (e :: es) X.env = (false, eval e X.env) :: starEach es X.env) (h3 : ((backTo pos (starEach es X.env)).any fun x => x.fst) = false) : PE X (.Call (.Name x p) (e :: es) [] pos) (tE X.K (callE ms dds ff fa)) :=
  PE.weak (pe_call G hr gl hm kp b hv pa ha h1 h2 h3) fun σ H Q => wk_call hd σ H Q
theorem ev_call0 {CX : CXT} {k : Nat} {f : Addr} {fd : FuncData} {ps : List Str} {ms : List Bool} {ff : List D → Option (Re × List D)} {dvs : List V} {ds : List Value} {dds : List D} {E : XK} {x : Str} {p pos : Pos}
    (G : FnOk X.prog X.w X.K X.mg X.base CX k f fd ps (spD X.K ms ff)) (hr : Room k X.A) (gl : Gl X x) (hm : X.mg x = some (.ref f)) (kp : W.keepIn X.K (.ref f) = true) (b : Binds X.K fd ps ds) (hv : Vals dvs ds) (hd : ∀ F : Hp, Rs X.K F dvs dds) (pa : Passes CX X E)
    (h1 : (x == Str.ofString "__debug__") = false) : PE X (.Call (.Name x p) [] [] pos) (tE X.K (callE ms dds ff anilF)) :=
  PE.weak (pe_call0 G hr gl hm kp b hv pa h1) fun σ H Q h => by
    have h2 : tCall (spD X.K ms ff) dvs E (tA X.K anilF) σ H Q := wk_call hd σ H Q h
    obtain ⟨G, B, F, ρ, as, ρ', rp, ef, z⟩ := h2
    cases ef
    exact z [] F H (Ex.refl F) rp .nil
theorem ev_lc {vs : List Nat} {elt tg iter : Expr} {ifs : List Expr} {scope : Scope} {own : List (Str × Nat)} {pos : Pos} {t : Tg} {f1 fe : Fv} {fc : Fb} (hc : X.calm = true) (hN : X.N.Nodup) (hi : PE X iter (tV X.K f1)) (ok : BlkOk X.N X.env.scope scope own)
    (hg : ∀ (s : Shared) (H : Hp) (C : Addr) (cl : List (Str × Addr)) (fp : List Addr), PG (X.blk s H scope (compEnvC scope cl C X.env) fp) tg (gT X.K t))
    (hf : ∀ (s : Shared) (H : Hp) (C : Addr) (cl : List (Str × Addr)) (fp : List Addr), PTs (X.blk s H scope (compEnvC scope cl C X.env) fp) ifs (tT X.K fc))
    (he : ∀ (s : Shared) (H : Hp) (C : Addr) (cl : List (Str × Addr)) (fp : List Addr), PE (X.blk s H scope (compEnvC scope cl C X.env) fp) elt (tV X.K fe))
    (hs : ∀ x : Value, foldedSetIterable iter X.env x = pure x) (ht : ∀ j, j ∈ t.ix → j ∈ vs) (hvs : (own.map fun x => x.snd) = vs) : PE X (elt.ListComp [⟨tg, iter, ifs, 0⟩] scope pos) (tE X.K (lcE vs t f1 fc fe)) := by
  subst hvs
  exact PE.weak (pe_lc hc hN (PI.or (pi_list hi) (pi_tup hi)) ok hg hf he hs) fun σ H Q => wk_lc ht σ H Q
theorem ev_lcR1 {vs : List Nat} {elt tg a : Expr} {p pos2 : Pos} {ifs : List Expr} {scope : Scope} {own : List (Str × Nat)} {pos : Pos} {t : Tg} {fl : Fl} {fe : Fv} {fc : Fb} (hc : X.calm = true) (hN : X.N.Nodup) (gl : Gl X (Str.ofString "range")) (hm : X.mg (Str.ofString "range") = none) (hi : PA X [a] (tL X.K fl)) (hst : starEach [a] X.env = [(false, eval a X.env)]) (ok : BlkOk X.N X.env.scope scope own)
    (hg : ∀ (s : Shared) (H : Hp) (C : Addr) (cl : List (Str × Addr)) (fp : List Addr), PG (X.blk s H scope (compEnvC scope cl C X.env) fp) tg (gT X.K t))
    (hf : ∀ (s : Shared) (H : Hp) (C : Addr) (cl : List (Str × Addr)) (fp : List Addr), PTs (X.blk s H scope (compEnvC scope cl C X.env) fp) ifs (tT X.K fc))
    (he : ∀ (s : Shared) (H : Hp) (C : Addr) (cl : List (Str × Addr)) (fp : List Addr), PE (X.blk s H scope (compEnvC scope cl C X.env) fp) elt (tV X.K fe))
    (hs : ∀ x : Value, foldedSetIterable (Expr.Call (.Name (Str.ofString "range") p) [a] [] pos2) X.env x = pure x) (ht : ∀ j, j ∈ t.ix → j ∈ vs) (hvs : (own.map fun x => x.snd) = vs) : PE X (elt.ListComp [⟨tg, Expr.Call (.Name (Str.ofString "range") p) [a] [] pos2, ifs, 0⟩] scope pos) (tE X.K (lcRngE rngD1 vs t fl fc fe)) := by
  subst hvs
  exact PE.weak (pe_lc hc hN (pi_range1 gl hm hi hst) ok hg hf he hs) fun σ H Q => wk_lcR1 ht σ H Q
/-- y = [..] -/
theorem wk_setLc {t : TE} {i : Nat} {f : Fe} (w : ∀ σ H Q, tE X.K f σ H Q → t σ H Q) (D : Ends) (σ : L2.St) (H : Hp) (h : tS X.K (setF i f) D σ H) : tAsg t (gName i) D σ H := by
  obtain ⟨G, B, F, ρ, o, rp, ef, z⟩ := h
  unfold setF at ef
  cases q : f ρ with
  | none => rw [q] at ef; cases ef
  | some y1 =>
    obtain ⟨r, ρ1⟩ := y1
    rw [q] at ef
    have ef : (if isRef ρ1 i then none else some (Out.nx (ρ1.set i (slOf r)))) = some o := ef
    split at ef
    · cases ef
    · rename_i hr
      cases ef
      exact w σ H _ ⟨G, B, F, ρ, r, ρ1, rp, q, fun v F1 H1 e1 rp1 rr => z _ F1 H1 e1 (rp1.set i rr (by simpa using hr))⟩
theorem es_setLc {vs : List Nat} {i : Nat} {y : Str} {py spos : Pos} {elt tg iter : Expr} {ifs : List Expr} {scope : Scope} {own : List (Str × Nat)} {pos : Pos} {t : Tg} {f1 fe : Fv} {fc : Fb} (hc : X.calm = true) (hN : X.N.Nodup) (hy : X.N[i]? = some y) (hl : List.lookup y X.env.scope.names = some NameKind.local) (hsw : swapsWith (elt.ListComp [⟨tg, iter, ifs, 0⟩] scope pos) (some (.Name y py)) spos.line X.env = pure true) (hi : PE X iter (tV X.K f1)) (ok : BlkOk X.N X.env.scope scope own)
    (hg : ∀ (s : Shared) (H : Hp) (C : Addr) (cl : List (Str × Addr)) (fp : List Addr), PG (X.blk s H scope (compEnvC scope cl C X.env) fp) tg (gT X.K t))
    (hf : ∀ (s : Shared) (H : Hp) (C : Addr) (cl : List (Str × Addr)) (fp : List Addr), PTs (X.blk s H scope (compEnvC scope cl C X.env) fp) ifs (tT X.K fc))
    (he : ∀ (s : Shared) (H : Hp) (C : Addr) (cl : List (Str × Addr)) (fp : List Addr), PE (X.blk s H scope (compEnvC scope cl C X.env) fp) elt (tV X.K fe))
    (hs : ∀ x : Value, foldedSetIterable iter X.env x = pure x) (ht : ∀ j, j ∈ t.ix → j ∈ vs) (hvs : (own.map fun x => x.snd) = vs) : PS X (.Assign [.Name y py] (elt.ListComp [⟨tg, iter, ifs, 0⟩] scope pos) spos) (tS X.K (setF i (lcE vs t f1 fc fe))) := by
  subst hvs
  exact PS.weak (ps_setLc (i := i) hc hN hy hl hsw (PI.or (pi_list hi) (pi_tup hi)) ok hg hf he hs) fun D σ H h => wk_setLc (fun σ H Q => wk_lc ht σ H Q) D σ H h
def augIF (i : Nat) (g : Int → Int → Int) (f : Fv) : Fs := fun ρ => match ρ[i]? with
  | some (.val (.int a)) => (match f ρ with
    | some (.int b, ρ1) => if isRef ρ1 i then none else some (.nx (ρ1.set i (.val (.int (g a b)))))
    | _ => none)
  | _ => none
theorem es_aug {x : Str} {i : Nat} {pos pos' : Pos} {e : Expr} {op : Operator} {g : Int → Int → Int} {f : Fv} (hp : PIp X op (ipI g)) (nd : X.N.Nodup) (hN : X.N[i]? = some x) (hl : L2.Loc X.env.scope x) (h : PE X e (tV X.K f)) (hf : X.fn x = true ∨ List.lookup x X.env.scope.names = some NameKind.local) : PS X (.AugAssign (.Name x pos') op e pos) (tS X.K (augIF i g f)) :=
  PS.weak (ps_aug (i := i) nd hN hl h hp hf) fun D σ H ⟨G, B, F, ρ, o, rp, ef, z⟩ => by
    unfold augIF at ef
    split at ef
    · rename_i a ha
      split at ef
      · rename_i b ρ1 hb
        split at ef
        · cases ef
        · rename_i hr
          cases ef
          obtain ⟨v, a1, a2⟩ := rp.val i _ ha
          cases a2
          refine ⟨_, a1, G, B, F, ρ, _, ρ1, rp, hb, fun u F1 H1 e1 rp1 r1 => ?_⟩
          cases r1
          exact ⟨a, b, rfl, rfl, z _ F1 H1 e1 (rp1.set (r := .val (.int (g a b))) i (.int _) (by simpa using hr))⟩
      · cases ef
    · cases ef
end
end Ev
/-! Ev13 -/
namespace Ev
open PySem PySem.Spec PyProof.Rows L2
variable [Tabs]
/-- the module's name x is a def that keeps the promise ff, at level k -/
def CallD (P : Program) (w : World) (K : Frag) (mg : Str → Option Value) (base : Heap) (k : Nat) (x : Str) (ms : List Bool) (dds : List D) (ff : List D → Option (Re × List D)) : Prop :=
  ∃ (f : Addr) (fd : FuncData) (ps : List Str) (dvs : List V) (ds : List Value), FnOk P w K mg base CX0 k f fd ps (spD K ms ff) ∧ mg x = some (.ref f) ∧ W.keepIn K (.ref f) = true ∧ Binds K fd ps ds ∧ Vals dvs ds ∧ ∀ F : Hp, Rs K F dvs dds
theorem spD_none {K : Frag} {ms : List Bool} {vs : List V} {H : Hp} {Q : VK} {E : XK} : ¬spD K ms (fun _ => none) vs H Q E := fun ⟨G, B, F, ds, r, ds', _, _, h, _⟩ => by cases h
theorem fn_zero {P : Program} {w : World} {K : Frag} {mg : Str → Option Value} {base : Heap} {CX : CXT} {f : Addr} {fd : FuncData} {ps : List Str} {ms : List Bool} {k : Nat} : FnOk P w K mg base CX k f fd ps (spD K ms fun _ => none) :=
  ⟨fun vs H Q E h => absurd h spD_none, fun A outer s H args us vs Q E _ _ _ _ h => absurd h spD_none⟩
section
variable {X : Cx}
theorem ev_c {k : Nat} {ms : List Bool} {ff : List D → Option (Re × List D)} {dds : List D} {x : Str} {p pos : Pos} {e : Expr} {es : List Expr} {fa : Fa}
    (G : CallD X.prog X.w X.K X.mg X.base k x ms dds ff) (hr : Room k X.A) (gl : Gl X x) (ha : PA X (e :: es) (tA X.K fa))
    (h1 : (x == Str.ofString "__debug__") = false) (h2 : starEach (e :: es) X.env = (false, eval e X.env) :: starEach es X.env) (h3 : ((backTo pos (starEach es X.env)).any fun x => x.fst) = false) : PE X (.Call (.Name x p) (e :: es) [] pos) (tE X.K (callE ms dds ff fa)) := by
  obtain ⟨f, fd, ps, dvs, ds, g1, g2, g3, g4, g5, g6⟩ := G
  exact ev_call g1 hr gl g2 g3 g4 g5 g6 pass0 ha h1 h2 h3
theorem ev_c0 {k : Nat} {ms : List Bool} {ff : List D → Option (Re × List D)} {dds : List D} {x : Str} {p pos : Pos}
    (G : CallD X.prog X.w X.K X.mg X.base k x ms dds ff) (hr : Room k X.A) (gl : Gl X x) (h1 : (x == Str.ofString "__debug__") = false) : PE X (.Call (.Name x p) [] [] pos) (tE X.K (callE ms dds ff anilF)) := by
  obtain ⟨f, fd, ps, dvs, ds, g1, g2, g3, g4, g5, g6⟩ := G
  exact ev_call0 g1 hr gl g2 g3 g4 g5 g6 pass0 h1
theorem ev_len {a : Expr} {f : Fa} {p pos : Pos} (gl : Gl X "len") (hm : X.mg "len" = none) (ha : PA X [a] (tA X.K f)) (h3 : starEach [a] X.env = (false, eval a X.env) :: starEach [] X.env) : PE X (.Call (.Name "len" p) [a] [] pos) (tE X.K (opLE (fun ds => (gLen ds).or (gLenS ds)) f)) :=
  ev_blt (CallR.or call_len_seq call_len_str) (gLen_ok.or gLenS_ok) gl hm boot_len ha (by decide) (by decide) h3 rfl
theorem ev_tuple {a : Expr} {f : Fa} {p pos : Pos} (gl : Gl X "tuple") (hm : X.mg "tuple" = none) (ha : PA X [a] (tA X.K f)) (h3 : starEach [a] X.env = (false, eval a X.env) :: starEach [] X.env) : PE X (.Call (.Name "tuple" p) [a] [] pos) (tE X.K (opLE gTuple f)) :=
  ev_bty call_tuple_of gTuple_ok gl hm (by decide +kernel) ha (by decide) (by decide) h3 rfl
theorem ev_list {a : Expr} {f : Fa} {p pos : Pos} (gl : Gl X "list") (hm : X.mg "list" = none) (ha : PA X [a] (tA X.K f)) (h3 : starEach [a] X.env = (false, eval a X.env) :: starEach [] X.env) : PE X (.Call (.Name "list" p) [a] [] pos) (tE X.K (opLE gList f)) :=
  ev_bty call_list_of gList_ok gl hm (by decide +kernel) ha (by decide) (by decide) h3 rfl
theorem ev_int {a : Expr} {f : Fa} {p pos : Pos} (gl : Gl X "int") (hm : X.mg "int" = none) (ha : PA X [a] (tA X.K f)) (h3 : starEach [a] X.env = (false, eval a X.env) :: starEach [] X.env) : PE X (.Call (.Name "int" p) [a] [] pos) (tE X.K (opLE gInt f)) :=
  ev_bty call_int1 gInt_ok gl hm (by decide +kernel) ha (by decide) (by decide) h3 rfl
/-- a name of the module that is a constant -/
theorem ev_glob {x : Str} {v : V} {u : Value} {d : D} {pos : Pos} (gl : Gl X x) (hm : X.mg x = some u) (hv : RelV v u) (hr : ∀ F : Hp, R X.K F v d) (h1 : (x == Str.ofString "__debug__") = false) : PE X (.Name x pos) (tE X.K (conE d)) := ev_con (pe_glob gl hm hv h1) hr
theorem setItF_or {g g' : D → D → D → Option D} {k : Nat} {fe fi : Fv} {ρ : EnvD} {o : Out} (h : setItF (fun c y d => (g c y d).or (g' c y d)) k fe fi ρ = some o) : setItF g k fe fi ρ = some o ∨ setItF g' k fe fi ρ = some o := by
  obtain ⟨d, ρ1, c0, y, ρ2, c, c', q1, q2, q3, q4, q5, rfl⟩ := setItF_inv h
  unfold setItF
  rw [q1]
  simp only [q2, q3, q4]
  cases q6 : g c y d with
  | some d2 =>
    rw [q6] at q5
    cases q5
    exact .inl rfl
  | none =>
    rw [q6] at q5
    have q5 : g' c y d = some c' := q5
    rw [q5]
    exact .inr rfl
abbrev gPut2 (c y d : D) : Option D := (gSetL c y d).or (gPutK c y d)
theorem es_setI {b e : Expr} {fe fi : Fv} {pos pos' pos2 : Pos} {x : Str} {k : Nat} (hu : X.A.units + 1 < cLine) (hN : X.N[k]? = some x) (hv : Vis X.env.scope x) (hd : (x == ("__debug__" : Str)) = false) (hcd : (x == ("__classdict__" : Str)) = false) (he : PE X e (tV X.K fe)) (hi : PE X b (tV X.K fi))
    (ha : ∀ v : Value, assign (Expr.Subscript (.Name x pos') b pos2) X.env v = do
      let ov ← holding [v] (eval (.Name x pos') X.env)
      let iv ← holding [v, ov] (eval b X.env)
      standAt pos2
      holding [v, ov, iv] (setItem ov iv v)
      release [v, ov, iv] [])
    (h1 : swapsWithSole [Expr.Subscript (.Name x pos') b pos2] e pos.line X.env = pure false) (h2 : swappedStores [Expr.Subscript (.Name x pos') b pos2] e X.env = pure none) (h3 : List.map (fun x => x.snd) (assignEach [Expr.Subscript (.Name x pos') b pos2] X.env) = [assign (Expr.Subscript (.Name x pos') b pos2) X.env]) (h4 : swapsWith e (some (Expr.Subscript (.Name x pos') b pos2)) pos.line X.env = pure false) :
    PS X (.Assign [.Subscript (.Name x pos') b pos2] e pos) (tS X.K (setItF gPut2 k fe fi)) :=
  PS.weak (PS.or (es_setL hN hv hd hcd he hi ha h1 h2 h3) (es_putK hu hN hv hd hcd he hi h4)) fun D σ H ⟨G, B, F, ρ, o, rp, ef, z⟩ => by
    rcases setItF_or ef with h | h
    · exact .inl ⟨G, B, F, ρ, o, rp, h, z⟩
    · exact .inr ⟨G, B, F, ρ, o, rp, h, z⟩
end
end Ev
/-! Ev14 -/
namespace Ev
open PySem PySem.Spec PyProof.Rows L2
variable [Tabs]
/-- what a table by texts holds -/
def KTab (K : Frag) (w : World) (p : Addr) (tab : List (Str × D)) : Prop := ∀ z d, tab.lookup z = some d → ∃ v, KDct K w p z v ∧ ∀ F : Hp, R K F v d
def kgetE (tab : List (Str × D)) (f : Fv) : Fe := fun ρ => match f ρ with
  | some (.str z, ρ1) => (tab.lookup z).map fun d => (.val d, ρ1)
  | _ => none
section
variable {X : Cx} {b : Expr} {f2 : Fv} {pos pos' : Pos} {x : Str} {p : Addr}
theorem ev_kget {tab : List (Str × D)} (gl : Gl X x) (hm : X.mg x = some (.ref p)) (ht : KTab X.K X.w p tab) (hb : PE X b (tV X.K f2)) (hs : PlainIx b) (h1 : (x == Str.ofString "__debug__") = false) : PE X (.Subscript (.Name x pos') b pos) (tE X.K (kgetE tab f2)) :=
  PE.weak (pe_ix ix_kdict (pe_glob (v := .ref p) gl hm (by exact rfl) h1) hb hs) fun σ H Q ⟨G, B, F, ρ, z, ρ', rp, ef, k⟩ => by
    unfold kgetE at ef
    cases q1 : f2 ρ with
    | none => rw [q1] at ef; cases ef
    | some y =>
      obtain ⟨d, ρ1⟩ := y
      rw [q1] at ef
      cases d <;> try cases ef
      rename_i z0
      have ef : (tab.lookup z0).map (fun d => (Re.val d, ρ1)) = some (z, ρ') := ef
      obtain ⟨d, e1, e2⟩ := Option.map_eq_some_iff.mp ef
      cases e2
      obtain ⟨v, hv, hr⟩ := ht z0 d e1
      refine ⟨G, B, F, ρ, _, _, rp, q1, fun u F1 H1 e rp1 r1 => ?_⟩
      cases r1
      exact ⟨p, z0, v, rfl, rfl, hv, k v F1 H1 e rp1 (hr F1)⟩
/-- what a table by lists of texts holds -/
structure KLed (P : Program) (w : World) (K : Frag) (p : Addr) (tab : List (List Str × D)) : Prop where
  ex : ∃ (xs : List (List Str × Addr × Value)) (es : Array DictEntry) (n : Nat), K.lookup p = some { cls := .type "dict", data := .dict es n } ∧ (∀ h : Heap, K.In h → Heap.DictOfH (LedRun.knd P w) h p xs) ∧
    ∀ z d, tab.lookup z = some d → ∃ va, (atKey xs z).map (·.2) = some va ∧ ∃ v, RelV v va ∧ ∀ F : Hp, R K F v d
def rLed (P : Program) (w : World) (K : Frag) (p : Addr) (tab : List (List Str × D)) : R2 := fun x y H Q => ∃ a zs d, x = .ref p ∧ y = .ref a ∧ H a = some (.tup (zs.map V.str)) ∧ tab.lookup zs = some d ∧ ∀ v, (∀ F : Hp, R K F v d) → Q v H
theorem items_of {P : Program} {w : World} : ∀ {zs : List Str} {its : List Value}, Vals (zs.map V.str) its → ItemsAre (strKind P w) zs its
  | [], _, h => by
    cases h
    exact .nil
  | z :: zs, _, h => by
    cases h with
    | cons h t =>
      obtain ⟨tk, rfl⟩ := h
      exact .cons (by show (z == z) = true; exact beq_self_eq_true z) (items_of t)
theorem ix_led {tab : List (List Str × D)} (hu : X.A.units + 64 < cLine) (T : KLed X.prog X.w X.K p tab) : IxR X (rLed X.prog X.w X.K p tab) := by
  intro value slice pins s σ H x y v u Q I rx ry h hs
  obtain ⟨a, zs, d, rfl, rfl, ha, hd, hq⟩ := h
  obtain ⟨xs, es, n, hl, hdict, hv⟩ := T.ex
  obtain ⟨va, e1, w1, rw1, hr⟩ := hv zs d hd
  obtain ⟨pr, e2, e3⟩ := Option.map_eq_some_iff.mp e1
  have rx : v = .ref p := rx
  have ry : u = .ref a := ry
  subst rx
  subst ry
  have hdo := hdict s.heap I.kIn
  have hk : (LedRun.knd X.prog X.w).is s.heap zs a := by
    have ho := I.hok a _ ha
    unfold ObjOk at ho
    obtain ⟨_, its, hv2, o, g1, g2, m, g3⟩ := ho
    refine ⟨o, its.toArray, m, g1, g2, g3, ?_⟩
    show ItemsAre (strKind X.prog X.w) zs its
    exact items_of hv2
  have ty : s.TypeIs (.ref p) "dict" := hdo.typeIs
  refine tail_any ty slot_dict_getitem.lookup ?_ hs
  refine wpAny_getItem_heap (knd := LedRun.knd X.prog X.w) (k := zs) (p := pr) ?_ hk hdo e2 ?_
  · show X.A.units + 1 < cLine
    omega
  · refine ⟨w1, H, I.tok _, ?_, hq w1 hr⟩
    rw [e3]
    exact rw1
/-- x[a, b, ..] by texts -/
def ledE (tab : List (List Str × D)) (g : Fl) : Fe := fun ρ => match g ρ with
  | some (ds, ρ1) => (match strsOf ds with
    | some zs => if isLine zs.length then (tab.lookup zs).map fun d => (.val d, ρ1) else none
    | none => none)
  | none => none
theorem ev_led {tab : List (List Str × D)} {es : List Expr} {kk : Nat} {posT : Pos} {g : Fl} (hu : X.A.units + 64 < cLine) (gl : Gl X x) (hm : X.mg x = some (.ref p)) (T : KLed X.prog X.w X.K p tab) (hb : PA X es (tL X.K g)) (hs : PlainIx (.Tuple es kk posT)) (h1 : (x == Str.ofString "__debug__") = false) : PE X (.Subscript (.Name x pos') (.Tuple es kk posT) pos) (tE X.K (ledE tab g)) :=
  PE.weak (pe_ix (ix_led hu T) (pe_glob (v := .ref p) gl hm (by exact rfl) h1) (pe_tup hb) hs) fun σ H Q ⟨G, B, F, ρ, z, ρ', rp, ef, k⟩ => by
    unfold ledE at ef
    cases q1 : g ρ with
    | none => rw [q1] at ef; cases ef
    | some y =>
      obtain ⟨ds, ρ1⟩ := y
      rw [q1] at ef
      simp only at ef
      cases q2 : strsOf ds with
      | none => rw [q2] at ef; cases ef
      | some zs =>
        rw [q2] at ef
        simp only at ef
        split at ef <;> try cases ef
        rename_i hl
        obtain ⟨d, e1, e2⟩ := Option.map_eq_some_iff.mp ef
        cases e2
        refine ⟨G, B, F, ρ, _, _, rp, q1, fun vs F1 H1 e rp1 r1 => ?_⟩
        rw [strsOf_ok q2] at r1
        have ev := Rs.strs_inv r1
        subst ev
        refine ⟨?_, fun a ha => ?_⟩
        · rw [List.length_map]
          exact of_decide_eq_true hl
        · obtain ⟨rp2, ex⟩ := rp1.newF (o := .tup (zs.map V.str)) ha
          exact ⟨a, zs, d, rfl, rfl, upd_same, e1, fun v hr => k v _ _ (e.trans ex) rp2 (hr _)⟩
end
end Ev
/-! CompN -/
namespace Ev
open PySem PySem.Spec PyProof.Rows L2
abbrev NoE : Value → Shared → Prop := fun _ _ => False
abbrev WBody := (Shared → Prop) → Shared → Prop
def turnPre (prog : Program) (w : World) (A : Around) (t : Expr) (ifs : List Expr) (it : Value) (env : Env) (WB : WBody) (Done Again : Shared → Prop) (s : Shared) : Prop :=
  wpAny (model prog w) A (pyNext it) (fun r s1 => match r with
    | none => Done s1
    | some v => wpAny (model prog w) A (letOwnedTupleGo t it v) (fun _ s2 => wpAny (model prog w) A (assign t env v) (fun _ s3 =>
        wpAny (model prog w) A (forIn ifs true fun c r => if r = true then do let ok ← isTrue c env (eval c env); pure (ForInStep.yield ok) else pure (ForInStep.yield r)) (fun ok s4 => if ok = true then WB Again s4 else Again s4) NoE s3) NoE s2) NoE s1) NoE s
def wbIn (prog : Program) (w : World) (A : Around) (e : Expr) (k : Nat) (acc : Value) (i1 : Expr) (env : Env) : WBody := fun Post s =>
  wpAny (model prog w) A (eval i1 env) (fun x s4 => wpAny (model prog w) A (pyIter x) (fun it1 s5 => codeAny (model prog w) A (.compStart e k it1 acc env) (fun r s' => match r with
    | .ok _ => Post s'
    | .error _ => False) s5) NoE s4) NoE s
def wbApp (prog : Program) (w : World) (A : Around) (elt : Expr) (acc : Value) (env : Env) : WBody := fun Post s =>
  wpAny (model prog w) A (eval elt env) (fun x s4 => wpAny (model prog w) A (call (.builtin "list.append") [acc, x]) (fun _ s5 => Post s5) NoE s4) NoE s
/-- a turn of the loop at depth k does what turnPre says, with this body -/
def TurnIs (prog : Program) (w : World) (A : Around) (e : Expr) (k : Nat) (t : Expr) (ifs : List Expr) (acc : Value) (env : Env) (WB : WBody) : Prop :=
  ∀ (it : Value) (s : Shared) (Done Again : Shared → Prop), turnPre prog w A t ifs it env WB Done Again s →
    wpAny (model prog w) A (compTurn e k it acc env) (fun fin s' => match fin with
      | .done f => f = .next ∧ Done s'
      | .again c => c = .compLoop e k it acc env ∧ Again s') NoE s
/-- a comprehension that runs in the frame as it is -/
structure Plain (prog : Program) (w : World) (A : Around) (e : Expr) : Prop where
  u1 : ∀ k it acc env, A.under (.compLoop e k it acc env) = A
  d1 : ∀ k it acc env, (model prog w).den (.compLoop e k it acc env) = (compTurn e k it acc env).onRaise (fun x => do noteFrame x env; theTreesLotGoes x)
  u2 : ∀ k it acc env, A.under (.compStart e k it acc env) = A
  d2 : ∀ k it acc env, (model prog w).den (.compStart e k it acc env) = (compStart e k it acc env).onRaise (fun x => do noteFrame x env; standAt theWindowsPlace)
theorem plain_lc {prog : Program} {w : World} {A : Around} {elt : Expr} {gens : List Comprehension} {scope : Scope} {pos : Pos} : Plain prog w A (.ListComp elt gens scope pos) := ⟨fun _ _ _ _ => rfl, fun _ _ _ _ => rfl, fun _ _ _ _ => rfl, fun _ _ _ _ => rfl⟩
theorem plain_sc {prog : Program} {w : World} {A : Around} {elt : Expr} {gens : List Comprehension} {scope : Scope} {pos : Pos} : Plain prog w A (.SetComp elt gens scope pos) := ⟨fun _ _ _ _ => rfl, fun _ _ _ _ => rfl, fun _ _ _ _ => rfl, fun _ _ _ _ => rfl⟩
theorem plain_dc {prog : Program} {w : World} {A : Around} {a b : Expr} {gens : List Comprehension} {scope : Scope} {pos : Pos} : Plain prog w A (.DictComp a b gens scope pos) := ⟨fun _ _ _ _ => rfl, fun _ _ _ _ => rfl, fun _ _ _ _ => rfl, fun _ _ _ _ => rfl⟩
section
variable {prog : Program} {w : World} {A : Around} {R : Result → Shared → Prop} {s : Shared} {env : Env} {e elt : Expr} {gens : List Comprehension} {scope : Scope} {pos : Pos} {k : Nat} {it acc : Value} {t0 i0 t1 i1 : Expr} {ifs0 ifs1 : List Expr}
theorem lc_out_eq (h0 : gens[k]? = some ⟨t0, i0, ifs0, 0⟩) (h1 : gens[k + 1]? = some ⟨t1, i1, ifs1, 0⟩) : compTurn (.ListComp elt gens scope pos) k it acc env = (do
    standAt i0.pos
    match ← pyNext it with
    | none => pure (.done .next)
    | some v =>
      letOwnedTupleGo t0 it v
      assign t0 env v
      let mut good := true
      for c in ifs0 do
        if good then good ← isTrue c env (eval c env)
      if good then
        let x ← eval i1 env
        standAt i1.pos
        let x ← foldedSetIterable i1 env x
        let _ ← runOwn (.compStart (.ListComp elt gens scope pos) (k + 1) (← holding [x] (pyIter x)) acc env) env
      again (.compLoop (.ListComp elt gens scope pos) k it acc env)) := by
  unfold compTurn
  dsimp only
  rw [h0, h1]
  rfl
theorem lc_in_eq (h0 : gens[k]? = some ⟨t0, i0, ifs0, 0⟩) (h1 : gens[k + 1]? = none) : compTurn (.ListComp elt gens scope pos) k it acc env = (do
    standAt i0.pos
    match ← pyNext it with
    | none => pure (.done .next)
    | some v =>
      letOwnedTupleGo t0 it v
      assign t0 env v
      let mut good := true
      for c in ifs0 do
        if good then good ← isTrue c env (eval c env)
      if good then
        (do let _ ← call (.builtin "list.append") [acc, ← eval elt env])
      again (.compLoop (.ListComp elt gens scope pos) k it acc env)) := by
  unfold compTurn
  dsimp only
  rw [h0, h1]
  rfl
theorem noF {α : Type} {m : Sem α} {Q Q' : α → Shared → Prop} {E : Value → Shared → Prop} {s : Shared} (h : wpAny (model prog w) A m Q NoE s) (k : ∀ a s, Q a s → Q' a s) : wpAny (model prog w) A m Q' E s := wpAny_mono h k fun _ _ z => z.elim
theorem lc_turn_out (h0 : gens[k]? = some ⟨t0, i0, ifs0, 0⟩) (h1 : gens[k + 1]? = some ⟨t1, i1, ifs1, 0⟩) (hs : ∀ x, foldedSetIterable i1 env x = pure x) : TurnIs prog w A (.ListComp elt gens scope pos) k t0 ifs0 acc env (wbIn prog w A (.ListComp elt gens scope pos) (k + 1) acc i1 env) := by
  intro it s Done Again h
  rw [lc_out_eq h0 h1]
  refine wpAny_bind (wpAny_standAt (wpAny_bind (noF h (fun r s1 h1 => ?_))))
  cases r with
  | none => exact wpAny_pure ⟨rfl, h1⟩
  | some v =>
    refine wpAny_bind (noF h1 fun _ s2 h2 => ?_)
    refine wpAny_bind (noF h2 fun _ s3 h3 => wpAny_bind (noF h3 fun ok s4 h4 => ?_))
    cases ok with
    | false => exact wpAny_pure ⟨rfl, h4⟩
    | true =>
      refine wpAny_bind (noF h4 fun x s5 h5 => ?_)
      refine wpAny_bind (wpAny_standAt (wpAny_bind (wpAny_of_eq (hs x) (wpAny_bind (wpAny_holding (noF h5 fun it1 s6 h6 => ?_))))))
      refine wpAny_bind (wpAny_runOwn ?_)
      rw [Around.mark_none]
      refine codeAny_mono h6 fun r s' hr => ?_
      cases r with
      | ok f =>
        first
          | exact wpAny_pure ⟨rfl, hr⟩
          | exact wpAny_bind (wpAny_pure (wpAny_pure ⟨rfl, hr⟩))
      | error e => exact hr.elim
theorem lc_turn_in (h0 : gens[k]? = some ⟨t0, i0, ifs0, 0⟩) (h1 : gens[k + 1]? = none) : TurnIs prog w A (.ListComp elt gens scope pos) k t0 ifs0 acc env (wbApp prog w A elt acc env) := by
  intro it s Done Again h
  rw [lc_in_eq h0 h1]
  refine wpAny_bind (wpAny_standAt (wpAny_bind (noF h (fun r s1 h1 => ?_))))
  cases r with
  | none => exact wpAny_pure ⟨rfl, h1⟩
  | some v =>
    refine wpAny_bind (noF h1 fun _ s2 h2 => ?_)
    refine wpAny_bind (noF h2 fun _ s3 h3 => wpAny_bind (noF h3 fun ok s4 h4 => ?_))
    cases ok with
    | false => exact wpAny_pure ⟨rfl, h4⟩
    | true => exact wpAny_bind (wpAny_bind (noF h4 fun x s5 h5 => wpAny_bind (noF h5 fun _ s6 h6 => wpAny_pure (wpAny_pure ⟨rfl, h6⟩))))
theorem loop_of (hp : Plain prog w A e) {t : Expr} {ifs : List Expr} {WB : WBody} (hT : TurnIs prog w A e k t ifs acc env WB) (I : Nat → Shared → Prop) {Done : Shared → Prop} (hR : ∀ s', Done s' → R (.ok .next) s')
    (turn : ∀ n s, I n s → turnPre prog w A t ifs it env WB Done (fun s' => ∃ m, m < n ∧ I m s') s) (n : Nat) (h : I n s) : codeAny (model prog w) A (.compLoop e k it acc env) R s := by
  refine codeAny_loop rfl I (fun n s hI => ?_) n h
  rw [hp.u1, hp.d1]
  refine wpAny_noted (noF (hT it s _ _ (turn n s hI)) fun fin s' hf => ?_)
  cases fin with
  | done f =>
    obtain ⟨rfl, hd⟩ := hf
    exact hR s' hd
  | again c => exact hf
theorem start_of (hp : Plain prog w A e) {t i : Expr} {ifs : List Expr} (hg : (clausesOf e)[k]? = some ⟨t, i, ifs, 0⟩) (h0 : codeAny (model prog w) A (.compLoop e k it acc env) R s)
    (h : wpAny (model prog w) A (pyIter it) (fun it' s' => codeAny (model prog w) A (.compLoop e k it' acc env) R s') NoE s) : codeAny (model prog w) A (.compStart e k it acc env) R s := by
  refine codeAny_of_tree ?_
  rw [hp.u2, hp.d2]
  refine wpAny_notedAt ?_
  unfold compStart
  rw [hg]
  show wpAny _ _ (ask >>= _) _ _ s
  refine wpAny_bind (wpAny_askSetting (wpAny_ite ?_))
  split
  · first
      | exact wpAny_bind (wpAny_pure (wpAny_pure (And.intro rfl h0)))
      | exact wpAny_pure (And.intro rfl h0)
  · first
      | exact wpAny_bind (wpAny_rule (wpAny_bind (wpAny_standAt (wpAny_bind (noF h (fun it' s' h' => wpAny_pure (And.intro rfl h')))))))
      | (refine wpAny_bind (wpAny_rule ?_); show wpAny _ _ (standAt i.pos >>= _) _ _ s; exact wpAny_bind (wpAny_standAt (wpAny_bind (noF h (fun it' s' h' => wpAny_pure (And.intro rfl h'))))))
end
abbrev TB := L2.St → Hp → (L2.St → Hp → Prop) → Prop
def PB (X : Cx) (WB : WBody) (T : TB) : Prop := ∀ (pins : List (Addr × Obj)) (s : Shared) (σ : L2.St) (H : Hp) (Q : L2.St → Hp → Prop) (Post : Shared → Prop), Inv X pins σ H s → T σ H Q → (∀ σ' H' s', Inv X pins σ' H' s' → Q σ' H' → Post s') → WB Post s
def tEmit (te : TE) (D : Addr) : TB := fun σ H Q => te σ H fun y H7 => ∃ acc, H7 D = some (.lst acc) ∧ acc.length < sizeLine ∧ Q σ (upd H7 D (.lst (acc ++ [y])))
def tLoopN (wi : TI) (g : TG) (tt : TT) (T : TB) (vs : List Nat) : TB := fun σ H Q => wi σ H fun J H1 => ∃ W : Nat → Nat → Hp → Prop, (∃ m, W 0 m H1) ∧ ∀ j k H, W j k H →
  (J.stop j H ∧ Q (wipe σ vs) H) ∨ (J.go j H ∧ ∃ Nx : Hp → Prop, (∀ H', Nx H' → ∃ k', k' < k ∧ W (j + 1) k' H') ∧ ∀ x H', J.yld j H x H' → g x (wipe σ vs) H' fun σ3 H5 => wipe σ3 vs = wipe σ vs ∧ tt σ3 H5 fun b H6 =>
    if b = true then T σ3 H6 (fun σ4 H7 => wipe σ4 vs = wipe σ vs ∧ Nx H7) else Nx H6)
theorem pb_emit {X : Cx} {elt : Expr} {te : TE} {D : Addr} (hx : X.xe = NoE) (he : PE X elt te) : PB X (wbApp X.prog X.w X.A elt (.ref D) X.env) (tEmit te D) := by
  intro pins s σ H Q Post I h k
  have r := he.run pins s σ H _ I h
  rw [hx] at r
  refine thnF r fun z s1 ⟨yv, H1, I1, r1, acc, hD, hz, nx⟩ => ?_
  exact app_ok I1 hD hz r1 fun s2 I2 => k _ _ s2 I2 nx
theorem pb_loop {X : Cx} {e tg iter : Expr} {ifs : List Expr} {k : Nat} {acc : Value} {wi : TI} {g : TG} {tt : TT} {T : TB} {WB : WBody} {vs : List Nat} (hx : X.xe = NoE) (hc : X.calm = true) (hp : Plain X.prog X.w X.A e) (hT : TurnIs X.prog X.w X.A e k tg ifs acc X.env WB) (hcl : (clausesOf e)[k]? = some ⟨tg, iter, ifs, 0⟩)
    (hi : PI X tg iter wi) (hg : PG X tg g) (ht : PTs X ifs tt) (hb : PB X WB T) : PB X (wbIn X.prog X.w X.A e k acc iter X.env) (tLoopN wi g tt T vs) := by
  intro pins s σ H Q Post I h hP
  have r := hi.run pins s σ H _ I h
  rw [hx] at r
  refine thnF r fun xv s1 hx1 => thnF hx1 fun itv s2 h2 => ?_
  obtain ⟨it1, fp, tn, J, H2, e1, I2, T1, st2, f2, W, ⟨m1, w1⟩, turn⟩ := h2
  subst e1
  have stat1 : ∀ {H' : Hp}, (∀ b ∈ fp, H' b = none) → ∀ b ∈ fp, FpOk X pins H' b := fun hn b hb => ⟨hn b hb, (f2 b hb).2⟩
  have loop1 : codeAny (model X.prog X.w) X.A (.compLoop e k (.ref it1) acc X.env) (fun r s' => match r with
      | .ok _ => Post s'
      | .error _ => False) s2 := by
    refine loop_of hp hT (fun n s' => ∃ j H', Inv X pins (wipe σ vs) H' s' ∧ tn j s'.heap ∧ (∀ b ∈ fp, H' b = none) ∧ W j n H') (Done := Post) (fun s' h => h) (fun n s3 hI => ?_) m1 ⟨0, H2, I2.weak (wipe_length _ _) (fun j v e => (wipe_some e).1), st2, fun b hb => (f2 b hb).1, w1⟩
    obtain ⟨j, H3, I3, st3, n3, w3⟩ := hI
    rcases turn j n H3 w3 with ⟨stop, nx⟩ | ⟨go, Nx, hNx, step⟩
    · refine thnF (T1.done X rfl rfl rfl hc j _ s3 (wipe σ vs) H3 (fun _ _ => False) I3 (stat1 n3) st3 stop) fun r s4 ⟨hr, I4⟩ => ?_
      subst hr
      exact hP _ _ _ I4 nx
    · refine thnF (T1.item X rfl rfl rfl hc j _ s3 (wipe σ vs) H3 (fun _ _ => False) I3 (stat1 n3) st3 go) fun r s4 ⟨u, hr, h4⟩ => ?_
      subst hr
      refine thnF h4 fun _ s5 ⟨x, H5, I5, r5, y5, st5, n5⟩ => ?_
      have I5' := I5.pinned (stat1 n5) (T1.obj _ _ st5)
      have rg := hg.run _ s5 (wipe σ vs) H5 x u _ I5' r5 (step x H5 y5)
      rw [hx] at rg
      refine thnF rg fun _ s6 ⟨σ6, H6, I6, hw6, q6⟩ => ?_
      have rt := ht.run _ s6 σ6 H6 _ I6 q6
      rw [hx] at rt
      refine thnF rt fun b s7 ⟨H7, I7, q7⟩ => ?_
      have fin : ∀ {σ' : L2.St} {s' : Shared} {H' : Hp}, Inv X (pins ++ pinsAt fp s5.heap) σ' H' s' → wipe σ' vs = wipe σ vs → Nx H' → ∃ m, m < n ∧ ∃ j H', Inv X pins (wipe σ vs) H' s' ∧ tn j s'.heap ∧ (∀ b ∈ fp, H' b = none) ∧ W j m H' := fun {σ' s' H'} I' hw nx => by
        obtain ⟨m', hm, w'⟩ := hNx H' nx
        have pin' : ∀ b ∈ fp, ∀ o, s5.heap.get? b = some o → s'.heap.get? b = some o ∧ H' b = none := fun b hb o e =>
          let z := I'.pin (b, o) (List.mem_append_right _ (List.mem_append_right _ (mem_pinsAt hb e)))
          ⟨z.1, z.2.1⟩
        refine ⟨m', hm, j + 1, H', I'.unpinned.weak (by rw [← hw, wipe_length]) (fun j v e => by rw [← hw] at e; exact (wipe_some e).1), T1.keep _ _ _ st5 fun b hb o e => (pin' b hb o e).1, fun b hb => ?_, w'⟩
        obtain ⟨o, e, _⟩ := T1.obj _ _ st5 b hb
        exact (pin' b hb o e).2
      cases b with
      | false =>
        simp only [Bool.false_eq_true, if_false] at q7 ⊢
        exact fin I7 hw6 q7
      | true =>
        simp only [if_true] at q7 ⊢
        exact hb _ s7 σ6 H7 _ _ I7 q7 fun σ' H' s' I' ⟨hw, nx⟩ => fin I' hw nx
  exact start_of hp hcl loop1 (T1.self X.A 0 _ _ _ st2 loop1)
end Ev
/-! CompN2 -/
namespace Ev
open PySem PySem.Spec PyProof.Rows L2
section
variable {X : Cx}
/-- [elt for tg in iter if .. ..]: T says what stands behind the first for, of the new list at D -/
def tLcN (wi : TI) (g : TG) (tt : TT) (T : Addr → TB) (vs : List Nat) : TE := fun σ H Q => wi σ H fun J H1 => ∀ D, H1 D = none → ∃ W : Nat → Nat → Hp → Prop, (∃ m, W 0 m (upd H1 D (.lst []))) ∧ ∀ i m H, W i m H →
  (J.stop i H ∧ Q (.ref D) H) ∨ (J.go i H ∧ ∃ Nxt : Hp → Prop, (∀ Hx, Nxt Hx → ∃ mx, mx < m ∧ W (i + 1) mx Hx) ∧ ∀ x Hx, J.yld i H x Hx → g x (wipe σ vs) Hx fun σ2 Ha => wipe σ2 vs = wipe σ vs ∧ tt σ2 Ha fun b Hb =>
    if b = true then T D σ2 Hb (fun σ4 H4 => wipe σ4 vs = wipe σ vs ∧ Nxt H4) else Nxt Hb)
theorem lcN_core {pins : List (Addr × Obj)} {s : Shared} {σ : L2.St} {H : Hp} {Q : VK} {elt tg iter : Expr} {ifs : List Expr} {rest : List Comprehension} {scope : Scope} {own : List (Str × Nat)} {pos posx : Pos} {wi : TI} {g : TG} {tt : TT} {T : Addr → TB} {WB : Env → Addr → WBody} {use : Option (Value → Sem Unit)} {Qa : Value → Shared → Prop}
    (hc : X.calm = true) (hN : X.N.Nodup) (I : Inv X pins σ H s) (hi : PI X tg iter wi) (ok : BlkOk X.N X.env.scope scope own)
    (hg : ∀ (s : Shared) (H : Hp) (C : Addr) (cl : List (Str × Addr)) (cs : List Addr), PG (X.blk s H scope (compEnvC scope cl C X.env) cs) tg g) (ht : ∀ (s : Shared) (H : Hp) (C : Addr) (cl : List (Str × Addr)) (cs : List Addr), PTs (X.blk s H scope (compEnvC scope cl C X.env) cs) ifs tt)
    (hT : ∀ (env : Env) (D : Addr), TurnIs X.prog X.w X.A (.ListComp elt (⟨tg, iter, ifs, 0⟩ :: rest) scope pos) 0 tg ifs (.ref D) env (WB env D))
    (hb : ∀ (D : Addr) (s : Shared) (H : Hp) (C : Addr) (cl : List (Str × Addr)) (cs : List Addr), PB (X.blk s H scope (compEnvC scope cl C X.env) cs) (WB (compEnvC scope cl C X.env) D) (T D)) (hs : ∀ x, foldedSetIterable iter X.env x = pure x)
    (h : tLcN wi g tt T (own.map (·.2)) σ H Q)
    (fin0 : ∀ D C sx m Hx, Inv X pins σ Hx sx → Q (.ref D) Hx → sx.heap.Ns C m → FpOk X pins Hx C → compPost (model X.prog X.w) X.A X.xe use Qa (.ref D) C (.ok .next) sx) :
    wpAny (model X.prog X.w) X.A (comprehension (.ListComp elt (⟨tg, iter, ifs, 0⟩ :: rest) scope pos) scope X.env posx (newList []) false (eval iter X.env) use) Qa X.xe s := by
  have frees : ∀ y ∈ scope.names, y.2 = .free → ∃ c, X.env.cells.lookup y.1 = some c := fun y hy e => by
    rcases ok.free y hy e with k | k
    · exact I.ok.has _ (.inl k)
    · exact I.ok.has _ (.inr k)
  refine wpAny_comprehension_free (use := use) rfl hs (closure_ok frees) ok.kind (fun y hy e => by rw [ok.uniq y hy, e])
    (thn (hi.run pins s σ H _ I h) fun xa ta hx => thn hx fun xi tb ka => ?_)
  obtain ⟨it, cs, stn, J, Ha, e, Ja, Tn, ga, la, q⟩ := ka
  subst e
  refine wpAny_newObj_type (newEnv_comp ?_) (by show 0 ≤ sizeLine; decide)
  generalize hD : tb.heap.objs.size = D
  have newD : Ha D = none := Ja.hok.fresh (Nat.le_of_eq hD)
  obtain ⟨W, ⟨ma0, wa⟩, each⟩ := q D newD
  generalize e3 : ({ tb with heap := tb.heap.push { cls := .type "list", data := .seq ([] : List Value).toArray } } : Shared) = tc
  have Jb : Inv X pins σ (upd Ha D (.lst [])) tc := by
    rw [← e3]
    refine Ja.laid (t' := tb.toks) (fun b o e => Heap.get?_push_of_some _ e) (Nat.le_of_eq hD) ⟨Nat.zero_le _, [], 0, .nil, ?_⟩
    rw [← hD]
    exact Heap.get?_push_size _ rfl
  have kb : tc.heap = tb.heap.push { cls := .type "list", data := .seq ([] : List Value).toArray } := by rw [← e3]
  have below : ∀ b ∈ cs, b < tb.heap.objs.size := fun b hb => by
    obtain ⟨o, e, _⟩ := Tn.obj _ _ ga b hb
    exact Heap.lt_size e
  have lb : ∀ b ∈ cs, FpOk X pins (upd Ha D (.lst [])) b ∧ b < tc.heap.objs.size := fun b hb => by
    have hlt := below b hb
    refine ⟨⟨?_, (la b hb).2⟩, by rw [kb, Heap.size_push]; exact Nat.lt_succ_of_lt hlt⟩
    rw [upd_ne (by rw [← hD]; exact Nat.ne_of_lt hlt)]
    exact (la b hb).1
  have gb : stn 0 tc.heap := Tn.keep _ _ _ ga fun b _ o e => by rw [kb]; exact Heap.get?_push_of_some _ e
  have Jc := block_start Jb ok hN lb
  have pgt := hg tc (upd Ha D (.lst [])) tc.heap.objs.size (cellsFrom (tc.heap.objs.size + 1) scope.names (cloFrom X.env.cells scope.names [])) cs
  have pts := ht tc (upd Ha D (.lst [])) tc.heap.objs.size (cellsFrom (tc.heap.objs.size + 1) scope.names (cloFrom X.env.cells scope.names [])) cs
  have pbd := hb D tc (upd Ha D (.lst [])) tc.heap.objs.size (cellsFrom (tc.heap.objs.size + 1) scope.names (cloFrom X.env.cells scope.names [])) cs
  show codeAny _ _ (.compStart (.ListComp elt (⟨tg, iter, ifs, 0⟩ :: rest) scope pos) 0 (.ref it) (.ref D) (compEnvC scope (cellsFrom (tc.heap.objs.size + 1) scope.names (cloFrom X.env.cells scope.names [])) tc.heap.objs.size X.env)) (compPost (model X.prog X.w) X.A X.xe use Qa (.ref D) tc.heap.objs.size) { tc with heap := pushCells (tc.heap.push { cls := .type "dict", data := .dict #[] }) scope.names }
  have noCs : ∀ b ∈ cs, (upd Ha D (.lst [])) b = none := fun b hb => (lb b hb).1.1
  generalize eCe : compEnvC scope (cellsFrom (tc.heap.objs.size + 1) scope.names (cloFrom X.env.cells scope.names [])) tc.heap.objs.size X.env = cenv at Jc pgt pts pbd ⊢
  have locs : cenv.locals = tc.heap.objs.size := by subst eCe; rfl
  generalize e5 : upd Ha D (.lst []) = Hb at Jb Jc pgt pts pbd wa noCs lb
  generalize e4 : ({ tc with heap := pushCells (tc.heap.push { cls := .type "dict", data := .dict #[] }) scope.names } : Shared) = td at Jc ⊢
  have gc : stn 0 td.heap := Tn.keep _ _ _ gb fun b _ o e => by rw [← e4]; exact pushCells_keeps _ _ _ _ (Heap.get?_push_of_some _ e)
  have stands : ∀ {σx : L2.St} {Hx : Hp} {sx : Shared}, Inv (X.blk tc Hb scope cenv cs) [] σx Hx sx → (∀ b ∈ cs, Hx b = none) → ∀ b ∈ cs, FpOk (X.blk tc Hb scope cenv cs) [] Hx b := fun {σx Hx sx} Jx en b hb =>
    ⟨en b hb, (Jx.ok.exf b hb).1, Jx.ok.exfs b hb, .inl hb, fun x c e => (Jx.ok.exf b hb).2 x c e, fun p hp => absurd (show p ∈ ([] : List (Addr × Obj)) ++ [] from hp) (by simp)⟩
  have lp : codeAny (model X.prog X.w) X.A (.compLoop (.ListComp elt (⟨tg, iter, ifs, 0⟩ :: rest) scope pos) 0 (.ref it) (.ref D) cenv) (compPost (model X.prog X.w) X.A X.xe use Qa (.ref D) tc.heap.objs.size) td := by
    refine loop_of plain_lc (hT cenv D) (fun n sx => ∃ i Hx, Inv (X.blk tc Hb scope cenv cs) [] (wipe σ (own.map (·.2))) Hx sx ∧ stn i sx.heap ∧ (∀ b ∈ cs, Hx b = none) ∧ W i n Hx) (fun sx h => h) (fun n te1 hI => ?_) ma0 ⟨0, Hb, Jc, gc, noCs, wa⟩
    obtain ⟨i, Hd, Jd, gd, ne, we⟩ := hI
    rcases each i n Hd we with ⟨stop, qz⟩ | ⟨go, Nxt, eNx, stp⟩
    · have td := Tn.done (X.blk tc Hb scope cenv cs) rfl rfl rfl hc i [] te1 _ Hd (fun _ _ => False) Jd (stands Jd ne) gd stop
      refine thnF td fun r tf ⟨er, Je⟩ => ?_
      subst er
      have Jf : Inv X pins σ Hd tf := Jb.call' (ch := cs) Je.os Je.base Je.hok Je.bare fun b hb => ⟨(lb b hb).1.2.2.2.1, (lb b hb).1.2.1, (lb b hb).1.2.2.2.2.1, (lb b hb).1.2.2.2.2.2⟩
      have notC : Hd tc.heap.objs.size = none := by
        have z : Hd cenv.locals = none := Je.free
        rw [locs] at z
        exact z
      obtain ⟨m, en, _⟩ := Je.loc
      have en : tf.heap.Ns cenv.locals m := en
      rw [locs] at en
      exact fin0 D tc.heap.objs.size tf m Hd Jf qz en (Jb.fpOk (Nat.le_refl _) notC)
    · have ti := Tn.item (X.blk tc Hb scope cenv cs) rfl rfl rfl hc i [] te1 _ Hd (fun _ _ => False) Jd (stands Jd ne) gd go
      refine thnF ti fun r tf ⟨u, er, kf⟩ => ?_
      subst er
      refine thnF kf fun _ tg1 ⟨x, Hf, Jf, rf, yf, gf, ng⟩ => ?_
      have Jf' := Jf.pinned (stands Jf ng) (Tn.obj _ _ gf)
      refine thnF (pgt.run _ tg1 _ Hf x u _ Jf' rf (stp x Hf yf)) fun _ th ⟨σa, Hg, Jg, ewg, qg⟩ => ?_
      refine thnF (pts.run _ th σa Hg _ Jg qg) fun b ti ⟨Hh, Jh, qh⟩ => ?_
      have fin : ∀ {σb : L2.St} {sx : Shared} {Hx : Hp}, Inv (X.blk tc Hb scope cenv cs) ([] ++ pinsAt cs tg1.heap) σb Hx sx → wipe σb (own.map (·.2)) = wipe σ (own.map (·.2)) → Nxt Hx →
          ∃ m, m < n ∧ ∃ i Hx, Inv (X.blk tc Hb scope cenv cs) [] (wipe σ (own.map (·.2))) Hx sx ∧ stn i sx.heap ∧ (∀ b ∈ cs, Hx b = none) ∧ W i m Hx := fun {σb sx Hx} Jx ew nx => by
        obtain ⟨mx, em, wx⟩ := eNx Hx nx
        have pinx : ∀ b ∈ cs, ∀ o, tg1.heap.get? b = some o → sx.heap.get? b = some o ∧ Hx b = none := fun b hb o e =>
          let z := Jx.pin (b, o) (List.mem_append_right _ (List.mem_append_right _ (mem_pinsAt hb e)))
          ⟨z.1, z.2.1⟩
        refine ⟨mx, em, i + 1, Hx, (Jx.unpinned (pins := [])).weak (by rw [← ew, wipe_length]) (fun j v e => by rw [← ew] at e; exact (wipe_some e).1), Tn.keep _ _ _ gf fun b hb o e => (pinx b hb o e).1, fun b hb => ?_, wx⟩
        obtain ⟨o, e, _⟩ := Tn.obj _ _ gf b hb
        exact (pinx b hb o e).2
      cases b with
      | false =>
        simp only [Bool.false_eq_true, if_false] at qh ⊢
        exact fin Jh ewg qh
      | true =>
        simp only [if_true] at qh ⊢
        exact pbd _ ti σa Hh _ _ Jh qh fun σx Hx sx Jx ⟨ew, nx⟩ => fin Jx ew nx
  exact codeAny_compStart_list lp (Tn.self X.A 0 _ _ _ gc lp)
variable {elt tg iter : Expr} {ifs : List Expr} {rest : List Comprehension} {scope : Scope} {own : List (Str × Nat)} {pos : Pos} {wi : TI} {g : TG} {tt : TT} {T : Addr → TB} {WB : Env → Addr → WBody}
theorem pe_lcN (hc : X.calm = true) (hN : X.N.Nodup) (hi : PI X tg iter wi) (ok : BlkOk X.N X.env.scope scope own)
    (hg : ∀ (s : Shared) (H : Hp) (C : Addr) (cl : List (Str × Addr)) (cs : List Addr), PG (X.blk s H scope (compEnvC scope cl C X.env) cs) tg g) (ht : ∀ (s : Shared) (H : Hp) (C : Addr) (cl : List (Str × Addr)) (cs : List Addr), PTs (X.blk s H scope (compEnvC scope cl C X.env) cs) ifs tt)
    (hT : ∀ (env : Env) (D : Addr), TurnIs X.prog X.w X.A (.ListComp elt (⟨tg, iter, ifs, 0⟩ :: rest) scope pos) 0 tg ifs (.ref D) env (WB env D))
    (hb : ∀ (D : Addr) (s : Shared) (H : Hp) (C : Addr) (cl : List (Str × Addr)) (cs : List Addr), PB (X.blk s H scope (compEnvC scope cl C X.env) cs) (WB (compEnvC scope cl C X.env) D) (T D)) (hs : ∀ x, foldedSetIterable iter X.env x = pure x) :
    PE X (.ListComp elt (⟨tg, iter, ifs, 0⟩ :: rest) scope pos) (tLcN wi g tt T (own.map (·.2))) := by
  refine ⟨fun pins s σ H Q I h => ?_⟩
  rw [eval_ListComp]
  refine lcN_core hc hN I hi ok hg ht hT hb hs h fun D C sx m Hx Jx q en f => ⟨m, en, fun h'' sb => ?_⟩
  obtain ⟨f0, f1, la, lb, f4, f5⟩ := f
  exact ⟨.ref D, Hx, Jx.turned (t' := sx.toks) (fun b o hb e => (sb.2 b hb).trans e) f0 f1 lb f4 f5, rfl, q⟩
theorem ps_setLcN {i : Nat} {y : Str} {py spos : Pos} (hc : X.calm = true) (hN : X.N.Nodup) (hy : X.N[i]? = some y) (hyl : X.env.scope.names.lookup y = some .local)
    (hsw : swapsWith (.ListComp elt (⟨tg, iter, ifs, 0⟩ :: rest) scope pos) (some (.Name y py)) spos.line X.env = pure true) (hi : PI X tg iter wi) (ok : BlkOk X.N X.env.scope scope own)
    (hg : ∀ (s : Shared) (H : Hp) (C : Addr) (cl : List (Str × Addr)) (cs : List Addr), PG (X.blk s H scope (compEnvC scope cl C X.env) cs) tg g) (ht : ∀ (s : Shared) (H : Hp) (C : Addr) (cl : List (Str × Addr)) (cs : List Addr), PTs (X.blk s H scope (compEnvC scope cl C X.env) cs) ifs tt)
    (hT : ∀ (env : Env) (D : Addr), TurnIs X.prog X.w X.A (.ListComp elt (⟨tg, iter, ifs, 0⟩ :: rest) scope pos) 0 tg ifs (.ref D) env (WB env D))
    (hb : ∀ (D : Addr) (s : Shared) (H : Hp) (C : Addr) (cl : List (Str × Addr)) (cs : List Addr), PB (X.blk s H scope (compEnvC scope cl C X.env) cs) (WB (compEnvC scope cl C X.env) D) (T D)) (hs : ∀ x, foldedSetIterable iter X.env x = pure x) :
    PS X (.Assign [.Name y py] (.ListComp elt (⟨tg, iter, ifs, 0⟩ :: rest) scope pos) spos) (tAsg (tLcN wi g tt T (own.map (·.2))) (gName i)) := by
  refine ⟨fun pins s σ H D I h => ?_⟩
  rw [exec_Assign_Name_used _ _ _ _ hsw]
  refine wpAny_bind (wpAny_standAt (wpAny_bind ?_))
  show wpAny _ X.A (do let _ ← comprehension (.ListComp elt (⟨tg, iter, ifs, 0⟩ :: rest) scope pos) scope X.env (firstIterPos (⟨tg, iter, ifs, 0⟩ :: rest) pos) (newList []) false (eval iter X.env) (some (assign (.Name y py) X.env))) _ _ s
  have h : tLcN wi g tt T (own.map (·.2)) σ H (fun x H1 => gName i x σ H1 D.nx) := h
  refine wpAny_bind (thn (lcN_core (Qa := fun _ sx => SP X pins D .next sx) hc hN I hi ok hg ht hT hb hs h fun L C sx m Hx Jx q en f => ?_) fun _ sx hq => wpAny_pure (wpAny_pure hq))
  show wpAny _ _ (assign (.Name y py) X.env (.ref L)) _ _ _
  refine wpAny_assign_Name (store_ok2 (v := V.ref L) Jx hN hy (.inl hyl) rfl (fun tb Ja ⟨a, sb, ha⟩ => ?_) (.inr hyl))
  obtain ⟨f0, f1, la, lb, f4, f5⟩ := f
  have haC : C ≠ a := by
    rcases ha with z | z
    · rw [z]; exact f1
    · exact fun e => f4 y a z e.symm
  refine ⟨m, en.sameBut sb haC, fun kb sb3 => ?_⟩
  exact ⟨_, Hx, Ja.turned (t' := tb.toks) (fun b o hb e => (sb3.2 b hb).trans e) f0 f1 lb f4 f5, q⟩
end
end Ev
/-! Ev15 -/
namespace Ev
open PySem PySem.Spec PyProof.Rows L2
variable [Tabs]
abbrev Fk := EnvD → List D → Option (List D × EnvD)
/-- one for: its names, target, source, test -/
structure DC where
  vs : List Nat
  t : Tg
  it : Fv
  c : Fb
def lcForN (vs : List Nat) (t : Tg) (c : Fb) (k : Fk) : List D → List D → EnvD → Option (List D × EnvD)
  | [], acc, ρ => some (acc, ρ)
  | d :: ds, acc, ρ => match putT t d ρ with
    | none => none
    | some ρ1 => match c ρ1 with
      | none => none
      | some (false, ρ2) => if noCell ρ2 vs then lcForN vs t c k ds acc (clr ρ2 vs) else none
      | some (true, ρ2) => match k ρ2 acc with
        | none => none
        | some (acc2, ρ3) => if noCell ρ3 vs then lcForN vs t c k ds acc2 (clr ρ3 vs) else none
def emitF (e : Fv) : Fk := fun ρ acc => match e ρ with
  | some (y, ρ1) => if decide (acc.length < sizeLine) then some (acc ++ [y], ρ1) else none
  | none => none
def loopF2 (cl : DC) (k : Fk) : Fk := fun ρ acc => match cl.it ρ with
  | some (d, ρ1) => (match itemsOf d with
    | some ds => if noCell ρ1 cl.vs then lcForN cl.vs cl.t cl.c k ds acc (clr ρ1 cl.vs) else none
    | none => none)
  | none => none
def lcNE (cl : DC) (k : Fk) : Fe := fun ρ => match cl.it ρ with
  | some (d, ρ1) => (match itemsOf d with
    | some ds => if noCell ρ1 cl.vs then (match lcForN cl.vs cl.t cl.c k ds [] (clr ρ1 cl.vs) with
      | some (acc, ρ2) => some (.new (.lst acc), back ρ1 (clr ρ2 cl.vs) cl.vs)
      | none => none) else none
    | none => none)
  | none => none
/-- the reading of a body: the list so far stands at D0 -/
def tBD (K : Frag) (D0 : Addr) (k : Fk) (vs : List Nat) : TB := fun σ H Q => ∃ G B F ρ acc as o ρ', G D0 = none ∧ Rep K (upd G D0 (.lst acc)) B F H ρ σ ∧ Rs K F acc as ∧ k ρ as = some (o, ρ') ∧
  ∀ σ' F' H' acc', Ex F F' → Rep K (upd G D0 (.lst acc')) B F' H' ρ' σ' → Rs K F' acc' o → Same vs σ σ' → Q σ' H'
theorem PB.weak {X : Cx} {WB : WBody} {T T' : TB} (h : PB X WB T) (w : ∀ σ H Q, T' σ H Q → T σ H Q) : PB X WB T' := fun pins s σ H Q Post I q k => h pins s σ H Q Post I (w σ H Q q) k
theorem same_refl {vs : List Nat} {σ : L2.St} : Same vs σ σ := ⟨rfl, fun _ _ => rfl⟩
theorem wk_emit {K : Frag} {D0 : Addr} {e : Fv} {vs : List Nat} (σ : L2.St) (H : Hp) (Q : L2.St → Hp → Prop) (h : tBD K D0 (emitF e) vs σ H Q) : tEmit (tV K e) D0 σ H Q := by
  obtain ⟨G, B, F, ρ, acc, as, o, ρ', hG, rp, ra, ek, z⟩ := h
  unfold emitF at ek
  cases q : e ρ with
  | none => rw [q] at ek; cases ek
  | some y =>
    obtain ⟨y, ρ1⟩ := y
    rw [q] at ek
    simp only at ek
    split at ek
    · rename_i hl
      cases ek
      refine ⟨_, B, F, ρ, y, _, rp, q, fun v F1 H1 e1 rp1 r1 => ?_⟩
      refine ⟨acc, rp1.exG D0 _ upd_same, by rw [ra.len]; exact of_decide_eq_true hl, ?_⟩
      exact z σ F1 _ (acc ++ [v]) e1 (rp1.chG (o' := .lst (acc ++ [v]))) ((ra.mono e1).app (Rs.one r1)) same_refl
    · cases ek
/-- a walk by place: what is to be shown of the end and of each place before it -/
theorem by_place {n : Nat} {stop go : Nat → Hp → Prop} {yld : Nat → Hp → V → Hp → Prop} {Body : V → Hp → (Hp → Prop) → Prop} {Fin : Hp → Prop} {H1 : Hp} (Pv : Nat → Hp → Prop) (first : Pv 0 H1) (last : ∀ H, Pv n H → stop n H ∧ Fin H) (mid : ∀ i H, i < n → Pv i H → go i H ∧ ∀ x H', yld i H x H' → Body x H' (Pv (i + 1))) :
    ∃ W : Nat → Nat → Hp → Prop, (∃ m, W 0 m H1) ∧ ∀ i m H, W i m H → (stop i H ∧ Fin H) ∨ (go i H ∧ ∃ Nx : Hp → Prop, (∀ H', Nx H' → ∃ m', m' < m ∧ W (i + 1) m' H') ∧ ∀ x H', yld i H x H' → Body x H' Nx) := by
  exists fun i m H => i + m = n ∧ Pv i H
  constructor
  · exact ⟨n, Nat.zero_add n, first⟩
  intro i m H w
  cases m with
  | zero =>
    have e : i = n := w.1
    exact .inl (e ▸ last H (e ▸ w.2))
  | succ m =>
    have lt : i < n := by have := w.1; omega
    have g := mid i H lt w.2
    exact .inr ⟨g.1, Pv (i + 1), fun H' p => ⟨m, Nat.lt_succ_self m, by have := w.1; omega, p⟩, g.2⟩
/-- a list walked -/
theorem walk_list {K : Frag} {a : Addr} {xs : List V} {H1 : Hp} {Body : V → Hp → (Hp → Prop) → Prop} {Fin : Hp → Prop} (Pv : Nat → Hp → Prop) (h0 : Pv 0 H1) (hl : ∀ i H, i ≤ xs.length → Pv i H → SqL K H a xs) (hs : ∀ (i : Nat) x H, xs[i]? = some x → Pv i H → Body x H (Pv (i + 1))) (hd : ∀ H, Pv xs.length H → Fin H) :
    ∃ W : Nat → Nat → Hp → Prop, (∃ m, W 0 m H1) ∧ ∀ i m H, W i m H → ((Itl K a).stop i H ∧ Fin H) ∨ ((Itl K a).go i H ∧ ∃ Nx : Hp → Prop, (∀ H', Nx H' → ∃ m', m' < m ∧ W (i + 1) m' H') ∧ ∀ x H', (Itl K a).yld i H x H' → Body x H' Nx) :=
  by_place Pv h0 (fun H p => ⟨⟨xs, hl _ H (Nat.le_refl _) p, Nat.le_refl _⟩, hd H p⟩)
    (fun i H lt p => ⟨⟨xs, xs[i], hl i H (Nat.le_of_lt lt) p, List.getElem?_eq_getElem lt⟩, fun x H' y => y.1 ▸ hs i x _ (y.2 xs (hl i H (Nat.le_of_lt lt) p)) p⟩)
theorem walk_tup {K : Frag} {a : Addr} {xs : List V} {H1 : Hp} {Body : V → Hp → (Hp → Prop) → Prop} {Fin : Hp → Prop} (Pv : Nat → Hp → Prop) (h0 : Pv 0 H1) (hl : ∀ i H, i ≤ xs.length → Pv i H → SqT K H a xs) (hs : ∀ (i : Nat) x H, xs[i]? = some x → Pv i H → Body x H (Pv (i + 1))) (hd : ∀ H, Pv xs.length H → Fin H) :
    ∃ W : Nat → Nat → Hp → Prop, (∃ m, W 0 m H1) ∧ ∀ i m H, W i m H → ((Itt K a).stop i H ∧ Fin H) ∨ ((Itt K a).go i H ∧ ∃ Nx : Hp → Prop, (∀ H', Nx H' → ∃ m', m' < m ∧ W (i + 1) m' H') ∧ ∀ x H', (Itt K a).yld i H x H' → Body x H' Nx) :=
  by_place Pv h0 (fun H p => ⟨⟨xs, hl _ H (Nat.le_refl _) p, Nat.le_refl _⟩, hd H p⟩)
    (fun i H lt p => ⟨⟨xs, xs[i], hl i H (Nat.le_of_lt lt) p, List.getElem?_eq_getElem lt⟩, fun x H' y => y.1 ▸ hs i x _ (y.2 xs (hl i H (Nat.le_of_lt lt) p)) p⟩)
def NTurn (K : Frag) (G : Hp) (B : List (Nat × Addr)) (F : Hp) (vs : List Nat) (t : Tg) (c : Fb) (k : Fk) (ds : List D) (D0 : Addr) (σ : L2.St) (o : List D × EnvD) (i : Nat) (H : Hp) : Prop :=
  ∃ F1 ρ1 acc as, Ex F F1 ∧ Rep K (upd G D0 (.lst acc)) B F1 H (clr ρ1 vs) (wipe σ vs) ∧ Rs K F1 acc as ∧ lcForN vs t c k (ds.drop i) as (clr ρ1 vs) = some o
section
variable {K : Frag} {G : Hp} {B : List (Nat × Addr)} {F F' H H' : Hp} {ρ ρ' ρ0 : EnvD} {σ σ' : L2.St} {vs vs' : List Nat} {t : Tg} {c : Fb} {k : Fk} {ds : List D} {D0 : Addr} {o : List D × EnvD} {xs : List V}
theorem nturn_ok {i : Nat} {x : V} (hG : G D0 = none) (rs : Rs K F xs ds) (ht : ∀ j, j ∈ t.ix → j ∈ vs) (hv : ∀ j, j ∈ vs' → j ∈ vs) (hx : xs[i]? = some x) (q : NTurn K G B F vs t c k ds D0 σ o i H) :
    gT K t x (wipe σ vs) H fun σ2 H2 => wipe σ2 vs = wipe σ vs ∧ tT K c σ2 H2 fun b H3 =>
      if b = true then tBD K D0 k vs' σ2 H3 (fun σ4 H4 => wipe σ4 vs = wipe σ vs ∧ NTurn K G B F vs t c k ds D0 σ o (i + 1) H4)
      else NTurn K G B F vs t c k ds D0 σ o (i + 1) H3 := by
  obtain ⟨F1, ρ1, acc, as, e1, rp1, ra, q1⟩ := q
  obtain ⟨d, hd, hr⟩ := rs.getV hx
  obtain ⟨hl, hde⟩ := List.getElem?_eq_some_iff.mp hd
  rw [List.drop_eq_getElem_cons hl, hde] at q1
  unfold lcForN at q1
  cases q2 : putT t d (clr ρ1 vs) with
  | none => rw [q2] at q1; cases q1
  | some ρ2 =>
    simp only [q2] at q1
    refine ⟨_, B, F1, clr ρ1 vs, d, ρ2, rp1, hr.mono e1, q2, fun σ2 s2 rp2 => ?_⟩
    have w2 : wipe σ2 vs = wipe σ vs := by rw [wipe_same s2 ht, wipe_wipe]
    refine ⟨w2, ?_⟩
    cases q3 : c ρ2 with
    | none => simp only [q3] at q1; cases q1
    | some y =>
      obtain ⟨b, ρ3⟩ := y
      simp only [q3] at q1
      refine ⟨_, B, F1, ρ2, b, ρ3, rp2, q3, fun F3 H3 e3 rp3 => ?_⟩
      cases b with
      | false =>
        refine iteF ?_
        have q1 : (if noCell ρ3 vs = true then lcForN vs t c k (ds.drop (i + 1)) as (clr ρ3 vs) else none) = some o := q1
        split at q1
        · rename_i hn
          have rp4 := rp3.wipe hn
          rw [w2] at rp4
          exact ⟨F3, ρ3, acc, as, e1.trans e3, rp4, ra.mono e3, q1⟩
        · cases q1
      | true =>
        refine iteT ?_
        have q1 : (match k ρ3 as with
          | none => none
          | some (acc2, ρ3) => if noCell ρ3 vs = true then lcForN vs t c k (ds.drop (i + 1)) acc2 (clr ρ3 vs) else none) = some o := q1
        cases q4 : k ρ3 as with
        | none => rw [q4] at q1; cases q1
        | some y =>
          obtain ⟨as2, ρ4⟩ := y
          rw [q4] at q1
          have q1 : (if noCell ρ4 vs = true then lcForN vs t c k (ds.drop (i + 1)) as2 (clr ρ4 vs) else none) = some o := q1
          split at q1
          · rename_i hn
            refine ⟨G, B, F3, ρ3, acc, as, as2, ρ4, hG, rp3, ra.mono e3, q4, fun σ4 F4 H4 acc4 e4 rp4 ra4 s4 => ?_⟩
            have w4 : wipe σ4 vs = wipe σ vs := by rw [wipe_same s4 hv, w2]
            refine ⟨w4, ?_⟩
            have rp5 := rp4.wipe hn
            rw [w4] at rp5
            exact ⟨F4, ρ4, acc4, as2, (e1.trans e3).trans e4, rp5, ra4, q1⟩
          · cases q1
theorem nturn_start {ρ1 : EnvD} {D0 : Addr} (rp : Rep K G B F H ρ1 σ) (hn : noCell ρ1 vs = true) (hD : H D0 = none) (q : lcForN vs t c k ds [] (clr ρ1 vs) = some o) : G D0 = none ∧ NTurn K G B F vs t c k ds D0 σ o 0 (upd H D0 (.lst [])) := by
  obtain ⟨a, b, g, d⟩ := rp.new (o := .lst []) hD
  refine ⟨g, F, ρ1, [], [], Ex.refl F, ?_, .nil, q⟩
  have r2 := a.wipe hn
  refine r2.inG upd_same b g fun i e' h z => ?_
  have hi : i ∉ vs := fun hi => by
    have z2 := wipe_in hi z
    cases z2
  rw [wipe_out hi] at z
  refine d i e' ?_ z
  unfold cellOf at h ⊢
  rw [clr_out hi] at h
  exact h
theorem clr_clr {ρ3 : EnvD} : clr (clr ρ3 vs) vs = clr ρ3 vs := by
  apply List.ext_getElem?
  intro i
  by_cases hi : i ∈ vs
  · have l1 : (clr (clr ρ3 vs) vs).length = (clr ρ3 vs).length := clr_length _ _
    cases e1 : (clr (clr ρ3 vs) vs)[i]? with
    | none =>
      rw [List.getElem?_eq_none_iff] at e1
      rw [eq_comm, List.getElem?_eq_none_iff]
      omega
    | some x =>
      cases e2 : (clr ρ3 vs)[i]? with
      | none =>
        rw [List.getElem?_eq_none_iff] at e2
        have := (List.getElem?_eq_some_iff.mp e1).1
        omega
      | some y => rw [clr_in hi e1, clr_in hi e2]
  · rw [clr_out hi]
theorem nturn_end {acc : List D} {ρ1 ρ2 : EnvD} (rs : Rs K F xs ds) (rp : Rep K G B F H ρ1 σ) (hn : noCell ρ1 vs = true) (hG : G D0 = none) (q : NTurn K G B F vs t c k ds D0 σ (acc, ρ2) xs.length H') : ∃ F', Ex F F' ∧ Rep K G B F' H' (back ρ1 (clr ρ2 vs) vs) σ ∧ RRe K G F' H' (back ρ1 (clr ρ2 vs) vs) σ (.ref D0) (.new (.lst acc)) := by
  obtain ⟨F1, ρ3, as, bs, e1, rp1, ra, q1⟩ := q
  rw [rs.len, List.drop_length] at q1
  cases q1
  rw [clr_clr]
  obtain ⟨r1, r2, r3, r4⟩ := rp1.outG hG
  have r5 := Rep.unwipe rp hn e1 r1
  refine ⟨F1, e1, r5, D0, rfl, r2, hG, ⟨as, r3, ra⟩, fun i e' h z => ?_⟩
  by_cases hi : i ∈ vs
  · have hl := cell_lt h
    rw [back_length] at hl
    have zz := noCell_of hn hi
    unfold cellOf at h zz
    rw [back_in hi hl (by rw [rp.len, r1.len, wipe_length])] at h
    rw [zz] at h
    cases h
  · refine r4 i e' ?_ (by rw [wipe_out hi]; exact z)
    unfold cellOf at h ⊢
    rw [back_out hi] at h
    exact h
/-- the source of a for: a list or a tuple -/
abbrev iLT (K : Frag) (f : Fv) : TI := fun σ H R => iList K (tV K f) σ H R ∨ iTup K (tV K f) σ H R
/-- what is to be shown of a source that is walked, of whatever kind -/
theorem wk_source {f : Fv} {d : D} {ρ1 : EnvD} {R : It → Hp → Prop} (rp : Rep K G B F H ρ σ) (q1 : f ρ = some (d, ρ1)) (hi : itemsOf d = some ds)
    (z : ∀ (a : Addr) (xs : List V) (F1 H1 : Hp), Ex F F1 → Rep K G B F1 H1 ρ1 σ → Rs K F1 xs ds → (SqL K F1 a xs → R (Itl K a) H1) ∧ (SqT K F1 a xs → R (Itt K a) H1)) : iLT K f σ H R := by
  cases d with
  | tup l =>
    cases hi
    refine .inr ⟨G, B, F, ρ, _, ρ1, rp, q1, fun v F1 H1 e1 rp1 r1 => ?_⟩
    cases r1 with
    | @tup p xs _ sq rs => exact ⟨p, rfl, ⟨xs, rp1.exF.seqT sq⟩, (z p xs F1 H1 e1 rp1 rs).2 sq⟩
  | lst l =>
    cases hi
    refine .inl ⟨G, B, F, ρ, _, ρ1, rp, q1, fun v F1 H1 e1 rp1 r1 => ?_⟩
    cases r1 with
    | @lst p xs _ sq rs => exact ⟨p, rfl, ⟨xs, SqL.of (rp1.exF _ _ sq)⟩, (z p xs F1 H1 e1 rp1 rs).1 (SqL.of sq)⟩
  | rol l =>
    cases hi
    refine .inl ⟨G, B, F, ρ, _, ρ1, rp, q1, fun v F1 H1 e1 rp1 r1 => ?_⟩
    cases r1 with
    | @rol p xs _ sq rs => exact ⟨p, rfl, ⟨xs, rp1.exF.seqL sq⟩, (z p xs F1 H1 e1 rp1 rs).1 sq⟩
  | _ => cases hi
theorem wk_loopN {cl : DC} {vs0 : List Nat} (ht : ∀ j, j ∈ cl.t.ix → j ∈ cl.vs) (hv : ∀ j, j ∈ vs' → j ∈ cl.vs) (hv0 : ∀ j, j ∈ cl.vs → j ∈ vs0) (σ : L2.St) (H : Hp) (Q : L2.St → Hp → Prop) (h : tBD K D0 (loopF2 cl k) vs0 σ H Q) :
    tLoopN (iLT K cl.it) (gT K cl.t) (tT K cl.c) (tBD K D0 k vs') cl.vs σ H Q := by
  obtain ⟨G, B, F, ρ, acc, as, o, ρ', hG, rp, ra, ek, z⟩ := h
  unfold loopF2 at ek
  cases q1 : cl.it ρ with
  | none => rw [q1] at ek; cases ek
  | some y =>
    obtain ⟨d, ρ1⟩ := y
    rw [q1] at ek
    simp only at ek
    cases q2 : itemsOf d with
    | none => rw [q2] at ek; cases ek
    | some ds =>
      rw [q2] at ek
      simp only at ek
      split at ek
      · rename_i hn
        refine wk_source rp q1 q2 fun a xs F1 H1 e1 rp1 rs => ?_
        have st : NTurn K G B F1 cl.vs cl.t cl.c k ds D0 σ (o, ρ') 0 H1 := ⟨F1, ρ1, acc, as, Ex.refl F1, rp1.wipe hn, ra.mono e1, ek⟩
        have fin : ∀ H', NTurn K G B F1 cl.vs cl.t cl.c k ds D0 σ (o, ρ') xs.length H' → Q (wipe σ cl.vs) H' := fun H' q => by
          obtain ⟨F2, ρ2, acc2, as2, e2, rp2, ra2, q3⟩ := q
          rw [rs.len, List.drop_length] at q3
          cases q3
          exact z _ F2 H' acc2 (e1.trans e2) rp2 ra2 ⟨wipe_length _ _, fun j hj => wipe_out fun h => hj (hv0 j h)⟩
        refine ⟨fun sq => walk_list (xs := xs) (Body := fun x H' Nx => gT K cl.t x (wipe σ cl.vs) H' fun σ3 H5 => wipe σ3 cl.vs = wipe σ cl.vs ∧ tT K cl.c σ3 H5 fun b H6 => if b = true then tBD K D0 k vs' σ3 H6 (fun σ4 H7 => wipe σ4 cl.vs = wipe σ cl.vs ∧ Nx H7) else Nx H6) (NTurn K G B F1 cl.vs cl.t cl.c k ds D0 σ (o, ρ')) st (fun i H _ q => ?_) (fun i x H hx q => nturn_ok hG rs ht hv hx q) fin, fun sq => walk_tup (xs := xs) (Body := fun x H' Nx => gT K cl.t x (wipe σ cl.vs) H' fun σ3 H5 => wipe σ3 cl.vs = wipe σ cl.vs ∧ tT K cl.c σ3 H5 fun b H6 => if b = true then tBD K D0 k vs' σ3 H6 (fun σ4 H7 => wipe σ4 cl.vs = wipe σ cl.vs ∧ Nx H7) else Nx H6) (NTurn K G B F1 cl.vs cl.t cl.c k ds D0 σ (o, ρ')) st (fun i H _ q => ?_) (fun i x H hx q => nturn_ok hG rs ht hv hx q) fin⟩
        · obtain ⟨F2, ρ2, _, _, e2, rp2, _, _⟩ := q
          exact rp2.exF.seqL (e2.seqL sq)
        · obtain ⟨F2, ρ2, _, _, e2, rp2, _, _⟩ := q
          exact rp2.exF.seqT (e2.seqT sq)
      · cases ek
theorem wk_lcN {cl : DC} (ht : ∀ j, j ∈ cl.t.ix → j ∈ cl.vs) (hv : ∀ j, j ∈ vs' → j ∈ cl.vs) (σ : L2.St) (H : Hp) (Q : VK) (h : tE K (lcNE cl k) σ H Q) :
    tLcN (iLT K cl.it) (gT K cl.t) (tT K cl.c) (fun D0 => tBD K D0 k vs') cl.vs σ H Q := by
  obtain ⟨G, B, F, ρ, r, ρ', rp, ef, z⟩ := h
  unfold lcNE at ef
  cases q1 : cl.it ρ with
  | none => rw [q1] at ef; cases ef
  | some y =>
    obtain ⟨d, ρ1⟩ := y
    rw [q1] at ef
    simp only at ef
    cases q2 : itemsOf d with
    | none => rw [q2] at ef; cases ef
    | some ds =>
      rw [q2] at ef
      simp only at ef
      split at ef
      · rename_i hn
        split at ef
        · rename_i acc ρ2 q3
          cases ef
          refine wk_source rp q1 q2 fun a xs F1 H1 e1 rp1 rs => ?_
          have go : ∀ D0, H1 D0 = none → G D0 = none ∧ NTurn K G B F1 cl.vs cl.t cl.c k ds D0 σ (acc, ρ2) 0 (upd H1 D0 (.lst [])) := fun D0 hD => nturn_start rp1 hn hD q3
          have fin : ∀ D0, G D0 = none → ∀ H', NTurn K G B F1 cl.vs cl.t cl.c k ds D0 σ (acc, ρ2) xs.length H' → Q (.ref D0) H' := fun D0 hG H' q => by
            obtain ⟨F2, e2, rp2, rr⟩ := nturn_end rs rp1 hn hG q
            exact z _ F2 H' (e1.trans e2) rp2 rr
          refine ⟨fun sq D0 hD => ?_, fun sq D0 hD => ?_⟩
          · obtain ⟨hG, st⟩ := go D0 hD
            refine walk_list (xs := xs) (Body := fun x H' Nx => gT K cl.t x (wipe σ cl.vs) H' fun σ3 H5 => wipe σ3 cl.vs = wipe σ cl.vs ∧ tT K cl.c σ3 H5 fun b H6 => if b = true then tBD K D0 k vs' σ3 H6 (fun σ4 H7 => wipe σ4 cl.vs = wipe σ cl.vs ∧ Nx H7) else Nx H6) (NTurn K G B F1 cl.vs cl.t cl.c k ds D0 σ (acc, ρ2)) st (fun i H _ q => ?_) (fun i x H hx q => nturn_ok hG rs ht hv hx q) (fin D0 hG)
            obtain ⟨F2, ρ2, _, _, e2, rp2, _, _⟩ := q
            exact rp2.exF.seqL (e2.seqL sq)
          · obtain ⟨hG, st⟩ := go D0 hD
            refine walk_tup (xs := xs) (Body := fun x H' Nx => gT K cl.t x (wipe σ cl.vs) H' fun σ3 H5 => wipe σ3 cl.vs = wipe σ cl.vs ∧ tT K cl.c σ3 H5 fun b H6 => if b = true then tBD K D0 k vs' σ3 H6 (fun σ4 H7 => wipe σ4 cl.vs = wipe σ cl.vs ∧ Nx H7) else Nx H6) (NTurn K G B F1 cl.vs cl.t cl.c k ds D0 σ (acc, ρ2)) st (fun i H _ q => ?_) (fun i x H hx q => nturn_ok hG rs ht hv hx q) (fin D0 hG)
            obtain ⟨F2, ρ2, _, _, e2, rp2, _, _⟩ := q
            exact rp2.exF.seqT (e2.seqT sq)
        · cases ef
      · cases ef
end
section
variable {X : Cx}
/-- a body that stands in each block -/
def BodyD (X : Cx) (scope : Scope) (WB : Env → Addr → WBody) (k : Fk) (vs : List Nat) : Prop := ∀ (D : Addr) (s : Shared) (H : Hp) (C : Addr) (cl : List (Str × Addr)) (fp : List Addr), PB (X.blk s H scope (compEnvC scope cl C X.env) fp) (WB (compEnvC scope cl C X.env) D) (tBD X.K D k vs)
theorem eb_emit {scope : Scope} {elt : Expr} {fe : Fv} {vs : List Nat} (he : ∀ (s : Shared) (H : Hp) (C : Addr) (cl : List (Str × Addr)) (fp : List Addr), PE (X.blk s H scope (compEnvC scope cl C X.env) fp) elt (tV X.K fe)) :
    BodyD X scope (fun env D => wbApp X.prog X.w X.A elt (.ref D) env) (emitF fe) vs := fun D s H C cl fp => PB.weak (pb_emit (X := X.blk s H scope (compEnvC scope cl C X.env) fp) rfl (he s H C cl fp)) fun σ H Q => wk_emit σ H Q
theorem eb_loop {scope : Scope} {e tg iter : Expr} {ifs : List Expr} {k : Nat} {c : DC} {kk : Fk} {WB : Env → Addr → WBody} {vs vs0 : List Nat} (hc : X.calm = true) (hp : ∀ A, Plain X.prog X.w A e) (hT : ∀ (env : Env) (D : Addr), TurnIs X.prog X.w X.A e k tg ifs (.ref D) env (WB env D)) (hcl : (clausesOf e)[k]? = some ⟨tg, iter, ifs, 0⟩)
    (hi : ∀ (s : Shared) (H : Hp) (C : Addr) (cl : List (Str × Addr)) (fp : List Addr), PE (X.blk s H scope (compEnvC scope cl C X.env) fp) iter (tV X.K c.it))
    (hg : ∀ (s : Shared) (H : Hp) (C : Addr) (cl : List (Str × Addr)) (fp : List Addr), PG (X.blk s H scope (compEnvC scope cl C X.env) fp) tg (gT X.K c.t))
    (hf : ∀ (s : Shared) (H : Hp) (C : Addr) (cl : List (Str × Addr)) (fp : List Addr), PTs (X.blk s H scope (compEnvC scope cl C X.env) fp) ifs (tT X.K c.c))
    (hb : BodyD X scope WB kk vs) (ht : ∀ j, j ∈ c.t.ix → j ∈ c.vs) (hv : ∀ j, j ∈ vs → j ∈ c.vs) (hv0 : ∀ j, j ∈ c.vs → j ∈ vs0) :
    BodyD X scope (fun env D => wbIn X.prog X.w X.A e k (.ref D) iter env) (loopF2 c kk) vs0 := fun D s H C cl fp =>
  PB.weak (pb_loop (X := X.blk s H scope (compEnvC scope cl C X.env) fp) (vs := c.vs) rfl hc (hp _) (hT _ D) hcl (PI.or (pi_list (hi s H C cl fp)) (pi_tup (hi s H C cl fp))) (hg s H C cl fp) (hf s H C cl fp) (hb D s H C cl fp)) fun σ H Q h => wk_loopN ht hv hv0 σ H Q h
theorem ev_lcN {elt tg iter : Expr} {ifs : List Expr} {rest : List Comprehension} {scope : Scope} {own : List (Str × Nat)} {pos : Pos} {c : DC} {kk : Fk} {WB : Env → Addr → WBody} {vs : List Nat} (hc : X.calm = true) (hN : X.N.Nodup) (hi : PE X iter (tV X.K c.it)) (ok : BlkOk X.N X.env.scope scope own)
    (hg : ∀ (s : Shared) (H : Hp) (C : Addr) (cl : List (Str × Addr)) (fp : List Addr), PG (X.blk s H scope (compEnvC scope cl C X.env) fp) tg (gT X.K c.t))
    (hf : ∀ (s : Shared) (H : Hp) (C : Addr) (cl : List (Str × Addr)) (fp : List Addr), PTs (X.blk s H scope (compEnvC scope cl C X.env) fp) ifs (tT X.K c.c))
    (hT : ∀ (env : Env) (D : Addr), TurnIs X.prog X.w X.A (.ListComp elt (⟨tg, iter, ifs, 0⟩ :: rest) scope pos) 0 tg ifs (.ref D) env (WB env D))
    (hb : BodyD X scope WB kk vs) (hs : ∀ x : Value, foldedSetIterable iter X.env x = pure x) (ht : ∀ j, j ∈ c.t.ix → j ∈ c.vs) (hv : ∀ j, j ∈ vs → j ∈ c.vs) (hvs : (own.map fun x => x.snd) = c.vs) :
    PE X (.ListComp elt (⟨tg, iter, ifs, 0⟩ :: rest) scope pos) (tE X.K (lcNE c kk)) := by
  have p := pe_lcN (T := fun D => tBD X.K D kk vs) (rest := rest) (elt := elt) (pos := pos) hc hN (PI.or (pi_list hi) (pi_tup hi)) ok hg hf hT hb hs
  rw [hvs] at p
  exact PE.weak p fun σ H Q h => wk_lcN ht hv σ H Q h
theorem es_setLcN {i : Nat} {y : Str} {py spos : Pos} {elt tg iter : Expr} {ifs : List Expr} {rest : List Comprehension} {scope : Scope} {own : List (Str × Nat)} {pos : Pos} {c : DC} {kk : Fk} {WB : Env → Addr → WBody} {vs : List Nat} (hc : X.calm = true) (hN : X.N.Nodup) (hy : X.N[i]? = some y) (hl : List.lookup y X.env.scope.names = some NameKind.local)
    (hsw : swapsWith (.ListComp elt (⟨tg, iter, ifs, 0⟩ :: rest) scope pos) (some (.Name y py)) spos.line X.env = pure true) (hi : PE X iter (tV X.K c.it)) (ok : BlkOk X.N X.env.scope scope own)
    (hg : ∀ (s : Shared) (H : Hp) (C : Addr) (cl : List (Str × Addr)) (fp : List Addr), PG (X.blk s H scope (compEnvC scope cl C X.env) fp) tg (gT X.K c.t))
    (hf : ∀ (s : Shared) (H : Hp) (C : Addr) (cl : List (Str × Addr)) (fp : List Addr), PTs (X.blk s H scope (compEnvC scope cl C X.env) fp) ifs (tT X.K c.c))
    (hT : ∀ (env : Env) (D : Addr), TurnIs X.prog X.w X.A (.ListComp elt (⟨tg, iter, ifs, 0⟩ :: rest) scope pos) 0 tg ifs (.ref D) env (WB env D))
    (hb : BodyD X scope WB kk vs) (hs : ∀ x : Value, foldedSetIterable iter X.env x = pure x) (ht : ∀ j, j ∈ c.t.ix → j ∈ c.vs) (hv : ∀ j, j ∈ vs → j ∈ c.vs) (hvs : (own.map fun x => x.snd) = c.vs) :
    PS X (.Assign [.Name y py] (.ListComp elt (⟨tg, iter, ifs, 0⟩ :: rest) scope pos) spos) (tS X.K (setF i (lcNE c kk))) := by
  have p := ps_setLcN (i := i) (T := fun D => tBD X.K D kk vs) (rest := rest) (elt := elt) (pos := pos) hc hN hy hl hsw (PI.or (pi_list hi) (pi_tup hi)) ok hg hf hT hb hs
  rw [hvs] at p
  exact PS.weak p fun D σ H h => wk_setLc (fun σ H Q h => wk_lcN ht hv σ H Q h) D σ H h
end
end Ev
/-! Lp -/
namespace Ev
open PySem PySem.Spec PyProof.Rows L2
theorem loop_nx {α : Type} {t : Tg} {body : Fs} {f : α → D} (I : List α → EnvD → Prop) : ∀ (xs pre : List α) (ρ : EnvD), I pre ρ → (∀ pr x post ρ, pre ++ xs = pr ++ x :: post → I pr ρ → ∃ ρ1 ρ2, putT t (f x) ρ = some ρ1 ∧ body ρ1 = some (.nx ρ2) ∧ I (pr ++ [x]) ρ2) →
    ∃ ρ', loopF t body (xs.map f) ρ = some (.nx ρ') ∧ I (pre ++ xs) ρ'
  | [], pre, ρ, h, _ => ⟨ρ, rfl, by rw [List.append_nil]; exact h⟩
  | x :: xs, pre, ρ, h, s => by
    obtain ⟨ρ1, ρ2, e1, e2, h2⟩ := s pre x xs ρ rfl h
    obtain ⟨ρ', e, h'⟩ := loop_nx (t := t) (body := body) (f := f) I xs (pre ++ [x]) ρ2 h2 fun p y q r hy => s p y q r (by rw [← hy, List.append_assoc]; rfl)
    refine ⟨ρ', ?_, by rw [List.append_assoc] at h'; exact h'⟩
    rw [List.map_cons, loopF, e1]
    simp only [e2]
    exact e
theorem lcFor_nx {α : Type} {vs : List Nat} {t : Tg} {c : Fb} {k : Fk} {f : α → D} (I : List α → List D → EnvD → Prop) : ∀ (xs pre : List α) (acc : List D) (ρ : EnvD), I pre acc ρ →
    (∀ pr x post acc ρ, pre ++ xs = pr ++ x :: post → I pr acc ρ → ∃ ρ1 b ρ2, putT t (f x) ρ = some ρ1 ∧ c ρ1 = some (b, ρ2) ∧ (b = false → noCell ρ2 vs = true ∧ I (pr ++ [x]) acc (clr ρ2 vs)) ∧ (b = true → ∃ acc2 ρ3, k ρ2 acc = some (acc2, ρ3) ∧ noCell ρ3 vs = true ∧ I (pr ++ [x]) acc2 (clr ρ3 vs))) →
    ∃ acc' ρ', lcForN vs t c k (xs.map f) acc ρ = some (acc', ρ') ∧ I (pre ++ xs) acc' ρ'
  | [], pre, acc, ρ, h, _ => ⟨acc, ρ, rfl, by rw [List.append_nil]; exact h⟩
  | x :: xs, pre, acc, ρ, h, s => by
    obtain ⟨ρ1, b, ρ2, e1, e2, hf, ht⟩ := s pre x xs acc ρ rfl h
    have nxt := fun acc2 ρ3 h2 => lcFor_nx (vs := vs) (t := t) (c := c) (k := k) (f := f) I xs (pre ++ [x]) acc2 ρ3 h2 fun p y q a r hy => s p y q a r (by rw [← hy, List.append_assoc]; rfl)
    rw [List.map_cons, lcForN, e1]
    simp only [e2]
    cases b with
    | false =>
      obtain ⟨n, h2⟩ := hf rfl
      obtain ⟨acc', ρ', e, h'⟩ := nxt _ _ h2
      exact ⟨acc', ρ', by simp only [n, if_true]; exact e, by rw [List.append_assoc] at h'; exact h'⟩
    | true =>
      obtain ⟨acc2, ρ3, e3, n, h2⟩ := ht rfl
      obtain ⟨acc', ρ', e, h'⟩ := nxt _ _ h2
      exact ⟨acc', ρ', by simp only [e3, n, if_true]; exact e, by rw [List.append_assoc] at h'; exact h'⟩
theorem lcLoop_nx {α : Type} {vs : List Nat} {t : Tg} {c : Fb} {e : Fv} {f : α → D} (I : List α → List D → EnvD → Prop) : ∀ (xs pre : List α) (acc : List D) (ρ : EnvD), I pre acc ρ →
    (∀ pr x post acc ρ, pre ++ xs = pr ++ x :: post → I pr acc ρ → ∃ ρ1 b ρ2, putT t (f x) ρ = some ρ1 ∧ c ρ1 = some (b, ρ2) ∧ (b = false → noCell ρ2 vs = true ∧ I (pr ++ [x]) acc (clr ρ2 vs)) ∧ (b = true → ∃ y ρ3, e ρ2 = some (y, ρ3) ∧ noCell ρ3 vs = true ∧ acc.length < sizeLine ∧ I (pr ++ [x]) (acc ++ [y]) (clr ρ3 vs))) →
    ∃ acc' ρ', lcLoop vs t c e (xs.map f) acc ρ = some (acc', ρ') ∧ I (pre ++ xs) acc' ρ'
  | [], pre, acc, ρ, h, _ => ⟨acc, ρ, rfl, by rw [List.append_nil]; exact h⟩
  | x :: xs, pre, acc, ρ, h, s => by
    obtain ⟨ρ1, b, ρ2, e1, e2, hf, ht⟩ := s pre x xs acc ρ rfl h
    have nxt := fun acc2 ρ3 h2 => lcLoop_nx (vs := vs) (t := t) (c := c) (e := e) (f := f) I xs (pre ++ [x]) acc2 ρ3 h2 fun p y q a r hy => s p y q a r (by rw [← hy, List.append_assoc]; rfl)
    rw [List.map_cons, lcLoop, e1]
    simp only [e2]
    cases b with
    | false =>
      obtain ⟨n, h2⟩ := hf rfl
      obtain ⟨acc', ρ', e, h'⟩ := nxt _ _ h2
      exact ⟨acc', ρ', by simp only [n, if_true]; exact e, by rw [List.append_assoc] at h'; exact h'⟩
    | true =>
      obtain ⟨y, ρ3, e3, n, hl, h2⟩ := ht rfl
      obtain ⟨acc', ρ', e, h'⟩ := nxt _ _ h2
      refine ⟨acc', ρ', ?_, by rw [List.append_assoc] at h'; exact h'⟩
      simp only [e3, n, Bool.true_and, decide_eq_true hl, if_true]
      exact e
theorem frz_at {f : Fe} {ρ ρ1 : EnvD} {r : Re} (h : f ρ = some (r, ρ1)) : frzF f ρ = some (r.d, ρ1) := by unfold frzF; rw [h]; rfl
theorem ov_at {f : Fv} {ρ ρ1 : EnvD} {d : D} (h : f ρ = some (d, ρ1)) : ovF f ρ = some (.v d, ρ1) := by unfold ovF; rw [h]; rfl
end Ev
/-! GenX -/
namespace Gx
open PySem PySem.Spec PyProof.Rows L2
/-- what a test may look at: a text, a list or tuple of texts -/
inductive RawD where
  | str (x : Str) | seq (l : List Str)
def RawR (h : Heap) (u : Value) : RawD → Prop
  | .str x => ∃ t, u = .str x t
  | .seq l => ∃ (a : Addr) (its : List Value), u = .ref a ∧ (h.IsTuple a its.toArray ∨ h.IsList a its.toArray) ∧ Vals (l.map V.str) its
theorem seq_cls {h : Heap} {a : Addr} {its : Array Value} (x : h.IsTuple a its ∨ h.IsList a its) : ∃ o, h.get? a = some o ∧ o.cls ≠ .none := by
  rcases x with x | x
  · obtain ⟨o, e, c, _⟩ := id x
    exact ⟨o, e, by rw [c]; intro z; cases z⟩
  · obtain ⟨o, e, c, _⟩ := id x
    exact ⟨o, e, by rw [c]; intro z; cases z⟩
theorem RawR.move {h h' : Heap} {u : Value} {d : RawD} (r : RawR h u d) (k : ∀ b o, h.get? b = some o → o.cls ≠ .none → h'.get? b = some o) : RawR h' u d := by
  cases d with
  | str x => exact r
  | seq l =>
    obtain ⟨a, its, e, x, v⟩ := r
    obtain ⟨o, ho, hc⟩ := seq_cls x
    refine ⟨a, its, e, ?_, v⟩
    rcases x with x | x
    · exact .inl (x.at fun o2 e2 => by rw [ho] at e2; cases e2; exact k _ _ ho hc)
    · exact .inr (x.at fun o2 e2 => by rw [ho] at e2; cases e2; exact k _ _ ho hc)
theorem keeps_trans {s s1 s2 : Shared} (a : Keeps s s1) (b : Keeps s1 s2) : Keeps s s2 := by
  obtain ⟨h1, t1, rfl, k1⟩ := a
  obtain ⟨h2, t2, rfl, k2⟩ := b
  exact ⟨h2, t2, rfl, fun b o e => k2 b o (k1 b o e)⟩
theorem keeps_heap {s s1 : Shared} (a : Keeps s s1) : ∀ b o, s.heap.get? b = some o → s1.heap.get? b = some o := by
  obtain ⟨h1, t1, rfl, k1⟩ := a
  exact k1
/-- the name x gives what d says, from s on -/
def Gets (prog : Program) (w : World) (cenv : Env) (s : Shared) (x : Str) (d : RawD) : Prop := ∀ s', Keeps s s' → ∃ u, RawR s'.heap u d ∧ ∀ (pos : Pos) (A : Around) (E : Value → Shared → Prop) (Q : Value → Shared → Prop), Q u s' → wpAny (model prog w) A (eval (.Name x pos) cenv) Q E s'
theorem Gets.on {prog : Program} {w : World} {cenv : Env} {s s1 : Shared} {x : Str} {d : RawD} (g : Gets prog w cenv s x d) (k : Keeps s s1) : Gets prog w cenv s1 x d := fun s' k' => g s' (keeps_trans k k')
abbrev GT := (Str → Option RawD) → Option Bool
/-- the test elt says g of what its names give -/
def GEl (prog : Program) (w : World) (elt : Expr) (g : GT) : Prop := ∀ (cenv : Env) (A : Around) (E : Value → Shared → Prop) (s : Shared) (m : Str → Option RawD) (b : Bool), (∀ x d, m x = some d → Gets prog w cenv s x d) → g m = some b →
  wpAny (model prog w) A (eval elt cenv) (fun y s' => y = .bool b ∧ Keeps s s') E s
section
variable {prog : Program} {w : World}
def tIn (neg : Bool) (x y : Str) : GT := fun m => match m x, m y with
  | some (.str a), some (.seq l) => some (if neg then !l.contains a else l.contains a)
  | _, _ => none
theorem all_flat : ∀ l : List Str, (l.map V.str).all flatV = true
  | [] => rfl
  | x :: l => by rw [List.map_cons, List.all_cons, all_flat l]; rfl
theorem any_in (a : Str) : ∀ l : List Str, ((l.map V.str).any fun y => eqV y (.str a)) = l.contains a
  | [] => rfl
  | x :: l => by
    rw [List.map_cons, List.any_cons, any_in a l, List.contains_cons]
    congr 1
    show (x == a) = (a == x)
    rw [Bool.eq_iff_iff, beq_iff_eq, beq_iff_eq]
    exact eq_comm
theorem gel_in {x y : Str} {p1 p2 p3 : Pos} : GEl prog w (.Compare (.Name x p1) [.In] [.Name y p2] p3) (tIn false x y) := by
  intro cenv A E s m b hm hb
  unfold tIn at hb
  split at hb
  · rename_i a l h1 h2
    cases hb
    refine wpAny_Compare1 ?_
    obtain ⟨u, ru, lu⟩ := hm x _ h1 s (GxR.keeps_refl s)
    refine lu _ _ _ _ ?_
    obtain ⟨v, rv, lv⟩ := hm y _ h2 s (GxR.keeps_refl s)
    refine lv _ _ _ _ ?_
    obtain ⟨t, rfl⟩ := ru
    obtain ⟨p, its, rfl, q, vs⟩ := rv
    have rx : RelV (V.str a) (.str a t) := ⟨t, rfl⟩
    have e : its.toArray.any (eqU (.str a)) = l.contains a := by
      rw [show its.toArray.any (eqU (.str a)) = its.any (eqU (.str a)) by simp, any_eqU vs (all_flat l), any_in]
    rcases q with q | q
    · refine SeqAt.in_tupleAt (eqU (.str a)) q (fun z hz => mem_eqAt rx rfl vs (all_flat l) z (by simpa using hz)) ?_
      rw [e]
      exact ⟨rfl, GxR.keeps_refl s⟩
    · refine SeqAt.in_listAt (eqU (.str a)) q (fun z hz => mem_eqAt rx rfl vs (all_flat l) z (by simpa using hz)) ?_
      rw [e]
      exact ⟨rfl, GxR.keeps_refl s⟩
  · cases hb
theorem gel_notIn {x y : Str} {p1 p2 p3 : Pos} : GEl prog w (.Compare (.Name x p1) [.NotIn] [.Name y p2] p3) (tIn true x y) := by
  intro cenv A E s m b hm hb
  unfold tIn at hb
  split at hb
  · rename_i a l h1 h2
    cases hb
    refine wpAny_Compare1 ?_
    obtain ⟨u, ru, lu⟩ := hm x _ h1 s (GxR.keeps_refl s)
    refine lu _ _ _ _ ?_
    obtain ⟨v, rv, lv⟩ := hm y _ h2 s (GxR.keeps_refl s)
    refine lv _ _ _ _ ?_
    obtain ⟨t, rfl⟩ := ru
    obtain ⟨p, its, rfl, q, vs⟩ := rv
    have rx : RelV (V.str a) (.str a t) := ⟨t, rfl⟩
    have e : its.toArray.any (eqU (.str a)) = l.contains a := by
      rw [show its.toArray.any (eqU (.str a)) = its.any (eqU (.str a)) by simp, any_eqU vs (all_flat l), any_in]
    rcases q with q | q
    · refine SeqAt.notIn_tupleAt (eqU (.str a)) q (fun z hz => mem_eqAt rx rfl vs (all_flat l) z (by simpa using hz)) ?_
      rw [e]
      exact ⟨rfl, GxR.keeps_refl s⟩
    · refine SeqAt.notIn_listAt (eqU (.str a)) q (fun z hz => mem_eqAt rx rfl vs (all_flat l) z (by simpa using hz)) ?_
      rw [e]
      exact ⟨rfl, GxR.keeps_refl s⟩
  · cases hb
def tAnd2 (g g' : GT) : GT := fun m => match g m with
  | some true => g' m
  | some false => some false
  | none => none
theorem gel_one {a : Expr} {g : GT} {op : BoolOp} {pos : Pos} (h : GEl prog w a g) : GEl prog w (.BoolOp op [a] pos) g := fun cenv A E s m b hm hb => BoolOp_one (h cenv A E s m b hm hb)
theorem gel_and {a b : Expr} {rest : List Expr} {g g' : GT} {pos : Pos} (h : GEl prog w a g) (h' : GEl prog w (.BoolOp .And (b :: rest) pos) g') : GEl prog w (.BoolOp .And (a :: b :: rest) pos) (tAnd2 g g') := by
  intro cenv A E s m r hm hr
  unfold tAnd2 at hr
  refine BoolOp_and ?_
  cases q : g m with
  | none => rw [q] at hr; cases hr
  | some c =>
    rw [q] at hr
    refine wpAny_mono (h cenv A E s m c hm q) (fun y s1 hy => ?_) fun _ _ e => e
    obtain ⟨rfl, k1⟩ := hy
    refine wpAny_truthy_bool ?_
    cases c with
    | false =>
      have hr : some false = some r := hr
      cases hr
      exact ⟨rfl, k1⟩
    | true =>
      show (if (true = true) then _ else _)
      rw [if_pos rfl]
      refine wpAny_mono (h' cenv A E s1 m r (fun x d e => (hm x d e).on k1) hr) (fun y s2 hy => ?_) fun _ _ e => e
      exact ⟨hy.1, keeps_trans k1 hy.2⟩
end
end Gx
/-! GenY -/
namespace Gx
open PySem PySem.Spec PyProof.Rows L2 Ev
section
variable {X : Cx} {pins : List (Addr × Obj)} {σ : L2.St} {H : Hp} {s : Shared}
/-- the test of the item u says b, wherever what stood (but for the table at P) still stands -/
def ElOk (X : Cx) (scope : Scope) (elt : Expr) (x : Str) (s1 : Shared) (P : Addr) (u : Value) (b : Bool) : Prop :=
  ∀ (C : Addr) (code : Value) (bi : Addr) (A' : Around) (E' : Value → Shared → Prop) (s2 : Shared) (m2 : Str → Option Value), (∀ d o, d ≠ P → s1.heap.get? d = some o → s2.heap.get? d = some o) → s2.heap.Ns C m2 → m2 x = some u →
    wpAny (model X.prog X.w) A' (eval elt (genEnv scope (cloFrom X.env.cells scope.names []) C code bi X.env)) (fun y s3 => y = .bool b ∧ Keeps s2 s3) E' s2
/-- a generator that is ready to tell these truths -/
def RdyB (X : Cx) (pins : List (Addr × Obj)) (σ : L2.St) (H1 : Hp) (P : Addr) (tr : List Bool) (g : Addr) (s5 : Shared) : Prop :=
  ∃ (fp wr : List Addr) (G : Array GenState → Array GenState → Prop) (F : Nat → Value → Prop) (St : Nat → Shared → Prop),
    WalksS X.prog X.w X.A.in1 g fp wr G tr.length F St ∧ St 0 s5 ∧ TruthOf X.prog X.w X.A.in1 F (fun j => tr.getD j false) ∧ ∀ s', Moved wr G s5 s' → ∃ H2, GxR.Tabbed P H1 H2 ∧ Inv X pins σ H2 s'
theorem getD_of {tr : List Bool} {i : Nat} {b : Bool} (h : tr[i]? = some b) : tr.getD i false = b := by
  rw [List.getD_eq_getElem?_getD, h]
  rfl
theorem gx_list {c P : Addr} {elt iter : Expr} {x : Str} {px gpos : Pos} {scope : Scope} {te : TE} {k : Nat} {Q' : Value → Shared → Prop} {Rr : List Bool → Hp → Prop}
    (hr : Room k X.A) (TB : GxR.TabB X.base X.mg c P) (hcode : X.env.code = .ref c) (S : GxR.GenS X.env scope x) (hi : PE X iter te) (hs : ∀ v, genFold iter X.env v = pure v) (I : Inv X pins σ H s)
    (h : te σ H fun v H1 => ∃ (yl : Addr) (xs : List V) (tr : List Bool), v = .ref yl ∧ SqL X.K H1 yl xs ∧ GxR.TabG H1 P ∧ tr.length = xs.length ∧ (∀ s1 its, Inv X pins σ H1 s1 → Vals xs its → ∀ (i : Nat) u b, its[i]? = some u → tr[i]? = some b → ElOk X scope elt x s1 P u b) ∧ Rr tr H1)
    (hQ : ∀ tr H1 g s5, Rr tr H1 → RdyB X pins σ H1 P tr g s5 → Q' (.ref g) s5) :
    wpAny (model X.prog X.w) X.A (eval (.GeneratorExp elt [⟨.Name x px, iter, [], 0⟩] scope gpos) X.env) Q' X.xe s := by
  refine wpAny_GeneratorExp_walksQ hr.hd S.co (closure_ok S.free) S.cell S.dot S.loc S.kind (by have := hr.dp; omega) ?_ hs
  refine thn (hi.run pins s σ H _ I h) fun xv t1 ⟨v, H1, J1, r1, q1⟩ => ?_
  obtain ⟨yl, xs, tr, rfl, hyl, ⟨ps, hP, htri⟩, hlen0, hel, q1⟩ := q1
  obtain rfl : xv = Value.ref yl := r1
  obtain ⟨its, rv, hl, hz⟩ := J1.list hyl
  have isl := hl.isList
  have hlen : its.length = tr.length := by rw [← rv.length, hlen0]
  refine wpAny_pyIter_list isl ?_
  generalize ho : ({ cls := .type "list_iterator", data := .fields #[.ref yl, .int 0 0] } : Obj) = ob0
  have atIt : (t1.heap.push ob0).IsListIter t1.heap.objs.size yl 0 := by
    subst ho
    exact ⟨_, Heap.get?_push_size _ rfl, rfl, rfl⟩
  have ylLt : yl < t1.heap.objs.size := by
    obtain ⟨_, e, _⟩ := id isl
    exact Heap.lt_size e
  have tabAt : t1.heap.get? P = some { cls := .none, data := .fields ps } := J1.hok P _ hP
  have tabLt : P < t1.heap.objs.size := Heap.lt_size tabAt
  have tabAt2 : (t1.heap.push ob0).get? P = some { cls := .none, data := .fields ps } := Heap.get?_push_of_some _ tabAt
  have cd : PySem.W.CodeHd (t1.heap.push ob0) c P := TB.code.keeps fun b u e => Heap.get?_push_of_some _ (J1.bk b u e)
  have lim : (t1.heap.push ob0).NoLimit := J1.nolimit.push ob0
  have go : ∀ (code : Value) (hp3 : Heap) (tk : Nat) (ps' : Array Value), Heap.ExtBut P (t1.heap.push ob0) hp3 → (t1.heap.push ob0).objs.size ≤ hp3.objs.size → hp3.get? P = some { cls := .none, data := .fields ps' } → (∃ more, ps' = ps ++ more) → TriplesOk ps'.toList →
      wpAny (model X.prog X.w) X.A (builtinsFor X.env.globals X.env.builtins) (fun bi u4 =>
        ∃ Ia fp wr n0 Pf St0 pz F, Value.ref t1.heap.objs.size = .ref Ia ∧ (∀ A' : Around, A'.handled = none → Walks X.prog X.w A' Ia fp wr n0 Pf St0) ∧ St0 0 u4.heap ∧ (∀ b ∈ fp, b < u4.heap.objs.size) ∧ u4.heap.NoLimit ∧ cStatics ∉ wr ∧
          (∀ href : Heap, (∀ b o, u4.heap.get? b = some o → href.get? b = some o) →
            QuietGen X.prog X.w (genEnv scope (cloFrom X.env.cells scope.names []) u4.heap.objs.size code bi X.env) x [] elt (List.range u4.heap.objs.size) wr Pf pz F href) ∧
          (∀ a h5 tk gs, gs.bare = true → u4.heap.objs.size < a → h5.objs.size = a + 1 → (∀ b o, u4.heap.get? b = some o → h5.get? b = some o) →
            WalksS X.prog X.w X.A.in4 a (a :: u4.heap.objs.size :: List.range u4.heap.objs.size) (u4.heap.objs.size :: wr) (GenOnlyQ u4.gens.size) (passing pz n0 0).length
              (fun j y => ∃ i, (passing pz n0 0)[j]? = some i ∧ F i y) (GenAt X.prog X.w X.A.in4 a u4.gens.size u4.heap.objs.size (List.range u4.heap.objs.size) wr pz n0 F) →
            GenAt X.prog X.w X.A.in4 a u4.gens.size u4.heap.objs.size (List.range u4.heap.objs.size) wr pz n0 F 0 { u4 with gens := u4.gens.push gs, toks := tk, heap := h5 } →
            Q' (.ref a) { u4 with gens := u4.gens.push gs, toks := tk, heap := h5 })) X.xe { t1 with heap := hp3, toks := tk } := by
    intro code hp3 tk ps' hx hsz tabAt3 hmore htri3
    obtain ⟨bm, ob, e1, e2, e3, e4, e5, e6, e7, e8⟩ := TB.bm
    have statNe : cStatics ≠ P := fun e => by
      obtain ⟨_, hns, _⟩ := J1.nolimit
      obtain ⟨o', es, ep, ho', hd, _⟩ := hns
      rw [e, tabAt] at ho'
      cases ho'
      cases hd
    have statLt : cStatics < t1.heap.objs.size := let ⟨_, hns, _⟩ := J1.nolimit; hns.lt
    have sz2 : (t1.heap.push ob0).objs.size = t1.heap.objs.size + 1 := Heap.size_push ..
    have kp3 : ∀ b u, b ≠ P → t1.heap.get? b = some u → hp3.get? b = some u := fun b u hb e => hx b u hb (Heap.get?_push_of_some _ e)
    refine wpAny_builtinsFor (m := X.mg) (by rw [J1.ok.glob]; exact ((J1.mod.glob.keeps J1.bk).push ob0).extBut hx TB.gP) e1 e2 (kp3 _ _ e4 (J1.bk _ _ e5)) e6 e7 e8 ?_
    have ylNe : yl ≠ P := fun z => by
      obtain ⟨_, e, _, _, hd1⟩ := id isl
      rw [z, tabAt] at e
      cases e
      cases hd1
    have isl3 : hp3.IsList yl its.toArray := by
      obtain ⟨ob, e, r⟩ := id isl
      exact ⟨ob, kp3 _ _ ylNe e, r⟩
    have atIt3 : hp3.IsListIter t1.heap.objs.size yl 0 := atIt.at fun u e => hx _ u (Nat.ne_of_gt tabLt) e
    refine ⟨t1.heap.objs.size, [t1.heap.objs.size, yl], [t1.heap.objs.size], its.toArray.size, (fun i v => its.toArray[i]? = some v), (fun i h => h.IsListIter t1.heap.objs.size yl i ∧ h.IsList yl its.toArray), (fun _ => true),
      (fun i y => ∃ b, tr[i]? = some b ∧ y = .bool b), rfl, (fun A' hA => Walks.list hA _ _ (Nat.ne_of_lt ylLt) _), ⟨atIt3, isl3⟩, ?_, lim.extBut hx statNe, ?_, ?_, ?_⟩
    · intro b hb
      have : b = t1.heap.objs.size ∨ b = yl := by simpa using hb
      rcases this with z | z
      · rw [z]
        show t1.heap.objs.size < hp3.objs.size
        omega
      · rw [z]
        have e9 : t1.heap.objs.size ≤ hp3.objs.size := by omega
        exact Nat.lt_of_lt_of_le ylLt e9
    · intro z
      have : cStatics = t1.heap.objs.size := by simpa using z
      exact Nat.ne_of_lt statLt this
    · intro href hhref
      refine ⟨fun A' E' i v s2 m2 hA hPv hn hm hk => ?_, fun A' E' i v s2 m2 hA hPv hp hn hm hk => ?_⟩
      · simp only [List.forIn_nil]
        exact wpAny_pure ⟨rfl, GxR.keeps_refl _⟩
      · have hv2 : its[i]? = some v := by simpa using hPv
        have hi2 : i < its.length := (List.getElem?_eq_some_iff.mp hv2).1
        obtain ⟨b, hb⟩ : ∃ b, tr[i]? = some b := ⟨tr[i]'(by omega), List.getElem?_eq_getElem _⟩
        refine wpAny_mono (hel t1 its J1 rv i v b hv2 hb _ code _ A' E' s2 m2 (fun d o hd e => ?_) hn hm) (fun y s3 r => ?_) fun _ _ e => e
        · have e3 := kp3 d o hd e
          have dlt := Heap.lt_size e
          refine hk d (List.mem_range.mpr (Heap.lt_size e3)) (fun z => ?_) o (hhref d o e3)
          have : d = t1.heap.objs.size := by simpa using z
          exact Nat.ne_of_lt dlt this
        · exact ⟨⟨b, hb, r.1⟩, r.2⟩
    · intro g h5 tk5 gs hgb hag hsz5 hk5 W5 hgat
      simp only [GxR.passing_true, List.length_range] at W5
      have hn5 : its.toArray.size = tr.length := by rw [List.size_toArray, hlen]
      rw [hn5] at W5 hgat
      refine hQ tr H1 g _ q1 ⟨_, _, _, _, _, W5.in4_1, hgat, ?_, fun s' hm => ?_⟩
      · intro j y sj Qj Ej hy hQj
        obtain ⟨i, hij, b, hb, rfl⟩ := hy
        obtain ⟨hj, ej⟩ := List.getElem?_eq_some_iff.mp hij
        rw [List.getElem_range] at ej
        subst ej
        have hQ2 : Qj (tr.getD j false) sj := hQj
        rw [getD_of hb] at hQ2
        exact wpAny_truthy_bool hQ2
      · obtain ⟨more, em⟩ := hmore
        have nwr : ∀ b u, t1.heap.get? b = some u → b ∉ hp3.objs.size :: [t1.heap.objs.size] := fun b u e hb => by
          have hl := Heap.lt_size e
          have : b = hp3.objs.size ∨ b = t1.heap.objs.size := by simpa using hb
          rcases this with z | z
          · rw [z] at hl
            have h9 : (hp3.objs.size : Nat) < t1.heap.objs.size := hl
            omega
          · rw [z] at hl
            exact Nat.lt_irrefl _ hl
        have J := GxR.inv_tab (more := more) (h' := s'.heap) (g' := s'.gens) (d' := s'.drawn) (t' := s'.toks) J1 hP (fun b u hb e => hm.heap b u (nwr b u e) (hk5 b u (kp3 b u hb e)))
          (by rw [← em]; exact hm.heap P _ (nwr P _ tabAt) (hk5 P _ tabAt3)) (AllBare.movedS (J1.bare.push hgb) hm)
        rw [GxR.sh_eta t1 s' hm.os] at J
        exact ⟨upd H1 P (.tbl (ps ++ more)), ⟨⟨ps ++ more, upd_same, by rw [← em]; exact htri3⟩, fun b hb => upd_ne hb⟩, J⟩
  refine ⟨lim, ?_⟩
  cases hf : codeAmong gpos ps.toList with
  | none =>
    refine wpAny_genexprCodeX hcode (cd.code tabAt2 htri) (cd.tab tabAt2) hf fun c' h' tk hx hge hlt hco' _ htab' _ => ?_
    obtain ⟨o1, vs, f1, tf, fl, tg, inF, tx, tt, op, _, _, _, _, _, _, _, _, _, htr, _⟩ := hco'
    exact go _ h' tk _ hx (Nat.le_trans hge (Nat.le_of_lt hlt)) htab'.2 ⟨_, rfl⟩ htr
  | some cv =>
    refine wpAny_genexprCode_hit hcode (cd.code tabAt2 htri) hf ?_
    exact go cv (t1.heap.push ob0) t1.toks ps (Heap.ExtBut.refl _ _) (Nat.le_refl _) tabAt2 ⟨#[], by simp⟩ htri
def ElOk2 (X : Cx) (scope : Scope) (elt : Expr) (xa xb : Str) (s1 : Shared) (P : Addr) (ua ub : Value) (b : Bool) : Prop :=
  ∀ (C : Addr) (code : Value) (bi : Addr) (A' : Around) (E' : Value → Shared → Prop) (s2 : Shared) (m2 : Str → Option Value), (∀ d o, d ≠ P → s1.heap.get? d = some o → s2.heap.get? d = some o) → s2.heap.Ns C m2 → m2 xa = some ua → m2 xb = some ub →
    wpAny (model X.prog X.w) A' (eval elt (genEnv scope (cloFrom X.env.cells scope.names []) C code bi X.env)) (fun y s3 => y = .bool b ∧ Keeps s2 s3) E' s2
theorem gx_pairs {c P : Addr} {elt iter : Expr} {xa xb : Str} {pa pb pt gpos : Pos} {kt : Nat} {scope : Scope} {te : TE} {k : Nat} {Q' : Value → Shared → Prop} {Rr : List Bool → Hp → Prop}
    (hr : Room k X.A) (TB : GxR.TabB X.base X.mg c P) (hcode : X.env.code = .ref c) (S : GxR.GenS X.env scope xa) (hxb : scope.names.lookup xb = some .local) (hab : xa ≠ xb) (hi : PE X iter te) (hs : ∀ v, genFold iter X.env v = pure v) (I : Inv X pins σ H s)
    (h : te σ H fun v H1 => ∃ (yl : Addr) (xs : List V) (tr : List Bool), v = .ref yl ∧ SqL X.K H1 yl xs ∧ GxR.TabG H1 P ∧ tr.length = xs.length ∧ (∀ x, x ∈ xs → ∃ T a b, x = V.ref T ∧ SqT X.K H1 T [a, b]) ∧ (∀ s1, Inv X pins σ H1 s1 → ∀ (i : Nat) T a b ua ub k, xs[i]? = some (V.ref T) → SqT X.K H1 T [a, b] → s1.heap.IsTuple T #[ua, ub] → RelV a ua → RelV b ub → tr[i]? = some k → ElOk2 X scope elt xa xb s1 P ua ub k) ∧ Rr tr H1)
    (hQ : ∀ tr H1 g s5, Rr tr H1 → RdyB X pins σ H1 P tr g s5 → Q' (.ref g) s5) :
    wpAny (model X.prog X.w) X.A (eval (.GeneratorExp elt [⟨.Tuple [.Name xa pa, .Name xb pb] kt pt, iter, [], 0⟩] scope gpos) X.env) Q' X.xe s := by
  refine wpAny_GeneratorExp_walksQT hr.hd S.co (closure_ok S.free) S.cell S.dot S.loc hxb hab S.kind (by have := hr.dp; omega) ?_ hs
  refine thn (hi.run pins s σ H _ I h) fun xv t1 ⟨v, H1, J1, r1, q1⟩ => ?_
  obtain ⟨yl, xs, tr, rfl, hyl, ⟨ps, hP, htri⟩, hlen0, hpr, hel, q1⟩ := q1
  obtain rfl : xv = Value.ref yl := r1
  obtain ⟨its, rv, hl, hz⟩ := J1.list hyl
  have isl := hl.isList
  have hlen : its.length = tr.length := by rw [← rv.length, hlen0]
  have prs : ∀ j : Nat, ∃ (T : Addr) (ua ub : Value), j < its.length → its[j]? = some (.ref T) ∧ t1.heap.IsTuple T #[ua, ub] ∧ ∃ a b, xs[j]? = some (V.ref T) ∧ SqT X.K H1 T [a, b] ∧ RelV a ua ∧ RelV b ub := fun j => by
    by_cases hj : j < its.length
    · have hjx : j < xs.length := by omega
      obtain ⟨T, a, b, ex, hq⟩ := hpr xs[j] (List.getElem_mem hjx)
      have ex2 : xs[j]? = some (V.ref T) := by rw [List.getElem?_eq_getElem hjx, ex]
      obtain ⟨u, hu, ru⟩ := rv.get ex2
      obtain rfl : u = Value.ref T := ru
      obtain ⟨its2, r2, p2, _⟩ := J1.tuple hq
      cases r2 with
      | cons ra t2 =>
        cases t2 with
        | cons rb t3 =>
          cases t3
          exact ⟨T, _, _, fun _ => ⟨hu, p2, a, b, ex2, hq, ra, rb⟩⟩
    · exact ⟨0, .none, .none, fun h => absurd h hj⟩
  obtain ⟨Ts, prs⟩ := Classical.skolem.mp prs
  obtain ⟨Ua, prs⟩ := Classical.skolem.mp prs
  obtain ⟨Ub, prs⟩ := Classical.skolem.mp prs
  refine wpAny_pyIter_list isl ?_
  generalize ho : ({ cls := .type "list_iterator", data := .fields #[.ref yl, .int 0 0] } : Obj) = ob0
  have atIt : (t1.heap.push ob0).IsListIter t1.heap.objs.size yl 0 := by
    subst ho
    exact ⟨_, Heap.get?_push_size _ rfl, rfl, rfl⟩
  have ylLt : yl < t1.heap.objs.size := by
    obtain ⟨_, e, _⟩ := id isl
    exact Heap.lt_size e
  have tabAt : t1.heap.get? P = some { cls := .none, data := .fields ps } := J1.hok P _ hP
  have tabLt : P < t1.heap.objs.size := Heap.lt_size tabAt
  have tabAt2 : (t1.heap.push ob0).get? P = some { cls := .none, data := .fields ps } := Heap.get?_push_of_some _ tabAt
  have cd : PySem.W.CodeHd (t1.heap.push ob0) c P := TB.code.keeps fun b u e => Heap.get?_push_of_some _ (J1.bk b u e)
  have lim : (t1.heap.push ob0).NoLimit := J1.nolimit.push ob0
  have go : ∀ (code : Value) (hp3 : Heap) (tk : Nat) (ps' : Array Value), Heap.ExtBut P (t1.heap.push ob0) hp3 → (t1.heap.push ob0).objs.size ≤ hp3.objs.size → hp3.get? P = some { cls := .none, data := .fields ps' } → (∃ more, ps' = ps ++ more) → TriplesOk ps'.toList →
      wpAny (model X.prog X.w) X.A (builtinsFor X.env.globals X.env.builtins) (fun bi u4 =>
        ∃ Ia fp wr n0 Pf St0 Mid pz F, Value.ref t1.heap.objs.size = .ref Ia ∧ (∀ A' : Around, A'.handled = none → WalksU X.prog X.w A' Ia fp wr n0 Pf St0 Mid) ∧ (∀ i vals, Pf i vals → ∃ va vb, vals = #[va, vb]) ∧ St0 0 u4.heap ∧ (∀ b ∈ fp, b < u4.heap.objs.size) ∧ u4.heap.NoLimit ∧ cStatics ∉ wr ∧
          (∀ href : Heap, (∀ b o, u4.heap.get? b = some o → href.get? b = some o) →
            QuietGenT X.prog X.w (genEnv scope (cloFrom X.env.cells scope.names []) u4.heap.objs.size code bi X.env) xa xb [] elt (List.range u4.heap.objs.size) wr Pf pz F href) ∧
          (∀ a h5 tk gs, gs.bare = true → u4.heap.objs.size < a → h5.objs.size = a + 1 → (∀ b o, u4.heap.get? b = some o → h5.get? b = some o) →
            WalksS X.prog X.w X.A.in4 a (a :: u4.heap.objs.size :: List.range u4.heap.objs.size) (u4.heap.objs.size :: wr) (GenOnlyQ u4.gens.size) (passing pz n0 0).length
              (fun j y => ∃ i, (passing pz n0 0)[j]? = some i ∧ F i y) (GenAt X.prog X.w X.A.in4 a u4.gens.size u4.heap.objs.size (List.range u4.heap.objs.size) wr pz n0 F) →
            GenAt X.prog X.w X.A.in4 a u4.gens.size u4.heap.objs.size (List.range u4.heap.objs.size) wr pz n0 F 0 { u4 with gens := u4.gens.push gs, toks := tk, heap := h5 } →
            Q' (.ref a) { u4 with gens := u4.gens.push gs, toks := tk, heap := h5 })) X.xe { t1 with heap := hp3, toks := tk } := by
    intro code hp3 tk ps' hx hsz tabAt3 hmore htri3
    obtain ⟨bm, ob, e1, e2, e3, e4, e5, e6, e7, e8⟩ := TB.bm
    have statNe : cStatics ≠ P := fun e => by
      obtain ⟨_, hns, _⟩ := J1.nolimit
      obtain ⟨o', es, ep, ho', hd, _⟩ := hns
      rw [e, tabAt] at ho'
      cases ho'
      cases hd
    have statLt : cStatics < t1.heap.objs.size := let ⟨_, hns, _⟩ := J1.nolimit; hns.lt
    have sz2 : (t1.heap.push ob0).objs.size = t1.heap.objs.size + 1 := Heap.size_push ..
    have kp3 : ∀ b u, b ≠ P → t1.heap.get? b = some u → hp3.get? b = some u := fun b u hb e => hx b u hb (Heap.get?_push_of_some _ e)
    refine wpAny_builtinsFor (m := X.mg) (by rw [J1.ok.glob]; exact ((J1.mod.glob.keeps J1.bk).push ob0).extBut hx TB.gP) e1 e2 (kp3 _ _ e4 (J1.bk _ _ e5)) e6 e7 e8 ?_
    have ylNe : yl ≠ P := fun z => by
      obtain ⟨_, e, _, _, hd1⟩ := id isl
      rw [z, tabAt] at e
      cases e
      cases hd1
    have isl3 : hp3.IsList yl its.toArray := by
      obtain ⟨ob, e, r⟩ := id isl
      exact ⟨ob, kp3 _ _ ylNe e, r⟩
    have atIt3 : hp3.IsListIter t1.heap.objs.size yl 0 := atIt.at fun u e => hx _ u (Nat.ne_of_gt tabLt) e
    have tlt : ∀ k, k < its.toArray.size → Ts k < t1.heap.objs.size := fun k hk => by
      obtain ⟨_, x, _⟩ := prs k (by simpa using hk)
      obtain ⟨_, e, _⟩ := id x
      exact Heap.lt_size e
    have tup3 : ∀ k, k < its.toArray.size → hp3.IsTuple (Ts k) #[Ua k, Ub k] := fun k hk => by
      obtain ⟨_, x, _⟩ := prs k (by simpa using hk)
      obtain ⟨o, e, cl, r⟩ := id x
      refine ⟨o, kp3 _ _ (fun z => ?_) e, cl, r⟩
      rw [z, tabAt] at e
      cases e
      cases cl
    refine ⟨t1.heap.objs.size, _, [t1.heap.objs.size], its.toArray.size, _, _, _, (fun _ => true), (fun i y => ∃ b, tr[i]? = some b ∧ y = .bool b), rfl,
      (fun A' hA => (WalksU.listOfTuples (prog := X.prog) (w := X.w) hA t1.heap.objs.size yl (Nat.ne_of_lt ylLt) its.toArray Ts (fun k => #[Ua k, Ub k]) (fun k hk => by
        obtain ⟨x, _⟩ := prs k (by simpa using hk)
        simpa using x) (fun k hk => Nat.ne_of_lt (tlt k hk))).bound), ?_, ⟨atIt3, isl3, tup3⟩, ?_, lim.extBut hx statNe, ?_, ?_, ?_⟩
    · rintro i vals ⟨_, hv⟩
      exact ⟨_, _, hv⟩
    · intro b hb
      have e9 : t1.heap.objs.size ≤ hp3.objs.size := by omega
      rcases List.mem_cons.mp hb with z | z
      · rw [z]
        show t1.heap.objs.size < hp3.objs.size
        omega
      · rcases List.mem_cons.mp z with z | z
        · rw [z]
          exact Nat.lt_of_lt_of_le ylLt e9
        · obtain ⟨k, hk, rfl⟩ := List.mem_map.mp z
          exact Nat.lt_of_lt_of_le (tlt k (List.mem_range.mp hk)) e9
    · intro z
      have : cStatics = t1.heap.objs.size := by simpa using z
      exact Nat.ne_of_lt statLt this
    · intro href hhref
      refine ⟨fun A' E' i va vb s2 m2 hA hPv hn hm hm' hk => ?_, fun A' E' i va vb s2 m2 hA hPv hp hn hm hm' hk => ?_⟩
      · simp only [List.forIn_nil]
        exact wpAny_pure ⟨rfl, GxR.keeps_refl _⟩
      · obtain ⟨hi0, hv⟩ := hPv
        have hi2 : i < its.length := by simpa using hi0
        have hv1 : va = Ua i ∧ vb = Ub i := by simpa using hv
        obtain ⟨rfl, rfl⟩ := hv1
        obtain ⟨e1, e2, a, b, e3, e4, e5, e6⟩ := prs i hi2
        obtain ⟨k, hk2⟩ : ∃ k, tr[i]? = some k := ⟨tr[i]'(by omega), List.getElem?_eq_getElem _⟩
        refine wpAny_mono (hel t1 J1 i _ a b _ _ k e3 e4 e2 e5 e6 hk2 _ code _ A' E' s2 m2 (fun d o hd e => ?_) hn hm hm') (fun y s3 r => ?_) fun _ _ e => e
        · have e3 := kp3 d o hd e
          have dlt := Heap.lt_size e
          refine hk d (List.mem_range.mpr (Heap.lt_size e3)) (fun z => ?_) o (hhref d o e3)
          have : d = t1.heap.objs.size := by simpa using z
          exact Nat.ne_of_lt dlt this
        · exact ⟨⟨k, hk2, r.1⟩, r.2⟩
    · intro g h5 tk5 gs hgb hag hsz5 hk5 W5 hgat
      simp only [GxR.passing_true, List.length_range] at W5
      have hn5 : its.toArray.size = tr.length := by rw [List.size_toArray, hlen]
      rw [hn5] at W5 hgat
      refine hQ tr H1 g _ q1 ⟨_, _, _, _, _, W5.in4_1, hgat, ?_, fun s' hm => ?_⟩
      · intro j y sj Qj Ej hy hQj
        obtain ⟨i, hij, b, hb, rfl⟩ := hy
        obtain ⟨hj, ej⟩ := List.getElem?_eq_some_iff.mp hij
        rw [List.getElem_range] at ej
        subst ej
        have hQ2 : Qj (tr.getD j false) sj := hQj
        rw [getD_of hb] at hQ2
        exact wpAny_truthy_bool hQ2
      · obtain ⟨more, em⟩ := hmore
        have nwr : ∀ b u, t1.heap.get? b = some u → b ∉ hp3.objs.size :: [t1.heap.objs.size] := fun b u e hb => by
          have hl := Heap.lt_size e
          have : b = hp3.objs.size ∨ b = t1.heap.objs.size := by simpa using hb
          rcases this with z | z
          · rw [z] at hl
            have h9 : (hp3.objs.size : Nat) < t1.heap.objs.size := hl
            omega
          · rw [z] at hl
            exact Nat.lt_irrefl _ hl
        have J := GxR.inv_tab (more := more) (h' := s'.heap) (g' := s'.gens) (d' := s'.drawn) (t' := s'.toks) J1 hP (fun b u hb e => hm.heap b u (nwr b u e) (hk5 b u (kp3 b u hb e)))
          (by rw [← em]; exact hm.heap P _ (nwr P _ tabAt) (hk5 P _ tabAt3)) (AllBare.movedS (J1.bare.push hgb) hm)
        rw [GxR.sh_eta t1 s' hm.os] at J
        exact ⟨upd H1 P (.tbl (ps ++ more)), ⟨⟨ps ++ more, upd_same, by rw [← em]; exact htri3⟩, fun b hb => upd_ne hb⟩, J⟩
  refine ⟨lim, ?_⟩
  cases hf : codeAmong gpos ps.toList with
  | none =>
    refine wpAny_genexprCodeX hcode (cd.code tabAt2 htri) (cd.tab tabAt2) hf fun c' h' tk hx hge hlt hco' _ htab' _ => ?_
    obtain ⟨o1, vs, f1, tf, fl, tg, inF, tx, tt, op, _, _, _, _, _, _, _, _, _, htr, _⟩ := hco'
    exact go _ h' tk _ hx (Nat.le_trans hge (Nat.le_of_lt hlt)) htab'.2 ⟨_, rfl⟩ htr
  | some cv =>
    refine wpAny_genexprCode_hit hcode (cd.code tabAt2 htri) hf ?_
    exact go cv (t1.heap.push ob0) t1.toks ps (Heap.ExtBut.refl _ _) (Nat.le_refl _) tabAt2 ⟨#[], by simp⟩ htri
end
end Gx
/-! GenZ -/
namespace Ev
open PySem PySem.Spec PyProof.Rows L2 Gx
variable [Tabs]
def rawD : D → Option RawD
  | .str x => some (.str x)
  | .tup l => (strsOf l).map .seq
  | .lst l => (strsOf l).map .seq
  | .rol l => (strsOf l).map .seq
  | _ => none
def capM (ρ : EnvD) (caps : List (Str × Nat)) : Str → Option RawD := fun y => match caps.lookup y with
  | some i => (match lookOf ρ i with
    | some d => rawD d
    | none => none)
  | none => none
def nm1 (x : Str) (d : D) (m : Str → Option RawD) : Str → Option RawD := fun y => if y = x then rawD d else m y
def nm2 (xa xb : Str) (d : D) (m : Str → Option RawD) : Option (Str → Option RawD) := match d with
  | .tup [a, b] => some fun y => if y = xa then rawD a else if y = xb then rawD b else m y
  | _ => none
def testsD (g : D → Option Bool) : List D → Option (List Bool)
  | [] => some []
  | d :: ds => match g d, testsD g ds with
    | some b, some bs => some (b :: bs)
    | _, _ => none
def lstOf : D → Option (List D)
  | .lst l => some l
  | .rol l => some l
  | _ => none
def anyF (q : List Bool → Bool) (gd : EnvD → D → Option Bool) (f : Fv) : Fe := fun ρ => match f ρ with
  | some (d, ρ1) => (match lstOf d with
    | some ds => (testsD (gd ρ1) ds).map fun bs => (.val (.bl (q bs)), ρ1)
    | none => none)
  | none => none
def g1 (x : Str) (caps : List (Str × Nat)) (g : GT) : EnvD → D → Option Bool := fun ρ d => g (nm1 x d (capM ρ caps))
def g2 (xa xb : Str) (caps : List (Str × Nat)) (g : GT) : EnvD → D → Option Bool := fun ρ d => match nm2 xa xb d (capM ρ caps) with
  | some m => g m
  | none => none
theorem testsD_len {g : D → Option Bool} : ∀ {ds : List D} {bs : List Bool}, testsD g ds = some bs → bs.length = ds.length
  | [], _, h => by cases h; rfl
  | d :: ds, bs, h => by
    unfold testsD at h
    split at h
    · rename_i b bs' h1 h2
      cases h
      rw [List.length_cons, List.length_cons, testsD_len h2]
    · cases h
theorem testsD_at {g : D → Option Bool} : ∀ {ds : List D} {bs : List Bool} {i : Nat} {d : D} {b : Bool}, testsD g ds = some bs → ds[i]? = some d → bs[i]? = some b → g d = some b
  | [], _, _, _, _, h, e, _ => by simp at e
  | d0 :: ds, bs, i, d, b, h, e, e2 => by
    unfold testsD at h
    split at h
    · rename_i b' bs' h1 h2
      cases h
      cases i with
      | zero =>
        rw [List.getElem?_cons_zero] at e e2
        cases e
        cases e2
        exact h1
      | succ i =>
        rw [List.getElem?_cons_succ] at e e2
        exact testsD_at h2 e e2
    · cases h
section
variable {X : Cx} {pins : List (Addr × Obj)} {σ : L2.St} {F H : Hp} {s : Shared}
theorem raw_seq (I : Inv X pins σ H s) {a : Addr} {xs : List V} {ds : List D} {ys : List Str} (hq : SqL X.K H a xs ∨ SqT X.K H a xs) (rs : Rs X.K F xs ds) (hd : strsOf ds = some ys) : RawR s.heap (.ref a) (.seq ys) := by
  rw [strsOf_ok hd] at rs
  have e := Rs.strs_inv rs
  subst e
  rcases hq with hq | hq
  · obtain ⟨its, r, p, _⟩ := I.list hq
    exact ⟨a, its, rfl, .inr p.isList, r⟩
  · obtain ⟨its, r, p, _⟩ := I.tuple hq
    exact ⟨a, its, rfl, .inl p, r⟩
theorem raw_of (I : Inv X pins σ H s) (e : Ex F H) {v : V} {u : Value} {d : D} {rd : RawD} (r : RL X.K F H v d) (ru : RelV v u) (hd : rawD d = some rd) : RawR s.heap u rd := by
  cases d with
  | str x =>
    cases hd
    cases r.str
    exact ru
  | tup l =>
    obtain ⟨ys, h1, rfl⟩ := Option.map_eq_some_iff.mp hd
    obtain ⟨p, xs, rfl, a, b, _⟩ := r.tup e
    obtain rfl : u = Value.ref p := ru
    exact raw_seq I (.inr a) b h1
  | lst l =>
    obtain ⟨ys, h1, rfl⟩ := Option.map_eq_some_iff.mp hd
    obtain ⟨p, xs, rfl, a, b⟩ := r.lst e
    obtain rfl : u = Value.ref p := ru
    exact raw_seq I (.inl (SqL.of a)) b h1
  | rol l =>
    obtain ⟨ys, h1, rfl⟩ := Option.map_eq_some_iff.mp hd
    obtain ⟨p, xs, rfl, a, b⟩ := r.rol e
    obtain rfl : u = Value.ref p := ru
    exact raw_seq I (.inl a) b h1
  | _ => cases hd
theorem lookup_mem : ∀ {l : List (Str × Addr)} {n : Str} {c : Addr}, l.lookup n = some c → (n, c) ∈ l
  | (k, v) :: r, n, c, h => by
    rw [List.lookup_cons] at h
    cases hb : n == k with
    | true =>
      rw [hb] at h
      cases h
      rw [eq_of_beq hb]
      exact List.mem_cons_self
    | false =>
      rw [hb] at h
      exact List.mem_cons_of_mem _ (lookup_mem h)
theorem lookup_memK : ∀ {l : List (Str × NameKind)} {n : Str} {c : NameKind}, l.lookup n = some c → (n, c) ∈ l
  | (k, v) :: r, n, c, h => by
    rw [List.lookup_cons] at h
    cases hb : n == k with
    | true =>
      rw [hb] at h
      cases h
      rw [eq_of_beq hb]
      exact List.mem_cons_self
    | false =>
      rw [hb] at h
      exact List.mem_cons_of_mem _ (lookup_memK h)
theorem clo_lookup {cells : List (Str × Addr)} {names : List (Str × NameKind)} {y : Str} {c : Addr} (h : names.lookup y = some .free) (hc : cells.lookup y = some c) : (cloFrom cells names []).lookup y = some c := by
  obtain ⟨c', e⟩ := mem_lookup (cloFrom_has (cells := cells) (acc := []) (lookup_memK h))
  rcases cloFrom_mem (lookup_mem e) with m | ⟨_, m⟩
  · cases m
  · rw [e, m, hc]
    rfl
/-- the generator expression's scope, as a test of the text -/
def genC (sc scope : Scope) (N : List Str) (xs : List Str) (caps : List (Str × Nat)) : Bool :=
  (match scope.kind with | .function => true | _ => false) && (!scope.isCoroutine && ((scope.names.all fun y => match y.2 with | .cell => false | .free => (match sc.names.lookup y.1 with | some .cell => true | some .free => true | _ => false) | _ => true) &&
    (decide (scope.names.lookup (".0" : Str) = some NameKind.local) && ((xs.all fun x => decide (scope.names.lookup x = some .local) && !(x == ("__debug__" : Str))) && caps.all fun p => decide (N[p.2]? = some p.1) && (decide (sc.names.lookup p.1 = some .cell) && (decide (scope.names.lookup p.1 = some .free) && (!(p.1 == ("__debug__" : Str)) && !(p.1 == ("__classdict__" : Str)))))))))
structure GenOk (sc scope : Scope) (N : List Str) (xs : List Str) (caps : List (Str × Nat)) : Prop where
  kind : scope.kind = .function
  co : scope.isCoroutine = false
  cell : ∀ y ∈ scope.names, y.2 ≠ .cell
  free : ∀ y ∈ scope.names, y.2 = .free → sc.names.lookup y.1 = some .cell ∨ sc.names.lookup y.1 = some .free
  dot : scope.names.lookup (".0" : Str) = some NameKind.local
  loc : ∀ x, x ∈ xs → scope.names.lookup x = some .local ∧ (x == ("__debug__" : Str)) = false
  cap : ∀ p, p ∈ caps → N[p.2]? = some p.1 ∧ sc.names.lookup p.1 = some .cell ∧ scope.names.lookup p.1 = some .free ∧ (p.1 == ("__debug__" : Str)) = false ∧ (p.1 == ("__classdict__" : Str)) = false
theorem genC_ok {sc scope : Scope} {N : List Str} {xs : List Str} {caps : List (Str × Nat)} (h : genC sc scope N xs caps = true) : GenOk sc scope N xs caps := by
  unfold genC at h
  simp only [Bool.and_eq_true, List.all_eq_true, decide_eq_true_eq, Bool.not_eq_true'] at h
  obtain ⟨h1, h2, h3, h4, h5, h6⟩ := h
  refine ⟨?_, h2, fun y hy e => ?_, fun y hy e => ?_, h4, fun x hx => h5 x hx, fun p hp => h6 p hp⟩
  · split at h1
    · assumption
    · cases h1
  · have q := h3 y hy
    rw [e] at q
    cases q
  · have q := h3 y hy
    rw [e] at q
    simp only at q
    split at q <;> first | exact .inl (by assumption) | exact .inr (by assumption) | cases q
theorem GenOk.genS {scope : Scope} {N xs : List Str} {caps : List (Str × Nat)} (g : GenOk X.env.scope scope N xs caps) (I : Inv X pins σ H s) {x : Str} (hx : x ∈ xs) : GxR.GenS X.env scope x where
  kind := g.kind
  co := g.co
  cell := g.cell
  dot := g.dot
  loc := (g.loc x hx).1
  free := fun y hy e => by
    rcases g.free y hy e with k | k
    · exact I.ok.has _ (.inl k)
    · exact I.ok.has _ (.inr k)
theorem Rep.tabbed {K : Frag} {G : Hp} {B : List (Nat × Addr)} {F H H2 : Hp} {ρ : EnvD} {σ : L2.St} {P : Addr} (p : Rep K G B F H ρ σ) (hP : P ∈ Tabs.l) (t : GxR.Tabbed P H H2) : Rep K G B F H2 ρ σ := by
  obtain ⟨t1, t2⟩ := t
  obtain ⟨a1, a2, a3⟩ := p.tab P hP
  refine ⟨p.len, fun a o q => ?_, fun a o q => ?_, p.dis, p.val, fun i d q => ?_, p.sep, p.bor, fun P' hP' => ?_⟩
  · rw [t2 a fun z => by rw [z, a2] at q; cases q]
    exact p.exF a o q
  · rw [t2 a fun z => by rw [z, a3] at q; cases q]
    exact p.exG a o q
  · obtain ⟨l, b1, b2, b3, b4⟩ := p.own i d q
    obtain ⟨o, ho, hT⟩ := b4.obj
    exact ⟨l, b1, b2, b3, b4.mono (Ex.refl F) (t2 l fun z => tab_ne a1 ho hT z.symm)⟩
  · by_cases z : P' = P
    · rw [z]
      exact ⟨t1, a2, a3⟩
    · obtain ⟨⟨ps, e1, e2⟩, c2, c3⟩ := p.tab P' hP'
      exact ⟨⟨ps, by rw [t2 P' z]; exact e1, e2⟩, c2, c3⟩
/-- what stood stands still, the table aside -/
theorem raw_on {P : Addr} {ps : Array Value} {s1 s2 : Shared} {u : Value} {rd : RawD} (hP : s1.heap.get? P = some { cls := .none, data := .fields ps }) (hk : ∀ d o, d ≠ P → s1.heap.get? d = some o → s2.heap.get? d = some o) (r : RawR s1.heap u rd) : RawR s2.heap u rd := by
  refine r.move fun b o e hc => hk b o (fun z => ?_) e
  rw [z, hP] at e
  cases e
  exact hc rfl
theorem gets_local {scope : Scope} {C : Addr} {code : Value} {bi : Addr} {s2 : Shared} {m2 : Str → Option Value} {x : Str} {u : Value} {rd : RawD} (hk : scope.kind = .function) (hl : scope.names.lookup x = some .local) (hd : (x == ("__debug__" : Str)) = false) (hn : s2.heap.Ns C m2) (hm : m2 x = some u) (r : RawR s2.heap u rd) :
    Gets X.prog X.w (genEnv scope (cloFrom X.env.cells scope.names []) C code bi X.env) s2 x rd := fun s' k' => by
  refine ⟨u, r.move fun b o e _ => keeps_heap k' b o e, fun pos A E Q q => ?_⟩
  exact wpAny_Name (wpAny_loadName_local hk hl (hn.keeps (keeps_heap k')) hm q) hd
theorem gets_cap {P : Addr} {ps : Array Value} {scope : Scope} {C : Addr} {code : Value} {bi : Addr} {s1 s2 : Shared} {y : Str} {c : Addr} {u : Value} {rd : RawD} (hkd : scope.kind = .function) (hl : scope.names.lookup y = some .free) (hd : (y == ("__debug__" : Str)) = false) (hcd : (y == ("__classdict__" : Str)) = false)
    (hP : s1.heap.get? P = some { cls := .none, data := .fields ps }) (hk : ∀ d o, d ≠ P → s1.heap.get? d = some o → s2.heap.get? d = some o) (hc : X.env.cells.lookup y = some c) (ic : s1.heap.IsCell c (some u)) (r : RawR s1.heap u rd) :
    Gets X.prog X.w (genEnv scope (cloFrom X.env.cells scope.names []) C code bi X.env) s2 y rd := fun s' k' => by
  refine ⟨u, (raw_on hP hk r).move fun b o e _ => keeps_heap k' b o e, fun pos A E Q q => ?_⟩
  have ic2 : s2.heap.IsCell c (some u) := by
    obtain ⟨o, ho, hdt⟩ := ic
    refine ⟨o, hk c o (fun z => ?_) ho, hdt⟩
    rw [z, hP] at ho
    cases ho
    cases hdt
  exact wpAny_Name (wpAny_loadName_free hkd hl (clo_lookup hl hc) (ic2.keeps (keeps_heap k')) q hcd) hd
/-- the captured names -/
theorem caps_get {G : Hp} {B : List (Nat × Addr)} {ρ : EnvD} {P : Addr} {ps : Array Value} {scope : Scope} {C : Addr} {code : Value} {bi : Addr} {xs : List Str} {caps : List (Str × Nat)} {s2 : Shared} (g : GenOk X.env.scope scope X.N xs caps) (I : Inv X pins σ H s) (p : Rep X.K G B F H ρ σ)
    (hP : s.heap.get? P = some { cls := .none, data := .fields ps }) (hk : ∀ d o, d ≠ P → s.heap.get? d = some o → s2.heap.get? d = some o) {y : Str} {rd : RawD} (hy : capM ρ caps y = some rd) : Gets X.prog X.w (genEnv scope (cloFrom X.env.cells scope.names []) C code bi X.env) s2 y rd := by
  unfold capM at hy
  split at hy
  · rename_i i hi
    split at hy
    · rename_i d hd
      have hmem : (y, i) ∈ caps := by
        clear hy hd
        induction caps with
        | nil => cases hi
        | cons q r ih =>
          rw [List.lookup_cons] at hi
          cases hb : y == q.1 with
          | true =>
            rw [hb] at hi
            have : q.2 = i := Option.some.inj hi
            rw [← this, eq_of_beq hb]
            exact List.mem_cons_self
          | false =>
            rw [hb] at hi
            exact List.mem_cons_of_mem _ (ih ⟨g.kind, g.co, g.cell, g.free, g.dot, g.loc, fun p hp => g.cap p (List.mem_cons_of_mem _ hp)⟩ hi)
      obtain ⟨c1, c2, c3, c4, c5⟩ := g.cap _ hmem
      obtain ⟨v, e1, r⟩ := p.look hd
      obtain ⟨m, _, lo⟩ := I.loc
      obtain ⟨u, ru, lk⟩ := lo i y v c1 e1 (.inr (.inl c2))
      rcases lk with ⟨k1, _⟩ | ⟨_, c, hc, ic⟩
      · have k1 : X.env.scope.names.lookup y = some .local := k1
        rw [c2] at k1
        cases k1
      · exact gets_cap g.kind c3 c4 c5 hP hk hc ic (raw_of I p.exF r ru hy)
    · cases hy
  · cases hy
end
end Ev
/-! GenW -/
namespace Ev
open PySem PySem.Spec PyProof.Rows L2 Gx
variable [Tabs]
theorem range_any (tr : List Bool) : (List.range tr.length).any (fun j => tr.getD j false) = tr.any fun b => b := by
  rw [Bool.eq_iff_iff, List.any_eq_true, List.any_eq_true]
  constructor
  · rintro ⟨j, hj, h⟩
    have hj' := List.mem_range.mp hj
    rw [getD_of (List.getElem?_eq_getElem hj')] at h
    exact ⟨tr[j], List.getElem_mem hj', h⟩
  · rintro ⟨b, hb, h⟩
    obtain ⟨j, hj, e⟩ := List.getElem_of_mem hb
    exact ⟨j, List.mem_range.mpr hj, by rw [getD_of (List.getElem?_eq_getElem hj), e]; exact h⟩
theorem range_all (tr : List Bool) : (List.range tr.length).all (fun j => tr.getD j false) = tr.all fun b => b := by
  rw [Bool.eq_iff_iff, List.all_eq_true, List.all_eq_true]
  constructor
  · intro h b hb
    obtain ⟨j, hj, e⟩ := List.getElem_of_mem hb
    have q := h j (List.mem_range.mpr hj)
    rw [getD_of (List.getElem?_eq_getElem hj), e] at q
    exact q
  · intro h j hj
    have hj' := List.mem_range.mp hj
    rw [getD_of (List.getElem?_eq_getElem hj')]
    exact h _ (List.getElem_mem hj')
section
variable {X : Cx} {iter elt : Expr} {f1 : Fv} {c P : Addr} {scope : Scope} {k : Nat} {caps : List (Str × Nat)} {g : GT} {p pos gpos : Pos}
theorem lst_of {K : Frag} {F H : Hp} {v : V} {d : D} {ds : List D} (e : Ex F H) (r : R K F v d) (h : lstOf d = some ds) : ∃ a xs, v = .ref a ∧ SqL K H a xs ∧ Rs K F xs ds := by
  cases r <;> cases h
  · rename_i a xs h1 r1
    exact ⟨a, xs, rfl, SqL.of (e _ _ h1), r1⟩
  · rename_i a xs h1 r1
    exact ⟨a, xs, rfl, e.seqL h1, r1⟩
theorem anyF_inv {q : List Bool → Bool} {gd : EnvD → D → Option Bool} {f : Fv} {ρ ρ' : EnvD} {r : Re} (h : anyF q gd f ρ = some (r, ρ')) : ∃ d ds bs, f ρ = some (d, ρ') ∧ lstOf d = some ds ∧ testsD (gd ρ') ds = some bs ∧ r = .val (.bl (q bs)) := by
  unfold anyF at h
  cases q1 : f ρ with
  | none => rw [q1] at h; cases h
  | some y =>
    obtain ⟨d, ρ1⟩ := y
    rw [q1] at h
    simp only at h
    cases q2 : lstOf d with
    | none => rw [q2] at h; cases h
    | some ds =>
      rw [q2] at h
      obtain ⟨bs, e1, e2⟩ := Option.map_eq_some_iff.mp h
      cases e2
      exact ⟨d, ds, bs, rfl, q2, e1, rfl⟩
/-- the generator over a list with one name, up to its being ready -/
theorem gen1 {x : Str} {px : Pos} (hr : Room k X.A) (TB : GxR.TabB X.base X.mg c P) (hT : P ∈ Tabs.l) (hcode : X.env.code = .ref c) (ok : GenOk X.env.scope scope X.N [x] caps) (hi : PE X iter (tV X.K f1)) (hel : GEl X.prog X.w elt g) (hs : ∀ v, genFold iter X.env v = pure v)
    {pins : List (Addr × Obj)} {s : Shared} {σ : L2.St} {H : Hp} (I : Inv X pins σ H s) {G : Hp} {B : List (Nat × Addr)} {F : Hp} {ρ ρ1 : EnvD} {d : D} {ds : List D} {bs : List Bool} (rp : Rep X.K G B F H ρ σ) (q1 : f1 ρ = some (d, ρ1)) (q2 : lstOf d = some ds) (q3 : testsD (g1 x caps g ρ1) ds = some bs) {Q' : Value → Shared → Prop}
    (hQ : ∀ H1 F1 gg s5, Ex F F1 → Rep X.K G B F1 H1 ρ1 σ → RdyB X pins σ H1 P bs gg s5 → Q' (.ref gg) s5) :
    wpAny (model X.prog X.w) X.A (eval (.GeneratorExp elt [⟨.Name x px, iter, [], 0⟩] scope gpos) X.env) Q' X.xe s := by
  refine gx_list (Rr := fun tr H1 => tr = bs ∧ ∃ F1, Ex F F1 ∧ Rep X.K G B F1 H1 ρ1 σ) hr TB hcode (ok.genS I (by simp)) hi hs I ⟨G, B, F, ρ, d, ρ1, rp, q1, fun v F1 H1 e1 rp1 r1 => ?_⟩ fun tr H1 gg s5 hR hG => ?_
  · obtain ⟨a, xs, rfl, hq, rs⟩ := lst_of rp1.exF r1 q2
    refine ⟨a, xs, bs, rfl, hq, (rp1.tab P hT).1, by rw [testsD_len q3, rs.len], fun s1 its I1 rv i u b hu hb => ?_, rfl, F1, e1, rp1⟩
    obtain ⟨ps, hP, _⟩ := (rp1.tab P hT).1
    have tabAt : s1.heap.get? P = some { cls := .none, data := .fields ps } := I1.hok P _ hP
    have hi1 : i < its.length := (List.getElem?_eq_some_iff.mp hu).1
    have hx : xs[i]? = some (xs[i]'(by rw [rv.length]; exact hi1)) := List.getElem?_eq_getElem _
    obtain ⟨u', hu', ru⟩ := rv.get hx
    rw [hu] at hu'
    cases hu'
    obtain ⟨d1, hd1, r1'⟩ := rs.getV hx
    have hg := testsD_at q3 hd1 hb
    intro C code bi A' E' s2 m2 hk hn hm
    refine hel _ A' E' s2 _ b (fun y rd hy => ?_) hg
    unfold nm1 at hy
    split at hy
    · rename_i hyx
      subst hyx
      exact gets_local ok.kind (ok.loc y (by simp)).1 (ok.loc y (by simp)).2 hn hm (raw_on tabAt hk (raw_of I1 rp1.exF (.inl r1') ru hy))
    · exact caps_get ok I1 rp1 tabAt hk hy
  · obtain ⟨rfl, F1, e1, rp1⟩ := hR
    exact hQ H1 F1 gg s5 e1 rp1 hG
/-- .. with two names -/
theorem gen2 {xa xb : Str} {pa pb pt : Pos} {kt : Nat} (hab : xa ≠ xb) (hr : Room k X.A) (TB : GxR.TabB X.base X.mg c P) (hT : P ∈ Tabs.l) (hcode : X.env.code = .ref c) (ok : GenOk X.env.scope scope X.N [xa, xb] caps) (hi : PE X iter (tV X.K f1)) (hel : GEl X.prog X.w elt g) (hs : ∀ v, genFold iter X.env v = pure v)
    {pins : List (Addr × Obj)} {s : Shared} {σ : L2.St} {H : Hp} (I : Inv X pins σ H s) {G : Hp} {B : List (Nat × Addr)} {F : Hp} {ρ ρ1 : EnvD} {d : D} {ds : List D} {bs : List Bool} (rp : Rep X.K G B F H ρ σ) (q1 : f1 ρ = some (d, ρ1)) (q2 : lstOf d = some ds) (q3 : testsD (g2 xa xb caps g ρ1) ds = some bs) {Q' : Value → Shared → Prop}
    (hQ : ∀ H1 F1 gg s5, Ex F F1 → Rep X.K G B F1 H1 ρ1 σ → RdyB X pins σ H1 P bs gg s5 → Q' (.ref gg) s5) :
    wpAny (model X.prog X.w) X.A (eval (.GeneratorExp elt [⟨.Tuple [.Name xa pa, .Name xb pb] kt pt, iter, [], 0⟩] scope gpos) X.env) Q' X.xe s := by
  have isT : ∀ d1, (∃ k, g2 xa xb caps g ρ1 d1 = some k) → ∃ a b, d1 = .tup [a, b] := fun d1 ⟨k, h⟩ => by
    unfold g2 nm2 at h
    split at h
    · rename_i m hm
      split at hm
      · exact ⟨_, _, rfl⟩
      · cases hm
    · cases h
  refine gx_pairs (Rr := fun tr H1 => tr = bs ∧ ∃ F1, Ex F F1 ∧ Rep X.K G B F1 H1 ρ1 σ) hr TB hcode (ok.genS I (by simp)) (ok.loc xb (by simp)).1 hab hi hs I ⟨G, B, F, ρ, d, ρ1, rp, q1, fun v F1 H1 e1 rp1 r1 => ?_⟩ fun tr H1 gg s5 hR hG => ?_
  · obtain ⟨a, xs, rfl, hq, rs⟩ := lst_of rp1.exF r1 q2
    have lb := testsD_len q3
    have two : ∀ (i : Nat) x, xs[i]? = some x → ∃ T a b da db k, x = V.ref T ∧ SqT X.K F1 T [a, b] ∧ R X.K F1 a da ∧ R X.K F1 b db ∧ bs[i]? = some k ∧ g2 xa xb caps g ρ1 (.tup [da, db]) = some k := fun i x hx => by
      obtain ⟨d1, hd1, rd1⟩ := rs.getV hx
      have hi1 : i < bs.length := by rw [lb]; exact (List.getElem?_eq_some_iff.mp hd1).1
      have hb := List.getElem?_eq_getElem hi1
      have hg := testsD_at q3 hd1 hb
      obtain ⟨da, db, rfl⟩ := isT d1 ⟨_, hg⟩
      cases rd1 with
      | tup hq1 rs1 =>
        cases rs1 with
        | cons ra t =>
          cases t with
          | cons rb t2 =>
            cases t2
            exact ⟨_, _, _, da, db, _, rfl, hq1, ra, rb, hb, hg⟩
    refine ⟨a, xs, bs, rfl, hq, (rp1.tab P hT).1, by rw [lb, rs.len], fun x hx => ?_, fun s1 I1 i T a1 b1 ua ub kk hx hq1 _ ra rb hb => ?_, rfl, F1, e1, rp1⟩
    · obtain ⟨i, hi1, ei⟩ := List.getElem_of_mem hx
      obtain ⟨T, a1, b1, _, _, _, e, h2, _⟩ := two i x (by rw [List.getElem?_eq_getElem hi1, ei])
      exact ⟨T, a1, b1, e, rp1.exF.seqT h2⟩
    · obtain ⟨ps, hP, _⟩ := (rp1.tab P hT).1
      have tabAt : s1.heap.get? P = some { cls := .none, data := .fields ps } := I1.hok P _ hP
      obtain ⟨T2, a2, b2, da, db, k2, e, h2, r2a, r2b, hb2, hg⟩ := two i _ hx
      cases e
      have ej := I1.tuple_inj hq1 (rp1.exF.seqT h2)
      injection ej with ea ej2
      injection ej2 with eb _
      subst ea eb
      rw [hb] at hb2
      cases hb2
      intro C code bi A' E' s2 m2 hk hn hm hm'
      unfold g2 nm2 at hg
      refine hel _ A' E' s2 _ kk (fun y rd hy => ?_) hg
      split at hy
      · rename_i hyx
        subst hyx
        exact gets_local ok.kind (ok.loc y (by simp)).1 (ok.loc y (by simp)).2 hn hm (raw_on tabAt hk (raw_of I1 rp1.exF (.inl r2a) ra hy))
      · split at hy
        · rename_i hyx
          subst hyx
          exact gets_local ok.kind (ok.loc y (by simp)).1 (ok.loc y (by simp)).2 hn hm' (raw_on tabAt hk (raw_of I1 rp1.exF (.inl r2b) rb hy))
        · exact caps_get ok I1 rp1 tabAt hk hy
  · obtain ⟨rfl, F1, e1, rp1⟩ := hR
    exact hQ H1 F1 gg s5 e1 rp1 hG
theorem ev_any1 {x : Str} {px : Pos} (hr : Room k X.A) (hg : Gl X "any") (hm : X.mg "any" = none) (TB : GxR.TabB X.base X.mg c P) (hT : P ∈ Tabs.l) (hcode : X.env.code = .ref c) (ok : GenOk X.env.scope scope X.N [x] caps) (hi : PE X iter (tV X.K f1)) (hel : GEl X.prog X.w elt g) (hs : ∀ v, genFold iter X.env v = pure v)
    (he : starEach [.GeneratorExp elt [⟨.Name x px, iter, [], 0⟩] scope gpos] X.env = (false, eval (.GeneratorExp elt [⟨.Name x px, iter, [], 0⟩] scope gpos) X.env) :: starEach [] X.env) :
    PE X (.Call (.Name "any" p) [.GeneratorExp elt [⟨.Name x px, iter, [], 0⟩] scope gpos] [] pos) (tE X.K (anyF (fun bs => bs.any fun b => b) (g1 x caps g) f1)) := by
  refine ⟨fun pins s σ H Q I ⟨G, B, F, ρ, r, ρ', rp, ef, z⟩ => ?_⟩
  obtain ⟨d, ds, bs, q1, q2, q3, rfl⟩ := anyF_inv ef
  refine wpAny_Call_Name_kw (ld_blt I hg hm boot_any ?_)
  refine PyProof.Rows.callWith_builtin1 ?_ he (by rfl)
  rw [he]
  refine Calls.spliced_cons (gen1 hr TB hT hcode ok hi hel hs I rp q1 q2 q3 fun H1 F1 gg s5 e1 rp1 hG => ?_)
  obtain ⟨fp, wr, GG, FF, St, W, hst, htr, hI⟩ := hG
  refine Calls.spliced_nil ?_
  refine call_any_walkS (W.self 0 _ _ _ hst ⟨gg, fp, wr, GG, _, FF, St, _, rfl, W, hst, htr, fun s' hmv => ?_⟩)
  obtain ⟨H2, hTb, J⟩ := hI s' hmv
  refine ⟨.bl _, H2, J, rfl, ?_⟩
  rw [range_any]
  exact z _ F1 H2 e1 (rp1.tabbed hT hTb) (.bl _)
theorem ev_all1 {x : Str} {px : Pos} (hr : Room k X.A) (hg : Gl X "all") (hm : X.mg "all" = none) (hb : bootBuiltins "all" = some (.builtin "all")) (TB : GxR.TabB X.base X.mg c P) (hT : P ∈ Tabs.l) (hcode : X.env.code = .ref c) (ok : GenOk X.env.scope scope X.N [x] caps) (hi : PE X iter (tV X.K f1)) (hel : GEl X.prog X.w elt g) (hs : ∀ v, genFold iter X.env v = pure v)
    (he : starEach [.GeneratorExp elt [⟨.Name x px, iter, [], 0⟩] scope gpos] X.env = (false, eval (.GeneratorExp elt [⟨.Name x px, iter, [], 0⟩] scope gpos) X.env) :: starEach [] X.env) :
    PE X (.Call (.Name "all" p) [.GeneratorExp elt [⟨.Name x px, iter, [], 0⟩] scope gpos] [] pos) (tE X.K (anyF (fun bs => bs.all fun b => b) (g1 x caps g) f1)) := by
  refine ⟨fun pins s σ H Q I ⟨G, B, F, ρ, r, ρ', rp, ef, z⟩ => ?_⟩
  obtain ⟨d, ds, bs, q1, q2, q3, rfl⟩ := anyF_inv ef
  refine wpAny_Call_Name_kw (ld_blt I hg hm hb ?_)
  refine PyProof.Rows.callWith_builtin1 ?_ he (by rfl)
  rw [he]
  refine Calls.spliced_cons (gen1 hr TB hT hcode ok hi hel hs I rp q1 q2 q3 fun H1 F1 gg s5 e1 rp1 hG => ?_)
  obtain ⟨fp, wr, GG, FF, St, W, hst, htr, hI⟩ := hG
  refine Calls.spliced_nil ?_
  refine call_all_walkS (W.self 0 _ _ _ hst ⟨gg, fp, wr, GG, _, FF, St, _, rfl, W, hst, htr, fun s' hmv => ?_⟩)
  obtain ⟨H2, hTb, J⟩ := hI s' hmv
  refine ⟨.bl _, H2, J, rfl, ?_⟩
  rw [range_all]
  exact z _ F1 H2 e1 (rp1.tabbed hT hTb) (.bl _)
theorem ev_any2 {xa xb : Str} {pa pb pt : Pos} {kt : Nat} (hab : xa ≠ xb) (hr : Room k X.A) (hg : Gl X "any") (hm : X.mg "any" = none) (TB : GxR.TabB X.base X.mg c P) (hT : P ∈ Tabs.l) (hcode : X.env.code = .ref c) (ok : GenOk X.env.scope scope X.N [xa, xb] caps) (hi : PE X iter (tV X.K f1)) (hel : GEl X.prog X.w elt g) (hs : ∀ v, genFold iter X.env v = pure v)
    (he : starEach [.GeneratorExp elt [⟨.Tuple [.Name xa pa, .Name xb pb] kt pt, iter, [], 0⟩] scope gpos] X.env = (false, eval (.GeneratorExp elt [⟨.Tuple [.Name xa pa, .Name xb pb] kt pt, iter, [], 0⟩] scope gpos) X.env) :: starEach [] X.env) :
    PE X (.Call (.Name "any" p) [.GeneratorExp elt [⟨.Tuple [.Name xa pa, .Name xb pb] kt pt, iter, [], 0⟩] scope gpos] [] pos) (tE X.K (anyF (fun bs => bs.any fun b => b) (g2 xa xb caps g) f1)) := by
  refine ⟨fun pins s σ H Q I ⟨G, B, F, ρ, r, ρ', rp, ef, z⟩ => ?_⟩
  obtain ⟨d, ds, bs, q1, q2, q3, rfl⟩ := anyF_inv ef
  refine wpAny_Call_Name_kw (ld_blt I hg hm boot_any ?_)
  refine PyProof.Rows.callWith_builtin1 ?_ he (by rfl)
  rw [he]
  refine Calls.spliced_cons (gen2 hab hr TB hT hcode ok hi hel hs I rp q1 q2 q3 fun H1 F1 gg s5 e1 rp1 hG => ?_)
  obtain ⟨fp, wr, GG, FF, St, W, hst, htr, hI⟩ := hG
  refine Calls.spliced_nil ?_
  refine call_any_walkS (W.self 0 _ _ _ hst ⟨gg, fp, wr, GG, _, FF, St, _, rfl, W, hst, htr, fun s' hmv => ?_⟩)
  obtain ⟨H2, hTb, J⟩ := hI s' hmv
  refine ⟨.bl _, H2, J, rfl, ?_⟩
  rw [range_any]
  exact z _ F1 H2 e1 (rp1.tabbed hT hTb) (.bl _)
end
end Ev
/-! GenV -/
namespace Ev
open PySem PySem.Spec PyProof.Rows L2
variable [Tabs]
theorem fn_ofC {P : Program} {w : World} {K : Frag} {mg : Str → Option Value} {base : Heap} {x qual : Str} {params : Arguments} {body : List Stmt} {scope : Scope} {dvs : List V} {kws : List (Str × V)} {f : Addr} {fd : FuncData} {CX : CXT} {N ps : List Str} {k : Nat} {ms : List Bool} {fb : Fs} {c : Addr}
    (fu : FunD K x qual params body scope dvs kws f fd) (hc : fd.code = .ref c) (sc : FnScope N ps scope) (hm : ms.length = ps.length)
    (hb : ∀ (A : Around) (outer : List Env) (s : Shared) (H : Hp) (E : XK), Room k (A.deeper (PyProof.Rows.envOfC qual scope s.heap.objs.size f (.ref c))) → PSs (cxOf CX P w K mg base N qual scope f (.ref c) A outer s H E) body (tS K fb)) :
    FnOk P w K mg base CX (k + 1) f fd ps (spD K ms (bodyF ms (N.length - ms.length) fb)) := by
  obtain ⟨oc, od, dV, kV, doc, pm, an, cdv, ct, osl, rfl, lk, hcd, _, _⟩ := fu.ex
  have hc : cdv = .ref c := hc
  subst hc
  have vlen : ∀ (vs : List V) (ds : List D) G B F H, ds.length = ms.length → Rep K G B F H (inE ms ds) (vs.map some) → vs.length = ms.length := fun vs ds G B F H hl rp => by
    have := rp.len
    unfold inE at this
    rw [List.length_zipWith, List.length_map, hl, Nat.min_self] at this
    exact this.symm
  refine L2.fn_of lk hcd sc (fun vs H Q E ⟨G, B, F, ds, r, ds', hl, rp, _, _, _⟩ => (vlen vs ds G B F H hl rp).trans hm) (fun A outer s H vs Q E hr ⟨G, B, F, ds, r, ds', hl, rp, ef, hB, z⟩ => ⟨_, hb A outer s H E hr, ?_⟩)
  have hv := vlen vs ds G B F H hl rp
  have rp2 := rp.ext (N.length - ms.length)
  unfold bodyF at ef
  cases q : fb (inE ms ds ++ List.replicate (N.length - ms.length) .none) with
  | none => rw [q] at ef; cases ef
  | some o =>
    rw [q] at ef
    refine ⟨G, B, F, _, o, by unfold L2.start; rw [hv]; exact rp2, q, ?_⟩
    cases o with
    | rt r1 ρ1 =>
      obtain ⟨y, e1, e2⟩ := Option.map_eq_some_iff.mp ef
      cases e2
      exact fun σ v F' H' e rp3 rr => let ⟨a, b⟩ := Rep.leave rp hl hB e rp3 e1; z v F' H' e a (b v _ rr)
    | nx ρ1 =>
      obtain ⟨y, e1, e2⟩ := Option.map_eq_some_iff.mp ef
      cases e2
      exact fun σ F' H' e rp3 => z _ F' H' e (Rep.leave rp hl hB e rp3 e1).1 .non
    | bk ρ1 => cases ef
    | ct ρ1 => cases ef
end Ev
/-! TSet -/
namespace Ev
open PySem PySem.Spec PyProof.Rows L2
abbrev SD := PySem.Froz.SD
/-- the payload holds just the texts l, its table can be walked -/
structure TxtIn (P : Program) (w : World) (D : SD) (l : List Str) : Prop where
  tx : PySem.Froz.TxOk P w D l
  val : ∀ e ∈ D.1.toList, ∃ (x : Str) (t : Tok), e.2 = .str x t
  pm : (D.1.toList.map fun e => strOf e.2).Perm l
  ris : Ris D.2.2.place.toList
  led : w.params.followText "set-order" = true ∨ D.2.2.led = true
def SetT (P : Program) (w : World) (a : Addr) (l : List Str) : HO := .ext fun h => ∃ D, h.get? a = some (PySem.Froz.sObj "set" D) ∧ TxtIn P w D l
/-- a text more -/
def addS (l : List Str) (k : Str) : List Str := if k ∈ l then l else k :: l
section
variable {P : Program} {w : World} {A : Around} {E : Value → Shared → Prop} {s : Shared} {a : Addr} {l : List Str}
theorem tail_in {ep : Nat} {es1 : Array (Int × Value)} {t2 : SetTable} {b : Bool} (F : TxtIn P w (es1, ep, t2) l) : TxtIn P w (PySem.Froz.tailTx ep es1 t2 b) l := by
  refine ⟨PySem.Froz.tail_ok F.tx, ?_, ?_, ?_, ?_⟩ <;> unfold PySem.Froz.tailTx <;> by_cases c : (!b && t2.tooFull) = true
  · rw [if_pos c]; exact fun e he => F.val e ((relayAll_perm t2 es1 _).mem_iff.mp he)
  · rw [if_neg c]; exact F.val
  · rw [if_pos c]; exact ((relayAll_perm t2 es1 _).map _).trans F.pm
  · rw [if_neg c]; exact F.pm
  · rw [if_pos c]; exact relayAll_ris t2 es1 _
  · rw [if_neg c]; exact F.ris
  · rw [if_pos c]; exact F.led.imp id fun z => (relayAll_led t2 es1 _).trans z
  · rw [if_neg c]; exact F.led
theorem add_in {D : SD} {k : Str} (u : Tok) (F : TxtIn P w D l) : TxtIn P w (PySem.Froz.addTx (hashStr w k) (.str k u) D) (k :: l) := by
  obtain ⟨es, ep, t⟩ := D
  have hp := layNew_perm t es (hashStr w k) (.str k u)
  have hr := layNew_ris t es (hashStr w k) (.str k u) F.ris
  have hl := layNew_led t es (hashStr w k) (.str k u)
  have hf := layNew_fits t es (hashStr w k) (.str k u)
  rw [Array.toList_push] at hp
  have pc := hp.trans (List.perm_append_singleton _ _)
  have key : ∀ t1 : SetTable, t1.place = (layNew t es (hashStr w k) (.str k u)).2.1.place → t1.led = (layNew t es (hashStr w k) (.str k u)).2.1.led → t1.fits (layNew t es (hashStr w k) (.str k u)).1.size = true → TxtIn P w ((layNew t es (hashStr w k) (.str k u)).1, ep, t1) (k :: l) := fun t1 e1 e2 e3 => by
    refine ⟨F.tx.push (by rw [Array.toList_push]; exact hp) e3, fun e he => ?_, ?_, ?_, F.led.imp id fun z => ?_⟩
    · rcases List.mem_cons.mp (pc.mem_iff.mp he) with z | z
      · exact ⟨k, u, by rw [z]⟩
      · exact F.val e z
    · exact (pc.map _).trans (F.pm.cons _)
    · show Ris t1.place.toList
      rw [e1]
      exact hr
    · show t1.led = true
      rw [e2, hl]
      exact z
  refine tail_in ?_
  by_cases c : (layNew t es (hashStr w k) (.str k u)).2.1.plain = true
  · rw [if_pos c]
    exact key _ rfl rfl (SetTable.fits_plain_off hf)
  · rw [if_neg c]
    exact key _ rfl rfl hf
theorem SetT_new {H : Hp} {h : Heap} {D : SD} (e : h.get? a = some (PySem.Froz.sObj "set" D)) (F : TxtIn P w D l) : ObjOk P w H h a (SetT P w a l) := ⟨⟨D, e, F⟩, ⟨_, e⟩, fun h1 h2 ⟨D', e', F'⟩ k => ⟨D', k _ e', F'⟩⟩
theorem nil_in (w : World) : TxtIn P w (#[], 0, .fresh 0 0 (!w.params.followText "set-order")) [] :=
  ⟨PySem.Froz.TxOk.nil (by rfl), (fun e he => by simp at he), .nil, List.Pairwise.nil, by
    show _ ∨ (!w.params.followText "set-order") = true
    cases w.params.followText "set-order"
    · exact .inr rfl
    · exact .inl rfl⟩
/-- the add of a text that is there -/
theorem add_old {D : SD} {k : Str} {u : Tok} {Q : Bool → Shared → Prop} (ho : s.heap.get? a = some (PySem.Froz.sObj "set" D)) (F : TxtIn P w D l) (hk : k ∈ l) (hb : l.length < scanBound) (h : Q false s) :
    wpAny (model P w) A (setAddHashed a (.str k u) (hashStr w k)) Q E s := by
  obtain ⟨es, ep, t⟩ := D
  have hsz : es.size = l.length := F.tx.sz
  have hel : ElemsOf (PySem.strKind P w) es.toList := F.tx.el
  obtain ⟨e, he, ek⟩ := (F.tx.mem k).mp hk
  unfold setAddHashed setAddHashedIn
  refine wpAny_holding (wpAny_bind (wpAny_setState_of ho rfl F.tx.fit ?_))
  dsimp only
  rw [byScan_of (x := Value.str k u) rfl (by rw [hsz]; exact hb) hel]
  simp only [↓reduceIte]
  unfold setAddByScan
  refine wpAny_bind (wpAny_bind (wpAny_rule (wpAny_bind (wpAny_setScan_of (knd := PySem.strKind P w) (k := k) (PySem.Froz.is_str k u) ho rfl F.tx.fit hel ?_))))
  cases hf : List.findIdx? (fun e => (PySem.strKind P w).is k e.2) es.toList with
  | none =>
    have z := List.findIdx?_eq_none_iff.mp hf e he
    rw [ek] at z
    cases z
  | some j =>
    dsimp only
    exact wpAny_pure (wpAny_pure h)
/-- set.add -/
theorem add_txt {D : SD} {k : Str} {u : Tok} {Q : Value → Shared → Prop} (ho : s.heap.get? a = some (PySem.Froz.sObj "set" D)) (F : TxtIn P w D l) (hb : l.length + 1 < scanBound)
    (h : ∀ h' D', Heap.SameBut a s.heap h' → h'.get? a = some (PySem.Froz.sObj "set" D') → TxtIn P w D' (addS l k) → Q .none { s with heap := h', toks := s.toks + 1 }) :
    wpAny (model P w) A (call (.builtin "set.add") [.ref a, .str k u]) Q E s := by
  refine wpAny_call_entry PySem.F.slot_set_add ⟨_, ho, rfl⟩ PySem.F.entry_set_add ?_ (PySem.F.args_set_add_2 _ _)
  unfold Builtin.«set.add» Builtin.Frozenset.oneOther
  simp only [List.isEmpty_nil, bind_assoc]
  unfold Builtin.Frozenset.addrOf setAdd
  refine wpAny_bind (wpAny_pure ?_)
  try dsimp only
  refine wpAny_bind (wpAny_pure ?_)
  try dsimp only
  refine wpAny_bind (wpAny_holding (wpAny_bind ((PySem.strKind P w).pyHash (PySem.Froz.is_str k u) ?_)))
  by_cases hk : k ∈ l
  · refine add_old (s := { s with toks := s.toks + 1 }) ho F hk (by omega) ?_
    show wpAny _ _ (ret Value.none) _ _ _
    have q := h s.heap D (Heap.SameBut.refl a s.heap) ho (by rw [addS, if_pos hk]; exact F)
    exact wpAny_pure ⟨_, rfl, q⟩
  · refine PySem.Froz.add_x (s := { s with toks := s.toks + 1 }) ho F.tx hk hb ?_
    show wpAny _ _ (ret Value.none) _ _ _
    have q := h _ _ (Heap.SameBut.update s.heap a (fun _ => PySem.Froz.sObj "set" (PySem.Froz.addTx (hashStr w k) (.str k u) D))) (PySem.Froz.get_upd _ ho rfl) (by rw [addS, if_neg hk]; exact add_in u F)
    exact wpAny_pure ⟨_, rfl, q⟩
/-- sorted(such a set) -/
theorem sorted_txt {D : SD} {Q : Value → Shared → Prop} (ho : s.heap.get? a = some (PySem.Froz.sObj "set" D)) (F : TxtIn P w D l) (hh : A.handled = none) (h64 : l.length < 64)
    (hQ : ∀ s' p (out : Array Value) (c : Nat) (ys : List Str), (∀ b o, s.heap.get? b = some o → s'.heap.get? b = some o) → s'.gens = s.gens → s'.os = s.os → s.heap.objs.size ≤ p →
      s'.heap.get? p = some (seqObj "list" out c) → StrsAre out.toList ys → ys.Perm l → sortedS ys = true → Q (.ref p) s') :
    wpAny (model P w) A (call (.builtin "sorted") [.ref a]) Q E s := by
  obtain ⟨es, ep, t⟩ := D
  have hsz : es.size = l.length := F.tx.sz
  refine Calls.call_function_entry kind_sorted plain_sorted entry_sorted (args_sorted1 _) ?_
  unfold Builtin.«sorted»
  refine wpAny_bind (m := checkCount "sorted" 1 1 _) (wpAny_pure (wpAny_bind (collect_set (A := A.in1) hh ⟨_, ho, rfl, rfl⟩ F.tx.fit (by rw [hsz]; exact Nat.lt_trans h64 (by decide)) F.ris F.led fun s1 vs k1 hz g1 o1 pm => ?_)))
  have hvl : vs.length = l.length := by rw [pm.length_eq, List.length_map, Array.length_toList]; exact hsz
  have hS : StrsAre vs (vs.map strOf) := strsAre_map vs fun v hv => by
    obtain ⟨e, he, q⟩ := List.mem_map.mp (pm.mem_iff.mp hv)
    obtain ⟨x, u, z⟩ := F.val e he
    exact ⟨x, u, by rw [← q]; exact z⟩
  have hp : (vs.map strOf).Perm l := by
    have q := pm.map strOf
    rw [List.map_map] at q
    exact q.trans F.pm
  refine wpAny_bind (wpAny_newList ?_ (by rw [hvl, sizeLine_eq]; omega))
  have hoL : (s1.heap.push (seqObj "list" vs.toArray 0)).get? s1.heap.objs.size = some (seqObj "list" vs.toArray 0) := Heap.get?_push_size _ rfl
  refine wpAny_bind (wpAny_holding (wpAny_call_entry slot_list_sort ⟨_, hoL, rfl⟩ entry_list_sort (list_sort_treeK strKind_oneLt hoL hS.keysOf (fun v₁ v₂ rest e => keyKind_strs (by rw [← e]; exact hS)) (by rw [hvl]; exact h64) fun st' a1 a2 => ⟨_, rfl, ?_⟩) (args_list_sort _)))
  obtain ⟨ys, b1, b2, b3⟩ := sorted_out_str hS a1 a2
  obtain ⟨c, hc⟩ := sortedHeap_at (vs := vs) (out := (arrOf st').map (·.2)) hoL
  refine wpAny_pure ⟨_, rfl, hQ _ s1.heap.objs.size _ c ys (fun b u e => ?_) g1 o1 hz hc b1 (b2.trans hp) b3⟩
  have q := k1 b u e
  have hlt := Heap.lt_size q
  show (sortedHeap (s1.heap.push (seqObj "list" vs.toArray 0)) s1.heap.objs.size vs _).get? b = some u
  rw [sortedHeap_old (Nat.ne_of_lt hlt) (by rw [size_push']; exact Nat.lt_succ_of_lt hlt)]
  exact Heap.get?_push_of_some _ q
end
section
variable {X : Cx} {pins : List (Addr × Obj)} {σ : L2.St} {H : Hp} {s : Shared} {a : Addr} {l : List Str}
theorem setT_add {E : Value → Shared → Prop} {v : Value} {k : Str} {Q : Value → Shared → Prop} (I : Inv X pins σ H s) (ha : H a = some (SetT X.prog X.w a l)) (hb : l.length + 1 < scanBound) (r : RelV (.str k) v)
    (h : ∀ s', Inv X pins σ (upd H a (SetT X.prog X.w a (addS l k))) s' → Q .none s') : wpAny (model X.prog X.w) X.A (call (.builtin "set.add") [.ref a, v]) Q E s := by
  obtain ⟨u, rfl⟩ := r
  obtain ⟨⟨D, ho, F⟩, _⟩ := I.hok a _ ha
  refine add_txt ho F hb fun h' D' sb ho' F' => h _ ?_
  exact I.write (e := a) (t' := s.toks + 1) (by rw [ha]; trivial) (.inl rfl) (fun b u hb hu => (sb.2 b hb).trans hu) ⟨_, ho'⟩ (SetT_new ho' F')
/-- sorted(a set of fewer than 64 texts) -/
theorem setT_sorted {E : Value → Shared → Prop} {Q : Value → Shared → Prop} (hc : X.calm = true) (I : Inv X pins σ H s) (ha : H a = some (SetT X.prog X.w a l)) (h64 : l.length < 64)
    (h : ∀ (s' : Shared) (p : Addr) (ys : List Str), ys.Perm l → sortedS ys = true → H p = none → Inv X pins σ (upd H p (.lst (ys.map V.str))) s' → Q (.ref p) s') : wpAny (model X.prog X.w) X.A (call (.builtin "sorted") [.ref a]) Q E s := by
  obtain ⟨⟨D, ho, F⟩, _⟩ := I.hok a _ ha
  refine sorted_txt ho F (I.ok.hd hc) h64 fun s' p out c ys k g o hp hg hi hpm hs => ?_
  have hlen : (ys.map V.str).length ≤ sizeLine := by rw [List.length_map, hpm.length_eq, sizeLine_eq]; omega
  have hn : H p = none := I.hok.fresh hp
  have J : Inv X pins σ (upd H p (.lst (ys.map V.str))) { s with heap := s'.heap, gens := s'.gens, drawn := s'.drawn, toks := s'.toks } :=
    I.call (ch := []) (Un.laid k hp hn) (I.hok.laid k hp ⟨hlen, out.toList, c, vals_of_strs hi, hg⟩) (by rw [g]; exact I.bare) (fun _ z => nomatch z)
  have e : s' = { s with heap := s'.heap, gens := s'.gens, drawn := s'.drawn, toks := s'.toks } := by
    cases s'
    cases s
    cases o
    rfl
  rw [e]
  exact h _ p ys hpm hs hn J
end
end Ev
/-! CompN3 -/
namespace Ev
open PySem PySem.Spec PyProof.Rows L2
def wbAdd (prog : Program) (w : World) (A : Around) (elt : Expr) (acc : Value) (env : Env) : WBody := fun Post s =>
  wpAny (model prog w) A (eval elt env) (fun x s4 => wpAny (model prog w) A (call (.builtin "set.add") [acc, x]) (fun _ s5 => Post s5) NoE s4) NoE s
section
variable {prog : Program} {w : World} {A : Around} {s : Shared} {env : Env} {elt : Expr} {gens : List Comprehension} {scope : Scope} {pos : Pos} {k : Nat} {it acc : Value} {t0 i0 t1 i1 : Expr} {ifs0 ifs1 : List Expr}
theorem sc_turn_out (h0 : gens[k]? = some ⟨t0, i0, ifs0, 0⟩) (h1 : gens[k + 1]? = some ⟨t1, i1, ifs1, 0⟩) (hs : ∀ x, foldedSetIterable i1 env x = pure x) : TurnIs prog w A (.SetComp elt gens scope pos) k t0 ifs0 acc env (wbIn prog w A (.SetComp elt gens scope pos) (k + 1) acc i1 env) := by
  intro it s Done Again h
  unfold compTurn
  dsimp only
  rw [h0, h1]
  refine wpAny_bind (wpAny_standAt (wpAny_bind (noF h (fun r s1 h1 => ?_))))
  cases r with
  | none => exact wpAny_pure ⟨rfl, h1⟩
  | some v =>
    refine wpAny_bind (noF h1 fun _ s2 h2 => wpAny_bind (noF h2 fun _ s3 h3 => wpAny_bind (noF h3 fun ok s4 h4 => ?_)))
    cases ok with
    | false => exact wpAny_pure ⟨rfl, h4⟩
    | true =>
      refine wpAny_bind (noF h4 fun x s5 h5 => wpAny_bind (wpAny_standAt (wpAny_bind (wpAny_of_eq (hs x) (wpAny_bind (wpAny_holding (noF h5 fun it1 s6 h6 => wpAny_bind (wpAny_runOwn ?_))))))))
      rw [Around.mark_none]
      refine codeAny_mono h6 fun r s' hr => ?_
      cases r with
      | ok f =>
        first
          | exact wpAny_pure ⟨rfl, hr⟩
          | exact wpAny_bind (wpAny_pure (wpAny_pure ⟨rfl, hr⟩))
      | error e => exact hr.elim
theorem sc_turn_in (h0 : gens[k]? = some ⟨t0, i0, ifs0, 0⟩) (h1 : gens[k + 1]? = none) : TurnIs prog w A (.SetComp elt gens scope pos) k t0 ifs0 acc env (wbAdd prog w A elt acc env) := by
  intro it s Done Again h
  unfold compTurn
  dsimp only
  rw [h0, h1]
  refine wpAny_bind (wpAny_standAt (wpAny_bind (noF h (fun r s1 h1 => ?_))))
  cases r with
  | none => exact wpAny_pure ⟨rfl, h1⟩
  | some v =>
    refine wpAny_bind (noF h1 fun _ s2 h2 => wpAny_bind (noF h2 fun _ s3 h3 => wpAny_bind (noF h3 fun ok s4 h4 => ?_)))
    cases ok with
    | false => exact wpAny_pure ⟨rfl, h4⟩
    | true => exact wpAny_bind (wpAny_bind (noF h4 fun x s5 h5 => wpAny_bind (wpAny_standAt (wpAny_bind (noF h5 fun _ s6 h6 => wpAny_pure (wpAny_pure ⟨rfl, h6⟩))))))
end
def tEmitS (P : Program) (w : World) (te : TE) (D : Addr) : TB := fun σ H Q => te σ H fun y H7 => ∃ k l, y = .str k ∧ H7 D = some (SetT P w D l) ∧ l.length + 1 < scanBound ∧ Q σ (upd H7 D (SetT P w D (addS l k)))
theorem pb_emitS {X : Cx} {elt : Expr} {te : TE} {D : Addr} (hx : X.xe = NoE) (he : PE X elt te) : PB X (wbAdd X.prog X.w X.A elt (.ref D) X.env) (tEmitS X.prog X.w te D) := by
  intro pins s σ H Q Post I h k
  have r := he.run pins s σ H _ I h
  rw [hx] at r
  refine thnF r fun z s1 ⟨yv, H1, I1, r1, x, l, e, hD, hz, nx⟩ => ?_
  subst e
  exact setT_add I1 hD hz r1 fun s2 I2 => k _ _ s2 I2 nx
section
variable {X : Cx}
/-- a comprehension whose new object is accO -/
def tAccN (accO : Addr → HO) (wi : TI) (g : TG) (tt : TT) (T : Addr → TB) (vs : List Nat) : TE := fun σ H Q => wi σ H fun J H1 => ∀ D, H1 D = none → ∃ W : Nat → Nat → Hp → Prop, (∃ m, W 0 m (upd H1 D (accO D))) ∧ ∀ i m H, W i m H →
  (J.stop i H ∧ Q (.ref D) H) ∨ (J.go i H ∧ ∃ Nxt : Hp → Prop, (∀ Hx, Nxt Hx → ∃ mx, mx < m ∧ W (i + 1) mx Hx) ∧ ∀ x Hx, J.yld i H x Hx → g x (wipe σ vs) Hx fun σ2 Ha => wipe σ2 vs = wipe σ vs ∧ tt σ2 Ha fun b Hb =>
    if b = true then T D σ2 Hb (fun σ4 H4 => wipe σ4 vs = wipe σ vs ∧ Nxt H4) else Nxt Hb)
theorem accN_core {pins : List (Addr × Obj)} {s : Shared} {σ : L2.St} {H : Hp} {Q : VK} {e tg iter : Expr} {newA : Sem Value} {obj : Obj} {accO : Addr → HO} {ifs : List Expr} {rest : List Comprehension} {scope : Scope} {own : List (Str × Nat)} {posx : Pos} {wi : TI} {g : TG} {tt : TT} {T : Addr → TB} {WB : Env → Addr → WBody} {use : Option (Value → Sem Unit)} {Qa : Value → Shared → Prop}
    (hpl : Plain X.prog X.w X.A e) (hcl : clausesOf e = ⟨tg, iter, ifs, 0⟩ :: rest) (hnew : ∀ (E : Value → Shared → Prop) (s : Shared) (Q : Value → Shared → Prop), Q (.ref s.heap.objs.size) { s with heap := s.heap.push obj } → wpAny (model X.prog X.w) X.A newA Q E s) (hfr : obj.isFreed = false) (hobj : ∀ (H : Hp) (h : Heap), ObjOk X.prog X.w H (h.push obj) h.objs.size (accO h.objs.size))
    (hc : X.calm = true) (hN : X.N.Nodup) (I : Inv X pins σ H s) (hi : PI X tg iter wi) (ok : BlkOk X.N X.env.scope scope own)
    (hg : ∀ (s : Shared) (H : Hp) (C : Addr) (cl : List (Str × Addr)) (cs : List Addr), PG (X.blk s H scope (compEnvC scope cl C X.env) cs) tg g) (ht : ∀ (s : Shared) (H : Hp) (C : Addr) (cl : List (Str × Addr)) (cs : List Addr), PTs (X.blk s H scope (compEnvC scope cl C X.env) cs) ifs tt)
    (hT : ∀ (env : Env) (D : Addr), TurnIs X.prog X.w X.A e 0 tg ifs (.ref D) env (WB env D))
    (hb : ∀ (D : Addr) (s : Shared) (H : Hp) (C : Addr) (cl : List (Str × Addr)) (cs : List Addr), PB (X.blk s H scope (compEnvC scope cl C X.env) cs) (WB (compEnvC scope cl C X.env) D) (T D)) (hs : ∀ x, foldedSetIterable iter X.env x = pure x)
    (h : tAccN accO wi g tt T (own.map (·.2)) σ H Q)
    (fin0 : ∀ D C sx m Hx, Inv X pins σ Hx sx → Q (.ref D) Hx → sx.heap.Ns C m → FpOk X pins Hx C → compPost (model X.prog X.w) X.A X.xe use Qa (.ref D) C (.ok .next) sx) :
    wpAny (model X.prog X.w) X.A (comprehension e scope X.env posx newA false (eval iter X.env) use) Qa X.xe s := by
  have frees : ∀ y ∈ scope.names, y.2 = .free → ∃ c, X.env.cells.lookup y.1 = some c := fun y hy e => by
    rcases ok.free y hy e with k | k
    · exact I.ok.has _ (.inl k)
    · exact I.ok.has _ (.inr k)
  refine wpAny_comprehension_free (use := use) hcl hs (closure_ok frees) ok.kind (fun y hy e => by rw [ok.uniq y hy, e])
    (thn (hi.run pins s σ H _ I h) fun xa ta hx => thn hx fun xi tb ka => ?_)
  obtain ⟨it, cs, stn, J, Ha, e1, Ja, Tn, ga, la, q⟩ := ka
  subst e1
  refine hnew _ _ _ (newEnv_comp ?_)
  generalize hD : tb.heap.objs.size = D
  have newD : Ha D = none := Ja.hok.fresh (Nat.le_of_eq hD)
  obtain ⟨W, ⟨ma0, wa⟩, each⟩ := q D newD
  generalize e3 : ({ tb with heap := tb.heap.push obj } : Shared) = tc
  have Jb : Inv X pins σ (upd Ha D (accO D)) tc := by
    rw [← e3]
    refine Ja.laid (t' := tb.toks) (fun b o e => Heap.get?_push_of_some _ e) (Nat.le_of_eq hD) ?_
    rw [← hD]
    exact hobj _ _
  have kb : tc.heap = tb.heap.push obj := by rw [← e3]
  have below : ∀ b ∈ cs, b < tb.heap.objs.size := fun b hb => by
    obtain ⟨o, e, _⟩ := Tn.obj _ _ ga b hb
    exact Heap.lt_size e
  have lb : ∀ b ∈ cs, FpOk X pins (upd Ha D (accO D)) b ∧ b < tc.heap.objs.size := fun b hb => by
    have hlt := below b hb
    refine ⟨⟨?_, (la b hb).2⟩, by rw [kb, Heap.size_push]; exact Nat.lt_succ_of_lt hlt⟩
    rw [upd_ne (by rw [← hD]; exact Nat.ne_of_lt hlt)]
    exact (la b hb).1
  have gb : stn 0 tc.heap := Tn.keep _ _ _ ga fun b _ o e => by rw [kb]; exact Heap.get?_push_of_some _ e
  have Jc := block_start Jb ok hN lb
  have pgt := hg tc (upd Ha D (accO D)) tc.heap.objs.size (cellsFrom (tc.heap.objs.size + 1) scope.names (cloFrom X.env.cells scope.names [])) cs
  have pts := ht tc (upd Ha D (accO D)) tc.heap.objs.size (cellsFrom (tc.heap.objs.size + 1) scope.names (cloFrom X.env.cells scope.names [])) cs
  have pbd := hb D tc (upd Ha D (accO D)) tc.heap.objs.size (cellsFrom (tc.heap.objs.size + 1) scope.names (cloFrom X.env.cells scope.names [])) cs
  show codeAny _ _ (.compStart e 0 (.ref it) (.ref D) (compEnvC scope (cellsFrom (tc.heap.objs.size + 1) scope.names (cloFrom X.env.cells scope.names [])) tc.heap.objs.size X.env)) (compPost (model X.prog X.w) X.A X.xe use Qa (.ref D) tc.heap.objs.size) { tc with heap := pushCells (tc.heap.push { cls := .type "dict", data := .dict #[] }) scope.names }
  have noCs : ∀ b ∈ cs, (upd Ha D (accO D)) b = none := fun b hb => (lb b hb).1.1
  generalize eCe : compEnvC scope (cellsFrom (tc.heap.objs.size + 1) scope.names (cloFrom X.env.cells scope.names [])) tc.heap.objs.size X.env = cenv at Jc pgt pts pbd ⊢
  have locs : cenv.locals = tc.heap.objs.size := by subst eCe; rfl
  generalize e5 : upd Ha D (accO D) = Hb at Jb Jc pgt pts pbd wa noCs lb
  generalize e4 : ({ tc with heap := pushCells (tc.heap.push { cls := .type "dict", data := .dict #[] }) scope.names } : Shared) = td at Jc ⊢
  have gc : stn 0 td.heap := Tn.keep _ _ _ gb fun b _ o e => by rw [← e4]; exact pushCells_keeps _ _ _ _ (Heap.get?_push_of_some _ e)
  have stands : ∀ {σx : L2.St} {Hx : Hp} {sx : Shared}, Inv (X.blk tc Hb scope cenv cs) [] σx Hx sx → (∀ b ∈ cs, Hx b = none) → ∀ b ∈ cs, FpOk (X.blk tc Hb scope cenv cs) [] Hx b := fun {σx Hx sx} Jx en b hb =>
    ⟨en b hb, (Jx.ok.exf b hb).1, Jx.ok.exfs b hb, .inl hb, fun x c e => (Jx.ok.exf b hb).2 x c e, fun p hp => absurd (show p ∈ ([] : List (Addr × Obj)) ++ [] from hp) (by simp)⟩
  have lp : codeAny (model X.prog X.w) X.A (.compLoop e 0 (.ref it) (.ref D) cenv) (compPost (model X.prog X.w) X.A X.xe use Qa (.ref D) tc.heap.objs.size) td := by
    refine loop_of hpl (hT cenv D) (fun n sx => ∃ i Hx, Inv (X.blk tc Hb scope cenv cs) [] (wipe σ (own.map (·.2))) Hx sx ∧ stn i sx.heap ∧ (∀ b ∈ cs, Hx b = none) ∧ W i n Hx) (fun sx h => h) (fun n te1 hI => ?_) ma0 ⟨0, Hb, Jc, gc, noCs, wa⟩
    obtain ⟨i, Hd, Jd, gd, ne, we⟩ := hI
    rcases each i n Hd we with ⟨stop, qz⟩ | ⟨go, Nxt, eNx, stp⟩
    · have td := Tn.done (X.blk tc Hb scope cenv cs) rfl rfl rfl hc i [] te1 _ Hd (fun _ _ => False) Jd (stands Jd ne) gd stop
      refine thnF td fun r tf ⟨er, Je⟩ => ?_
      subst er
      have Jf : Inv X pins σ Hd tf := Jb.call' (ch := cs) Je.os Je.base Je.hok Je.bare fun b hb => ⟨(lb b hb).1.2.2.2.1, (lb b hb).1.2.1, (lb b hb).1.2.2.2.2.1, (lb b hb).1.2.2.2.2.2⟩
      have notC : Hd tc.heap.objs.size = none := by
        have z : Hd cenv.locals = none := Je.free
        rw [locs] at z
        exact z
      obtain ⟨m, en, _⟩ := Je.loc
      have en : tf.heap.Ns cenv.locals m := en
      rw [locs] at en
      exact fin0 D tc.heap.objs.size tf m Hd Jf qz en (Jb.fpOk (Nat.le_refl _) notC)
    · have ti := Tn.item (X.blk tc Hb scope cenv cs) rfl rfl rfl hc i [] te1 _ Hd (fun _ _ => False) Jd (stands Jd ne) gd go
      refine thnF ti fun r tf ⟨u, er, kf⟩ => ?_
      subst er
      refine thnF kf fun _ tg1 ⟨x, Hf, Jf, rf, yf, gf, ng⟩ => ?_
      have Jf' := Jf.pinned (stands Jf ng) (Tn.obj _ _ gf)
      refine thnF (pgt.run _ tg1 _ Hf x u _ Jf' rf (stp x Hf yf)) fun _ th ⟨σa, Hg, Jg, ewg, qg⟩ => ?_
      refine thnF (pts.run _ th σa Hg _ Jg qg) fun b ti ⟨Hh, Jh, qh⟩ => ?_
      have fin : ∀ {σb : L2.St} {sx : Shared} {Hx : Hp}, Inv (X.blk tc Hb scope cenv cs) ([] ++ pinsAt cs tg1.heap) σb Hx sx → wipe σb (own.map (·.2)) = wipe σ (own.map (·.2)) → Nxt Hx →
          ∃ m, m < n ∧ ∃ i Hx, Inv (X.blk tc Hb scope cenv cs) [] (wipe σ (own.map (·.2))) Hx sx ∧ stn i sx.heap ∧ (∀ b ∈ cs, Hx b = none) ∧ W i m Hx := fun {σb sx Hx} Jx ew nx => by
        obtain ⟨mx, em, wx⟩ := eNx Hx nx
        have pinx : ∀ b ∈ cs, ∀ o, tg1.heap.get? b = some o → sx.heap.get? b = some o ∧ Hx b = none := fun b hb o e =>
          let z := Jx.pin (b, o) (List.mem_append_right _ (List.mem_append_right _ (mem_pinsAt hb e)))
          ⟨z.1, z.2.1⟩
        refine ⟨mx, em, i + 1, Hx, (Jx.unpinned (pins := [])).weak (by rw [← ew, wipe_length]) (fun j v e => by rw [← ew] at e; exact (wipe_some e).1), Tn.keep _ _ _ gf fun b hb o e => (pinx b hb o e).1, fun b hb => ?_, wx⟩
        obtain ⟨o, e, _⟩ := Tn.obj _ _ gf b hb
        exact (pinx b hb o e).2
      cases b with
      | false =>
        simp only [Bool.false_eq_true, if_false] at qh ⊢
        exact fin Jh ewg qh
      | true =>
        simp only [if_true] at qh ⊢
        exact pbd _ ti σa Hh _ _ Jh qh fun σx Hx sx Jx ⟨ew, nx⟩ => fin Jx ew nx
  exact start_of hpl (by rw [hcl]; rfl) lp (Tn.self X.A 0 _ _ _ gc lp)
theorem newSet_ok {P : Program} {w : World} {A : Around} (E : Value → Shared → Prop) (s : Shared) (Q : Value → Shared → Prop) (h : Q (.ref s.heap.objs.size) { s with heap := s.heap.push { cls := .type "set", dict := none, data := .set #[] 0 (.fresh 0 0 (!w.params.followText "set-order")) } }) :
    wpAny (model P w) A (newSet (.type "set")) Q E s := by
  unfold newSet
  refine wpAny_bind (wpAny_byText ?_)
  exact wpAny_newObj_type h
variable {elt tg iter : Expr} {ifs : List Expr} {rest : List Comprehension} {scope : Scope} {own : List (Str × Nat)} {pos : Pos} {wi : TI} {g : TG} {tt : TT} {T : Addr → TB} {WB : Env → Addr → WBody}
theorem pe_scN (hc : X.calm = true) (hN : X.N.Nodup) (hi : PI X tg iter wi) (ok : BlkOk X.N X.env.scope scope own)
    (hg : ∀ (s : Shared) (H : Hp) (C : Addr) (cl : List (Str × Addr)) (cs : List Addr), PG (X.blk s H scope (compEnvC scope cl C X.env) cs) tg g) (ht : ∀ (s : Shared) (H : Hp) (C : Addr) (cl : List (Str × Addr)) (cs : List Addr), PTs (X.blk s H scope (compEnvC scope cl C X.env) cs) ifs tt)
    (hT : ∀ (env : Env) (D : Addr), TurnIs X.prog X.w X.A (.SetComp elt (⟨tg, iter, ifs, 0⟩ :: rest) scope pos) 0 tg ifs (.ref D) env (WB env D))
    (hb : ∀ (D : Addr) (s : Shared) (H : Hp) (C : Addr) (cl : List (Str × Addr)) (cs : List Addr), PB (X.blk s H scope (compEnvC scope cl C X.env) cs) (WB (compEnvC scope cl C X.env) D) (T D)) (hs : ∀ x, foldedSetIterable iter X.env x = pure x) :
    PE X (.SetComp elt (⟨tg, iter, ifs, 0⟩ :: rest) scope pos) (tAccN (fun D => SetT X.prog X.w D []) wi g tt T (own.map (·.2))) := by
  refine ⟨fun pins s σ H Q I h => ?_⟩
  show wpAny _ _ (comprehension (.SetComp elt (⟨tg, iter, ifs, 0⟩ :: rest) scope pos) scope X.env (firstIterPos (⟨tg, iter, ifs, 0⟩ :: rest) pos) (newSet (.type "set")) false (eval iter X.env) none) _ _ _
  refine accN_core plain_sc rfl newSet_ok rfl (fun H h => SetT_new (Heap.get?_push_size _ rfl) (nil_in X.w)) hc hN I hi ok hg ht hT hb hs h fun D C sx m Hx Jx q en f => ⟨m, en, fun h'' sb => ?_⟩
  obtain ⟨f0, f1, la, lb, f4, f5⟩ := f
  exact ⟨.ref D, Hx, Jx.turned (t' := sx.toks) (fun b o hb e => (sb.2 b hb).trans e) f0 f1 lb f4 f5, rfl, q⟩
/-- sorted(a set of texts) -/
def tSortedT (P : Program) (w : World) (te : TE) : TE := fun σ H Q => te σ H fun x H1 => ∃ a l, x = .ref a ∧ H1 a = some (SetT P w a l) ∧ l.length < 64 ∧ ∀ ys p, ys.Perm l → sortedS ys = true → H1 p = none → Q (.ref p) (upd H1 p (.lst (ys.map V.str)))
theorem pe_sortedT {e : Expr} {te : TE} {p : Pos} (hc : X.calm = true) (hg : Gl X "sorted") (hm : X.mg "sorted" = none) (he : PE X e te) (hs : starEach [e] X.env = (false, eval e X.env) :: starEach [] X.env) : PE X (.Call (.Name "sorted" p) [e] [] pos) (tSortedT X.prog X.w te) := by
  refine ⟨fun pins s σ H Q I h => ?_⟩
  refine wpAny_Call_Name_kw (ld_blt I hg hm boot_sorted ?_)
  refine PyProof.Rows.callWith_builtin1 ?_ hs (by rfl)
  rw [hs]
  refine Calls.spliced_cons (thn (he.run pins s σ H _ I h) fun v s1 ⟨x, H1, I1, r1, a, l, e1, ha, h64, q⟩ => Calls.spliced_nil ?_)
  subst e1
  cases r1
  exact setT_sorted hc I1 ha h64 fun s' p ys hp hs hn J => ⟨.ref p, _, J, rfl, q ys p hp hs hn⟩
end
end Ev
/-! Srt -/
namespace Ev
open PySem PySem.Spec PyProof.Rows
theorem ltc_irr : ∀ a : List Nat, ltCps a a = false
  | [] => rfl
  | x :: r => by
    show (decide (x < x) || (x == x && ltCps r r)) = false
    rw [ltc_irr r]
    simp
theorem ltc_trans : ∀ a b c : List Nat, ltCps a b = true → ltCps b c = true → ltCps a c = true
  | [], [], c, h, _ => by cases h
  | [], _ :: _, [], _, h => by cases h
  | [], _ :: _, _ :: _, _, _ => rfl
  | _ :: _, [], _, h, _ => by cases h
  | _ :: _, _ :: _, [], _, h => by cases h
  | x :: p, y :: q, z :: r, h, k => by
    have h : (decide (x < y) || (x == y && ltCps p q)) = true := h
    have k : (decide (y < z) || (y == z && ltCps q r)) = true := k
    show (decide (x < z) || (x == z && ltCps p r)) = true
    rw [Bool.or_eq_true, Bool.and_eq_true, decide_eq_true_eq, beq_iff_eq] at h k ⊢
    rcases h with h | ⟨h, h2⟩
    · rcases k with k | ⟨k, k2⟩
      · exact .inl (by omega)
      · exact .inl (by omega)
    · rcases k with k | ⟨k, k2⟩
      · exact .inl (by omega)
      · exact .inr ⟨by omega, ltc_trans p q r h2 k2⟩
theorem ltc_tri : ∀ a b : List Nat, ltCps a b = false → ltCps b a = false → a = b
  | [], [], _, _ => rfl
  | [], _ :: _, h, _ => by cases h
  | _ :: _, [], _, h => by cases h
  | x :: p, y :: q, h, k => by
    have h : (decide (x < y) || (x == y && ltCps p q)) = false := h
    have k : (decide (y < x) || (y == x && ltCps q p)) = false := k
    rw [Bool.or_eq_false_iff, decide_eq_false_iff_not] at h k
    have e : x = y := by omega
    subst e
    have h2 := h.2
    have k2 := k.2
    rw [beq_self_eq_true, Bool.true_and] at h2 k2
    rw [ltc_tri p q h2 k2]
def sLt (x y : Str) : Bool := ltCps x.cps.toList y.cps.toList
theorem sLt_irr (x : Str) : sLt x x = false := ltc_irr _
theorem sLt_trans {x y z : Str} (h : sLt x y = true) (k : sLt y z = true) : sLt x z = true := ltc_trans _ _ _ h k
theorem sLt_tri {x y : Str} (h : sLt x y = false) (k : sLt y x = false) : x = y := by
  have e := ltc_tri _ _ h k
  cases x
  cases y
  exact congrArg Str.mk (Array.toList_inj.mp e)
theorem sLt_asy {x y : Str} (h : sLt x y = true) : sLt y x = false := by
  cases q : sLt y x with
  | false => rfl
  | true =>
    have z := sLt_trans h q
    rw [sLt_irr] at z
    cases z
abbrev UpS (l : List Str) : Prop := l.Pairwise fun a b => sLt a b = true
theorem UpS.ext : ∀ {l m : List Str}, UpS l → UpS m → (∀ x, x ∈ l ↔ x ∈ m) → l = m
  | [], [], _, _, _ => rfl
  | [], y :: m, _, _, h => by have := (h y).mpr List.mem_cons_self; cases this
  | x :: l, [], _, _, h => by have := (h x).mp List.mem_cons_self; cases this
  | x :: l, y :: m, hl, hm, h => by
    replace hl := List.pairwise_cons.mp hl
    replace hm := List.pairwise_cons.mp hm
    have e : x = y := by
      rcases List.mem_cons.mp ((h x).mp List.mem_cons_self) with z | z
      · exact z
      · rcases List.mem_cons.mp ((h y).mpr List.mem_cons_self) with z2 | z2
        · exact z2.symm
        · have a := sLt_asy (hm.1 x z)
          rw [hl.1 y z2] at a
          cases a
    subst e
    have hx1 : x ∉ l := fun z => by have := hl.1 x z; rw [sLt_irr] at this; cases this
    have hx2 : x ∉ m := fun z => by have := hm.1 x z; rw [sLt_irr] at this; cases this
    rw [UpS.ext hl.2 hm.2 fun z => ⟨fun hz => ?_, fun hz => ?_⟩]
    · rcases List.mem_cons.mp ((h z).mp (List.mem_cons_of_mem _ hz)) with q | q
      · rw [q] at hz; exact absurd hz hx1
      · exact q
    · rcases List.mem_cons.mp ((h z).mpr (List.mem_cons_of_mem _ hz)) with q | q
      · rw [q] at hz; exact absurd hz hx2
      · exact q
def insU (k : Str) : List Str → List Str
  | [] => [k]
  | x :: r => if sLt k x then k :: x :: r else if sLt x k then x :: insU k r else x :: r
theorem mem_insU {k z : Str} : ∀ {l : List Str}, z ∈ insU k l ↔ z = k ∨ z ∈ l
  | [] => by simp [insU]
  | x :: r => by
    unfold insU
    split
    · simp
    · split
      · rw [List.mem_cons, mem_insU, List.mem_cons]
        constructor
        · rintro (h | h | h)
          · exact .inr (.inl h)
          · exact .inl h
          · exact .inr (.inr h)
        · rintro (h | h | h)
          · exact .inr (.inl h)
          · exact .inl h
          · exact .inr (.inr h)
      · rename_i h1 h2
        have e : k = x := sLt_tri (by simpa using h1) (by simpa using h2)
        subst e
        simp
theorem up_insU {k : Str} : ∀ {l : List Str}, UpS l → UpS (insU k l)
  | [], _ => List.pairwise_singleton _ _
  | x :: r, h => by
    have h0 := h
    rw [UpS, List.pairwise_cons] at h
    unfold insU
    split
    · rename_i hk
      refine List.pairwise_cons.mpr ⟨fun z hz => ?_, h0⟩
      rcases List.mem_cons.mp hz with q | q
      · rw [q]; exact hk
      · exact sLt_trans hk (h.1 z q)
    · split
      · rename_i h2
        refine List.pairwise_cons.mpr ⟨fun z hz => ?_, up_insU h.2⟩
        rcases mem_insU.mp hz with q | q
        · rw [q]; exact h2
        · exact h.1 z q
      · exact h0
def sortU (ks : List Str) : List Str := ks.foldl (fun l k => insU k l) []
theorem fold_mem {z : Str} : ∀ {ks l : List Str}, z ∈ ks.foldl (fun l k => insU k l) l ↔ z ∈ ks ∨ z ∈ l
  | [], l => by simp
  | k :: ks, l => by
    rw [List.foldl_cons, fold_mem, mem_insU, List.mem_cons]
    constructor
    · rintro (h | h | h)
      · exact .inl (.inr h)
      · exact .inl (.inl h)
      · exact .inr h
    · rintro ((h | h) | h)
      · exact .inr (.inl h)
      · exact .inl h
      · exact .inr (.inr h)
theorem fold_up : ∀ {ks l : List Str}, UpS l → UpS (ks.foldl (fun l k => insU k l) l)
  | [], l, h => h
  | k :: ks, l, h => fold_up (ks := ks) (l := insU k l) (up_insU h)
theorem mem_sortU {z : Str} {ks : List Str} : z ∈ sortU ks ↔ z ∈ ks := by
  unfold sortU
  rw [fold_mem]
  simp
theorem up_sortU {ks : List Str} : UpS (sortU ks) := fold_up List.Pairwise.nil
theorem rising_pair : ∀ {p : Str} {l : List Str}, risingS p l = true → (p :: l).Pairwise (fun a b => sLt b a = false)
  | p, [], _ => List.pairwise_singleton _ _
  | p, x :: r, h => by
    have h : (!ltCps x.cps.toList p.cps.toList && risingS x r) = true := h
    rw [Bool.and_eq_true, Bool.not_eq_true'] at h
    have ih := rising_pair h.2
    refine List.pairwise_cons.mpr ⟨fun z hz => ?_, ih⟩
    have hx : sLt x p = false := h.1
    rcases List.mem_cons.mp hz with q | q
    · rw [q]; exact hx
    · have a : sLt z x = false := (List.pairwise_cons.mp ih).1 z q
      cases b : sLt z p with
      | false => rfl
      | true =>
        cases c : sLt p x with
        | true =>
          rw [sLt_trans b c] at a
          cases a
        | false =>
          rw [sLt_tri c hx] at b
          rw [b] at a
          cases a
theorem sorted_pair : ∀ {l : List Str}, sortedS l = true → l.Pairwise (fun a b => sLt b a = false)
  | [], _ => List.Pairwise.nil
  | _ :: _, h => rising_pair h
/-- a text sorted, each once -/
theorem sortU_eq {ks l ys : List Str} (hp : ys.Perm l) (hs : sortedS ys = true) (hn : l.Nodup) (hm : ∀ x, x ∈ l ↔ x ∈ ks) : ys = sortU ks := by
  refine UpS.ext ?_ up_sortU fun x => by rw [mem_sortU, hp.mem_iff, hm]
  refine ((sorted_pair hs).and (hp.nodup_iff.mpr hn)).imp fun {a b} h => ?_
  cases q : sLt a b with
  | true => rfl
  | false => exact absurd (sLt_tri q h.1) h.2
/-- a list sorted -/
def insS (k : Str) : List Str → List Str
  | [] => [k]
  | x :: r => if sLt x k then x :: insS k r else k :: x :: r
def sortS (ks : List Str) : List Str := ks.foldl (fun l k => insS k l) []
abbrev LeS (l : List Str) : Prop := l.Pairwise fun a b => sLt b a = false
theorem LeS.ext : ∀ {l m : List Str}, LeS l → LeS m → l.Perm m → l = m
  | [], m, _, _, h => (List.nil_perm.mp h).symm
  | x :: l, [], _, _, h => by have := h.length_eq; cases this
  | x :: l, y :: m, hl, hm, h => by
    have hl' := List.pairwise_cons.mp hl
    have hm' := List.pairwise_cons.mp hm
    have e : x = y := by
      rcases List.mem_cons.mp (h.mem_iff.mp List.mem_cons_self) with z | z
      · exact z
      · rcases List.mem_cons.mp (h.mem_iff.mpr List.mem_cons_self) with z2 | z2
        · exact z2.symm
        · exact sLt_tri (hm'.1 x z) (hl'.1 y z2)
    subst e
    rw [LeS.ext hl'.2 hm'.2 h.cons_inv]
theorem insS_perm {k : Str} : ∀ {l : List Str}, (insS k l).Perm (k :: l)
  | [] => .refl _
  | x :: r => by
    unfold insS
    split
    · exact (List.Perm.cons x insS_perm).trans (List.Perm.swap k x r)
    · exact .refl _
theorem le_insS {k : Str} : ∀ {l : List Str}, LeS l → LeS (insS k l)
  | [], _ => List.pairwise_singleton _ _
  | x :: r, h => by
    have h' := List.pairwise_cons.mp h
    unfold insS
    split
    · rename_i hk
      refine List.pairwise_cons.mpr ⟨fun z hz => ?_, le_insS h'.2⟩
      rcases List.mem_cons.mp (insS_perm.mem_iff.mp hz) with q | q
      · rw [q]; exact sLt_asy hk
      · exact h'.1 z q
    · rename_i hk
      have hk : sLt x k = false := by simpa using hk
      refine List.pairwise_cons.mpr ⟨fun z hz => ?_, h⟩
      rcases List.mem_cons.mp hz with q | q
      · rw [q]; exact hk
      · cases b : sLt z k with
        | false => rfl
        | true =>
          have a := h'.1 z q
          cases c : sLt k x with
          | true =>
            rw [sLt_trans b c] at a
            cases a
          | false =>
            rw [sLt_tri c hk] at b
            rw [b] at a
            cases a
theorem fold_perm : ∀ {ks l : List Str}, (ks.foldl (fun l k => insS k l) l).Perm (ks ++ l)
  | [], l => .refl _
  | k :: ks, l => (fold_perm (ks := ks) (l := insS k l)).trans ((insS_perm.append_left ks).trans List.perm_middle)
theorem fold_le : ∀ {ks l : List Str}, LeS l → LeS (ks.foldl (fun l k => insS k l) l)
  | [], l, h => h
  | k :: ks, l, h => fold_le (ks := ks) (l := insS k l) (le_insS h)
theorem sortS_eq {ks ys : List Str} (hp : ys.Perm ks) (hs : sortedS ys = true) : ys = sortS ks := by
  refine LeS.ext (sorted_pair hs) (fold_le List.Pairwise.nil) (hp.trans ?_)
  have q := fold_perm (ks := ks) (l := [])
  rw [List.append_nil] at q
  exact q.symm
end Ev
namespace Ev
open PySem PySem.Spec PyProof.Rows
theorem sortS_sorted (l : List Str) : sortedS (sortS l) = true := sortedS_of_pairwise _ ((fold_le (ks := l) (l := []) List.Pairwise.nil).imp fun h => h)
end Ev
/-! Ev16 -/
namespace Ev
open PySem PySem.Spec PyProof.Rows L2
variable [Tabs]
/-- the set holds the texts told so far -/
def SAs (l : List Str) (as : List D) : Prop := ∃ ks : List Str, as = ks.map D.str ∧ l = ks.foldl addS []
theorem SAs.nil : SAs [] [] := ⟨[], rfl, rfl⟩
theorem SAs.add {l : List Str} {as : List D} {x : Str} (h : SAs l as) : SAs (addS l x) (as ++ [.str x]) := by
  obtain ⟨ks, rfl, rfl⟩ := h
  exact ⟨ks ++ [x], by rw [List.map_append]; rfl, by rw [List.foldl_append]; rfl⟩
theorem addS_mem {l : List Str} {k z : Str} : z ∈ addS l k ↔ z = k ∨ z ∈ l := by
  unfold addS
  split
  · rename_i h
    exact ⟨.inr, fun q => q.elim (fun e => e ▸ h) id⟩
  · exact List.mem_cons
theorem addS_nodup {l : List Str} {k : Str} (h : l.Nodup) : (addS l k).Nodup := by
  unfold addS
  split
  · exact h
  · rename_i q
    exact List.nodup_cons.mpr ⟨q, h⟩
theorem addS_len {l : List Str} {k : Str} : (addS l k).length ≤ l.length + 1 := by
  unfold addS
  split
  · omega
  · exact Nat.le_refl _
theorem adds_all : ∀ {ks l : List Str}, l.Nodup → (ks.foldl addS l).Nodup ∧ (∀ z, z ∈ ks.foldl addS l ↔ z ∈ ks ∨ z ∈ l) ∧ (ks.foldl addS l).length ≤ l.length + ks.length
  | [], l, h => ⟨h, fun z => by simp, Nat.le_refl _⟩
  | k :: ks, l, h => by
    obtain ⟨a, b, c⟩ := adds_all (ks := ks) (addS_nodup (k := k) h)
    refine ⟨a, fun z => ?_, ?_⟩
    · rw [List.foldl_cons, b z, addS_mem, List.mem_cons]
      constructor
      · rintro (q | q | q)
        · exact .inl (.inr q)
        · exact .inl (.inl q)
        · exact .inr q
      · rintro ((q | q) | q)
        · exact .inr (.inl q)
        · exact .inl q
        · exact .inr (.inr q)
    · have := addS_len (l := l) (k := k)
      rw [List.foldl_cons, List.length_cons]
      omega
theorem SAs.len {l : List Str} {as : List D} (h : SAs l as) : l.length ≤ as.length := by
  obtain ⟨ks, rfl, rfl⟩ := h
  have := (adds_all (ks := ks) (l := []) List.nodup_nil).2.2
  rw [List.length_map]
  simpa using this
def emitSF (e : Fv) : Fk := fun ρ acc => match e ρ with
  | some (.str x, ρ1) => if Nat.ble (acc.length + 1) 4000 then some (acc ++ [.str x], ρ1) else none
  | _ => none
/-- sorted({ .. }) -/
def scNE (cl : DC) (k : Fk) : Fe := fun ρ => match cl.it ρ with
  | some (d, ρ1) => (match itemsOf d with
    | some ds => if noCell ρ1 cl.vs then (match lcForN cl.vs cl.t cl.c k ds [] (clr ρ1 cl.vs) with
      | some (acc, ρ2) => (match strsOf acc with
        | some ks => if Nat.ble (sortU ks).length 63 then some (.new (.lst ((sortU ks).map D.str)), back ρ1 (clr ρ2 cl.vs) cl.vs) else none
        | none => none)
      | none => none) else none
    | none => none)
  | none => none
/-- the reading of a body: the set so far stands at D0 -/
def tBDS (P : Program) (w : World) (K : Frag) (D0 : Addr) (k : Fk) (vs : List Nat) : TB := fun σ H Q => ∃ G B F ρ acc as o ρ', G D0 = none ∧ Rep K (upd G D0 (SetT P w D0 acc)) B F H ρ σ ∧ SAs acc as ∧ k ρ as = some (o, ρ') ∧
  ∀ σ' F' H' acc', Ex F F' → Rep K (upd G D0 (SetT P w D0 acc')) B F' H' ρ' σ' → SAs acc' o → Same vs σ σ' → Q σ' H'
theorem wk_emitS {P : Program} {w : World} {K : Frag} {D0 : Addr} {e : Fv} {vs : List Nat} (σ : L2.St) (H : Hp) (Q : L2.St → Hp → Prop) (h : tBDS P w K D0 (emitSF e) vs σ H Q) : tEmitS P w (tV K e) D0 σ H Q := by
  obtain ⟨G, B, F, ρ, acc, as, o, ρ', hG, rp, ra, ek, z⟩ := h
  unfold emitSF at ek
  split at ek
  · rename_i x ρ1 q
    split at ek
    · rename_i hl
      cases ek
      refine ⟨_, B, F, ρ, .str x, _, rp, q, fun v F1 H1 e1 rp1 r1 => ?_⟩
      cases r1
      have l1 := ra.len
      have l2 := Nat.le_of_ble_eq_true hl
      refine ⟨x, acc, rfl, rp1.exG D0 _ upd_same, Nat.lt_of_le_of_lt (Nat.le_trans (Nat.succ_le_succ l1) l2) (by decide), ?_⟩
      exact z σ F1 _ (addS acc x) e1 (rp1.chG (o' := SetT P w D0 (addS acc x))) ra.add same_refl
    · cases ek
  · cases ek
def NTurnS (P : Program) (w : World) (K : Frag) (G : Hp) (B : List (Nat × Addr)) (F : Hp) (vs : List Nat) (t : Tg) (c : Fb) (k : Fk) (ds : List D) (D0 : Addr) (σ : L2.St) (o : List D × EnvD) (i : Nat) (H : Hp) : Prop :=
  ∃ F1 ρ1 acc as, Ex F F1 ∧ Rep K (upd G D0 (SetT P w D0 acc)) B F1 H (clr ρ1 vs) (wipe σ vs) ∧ SAs acc as ∧ lcForN vs t c k (ds.drop i) as (clr ρ1 vs) = some o
section
variable {P : Program} {w : World} {K : Frag} {G : Hp} {B : List (Nat × Addr)} {F F' H H' : Hp} {ρ ρ' ρ0 : EnvD} {σ σ' : L2.St} {vs vs' : List Nat} {t : Tg} {c : Fb} {k : Fk} {ds : List D} {D0 : Addr} {o : List D × EnvD} {xs : List V}
theorem nturnS_ok {i : Nat} {x : V} (hG : G D0 = none) (rs : Rs K F xs ds) (ht : ∀ j, j ∈ t.ix → j ∈ vs) (hv : ∀ j, j ∈ vs' → j ∈ vs) (hx : xs[i]? = some x) (q : NTurnS P w K G B F vs t c k ds D0 σ o i H) :
    gT K t x (wipe σ vs) H fun σ2 H2 => wipe σ2 vs = wipe σ vs ∧ tT K c σ2 H2 fun b H3 =>
      if b = true then tBDS P w K D0 k vs' σ2 H3 (fun σ4 H4 => wipe σ4 vs = wipe σ vs ∧ NTurnS P w K G B F vs t c k ds D0 σ o (i + 1) H4)
      else NTurnS P w K G B F vs t c k ds D0 σ o (i + 1) H3 := by
  obtain ⟨F1, ρ1, acc, as, e1, rp1, ra, q1⟩ := q
  obtain ⟨d, hd, hr⟩ := rs.getV hx
  obtain ⟨hl, hde⟩ := List.getElem?_eq_some_iff.mp hd
  rw [List.drop_eq_getElem_cons hl, hde] at q1
  unfold lcForN at q1
  cases q2 : putT t d (clr ρ1 vs) with
  | none => rw [q2] at q1; cases q1
  | some ρ2 =>
    simp only [q2] at q1
    refine ⟨_, B, F1, clr ρ1 vs, d, ρ2, rp1, hr.mono e1, q2, fun σ2 s2 rp2 => ?_⟩
    have w2 : wipe σ2 vs = wipe σ vs := by rw [wipe_same s2 ht, wipe_wipe]
    refine ⟨w2, ?_⟩
    cases q3 : c ρ2 with
    | none => simp only [q3] at q1; cases q1
    | some y =>
      obtain ⟨b, ρ3⟩ := y
      simp only [q3] at q1
      refine ⟨_, B, F1, ρ2, b, ρ3, rp2, q3, fun F3 H3 e3 rp3 => ?_⟩
      cases b with
      | false =>
        refine iteF ?_
        have q1 : (if noCell ρ3 vs = true then lcForN vs t c k (ds.drop (i + 1)) as (clr ρ3 vs) else none) = some o := q1
        split at q1
        · rename_i hn
          have rp4 := rp3.wipe hn
          rw [w2] at rp4
          exact ⟨F3, ρ3, acc, as, e1.trans e3, rp4, ra, q1⟩
        · cases q1
      | true =>
        refine iteT ?_
        have q1 : (match k ρ3 as with
          | none => none
          | some (acc2, ρ3) => if noCell ρ3 vs = true then lcForN vs t c k (ds.drop (i + 1)) acc2 (clr ρ3 vs) else none) = some o := q1
        cases q4 : k ρ3 as with
        | none => rw [q4] at q1; cases q1
        | some y =>
          obtain ⟨as2, ρ4⟩ := y
          rw [q4] at q1
          have q1 : (if noCell ρ4 vs = true then lcForN vs t c k (ds.drop (i + 1)) as2 (clr ρ4 vs) else none) = some o := q1
          split at q1
          · rename_i hn
            refine ⟨G, B, F3, ρ3, acc, as, as2, ρ4, hG, rp3, ra, q4, fun σ4 F4 H4 acc4 e4 rp4 ra4 s4 => ?_⟩
            have w4 : wipe σ4 vs = wipe σ vs := by rw [wipe_same s4 hv, w2]
            refine ⟨w4, ?_⟩
            have rp5 := rp4.wipe hn
            rw [w4] at rp5
            exact ⟨F4, ρ4, acc4, as2, (e1.trans e3).trans e4, rp5, ra4, q1⟩
          · cases q1
theorem nturnS_start {ρ1 : EnvD} {D0 : Addr} (rp : Rep K G B F H ρ1 σ) (hn : noCell ρ1 vs = true) (hD : H D0 = none) (q : lcForN vs t c k ds [] (clr ρ1 vs) = some o) : G D0 = none ∧ NTurnS P w K G B F vs t c k ds D0 σ o 0 (upd H D0 (SetT P w D0 [])) := by
  obtain ⟨a, b, g, d⟩ := rp.new (o := SetT P w D0 []) hD
  refine ⟨g, F, ρ1, [], [], Ex.refl F, ?_, SAs.nil, q⟩
  have r2 := a.wipe hn
  refine r2.inG upd_same b g fun i e' h z => ?_
  have hi : i ∉ vs := fun hi => by
    have z2 := wipe_in hi z
    cases z2
  rw [wipe_out hi] at z
  refine d i e' ?_ z
  unfold cellOf at h ⊢
  rw [clr_out hi] at h
  exact h
theorem nturnS_end {acc : List D} {ρ1 ρ2 : EnvD} (rs : Rs K F xs ds) (rp : Rep K G B F H ρ1 σ) (hn : noCell ρ1 vs = true) (hG : G D0 = none) (q : NTurnS P w K G B F vs t c k ds D0 σ (acc, ρ2) xs.length H') : ∃ F' l, Ex F F' ∧ Rep K G B F' H' (back ρ1 (clr ρ2 vs) vs) σ ∧ H' D0 = some (SetT P w D0 l) ∧ SAs l acc := by
  obtain ⟨F1, ρ3, as, bs, e1, rp1, ra, q1⟩ := q
  rw [rs.len, List.drop_length] at q1
  cases q1
  rw [clr_clr]
  obtain ⟨r1, r2, r3, r4⟩ := rp1.outG hG
  exact ⟨F1, as, e1, Rep.unwipe rp hn e1 r1, r3, ra⟩
theorem wk_loopS {cl : DC} {vs0 : List Nat} (ht : ∀ j, j ∈ cl.t.ix → j ∈ cl.vs) (hv : ∀ j, j ∈ vs' → j ∈ cl.vs) (hv0 : ∀ j, j ∈ cl.vs → j ∈ vs0) (σ : L2.St) (H : Hp) (Q : L2.St → Hp → Prop) (h : tBDS P w K D0 (loopF2 cl k) vs0 σ H Q) :
    tLoopN (iLT K cl.it) (gT K cl.t) (tT K cl.c) (tBDS P w K D0 k vs') cl.vs σ H Q := by
  obtain ⟨G, B, F, ρ, acc, as, o, ρ', hG, rp, ra, ek, z⟩ := h
  unfold loopF2 at ek
  cases q1 : cl.it ρ with
  | none => rw [q1] at ek; cases ek
  | some y =>
    obtain ⟨d, ρ1⟩ := y
    rw [q1] at ek
    simp only at ek
    cases q2 : itemsOf d with
    | none => rw [q2] at ek; cases ek
    | some ds =>
      rw [q2] at ek
      simp only at ek
      split at ek
      · rename_i hn
        refine wk_source rp q1 q2 fun a xs F1 H1 e1 rp1 rs => ?_
        have st : NTurnS P w K G B F1 cl.vs cl.t cl.c k ds D0 σ (o, ρ') 0 H1 := ⟨F1, ρ1, acc, as, Ex.refl F1, rp1.wipe hn, ra, ek⟩
        have fin : ∀ H', NTurnS P w K G B F1 cl.vs cl.t cl.c k ds D0 σ (o, ρ') xs.length H' → Q (wipe σ cl.vs) H' := fun H' q => by
          obtain ⟨F2, ρ2, acc2, as2, e2, rp2, ra2, q3⟩ := q
          rw [rs.len, List.drop_length] at q3
          cases q3
          exact z _ F2 H' acc2 (e1.trans e2) rp2 ra2 ⟨wipe_length _ _, fun j hj => wipe_out fun h => hj (hv0 j h)⟩
        refine ⟨fun sq => walk_list (xs := xs) (Body := fun x H' Nx => gT K cl.t x (wipe σ cl.vs) H' fun σ3 H5 => wipe σ3 cl.vs = wipe σ cl.vs ∧ tT K cl.c σ3 H5 fun b H6 => if b = true then tBDS P w K D0 k vs' σ3 H6 (fun σ4 H7 => wipe σ4 cl.vs = wipe σ cl.vs ∧ Nx H7) else Nx H6) (NTurnS P w K G B F1 cl.vs cl.t cl.c k ds D0 σ (o, ρ')) st (fun i H _ q => ?_) (fun i x H hx q => nturnS_ok hG rs ht hv hx q) fin, fun sq => walk_tup (xs := xs) (Body := fun x H' Nx => gT K cl.t x (wipe σ cl.vs) H' fun σ3 H5 => wipe σ3 cl.vs = wipe σ cl.vs ∧ tT K cl.c σ3 H5 fun b H6 => if b = true then tBDS P w K D0 k vs' σ3 H6 (fun σ4 H7 => wipe σ4 cl.vs = wipe σ cl.vs ∧ Nx H7) else Nx H6) (NTurnS P w K G B F1 cl.vs cl.t cl.c k ds D0 σ (o, ρ')) st (fun i H _ q => ?_) (fun i x H hx q => nturnS_ok hG rs ht hv hx q) fin⟩
        · obtain ⟨F2, ρ2, _, _, e2, rp2, _, _⟩ := q
          exact rp2.exF.seqL (e2.seqL sq)
        · obtain ⟨F2, ρ2, _, _, e2, rp2, _, _⟩ := q
          exact rp2.exF.seqT (e2.seqT sq)
      · cases ek
theorem sas_sorted {l ys ks : List Str} {acc : List D} (h : SAs l acc) (hk : strsOf acc = some ks) (hp : ys.Perm l) (hs : sortedS ys = true) : ys = sortU ks := by
  obtain ⟨ks', rfl, rfl⟩ := h
  have e : ks' = ks := by
    have z := strsOf_ok hk
    have inj : ∀ {a b : List Str}, a.map D.str = b.map D.str → a = b := fun {a} => by
      induction a with
      | nil => intro b h; cases b with
        | nil => rfl
        | cons _ _ => cases h
      | cons x r ih => intro b h; cases b with
        | nil => cases h
        | cons y t =>
          injection h with h1 h2
          injection h1 with h1
          rw [h1, ih h2]
    exact inj z
  subst e
  obtain ⟨a, b, _⟩ := adds_all (ks := ks') (l := []) List.nodup_nil
  exact sortU_eq hp hs a fun x => by rw [b x]; simp
theorem sas_len {l ks : List Str} {acc : List D} (h : SAs l acc) (hk : strsOf acc = some ks) (hl : (sortU ks).length < 64) : l.length < 64 := by
  have hn := (by obtain ⟨ks', rfl, rfl⟩ := h; exact (adds_all (ks := ks') (l := []) List.nodup_nil).1 : l.Nodup)
  -- a sorted copy of l is sortU ks
  have key : ∀ ys : List Str, ys.Perm l → sortedS ys = true → l.length < 64 := fun ys hp hs => by
    have e := sas_sorted h hk hp hs
    rw [← hp.length_eq, e]
    exact hl
  refine key (sortS l) ?_ (sortS_sorted l)
  have q := fold_perm (ks := l) (l := [])
  rw [List.append_nil] at q
  exact q
theorem wk_scN {cl : DC} (ht : ∀ j, j ∈ cl.t.ix → j ∈ cl.vs) (hv : ∀ j, j ∈ vs' → j ∈ cl.vs) (σ : L2.St) (H : Hp) (Q : VK) (h : tE K (scNE cl k) σ H Q) :
    tSortedT P w (tAccN (fun D => SetT P w D []) (iLT K cl.it) (gT K cl.t) (tT K cl.c) (fun D0 => tBDS P w K D0 k vs') cl.vs) σ H Q := by
  obtain ⟨G, B, F, ρ, r, ρ', rp, ef, z⟩ := h
  unfold scNE at ef
  cases q1 : cl.it ρ with
  | none => rw [q1] at ef; cases ef
  | some y =>
    obtain ⟨d, ρ1⟩ := y
    rw [q1] at ef
    simp only at ef
    cases q2 : itemsOf d with
    | none => rw [q2] at ef; cases ef
    | some ds =>
      rw [q2] at ef
      simp only at ef
      split at ef
      · rename_i hn
        split at ef
        · rename_i acc ρ2 q3
          split at ef
          · rename_i ks q4
            split at ef
            · rename_i h64
              cases ef
              have h64 := Nat.lt_succ_of_le (Nat.le_of_ble_eq_true h64)
              refine wk_source rp q1 q2 fun a xs F1 H1 e1 rp1 rs => ?_
              have go : ∀ D0, H1 D0 = none → G D0 = none ∧ NTurnS P w K G B F1 cl.vs cl.t cl.c k ds D0 σ (acc, ρ2) 0 (upd H1 D0 (SetT P w D0 [])) := fun D0 hD => nturnS_start rp1 hn hD q3
              have fin : ∀ D0, G D0 = none → ∀ H', NTurnS P w K G B F1 cl.vs cl.t cl.c k ds D0 σ (acc, ρ2) xs.length H' → ∃ a l, V.ref D0 = .ref a ∧ H' a = some (SetT P w a l) ∧ l.length < 64 ∧ ∀ ys p, ys.Perm l → sortedS ys = true → H' p = none → Q (.ref p) (upd H' p (.lst (ys.map V.str))) := fun D0 hG H' q => by
                obtain ⟨F2, l, e2, rp2, hD, sa⟩ := nturnS_end rs rp1 hn hG q
                refine ⟨D0, l, rfl, hD, sas_len sa q4 h64, fun ys p hp hs hpn => ?_⟩
                rw [sas_sorted sa q4 hp hs]
                obtain ⟨b1, b2, b3, b4⟩ := rp2.new (o := .lst ((sortU ks).map V.str)) hpn
                exact z _ F2 _ (e1.trans e2) b1 ⟨p, rfl, b2, b3, ⟨_, upd_same, Rs.strs⟩, b4⟩
              refine ⟨fun sq D0 hD => ?_, fun sq D0 hD => ?_⟩
              · obtain ⟨hG, st⟩ := go D0 hD
                refine walk_list (xs := xs) (Body := fun x H' Nx => gT K cl.t x (wipe σ cl.vs) H' fun σ3 H5 => wipe σ3 cl.vs = wipe σ cl.vs ∧ tT K cl.c σ3 H5 fun b H6 => if b = true then tBDS P w K D0 k vs' σ3 H6 (fun σ4 H7 => wipe σ4 cl.vs = wipe σ cl.vs ∧ Nx H7) else Nx H6) (NTurnS P w K G B F1 cl.vs cl.t cl.c k ds D0 σ (acc, ρ2)) st (fun i H _ q => ?_) (fun i x H hx q => nturnS_ok hG rs ht hv hx q) (fin D0 hG)
                obtain ⟨F2, ρ2, _, _, e2, rp2, _, _⟩ := q
                exact rp2.exF.seqL (e2.seqL sq)
              · obtain ⟨hG, st⟩ := go D0 hD
                refine walk_tup (xs := xs) (Body := fun x H' Nx => gT K cl.t x (wipe σ cl.vs) H' fun σ3 H5 => wipe σ3 cl.vs = wipe σ cl.vs ∧ tT K cl.c σ3 H5 fun b H6 => if b = true then tBDS P w K D0 k vs' σ3 H6 (fun σ4 H7 => wipe σ4 cl.vs = wipe σ cl.vs ∧ Nx H7) else Nx H6) (NTurnS P w K G B F1 cl.vs cl.t cl.c k ds D0 σ (acc, ρ2)) st (fun i H _ q => ?_) (fun i x H hx q => nturnS_ok hG rs ht hv hx q) (fin D0 hG)
                obtain ⟨F2, ρ2, _, _, e2, rp2, _, _⟩ := q
                exact rp2.exF.seqT (e2.seqT sq)
            · cases ef
          · cases ef
        · cases ef
      · cases ef
end
section
variable {X : Cx}
def BodyS (X : Cx) (scope : Scope) (WB : Env → Addr → WBody) (k : Fk) (vs : List Nat) : Prop := ∀ (D : Addr) (s : Shared) (H : Hp) (C : Addr) (cl : List (Str × Addr)) (fp : List Addr), PB (X.blk s H scope (compEnvC scope cl C X.env) fp) (WB (compEnvC scope cl C X.env) D) (tBDS X.prog X.w X.K D k vs)
theorem eb_emitS {scope : Scope} {elt : Expr} {fe : Fv} {vs : List Nat} (he : ∀ (s : Shared) (H : Hp) (C : Addr) (cl : List (Str × Addr)) (fp : List Addr), PE (X.blk s H scope (compEnvC scope cl C X.env) fp) elt (tV X.K fe)) :
    BodyS X scope (fun env D => wbAdd X.prog X.w X.A elt (.ref D) env) (emitSF fe) vs := fun D s H C cl fp => PB.weak (pb_emitS (X := X.blk s H scope (compEnvC scope cl C X.env) fp) rfl (he s H C cl fp)) fun σ H Q => wk_emitS σ H Q
theorem eb_loopS {scope : Scope} {e tg iter : Expr} {ifs : List Expr} {k : Nat} {c : DC} {kk : Fk} {WB : Env → Addr → WBody} {vs vs0 : List Nat} (hc : X.calm = true) (hp : ∀ A, Plain X.prog X.w A e) (hT : ∀ (env : Env) (D : Addr), TurnIs X.prog X.w X.A e k tg ifs (.ref D) env (WB env D)) (hcl : (clausesOf e)[k]? = some ⟨tg, iter, ifs, 0⟩)
    (hi : ∀ (s : Shared) (H : Hp) (C : Addr) (cl : List (Str × Addr)) (fp : List Addr), PE (X.blk s H scope (compEnvC scope cl C X.env) fp) iter (tV X.K c.it))
    (hg : ∀ (s : Shared) (H : Hp) (C : Addr) (cl : List (Str × Addr)) (fp : List Addr), PG (X.blk s H scope (compEnvC scope cl C X.env) fp) tg (gT X.K c.t))
    (hf : ∀ (s : Shared) (H : Hp) (C : Addr) (cl : List (Str × Addr)) (fp : List Addr), PTs (X.blk s H scope (compEnvC scope cl C X.env) fp) ifs (tT X.K c.c))
    (hb : BodyS X scope WB kk vs) (ht : ∀ j, j ∈ c.t.ix → j ∈ c.vs) (hv : ∀ j, j ∈ vs → j ∈ c.vs) (hv0 : ∀ j, j ∈ c.vs → j ∈ vs0) :
    BodyS X scope (fun env D => wbIn X.prog X.w X.A e k (.ref D) iter env) (loopF2 c kk) vs0 := fun D s H C cl fp =>
  PB.weak (pb_loop (X := X.blk s H scope (compEnvC scope cl C X.env) fp) (vs := c.vs) rfl hc (hp _) (hT _ D) hcl (PI.or (pi_list (hi s H C cl fp)) (pi_tup (hi s H C cl fp))) (hg s H C cl fp) (hf s H C cl fp) (hb D s H C cl fp)) fun σ H Q h => wk_loopS ht hv hv0 σ H Q h
theorem ev_sortedSc {elt tg iter : Expr} {ifs : List Expr} {rest : List Comprehension} {scope : Scope} {own : List (Str × Nat)} {pos cpos p : Pos} {c : DC} {kk : Fk} {WB : Env → Addr → WBody} {vs : List Nat} (hc : X.calm = true) (hN : X.N.Nodup) (hgl : Gl X "sorted") (hm : X.mg "sorted" = none) (hi : PE X iter (tV X.K c.it)) (ok : BlkOk X.N X.env.scope scope own)
    (hg : ∀ (s : Shared) (H : Hp) (C : Addr) (cl : List (Str × Addr)) (fp : List Addr), PG (X.blk s H scope (compEnvC scope cl C X.env) fp) tg (gT X.K c.t))
    (hf : ∀ (s : Shared) (H : Hp) (C : Addr) (cl : List (Str × Addr)) (fp : List Addr), PTs (X.blk s H scope (compEnvC scope cl C X.env) fp) ifs (tT X.K c.c))
    (hT : ∀ (env : Env) (D : Addr), TurnIs X.prog X.w X.A (.SetComp elt (⟨tg, iter, ifs, 0⟩ :: rest) scope pos) 0 tg ifs (.ref D) env (WB env D))
    (hb : BodyS X scope WB kk vs) (hs : ∀ x : Value, foldedSetIterable iter X.env x = pure x) (ht : ∀ j, j ∈ c.t.ix → j ∈ c.vs) (hv : ∀ j, j ∈ vs → j ∈ c.vs) (hvs : (own.map fun x => x.snd) = c.vs)
    (hst : starEach [.SetComp elt (⟨tg, iter, ifs, 0⟩ :: rest) scope pos] X.env = (false, eval (.SetComp elt (⟨tg, iter, ifs, 0⟩ :: rest) scope pos) X.env) :: starEach [] X.env) :
    PE X (.Call (.Name "sorted" p) [.SetComp elt (⟨tg, iter, ifs, 0⟩ :: rest) scope pos] [] cpos) (tE X.K (scNE c kk)) := by
  have q := pe_scN (T := fun D => tBDS X.prog X.w X.K D kk vs) (rest := rest) (elt := elt) (pos := pos) hc hN (PI.or (pi_list hi) (pi_tup hi)) ok hg hf hT hb hs
  rw [hvs] at q
  exact PE.weak (pe_sortedT hc hgl hm q hst) fun σ H Q h => wk_scN ht hv σ H Q h
end
end Ev
/-! Ev17 -/
namespace Ev
open PySem PySem.Spec PyProof.Rows L2
variable [Tabs]
def evalP : Option Fv → EnvD → Option (Option Int × EnvD)
  | none, ρ => some (none, ρ)
  | some f, ρ => match f ρ with
    | some (.int i, ρ1) => some (some i, ρ1)
    | _ => none
def partT (K : Frag) : Option Fv → TO
  | none => tNoPart
  | some f => tPart (tV K f)
def cutA {α : Type} (xs : List α) (lo hi : Option Int) : List α := (xs.drop (HT.sIx xs.length 0 lo)).take (HT.sIx xs.length xs.length hi - HT.sIx xs.length 0 lo)
def slE (fo : Fo) (lo hi : Option Fv) : Fe := fun ρ => match fo ρ with
  | some (a, ρ1) => (match evalP lo ρ1 with
    | some (l, ρ2) => (match evalP hi ρ2 with
      | some (h, ρ3) => (match lookA ρ3 a with
        | some d => (lstOf d).map fun xs => (.new (.lst (cutA xs l h)), ρ3)
        | none => none)
      | none => none)
    | none => none)
  | none => none
theorem slE_inv {fo : Fo} {lo hi : Option Fv} {ρ ρ' : EnvD} {r : Re} (h : slE fo lo hi ρ = some (r, ρ')) : ∃ a ρ1 l ρ2 u d xs, fo ρ = some (a, ρ1) ∧ evalP lo ρ1 = some (l, ρ2) ∧ evalP hi ρ2 = some (u, ρ') ∧ lookA ρ' a = some d ∧ lstOf d = some xs ∧ r = .new (.lst (cutA xs l u)) := by
  unfold slE at h
  split at h
  · rename_i a ρ1 q1
    split at h
    · rename_i l ρ2 q2
      split at h
      · rename_i u ρ3 q3
        split at h
        · rename_i d q4
          obtain ⟨xs, e1, e2⟩ := Option.map_eq_some_iff.mp h
          cases e2
          exact ⟨a, ρ1, l, ρ2, u, d, xs, q1, q2, q3, q4, e1, rfl⟩
        · cases h
      · cases h
    · cases h
  · cases h
theorem partT_ok {K : Frag} {p : Option Fv} {G : Hp} {B : List (Nat × Addr)} {F H : Hp} {ρ ρ' : EnvD} {σ : L2.St} {o : Option Int} {Q : Option Int → Hp → Prop} (rp : Rep K G B F H ρ σ) (e : evalP p ρ = some (o, ρ'))
    (z : ∀ F' H', Ex F F' → Rep K G B F' H' ρ' σ → Q o H') : partT K p σ H Q := by
  cases p with
  | none =>
    cases e
    exact z F H (Ex.refl F) rp
  | some f =>
    have e : (match f ρ with
      | some (.int i, ρ1) => some (some i, ρ1)
      | _ => none) = some (o, ρ') := e
    split at e
    · rename_i i ρ1 q
      cases e
      refine ⟨G, B, F, ρ, .int i, _, rp, q, fun v F1 H1 e1 rp1 r1 => ?_⟩
      cases r1
      exact ⟨i, rfl, z F1 H1 e1 rp1⟩
    · cases e
theorem RL.seqL {K : Frag} {F H : Hp} {v : V} {d : D} {xs : List D} (e : Ex F H) (r : RL K F H v d) (h : lstOf d = some xs) : ∃ p vs, v = .ref p ∧ SqL K H p vs ∧ Rs K F vs xs := by
  cases d with
  | lst l =>
    cases h
    obtain ⟨p, vs, rfl, a, b⟩ := r.lst e
    exact ⟨p, vs, rfl, SqL.of a, b⟩
  | rol l =>
    cases h
    exact r.rol e
  | _ => cases h
theorem Rs.cut {K : Frag} {F : Hp} {vs : List V} {xs : List D} (r : Rs K F vs xs) (l u : Option Int) : Rs K F (cutV vs l u) (cutA xs l u) := by
  unfold cutV cutA
  rw [r.len]
  exact (r.drop _).take _
section
variable {X : Cx} {a b : Expr} {pos p2 : Pos}
theorem ep_none : PO X none (partT X.K none) := po_none
theorem ep_some {f : Fv} (h : PE X a (tV X.K f)) : PO X (some a) (partT X.K (some f)) := po_some h
theorem ev_slice {fo : Fo} {lo hi : Option Fv} {elo ehi : Option Expr} (ha : PE X a (tO X.K fo)) (hl : PO X elo (partT X.K lo)) (hh : PO X ehi (partT X.K hi)) : PE X (.Subscript a (.Slice elo ehi none p2) pos) (tE X.K (slE fo lo hi)) :=
  PE.weak (pe_slice sl_list ha hl hh) fun σ H Q ⟨G, B, F, ρ, r, ρ', rp, ef, z⟩ => by
    obtain ⟨a, ρ1, l, ρ2, u, d, xs, q1, q2, q3, q4, q5, rfl⟩ := slE_inv ef
    refine ⟨G, B, F, ρ, a, ρ1, rp, q1, fun v F1 H1 e1 rp1 r1 => ?_⟩
    refine partT_ok rp1 q2 fun F2 H2 e2 rp2 => partT_ok rp2 q3 fun F3 H3 e3 rp3 => ?_
    obtain ⟨p, vs, rfl, hq, rs⟩ := (look_ok rp3 (r1.mono (e2.trans e3)) q4).seqL rp3.exF q5
    refine ⟨p, vs, rfl, hq, fun p' hp => ?_⟩
    obtain ⟨b1, b2, b3, b4⟩ := rp3.new (o := .lst (cutV vs l u)) hp
    exact z _ F3 _ ((e1.trans e2).trans e3) b1 ⟨p', rfl, b2, b3, ⟨_, upd_same, rs.cut l u⟩, b4⟩
end
/-- one turn, its value by itself -/
theorem turn_at {K : Frag} {G : Hp} {B : List (Nat × Addr)} {F F1 H : Hp} {ρ1 : EnvD} {D : Ends} {o : Out} {t : Tg} {body : Fs} {ds : List Ev.D} {i : Nat} {x : V} {d : Ev.D} {σ : L2.St} (z : Post K G B F D o) (hd : ds[i]? = some d) (e1 : Ex F F1) (rp1 : Rep K G B F1 H ρ1 σ) (hr : R K F1 x d) (q1 : loopF t body (ds.drop i) ρ1 = some o) :
    gT K t x σ H fun σ2 H2 => tS K body { nx := Turn K G B F t body ds o (i + 1), rt := D.rt, bk := D.nx, ct := Turn K G B F t body ds o (i + 1) } σ2 H2 := by
  have rs : Rs K F1 [x] [d] := Rs.one hr
  obtain ⟨hl, hde⟩ := List.getElem?_eq_some_iff.mp hd
  rw [List.drop_eq_getElem_cons hl, hde] at q1
  unfold loopF at q1
  split at q1
  · cases q1
  · rename_i ρ2 q2
    refine ⟨G, B, F1, ρ1, d, ρ2, rp1, hr, q2, fun σ2 _ rp2 => ?_⟩
    split at q1
    · rename_i ρ3 q3
      exact ⟨G, B, F1, ρ2, _, rp2, q3, fun σ3 F3 H3 e3 rp3 => ⟨F3, ρ3, e1.trans e3, rp3, q1⟩⟩
    · rename_i ρ3 q3
      exact ⟨G, B, F1, ρ2, _, rp2, q3, fun σ3 F3 H3 e3 rp3 => ⟨F3, ρ3, e1.trans e3, rp3, q1⟩⟩
    · rename_i ρ3 q3
      cases q1
      exact ⟨G, B, F1, ρ2, _, rp2, q3, fun σ3 F3 H3 e3 rp3 => z σ3 F3 H3 (e1.trans e3) rp3⟩
    · rename_i r ρ3 q3
      cases q1
      exact ⟨G, B, F1, ρ2, _, rp2, q3, fun σ3 v F3 H3 e3 rp3 rr => z σ3 v F3 H3 (e1.trans e3) rp3 rr⟩
    · cases q1
/-- a walk by place, for statements -/
theorem by_turn {n : Nat} {stop go : Nat → Hp → Prop} {yld : Nat → Hp → V → Hp → Prop} {g : TG} {tb : TS} {D : Ends} {σ : L2.St} {H : Hp} (Pv : Nat → L2.St → Hp → Prop) (first : Pv 0 σ H) (last : ∀ σ H, Pv n σ H → stop n H ∧ D.nx σ H)
    (mid : ∀ i σ H, i < n → Pv i σ H → go i H ∧ ∀ x H', yld i H x H' → g x σ H' fun σ2 H2 => tb { D with nx := Pv (i + 1), ct := Pv (i + 1), bk := D.nx } σ2 H2) :
    ∃ W : Nat → Nat → L2.St → Hp → Prop, (∃ m, W 0 m σ H) ∧ ∀ i m σ H, W i m σ H → (stop i H ∧ D.nx σ H) ∨ (go i H ∧ ∃ N : L2.St → Hp → Prop, (∀ σ' H', N σ' H' → ∃ m', m' < m ∧ W (i + 1) m' σ' H') ∧ ∀ x H', yld i H x H' → g x σ H' fun σ2 H2 => tb { D with nx := N, ct := N, bk := D.nx } σ2 H2) := by
  exists fun i m σ H => i + m = n ∧ Pv i σ H
  constructor
  · exact ⟨n, Nat.zero_add n, first⟩
  intro i m σ H w
  cases m with
  | zero =>
    have e : i = n := w.1
    exact .inl (e ▸ last σ H (e ▸ w.2))
  | succ m =>
    have lt : i < n := by have := w.1; omega
    have g := mid i σ H lt w.2
    exact .inr ⟨g.1, Pv (i + 1), fun σ' H' p => ⟨m, Nat.lt_succ_self m, by have := w.1; omega, p⟩, g.2⟩
def zipD (l m : List D) : List D := List.zipWith (fun a b => D.tup [a, b]) l m
def zipF (t : Tg) (f : Fl) (body : Fs) : Fs := fun ρ => match f ρ with
  | some ([a, b], ρ1) => (match lstOf a, lstOf b with
    | some l, some m => loopF t body (zipD l m) ρ1
    | _, _ => none)
  | _ => none
def enumD : Nat → List D → List D
  | _, [] => []
  | i, d :: ds => D.tup [.int (i : Nat), d] :: enumD (i + 1) ds
theorem enumD_get : ∀ {ds : List D} {k i : Nat}, (enumD k ds)[i]? = (ds[i]?).map fun d => D.tup [.int ((k + i : Nat) : Int), d]
  | [], k, i => by simp [enumD]
  | d :: ds, k, 0 => by simp [enumD]
  | d :: ds, k, i + 1 => by
    show (enumD (k + 1) ds)[i]? = _
    rw [enumD_get, List.getElem?_cons_succ]
    congr 1
    funext d
    rw [show k + 1 + i = k + (i + 1) by omega]
theorem enumD_len : ∀ {ds : List D} {k : Nat}, (enumD k ds).length = ds.length
  | [], _ => rfl
  | d :: ds, k => congrArg (· + 1) enumD_len
def enumF (t : Tg) (f : Fl) (body : Fs) : Fs := fun ρ => match f ρ with
  | some ([a], ρ1) => (match lstOf a with
    | some l => loopF t body (enumD 0 l) ρ1
    | _ => none)
  | _ => none
section
variable {X : Cx} {a b : Expr} {pos : Pos} {s1 : Fs}
theorem es_zip {is : List Nat} {elts : List Expr} {kk : Nat} {tpos : Pos} {body : List Stmt} {l1 : Fl} {p : Pos} {pos2 : Pos} (po : PassesOwn (model X.prog X.w) X.A X.env X.xe) (hc : X.calm = true) (gl : Gl X (Str.ofString "zip")) (hm : X.mg (Str.ofString "zip") = none) (ha : PA X [a, b] (tL X.K l1)) (hg : PG X (.Tuple elts kk tpos) (gT X.K (.tp is))) (hb : PSs X body (tS X.K s1))
    (hst : starEach [a, b] X.env = (false, eval a X.env) :: starEach [b] X.env) (hst2 : (backTo pos2 (starEach [b] X.env)).any (·.1) = false) (hs : ∀ x : Value, foldedSetIterable (Expr.Call (.Name (Str.ofString "zip") p) [a, b] [] pos2) X.env x = pure x) :
    PS X (.For (.Tuple elts kk tpos) (Expr.Call (.Name (Str.ofString "zip") p) [a, b] [] pos2) body [] pos) (tS X.K (zipF (.tp is) l1 s1)) :=
  PS.weak (ps_for po hc (RZ.pi_zipA gl hm ha hst hst2) hg hb hs) fun D σ H ⟨G, B, F, ρ, o, rp, ef, z⟩ => by
    unfold zipF at ef
    split at ef
    · rename_i da db ρ1 q1
      split at ef
      · rename_i l m ql qm
        refine ⟨G, B, F, ρ, _, ρ1, rp, q1, fun vs F1 H1 e1 rp1 r1 => ?_⟩
        cases r1 with
        | cons ra rb =>
          cases rb with
          | cons rb rn =>
            cases rn
            obtain ⟨pa, xs, rfl, sa, rxs⟩ := lst_of (Ex.refl F1) ra ql
            obtain ⟨pb, ys, rfl, sb, rys⟩ := lst_of (Ex.refl F1) rb qm
            refine ⟨pa, pb, xs, ys, rfl, .inl ⟨rp1.exF.seqL sa, rp1.exF.seqL sb, ?_⟩⟩
            have len : (zipD l m).length = min xs.length ys.length := by rw [zipD, List.length_zipWith, rxs.len, rys.len]
            have sq : ∀ i σ H, Turn X.K G B F1 (.tp is) s1 (zipD l m) o i σ H → SqL X.K H pa xs ∧ SqL X.K H pb ys := fun i σ H ⟨F2, ρ2, e2, rp2, _⟩ => ⟨rp2.exF.seqL (e2.seqL sa), rp2.exF.seqL (e2.seqL sb)⟩
            refine by_turn (n := (zipD l m).length) (Turn X.K G B F1 (.tp is) s1 (zipD l m) o) ⟨F1, ρ1, Ex.refl _, rp1, ef⟩ (fun σ H q => ?_) (fun i σ H hi q => ?_)
            · obtain ⟨h1, h2⟩ := sq _ _ _ q
              refine ⟨⟨xs, ys, h1, h2, by rw [len]; omega⟩, ?_⟩
              obtain ⟨F2, ρ2, e2, rp2, q2⟩ := q
              rw [List.drop_length] at q2
              cases q2
              exact z σ F2 H (e1.trans e2) rp2
            · obtain ⟨h1, h2⟩ := sq _ _ _ q
              have hx : i < xs.length := by omega
              have hy : i < ys.length := by omega
              refine ⟨⟨xs, ys, _, _, h1, h2, List.getElem?_eq_getElem hx, List.getElem?_eq_getElem hy⟩, fun v H' yv => ?_⟩
              obtain ⟨T, x', y', rfl, hT, rfl, f1, f2⟩ := yv
              obtain ⟨F2, ρ2, e2, rp2, q2⟩ := q
              obtain ⟨dx, hdx, rx⟩ := rxs.getV (f1 xs h1)
              obtain ⟨dy, hdy, ry⟩ := rys.getV (f2 ys h2)
              obtain ⟨rp3, e3⟩ := rp2.newF (o := .tup [x', y']) hT
              refine turn_at (d := .tup [dx, dy]) (z.ex e1) ?_ (e2.trans e3) rp3 (.tup (xs := [x', y']) (.inl (.inl upd_same)) (.cons (rx.mono (e2.trans e3)) (.cons (ry.mono (e2.trans e3)) .nil))) q2
              rw [zipD, List.getElem?_zipWith, hdx, hdy]
      · cases ef
    · cases ef
theorem es_enum {is : List Nat} {elts : List Expr} {kk : Nat} {tpos : Pos} {body : List Stmt} {l1 : Fl} {p : Pos} {pos2 : Pos} (po : PassesOwn (model X.prog X.w) X.A X.env X.xe) (hc : X.calm = true) (gl : Gl X (Str.ofString "enumerate")) (hm : X.mg (Str.ofString "enumerate") = none) (ha : PA X [a] (tL X.K l1)) (hg : PG X (.Tuple elts kk tpos) (gT X.K (.tp is))) (hb : PSs X body (tS X.K s1))
    (hst : starEach [a] X.env = [(false, eval a X.env)]) (hs : ∀ x : Value, foldedSetIterable (Expr.Call (.Name (Str.ofString "enumerate") p) [a] [] pos2) X.env x = pure x) :
    PS X (.For (.Tuple elts kk tpos) (Expr.Call (.Name (Str.ofString "enumerate") p) [a] [] pos2) body [] pos) (tS X.K (enumF (.tp is) l1 s1)) :=
  PS.weak (ps_for po hc (pi_enum gl hm ha hst) hg hb hs) fun D σ H ⟨G, B, F, ρ, o, rp, ef, z⟩ => by
    unfold enumF at ef
    split at ef
    · rename_i da ρ1 q1
      split at ef
      · rename_i l ql
        refine ⟨G, B, F, ρ, _, ρ1, rp, q1, fun vs F1 H1 e1 rp1 r1 => ?_⟩
        cases r1 with
        | cons ra rn =>
          cases rn
          obtain ⟨pa, xs, rfl, sa, rxs⟩ := lst_of (Ex.refl F1) ra ql
          refine ⟨pa, xs, rfl, rp1.exF.seqL sa, ?_⟩
          have sq : ∀ i σ H, Turn X.K G B F1 (.tp is) s1 (enumD 0 l) o i σ H → SqL X.K H pa xs := fun i σ H ⟨F2, ρ2, e2, rp2, _⟩ => rp2.exF.seqL (e2.seqL sa)
          refine by_turn (n := (enumD 0 l).length) (Turn X.K G B F1 (.tp is) s1 (enumD 0 l) o) ⟨F1, ρ1, Ex.refl _, rp1, ef⟩ (fun σ H q => ?_) (fun i σ H hi q => ?_)
          · refine ⟨⟨xs, sq _ _ _ q, by rw [enumD_len, rxs.len]; exact Nat.le_refl _⟩, ?_⟩
            obtain ⟨F2, ρ2, e2, rp2, q2⟩ := q
            rw [List.drop_length] at q2
            cases q2
            exact z σ F2 H (e1.trans e2) rp2
          · have h1 := sq _ _ _ q
            have hx : i < xs.length := by rw [enumD_len, ← rxs.len] at hi; exact hi
            refine ⟨⟨xs, _, h1, List.getElem?_eq_getElem hx⟩, fun v H' yv => ?_⟩
            obtain ⟨T, x', rfl, hT, rfl, f1⟩ := yv
            obtain ⟨F2, ρ2, e2, rp2, q2⟩ := q
            obtain ⟨dx, hdx, rx⟩ := rxs.getV (f1 xs h1)
            obtain ⟨rp3, e3⟩ := rp2.newF (o := .tup [.int (i : Nat), x']) hT
            refine turn_at (d := .tup [.int ((0 + i : Nat) : Int), dx]) (z.ex e1) ?_ (e2.trans e3) rp3 (.tup (xs := [.int (i : Nat), x']) (.inl (.inl upd_same)) (.cons (by rw [Nat.zero_add]; exact .int _) (.cons (rx.mono (e2.trans e3)) .nil))) q2
            rw [enumD_get, hdx] <;> rfl
      · cases ef
    · cases ef
end
end Ev
/-! Ev18 -/
namespace Ev
open PySem PySem.Spec PyProof.Rows L2
variable [Tabs]
abbrev TK := List Key
def tkey (ys : List Str) : TK := ys.map Sum.inr
theorem tkey_vals (ys : List Str) : (tkey ys).map kV = ys.map V.str := by
  induction ys with
  | nil => rfl
  | cons y r ih => exact congrArg (V.str y :: ·) ih
section
variable {K : Frag} {F : Hp} {k : TK}
theorem RTs.any : ∀ {kvs : List (TK × V)} {ds : List (TK × D)}, RTs K F kvs ds → (kvs.any fun kv => decide (kv.1 = k)) = (ds.any fun kv => decide (kv.1 = k))
  | _, _, .nil => rfl
  | _, _, .cons h r => by
    rw [List.any_cons, List.any_cons, r.any]
theorem RTs.app : ∀ {kvs kvs2 : List (TK × V)} {ds ds2 : List (TK × D)}, RTs K F kvs ds → RTs K F kvs2 ds2 → RTs K F (kvs ++ kvs2) (ds ++ ds2)
  | _, _, _, _, .nil, t => t
  | _, _, _, _, .cons h r, t => .cons h (r.app t)
theorem RTs.map {v : V} {d : D} (hv : R K F v d) : ∀ {kvs : List (TK × V)} {ds : List (TK × D)}, RTs K F kvs ds → RTs K F (kvs.map fun kv => if kv.1 = k then (kv.1, v) else kv) (ds.map fun kv => if kv.1 = k then (kv.1, d) else kv)
  | _, _, .nil => .nil
  | _, _, .cons (k := k1) h r => by
    rw [List.map_cons, List.map_cons]
    by_cases z : k1 = k
    · rw [if_pos z, if_pos z]
      exact .cons hv (RTs.map hv r)
    · rw [if_neg z, if_neg z]
      exact .cons h (RTs.map hv r)
theorem RTs.put {v : V} {d : D} {kvs : List (TK × V)} {ds : List (TK × D)} (hv : R K F v d) (r : RTs K F kvs ds) : RTs K F (putK kvs k v) (putD ds k d) := by
  unfold putK putD
  rw [r.any]
  split
  · exact r.map hv
  · exact r.app (.cons hv .nil)
theorem RTs.find : ∀ {kvs : List (TK × V)} {ds : List (TK × D)}, RTs K F kvs ds → ∀ d, valD ds k = some d → ∃ v, valV kvs k = some v ∧ R K F v d
  | _, _, .nil => fun d h => by cases h
  | _, _, .cons (k := k1) (v := v) (d := d) (vs := vs) (ds := ds) h r => by
    unfold valD valV
    rw [List.find?_cons, List.find?_cons]
    by_cases z : k1 = k
    · have : decide (k1 = k) = true := decide_eq_true z
      simp only [this]
      exact fun d' e => by cases e; exact ⟨v, rfl, h⟩
    · have : decide (k1 = k) = false := decide_eq_false z
      simp only [this]
      exact r.find
end
theorem RL.dT {K : Frag} {F H : Hp} (e : Ex F H) {v : V} {l : List (TK × D)} (r : RL K F H v (.dT l)) : ∃ p kvs, v = .ref p ∧ H p = some (.dT kvs) ∧ RTs K F kvs l := by
  rcases r with r | ⟨p, rfl, c⟩
  · cases r with
    | dT h rs => exact ⟨_, _, rfl, e _ _ h, rs⟩
  · obtain ⟨xs, a, b⟩ := c
    exact ⟨p, xs, rfl, a, b⟩
/-- c[a, b, ..] = e -/
def setTF (k : Nat) (fe : Fv) (fl : Fl) : Fs := fun ρ => match fe ρ with
  | some (d, ρ1) => (match cellOf ρ1 k, fl ρ1 with
    | some _, some (ds, ρ2) => (match cellOf ρ2 k, strsOf ds with
      | some (.dT l), some ys => if isLine ys.length then (if decide (l.length < sizeLine) then some (.nx (setC ρ2 k (.dT (putD l (tkey ys) d)))) else none) else none
      | _, _ => none)
    | _, _ => none)
  | none => none
theorem setTF_inv {k : Nat} {fe : Fv} {fl : Fl} {ρ : EnvD} {o : Out} (h : setTF k fe fl ρ = some o) : ∃ d ρ1 c0 ds ρ2 l ys, fe ρ = some (d, ρ1) ∧ cellOf ρ1 k = some c0 ∧ fl ρ1 = some (ds, ρ2) ∧ cellOf ρ2 k = some (.dT l) ∧ strsOf ds = some ys ∧ isLine ys.length = true ∧ l.length < sizeLine ∧ o = .nx (setC ρ2 k (.dT (putD l (tkey ys) d))) := by
  unfold setTF at h
  split at h
  · rename_i d ρ1 q1
    split at h
    · rename_i c0 ds ρ2 q2 q3
      split at h
      · rename_i l ys q4 q5
        split at h
        · rename_i h1
          split at h
          · rename_i h2
            cases h
            exact ⟨d, ρ1, c0, ds, ρ2, l, ys, q1, q2, q3, q4, q5, h1, of_decide_eq_true h2, rfl⟩
          · cases h
        · cases h
      · cases h
    · cases h
  · cases h
/-- c[a, b, ..] -/
def getTE (fo : Fo) (fl : Fl) : Fe := fun ρ => match fo ρ with
  | some (a, ρ1) => (match fl ρ1 with
    | some (ds, ρ2) => (match lookA ρ2 a, strsOf ds with
      | some (.dT l), some ys => if isLine ys.length then (valD l (tkey ys)).map fun d => (.val d, ρ2) else none
      | _, _ => none)
    | none => none)
  | none => none
theorem getTE_inv {fo : Fo} {fl : Fl} {ρ ρ' : EnvD} {z : Re} (h : getTE fo fl ρ = some (z, ρ')) : ∃ a ρ1 ds l ys d, fo ρ = some (a, ρ1) ∧ fl ρ1 = some (ds, ρ') ∧ lookA ρ' a = some (.dT l) ∧ strsOf ds = some ys ∧ isLine ys.length = true ∧ valD l (tkey ys) = some d ∧ z = .val d := by
  unfold getTE at h
  split at h
  · rename_i a ρ1 q1
    split at h
    · rename_i ds ρ2 q2
      split at h
      · rename_i l ys q3 q4
        split at h
        · rename_i h1
          obtain ⟨d, e1, e2⟩ := Option.map_eq_some_iff.mp h
          cases e2
          exact ⟨a, ρ1, ds, l, ys, d, q1, q2, q3, q4, h1, e1, rfl⟩
        · cases h
      · cases h
    · cases h
  · cases h
section
variable {X : Cx} {a e : Expr} {es : List Expr} {fe : Fv} {fl : Fl} {fo : Fo} {pos pos' pos2 tpos : Pos} {x : Str} {k kk : Nat}
theorem ev_dnewT : PE X (.Dict [] [] pos) (tE X.K fun ρ => some (.new (.dT []), ρ)) :=
  PE.weak pe_dnewT fun σ H Q ⟨G, B, F, ρ, z, ρ', rp, ef, k⟩ => by
    cases ef
    intro p hp
    obtain ⟨a, b, g, d⟩ := rp.new (o := .dT []) hp
    exact k _ F _ (Ex.refl F) a ⟨p, rfl, b, g, ⟨_, upd_same, .nil⟩, d⟩
theorem es_putT (hu : X.A.units + 1 < cLine) (hN : X.N[k]? = some x) (hv : Vis X.env.scope x) (hd : (x == ("__debug__" : Str)) = false) (hcd : (x == ("__classdict__" : Str)) = false) (he : PE X e (tV X.K fe)) (hi : PA X es (tL X.K fl))
    (h1 : swapsWith e (some (Expr.Subscript (.Name x pos') (.Tuple es kk tpos) pos2)) pos.line X.env = pure false) :
    PS X (.Assign [.Subscript (.Name x pos') (.Tuple es kk tpos) pos2] e pos) (tS X.K (setTF k fe fl)) :=
  PS.weak (ps_dput hu (pe_var (i := k) hN hv hd hcd) (pe_tup hi) he h1) fun D σ H ⟨G, B, F, ρ, o, rp, ef, z⟩ => by
    obtain ⟨d, ρ1, c0, ds, ρ2, l, ys, q1, q2, q3, q4, q5, h1, h2, rfl⟩ := setTF_inv ef
    refine ⟨G, B, F, ρ, d, ρ1, rp, q1, fun v F1 H1 e1 rp1 r1 => ?_⟩
    obtain ⟨p, a1, a2, a3, a4⟩ := rp1.own k c0 q2
    refine ⟨.ref p, a1, G, B, F1, ρ1, ds, ρ2, rp1, q3, fun vs F2 H2 e2 rp2 r2 => ?_⟩
    rw [strsOf_ok q5] at r2
    have ev := Rs.strs_inv r2
    subst ev
    refine ⟨by rw [List.length_map]; exact of_decide_eq_true h1, fun T hT => ?_⟩
    obtain ⟨rp3, e3⟩ := rp2.newF (o := .tup (ys.map V.str)) hT
    obtain ⟨b2, b3, b4⟩ := rp3.cellAt q4 a1
    obtain ⟨kvs, c1, c2⟩ := b4
    refine ⟨p, _, rfl, DPut.t (k := tkey ys) c1 (by rw [tkey_vals]; exact upd_same) (by rw [show kvs.length = l.length from c2.len]; exact h2), ?_⟩
    exact z σ _ _ ((e1.trans e2).trans e3) (rp3.store q4 a1 ⟨_, upd_same, c2.put (r1.mono (e2.trans e3))⟩)
theorem ev_getT (hu : X.A.units + 1 < cLine) (ha : PE X a (tO X.K fo)) (hi : PA X es (tL X.K fl)) (hs : NoSl (.Tuple es kk tpos)) : PE X (.Subscript a (.Tuple es kk tpos) pos) (tE X.K (getTE fo fl)) :=
  PE.weak (pe_dget hu ha (pe_tup hi) hs) fun σ H Q ⟨G, B, F, ρ, z, ρ', rp, ef, k⟩ => by
    obtain ⟨a, ρ1, ds, l, ys, d, q1, q2, q3, q4, h1, q5, rfl⟩ := getTE_inv ef
    refine ⟨G, B, F, ρ, a, ρ1, rp, q1, fun v F1 H1 e1 rp1 r1 => ?_⟩
    refine ⟨G, B, F1, ρ1, ds, ρ', rp1, q2, fun vs F2 H2 e2 rp2 r2 => ?_⟩
    rw [strsOf_ok q4] at r2
    have ev := Rs.strs_inv r2
    subst ev
    refine ⟨by rw [List.length_map]; exact of_decide_eq_true h1, fun T hT => ?_⟩
    obtain ⟨rp3, e3⟩ := rp2.newF (o := .tup (ys.map V.str)) hT
    obtain ⟨p, kvs, rfl, hp, rs⟩ := (look_ok rp3 (r1.mono (e2.trans e3)) q3).dT rp3.exF
    obtain ⟨w, e4, e5⟩ := rs.find d q5
    exact ⟨p, w, rfl, by rw [← e4]; exact DGet.t (k := tkey ys) hp (by rw [tkey_vals]; exact upd_same), k w _ _ ((e1.trans e2).trans e3) rp3 e5⟩
end
end Ev
/-! Ev19 -/
namespace Ev
open PySem PySem.Spec PyProof.Rows L2
variable [Tabs]
theorem es_never {X : Cx} {s : Stmt} : PS X s (tS X.K fun _ => none) := ⟨fun _ _ _ _ _ _ ⟨_, _, _, _, _, _, ef, _⟩ => by cases ef⟩
theorem ev_never {X : Cx} {e : Expr} : PE X e (tE X.K fun _ => none) := ⟨fun _ _ _ _ _ _ ⟨_, _, _, _, _, _, _, ef, _⟩ => by cases ef⟩
def gSortS : OpL
  | [d] => (match lstOf d with
    | some l => (match strsOf l with
      | some ks => if Nat.ble ks.length 63 then some (.new (.lst ((sortS ks).map D.str))) else none
      | none => none)
    | none => none)
  | _ => none
theorem gSortS_ok {K : Frag} : CbOk K (rSortedS K) gSortS := by
  intro G B F H ρ σ vs ds z Q rp rl e k
  unfold gSortS at e
  split at e
  · rename_i d
    split at e
    · rename_i l q
      split at e
      · rename_i ks q2
        split at e
        · rename_i h64
          cases e
          obtain ⟨v, rfl, h⟩ := rl.one
          obtain ⟨p, xs, rfl, hs, rs⟩ := h.seqL rp.exF q
          rw [strsOf_ok q2] at rs
          have ev := Rs.strs_inv rs
          subst ev
          refine ⟨p, ks, rfl, hs, Nat.lt_succ_of_le (Nat.le_of_ble_eq_true h64), fun ys l' hp hso hl => ?_⟩
          rw [sortS_eq hp hso]
          obtain ⟨rp2, f, g, ne⟩ := rp.new (o := .lst ((sortS ks).map V.str)) hl
          exact k _ F _ (Ex.refl F) rp2 ⟨l', rfl, f, g, ⟨_, upd_same, Rs.strs⟩, ne⟩
        · cases e
      · cases e
    · cases e
  · cases e
theorem ev_sorted {X : Cx} {a : Expr} {f : Fa} {p pos : Pos} (gl : Gl X "sorted") (hm : X.mg "sorted" = none) (ha : PA X [a] (tA X.K f)) (h3 : starEach [a] X.env = (false, eval a X.env) :: starEach [] X.env) : PE X (.Call (.Name "sorted" p) [a] [] pos) (tE X.K (opLE gSortS f)) :=
  ev_blt cr_sortedS gSortS_ok gl hm boot_sorted ha (by decide) (by decide) h3 rfl
def whileF (c : Fb) (body : Fs) : Nat → Fs
  | 0 => fun _ => none
  | n + 1 => fun ρ => match c ρ with
    | some (true, ρ1) => (match body ρ1 with
      | some (.nx ρ2) => whileF c body n ρ2
      | some (.ct ρ2) => whileF c body n ρ2
      | some (.bk ρ2) => some (.nx ρ2)
      | some (.rt r ρ2) => some (.rt r ρ2)
      | none => none)
    | some (false, ρ1) => some (.nx ρ1)
    | none => none
theorem es_while {X : Cx} {c : Expr} {body : List Stmt} {fc : Fb} {fb : Fs} {pos : Pos} (n : Nat) (po : PassesOwn (model X.prog X.w) X.A X.env X.xe) (hc : PT X c (tT X.K fc)) (hb : PSs X body (tS X.K fb)) : PS X (.While c body [] pos) (tS X.K (whileF fc fb n)) :=
  PS.weak (ps_while po hc hb) fun D σ H ⟨G, B, F, ρ, o, rp, ef, z⟩ => by
    refine ⟨fun m σ H => ∃ F1 ρ1, Ex F F1 ∧ Rep X.K G B F1 H ρ1 σ ∧ whileF fc fb m ρ1 = some o, ⟨n, F, ρ, Ex.refl F, rp, ef⟩, fun m σ H ⟨F1, ρ1, e1, rp1, q1⟩ => ?_⟩
    cases m with
    | zero => cases q1
    | succ m =>
      unfold whileF at q1
      split at q1
      · rename_i ρ2 q2
        refine ⟨G, B, F1, ρ1, true, ρ2, rp1, q2, fun F2 H2 e2 rp2 => iteT ?_⟩
        refine ⟨fun σ' H' => ∃ F1 ρ1, Ex F F1 ∧ Rep X.K G B F1 H' ρ1 σ' ∧ whileF fc fb m ρ1 = some o, fun σ' H' h => ⟨m, Nat.lt_succ_self m, h⟩, ?_⟩
        split at q1
        · rename_i ρ3 q3
          exact ⟨G, B, F2, ρ2, _, rp2, q3, fun σ3 F3 H3 e3 rp3 => ⟨F3, ρ3, (e1.trans e2).trans e3, rp3, q1⟩⟩
        · rename_i ρ3 q3
          exact ⟨G, B, F2, ρ2, _, rp2, q3, fun σ3 F3 H3 e3 rp3 => ⟨F3, ρ3, (e1.trans e2).trans e3, rp3, q1⟩⟩
        · rename_i ρ3 q3
          cases q1
          exact ⟨G, B, F2, ρ2, _, rp2, q3, fun σ3 F3 H3 e3 rp3 => z σ3 F3 H3 ((e1.trans e2).trans e3) rp3⟩
        · rename_i r ρ3 q3
          cases q1
          exact ⟨G, B, F2, ρ2, _, rp2, q3, fun σ3 v F3 H3 e3 rp3 rr => z σ3 v F3 H3 ((e1.trans e2).trans e3) rp3 rr⟩
        · cases q1
      · rename_i ρ2 q2
        cases q1
        refine ⟨G, B, F1, ρ1, false, ρ2, rp1, q2, fun F2 H2 e2 rp2 => iteF ?_⟩
        exact z σ F2 H2 (e1.trans e2) rp2
      · cases q1
/-- y = [.. for .. in range(n)] -/
theorem es_setLcR {X : Cx} {vs : List Nat} {i : Nat} {y : Str} {py spos : Pos} {elt tg a : Expr} {p pos2 : Pos} {ifs : List Expr} {scope : Scope} {own : List (Str × Nat)} {pos : Pos} {t : Tg} {fl : Fl} {fe : Fv} {fc : Fb} (hc : X.calm = true) (hN : X.N.Nodup) (hy : X.N[i]? = some y) (hl : List.lookup y X.env.scope.names = some NameKind.local)
    (hsw : swapsWith (elt.ListComp [⟨tg, Expr.Call (.Name (Str.ofString "range") p) [a] [] pos2, ifs, 0⟩] scope pos) (some (.Name y py)) spos.line X.env = pure true) (gl : Gl X (Str.ofString "range")) (hm : X.mg (Str.ofString "range") = none) (hi : PA X [a] (tL X.K fl)) (hst : starEach [a] X.env = [(false, eval a X.env)]) (ok : BlkOk X.N X.env.scope scope own)
    (hg : ∀ (s : Shared) (H : Hp) (C : Addr) (cl : List (Str × Addr)) (fp : List Addr), PG (X.blk s H scope (compEnvC scope cl C X.env) fp) tg (gT X.K t))
    (hf : ∀ (s : Shared) (H : Hp) (C : Addr) (cl : List (Str × Addr)) (fp : List Addr), PTs (X.blk s H scope (compEnvC scope cl C X.env) fp) ifs (tT X.K fc))
    (he : ∀ (s : Shared) (H : Hp) (C : Addr) (cl : List (Str × Addr)) (fp : List Addr), PE (X.blk s H scope (compEnvC scope cl C X.env) fp) elt (tV X.K fe))
    (hs : ∀ x : Value, foldedSetIterable (Expr.Call (.Name (Str.ofString "range") p) [a] [] pos2) X.env x = pure x) (ht : ∀ j, j ∈ t.ix → j ∈ vs) (hvs : (own.map fun x => x.snd) = vs) : PS X (.Assign [.Name y py] (elt.ListComp [⟨tg, Expr.Call (.Name (Str.ofString "range") p) [a] [] pos2, ifs, 0⟩] scope pos) spos) (tS X.K (setF i (lcRngE rngD1 vs t fl fc fe))) := by
  subst hvs
  exact PS.weak (ps_setLc (i := i) hc hN hy hl hsw (pi_range1 gl hm hi hst) ok hg hf he hs) fun D σ H h => wk_setLc (fun σ H Q => wk_lcR1 ht σ H Q) D σ H h
end Ev
/-! Ev20 -/
namespace Ev
open PySem PySem.Spec PyProof.Rows L2
variable [Tabs]
def bInD (neg : Bool) : OpB := fun x y => match toPy x, toPy y with
  | some p, some (.list ps) => if SeqAt.shaped p && SeqAt.shaped (.list ps) then some (if neg then !(ps.any fun z => PyData.eqv z p) else ps.any fun z => PyData.eqv z p) else none
  | _, _ => none
theorem bInD_ok {K : Frag} : CmpOk K (rInD K) (bInD false) := by
  intro F H v u x y b Q e r1 r2 q k
  unfold bInD at q
  split at q
  · rename_i p ps h1 h2
    split at q
    · rename_i hs
      obtain ⟨a1, a2⟩ := Bool.and_eq_true_iff.mp hs
      cases q
      exact ⟨p, ps, r1.dp e h1, r2.dp e h2, a1, a2, k⟩
    · cases q
  · cases q
theorem bNotInD_ok {K : Frag} : CmpOk K (rNotInD K) (bInD true) := by
  intro F H v u x y b Q e r1 r2 q k
  unfold bInD at q
  split at q
  · rename_i p ps h1 h2
    split at q
    · rename_i hs
      obtain ⟨a1, a2⟩ := Bool.and_eq_true_iff.mp hs
      cases q
      exact ⟨p, ps, r1.dp e h1, r2.dp e h2, a1, a2, k⟩
    · cases q
  · cases q
abbrev bIn2 (neg : Bool) : OpB := fun x y => (bIn neg x y).or (bInD neg x y)
section
variable {X : Cx} {a b : Expr} {f1 f2 : Fo} {pos : Pos} (hu : X.A.units + 65 < cLine) (ha : PE X a (tO X.K f1)) (hb : PE X b (tO X.K f2))
include ha hb hu
theorem ec_in2 (hm : behindInMarks .In b = false) : PE X (.Compare a [.In] [b] pos) (tE X.K (cmpE (bIn2 false) f1 f2)) := ec_cmp (OpR.or (OpR.or op_in_seq op_in_sign) (op_inD hu)) ((bInF_ok.or bIn1_ok).or bInD_ok) ha hb hm
theorem ec_notIn2 (hm : behindInMarks .NotIn b = false) : PE X (.Compare a [.NotIn] [b] pos) (tE X.K (cmpE (bIn2 true) f1 f2)) := ec_cmp (OpR.or (OpR.or op_notIn_seq op_notIn_sign) (op_notInD hu)) ((bInF_ok.or bIn1_ok).or bNotInD_ok) ha hb hm
theorem ct_in2 (hm : behindInMarks .In b = false) : PT X (.Compare a [.In] [b] pos) (tT X.K (cmpT (bIn2 false) f1 f2)) := ec_cmpT (OpR.or (OpR.or op_in_seq op_in_sign) (op_inD hu)) ((bInF_ok.or bIn1_ok).or bInD_ok) ha hb hm
theorem ct_notIn2 (hm : behindInMarks .NotIn b = false) : PT X (.Compare a [.NotIn] [b] pos) (tT X.K (cmpT (bIn2 true) f1 f2)) := ec_cmpT (OpR.or (OpR.or op_notIn_seq op_notIn_sign) (op_notInD hu)) ((bInF_ok.or bIn1_ok).or bNotInD_ok) ha hb hm
end
def gPopAt : MutD
  | .lst l, [.int i] => if in62 i then (match ixN l.length i with
    | some k => (match l[k]? with
      | some d => some (d, .lst (l.eraseIdx k))
      | none => none)
    | none => none) else none
  | _, _ => none
theorem Rs.erase {K : Frag} {F : Hp} {vs : List V} {ds : List D} (k : Nat) (r : Rs K F vs ds) : Rs K F (vs.eraseIdx k) (ds.eraseIdx k) := by
  rw [List.eraseIdx_eq_take_drop_succ, List.eraseIdx_eq_take_drop_succ]
  exact (r.take _).app (r.drop _)
theorem gPopAt_ok {K : Frag} : MutOk K rPopAt gPopAt := by
  intro F H l c vs ds res c' Q hc hr e kk
  unfold gPopAt at e
  split at e
  · rename_i xs i
    split at e
    · rename_i h62
      split at e
      · rename_i k hk
        split at e
        · rename_i d hd
          cases e
          obtain ⟨ys, a, b⟩ := hc
          obtain ⟨w, e1, e2⟩ := b.get hd
          have ev := Rs.one_inv hr
          subst ev
          obtain ⟨b1, b2⟩ := in62_ok h62
          exact ⟨l, ys, i, k, w, rfl, rfl, a, by omega, by omega, by rw [b.len]; exact (ixN_seq hk).1, e1, kk _ _ ⟨_, upd_same, b.erase k⟩ e2⟩
        · cases e
      · cases e
    · cases e
  · cases e
end Ev
/-! Ev21 -/
namespace Ev
open PySem PySem.Spec PyProof.Rows L2
variable [Tabs]
def unref (ρ : EnvD) (i : Nat) : EnvD := match ρ[i]? with
  | some (.ref d) => ρ.set i (.own d)
  | _ => ρ
theorem unref_out {ρ : EnvD} {i j : Nat} (h : i ≠ j) : (unref ρ i)[j]? = ρ[j]? := by
  unfold unref
  split
  · exact set_ne h
  · rfl
theorem unref_len {ρ : EnvD} {i : Nat} : (unref ρ i).length = ρ.length := by
  unfold unref
  split
  · exact List.length_set
  · rfl
theorem unref_cell {ρ : EnvD} {i j : Nat} : cellOf (unref ρ i) j = cellOf ρ j := by
  unfold unref
  split
  · rename_i d q
    rw [cell_set_own]
    split
    · rename_i h
      rw [← h.1, cell_ref q]
    · rfl
  · rfl
theorem unref_val {ρ : EnvD} {i j : Nat} {d : D} (h : (unref ρ i)[j]? = some (.val d)) : ρ[j]? = some (.val d) := by
  by_cases z : i = j
  · subst z
    unfold unref at h
    split at h
    · rename_i d' q
      rw [set_at (List.getElem?_eq_some_iff.mp q).1] at h
      cases h
    · exact h
  · rw [unref_out z] at h
    exact h
section
variable {K : Frag} {G : Hp} {B : List (Nat × Addr)} {F H : Hp} {ρ : EnvD} {σ : L2.St} {i : Nat} {l : Addr} {d : D}
theorem Rep.toRef (p : Rep K G B F H ρ σ) (h : ρ[i]? = some (.own d)) : ∃ l, σ[i]? = some (some (.ref l)) ∧ (∀ l', (i, l') ∉ B) ∧ Rep K G ((i, l) :: B) F H (ρ.set i (.ref d)) σ := by
  obtain ⟨l, a, _⟩ := p.own i d (cell_own h)
  have hl := (List.getElem?_eq_some_iff.mp h).1
  have ce : ∀ j, cellOf (ρ.set i (.ref d)) j = cellOf ρ j := fun j => by
    rw [cell_set_ref]
    split
    · rename_i q
      rw [← q.1, cell_own h]
    · rfl
  have nB : ∀ l', (i, l') ∉ B := fun l' z => by
    obtain ⟨⟨d', e⟩, _⟩ := p.bor i l' z
    rw [h] at e
    cases e
  refine ⟨l, a, nB, ⟨by rw [List.length_set]; exact p.len, p.exF, p.exG, p.dis, fun j e q => ?_, fun j e q => p.own j e (by rw [← ce]; exact q), fun j k e e' m q1 q2 => p.sep j k e e' m (by rw [← ce]; exact q1) (by rw [← ce]; exact q2), fun j m q => ?_, p.tab⟩⟩
  · by_cases z : i = j
    · subst z
      rw [set_at hl] at q
      cases q
    · rw [set_ne z] at q
      exact p.val j e q
  · rcases List.mem_cons.mp q with e | q
    · cases e
      exact ⟨⟨d, set_at hl⟩, a⟩
    · obtain ⟨⟨d', e⟩, b⟩ := p.bor j m q
      have z : i ≠ j := fun z => nB m (z ▸ q)
      exact ⟨⟨d', by rw [set_ne z]; exact e⟩, b⟩
theorem Rep.toOwn (p : Rep K G ((i, l) :: B) F H ρ σ) (nB : ∀ l', (i, l') ∉ B) : Rep K G B F H (unref ρ i) σ := by
  refine ⟨by rw [unref_len]; exact p.len, p.exF, p.exG, p.dis, fun j e q => p.val j e (unref_val q), fun j e q => p.own j e (by rw [← unref_cell]; exact q), fun j k e e' m q1 q2 => p.sep j k e e' m (by rw [← unref_cell (i := i)]; exact q1) (by rw [← unref_cell (i := i)]; exact q2), fun j m q => ?_, p.tab⟩
  obtain ⟨⟨d', e⟩, b⟩ := p.bor j m (List.mem_cons_of_mem _ q)
  have z : i ≠ j := fun z => nB m (z ▸ q)
  exact ⟨⟨d', by rw [unref_out z]; exact e⟩, b⟩
theorem RRe.unref {v : V} {r : Re} (q : RRe K G F H ρ σ v r) : RRe K G F H (unref ρ i) σ v r := by
  cases r with
  | val d => exact q
  | new d =>
    obtain ⟨l, a1, a2, a3, a4, a5⟩ := q
    exact ⟨l, a1, a2, a3, a4, fun j e h => a5 j e (by rw [← unref_cell (i := i)]; exact h)⟩
end
def mapOut (f : EnvD → EnvD) : Out → Out
  | .nx ρ => .nx (f ρ)
  | .rt r ρ => .rt r (f ρ)
  | .bk ρ => .bk (f ρ)
  | .ct ρ => .ct (f ρ)
/-- turn j on: the list as it stands then -/
def loopO (t : Tg) (i : Nat) (body : Fs) : Nat → Nat → EnvD → Option Out
  | 0, _, _ => none
  | n + 1, j, ρ => match cellOf ρ i with
    | some (.lst ds) => (match ds[j]? with
      | none => some (.nx ρ)
      | some d => (match putT t d ρ with
        | none => none
        | some ρ1 => match body ρ1 with
          | some (.nx ρ2) => loopO t i body n (j + 1) ρ2
          | some (.ct ρ2) => loopO t i body n (j + 1) ρ2
          | some (.bk ρ2) => some (.nx ρ2)
          | some (.rt r ρ2) => some (.rt r ρ2)
          | none => none))
    | _ => none
def forOF (t : Tg) (i : Nat) (body : Fs) : Fs := fun ρ => match ρ[i]? with
  | some (.own (.lst ds)) => (loopO t i body (ds.length + 1) 0 (ρ.set i (.ref (.lst ds)))).map (mapOut fun ρ => unref ρ i)
  | _ => none
theorem Post.unref {K : Frag} {G : Hp} {B : List (Nat × Addr)} {F : Hp} {D : Ends} {o : Out} {i : Nat} {l : Addr} (nB : ∀ l', (i, l') ∉ B) (z : Post K G B F D (mapOut (fun ρ => unref ρ i) o)) : Post K G ((i, l) :: B) F D o := by
  cases o with
  | nx ρ => exact fun σ F' H' e rp => z σ F' H' e (rp.toOwn nB)
  | rt r ρ => exact fun σ v F' H' e rp rr => z σ v F' H' e (rp.toOwn nB) rr.unref
  | bk ρ => exact fun σ F' H' e rp => z σ F' H' e (rp.toOwn nB)
  | ct ρ => exact fun σ F' H' e rp => z σ F' H' e (rp.toOwn nB)
theorem es_forO {X : Cx} {t : Tg} {tg : Expr} {body : List Stmt} {s1 : Fs} {x : Str} {i : Nat} {pos p : Pos} (po : PassesOwn (model X.prog X.w) X.A X.env X.xe) (hc : X.calm = true) (hN : X.N[i]? = some x) (hv : Vis X.env.scope x) (hd : (x == ("__debug__" : Str)) = false) (hcd : (x == ("__classdict__" : Str)) = false)
    (hg : PG X tg (gT X.K t)) (hb : PSs X body (tS X.K s1)) (hs : ∀ v : Value, foldedSetIterable (.Name x p) X.env v = pure v) : PS X (.For tg (.Name x p) body [] pos) (tS X.K (forOF t i s1)) :=
  PS.weak (ps_for po hc (pi_list (pe_var (i := i) hN hv hd hcd)) hg hb hs) fun D σ H ⟨G, B, F, ρ, o, rp, ef, z⟩ => by
    unfold forOF at ef
    split at ef
    · rename_i ds q1
      obtain ⟨o1, q2, rfl⟩ := Option.map_eq_some_iff.mp ef
      obtain ⟨l, hσ, nB, rp1⟩ := rp.toRef q1
      have z1 := Post.unref (l := l) nB z
      have cellL : ∀ {F1 H1 : Hp} {ρ1 : EnvD} {σ1 : L2.St} {d : Ev.D}, Rep X.K G ((i, l) :: B) F1 H1 ρ1 σ1 → cellOf ρ1 i = some d → Cell X.K F1 H1 l d := fun r h => (r.cellAt h (r.bor i l List.mem_cons_self).2).2.2
      have c0 := cellL rp1 (cell_ref (set_at (List.getElem?_eq_some_iff.mp q1).1))
      obtain ⟨xs0, hx0, _⟩ := c0
      refine ⟨.ref l, hσ, l, rfl, ⟨xs0, SqL.of hx0⟩, ?_⟩
      refine ⟨fun j m σ H => ∃ F1 ρ1, Ex F F1 ∧ Rep X.K G ((i, l) :: B) F1 H ρ1 σ ∧ loopO t i s1 m j ρ1 = some o1, ⟨_, F, _, Ex.refl F, rp1, q2⟩, fun j m σ H ⟨F1, ρ1, e1, rp2, q3⟩ => ?_⟩
      cases m with
      | zero => cases q3
      | succ m =>
        unfold loopO at q3
        split at q3
        · rename_i ds1 q4
          obtain ⟨xs, hx, rs⟩ := cellL rp2 q4
          split at q3
          · rename_i q5
            cases q3
            refine .inl ⟨⟨xs, SqL.of hx, ?_⟩, z1 σ F1 H e1 rp2⟩
            rw [rs.len]
            exact List.getElem?_eq_none_iff.mp q5
          · rename_i d q5
            obtain ⟨v, hv5, rv⟩ := rs.get q5
            refine .inr ⟨⟨xs, v, SqL.of hx, hv5⟩, fun σ' H' => ∃ F1 ρ1, Ex F F1 ∧ Rep X.K G ((i, l) :: B) F1 H' ρ1 σ' ∧ loopO t i s1 m (j + 1) ρ1 = some o1, fun σ' H' h => ⟨m, Nat.lt_succ_self m, h⟩, fun x H' y => ?_⟩
            obtain ⟨rfl, y⟩ := y
            have ey := y xs (SqL.of hx)
            rw [hv5] at ey
            cases ey
            split at q3
            · cases q3
            · rename_i ρ2 q6
              refine ⟨G, (i, l) :: B, F1, ρ1, d, ρ2, rp2, rv, q6, fun σ2 _ rp3 => ?_⟩
              split at q3
              · rename_i ρ3 q7
                exact ⟨G, (i, l) :: B, F1, ρ2, _, rp3, q7, fun σ3 F3 H3 e3 rp4 => ⟨F3, ρ3, e1.trans e3, rp4, q3⟩⟩
              · rename_i ρ3 q7
                exact ⟨G, (i, l) :: B, F1, ρ2, _, rp3, q7, fun σ3 F3 H3 e3 rp4 => ⟨F3, ρ3, e1.trans e3, rp4, q3⟩⟩
              · rename_i ρ3 q7
                cases q3
                exact ⟨G, (i, l) :: B, F1, ρ2, _, rp3, q7, fun σ3 F3 H3 e3 rp4 => z1 σ3 F3 H3 (e1.trans e3) rp4⟩
              · rename_i r ρ3 q7
                cases q3
                exact ⟨G, (i, l) :: B, F1, ρ2, _, rp3, q7, fun σ3 v F3 H3 e3 rp4 rr => z1 σ3 v F3 H3 (e1.trans e3) rp4 rr⟩
              · cases q3
        · cases q3
    · cases ef
end Ev
/-! Ev22 -/
namespace Ev
open PySem PySem.Spec PyProof.Rows L2
theorem code_of {K : Frag} {x qual : Str} {params : Arguments} {body : List Stmt} {scope : Scope} {dvs : List V} {kws : List (Str × V)} {p : He.Defn} {fd : FuncData} (F : FunD K x qual params body scope dvs kws (He.fAd K p) fd) : fd.code = .ref (He.cT K p).1 := by
  obtain ⟨oc, od, dV, kV, doc, pm, an, cdv, ct, osl, rfl, lk, hcd, _, _⟩ := F.ex
  obtain ⟨c, rfl⟩ := He.codeIn_ref hcd
  show Value.ref c = .ref (He.codeOf K p)
  rw [He.codeOf_eq lk rfl]
theorem tab_of {base : Heap} {mg : Str → Option Value} {c P : Addr} (t : LamX.TabB base mg c P) : GxR.TabB base mg c P := ⟨t.code, t.bm, t.gP⟩
theorem start_repT [Tabs] {K : Frag} {H : Hp} {a : Addr} {ns : List Int} (hT : ∀ P, P ∈ Tabs.l → H P = some (.tbl #[])) (hS : SqL K H a (ns.map V.int)) : ∃ F, Rep K (fun _ => none) [] F H (inE [false] [.rol (ns.map D.int)]) ([.ref a].map some) := by
  have hc : ∀ i d, cellOf (inE [false] [D.rol (ns.map D.int)]) i = some d → False := fun i d h => by
    match i with
    | 0 => cases h
    | i + 1 => cases h
  have at_ : ∀ (b : Addr) (o : HO), (if b ∈ Tabs.l then none else H b) = some o → b ∉ Tabs.l ∧ H b = some o := fun b o h => by
    split at h
    · cases h
    · rename_i z
      exact ⟨z, h⟩
  have ne : ∀ (o : HO), H a = some o → o ≠ .tbl #[] → a ∉ Tabs.l := fun o h z q => by
    rw [hT a q] at h
    cases h
    exact z rfl
  refine ⟨fun b => if b ∈ Tabs.l then none else H b, { len := rfl, exF := fun b o h => (at_ b o h).2, exG := (fun a o h => nomatch h), dis := (fun a o h => rfl), val := (fun i d h => ?_), own := (fun i d h => (hc i d h).elim), sep := (fun i j d e l h _ _ _ => (hc i d h).elim), bor := (fun i l h => nomatch h), tab := fun P hP => ⟨⟨#[], hT P hP, trivial⟩, if_pos hP, rfl⟩ }⟩
  match i with
  | 0 =>
    cases h
    refine ⟨.ref a, rfl, .rol ?_ Rs.ints⟩
    rcases hS with (h | ⟨o, h⟩) | h
    · exact .inl (.inl ((if_neg (ne _ h (fun z => by cases z))).trans h))
    · exact .inl (.inr ⟨o, (if_neg (ne _ h (fun z => by cases z))).trans h⟩)
    · exact .inr h
  | i + 1 => cases h
end Ev
/-! LedHook -/
namespace LedHook
open PySem PySem.Spec PyProof.Rows L2 He Ev LedRun
variable [Tabs]
def strsV : List Value → Option (List Str)
  | [] => some []
  | .str x _ :: l => (strsV l).map (x :: ·)
  | _ => none
def tupS (K : PySem.W.Frag) (a : Addr) : Option (List Str) := match K.lookup a with
  | some ⟨.type c, _, .seq its _, _⟩ => (match decide (c = "tuple") && decide (its.size ≤ sizeLine) with
    | true => strsV its.toList
    | false => none)
  | _ => none
def entW (K : PySem.W.Frag) (e : DictEntry) : Option (Int × List Str × List Str) := match e.key, e.val with
  | .ref ka, .ref va => (match tupS K ka, tupS K va with
    | some ks, some vs => some (e.hash, ks, vs)
    | _, _ => none)
  | _, _ => none
def ledW (K : PySem.W.Frag) (a : Addr) : Option (List (Option (Int × List Str × List Str))) := match K.lookup a with
  | some ⟨.type c, none, .dict es _, sl⟩ => (match decide (c = "dict") && sl.isEmpty with
    | true => some (es.toList.map (entW K))
    | false => none)
  | _ => none
def ledIn (w : World) (P : Program) (tab : List P2) : List (Option (Int × List Str × List Str)) := tab.map fun p => some (hsh w P p.1, p.1, p.2)
section
variable {P : Program} {w : World} {K : PySem.W.Frag}
theorem strsV_ok (P : Program) (w : World) : ∀ {l : List Value} {ks : List Str}, strsV l = some ks → ItemsAre (PySem.strKind P w) ks l ∧ Vals (ks.map V.str) l
  | [], ks, h => by cases h; exact ⟨.nil, .nil⟩
  | v :: l, ks, h => by
    cases v <;> try cases h
    rename_i x t
    obtain ⟨zs, a, b⟩ := Option.map_eq_some_iff.mp (show (strsV l).map (x :: ·) = some ks from h)
    subst b
    obtain ⟨i, v⟩ := strsV_ok P w a
    exact ⟨.cons (strKind_is P w x t) i, .cons ⟨t, rfl⟩ v⟩
theorem tupS_ok {a : Addr} {ks : List Str} (h : tupS K a = some ks) : (∀ hp : Heap, K.In hp → (knd P w).is hp ks a) ∧ ∀ F : Hp, R K F (.ref a) (.tup (ks.map D.str)) := by
  unfold tupS at h
  cases q : K.lookup a with
  | none => rw [q] at h; cases h
  | some o =>
    obtain ⟨oc, od, dt, osl⟩ := o
    rw [q] at h
    cases oc with
    | type c =>
      cases dt with
      | seq its n =>
        have h' : (match decide (c = "tuple") && decide (its.size ≤ sizeLine) with
          | true => strsV its.toList
          | false => none) = some ks := h
        clear h; have h := h'
        cases z : decide (c = "tuple") && decide (its.size ≤ sizeLine) with
        | false => rw [z] at h; cases h
        | true =>
          rw [z] at h
          obtain ⟨z1, z2⟩ := ba z
          have e1 : c = "tuple" := of_decide_eq_true z1
          subst e1
          have h : strsV its.toList = some ks := h
          obtain ⟨i, v⟩ := strsV_ok P w h
          exact ⟨fun hp X => ⟨_, its, n, X _ _ q, rfl, rfl, i⟩, fun F => .tup (.inr ⟨_, its, n, q, rfl, rfl, of_decide_eq_true z2, v⟩) Rs.strs⟩
      | _ => cases h
    | _ => cases dt <;> cases h
theorem entW_ok {e : DictEntry} {i : Int} {ks vs : List Str} (h : entW K e = some (i, ks, vs)) : ∃ ka va, e = ⟨i, .ref ka, .ref va⟩ ∧ tupS K ka = some ks ∧ tupS K va = some vs := by
  obtain ⟨eh, ek, ev⟩ := e
  unfold entW at h
  cases ek <;> try cases h
  cases ev <;> try cases h
  rename_i ka va
  have h : (match tupS K ka, tupS K va with
    | some ks, some vs => some (eh, ks, vs)
    | _, _ => none) = some (i, ks, vs) := h
  cases q1 : tupS K ka with
  | none => rw [q1] at h; cases h
  | some ks1 =>
    cases q2 : tupS K va with
    | none => rw [q1, q2] at h; cases h
    | some vs1 =>
      rw [q1, q2] at h
      cases h
      exact ⟨ka, va, rfl, q1, q2⟩
def dTab (tab : List P2) : List (List Str × D) := tab.map fun p => (p.1, D.tup (p.2.map D.str))
theorem ents_of : ∀ (l : List DictEntry) (tab : List P2), l.map (entW K) = ledIn w P tab → ∃ xs : List (List Str × Addr × Value), l = xs.map (entryOfKey (knd P w)) ∧ xs.map (·.1) = tab.map (·.1) ∧ (∀ x ∈ xs, ∀ h : Heap, K.In h → (knd P w).is h x.1 x.2.1) ∧
    ∀ z d, (dTab tab).lookup z = some d → ∃ va, (atKey xs z).map (·.2) = some va ∧ ∃ v, RelV v va ∧ ∀ F : Hp, R K F v d
  | [], [], _ => ⟨[], rfl, rfl, fun x hx => absurd hx (by simp), fun z d e => by cases e⟩
  | [], _ :: _, h => by cases h
  | _ :: _, [], h => by cases h
  | e :: l, p :: tab, h => by
    have h : entW K e :: l.map (entW K) = some (hsh w P p.1, p.1, p.2) :: ledIn w P tab := h
    injection h with h1 h2
    obtain ⟨ka, va, rfl, k1, k2⟩ := entW_ok h1
    obtain ⟨xs, a1, a2, a3, a4⟩ := ents_of l tab h2
    refine ⟨(p.1, ka, .ref va) :: xs, by rw [a1]; rfl, by rw [List.map_cons, List.map_cons, a2], fun x hx => ?_, fun z d e => ?_⟩
    · rcases List.mem_cons.mp hx with hx | hx
      · subst hx
        exact (tupS_ok k1).1
      · exact a3 x hx
    · have e : List.lookup z ((p.1, D.tup (p.2.map D.str)) :: dTab tab) = some d := e
      rw [List.lookup_cons] at e
      unfold atKey
      rw [List.find?_cons]
      by_cases hz : p.1 = z
      · subst hz
        rw [beq_self_eq_true] at e
        have e : D.tup (p.2.map D.str) = d := Option.some.inj e
        subst e
        rw [show (decide ((p.1, ka, Value.ref va).1 = p.1)) = true from decide_eq_true rfl]
        exact ⟨.ref va, rfl, .ref va, rfl, (tupS_ok (P := P) (w := w) k2).2⟩
      · have hb : (z == p.1) = false := beq_eq_false_iff_ne.mpr fun y => hz y.symm
        rw [hb] at e
        rw [show (decide ((p.1, ka, Value.ref va).1 = z)) = false from decide_eq_false hz]
        exact a4 z d e
theorem ledW_ok {a : Addr} {tab : List P2} (hn : (tab.map (·.1)).Nodup) (h : ledW K a = some (ledIn w P tab)) : KLed P w K a (dTab tab) := by
  unfold ledW at h
  cases q : K.lookup a with
  | none => rw [q] at h; cases h
  | some o =>
    obtain ⟨oc, od, dt, osl⟩ := o
    rw [q] at h
    cases oc with
    | type c =>
      cases od with
      | none =>
        cases dt with
        | dict es n =>
          have h : (match decide (c = "dict") && osl.isEmpty with
            | true => some (es.toList.map (entW K))
            | false => none) = some (ledIn w P tab) := h
          cases z : decide (c = "dict") && osl.isEmpty with
          | false => rw [z] at h; cases h
          | true =>
            rw [z] at h
            obtain ⟨z1, z2⟩ := ba z
            have e1 : c = "dict" := of_decide_eq_true z1
            have e2 : osl = #[] := Array.isEmpty_iff.mp z2
            subst e1 e2
            obtain ⟨xs, a1, a2, a3, a4⟩ := ents_of _ _ (Option.some.inj h)
            exact ⟨xs, es, n, q, fun hp X => ⟨_, es, n, X _ _ q, ⟨rfl, rfl, rfl⟩, rfl, a1, fun x hx => a3 x hx hp X, by rw [a2]; exact hn⟩, a4⟩
        | _ => cases h
      | some b => cases dt <;> cases h
    | _ => cases od <;> cases dt <;> cases h
/-- a table by texts -/
theorem ktab_of {a : Addr} {es : Array DictEntry} {n : Nat} {kvs : List (Str × Str)} (k : KDict K w a es n) (h : valsB K a (kvs.map fun p => (p.1, Dv.str p.2)) = true) : KTab K w a (kvs.map fun p => (p.1, D.str p.2)) := by
  intro z d e
  have hm : ∀ {l : List (Str × Str)}, (l.map fun p => (p.1, D.str p.2)).lookup z = some d → ∃ y, (z, y) ∈ l ∧ d = .str y := by
    intro l
    induction l with
    | nil => intro e; cases e
    | cons p l ih =>
      intro e
      rw [List.map_cons, List.lookup_cons] at e
      by_cases hz : z = p.1
      · subst hz
        rw [beq_self_eq_true] at e
        cases e
        exact ⟨p.2, List.mem_cons_self, rfl⟩
      · rw [beq_eq_false_iff_ne.mpr hz] at e
        obtain ⟨y, a, b⟩ := ih e
        exact ⟨y, List.mem_cons_of_mem _ a, b⟩
  obtain ⟨y, hy, rfl⟩ := hm e
  obtain ⟨u, a1, a2⟩ := valsB_ok h (List.mem_map.mpr ⟨(z, y), hy, rfl⟩)
  exact ⟨.str y, ⟨es, n, u, k.at_, k.lit, a1, a2⟩, fun F => .str y⟩
theorem tup_of {h : Heap} {mg : Str → Option Value} (X : K.In h) (G : h.Ns mainGlobals mg) {x : Str} {l : List Str} (g : (Fa.glo x).ok K = true) (t : tupB K x (l.map Dv.str) = true) : ∃ (v : V) (u : Value), mg x = some u ∧ RelV v u ∧ ∀ F : Hp, R K F v (.tup (l.map D.str)) := by
  refine ⟨.ref (ga K x), .ref (ga K x), glo_ok X G g, rfl, fun F => .tup (tupB_ok t F) ?_⟩
  rw [List.map_map]
  exact Rs.strs
end
abbrev AlL : Type := AlT × Bool × Option (List (Option (Int × List Str × List Str)))
def obsL (fa : List He.Fa) (fn : List DefD) (ts : List Tab) (bb : PySem.W.Frag → Bool) (x : Str) (K : PySem.W.Frag) : AlL := (obsT fa fn ts K, bb K, ledW K (ga K x))
def valL (P : Program) (fn : List DefD) (ts : List Tab) (tab : List P2) (w : World) : AlL := (valT fn ts w, true, some (ledIn w P tab))
def SaysL (P : Program) (fa : List He.Fa) (fn : List DefD) (ts : List Tab) (bb : PySem.W.Frag → Bool) (x : Str) (tab : List P2) (w : World) (K : PySem.W.Frag) : Prop := obsL fa fn ts bb x K = valL P fn ts tab w
def asL (n : Nat) (x : Str) (g : Addr → Option Obj) : List Addr := asD g n ++ match g (ga (frG g [mainGlobals]) x) with
  | some o => (match o.data with
    | .dict es _ => es.toList.flatMap fun e => refV e.key
    | _ => [])
  | none => []
def obsLG (n : Nat) (fa : List He.Fa) (fn : List DefD) (ts : List Tab) (bb : PySem.W.Frag → Bool) (x : Str) (g : Addr → Option Obj) : AlL := obsL fa fn ts bb x (frG g (asL n x g))
def YL (P : Program) (fa : List He.Fa) (fn : List DefD) (ts : List Tab) (bb : PySem.W.Frag → Bool) (x : Str) (tab : List P2) (w : World) (h : Heap) : Prop := ∃ K : PySem.W.Frag, K.In h ∧ SaysL P fa fn ts bb x tab w K
theorem yl_keep {P : Program} {fa : List He.Fa} {fn : List DefD} {ts : List Tab} {bb : PySem.W.Frag → Bool} {x : Str} {tab : List P2} : ∀ w h h', YL P fa fn ts bb x tab w h → (∀ b o, h.get? b = some o → h'.get? b = some o) → YL P fa fn ts bb x tab w h' := fun _ _ _ ⟨K, hK, c⟩ k => ⟨K, PySem.W.Frag.In.keeps hK k, c⟩
theorem obsLG_eq {n : Nat} {fa : List He.Fa} {fn : List DefD} {ts : List Tab} {bb : PySem.W.Frag → Bool} {x : Str} {g : Addr → Option Obj} {s : Shared} (h : ∀ a, g a = s.heap.get? a) : obsLG n fa fn ts bb x g = obsLG n fa fn ts bb x s.heap.get? := by
  have e : g = s.heap.get? := funext h
  rw [e]
/-- the keys and values of a display, written out -/
def okAll : List (Option Expr) → List Expr → List P2 → Bool
  | [], [], [] => true
  | some k :: ks, v :: vs, p :: l => isTup k p.1 && (isTup v p.2 && okAll ks vs l)
  | _, _, _ => false
theorem mkAll {prog : Program} {w : World} {env : Env} {dpos : Pos} : ∀ (keys : List (Option Expr)) (values : List Expr) (l : List P2), okAll keys values l = true →
    ∃ ts : List (Sem Value × Sem Value), ((evalEachOpt keys env).zip ((evalEach values env).map fun v => do let x ← v; standAt dpos; pure x)) = (ts.map fun p => (some p.1, p.2)) ∧ MkP prog w ts l
  | [], [], [], _ => ⟨[], rfl, trivial⟩
  | some k :: ks, v :: vs, p :: l, h => by
    obtain ⟨h1, h2⟩ := ba (show (isTup k p.1 && (isTup v p.2 && okAll ks vs l)) = true from h)
    obtain ⟨h2, h3⟩ := ba h2
    obtain ⟨ts, e, m⟩ := mkAll (prog := prog) (w := w) (env := env) (dpos := dpos) ks vs l h3
    refine ⟨(eval k env, do let x ← eval v env; standAt dpos; pure x) :: ts, ?_, mk_tup h1, mk_then (mk_tup h2), m⟩
    rw [List.map_cons, ← e]
    rfl
  | none :: _, _, _, h => by cases h
  | some _ :: _, [], _, h => by cases h
  | some _ :: _, _ :: _, [], h => by cases h
  | [], _ :: _, _, h => by cases h
  | [], [], _ :: _, h => by cases h
end LedHook
/-! LedHook2 -/
namespace LedHook
open PySem PySem.Spec PyProof.Rows L2 He Ev LedRun
abbrev AlY : Type := AlL × Bool
def fragY (n : Nat) (x : Str) (g : Addr → Option Obj) : PySem.W.Frag := frT g (asL n x g)
def obsY (n : Nat) (fa : List He.Fa) (fn : List DefD) (ts : List Tab) (bb : PySem.W.Frag → Bool) (x : Str) (tf : List Defn) (g : Addr → Option Obj) : AlY := (obsL fa fn ts bb x (fragY n x g), tabsB g tf (fragY n x g))
def valY (P : Program) (fn : List DefD) (ts : List Tab) (tab : List P2) (w : World) : AlY := (valL P fn ts tab w, true)
/-- what is known of the tables -/
structure TabsY (tf : List Defn) (h : Heap) (K : PySem.W.Frag) : Prop where
  hd : ∀ p ∈ tf, PySem.W.codeHdIn K (cT K p).1 (cT K p).2 = true
  out : ∀ p ∈ tf, K.lookup (cT K p).2 = none
  empty : ∀ p ∈ tf, h.get? (cT K p).2 = some { cls := .none, data := .fields #[] }
def YLY (P : Program) (fa : List He.Fa) (fn : List DefD) (ts : List Tab) (bb : PySem.W.Frag → Bool) (x : Str) (tab : List P2) (tf : List Defn) (w : World) (h : Heap) : Prop := ∃ K : PySem.W.Frag, K.In h ∧ SaysL P fa fn ts bb x tab w K ∧ TabsY tf h K
theorem yly_keep {P : Program} {fa : List He.Fa} {fn : List DefD} {ts : List Tab} {bb : PySem.W.Frag → Bool} {x : Str} {tab : List P2} {tf : List Defn} : ∀ w h h', YLY P fa fn ts bb x tab tf w h → (∀ b o, h.get? b = some o → h'.get? b = some o) → YLY P fa fn ts bb x tab tf w h' :=
  fun _ _ _ ⟨K, hK, c, t⟩ k => ⟨K, PySem.W.Frag.In.keeps hK k, c, t.hd, t.out, fun p hp => k _ _ (t.empty p hp)⟩
theorem obsY_eq {n : Nat} {fa : List He.Fa} {fn : List DefD} {ts : List Tab} {bb : PySem.W.Frag → Bool} {x : Str} {tf : List Defn} {g : Addr → Option Obj} {s : Shared} (h : ∀ a, g a = s.heap.get? a) : obsY n fa fn ts bb x tf g = obsY n fa fn ts bb x tf s.heap.get? := by
  have e : g = s.heap.get? := funext h
  rw [e]
theorem yly_of {P : Program} {n : Nat} {fa : List He.Fa} {fn : List DefD} {ts : List Tab} {bb : PySem.W.Frag → Bool} {x : Str} {tab : List P2} {tf : List Defn} {w : World} {h : Heap} (e : obsY n fa fn ts bb x tf h.get? = valY P fn ts tab w) : YLY P fa fn ts bb x tab tf w h := by
  have e1 : obsL fa fn ts bb x (fragY n x h.get?) = valL P fn ts tab w := congrArg (fun z : AlY => z.1) e
  have e2 : tabsB h.get? tf (fragY n x h.get?) = true := congrArg (fun z : AlY => z.2) e
  have key : ∀ p ∈ tf, PySem.W.codeHdIn (fragY n x h.get?) (cT (fragY n x h.get?) p).1 (cT (fragY n x h.get?) p).2 = true ∧ ∃ o, h.get? (cT (fragY n x h.get?) p).2 = some o ∧ emptyTab o = true := fun p hp => by
    obtain ⟨h3, h4⟩ := ba (List.all_eq_true.mp e2 p hp)
    refine ⟨h3, ?_⟩
    split at h4
    · rename_i o q
      exact ⟨o, q, h4⟩
    · cases h4
  refine ⟨fragY n x h.get?, frT_in, e1, fun p hp => (key p hp).1, fun p hp => ?_, fun p hp => ?_⟩
  · obtain ⟨_, o, q, z⟩ := key p hp
    exact frT_none q z
  · obtain ⟨_, o, q, z⟩ := key p hp
    rw [q, emptyTab_eq z]
end LedHook
/-! Run -/
namespace Ev
open PySem PySem.Spec PyProof.Rows L2
section
variable {ρ ρ1 ρ2 ρ3 : EnvD} {o : Out} {f g : Fs} {i : Nat}
theorem r_seq (h1 : f ρ = some (.nx ρ1)) (h2 : g ρ1 = some o) : seqF f g ρ = some o := by
  unfold seqF
  rw [h1]
  exact h2
theorem r_set {e : Fe} {r : Re} (h : e ρ = some (r, ρ1)) (hr : isRef ρ1 i = false) : setF i e ρ = some (.nx (ρ1.set i (slOf r))) := by
  unfold setF
  rw [h]
  show (if isRef ρ1 i = true then none else some (Out.nx (ρ1.set i (slOf r)))) = _
  rw [hr]
  rfl
theorem r_ift {c : Fb} (h : c ρ = some (true, ρ1)) (h2 : f ρ1 = some o) : ifF c f g ρ = some o := by
  unfold ifF
  rw [h]
  exact h2
theorem r_iff {c : Fb} (h : c ρ = some (false, ρ1)) (h2 : g ρ1 = some o) : ifF c f g ρ = some o := by
  unfold ifF
  rw [h]
  exact h2
theorem r_drop {e : Fe} {r : Re} (h : e ρ = some (r, ρ1)) : dropF e ρ = some (.nx ρ1) := by
  unfold dropF
  rw [h]
  rfl
theorem r_frz {e : Fe} {r : Re} {d : D} (h : e ρ = some (r, ρ1)) (hd : r.d = d) : frzF e ρ = some (d, ρ1) := by
  unfold frzF
  rw [h, ← hd]
  rfl
theorem r_ov {e : Fv} {d : D} (h : e ρ = some (d, ρ1)) : ovF e ρ = some (.v d, ρ1) := by
  unfold ovF
  rw [h]
  rfl
theorem r_cons {e : Fv} {l : Fl} {d : D} {ds : List D} (h : e ρ = some (d, ρ1)) (h2 : l ρ1 = some (ds, ρ2)) : consF e l ρ = some (d :: ds, ρ2) := by
  unfold consF
  rw [h]
  show (match l ρ1 with
    | some (ds, ρ2) => some (d :: ds, ρ2)
    | none => none) = _
  rw [h2]
theorem r_mut {T : String} {gm : MutD} {k : Nat} {fl : Fl} {c0 c res c' : D} {ds : List D} (h0 : Ev.cellOf ρ k = some c0) (hk : kindC T c0 = true) (h1 : fl ρ = some (ds, ρ1)) (h2 : Ev.cellOf ρ1 k = some c) (h3 : gm c ds = some (res, c')) : mutE T gm k fl ρ = some (.val res, setC ρ1 k c') := by
  unfold mutE
  rw [h0]
  show (if kindC T c0 = true then _ else none) = _
  rw [if_pos hk, h1]
  show (match Ev.cellOf ρ1 k with
    | some c => (gm c ds).map fun (x : D × D) => (Re.val x.1, setC ρ1 k x.2)
    | none => none) = _
  rw [h2]
  show (gm c ds).map (fun (x : D × D) => (Re.val x.1, setC ρ1 k x.2)) = _
  rw [h3]
  rfl
theorem r_op2 {g : Op2} {a b : Fv} {x y : D} {r : Re} (h1 : a ρ = some (x, ρ1)) (h2 : b ρ1 = some (y, ρ2)) (h3 : g x y = some r) : op2E g a b ρ = some (r, ρ2) := by
  unfold op2E
  rw [h1]
  show (match b ρ1 with
    | some (y, ρ2) => (match g x y with
      | some r => some (r, ρ2)
      | none => none)
    | none => none) = _
  rw [h2]
  show (match g x y with
      | some r => some (r, ρ2)
      | none => none) = _
  rw [h3]
theorem r_ix {g : D → D → Option D} {fo : Fo} {fv : Fv} {a : AD} {x y d : D} (h1 : fo ρ = some (a, ρ1)) (h2 : fv ρ1 = some (y, ρ2)) (h3 : lookA ρ2 a = some x) (h4 : g x y = some d) : ixE g fo fv ρ = some (.val d, ρ2) := by
  unfold ixE
  rw [h1]
  show (match fv ρ1 with
    | some (y, ρ2) => (match lookA ρ2 a with
      | some x => (g x y).map fun d => (Re.val d, ρ2)
      | none => none)
    | none => none) = _
  rw [h2]
  show (match lookA ρ2 a with
      | some x => (g x y).map fun d => (Re.val d, ρ2)
      | none => none) = _
  rw [h3]
  show (g x y).map (fun d => (Re.val d, ρ2)) = _
  rw [h4]
  rfl
theorem r_look2 {fa fb : Fo} {a b : AD} {x y : D} (h1 : fa ρ = some (a, ρ1)) (h2 : fb ρ1 = some (b, ρ2)) (h3 : lookA ρ2 a = some x) (h4 : lookA ρ2 b = some y) : look2 fa fb ρ = some (x, y, ρ2) := by
  unfold look2
  rw [h1]
  show (match fb ρ1 with
    | some (b, ρ2) => (match lookA ρ2 a, lookA ρ2 b with
      | some x, some y => some (x, y, ρ2)
      | _, _ => none)
    | none => none) = _
  rw [h2]
  show (match lookA ρ2 a, lookA ρ2 b with
      | some x, some y => some (x, y, ρ2)
      | _, _ => none) = _
  rw [h3, h4]
theorem r_cmpT {g : OpB} {fa fb : Fo} {a b : AD} {x y : D} {v : Bool} (h1 : fa ρ = some (a, ρ1)) (h2 : fb ρ1 = some (b, ρ2)) (h3 : lookA ρ2 a = some x) (h4 : lookA ρ2 b = some y) (h5 : g x y = some v) : cmpT g fa fb ρ = some (v, ρ2) := by
  unfold cmpT
  rw [r_look2 h1 h2 h3 h4]
  show (g x y).map (fun b => (b, ρ2)) = _
  rw [h5]
  rfl
theorem r_cmpE {g : OpB} {fa fb : Fo} {a b : AD} {x y : D} {v : Bool} (h1 : fa ρ = some (a, ρ1)) (h2 : fb ρ1 = some (b, ρ2)) (h3 : lookA ρ2 a = some x) (h4 : lookA ρ2 b = some y) (h5 : g x y = some v) : cmpE g fa fb ρ = some (.val (.bl v), ρ2) := by
  unfold cmpE
  rw [r_look2 h1 h2 h3 h4]
  show (g x y).map (fun b => (Re.val (.bl b), ρ2)) = _
  rw [h5]
  rfl
theorem r_andT {p q : Fb} {v : Bool} (h1 : p ρ = some (true, ρ1)) (h2 : q ρ1 = some (v, ρ2)) : andF p q ρ = some (v, ρ2) := by
  unfold andF
  rw [h1]
  exact h2
theorem r_andF {p q : Fb} (h1 : p ρ = some (false, ρ1)) : andF p q ρ = some (false, ρ1) := by
  unfold andF
  rw [h1]
theorem r_orT {p q : Fb} (h1 : p ρ = some (true, ρ1)) : orF p q ρ = some (true, ρ1) := by
  unfold orF
  rw [h1]
theorem r_orF {p q : Fb} {v : Bool} (h1 : p ρ = some (false, ρ1)) (h2 : q ρ1 = some (v, ρ2)) : orF p q ρ = some (v, ρ2) := by
  unfold orF
  rw [h1]
  exact h2
theorem r_ao {fo : Fo} {fa : Fa} {a : AD} {as : List AD} (h1 : fo ρ = some (a, ρ1)) (h2 : fa ρ1 = some (as, ρ2)) : aoF fo fa ρ = some (a :: as, ρ2) := by
  unfold aoF
  rw [h1]
  show (match fa ρ1 with
    | some (as, ρ2) => some (a :: as, ρ2)
    | none => none) = _
  rw [h2]
theorem r_opL {g : OpL} {fa : Fa} {as : List AD} {ds : List D} {r : Re} (h1 : fa ρ = some (as, ρ1)) (h2 : lookAs ρ1 as = some ds) (h3 : g ds = some r) : opLE g fa ρ = some (r, ρ1) := by
  unfold opLE
  rw [h1]
  show (match lookAs ρ1 as with
    | some ds => (g ds).map fun r => (r, ρ1)
    | none => none) = _
  rw [h2]
  show (g ds).map (fun r => (r, ρ1)) = _
  rw [h3]
  rfl
theorem r_rng {rd : List D → Option (List D)} {t : Tg} {it : Fl} {ds l : List D} (h1 : it ρ = some (ds, ρ1)) (h2 : rd ds = some l) (h3 : loopF t f l ρ1 = some o) : rngF rd t it f ρ = some o := by
  unfold rngF
  rw [h1]
  show (match rd ds with
    | some l => loopF t f l ρ1
    | none => none) = _
  rw [h2]
  exact h3
theorem r_for {t : Tg} {it : Fv} {d : D} {l : List D} (h1 : it ρ = some (d, ρ1)) (h2 : itemsOf d = some l) (h3 : loopF t f l ρ1 = some o) : forF t it f ρ = some o := by
  unfold forF
  rw [h1]
  show (match itemsOf d with
    | some l => loopF t f l ρ1
    | none => none) = _
  rw [h2]
  exact h3
end
theorem flats_strs : ∀ l : List Str, toFlats (l.map D.str) = some (l.map V.str)
  | [] => rfl
  | x :: l => by
    rw [List.map_cons, List.map_cons]
    unfold toFlats
    rw [flats_strs l]
    rfl
theorem in_strs {x : Str} {l : List Str} {neg : Bool} {d : D} (hd : itemsOf d = some (l.map D.str)) : bIn2 neg (.str x) d = some (if neg then !l.contains x else l.contains x) := by
  have e : bInF neg (.str x) d = some (if neg then !l.contains x else l.contains x) := by
    unfold bInF
    rw [hd]
    show (match toFlats (l.map D.str) with
      | some vs => some (if neg then !inV (.str x) vs else inV (.str x) vs)
      | none => none) = _
    rw [flats_strs]
    have e2 : inV (.str x) (l.map V.str) = l.contains x := Gx.any_in x l
    show some (if neg then !inV (.str x) (l.map V.str) else inV (.str x) (l.map V.str)) = _
    rw [e2]
  unfold bIn2 bIn
  rw [e]
  rfl
theorem lineN {n : Nat} (h : n ≤ 10000) : isLine n = true := decide_eq_true (Nat.le_trans h (by rw [sizeLine_eq]; decide))
theorem add_strs {x y : Str} (h : x.length + y.length ≤ 10000) : gAdd (.str x) (.str y) = some (.val (.str (x ++ y))) := by
  simp [gAdd, gAddI, gAddS, gAddL, gAddT, gI, gS, lineN h]
theorem add_lsts {x y : List D} (h : x.length + y.length ≤ 10000) : gAdd (.lst x) (.lst y) = some (.new (.lst (x ++ y))) := by
  simp [gAdd, gAddI, gAddS, gAddL, gAddT, gI, gS, lineN h]
theorem append_at {l : List D} {d : D} (h : l.length ≤ 10000) : gAppend (.lst l) [d] = some (.non, .lst (l ++ [d])) := by
  have : l.length < sizeLine := Nat.lt_of_le_of_lt h (by rw [sizeLine_eq]; decide)
  simp [gAppend, this]
end Ev
/-! G02 -/
namespace G02
open PySem PySem.Spec PyProof.Rows L2 Ev Gx
variable [Tabs]
abbrev PG : Program := PySem.Challenge.pw_regionsay_k02_what_leads_to_what
def ways : D := .tup (["apart", "meets", "over", "same", "inrim", "incore", "hasrim", "hascore"].map fun x => D.str (Str.ofString x))
def turns : List (Str × D) := [("apart", "apart"), ("meets", "meets"), ("over", "over"), ("same", "same"), ("inrim", "hasrim"), ("incore", "hascore"), ("hasrim", "inrim"), ("hascore", "incore")].map fun p => (Str.ofString p.1, D.str (Str.ofString p.2))
def ledT : List (List Str × D) := ([(["apart", "apart"], ["apart", "meets", "over", "same", "inrim", "incore", "hasrim", "hascore"]), (["apart", "meets"], ["apart", "meets", "over", "inrim", "incore"]), (["apart", "over"], ["apart", "meets", "over", "inrim", "incore"]), (["apart", "same"], ["apart"]), (["apart", "inrim"], ["apart", "meets", "over", "inrim", "incore"]), (["apart", "incore"], ["apart", "meets", "over", "inrim", "incore"]), (["apart", "hasrim"], ["apart"]), (["apart", "hascore"], ["apart"]), (["meets", "apart"], ["apart", "meets", "over", "hasrim", "hascore"]), (["meets", "meets"], ["apart", "meets", "over", "same", "inrim", "hasrim"]), (["meets", "over"], ["apart", "meets", "over", "inrim", "incore"]), (["meets", "same"], ["meets"]), (["meets", "inrim"], ["meets", "over", "inrim", "incore"]), (["meets", "incore"], ["over", "inrim", "incore"]), (["meets", "hasrim"], ["apart", "meets"]), (["meets", "hascore"], ["apart"]), (["over", "apart"], ["apart", "meets", "over", "hasrim", "hascore"]), (["over", "meets"], ["apart", "meets", "over", "hasrim", "hascore"]), (["over", "over"], ["apart", "meets", "over", "same", "inrim", "incore", "hasrim", "hascore"]), (["over", "same"], ["over"]), (["over", "inrim"], ["over", "inrim", "incore"]), (["over", "incore"], ["over", "inrim", "incore"]), (["over", "hasrim"], ["apart", "meets", "over", "hasrim", "hascore"]), (["over", "hascore"], ["apart", "meets", "over", "hasrim", "hascore"]), (["same", "apart"], ["apart"]), (["same", "meets"], ["meets"]), (["same", "over"], ["over"]), (["same", "same"], ["same"]), (["same", "inrim"], ["inrim"]), (["same", "incore"], ["incore"]), (["same", "hasrim"], ["hasrim"]), (["same", "hascore"], ["hascore"]), (["inrim", "apart"], ["apart"]), (["inrim", "meets"], ["apart", "meets"]), (["inrim", "over"], ["apart", "meets", "over", "inrim", "incore"]), (["inrim", "same"], ["inrim"]), (["inrim", "inrim"], ["inrim", "incore"]), (["inrim", "incore"], ["incore"]), (["inrim", "hasrim"], ["apart", "meets", "over", "same", "inrim", "hasrim"]), (["inrim", "hascore"], ["apart", "meets", "over", "hasrim", "hascore"]), (["incore", "apart"], ["apart"]), (["incore", "meets"], ["apart"]), (["incore", "over"], ["apart", "meets", "over", "inrim", "incore"]), (["incore", "same"], ["incore"]), (["incore", "inrim"], ["incore"]), (["incore", "incore"], ["incore"]), (["incore", "hasrim"], ["apart", "meets", "over", "inrim", "incore"]), (["incore", "hascore"], ["apart", "meets", "over", "same", "inrim", "incore", "hasrim", "hascore"]), (["hasrim", "apart"], ["apart", "meets", "over", "hasrim", "hascore"]), (["hasrim", "meets"], ["meets", "over", "hasrim", "hascore"]), (["hasrim", "over"], ["over", "hasrim", "hascore"]), (["hasrim", "same"], ["hasrim"]), (["hasrim", "inrim"], ["over", "same", "inrim", "hasrim"]), (["hasrim", "incore"], ["over", "inrim", "incore"]), (["hasrim", "hasrim"], ["hasrim", "hascore"]), (["hasrim", "hascore"], ["hascore"]), (["hascore", "apart"], ["apart", "meets", "over", "hasrim", "hascore"]), (["hascore", "meets"], ["over", "hasrim", "hascore"]), (["hascore", "over"], ["over", "hasrim", "hascore"]), (["hascore", "same"], ["hascore"]), (["hascore", "inrim"], ["over", "hasrim", "hascore"]), (["hascore", "incore"], ["over", "same", "inrim", "incore", "hasrim", "hascore"]), (["hascore", "hasrim"], ["hascore"]), (["hascore", "hascore"], ["hascore"])] : List (List String × List String)).map fun p => (p.1.map Str.ofString, D.tup (p.2.map fun x => D.str (Str.ofString x)))
def top (i : Nat) : Stmt := PG.main.body.getD i (.Pass ⟨0, 0, 0, 0⟩)
theorem units64 {k : Nat} {A : Around} (h : Room k A) : A.units + 64 < cLine := by have := h.un; omega
theorem units65 {k : Nat} {A : Around} (h : Room k A) : A.units + 65 < cLine := by have := h.un; omega
theorem units1 {k : Nat} {A : Around} (h : Room k A) : A.units + 1 < cLine := by have := h.un; omega
abbrev N_turned : List Str := [Str.ofString "way"]
def fb_turned : Fs := (retF (kgetE turns (frzF (varE 0))))
def fn_turned : List D → Option (Re × List D) := bodyF [false] 0 fb_turned
theorem nd_turned : (N_turned).Nodup := by decide +kernel
theorem bd_turned {CX : CXT} {P : Program} {w : World} {K : W.Frag} {mg : Str → Option Value} {base : Heap} {qual : Str} {f : Addr} {cdv : Value} {A : Around} {outer : List Env} {s : Shared} {H : Hp} {E : XK} (hr : Room 0 (A.deeper (PyProof.Rows.envOfC qual (defScope (top 4)) s.heap.objs.size f cdv))) {p_TURNED : Addr} (t_TURNED : mg (Str.ofString "TURNED") = some (.ref p_TURNED)) (k_TURNED : KTab K w p_TURNED turns) : PSs (cxOf CX0 P w K mg base N_turned qual (defScope (top 4)) f cdv A outer s H E) (defBody (top 4)) (tS K fb_turned) :=
  have hu64 := units64 hr
  have hu1 := units1 hr
  have hu65 := units65 hr
  have nd := nd_turned
  PSs.nox (es_one (es_ret (ev_kget rfl t_TURNED k_TURNED (PE.frz (ev_var (i := 0) rfl (by first | exact Or.inl rfl | exact Or.inr (Or.inl rfl) | exact Or.inr (Or.inr rfl)) rfl rfl)) (fun _ _ => rfl) rfl)))
theorem sc_turned : FnScope N_turned [Str.ofString "way"] (defScope (top 4)) := ⟨rfl, rfl, rfl, nd_turned, rfl, by decide +kernel, by decide +kernel⟩
theorem ok_turned {P : Program} {w : World} {K : W.Frag} {mg : Str → Option Value} {base : Heap} {f : Addr} {fd : FuncData} (F : FunD K (Str.ofString "turned") (Str.ofString "turned") (defArgs (top 4)) (defBody (top 4)) (defScope (top 4)) [] [] f fd) (gX : mg (Str.ofString "turned") = some (.ref f)) {p_TURNED : Addr} (t_TURNED : mg (Str.ofString "TURNED") = some (.ref p_TURNED)) (k_TURNED : KTab K w p_TURNED turns) : CallD P w K mg base 1 (Str.ofString "turned") [false] [] fn_turned :=
  ⟨f, fd, [Str.ofString "way"], [], [], fn_of F sc_turned rfl (fun cdv A outer s H E hr => bd_turned (CX := CX0) (E := E) hr (t_TURNED := t_TURNED) (k_TURNED := k_TURNED)), gX, F.kp, F.bindsN fun _ _ _ _ _ _ us hl => match us, hl with | [_], _ => rfl, .nil, fun _ => .nil⟩
abbrev N_led : List Str := [Str.ofString "one", Str.ofString "other"]
def fb_led : Fs := (retF (ledE ledT (consF (frzF (varE 0)) (consF (frzF (varE 1)) nilF))))
def fn_led : List D → Option (Re × List D) := bodyF [false, false] 0 fb_led
theorem nd_led : (N_led).Nodup := by decide +kernel
theorem bd_led {CX : CXT} {P : Program} {w : World} {K : W.Frag} {mg : Str → Option Value} {base : Heap} {qual : Str} {f : Addr} {cdv : Value} {A : Around} {outer : List Env} {s : Shared} {H : Hp} {E : XK} (hr : Room 0 (A.deeper (PyProof.Rows.envOfC qual (defScope (top 5)) s.heap.objs.size f cdv))) {p_LED : Addr} (t_LED : mg (Str.ofString "LED") = some (.ref p_LED)) (k_LED : KLed P w K p_LED ledT) : PSs (cxOf CX0 P w K mg base N_led qual (defScope (top 5)) f cdv A outer s H E) (defBody (top 5)) (tS K fb_led) :=
  have hu64 := units64 hr
  have hu1 := units1 hr
  have hu65 := units65 hr
  have nd := nd_led
  PSs.nox (es_one (es_ret (ev_led hu64 rfl t_LED k_LED (ea_cons (PE.frz (ev_var (i := 0) rfl (by first | exact Or.inl rfl | exact Or.inr (Or.inl rfl) | exact Or.inr (Or.inr rfl)) rfl rfl)) (ea_cons (PE.frz (ev_var (i := 1) rfl (by first | exact Or.inl rfl | exact Or.inr (Or.inl rfl) | exact Or.inr (Or.inr rfl)) rfl rfl)) ea_nil rfl) rfl) (fun _ _ => rfl) rfl)))
theorem sc_led : FnScope N_led [Str.ofString "one", Str.ofString "other"] (defScope (top 5)) := ⟨rfl, rfl, rfl, nd_led, rfl, by decide +kernel, by decide +kernel⟩
theorem ok_led {P : Program} {w : World} {K : W.Frag} {mg : Str → Option Value} {base : Heap} {f : Addr} {fd : FuncData} (F : FunD K (Str.ofString "led") (Str.ofString "led") (defArgs (top 5)) (defBody (top 5)) (defScope (top 5)) [] [] f fd) (gX : mg (Str.ofString "led") = some (.ref f)) {p_LED : Addr} (t_LED : mg (Str.ofString "LED") = some (.ref p_LED)) (k_LED : KLed P w K p_LED ledT) : CallD P w K mg base 1 (Str.ofString "led") [false, false] [] fn_led :=
  ⟨f, fd, [Str.ofString "one", Str.ofString "other"], [], [], fn_of F sc_led rfl (fun cdv A outer s H E hr => bd_led (CX := CX0) (E := E) hr (t_LED := t_LED) (k_LED := k_LED)), gX, F.kp, F.bindsN fun _ _ _ _ _ _ us hl => match us, hl with | [_, _], _ => rfl, .nil, fun _ => .nil⟩
abbrev N_led_choices : List Str := [Str.ofString "ones", Str.ofString "others", Str.ofString "found", Str.ofString "one", Str.ofString "other", Str.ofString "way"]
def cc_led_choices_1 : Fb := (cmpT (bIn2 false) (orefF 5) (orefF 2))
def ce_led_choices_2 : Fv := (frzF (varE 5))
def ce_led_choices_3 : Fv := (frzF (varE 5))
def ck_led_choices_4 : Fk := (emitF ce_led_choices_3)
def cl_led_choices_5 : DC := ⟨[5], (.nm 5), (frzF (ledE ledT (consF (frzF (varE 3)) (consF (frzF (varE 4)) nilF)))), yesF⟩
def ck_led_choices_6 : Fk := (loopF2 cl_led_choices_5 ck_led_choices_4)
def cl_led_choices_7 : DC := ⟨[4, 5], (.nm 4), (frzF (varE 1)), yesF⟩
def ck_led_choices_8 : Fk := (loopF2 cl_led_choices_7 ck_led_choices_6)
def cl_led_choices_9 : DC := ⟨[3, 4, 5], (.nm 3), (frzF (varE 0)), yesF⟩
def fb_led_choices : Fs := (seqF (setF 2 (lcNE cl_led_choices_9 ck_led_choices_8)) (retF (opLE gTuple (aoF (ovF (frzF (lcE [5] (.nm 5) (frzF (conE ways)) cc_led_choices_1 ce_led_choices_2))) anilF))))
def fn_led_choices : List D → Option (Re × List D) := bodyF [false, false] 4 fb_led_choices
theorem nd_led_choices : (N_led_choices).Nodup := by decide +kernel
theorem bd_led_choices {CX : CXT} {P : Program} {w : World} {K : W.Frag} {mg : Str → Option Value} {base : Heap} {qual : Str} {f : Addr} {cdv : Value} {A : Around} {outer : List Env} {s : Shared} {H : Hp} {E : XK} (hr : Room 0 (A.deeper (PyProof.Rows.envOfC qual (defScope (top 6)) s.heap.objs.size f cdv))) (b_tuple : mg (Str.ofString "tuple") = none) (c_WAYS : ∃ (v : V) (u : Value), mg (Str.ofString "WAYS") = some u ∧ RelV v u ∧ ∀ F : Hp, R K F v ways) {p_LED : Addr} (t_LED : mg (Str.ofString "LED") = some (.ref p_LED)) (k_LED : KLed P w K p_LED ledT) : PSs (cxOf CX0 P w K mg base N_led_choices qual (defScope (top 6)) f cdv A outer s H E) (defBody (top 6)) (tS K fb_led_choices) :=
  have hu64 := units64 hr
  have hu1 := units1 hr
  have hu65 := units65 hr
  have nd := nd_led_choices
  PSs.nox (es_cons (es_set (i := 2) nd rfl (by first | exact Or.inl rfl | exact Or.inr rfl) (ev_lcN (c := cl_led_choices_9) rfl nd (PE.frz (ev_var (i := 0) rfl (by first | exact Or.inl rfl | exact Or.inr (Or.inl rfl) | exact Or.inr (Or.inr rfl)) rfl rfl)) (blkOk_by (own := [(Str.ofString "one", 3), (Str.ofString "other", 4), (Str.ofString "way", 5)]) (N := N_led_choices) (sc := defScope (top 6)) (by decide +kernel)) (fun _ _ _ _ _ => (eg_name (i := 3) nd rfl (by first | exact Or.inl rfl | exact Or.inr rfl) (by first | exact Or.inl rfl | exact Or.inr rfl))) (fun _ _ _ _ _ => ets_nil) (fun _ _ => lc_turn_out rfl rfl (fun _ => rfl)) (eb_loop (c := cl_led_choices_7) (vs0 := [4, 5]) rfl (fun _ => plain_lc) (fun _ _ => lc_turn_out rfl rfl (fun _ => rfl)) rfl (fun _ _ _ _ _ => (PE.frz (ev_var (i := 1) rfl (by first | exact Or.inl rfl | exact Or.inr (Or.inl rfl) | exact Or.inr (Or.inr rfl)) rfl rfl))) (fun _ _ _ _ _ => (eg_name (i := 4) nd rfl (by first | exact Or.inl rfl | exact Or.inr rfl) (by first | exact Or.inl rfl | exact Or.inr rfl))) (fun _ _ _ _ _ => ets_nil) (eb_loop (c := cl_led_choices_5) (vs0 := [5]) rfl (fun _ => plain_lc) (fun _ _ => lc_turn_in rfl rfl) rfl (fun _ _ _ _ _ => (PE.frz (ev_led hu64 rfl t_LED k_LED (ea_cons (PE.frz (ev_var (i := 3) rfl (by first | exact Or.inl rfl | exact Or.inr (Or.inl rfl) | exact Or.inr (Or.inr rfl)) rfl rfl)) (ea_cons (PE.frz (ev_var (i := 4) rfl (by first | exact Or.inl rfl | exact Or.inr (Or.inl rfl) | exact Or.inr (Or.inr rfl)) rfl rfl)) ea_nil rfl) rfl) (fun _ _ => rfl) rfl))) (fun _ _ _ _ _ => (eg_name (i := 5) nd rfl (by first | exact Or.inl rfl | exact Or.inr rfl) (by first | exact Or.inl rfl | exact Or.inr rfl))) (fun _ _ _ _ _ => ets_nil) (eb_emit (vs := [5]) (fun _ _ _ _ _ => (PE.frz (ev_var (i := 5) rfl (by first | exact Or.inl rfl | exact Or.inr (Or.inl rfl) | exact Or.inr (Or.inr rfl)) rfl rfl)))) (by decide) (by decide) (by decide)) (by decide) (by decide) (by decide)) (fun _ => rfl) (by decide) (by decide) rfl) rfl (by first | exact Or.inl rfl | exact Or.inr rfl)) (es_one (es_ret (ev_tuple rfl b_tuple (aa_consO (eo_val (PE.frz (ev_lc rfl nd (PE.frz (ev_glob rfl c_WAYS.choose_spec.choose_spec.1 c_WAYS.choose_spec.choose_spec.2.1 c_WAYS.choose_spec.choose_spec.2.2 rfl)) (blkOk_by (own := [(Str.ofString "way", 5)]) (N := N_led_choices) (sc := defScope (top 6)) (by decide +kernel)) (fun _ _ _ _ _ => (eg_name (i := 5) nd rfl (by first | exact Or.inl rfl | exact Or.inr rfl) (by first | exact Or.inl rfl | exact Or.inr rfl))) (fun _ _ _ _ _ => (ets_one (ct_in2 hu65 (eo_var (i := 5) rfl (by first | exact Or.inl rfl | exact Or.inr (Or.inl rfl) | exact Or.inr (Or.inr rfl)) rfl rfl) (eo_var (i := 2) rfl (by first | exact Or.inl rfl | exact Or.inr (Or.inl rfl) | exact Or.inr (Or.inr rfl)) rfl rfl) rfl))) (fun _ _ _ _ _ => (PE.frz (ev_var (i := 5) rfl (by first | exact Or.inl rfl | exact Or.inr (Or.inl rfl) | exact Or.inr (Or.inr rfl)) rfl rfl))) (fun _ => rfl) (by decide) rfl))) aa_nil rfl) rfl))))
theorem sc_led_choices : FnScope N_led_choices [Str.ofString "ones", Str.ofString "others"] (defScope (top 6)) := ⟨rfl, rfl, rfl, nd_led_choices, rfl, by decide +kernel, by decide +kernel⟩
theorem ok_led_choices {P : Program} {w : World} {K : W.Frag} {mg : Str → Option Value} {base : Heap} {f : Addr} {fd : FuncData} (F : FunD K (Str.ofString "led_choices") (Str.ofString "led_choices") (defArgs (top 6)) (defBody (top 6)) (defScope (top 6)) [] [] f fd) (gX : mg (Str.ofString "led_choices") = some (.ref f)) (b_tuple : mg (Str.ofString "tuple") = none) (c_WAYS : ∃ (v : V) (u : Value), mg (Str.ofString "WAYS") = some u ∧ RelV v u ∧ ∀ F : Hp, R K F v ways) {p_LED : Addr} (t_LED : mg (Str.ofString "LED") = some (.ref p_LED)) (k_LED : KLed P w K p_LED ledT) : CallD P w K mg base 1 (Str.ofString "led_choices") [false, false] [] fn_led_choices :=
  ⟨f, fd, [Str.ofString "ones", Str.ofString "others"], [], [], fn_of F sc_led_choices rfl (fun cdv A outer s H E hr => bd_led_choices (CX := CX0) (E := E) hr (b_tuple := b_tuple) (c_WAYS := c_WAYS) (t_LED := t_LED) (k_LED := k_LED)), gX, F.kp, F.bindsN fun _ _ _ _ _ _ us hl => match us, hl with | [_, _], _ => rfl, .nil, fun _ => .nil⟩
abbrev N_lands : List Str := [Str.ofString "drawing", Str.ofString "strip", Str.ofString "plot", Str.ofString "name"]
def ce_lands_1 : Fv := (frzF (varE 3))
def ck_lands_2 : Fk := (emitSF ce_lands_1)
def cl_lands_3 : DC := ⟨[3], (.nm 3), (frzF (varE 2)), yesF⟩
def ck_lands_4 : Fk := (loopF2 cl_lands_3 ck_lands_2)
def cl_lands_5 : DC := ⟨[2, 3], (.nm 2), (frzF (varE 1)), yesF⟩
def ck_lands_6 : Fk := (loopF2 cl_lands_5 ck_lands_4)
def cl_lands_7 : DC := ⟨[1, 2, 3], (.nm 1), (frzF (varE 0)), yesF⟩
def fb_lands : Fs := (retF (scNE cl_lands_7 ck_lands_6))
def fn_lands : List D → Option (Re × List D) := bodyF [false] 3 fb_lands
theorem nd_lands : (N_lands).Nodup := by decide +kernel
theorem bd_lands {CX : CXT} {P : Program} {w : World} {K : W.Frag} {mg : Str → Option Value} {base : Heap} {qual : Str} {f : Addr} {cdv : Value} {A : Around} {outer : List Env} {s : Shared} {H : Hp} {E : XK} (hr : Room 0 (A.deeper (PyProof.Rows.envOfC qual (defScope (top 12)) s.heap.objs.size f cdv))) (b_sorted : mg (Str.ofString "sorted") = none) : PSs (cxOf CX0 P w K mg base N_lands qual (defScope (top 12)) f cdv A outer s H E) (defBody (top 12)) (tS K fb_lands) :=
  have hu64 := units64 hr
  have hu1 := units1 hr
  have hu65 := units65 hr
  have nd := nd_lands
  PSs.nox (es_one (es_ret (ev_sortedSc (c := cl_lands_7) rfl nd rfl b_sorted (PE.frz (ev_var (i := 0) rfl (by first | exact Or.inl rfl | exact Or.inr (Or.inl rfl) | exact Or.inr (Or.inr rfl)) rfl rfl)) (blkOk_by (own := [(Str.ofString "strip", 1), (Str.ofString "plot", 2), (Str.ofString "name", 3)]) (N := N_lands) (sc := defScope (top 12)) (by decide +kernel)) (fun _ _ _ _ _ => (eg_name (i := 1) nd rfl (by first | exact Or.inl rfl | exact Or.inr rfl) (by first | exact Or.inl rfl | exact Or.inr rfl))) (fun _ _ _ _ _ => ets_nil) (fun _ _ => sc_turn_out rfl rfl (fun _ => rfl)) (eb_loopS (c := cl_lands_5) (vs0 := [2, 3]) rfl (fun _ => plain_sc) (fun _ _ => sc_turn_out rfl rfl (fun _ => rfl)) rfl (fun _ _ _ _ _ => (PE.frz (ev_var (i := 1) rfl (by first | exact Or.inl rfl | exact Or.inr (Or.inl rfl) | exact Or.inr (Or.inr rfl)) rfl rfl))) (fun _ _ _ _ _ => (eg_name (i := 2) nd rfl (by first | exact Or.inl rfl | exact Or.inr rfl) (by first | exact Or.inl rfl | exact Or.inr rfl))) (fun _ _ _ _ _ => ets_nil) (eb_loopS (c := cl_lands_3) (vs0 := [3]) rfl (fun _ => plain_sc) (fun _ _ => sc_turn_in rfl rfl) rfl (fun _ _ _ _ _ => (PE.frz (ev_var (i := 2) rfl (by first | exact Or.inl rfl | exact Or.inr (Or.inl rfl) | exact Or.inr (Or.inr rfl)) rfl rfl))) (fun _ _ _ _ _ => (eg_name (i := 3) nd rfl (by first | exact Or.inl rfl | exact Or.inr rfl) (by first | exact Or.inl rfl | exact Or.inr rfl))) (fun _ _ _ _ _ => ets_nil) (eb_emitS (vs := [3]) (fun _ _ _ _ _ => (PE.frz (ev_var (i := 3) rfl (by first | exact Or.inl rfl | exact Or.inr (Or.inl rfl) | exact Or.inr (Or.inr rfl)) rfl rfl)))) (by decide) (by decide) (by decide)) (by decide) (by decide) (by decide)) (fun _ => rfl) (by decide) (by decide) rfl rfl)))
theorem sc_lands : FnScope N_lands [Str.ofString "drawing"] (defScope (top 12)) := ⟨rfl, rfl, rfl, nd_lands, rfl, by decide +kernel, by decide +kernel⟩
theorem ok_lands {P : Program} {w : World} {K : W.Frag} {mg : Str → Option Value} {base : Heap} {f : Addr} {fd : FuncData} (F : FunD K (Str.ofString "lands") (Str.ofString "lands") (defArgs (top 12)) (defBody (top 12)) (defScope (top 12)) [] [] f fd) (gX : mg (Str.ofString "lands") = some (.ref f)) (b_sorted : mg (Str.ofString "sorted") = none) : CallD P w K mg base 1 (Str.ofString "lands") [false] [] fn_lands :=
  ⟨f, fd, [Str.ofString "drawing"], [], [], fn_of F sc_lands rfl (fun cdv A outer s H E hr => bd_lands (CX := CX0) (E := E) hr (b_sorted := b_sorted)), gX, F.kp, F.bindsN fun _ _ _ _ _ _ us hl => match us, hl with | [_], _ => rfl, .nil, fun _ => .nil⟩
abbrev N__plots : List Str := [Str.ofString "drawing", Str.ofString "strip", Str.ofString "plot"]
def ce__plots_1 : Fv := (frzF (varE 2))
def ck__plots_2 : Fk := (emitF ce__plots_1)
def cl__plots_3 : DC := ⟨[2], (.nm 2), (frzF (varE 1)), yesF⟩
def ck__plots_4 : Fk := (loopF2 cl__plots_3 ck__plots_2)
def cl__plots_5 : DC := ⟨[1, 2], (.nm 1), (frzF (varE 0)), yesF⟩
def fb__plots : Fs := (retF (lcNE cl__plots_5 ck__plots_4))
def fn__plots : List D → Option (Re × List D) := bodyF [false] 2 fb__plots
theorem nd__plots : (N__plots).Nodup := by decide +kernel
theorem bd__plots {CX : CXT} {P : Program} {w : World} {K : W.Frag} {mg : Str → Option Value} {base : Heap} {qual : Str} {f : Addr} {cdv : Value} {A : Around} {outer : List Env} {s : Shared} {H : Hp} {E : XK} (hr : Room 0 (A.deeper (PyProof.Rows.envOfC qual (defScope (top 14)) s.heap.objs.size f cdv)))  : PSs (cxOf CX0 P w K mg base N__plots qual (defScope (top 14)) f cdv A outer s H E) (defBody (top 14)) (tS K fb__plots) :=
  have hu64 := units64 hr
  have hu1 := units1 hr
  have hu65 := units65 hr
  have nd := nd__plots
  PSs.nox (es_one (es_ret (ev_lcN (c := cl__plots_5) rfl nd (PE.frz (ev_var (i := 0) rfl (by first | exact Or.inl rfl | exact Or.inr (Or.inl rfl) | exact Or.inr (Or.inr rfl)) rfl rfl)) (blkOk_by (own := [(Str.ofString "strip", 1), (Str.ofString "plot", 2)]) (N := N__plots) (sc := defScope (top 14)) (by decide +kernel)) (fun _ _ _ _ _ => (eg_name (i := 1) nd rfl (by first | exact Or.inl rfl | exact Or.inr rfl) (by first | exact Or.inl rfl | exact Or.inr rfl))) (fun _ _ _ _ _ => ets_nil) (fun _ _ => lc_turn_out rfl rfl (fun _ => rfl)) (eb_loop (c := cl__plots_3) (vs0 := [2]) rfl (fun _ => plain_lc) (fun _ _ => lc_turn_in rfl rfl) rfl (fun _ _ _ _ _ => (PE.frz (ev_var (i := 1) rfl (by first | exact Or.inl rfl | exact Or.inr (Or.inl rfl) | exact Or.inr (Or.inr rfl)) rfl rfl))) (fun _ _ _ _ _ => (eg_name (i := 2) nd rfl (by first | exact Or.inl rfl | exact Or.inr rfl) (by first | exact Or.inl rfl | exact Or.inr rfl))) (fun _ _ _ _ _ => ets_nil) (eb_emit (vs := [2]) (fun _ _ _ _ _ => (PE.frz (ev_var (i := 2) rfl (by first | exact Or.inl rfl | exact Or.inr (Or.inl rfl) | exact Or.inr (Or.inr rfl)) rfl rfl)))) (by decide) (by decide) (by decide)) (fun _ => rfl) (by decide) (by decide) rfl)))
theorem sc__plots : FnScope N__plots [Str.ofString "drawing"] (defScope (top 14)) := ⟨rfl, rfl, rfl, nd__plots, rfl, by decide +kernel, by decide +kernel⟩
theorem ok__plots {P : Program} {w : World} {K : W.Frag} {mg : Str → Option Value} {base : Heap} {f : Addr} {fd : FuncData} (F : FunD K (Str.ofString "_plots") (Str.ofString "_plots") (defArgs (top 14)) (defBody (top 14)) (defScope (top 14)) [] [] f fd) (gX : mg (Str.ofString "_plots") = some (.ref f))  : CallD P w K mg base 1 (Str.ofString "_plots") [false] [] fn__plots :=
  ⟨f, fd, [Str.ofString "drawing"], [], [], fn_of F sc__plots rfl (fun cdv A outer s H E hr => bd__plots (CX := CX0) (E := E) hr ), gX, F.kp, F.bindsN fun _ _ _ _ _ _ us hl => match us, hl with | [_], _ => rfl, .nil, fun _ => .nil⟩
abbrev N__neighbours : List Str := [Str.ofString "drawing", Str.ofString "pairs", Str.ofString "strip", Str.ofString "left", Str.ofString "right"]
def lb__neighbours_1 : Fs := (seqF (dropF (mutE "list" gAppend 1 (consF (frzF (tupE (consF (frzF (varE 3)) (consF (frzF (varE 4)) nilF)))) nilF))) (dropF (mutE "list" gAppend 1 (consF (frzF (tupE (consF (frzF (varE 4)) (consF (frzF (varE 3)) nilF)))) nilF))))
def lb__neighbours_2 : Fs := (zipF (.tp [3, 4]) (consF (frzF (varE 2)) (consF (frzF (slE (orefF 2) (some (frzF (conE (.int 1)))) none)) nilF)) lb__neighbours_1)
def fb__neighbours : Fs := (seqF (setF 1 (lstE nilF)) (seqF (forF (.nm 2) (frzF (varE 0)) lb__neighbours_2) (retVarF 1)))
def fn__neighbours : List D → Option (Re × List D) := bodyF [false] 4 fb__neighbours
theorem nd__neighbours : (N__neighbours).Nodup := by decide +kernel
theorem bd__neighbours {CX : CXT} {P : Program} {w : World} {K : W.Frag} {mg : Str → Option Value} {base : Heap} {qual : Str} {f : Addr} {cdv : Value} {A : Around} {outer : List Env} {s : Shared} {H : Hp} {E : XK} (hr : Room 0 (A.deeper (PyProof.Rows.envOfC qual (defScope (top 15)) s.heap.objs.size f cdv))) (b_zip : mg (Str.ofString "zip") = none) : PSs (cxOf CX0 P w K mg base N__neighbours qual (defScope (top 15)) f cdv A outer s H E) (defBody (top 15)) (tS K fb__neighbours) :=
  have hu64 := units64 hr
  have hu1 := units1 hr
  have hu65 := units65 hr
  have nd := nd__neighbours
  PSs.nox (es_cons (es_set (i := 1) nd rfl (by first | exact Or.inl rfl | exact Or.inr rfl) (ev_lst ea_nil) rfl (by first | exact Or.inl rfl | exact Or.inr rfl)) (es_cons (es_for PassesOwn.never rfl (PE.frz (ev_var (i := 0) rfl (by first | exact Or.inl rfl | exact Or.inr (Or.inl rfl) | exact Or.inr (Or.inr rfl)) rfl rfl)) (eg_name (i := 2) nd rfl (by first | exact Or.inl rfl | exact Or.inr rfl) (by first | exact Or.inl rfl | exact Or.inr rfl)) (es_one (es_zip PassesOwn.never rfl rfl b_zip (ea_cons (PE.frz (ev_var (i := 2) rfl (by first | exact Or.inl rfl | exact Or.inr (Or.inl rfl) | exact Or.inr (Or.inr rfl)) rfl rfl)) (ea_cons (PE.frz (ev_slice (eo_var (i := 2) rfl (by first | exact Or.inl rfl | exact Or.inr (Or.inl rfl) | exact Or.inr (Or.inr rfl)) rfl rfl) (ep_some (PE.frz (ev_con pe_int (fun F => R.int _)))) ep_none)) ea_nil rfl) rfl) (eg_tup rfl (egs_cons (eg_name (i := 3) nd rfl (by first | exact Or.inl rfl | exact Or.inr rfl) (by first | exact Or.inl rfl | exact Or.inr rfl)) (egs_cons (eg_name (i := 4) nd rfl (by first | exact Or.inl rfl | exact Or.inr rfl) (by first | exact Or.inl rfl | exact Or.inr rfl)) egs_nil rfl) rfl) rfl rfl rfl) (es_cons (es_expr (ev_mut (k := 1) rfl (by first | exact Or.inl rfl | exact Or.inr (Or.inl rfl) | exact Or.inr (Or.inr rfl)) rfl rfl PySem.F.plainAttrs_list PySem.F.slot_list_append PySem.F.type_list_append mt_append gAppend_ok (ea_cons (PE.frz (ev_tup (ea_cons (PE.frz (ev_var (i := 3) rfl (by first | exact Or.inl rfl | exact Or.inr (Or.inl rfl) | exact Or.inr (Or.inr rfl)) rfl rfl)) (ea_cons (PE.frz (ev_var (i := 4) rfl (by first | exact Or.inl rfl | exact Or.inr (Or.inl rfl) | exact Or.inr (Or.inr rfl)) rfl rfl)) ea_nil rfl) rfl))) ea_nil rfl) rfl rfl rfl rfl rfl) rfl) (es_one (es_expr (ev_mut (k := 1) rfl (by first | exact Or.inl rfl | exact Or.inr (Or.inl rfl) | exact Or.inr (Or.inr rfl)) rfl rfl PySem.F.plainAttrs_list PySem.F.slot_list_append PySem.F.type_list_append mt_append gAppend_ok (ea_cons (PE.frz (ev_tup (ea_cons (PE.frz (ev_var (i := 4) rfl (by first | exact Or.inl rfl | exact Or.inr (Or.inl rfl) | exact Or.inr (Or.inr rfl)) rfl rfl)) (ea_cons (PE.frz (ev_var (i := 3) rfl (by first | exact Or.inl rfl | exact Or.inr (Or.inl rfl) | exact Or.inr (Or.inr rfl)) rfl rfl)) ea_nil rfl) rfl))) ea_nil rfl) rfl rfl rfl rfl rfl) rfl))) rfl rfl (fun _ => rfl))) (fun _ => rfl)) (es_one (es_retVar (i := 1) rfl (by first | exact Or.inl rfl | exact Or.inr (Or.inl rfl) | exact Or.inr (Or.inr rfl)) rfl rfl))))
theorem sc__neighbours : FnScope N__neighbours [Str.ofString "drawing"] (defScope (top 15)) := ⟨rfl, rfl, rfl, nd__neighbours, rfl, by decide +kernel, by decide +kernel⟩
theorem ok__neighbours {P : Program} {w : World} {K : W.Frag} {mg : Str → Option Value} {base : Heap} {f : Addr} {fd : FuncData} (F : FunD K (Str.ofString "_neighbours") (Str.ofString "_neighbours") (defArgs (top 15)) (defBody (top 15)) (defScope (top 15)) [] [] f fd) (gX : mg (Str.ofString "_neighbours") = some (.ref f)) (b_zip : mg (Str.ofString "zip") = none) : CallD P w K mg base 1 (Str.ofString "_neighbours") [false] [] fn__neighbours :=
  ⟨f, fd, [Str.ofString "drawing"], [], [], fn_of F sc__neighbours rfl (fun cdv A outer s H E hr => bd__neighbours (CX := CX0) (E := E) hr (b_zip := b_zip)), gX, F.kp, F.bindsN fun _ _ _ _ _ _ us hl => match us, hl with | [_], _ => rfl, .nil, fun _ => .nil⟩
abbrev N__way_within : List Str := [Str.ofString "neighbours", Str.ofString "inner", Str.ofString "outer", Str.ofString "plot", Str.ofString "beside"]
def fb__way_within : Fs := (seqF (ifF (truO (ovF (frzF (anyF (fun bs => bs.any fun b => b) (g2 (Str.ofString "plot") (Str.ofString "beside") [(Str.ofString "inner", 1), (Str.ofString "outer", 2)] (tAnd2 (tIn false (Str.ofString "inner") (Str.ofString "plot")) (tIn true (Str.ofString "outer") (Str.ofString "beside")))) (frzF (varE 0)))))) (retF (conE (.str (Str.ofString "inrim")))) nextF) (retF (conE (.str (Str.ofString "incore")))))
def fn__way_within : List D → Option (Re × List D) := bodyF [false, false, false] 2 fb__way_within
theorem nd__way_within : (N__way_within).Nodup := by decide +kernel
theorem bd__way_within {CX : CXT} {P : Program} {w : World} {K : W.Frag} {mg : Str → Option Value} {base : Heap} {qual : Str} {f : Addr} {A : Around} {outer : List Env} {s : Shared} {H : Hp} {E : XK} {c0 P0 : Addr} (hr : Room 0 (A.deeper (PyProof.Rows.envOfC qual (defScope (top 17)) s.heap.objs.size f (.ref c0)))) (b_any : mg (Str.ofString "any") = none) (tb : GxR.TabB base mg c0 P0) (ht : P0 ∈ Tabs.l) : PSs (cxOf CX0 P w K mg base N__way_within qual (defScope (top 17)) f (.ref c0) A outer s H E) (defBody (top 17)) (tS K fb__way_within) :=
  have hu64 := units64 hr
  have hu1 := units1 hr
  have hu65 := units65 hr
  have nd := nd__way_within
  PSs.nox (es_cons (es_if (et_look (eo_val (PE.frz (ev_any2 (by decide) hr rfl b_any tb ht rfl (genC_ok (sc := defScope (top 17)) (N := N__way_within) (xs := [Str.ofString "plot", Str.ofString "beside"]) (caps := [(Str.ofString "inner", 1), (Str.ofString "outer", 2)]) (by decide +kernel)) (PE.frz (ev_var (i := 0) rfl (by first | exact Or.inl rfl | exact Or.inr (Or.inl rfl) | exact Or.inr (Or.inr rfl)) rfl rfl)) (gel_and gel_in (gel_one gel_notIn)) (fun _ => rfl) rfl))) (fun _ => rfl)) (es_one (es_ret (ev_con pe_str (fun F => R.str _)))) es_nil) (es_one (es_ret (ev_con pe_str (fun F => R.str _)))))
theorem sc__way_within : FnScope N__way_within [Str.ofString "neighbours", Str.ofString "inner", Str.ofString "outer"] (defScope (top 17)) := ⟨rfl, rfl, rfl, nd__way_within, rfl, by decide +kernel, by decide +kernel⟩
theorem ok__way_within {P : Program} {w : World} {K : W.Frag} {mg : Str → Option Value} {base : Heap} {f : Addr} {fd : FuncData} (F : FunD K (Str.ofString "_way_within") (Str.ofString "_way_within") (defArgs (top 17)) (defBody (top 17)) (defScope (top 17)) [] [] f fd) (gX : mg (Str.ofString "_way_within") = some (.ref f)) (b_any : mg (Str.ofString "any") = none) {c0 P0 : Addr} (tb : GxR.TabB base mg c0 P0) (ht : P0 ∈ Tabs.l) (hc : fd.code = .ref c0) : CallD P w K mg base 1 (Str.ofString "_way_within") [false, false, false] [] fn__way_within :=
  ⟨f, fd, [Str.ofString "neighbours", Str.ofString "inner", Str.ofString "outer"], [], [], fn_ofC F hc sc__way_within rfl (fun A outer s H E hr => bd__way_within (CX := CX0) (E := E) hr (b_any := b_any) (tb := tb) (ht := ht)), gX, F.kp, F.bindsN fun _ _ _ _ _ _ us hl => match us, hl with | [_, _, _], _ => rfl, .nil, fun _ => .nil⟩
abbrev N__way : List Str := [Str.ofString "plots", Str.ofString "neighbours", Str.ofString "one", Str.ofString "other", Str.ofString "one_sticks_out", Str.ofString "plot", Str.ofString "other_sticks_out", Str.ofString "beside"]
def fb__way : Fs := (seqF (setF 4 (anyF (fun bs => bs.any fun b => b) (g1 (Str.ofString "plot") [(Str.ofString "one", 2), (Str.ofString "other", 3)] (tAnd2 (tIn false (Str.ofString "one") (Str.ofString "plot")) (tIn true (Str.ofString "other") (Str.ofString "plot")))) (frzF (varE 0)))) (seqF (setF 6 (anyF (fun bs => bs.any fun b => b) (g1 (Str.ofString "plot") [(Str.ofString "other", 3), (Str.ofString "one", 2)] (tAnd2 (tIn false (Str.ofString "other") (Str.ofString "plot")) (tIn true (Str.ofString "one") (Str.ofString "plot")))) (frzF (varE 0)))) (seqF (ifF (andF (notF (truO (orefF 4))) (notF (truO (orefF 6)))) (retF (conE (.str (Str.ofString "same")))) nextF) (seqF (ifF (notF (truO (orefF 4))) (retF (callE [false, false, false] [] fn__way_within (avF (frzF (varE 1)) (avF (frzF (varE 2)) (avF (frzF (varE 3)) anilF))))) nextF) (seqF (ifF (notF (truO (orefF 6))) (retF (callE [false] [] fn_turned (avF (frzF (callE [false, false, false] [] fn__way_within (avF (frzF (varE 1)) (avF (frzF (varE 3)) (avF (frzF (varE 2)) anilF))))) anilF))) nextF) (seqF (ifF (truO (ovF (frzF (anyF (fun bs => bs.any fun b => b) (g1 (Str.ofString "plot") [(Str.ofString "one", 2), (Str.ofString "other", 3)] (tAnd2 (tIn false (Str.ofString "one") (Str.ofString "plot")) (tIn false (Str.ofString "other") (Str.ofString "plot")))) (frzF (varE 0)))))) (retF (conE (.str (Str.ofString "over")))) nextF) (seqF (ifF (truO (ovF (frzF (anyF (fun bs => bs.any fun b => b) (g2 (Str.ofString "plot") (Str.ofString "beside") [(Str.ofString "one", 2), (Str.ofString "other", 3)] (tAnd2 (tIn false (Str.ofString "one") (Str.ofString "plot")) (tIn false (Str.ofString "other") (Str.ofString "beside")))) (frzF (varE 1)))))) (retF (conE (.str (Str.ofString "meets")))) nextF) (retF (conE (.str (Str.ofString "apart")))))))))))
def fn__way : List D → Option (Re × List D) := bodyF [false, false, false, false] 4 fb__way
theorem nd__way : (N__way).Nodup := by decide +kernel
theorem bd__way {CX : CXT} {P : Program} {w : World} {K : W.Frag} {mg : Str → Option Value} {base : Heap} {qual : Str} {f : Addr} {A : Around} {outer : List Env} {s : Shared} {H : Hp} {E : XK} {c0 P0 : Addr} (hr : Room 1 (A.deeper (PyProof.Rows.envOfC qual (defScope (top 16)) s.heap.objs.size f (.ref c0)))) (b_any : mg (Str.ofString "any") = none) (d__way_within : CallD P w K mg base 1 (Str.ofString "_way_within") [false, false, false] [] fn__way_within) (d_turned : CallD P w K mg base 1 (Str.ofString "turned") [false] [] fn_turned) (tb : GxR.TabB base mg c0 P0) (ht : P0 ∈ Tabs.l) : PSs (cxOf CX0 P w K mg base N__way qual (defScope (top 16)) f (.ref c0) A outer s H E) (defBody (top 16)) (tS K fb__way) :=
  have hu64 := units64 hr
  have hu1 := units1 hr
  have hu65 := units65 hr
  have nd := nd__way
  PSs.nox (es_cons (es_set (i := 4) nd rfl (by first | exact Or.inl rfl | exact Or.inr rfl) (ev_any1 hr rfl b_any tb ht rfl (genC_ok (sc := defScope (top 16)) (N := N__way) (xs := [Str.ofString "plot"]) (caps := [(Str.ofString "one", 2), (Str.ofString "other", 3)]) (by decide +kernel)) (PE.frz (ev_var (i := 0) rfl (by first | exact Or.inl rfl | exact Or.inr (Or.inl rfl) | exact Or.inr (Or.inr rfl)) rfl rfl)) (gel_and gel_in (gel_one gel_notIn)) (fun _ => rfl) rfl) rfl (by first | exact Or.inl rfl | exact Or.inr rfl)) (es_cons (es_set (i := 6) nd rfl (by first | exact Or.inl rfl | exact Or.inr rfl) (ev_any1 hr rfl b_any tb ht rfl (genC_ok (sc := defScope (top 16)) (N := N__way) (xs := [Str.ofString "plot"]) (caps := [(Str.ofString "other", 3), (Str.ofString "one", 2)]) (by decide +kernel)) (PE.frz (ev_var (i := 0) rfl (by first | exact Or.inl rfl | exact Or.inr (Or.inl rfl) | exact Or.inr (Or.inr rfl)) rfl rfl)) (gel_and gel_in (gel_one gel_notIn)) (fun _ => rfl) rfl) rfl (by first | exact Or.inl rfl | exact Or.inr rfl)) (es_cons (es_if (PW.pt (et_and (et_not (et_look (eo_var (i := 4) rfl (by first | exact Or.inl rfl | exact Or.inr (Or.inl rfl) | exact Or.inr (Or.inr rfl)) rfl rfl) (fun _ => rfl))) (pw_and1 (et_not (et_look (eo_var (i := 6) rfl (by first | exact Or.inl rfl | exact Or.inr (Or.inl rfl) | exact Or.inr (Or.inr rfl)) rfl rfl) (fun _ => rfl)))))) (es_one (es_ret (ev_con pe_str (fun F => R.str _)))) es_nil) (es_cons (es_if (et_not (et_look (eo_var (i := 4) rfl (by first | exact Or.inl rfl | exact Or.inr (Or.inl rfl) | exact Or.inr (Or.inr rfl)) rfl rfl) (fun _ => rfl))) (es_one (es_ret (ev_c d__way_within (hr.mono (by decide)) rfl (aa_consV (PE.frz (ev_var (i := 1) rfl (by first | exact Or.inl rfl | exact Or.inr (Or.inl rfl) | exact Or.inr (Or.inr rfl)) rfl rfl)) (aa_consV (PE.frz (ev_var (i := 2) rfl (by first | exact Or.inl rfl | exact Or.inr (Or.inl rfl) | exact Or.inr (Or.inr rfl)) rfl rfl)) (aa_consV (PE.frz (ev_var (i := 3) rfl (by first | exact Or.inl rfl | exact Or.inr (Or.inl rfl) | exact Or.inr (Or.inr rfl)) rfl rfl)) aa_nil rfl) rfl) rfl) rfl rfl rfl))) es_nil) (es_cons (es_if (et_not (et_look (eo_var (i := 6) rfl (by first | exact Or.inl rfl | exact Or.inr (Or.inl rfl) | exact Or.inr (Or.inr rfl)) rfl rfl) (fun _ => rfl))) (es_one (es_ret (ev_c d_turned (hr.mono (by decide)) rfl (aa_consV (PE.frz (ev_c d__way_within (hr.mono (by decide)) rfl (aa_consV (PE.frz (ev_var (i := 1) rfl (by first | exact Or.inl rfl | exact Or.inr (Or.inl rfl) | exact Or.inr (Or.inr rfl)) rfl rfl)) (aa_consV (PE.frz (ev_var (i := 3) rfl (by first | exact Or.inl rfl | exact Or.inr (Or.inl rfl) | exact Or.inr (Or.inr rfl)) rfl rfl)) (aa_consV (PE.frz (ev_var (i := 2) rfl (by first | exact Or.inl rfl | exact Or.inr (Or.inl rfl) | exact Or.inr (Or.inr rfl)) rfl rfl)) aa_nil rfl) rfl) rfl) rfl rfl rfl)) aa_nil rfl) rfl rfl rfl))) es_nil) (es_cons (es_if (et_look (eo_val (PE.frz (ev_any1 hr rfl b_any tb ht rfl (genC_ok (sc := defScope (top 16)) (N := N__way) (xs := [Str.ofString "plot"]) (caps := [(Str.ofString "one", 2), (Str.ofString "other", 3)]) (by decide +kernel)) (PE.frz (ev_var (i := 0) rfl (by first | exact Or.inl rfl | exact Or.inr (Or.inl rfl) | exact Or.inr (Or.inr rfl)) rfl rfl)) (gel_and gel_in (gel_one gel_in)) (fun _ => rfl) rfl))) (fun _ => rfl)) (es_one (es_ret (ev_con pe_str (fun F => R.str _)))) es_nil) (es_cons (es_if (et_look (eo_val (PE.frz (ev_any2 (by decide) hr rfl b_any tb ht rfl (genC_ok (sc := defScope (top 16)) (N := N__way) (xs := [Str.ofString "plot", Str.ofString "beside"]) (caps := [(Str.ofString "one", 2), (Str.ofString "other", 3)]) (by decide +kernel)) (PE.frz (ev_var (i := 1) rfl (by first | exact Or.inl rfl | exact Or.inr (Or.inl rfl) | exact Or.inr (Or.inr rfl)) rfl rfl)) (gel_and gel_in (gel_one gel_in)) (fun _ => rfl) rfl))) (fun _ => rfl)) (es_one (es_ret (ev_con pe_str (fun F => R.str _)))) es_nil) (es_one (es_ret (ev_con pe_str (fun F => R.str _)))))))))))
theorem sc__way : FnScope N__way [Str.ofString "plots", Str.ofString "neighbours", Str.ofString "one", Str.ofString "other"] (defScope (top 16)) := ⟨rfl, rfl, rfl, nd__way, rfl, by decide +kernel, by decide +kernel⟩
theorem ok__way {P : Program} {w : World} {K : W.Frag} {mg : Str → Option Value} {base : Heap} {f : Addr} {fd : FuncData} (F : FunD K (Str.ofString "_way") (Str.ofString "_way") (defArgs (top 16)) (defBody (top 16)) (defScope (top 16)) [] [] f fd) (gX : mg (Str.ofString "_way") = some (.ref f)) (b_any : mg (Str.ofString "any") = none) (d__way_within : CallD P w K mg base 1 (Str.ofString "_way_within") [false, false, false] [] fn__way_within) (d_turned : CallD P w K mg base 1 (Str.ofString "turned") [false] [] fn_turned) {c0 P0 : Addr} (tb : GxR.TabB base mg c0 P0) (ht : P0 ∈ Tabs.l) (hc : fd.code = .ref c0) : CallD P w K mg base 2 (Str.ofString "_way") [false, false, false, false] [] fn__way :=
  ⟨f, fd, [Str.ofString "plots", Str.ofString "neighbours", Str.ofString "one", Str.ofString "other"], [], [], fn_ofC F hc sc__way rfl (fun A outer s H E hr => bd__way (CX := CX0) (E := E) hr (b_any := b_any) (d__way_within := d__way_within) (d_turned := d_turned) (tb := tb) (ht := ht)), gX, F.kp, F.bindsN fun _ _ _ _ _ _ us hl => match us, hl with | [_, _, _, _], _ => rfl, .nil, fun _ => .nil⟩
abbrev N_refuse_unknown : List Str := [Str.ofString "known", Str.ofString "names", Str.ofString "name"]
def lb_refuse_unknown_1 : Fs := (ifF (cmpT (bIn2 true) (orefF 2) (orefF 0)) (fun _ => none) nextF)
def fb_refuse_unknown : Fs := (forF (.nm 2) (frzF (varE 1)) lb_refuse_unknown_1)
def fn_refuse_unknown : List D → Option (Re × List D) := bodyF [false, false] 1 fb_refuse_unknown
theorem nd_refuse_unknown : (N_refuse_unknown).Nodup := by decide +kernel
theorem bd_refuse_unknown {CX : CXT} {P : Program} {w : World} {K : W.Frag} {mg : Str → Option Value} {base : Heap} {qual : Str} {f : Addr} {cdv : Value} {A : Around} {outer : List Env} {s : Shared} {H : Hp} {E : XK} (hr : Room 1 (A.deeper (PyProof.Rows.envOfC qual (defScope (top 10)) s.heap.objs.size f cdv)))  : PSs (cxOf CX0 P w K mg base N_refuse_unknown qual (defScope (top 10)) f cdv A outer s H E) (defBody (top 10)) (tS K fb_refuse_unknown) :=
  have hu64 := units64 hr
  have hu1 := units1 hr
  have hu65 := units65 hr
  have nd := nd_refuse_unknown
  PSs.nox (es_one (es_for PassesOwn.never rfl (PE.frz (ev_var (i := 1) rfl (by first | exact Or.inl rfl | exact Or.inr (Or.inl rfl) | exact Or.inr (Or.inr rfl)) rfl rfl)) (eg_name (i := 2) nd rfl (by first | exact Or.inl rfl | exact Or.inr rfl) (by first | exact Or.inl rfl | exact Or.inr rfl)) (es_one (es_if (ct_notIn2 hu65 (eo_var (i := 2) rfl (by first | exact Or.inl rfl | exact Or.inr (Or.inl rfl) | exact Or.inr (Or.inr rfl)) rfl rfl) (eo_var (i := 0) rfl (by first | exact Or.inl rfl | exact Or.inr (Or.inl rfl) | exact Or.inr (Or.inr rfl)) rfl rfl) rfl) (es_one es_never) es_nil)) (fun _ => rfl)))
theorem sc_refuse_unknown : FnScope N_refuse_unknown [Str.ofString "known", Str.ofString "names"] (defScope (top 10)) := ⟨rfl, rfl, rfl, nd_refuse_unknown, rfl, by decide +kernel, by decide +kernel⟩
theorem ok_refuse_unknown {P : Program} {w : World} {K : W.Frag} {mg : Str → Option Value} {base : Heap} {f : Addr} {fd : FuncData} (F : FunD K (Str.ofString "refuse_unknown") (Str.ofString "refuse_unknown") (defArgs (top 10)) (defBody (top 10)) (defScope (top 10)) [] [] f fd) (gX : mg (Str.ofString "refuse_unknown") = some (.ref f))  : CallD P w K mg base 2 (Str.ofString "refuse_unknown") [false, false] [] fn_refuse_unknown :=
  ⟨f, fd, [Str.ofString "known", Str.ofString "names"], [], [], fn_of F sc_refuse_unknown rfl (fun cdv A outer s H E hr => bd_refuse_unknown (CX := CX0) (E := E) hr ), gX, F.kp, F.bindsN fun _ _ _ _ _ _ us hl => match us, hl with | [_, _], _ => rfl, .nil, fun _ => .nil⟩
abbrev N_seen : List Str := [Str.ofString "drawing", Str.ofString "one", Str.ofString "other"]
def fb_seen : Fs := (seqF (dropF (callE [false, false] [] fn_refuse_unknown (avF (frzF (callE [false] [] fn_lands (avF (frzF (varE 0)) anilF))) (avF (frzF (lstE (consF (frzF (varE 1)) (consF (frzF (varE 2)) nilF)))) anilF)))) (retF (callE [false, false, false, false] [] fn__way (avF (frzF (callE [false] [] fn__plots (avF (frzF (varE 0)) anilF))) (avF (frzF (callE [false] [] fn__neighbours (avF (frzF (varE 0)) anilF))) (avF (frzF (varE 1)) (avF (frzF (varE 2)) anilF)))))))
def fn_seen : List D → Option (Re × List D) := bodyF [false, false, false] 0 fb_seen
theorem nd_seen : (N_seen).Nodup := by decide +kernel
theorem bd_seen {CX : CXT} {P : Program} {w : World} {K : W.Frag} {mg : Str → Option Value} {base : Heap} {qual : Str} {f : Addr} {cdv : Value} {A : Around} {outer : List Env} {s : Shared} {H : Hp} {E : XK} (hr : Room 2 (A.deeper (PyProof.Rows.envOfC qual (defScope (top 13)) s.heap.objs.size f cdv))) (d__neighbours : CallD P w K mg base 1 (Str.ofString "_neighbours") [false] [] fn__neighbours) (d__plots : CallD P w K mg base 1 (Str.ofString "_plots") [false] [] fn__plots) (d__way : CallD P w K mg base 2 (Str.ofString "_way") [false, false, false, false] [] fn__way) (d_lands : CallD P w K mg base 1 (Str.ofString "lands") [false] [] fn_lands) (d_refuse_unknown : CallD P w K mg base 2 (Str.ofString "refuse_unknown") [false, false] [] fn_refuse_unknown) : PSs (cxOf CX0 P w K mg base N_seen qual (defScope (top 13)) f cdv A outer s H E) (defBody (top 13)) (tS K fb_seen) :=
  have hu64 := units64 hr
  have hu1 := units1 hr
  have hu65 := units65 hr
  have nd := nd_seen
  PSs.nox (es_cons (es_expr (ev_c d_refuse_unknown (hr.mono (by decide)) rfl (aa_consV (PE.frz (ev_c d_lands (hr.mono (by decide)) rfl (aa_consV (PE.frz (ev_var (i := 0) rfl (by first | exact Or.inl rfl | exact Or.inr (Or.inl rfl) | exact Or.inr (Or.inr rfl)) rfl rfl)) aa_nil rfl) rfl rfl rfl)) (aa_consV (PE.frz (ev_lst (ea_cons (PE.frz (ev_var (i := 1) rfl (by first | exact Or.inl rfl | exact Or.inr (Or.inl rfl) | exact Or.inr (Or.inr rfl)) rfl rfl)) (ea_cons (PE.frz (ev_var (i := 2) rfl (by first | exact Or.inl rfl | exact Or.inr (Or.inl rfl) | exact Or.inr (Or.inr rfl)) rfl rfl)) ea_nil rfl) rfl))) aa_nil rfl) rfl) rfl rfl rfl) rfl) (es_one (es_ret (ev_c d__way (hr.mono (by decide)) rfl (aa_consV (PE.frz (ev_c d__plots (hr.mono (by decide)) rfl (aa_consV (PE.frz (ev_var (i := 0) rfl (by first | exact Or.inl rfl | exact Or.inr (Or.inl rfl) | exact Or.inr (Or.inr rfl)) rfl rfl)) aa_nil rfl) rfl rfl rfl)) (aa_consV (PE.frz (ev_c d__neighbours (hr.mono (by decide)) rfl (aa_consV (PE.frz (ev_var (i := 0) rfl (by first | exact Or.inl rfl | exact Or.inr (Or.inl rfl) | exact Or.inr (Or.inr rfl)) rfl rfl)) aa_nil rfl) rfl rfl rfl)) (aa_consV (PE.frz (ev_var (i := 1) rfl (by first | exact Or.inl rfl | exact Or.inr (Or.inl rfl) | exact Or.inr (Or.inr rfl)) rfl rfl)) (aa_consV (PE.frz (ev_var (i := 2) rfl (by first | exact Or.inl rfl | exact Or.inr (Or.inl rfl) | exact Or.inr (Or.inr rfl)) rfl rfl)) aa_nil rfl) rfl) rfl) rfl) rfl rfl rfl))))
theorem sc_seen : FnScope N_seen [Str.ofString "drawing", Str.ofString "one", Str.ofString "other"] (defScope (top 13)) := ⟨rfl, rfl, rfl, nd_seen, rfl, by decide +kernel, by decide +kernel⟩
theorem ok_seen {P : Program} {w : World} {K : W.Frag} {mg : Str → Option Value} {base : Heap} {f : Addr} {fd : FuncData} (F : FunD K (Str.ofString "seen") (Str.ofString "seen") (defArgs (top 13)) (defBody (top 13)) (defScope (top 13)) [] [] f fd) (gX : mg (Str.ofString "seen") = some (.ref f)) (d__neighbours : CallD P w K mg base 1 (Str.ofString "_neighbours") [false] [] fn__neighbours) (d__plots : CallD P w K mg base 1 (Str.ofString "_plots") [false] [] fn__plots) (d__way : CallD P w K mg base 2 (Str.ofString "_way") [false, false, false, false] [] fn__way) (d_lands : CallD P w K mg base 1 (Str.ofString "lands") [false] [] fn_lands) (d_refuse_unknown : CallD P w K mg base 2 (Str.ofString "refuse_unknown") [false, false] [] fn_refuse_unknown) : CallD P w K mg base 3 (Str.ofString "seen") [false, false, false] [] fn_seen :=
  ⟨f, fd, [Str.ofString "drawing", Str.ofString "one", Str.ofString "other"], [], [], fn_of F sc_seen rfl (fun cdv A outer s H E hr => bd_seen (CX := CX0) (E := E) hr (d__neighbours := d__neighbours) (d__plots := d__plots) (d__way := d__way) (d_lands := d_lands) (d_refuse_unknown := d_refuse_unknown)), gX, F.kp, F.bindsN fun _ _ _ _ _ _ us hl => match us, hl with | [_, _, _], _ => rfl, .nil, fun _ => .nil⟩
abbrev N__law_dice : List Str := [Str.ofString "_law_script", Str.ofString "_law_mixed", Str.ofString "_law_cell"]
def lb__law_dice_1 : Fs := (setF 1 (op2E gMod (frzF (op2E gAdd (frzF (op2E gAdd (frzF (op2E gMul (frzF (varE 1)) (frzF (conE (.int 48271))))) (frzF (op2E gMul (frzF (op2E gMod (frzF (varE 2)) (frzF (conE (.int 2147483647))))) (frzF (conE (.int 69621))))))) (frzF (conE (.int 11))))) (frzF (conE (.int 2147483647)))))
def fb__law_dice : Fs := (seqF (setF 1 (conE (.int 0))) (seqF (forF (.nm 2) (frzF (varE 0)) lb__law_dice_1) (retF (lstE (consF (frzF (varE 0)) (consF (frzF (conE (.int 0))) (consF (frzF (op2E gMul (frzF (varE 1)) (frzF (opLE gInt (aoF (ovF (frzF (cmpE bGt (ovF (frzF (opLE (fun ds => (gLen ds).or (gLenS ds)) (aoF (orefF 0) anilF)))) (ovF (frzF (conE (.int 2))))))) anilF))))) (consF (frzF (conE (.int 0))) nilF))))))))
def fn__law_dice : List D → Option (Re × List D) := bodyF [false] 2 fb__law_dice
theorem nd__law_dice : (N__law_dice).Nodup := by decide +kernel
theorem bd__law_dice {CX : CXT} {P : Program} {w : World} {K : W.Frag} {mg : Str → Option Value} {base : Heap} {qual : Str} {f : Addr} {cdv : Value} {A : Around} {outer : List Env} {s : Shared} {H : Hp} {E : XK} (hr : Room 0 (A.deeper (PyProof.Rows.envOfC qual (defScope (top 19)) s.heap.objs.size f cdv))) (b_int : mg (Str.ofString "int") = none) (b_len : mg (Str.ofString "len") = none) : PSs (cxOf CX0 P w K mg base N__law_dice qual (defScope (top 19)) f cdv A outer s H E) (defBody (top 19)) (tS K fb__law_dice) :=
  have hu64 := units64 hr
  have hu1 := units1 hr
  have hu65 := units65 hr
  have nd := nd__law_dice
  PSs.nox (es_cons (es_set (i := 1) nd rfl (by first | exact Or.inl rfl | exact Or.inr rfl) (ev_con pe_int (fun F => R.int _)) rfl (by first | exact Or.inl rfl | exact Or.inr rfl)) (es_cons (es_for PassesOwn.never rfl (PE.frz (ev_var (i := 0) rfl (by first | exact Or.inl rfl | exact Or.inr (Or.inl rfl) | exact Or.inr (Or.inr rfl)) rfl rfl)) (eg_name (i := 2) nd rfl (by first | exact Or.inl rfl | exact Or.inr rfl) (by first | exact Or.inl rfl | exact Or.inr rfl)) (es_one (es_set (i := 1) nd rfl (by first | exact Or.inl rfl | exact Or.inr rfl) (ev_mod (PE.frz (ev_add (PE.frz (ev_add (PE.frz (ev_mul (PE.frz (ev_var (i := 1) rfl (by first | exact Or.inl rfl | exact Or.inr (Or.inl rfl) | exact Or.inr (Or.inr rfl)) rfl rfl)) (PE.frz (ev_con pe_int (fun F => R.int _))))) (PE.frz (ev_mul (PE.frz (ev_mod (PE.frz (ev_var (i := 2) rfl (by first | exact Or.inl rfl | exact Or.inr (Or.inl rfl) | exact Or.inr (Or.inr rfl)) rfl rfl)) (PE.frz (ev_con pe_int (fun F => R.int _))))) (PE.frz (ev_con pe_int (fun F => R.int _))))))) (PE.frz (ev_con pe_int (fun F => R.int _))))) (PE.frz (ev_con pe_int (fun F => R.int _)))) rfl (by first | exact Or.inl rfl | exact Or.inr rfl))) (fun _ => rfl)) (es_one (es_ret (ev_lst (ea_cons (PE.frz (ev_var (i := 0) rfl (by first | exact Or.inl rfl | exact Or.inr (Or.inl rfl) | exact Or.inr (Or.inr rfl)) rfl rfl)) (ea_cons (PE.frz (ev_con pe_int (fun F => R.int _))) (ea_cons (PE.frz (ev_mul (PE.frz (ev_var (i := 1) rfl (by first | exact Or.inl rfl | exact Or.inr (Or.inl rfl) | exact Or.inr (Or.inr rfl)) rfl rfl)) (PE.frz (ev_int rfl b_int (aa_consO (eo_val (PE.frz (ec_gt (eo_val (PE.frz (ev_len rfl b_len (aa_consO (eo_var (i := 0) rfl (by first | exact Or.inl rfl | exact Or.inr (Or.inl rfl) | exact Or.inr (Or.inr rfl)) rfl rfl) aa_nil rfl) rfl))) (eo_val (PE.frz (ev_con pe_int (fun F => R.int _))))))) aa_nil rfl) rfl)))) (ea_cons (PE.frz (ev_con pe_int (fun F => R.int _))) ea_nil rfl) rfl) rfl) rfl))))))
theorem sc__law_dice : FnScope N__law_dice [Str.ofString "_law_script"] (defScope (top 19)) := ⟨rfl, rfl, rfl, nd__law_dice, rfl, by decide +kernel, by decide +kernel⟩
theorem ok__law_dice {P : Program} {w : World} {K : W.Frag} {mg : Str → Option Value} {base : Heap} {f : Addr} {fd : FuncData} (F : FunD K (Str.ofString "_law_dice") (Str.ofString "_law_dice") (defArgs (top 19)) (defBody (top 19)) (defScope (top 19)) [] [] f fd) (gX : mg (Str.ofString "_law_dice") = some (.ref f)) (b_int : mg (Str.ofString "int") = none) (b_len : mg (Str.ofString "len") = none) : CallD P w K mg base 1 (Str.ofString "_law_dice") [false] [] fn__law_dice :=
  ⟨f, fd, [Str.ofString "_law_script"], [], [], fn_of F sc__law_dice rfl (fun cdv A outer s H E hr => bd__law_dice (CX := CX0) (E := E) hr (b_int := b_int) (b_len := b_len)), gX, F.kp, F.bindsN fun _ _ _ _ _ _ us hl => match us, hl with | [_], _ => rfl, .nil, fun _ => .nil⟩
abbrev N__law_next : List Str := [Str.ofString "_law_dice_here", Str.ofString "_law_many", Str.ofString "_law_found", Str.ofString "_law_cell"]
def fb__law_next : Fs := (seqF (ifF (cmpT bGt (ovF (frzF (ixE gSub2 (orefF 0) (frzF (conE (.int 3)))))) (ovF (frzF (conE (.int 0))))) (seqF (setF 2 (op2E gMod (frzF (ixE gSub2 (orefF 0) (frzF (conE (.int 3))))) (frzF (varE 1)))) (seqF (setItF gPut2 0 (frzF (op2E gFdiv (frzF (ixE gSub2 (orefF 0) (frzF (conE (.int 3))))) (frzF (varE 1)))) (frzF (conE (.int 3)))) (retVarF 2))) nextF) (seqF (setItF gPut2 0 (frzF (op2E gAdd (frzF (ixE gSub2 (orefF 0) (frzF (conE (.int 1))))) (frzF (conE (.int 1))))) (frzF (conE (.int 1)))) (seqF (ifF (cmpT bLe (ovF (frzF (ixE gSub2 (orefF 0) (frzF (conE (.int 1)))))) (ovF (frzF (opLE (fun ds => (gLen ds).or (gLenS ds)) (aoF (ovF (frzF (ixE gSub2 (orefF 0) (frzF (conE (.int 0)))))) anilF))))) (seqF (setF 3 (ixE gSub2 (ovF (frzF (ixE gSub2 (orefF 0) (frzF (conE (.int 0)))))) (frzF (op2E gSub (frzF (ixE gSub2 (orefF 0) (frzF (conE (.int 1))))) (frzF (conE (.int 1))))))) (seqF (setItF gPut2 0 (frzF (iteE (cmpT bGe (orefF 3) (ovF (frzF (op2E gPow (frzF (conE (.int 10))) (frzF (conE (.int 18))))))) (op2E gFdiv (frzF (varE 3)) (frzF (varE 1))) (conE (.int 0)))) (frzF (conE (.int 3)))) (retF (op2E gMod (frzF (varE 3)) (frzF (varE 1)))))) nextF) (seqF (setItF gPut2 0 (frzF (op2E gMod (frzF (op2E gMul (frzF (ixE gSub2 (orefF 0) (frzF (conE (.int 2))))) (frzF (conE (.int 48271))))) (frzF (conE (.int 2147483647))))) (frzF (conE (.int 2)))) (retF (op2E gMod (frzF (op2E gFdiv (frzF (ixE gSub2 (orefF 0) (frzF (conE (.int 2))))) (frzF (conE (.int 7))))) (frzF (varE 1))))))))
def fn__law_next : List D → Option (Re × List D) := bodyF [true, false] 2 fb__law_next
theorem nd__law_next : (N__law_next).Nodup := by decide +kernel
theorem bd__law_next {CX : CXT} {P : Program} {w : World} {K : W.Frag} {mg : Str → Option Value} {base : Heap} {qual : Str} {f : Addr} {cdv : Value} {A : Around} {outer : List Env} {s : Shared} {H : Hp} {E : XK} (hr : Room 0 (A.deeper (PyProof.Rows.envOfC qual (defScope (top 20)) s.heap.objs.size f cdv))) (b_len : mg (Str.ofString "len") = none) : PSs (cxOf CX0 P w K mg base N__law_next qual (defScope (top 20)) f cdv A outer s H E) (defBody (top 20)) (tS K fb__law_next) :=
  have hu64 := units64 hr
  have hu1 := units1 hr
  have hu65 := units65 hr
  have nd := nd__law_next
  PSs.nox (es_cons (es_if (ct_gt (eo_val (PE.frz (ev_sub2 hu1 (eo_var (i := 0) rfl (by first | exact Or.inl rfl | exact Or.inr (Or.inl rfl) | exact Or.inr (Or.inr rfl)) rfl rfl) (PE.frz (ev_con pe_int (fun F => R.int _))) (fun _ _ => rfl) (fun _ _ => rfl)))) (eo_val (PE.frz (ev_con pe_int (fun F => R.int _))))) (es_cons (es_set (i := 2) nd rfl (by first | exact Or.inl rfl | exact Or.inr rfl) (ev_mod (PE.frz (ev_sub2 hu1 (eo_var (i := 0) rfl (by first | exact Or.inl rfl | exact Or.inr (Or.inl rfl) | exact Or.inr (Or.inr rfl)) rfl rfl) (PE.frz (ev_con pe_int (fun F => R.int _))) (fun _ _ => rfl) (fun _ _ => rfl))) (PE.frz (ev_var (i := 1) rfl (by first | exact Or.inl rfl | exact Or.inr (Or.inl rfl) | exact Or.inr (Or.inr rfl)) rfl rfl))) rfl (by first | exact Or.inl rfl | exact Or.inr rfl)) (es_cons (es_setI (k := 0) hu1 rfl (by first | exact Or.inl rfl | exact Or.inr (Or.inl rfl) | exact Or.inr (Or.inr rfl)) rfl rfl (PE.frz (ev_fdiv (PE.frz (ev_sub2 hu1 (eo_var (i := 0) rfl (by first | exact Or.inl rfl | exact Or.inr (Or.inl rfl) | exact Or.inr (Or.inr rfl)) rfl rfl) (PE.frz (ev_con pe_int (fun F => R.int _))) (fun _ _ => rfl) (fun _ _ => rfl))) (PE.frz (ev_var (i := 1) rfl (by first | exact Or.inl rfl | exact Or.inr (Or.inl rfl) | exact Or.inr (Or.inr rfl)) rfl rfl)))) (PE.frz (ev_con pe_int (fun F => R.int _))) (fun _ => rfl) rfl rfl rfl rfl) (es_one (es_retVar (i := 2) rfl (by first | exact Or.inl rfl | exact Or.inr (Or.inl rfl) | exact Or.inr (Or.inr rfl)) rfl rfl)))) es_nil) (es_cons (es_setI (k := 0) hu1 rfl (by first | exact Or.inl rfl | exact Or.inr (Or.inl rfl) | exact Or.inr (Or.inr rfl)) rfl rfl (PE.frz (ev_add (PE.frz (ev_sub2 hu1 (eo_var (i := 0) rfl (by first | exact Or.inl rfl | exact Or.inr (Or.inl rfl) | exact Or.inr (Or.inr rfl)) rfl rfl) (PE.frz (ev_con pe_int (fun F => R.int _))) (fun _ _ => rfl) (fun _ _ => rfl))) (PE.frz (ev_con pe_int (fun F => R.int _))))) (PE.frz (ev_con pe_int (fun F => R.int _))) (fun _ => rfl) rfl rfl rfl rfl) (es_cons (es_if (ct_le (eo_val (PE.frz (ev_sub2 hu1 (eo_var (i := 0) rfl (by first | exact Or.inl rfl | exact Or.inr (Or.inl rfl) | exact Or.inr (Or.inr rfl)) rfl rfl) (PE.frz (ev_con pe_int (fun F => R.int _))) (fun _ _ => rfl) (fun _ _ => rfl)))) (eo_val (PE.frz (ev_len rfl b_len (aa_consO (eo_val (PE.frz (ev_sub2 hu1 (eo_var (i := 0) rfl (by first | exact Or.inl rfl | exact Or.inr (Or.inl rfl) | exact Or.inr (Or.inr rfl)) rfl rfl) (PE.frz (ev_con pe_int (fun F => R.int _))) (fun _ _ => rfl) (fun _ _ => rfl)))) aa_nil rfl) rfl)))) (es_cons (es_set (i := 3) nd rfl (by first | exact Or.inl rfl | exact Or.inr rfl) (ev_sub2 hu1 (eo_val (PE.frz (ev_sub2 hu1 (eo_var (i := 0) rfl (by first | exact Or.inl rfl | exact Or.inr (Or.inl rfl) | exact Or.inr (Or.inr rfl)) rfl rfl) (PE.frz (ev_con pe_int (fun F => R.int _))) (fun _ _ => rfl) (fun _ _ => rfl)))) (PE.frz (ev_sub (PE.frz (ev_sub2 hu1 (eo_var (i := 0) rfl (by first | exact Or.inl rfl | exact Or.inr (Or.inl rfl) | exact Or.inr (Or.inr rfl)) rfl rfl) (PE.frz (ev_con pe_int (fun F => R.int _))) (fun _ _ => rfl) (fun _ _ => rfl))) (PE.frz (ev_con pe_int (fun F => R.int _))))) (fun _ _ => rfl) (fun _ _ => rfl)) rfl (by first | exact Or.inl rfl | exact Or.inr rfl)) (es_cons (es_setI (k := 0) hu1 rfl (by first | exact Or.inl rfl | exact Or.inr (Or.inl rfl) | exact Or.inr (Or.inr rfl)) rfl rfl (PE.frz (ev_ite (ct_ge (eo_var (i := 3) rfl (by first | exact Or.inl rfl | exact Or.inr (Or.inl rfl) | exact Or.inr (Or.inr rfl)) rfl rfl) (eo_val (PE.frz (ev_pow (PE.frz (ev_con pe_int (fun F => R.int _))) (PE.frz (ev_con pe_int (fun F => R.int _))))))) (ev_fdiv (PE.frz (ev_var (i := 3) rfl (by first | exact Or.inl rfl | exact Or.inr (Or.inl rfl) | exact Or.inr (Or.inr rfl)) rfl rfl)) (PE.frz (ev_var (i := 1) rfl (by first | exact Or.inl rfl | exact Or.inr (Or.inl rfl) | exact Or.inr (Or.inr rfl)) rfl rfl))) (ev_con pe_int (fun F => R.int _)))) (PE.frz (ev_con pe_int (fun F => R.int _))) (fun _ => rfl) rfl rfl rfl rfl) (es_one (es_ret (ev_mod (PE.frz (ev_var (i := 3) rfl (by first | exact Or.inl rfl | exact Or.inr (Or.inl rfl) | exact Or.inr (Or.inr rfl)) rfl rfl)) (PE.frz (ev_var (i := 1) rfl (by first | exact Or.inl rfl | exact Or.inr (Or.inl rfl) | exact Or.inr (Or.inr rfl)) rfl rfl))))))) es_nil) (es_cons (es_setI (k := 0) hu1 rfl (by first | exact Or.inl rfl | exact Or.inr (Or.inl rfl) | exact Or.inr (Or.inr rfl)) rfl rfl (PE.frz (ev_mod (PE.frz (ev_mul (PE.frz (ev_sub2 hu1 (eo_var (i := 0) rfl (by first | exact Or.inl rfl | exact Or.inr (Or.inl rfl) | exact Or.inr (Or.inr rfl)) rfl rfl) (PE.frz (ev_con pe_int (fun F => R.int _))) (fun _ _ => rfl) (fun _ _ => rfl))) (PE.frz (ev_con pe_int (fun F => R.int _))))) (PE.frz (ev_con pe_int (fun F => R.int _))))) (PE.frz (ev_con pe_int (fun F => R.int _))) (fun _ => rfl) rfl rfl rfl rfl) (es_one (es_ret (ev_mod (PE.frz (ev_fdiv (PE.frz (ev_sub2 hu1 (eo_var (i := 0) rfl (by first | exact Or.inl rfl | exact Or.inr (Or.inl rfl) | exact Or.inr (Or.inr rfl)) rfl rfl) (PE.frz (ev_con pe_int (fun F => R.int _))) (fun _ _ => rfl) (fun _ _ => rfl))) (PE.frz (ev_con pe_int (fun F => R.int _))))) (PE.frz (ev_var (i := 1) rfl (by first | exact Or.inl rfl | exact Or.inr (Or.inl rfl) | exact Or.inr (Or.inr rfl)) rfl rfl)))))))))
theorem sc__law_next : FnScope N__law_next [Str.ofString "_law_dice_here", Str.ofString "_law_many"] (defScope (top 20)) := ⟨rfl, rfl, rfl, nd__law_next, rfl, by decide +kernel, by decide +kernel⟩
theorem ok__law_next {P : Program} {w : World} {K : W.Frag} {mg : Str → Option Value} {base : Heap} {f : Addr} {fd : FuncData} (F : FunD K (Str.ofString "_law_next") (Str.ofString "_law_next") (defArgs (top 20)) (defBody (top 20)) (defScope (top 20)) [] [] f fd) (gX : mg (Str.ofString "_law_next") = some (.ref f)) (b_len : mg (Str.ofString "len") = none) : CallD P w K mg base 1 (Str.ofString "_law_next") [true, false] [] fn__law_next :=
  ⟨f, fd, [Str.ofString "_law_dice_here", Str.ofString "_law_many"], [], [], fn_of F sc__law_next rfl (fun cdv A outer s H E hr => bd__law_next (CX := CX0) (E := E) hr (b_len := b_len)), gX, F.kp, F.bindsN fun _ _ _ _ _ _ us hl => match us, hl with | [_, _], _ => rfl, .nil, fun _ => .nil⟩
abbrev N__law_like : List Str := [Str.ofString "_law_found", Str.ofString "_law_due", Str.ofString "_law_key", Str.ofString "_law_k"]
def lb__law_like_1 (fn_rec : List D → Option (Re × List D)) : Fs := (ifF (notF (truO (ovF (frzF (callE [false, false] [] fn_rec (avF (frzF (ixE gSub2 (orefF 0) (frzF (varE 3)))) (avF (frzF (ixE gSub2 (orefF 1) (frzF (varE 3)))) anilF))))))) (retF (conE (.bl false))) nextF)
def cc__law_like_2 (fn_rec : List D → Option (Re × List D)) : Fb := (orF (cmpT (bIn2 true) (orefF 2) (orefF 0)) (notF (truO (ovF (frzF (callE [false, false] [] fn_rec (avF (frzF (ixE gSub2 (orefF 0) (frzF (varE 2)))) (avF (frzF (ixE gSub2 (orefF 1) (frzF (varE 2)))) anilF))))))))
def ce__law_like_3 : Fv := (frzF (varE 2))
def fb__law_like (fn_rec : List D → Option (Re × List D)) : Fs := (seqF (ifF (truO (ovF (frzF (isiE "bool" (orefF 1))))) (retF (andE (frzF (isiE "bool" (orefF 0))) (cmpE (bEq false) (orefF 0) (orefF 1)))) nextF) (seqF (ifF (truO (ovF (frzF (isiE "str" (orefF 1))))) (retF (andE (frzF (isiE "str" (orefF 0))) (cmpE (bEq false) (orefF 0) (orefF 1)))) nextF) (seqF (ifF (truO (ovF (frzF (isiE "int" (orefF 1))))) (retF (andE (frzF (isiE "int" (orefF 0))) (andE (frzF (notE (frzF (isiE "bool" (orefF 0))))) (cmpE (bEq false) (orefF 0) (orefF 1))))) nextF) (seqF (ifF (cmpT (bIsN false) (orefF 1) (ovF (frzF (conE .non)))) (retF (cmpE (bIsN false) (orefF 0) (ovF (frzF (conE .non))))) nextF) (seqF (ifF (truO (ovF (frzF (isiE "dict" (orefF 1))))) (seqF (ifF (orF (notF (truO (ovF (frzF (isiE "dict" (orefF 0)))))) (cmpT (bEq true) (ovF (frzF (opLE (fun ds => (gLen ds).or (gLenS ds)) (aoF (orefF 0) anilF)))) (ovF (frzF (opLE (fun ds => (gLen ds).or (gLenS ds)) (aoF (orefF 1) anilF)))))) (retF (conE (.bl false))) nextF) (retF (cmpE (bEq false) (ovF (frzF (lcE [2] (.nm 2) (frzF (varE 1)) (cc__law_like_2 fn_rec) ce__law_like_3))) (ovF (frzF (lstE nilF)))))) nextF) (seqF (ifF (orF (cmpT (bEq true) (ovF (frzF (isiE "tuple" (orefF 1)))) (ovF (frzF (isiE "tuple" (orefF 0))))) (cmpT (bEq true) (ovF (frzF (isiE "list" (orefF 1)))) (ovF (frzF (isiE "list" (orefF 0)))))) (retF (conE (.bl false))) nextF) (seqF (ifF (cmpT (bEq true) (ovF (frzF (opLE (fun ds => (gLen ds).or (gLenS ds)) (aoF (orefF 0) anilF)))) (ovF (frzF (opLE (fun ds => (gLen ds).or (gLenS ds)) (aoF (orefF 1) anilF))))) (retF (conE (.bl false))) nextF) (seqF (rngF rngD1 (.nm 3) (consF (frzF (opLE (fun ds => (gLen ds).or (gLenS ds)) (aoF (orefF 1) anilF))) nilF) (lb__law_like_1 fn_rec)) (retF (conE (.bl true)))))))))))
def fn__law_like : Nat → List D → Option (Re × List D)
  | 0 => fun _ => none
  | n + 1 => bodyF [false, false] 2 (fb__law_like (fn__law_like n))
theorem eq__law_like (n : Nat) : fn__law_like (n + 1) = bodyF [false, false] 2 (fb__law_like (fn__law_like n)) := rfl
theorem nd__law_like : (N__law_like).Nodup := by decide +kernel
theorem bd__law_like {fn_rec : List D → Option (Re × List D)} {lv : Nat} {CX : CXT} {P : Program} {w : World} {K : W.Frag} {mg : Str → Option Value} {base : Heap} {qual : Str} {f : Addr} {cdv : Value} {A : Around} {outer : List Env} {s : Shared} {H : Hp} {E : XK} (hr : Room lv (A.deeper (PyProof.Rows.envOfC qual (defScope (top 21)) s.heap.objs.size f cdv))) (b_bool : mg (Str.ofString "bool") = none) (b_dict : mg (Str.ofString "dict") = none) (b_int : mg (Str.ofString "int") = none) (b_isinstance : mg (Str.ofString "isinstance") = none) (b_len : mg (Str.ofString "len") = none) (b_list : mg (Str.ofString "list") = none) (b_range : mg (Str.ofString "range") = none) (b_str : mg (Str.ofString "str") = none) (b_tuple : mg (Str.ofString "tuple") = none) (d__law_like : CallD P w K mg base lv (Str.ofString "_law_like") [false, false] [] fn_rec) : PSs (cxOf CX0 P w K mg base N__law_like qual (defScope (top 21)) f cdv A outer s H E) (defBody (top 21)) (tS K (fb__law_like fn_rec)) :=
  have hu64 := units64 hr
  have hu1 := units1 hr
  have hu65 := units65 hr
  have nd := nd__law_like
  PSs.nox (es_cons (es_if (et_look (eo_val (PE.frz (ev_isi (T := "bool") (eo_var (i := 1) rfl (by first | exact Or.inl rfl | exact Or.inr (Or.inl rfl) | exact Or.inr (Or.inr rfl)) rfl rfl) rfl b_isinstance (by decide +kernel) rfl b_bool (by decide +kernel) (by decide) (by decide) rfl rfl rfl))) (fun _ => rfl)) (es_one (es_ret (ev_and (PE.frz (ev_isi (T := "bool") (eo_var (i := 0) rfl (by first | exact Or.inl rfl | exact Or.inr (Or.inl rfl) | exact Or.inr (Or.inr rfl)) rfl rfl) rfl b_isinstance (by decide +kernel) rfl b_bool (by decide +kernel) (by decide) (by decide) rfl rfl rfl)) (ev_one (ec_eq (eo_var (i := 0) rfl (by first | exact Or.inl rfl | exact Or.inr (Or.inl rfl) | exact Or.inr (Or.inr rfl)) rfl rfl) (eo_var (i := 1) rfl (by first | exact Or.inl rfl | exact Or.inr (Or.inl rfl) | exact Or.inr (Or.inr rfl)) rfl rfl) hu64))))) es_nil) (es_cons (es_if (et_look (eo_val (PE.frz (ev_isi (T := "str") (eo_var (i := 1) rfl (by first | exact Or.inl rfl | exact Or.inr (Or.inl rfl) | exact Or.inr (Or.inr rfl)) rfl rfl) rfl b_isinstance (by decide +kernel) rfl b_str (by decide +kernel) (by decide) (by decide) rfl rfl rfl))) (fun _ => rfl)) (es_one (es_ret (ev_and (PE.frz (ev_isi (T := "str") (eo_var (i := 0) rfl (by first | exact Or.inl rfl | exact Or.inr (Or.inl rfl) | exact Or.inr (Or.inr rfl)) rfl rfl) rfl b_isinstance (by decide +kernel) rfl b_str (by decide +kernel) (by decide) (by decide) rfl rfl rfl)) (ev_one (ec_eq (eo_var (i := 0) rfl (by first | exact Or.inl rfl | exact Or.inr (Or.inl rfl) | exact Or.inr (Or.inr rfl)) rfl rfl) (eo_var (i := 1) rfl (by first | exact Or.inl rfl | exact Or.inr (Or.inl rfl) | exact Or.inr (Or.inr rfl)) rfl rfl) hu64))))) es_nil) (es_cons (es_if (et_look (eo_val (PE.frz (ev_isi (T := "int") (eo_var (i := 1) rfl (by first | exact Or.inl rfl | exact Or.inr (Or.inl rfl) | exact Or.inr (Or.inr rfl)) rfl rfl) rfl b_isinstance (by decide +kernel) rfl b_int (by decide +kernel) (by decide) (by decide) rfl rfl rfl))) (fun _ => rfl)) (es_one (es_ret (ev_and (PE.frz (ev_isi (T := "int") (eo_var (i := 0) rfl (by first | exact Or.inl rfl | exact Or.inr (Or.inl rfl) | exact Or.inr (Or.inr rfl)) rfl rfl) rfl b_isinstance (by decide +kernel) rfl b_int (by decide +kernel) (by decide) (by decide) rfl rfl rfl)) (ev_and (PE.frz (ev_not (PE.frz (ev_isi (T := "bool") (eo_var (i := 0) rfl (by first | exact Or.inl rfl | exact Or.inr (Or.inl rfl) | exact Or.inr (Or.inr rfl)) rfl rfl) rfl b_isinstance (by decide +kernel) rfl b_bool (by decide +kernel) (by decide) (by decide) rfl rfl rfl)))) (ev_one (ec_eq (eo_var (i := 0) rfl (by first | exact Or.inl rfl | exact Or.inr (Or.inl rfl) | exact Or.inr (Or.inr rfl)) rfl rfl) (eo_var (i := 1) rfl (by first | exact Or.inl rfl | exact Or.inr (Or.inl rfl) | exact Or.inr (Or.inr rfl)) rfl rfl) hu64)))))) es_nil) (es_cons (es_if (ct_isN (eo_var (i := 1) rfl (by first | exact Or.inl rfl | exact Or.inr (Or.inl rfl) | exact Or.inr (Or.inr rfl)) rfl rfl) (eo_val (PE.frz (ev_con pe_non (fun F => R.non))))) (es_one (es_ret (ec_isN (eo_var (i := 0) rfl (by first | exact Or.inl rfl | exact Or.inr (Or.inl rfl) | exact Or.inr (Or.inr rfl)) rfl rfl) (eo_val (PE.frz (ev_con pe_non (fun F => R.non))))))) es_nil) (es_cons (es_if (et_look (eo_val (PE.frz (ev_isi (T := "dict") (eo_var (i := 1) rfl (by first | exact Or.inl rfl | exact Or.inr (Or.inl rfl) | exact Or.inr (Or.inr rfl)) rfl rfl) rfl b_isinstance (by decide +kernel) rfl b_dict (by decide +kernel) (by decide) (by decide) rfl rfl rfl))) (fun _ => rfl)) (es_cons (es_if (PW.pt (et_or (et_not (et_look (eo_val (PE.frz (ev_isi (T := "dict") (eo_var (i := 0) rfl (by first | exact Or.inl rfl | exact Or.inr (Or.inl rfl) | exact Or.inr (Or.inr rfl)) rfl rfl) rfl b_isinstance (by decide +kernel) rfl b_dict (by decide +kernel) (by decide) (by decide) rfl rfl rfl))) (fun _ => rfl))) (pw_or1 (ct_ne (eo_val (PE.frz (ev_len rfl b_len (aa_consO (eo_var (i := 0) rfl (by first | exact Or.inl rfl | exact Or.inr (Or.inl rfl) | exact Or.inr (Or.inr rfl)) rfl rfl) aa_nil rfl) rfl))) (eo_val (PE.frz (ev_len rfl b_len (aa_consO (eo_var (i := 1) rfl (by first | exact Or.inl rfl | exact Or.inr (Or.inl rfl) | exact Or.inr (Or.inr rfl)) rfl rfl) aa_nil rfl) rfl))) hu64)))) (es_one (es_ret (ev_con pe_bl (fun F => R.bl _)))) es_nil) (es_one (es_ret (ec_eq (eo_val (PE.frz (ev_lc rfl nd (PE.frz (ev_var (i := 1) rfl (by first | exact Or.inl rfl | exact Or.inr (Or.inl rfl) | exact Or.inr (Or.inr rfl)) rfl rfl)) (blkOk_by (own := [(Str.ofString "_law_key", 2)]) (N := N__law_like) (sc := defScope (top 21)) (by decide +kernel)) (fun _ _ _ _ _ => (eg_name (i := 2) nd rfl (by first | exact Or.inl rfl | exact Or.inr rfl) (by first | exact Or.inl rfl | exact Or.inr rfl))) (fun _ _ _ _ _ => (ets_one (PW.pt (et_or (ct_notIn2 hu65 (eo_var (i := 2) rfl (by first | exact Or.inl rfl | exact Or.inr (Or.inl rfl) | exact Or.inr (Or.inr rfl)) rfl rfl) (eo_var (i := 0) rfl (by first | exact Or.inl rfl | exact Or.inr (Or.inl rfl) | exact Or.inr (Or.inr rfl)) rfl rfl) rfl) (pw_or1 (et_not (et_look (eo_val (PE.frz (ev_c d__law_like (hr.mono (Nat.le_refl _)) rfl (aa_consV (PE.frz (ev_sub2 hu1 (eo_var (i := 0) rfl (by first | exact Or.inl rfl | exact Or.inr (Or.inl rfl) | exact Or.inr (Or.inr rfl)) rfl rfl) (PE.frz (ev_var (i := 2) rfl (by first | exact Or.inl rfl | exact Or.inr (Or.inl rfl) | exact Or.inr (Or.inr rfl)) rfl rfl)) (fun _ _ => rfl) (fun _ _ => rfl))) (aa_consV (PE.frz (ev_sub2 hu1 (eo_var (i := 1) rfl (by first | exact Or.inl rfl | exact Or.inr (Or.inl rfl) | exact Or.inr (Or.inr rfl)) rfl rfl) (PE.frz (ev_var (i := 2) rfl (by first | exact Or.inl rfl | exact Or.inr (Or.inl rfl) | exact Or.inr (Or.inr rfl)) rfl rfl)) (fun _ _ => rfl) (fun _ _ => rfl))) aa_nil rfl) rfl) rfl rfl rfl))) (fun _ => rfl)))))))) (fun _ _ _ _ _ => (PE.frz (ev_var (i := 2) rfl (by first | exact Or.inl rfl | exact Or.inr (Or.inl rfl) | exact Or.inr (Or.inr rfl)) rfl rfl))) (fun _ => rfl) (by decide) rfl))) (eo_val (PE.frz (ev_lst ea_nil))) hu64)))) es_nil) (es_cons (es_if (PW.pt (et_or (ct_ne (eo_val (PE.frz (ev_isi (T := "tuple") (eo_var (i := 1) rfl (by first | exact Or.inl rfl | exact Or.inr (Or.inl rfl) | exact Or.inr (Or.inr rfl)) rfl rfl) rfl b_isinstance (by decide +kernel) rfl b_tuple (by decide +kernel) (by decide) (by decide) rfl rfl rfl))) (eo_val (PE.frz (ev_isi (T := "tuple") (eo_var (i := 0) rfl (by first | exact Or.inl rfl | exact Or.inr (Or.inl rfl) | exact Or.inr (Or.inr rfl)) rfl rfl) rfl b_isinstance (by decide +kernel) rfl b_tuple (by decide +kernel) (by decide) (by decide) rfl rfl rfl))) hu64) (pw_or1 (ct_ne (eo_val (PE.frz (ev_isi (T := "list") (eo_var (i := 1) rfl (by first | exact Or.inl rfl | exact Or.inr (Or.inl rfl) | exact Or.inr (Or.inr rfl)) rfl rfl) rfl b_isinstance (by decide +kernel) rfl b_list (by decide +kernel) (by decide) (by decide) rfl rfl rfl))) (eo_val (PE.frz (ev_isi (T := "list") (eo_var (i := 0) rfl (by first | exact Or.inl rfl | exact Or.inr (Or.inl rfl) | exact Or.inr (Or.inr rfl)) rfl rfl) rfl b_isinstance (by decide +kernel) rfl b_list (by decide +kernel) (by decide) (by decide) rfl rfl rfl))) hu64)))) (es_one (es_ret (ev_con pe_bl (fun F => R.bl _)))) es_nil) (es_cons (es_if (ct_ne (eo_val (PE.frz (ev_len rfl b_len (aa_consO (eo_var (i := 0) rfl (by first | exact Or.inl rfl | exact Or.inr (Or.inl rfl) | exact Or.inr (Or.inr rfl)) rfl rfl) aa_nil rfl) rfl))) (eo_val (PE.frz (ev_len rfl b_len (aa_consO (eo_var (i := 1) rfl (by first | exact Or.inl rfl | exact Or.inr (Or.inl rfl) | exact Or.inr (Or.inr rfl)) rfl rfl) aa_nil rfl) rfl))) hu64) (es_one (es_ret (ev_con pe_bl (fun F => R.bl _)))) es_nil) (es_cons (es_range1 PassesOwn.never rfl rfl b_range (ea_cons (PE.frz (ev_len rfl b_len (aa_consO (eo_var (i := 1) rfl (by first | exact Or.inl rfl | exact Or.inr (Or.inl rfl) | exact Or.inr (Or.inr rfl)) rfl rfl) aa_nil rfl) rfl)) ea_nil rfl) (eg_name (i := 3) nd rfl (by first | exact Or.inl rfl | exact Or.inr rfl) (by first | exact Or.inl rfl | exact Or.inr rfl)) (es_one (es_if (et_not (et_look (eo_val (PE.frz (ev_c d__law_like (hr.mono (Nat.le_refl _)) rfl (aa_consV (PE.frz (ev_sub2 hu1 (eo_var (i := 0) rfl (by first | exact Or.inl rfl | exact Or.inr (Or.inl rfl) | exact Or.inr (Or.inr rfl)) rfl rfl) (PE.frz (ev_var (i := 3) rfl (by first | exact Or.inl rfl | exact Or.inr (Or.inl rfl) | exact Or.inr (Or.inr rfl)) rfl rfl)) (fun _ _ => rfl) (fun _ _ => rfl))) (aa_consV (PE.frz (ev_sub2 hu1 (eo_var (i := 1) rfl (by first | exact Or.inl rfl | exact Or.inr (Or.inl rfl) | exact Or.inr (Or.inr rfl)) rfl rfl) (PE.frz (ev_var (i := 3) rfl (by first | exact Or.inl rfl | exact Or.inr (Or.inl rfl) | exact Or.inr (Or.inr rfl)) rfl rfl)) (fun _ _ => rfl) (fun _ _ => rfl))) aa_nil rfl) rfl) rfl rfl rfl))) (fun _ => rfl))) (es_one (es_ret (ev_con pe_bl (fun F => R.bl _)))) es_nil)) rfl (fun _ => rfl)) (es_one (es_ret (ev_con pe_bl (fun F => R.bl _))))))))))))
theorem sc__law_like : FnScope N__law_like [Str.ofString "_law_found", Str.ofString "_law_due"] (defScope (top 21)) := ⟨rfl, rfl, rfl, nd__law_like, rfl, by decide +kernel, by decide +kernel⟩
theorem ok__law_like {P : Program} {w : World} {K : W.Frag} {mg : Str → Option Value} {base : Heap} {f : Addr} {fd : FuncData} (F : FunD K (Str.ofString "_law_like") (Str.ofString "_law_like") (defArgs (top 21)) (defBody (top 21)) (defScope (top 21)) [] [] f fd) (gX : mg (Str.ofString "_law_like") = some (.ref f)) (b_bool : mg (Str.ofString "bool") = none) (b_dict : mg (Str.ofString "dict") = none) (b_int : mg (Str.ofString "int") = none) (b_isinstance : mg (Str.ofString "isinstance") = none) (b_len : mg (Str.ofString "len") = none) (b_list : mg (Str.ofString "list") = none) (b_range : mg (Str.ofString "range") = none) (b_str : mg (Str.ofString "str") = none) (b_tuple : mg (Str.ofString "tuple") = none) : ∀ n : Nat, CallD P w K mg base n (Str.ofString "_law_like") [false, false] [] (fn__law_like n)
  | 0 => ⟨f, fd, [Str.ofString "_law_found", Str.ofString "_law_due"], [], [], fn_zero, gX, F.kp, F.bindsN fun _ _ _ _ _ _ us hl => match us, hl with | [_, _], _ => rfl, .nil, fun _ => .nil⟩
  | n + 1 => by
    have d__law_like := ok__law_like (P := P) (w := w) (base := base) F gX (b_bool := b_bool) (b_dict := b_dict) (b_int := b_int) (b_isinstance := b_isinstance) (b_len := b_len) (b_list := b_list) (b_range := b_range) (b_str := b_str) (b_tuple := b_tuple) n
    exact ⟨f, fd, [Str.ofString "_law_found", Str.ofString "_law_due"], [], [], fn_of F sc__law_like rfl (fun cdv A outer s H E hr => bd__law_like (CX := CX0) (E := E) hr (b_bool := b_bool) (b_dict := b_dict) (b_int := b_int) (b_isinstance := b_isinstance) (b_len := b_len) (b_list := b_list) (b_range := b_range) (b_str := b_str) (b_tuple := b_tuple) (d__law_like := d__law_like)), gX, F.kp, F.bindsN fun _ _ _ _ _ _ us hl => match us, hl with | [_, _], _ => rfl, .nil, fun _ => .nil⟩
abbrev N__law_names : List Str := [Str.ofString "_law_d", Str.ofString "_law_many", Str.ofString "_law_menu", Str.ofString "_law_found", Str.ofString "_law_k", Str.ofString "_law_name"]
def lb__law_names_1 : Fs := (seqF (setF 5 (mutE "list" gPopAt 2 (consF (frzF (callE [true, false] [] fn__law_next (arF 0 (avF (frzF (opLE (fun ds => (gLen ds).or (gLenS ds)) (aoF (orefF 2) anilF))) anilF)))) nilF))) (seqF (ifF (andF (cmpT (bEq false) (ovF (frzF (callE [true, false] [] fn__law_next (arF 0 (avF (frzF (conE (.int 3))) anilF))))) (ovF (frzF (conE (.int 2))))) (cmpT bLt (ovF (frzF (opLE (fun ds => (gLen ds).or (gLenS ds)) (aoF (orefF 5) anilF)))) (ovF (frzF (conE (.int 7)))))) (setF 5 (op2E gAdd (frzF (ixE gSub2 (ovF (frzF (conE (.str (Str.ofString "abcdefghijklmnopqrstuvwxyz"))))) (frzF (callE [true, false] [] fn__law_next (arF 0 (avF (frzF (conE (.int 26))) anilF)))))) (frzF (varE 5)))) nextF) (seqF (ifF (cmpT (bIn2 false) (orefF 5) (orefF 3)) (setF 5 (op2E gAdd (frzF (varE 5)) (frzF (conE (.str (Str.ofString "z")))))) nextF) (dropF (mutE "list" gAppend 3 (consF (frzF (varE 5)) nilF))))))
def fb__law_names : Fs := (seqF (setF 2 (lstE (consF (frzF (conE (.str (Str.ofString "a")))) (consF (frzF (conE (.str (Str.ofString "b")))) (consF (frzF (conE (.str (Str.ofString "ab")))) (consF (frzF (conE (.str (Str.ofString "or")))) (consF (frzF (conE (.str (Str.ofString "ba")))) (consF (frzF (conE (.str (Str.ofString "never")))) (consF (frzF (conE (.str (Str.ofString "same")))) (consF (frzF (conE (.str (Str.ofString "samewise")))) nilF)))))))))) (seqF (setF 3 (lstE nilF)) (seqF (rngF rngD1 (.nm 4) (consF (frzF (varE 1)) nilF) lb__law_names_1) (retVarF 3))))
def fn__law_names : List D → Option (Re × List D) := bodyF [true, false] 4 fb__law_names
theorem nd__law_names : (N__law_names).Nodup := by decide +kernel
theorem bd__law_names {CX : CXT} {P : Program} {w : World} {K : W.Frag} {mg : Str → Option Value} {base : Heap} {qual : Str} {f : Addr} {cdv : Value} {A : Around} {outer : List Env} {s : Shared} {H : Hp} {E : XK} (hr : Room 1 (A.deeper (PyProof.Rows.envOfC qual (defScope (top 22)) s.heap.objs.size f cdv))) (b_len : mg (Str.ofString "len") = none) (b_range : mg (Str.ofString "range") = none) (d__law_next : CallD P w K mg base 1 (Str.ofString "_law_next") [true, false] [] fn__law_next) : PSs (cxOf CX0 P w K mg base N__law_names qual (defScope (top 22)) f cdv A outer s H E) (defBody (top 22)) (tS K fb__law_names) :=
  have hu64 := units64 hr
  have hu1 := units1 hr
  have hu65 := units65 hr
  have nd := nd__law_names
  PSs.nox (es_cons (es_set (i := 2) nd rfl (by first | exact Or.inl rfl | exact Or.inr rfl) (ev_lst (ea_cons (PE.frz (ev_con pe_str (fun F => R.str _))) (ea_cons (PE.frz (ev_con pe_str (fun F => R.str _))) (ea_cons (PE.frz (ev_con pe_str (fun F => R.str _))) (ea_cons (PE.frz (ev_con pe_str (fun F => R.str _))) (ea_cons (PE.frz (ev_con pe_str (fun F => R.str _))) (ea_cons (PE.frz (ev_con pe_str (fun F => R.str _))) (ea_cons (PE.frz (ev_con pe_str (fun F => R.str _))) (ea_cons (PE.frz (ev_con pe_str (fun F => R.str _))) ea_nil rfl) rfl) rfl) rfl) rfl) rfl) rfl) rfl)) rfl (by first | exact Or.inl rfl | exact Or.inr rfl)) (es_cons (es_set (i := 3) nd rfl (by first | exact Or.inl rfl | exact Or.inr rfl) (ev_lst ea_nil) rfl (by first | exact Or.inl rfl | exact Or.inr rfl)) (es_cons (es_range1 PassesOwn.never rfl rfl b_range (ea_cons (PE.frz (ev_var (i := 1) rfl (by first | exact Or.inl rfl | exact Or.inr (Or.inl rfl) | exact Or.inr (Or.inr rfl)) rfl rfl)) ea_nil rfl) (eg_name (i := 4) nd rfl (by first | exact Or.inl rfl | exact Or.inr rfl) (by first | exact Or.inl rfl | exact Or.inr rfl)) (es_cons (es_set (i := 5) nd rfl (by first | exact Or.inl rfl | exact Or.inr rfl) (ev_mut (k := 2) rfl (by first | exact Or.inl rfl | exact Or.inr (Or.inl rfl) | exact Or.inr (Or.inr rfl)) rfl rfl PySem.F.plainAttrs_list PySem.F.slot_list_pop PySem.F.type_list_pop mt_popAt gPopAt_ok (ea_cons (PE.frz (ev_c d__law_next (hr.mono (by decide)) rfl (aa_consR (i := 0) rfl (by first | exact Or.inl rfl | exact Or.inr (Or.inl rfl) | exact Or.inr (Or.inr rfl)) rfl rfl (aa_consV (PE.frz (ev_len rfl b_len (aa_consO (eo_var (i := 2) rfl (by first | exact Or.inl rfl | exact Or.inr (Or.inl rfl) | exact Or.inr (Or.inr rfl)) rfl rfl) aa_nil rfl) rfl)) aa_nil rfl) rfl) rfl rfl rfl)) ea_nil rfl) rfl rfl rfl rfl rfl) rfl (by first | exact Or.inl rfl | exact Or.inr rfl)) (es_cons (es_if (PW.pt (et_and (ct_eq (eo_val (PE.frz (ev_c d__law_next (hr.mono (by decide)) rfl (aa_consR (i := 0) rfl (by first | exact Or.inl rfl | exact Or.inr (Or.inl rfl) | exact Or.inr (Or.inr rfl)) rfl rfl (aa_consV (PE.frz (ev_con pe_int (fun F => R.int _))) aa_nil rfl) rfl) rfl rfl rfl))) (eo_val (PE.frz (ev_con pe_int (fun F => R.int _)))) hu64) (pw_and1 (ct_lt (eo_val (PE.frz (ev_len rfl b_len (aa_consO (eo_var (i := 5) rfl (by first | exact Or.inl rfl | exact Or.inr (Or.inl rfl) | exact Or.inr (Or.inr rfl)) rfl rfl) aa_nil rfl) rfl))) (eo_val (PE.frz (ev_con pe_int (fun F => R.int _)))))))) (es_one (es_set (i := 5) nd rfl (by first | exact Or.inl rfl | exact Or.inr rfl) (ev_add (PE.frz (ev_sub2 hu1 (eo_val (PE.frz (ev_con pe_str (fun F => R.str _)))) (PE.frz (ev_c d__law_next (hr.mono (by decide)) rfl (aa_consR (i := 0) rfl (by first | exact Or.inl rfl | exact Or.inr (Or.inl rfl) | exact Or.inr (Or.inr rfl)) rfl rfl (aa_consV (PE.frz (ev_con pe_int (fun F => R.int _))) aa_nil rfl) rfl) rfl rfl rfl)) (fun _ _ => rfl) (fun _ _ => rfl))) (PE.frz (ev_var (i := 5) rfl (by first | exact Or.inl rfl | exact Or.inr (Or.inl rfl) | exact Or.inr (Or.inr rfl)) rfl rfl))) rfl (by first | exact Or.inl rfl | exact Or.inr rfl))) es_nil) (es_cons (es_if (ct_in2 hu65 (eo_var (i := 5) rfl (by first | exact Or.inl rfl | exact Or.inr (Or.inl rfl) | exact Or.inr (Or.inr rfl)) rfl rfl) (eo_var (i := 3) rfl (by first | exact Or.inl rfl | exact Or.inr (Or.inl rfl) | exact Or.inr (Or.inr rfl)) rfl rfl) rfl) (es_one (es_set (i := 5) nd rfl (by first | exact Or.inl rfl | exact Or.inr rfl) (ev_add (PE.frz (ev_var (i := 5) rfl (by first | exact Or.inl rfl | exact Or.inr (Or.inl rfl) | exact Or.inr (Or.inr rfl)) rfl rfl)) (PE.frz (ev_con pe_str (fun F => R.str _)))) rfl (by first | exact Or.inl rfl | exact Or.inr rfl))) es_nil) (es_one (es_expr (ev_mut (k := 3) rfl (by first | exact Or.inl rfl | exact Or.inr (Or.inl rfl) | exact Or.inr (Or.inr rfl)) rfl rfl PySem.F.plainAttrs_list PySem.F.slot_list_append PySem.F.type_list_append mt_append gAppend_ok (ea_cons (PE.frz (ev_var (i := 5) rfl (by first | exact Or.inl rfl | exact Or.inr (Or.inl rfl) | exact Or.inr (Or.inr rfl)) rfl rfl)) ea_nil rfl) rfl rfl rfl rfl rfl) rfl))))) rfl (fun _ => rfl)) (es_one (es_retVar (i := 3) rfl (by first | exact Or.inl rfl | exact Or.inr (Or.inl rfl) | exact Or.inr (Or.inr rfl)) rfl rfl)))))
theorem sc__law_names : FnScope N__law_names [Str.ofString "_law_d", Str.ofString "_law_many"] (defScope (top 22)) := ⟨rfl, rfl, rfl, nd__law_names, rfl, by decide +kernel, by decide +kernel⟩
theorem ok__law_names {P : Program} {w : World} {K : W.Frag} {mg : Str → Option Value} {base : Heap} {f : Addr} {fd : FuncData} (F : FunD K (Str.ofString "_law_names") (Str.ofString "_law_names") (defArgs (top 22)) (defBody (top 22)) (defScope (top 22)) [] [] f fd) (gX : mg (Str.ofString "_law_names") = some (.ref f)) (b_len : mg (Str.ofString "len") = none) (b_range : mg (Str.ofString "range") = none) (d__law_next : CallD P w K mg base 1 (Str.ofString "_law_next") [true, false] [] fn__law_next) : CallD P w K mg base 2 (Str.ofString "_law_names") [true, false] [] fn__law_names :=
  ⟨f, fd, [Str.ofString "_law_d", Str.ofString "_law_many"], [], [], fn_of F sc__law_names rfl (fun cdv A outer s H E hr => bd__law_names (CX := CX0) (E := E) hr (b_len := b_len) (b_range := b_range) (d__law_next := d__law_next)), gX, F.kp, F.bindsN fun _ _ _ _ _ _ us hl => match us, hl with | [_, _], _ => rfl, .nil, fun _ => .nil⟩
abbrev N__law_strip : List Str := [Str.ofString "_law_d", Str.ofString "_law_names_here", Str.ofString "_law_most", Str.ofString "_law_kind", Str.ofString "_law_first", Str.ofString "_law_found", Str.ofString "_law_k", Str.ofString "_law_cut", Str.ofString "_law_plot", Str.ofString "_law_at"]
def lb__law_strip_1 : Fs := (ifF (orF (andF (cmpT (bEq false) (orefF 3) (ovF (frzF (conE (.int 0))))) (cmpT (bEq false) (ovF (frzF (callE [true, false] [] fn__law_next (arF 0 (avF (frzF (conE (.int 2))) anilF))))) (ovF (frzF (conE (.int 1)))))) (andF (cmpT bGt (orefF 3) (ovF (frzF (conE (.int 0))))) (andF (cmpT bGe (orefF 9) (orefF 7)) (orF (cmpT (bEq false) (orefF 3) (ovF (frzF (conE (.int 1))))) (cmpT bLt (ovF (frzF (callE [true, false] [] fn__law_next (arF 0 (avF (frzF (conE (.int 4))) anilF))))) (ovF (frzF (conE (.int 3))))))))) (dropF (mutE "list" gAppend 8 (consF (frzF (ixE gSub2 (orefF 1) (frzF (varE 9)))) nilF))) nextF)
def lb__law_strip_2 : Fs := (seqF (setF 7 (op2E gAdd (frzF (op2E gSub (frzF (varE 4)) (frzF (conE (.int 1))))) (frzF (callE [true, false] [] fn__law_next (arF 0 (avF (frzF (conE (.int 3))) anilF)))))) (seqF (setF 8 (lstE nilF)) (seqF (rngF rngD1 (.nm 9) (consF (frzF (opLE (fun ds => (gLen ds).or (gLenS ds)) (aoF (orefF 1) anilF))) nilF) lb__law_strip_1) (dropF (mutE "list" gAppend 5 (consF (frzF (opLE gTuple (aoF (ovF (frzF (opLE gSortS (aoF (orefF 8) anilF)))) anilF))) nilF))))))
def fb__law_strip : Fs := (seqF (setF 3 (callE [true, false] [] fn__law_next (arF 0 (avF (frzF (conE (.int 3))) anilF)))) (seqF (setF 4 (callE [true, false] [] fn__law_next (arF 0 (avF (frzF (op2E gAdd (frzF (opLE (fun ds => (gLen ds).or (gLenS ds)) (aoF (orefF 1) anilF))) (frzF (conE (.int 1))))) anilF)))) (seqF (setF 5 (lstE nilF)) (seqF (rngF rngD1 (.nm 6) (consF (frzF (op2E gAdd (frzF (conE (.int 1))) (frzF (callE [true, false] [] fn__law_next (arF 0 (avF (frzF (varE 2)) anilF)))))) nilF) lb__law_strip_2) (retVarF 5)))))
def fn__law_strip : List D → Option (Re × List D) := bodyF [true, false, false] 7 fb__law_strip
theorem nd__law_strip : (N__law_strip).Nodup := by decide +kernel
theorem bd__law_strip {CX : CXT} {P : Program} {w : World} {K : W.Frag} {mg : Str → Option Value} {base : Heap} {qual : Str} {f : Addr} {cdv : Value} {A : Around} {outer : List Env} {s : Shared} {H : Hp} {E : XK} (hr : Room 1 (A.deeper (PyProof.Rows.envOfC qual (defScope (top 23)) s.heap.objs.size f cdv))) (b_len : mg (Str.ofString "len") = none) (b_range : mg (Str.ofString "range") = none) (b_sorted : mg (Str.ofString "sorted") = none) (b_tuple : mg (Str.ofString "tuple") = none) (d__law_next : CallD P w K mg base 1 (Str.ofString "_law_next") [true, false] [] fn__law_next) : PSs (cxOf CX0 P w K mg base N__law_strip qual (defScope (top 23)) f cdv A outer s H E) (defBody (top 23)) (tS K fb__law_strip) :=
  have hu64 := units64 hr
  have hu1 := units1 hr
  have hu65 := units65 hr
  have nd := nd__law_strip
  PSs.nox (es_cons (es_set (i := 3) nd rfl (by first | exact Or.inl rfl | exact Or.inr rfl) (ev_c d__law_next (hr.mono (by decide)) rfl (aa_consR (i := 0) rfl (by first | exact Or.inl rfl | exact Or.inr (Or.inl rfl) | exact Or.inr (Or.inr rfl)) rfl rfl (aa_consV (PE.frz (ev_con pe_int (fun F => R.int _))) aa_nil rfl) rfl) rfl rfl rfl) rfl (by first | exact Or.inl rfl | exact Or.inr rfl)) (es_cons (es_set (i := 4) nd rfl (by first | exact Or.inl rfl | exact Or.inr rfl) (ev_c d__law_next (hr.mono (by decide)) rfl (aa_consR (i := 0) rfl (by first | exact Or.inl rfl | exact Or.inr (Or.inl rfl) | exact Or.inr (Or.inr rfl)) rfl rfl (aa_consV (PE.frz (ev_add (PE.frz (ev_len rfl b_len (aa_consO (eo_var (i := 1) rfl (by first | exact Or.inl rfl | exact Or.inr (Or.inl rfl) | exact Or.inr (Or.inr rfl)) rfl rfl) aa_nil rfl) rfl)) (PE.frz (ev_con pe_int (fun F => R.int _))))) aa_nil rfl) rfl) rfl rfl rfl) rfl (by first | exact Or.inl rfl | exact Or.inr rfl)) (es_cons (es_set (i := 5) nd rfl (by first | exact Or.inl rfl | exact Or.inr rfl) (ev_lst ea_nil) rfl (by first | exact Or.inl rfl | exact Or.inr rfl)) (es_cons (es_range1 PassesOwn.never rfl rfl b_range (ea_cons (PE.frz (ev_add (PE.frz (ev_con pe_int (fun F => R.int _))) (PE.frz (ev_c d__law_next (hr.mono (by decide)) rfl (aa_consR (i := 0) rfl (by first | exact Or.inl rfl | exact Or.inr (Or.inl rfl) | exact Or.inr (Or.inr rfl)) rfl rfl (aa_consV (PE.frz (ev_var (i := 2) rfl (by first | exact Or.inl rfl | exact Or.inr (Or.inl rfl) | exact Or.inr (Or.inr rfl)) rfl rfl)) aa_nil rfl) rfl) rfl rfl rfl)))) ea_nil rfl) (eg_name (i := 6) nd rfl (by first | exact Or.inl rfl | exact Or.inr rfl) (by first | exact Or.inl rfl | exact Or.inr rfl)) (es_cons (es_set (i := 7) nd rfl (by first | exact Or.inl rfl | exact Or.inr rfl) (ev_add (PE.frz (ev_sub (PE.frz (ev_var (i := 4) rfl (by first | exact Or.inl rfl | exact Or.inr (Or.inl rfl) | exact Or.inr (Or.inr rfl)) rfl rfl)) (PE.frz (ev_con pe_int (fun F => R.int _))))) (PE.frz (ev_c d__law_next (hr.mono (by decide)) rfl (aa_consR (i := 0) rfl (by first | exact Or.inl rfl | exact Or.inr (Or.inl rfl) | exact Or.inr (Or.inr rfl)) rfl rfl (aa_consV (PE.frz (ev_con pe_int (fun F => R.int _))) aa_nil rfl) rfl) rfl rfl rfl))) rfl (by first | exact Or.inl rfl | exact Or.inr rfl)) (es_cons (es_set (i := 8) nd rfl (by first | exact Or.inl rfl | exact Or.inr rfl) (ev_lst ea_nil) rfl (by first | exact Or.inl rfl | exact Or.inr rfl)) (es_cons (es_range1 PassesOwn.never rfl rfl b_range (ea_cons (PE.frz (ev_len rfl b_len (aa_consO (eo_var (i := 1) rfl (by first | exact Or.inl rfl | exact Or.inr (Or.inl rfl) | exact Or.inr (Or.inr rfl)) rfl rfl) aa_nil rfl) rfl)) ea_nil rfl) (eg_name (i := 9) nd rfl (by first | exact Or.inl rfl | exact Or.inr rfl) (by first | exact Or.inl rfl | exact Or.inr rfl)) (es_one (es_if (PW.pt (et_or (PW.pt (et_and (ct_eq (eo_var (i := 3) rfl (by first | exact Or.inl rfl | exact Or.inr (Or.inl rfl) | exact Or.inr (Or.inr rfl)) rfl rfl) (eo_val (PE.frz (ev_con pe_int (fun F => R.int _)))) hu64) (pw_and1 (ct_eq (eo_val (PE.frz (ev_c d__law_next (hr.mono (by decide)) rfl (aa_consR (i := 0) rfl (by first | exact Or.inl rfl | exact Or.inr (Or.inl rfl) | exact Or.inr (Or.inr rfl)) rfl rfl (aa_consV (PE.frz (ev_con pe_int (fun F => R.int _))) aa_nil rfl) rfl) rfl rfl rfl))) (eo_val (PE.frz (ev_con pe_int (fun F => R.int _)))) hu64)))) (pw_or1 (PW.pt (et_and (ct_gt (eo_var (i := 3) rfl (by first | exact Or.inl rfl | exact Or.inr (Or.inl rfl) | exact Or.inr (Or.inr rfl)) rfl rfl) (eo_val (PE.frz (ev_con pe_int (fun F => R.int _))))) (et_and (ct_ge (eo_var (i := 9) rfl (by first | exact Or.inl rfl | exact Or.inr (Or.inl rfl) | exact Or.inr (Or.inr rfl)) rfl rfl) (eo_var (i := 7) rfl (by first | exact Or.inl rfl | exact Or.inr (Or.inl rfl) | exact Or.inr (Or.inr rfl)) rfl rfl)) (pw_and1 (PW.pt (et_or (ct_eq (eo_var (i := 3) rfl (by first | exact Or.inl rfl | exact Or.inr (Or.inl rfl) | exact Or.inr (Or.inr rfl)) rfl rfl) (eo_val (PE.frz (ev_con pe_int (fun F => R.int _)))) hu64) (pw_or1 (ct_lt (eo_val (PE.frz (ev_c d__law_next (hr.mono (by decide)) rfl (aa_consR (i := 0) rfl (by first | exact Or.inl rfl | exact Or.inr (Or.inl rfl) | exact Or.inr (Or.inr rfl)) rfl rfl (aa_consV (PE.frz (ev_con pe_int (fun F => R.int _))) aa_nil rfl) rfl) rfl rfl rfl))) (eo_val (PE.frz (ev_con pe_int (fun F => R.int _))))))))))))))) (es_one (es_expr (ev_mut (k := 8) rfl (by first | exact Or.inl rfl | exact Or.inr (Or.inl rfl) | exact Or.inr (Or.inr rfl)) rfl rfl PySem.F.plainAttrs_list PySem.F.slot_list_append PySem.F.type_list_append mt_append gAppend_ok (ea_cons (PE.frz (ev_sub2 hu1 (eo_var (i := 1) rfl (by first | exact Or.inl rfl | exact Or.inr (Or.inl rfl) | exact Or.inr (Or.inr rfl)) rfl rfl) (PE.frz (ev_var (i := 9) rfl (by first | exact Or.inl rfl | exact Or.inr (Or.inl rfl) | exact Or.inr (Or.inr rfl)) rfl rfl)) (fun _ _ => rfl) (fun _ _ => rfl))) ea_nil rfl) rfl rfl rfl rfl rfl) rfl)) es_nil)) rfl (fun _ => rfl)) (es_one (es_expr (ev_mut (k := 5) rfl (by first | exact Or.inl rfl | exact Or.inr (Or.inl rfl) | exact Or.inr (Or.inr rfl)) rfl rfl PySem.F.plainAttrs_list PySem.F.slot_list_append PySem.F.type_list_append mt_append gAppend_ok (ea_cons (PE.frz (ev_tuple rfl b_tuple (aa_consO (eo_val (PE.frz (ev_sorted rfl b_sorted (aa_consO (eo_var (i := 8) rfl (by first | exact Or.inl rfl | exact Or.inr (Or.inl rfl) | exact Or.inr (Or.inr rfl)) rfl rfl) aa_nil rfl) rfl))) aa_nil rfl) rfl)) ea_nil rfl) rfl rfl rfl rfl rfl) rfl))))) rfl (fun _ => rfl)) (es_one (es_retVar (i := 5) rfl (by first | exact Or.inl rfl | exact Or.inr (Or.inl rfl) | exact Or.inr (Or.inr rfl)) rfl rfl))))))
theorem sc__law_strip : FnScope N__law_strip [Str.ofString "_law_d", Str.ofString "_law_names_here", Str.ofString "_law_most"] (defScope (top 23)) := ⟨rfl, rfl, rfl, nd__law_strip, rfl, by decide +kernel, by decide +kernel⟩
theorem ok__law_strip {P : Program} {w : World} {K : W.Frag} {mg : Str → Option Value} {base : Heap} {f : Addr} {fd : FuncData} (F : FunD K (Str.ofString "_law_strip") (Str.ofString "_law_strip") (defArgs (top 23)) (defBody (top 23)) (defScope (top 23)) [] [] f fd) (gX : mg (Str.ofString "_law_strip") = some (.ref f)) (b_len : mg (Str.ofString "len") = none) (b_range : mg (Str.ofString "range") = none) (b_sorted : mg (Str.ofString "sorted") = none) (b_tuple : mg (Str.ofString "tuple") = none) (d__law_next : CallD P w K mg base 1 (Str.ofString "_law_next") [true, false] [] fn__law_next) : CallD P w K mg base 2 (Str.ofString "_law_strip") [true, false, false] [] fn__law_strip :=
  ⟨f, fd, [Str.ofString "_law_d", Str.ofString "_law_names_here", Str.ofString "_law_most"], [], [], fn_of F sc__law_strip rfl (fun cdv A outer s H E hr => bd__law_strip (CX := CX0) (E := E) hr (b_len := b_len) (b_range := b_range) (b_sorted := b_sorted) (b_tuple := b_tuple) (d__law_next := d__law_next)), gX, F.kp, F.bindsN fun _ _ _ _ _ _ us hl => match us, hl with | [_, _, _], _ => rfl, .nil, fun _ => .nil⟩
abbrev N__law_drawing : List Str := [Str.ofString "_law_d", Str.ofString "_law_names_here", Str.ofString "_law_most", Str.ofString "_law_found", Str.ofString "_law_k", Str.ofString "_law_there", Str.ofString "_law_strip_here", Str.ofString "_law_plot", Str.ofString "_law_name"]
def lb__law_drawing_1 : Fs := (ifF (cmpT (bIn2 true) (orefF 8) (orefF 5)) (dropF (mutE "list" gAppend 3 (consF (frzF (lstE (consF (frzF (tupE (consF (frzF (varE 8)) nilF))) nilF))) nilF))) nextF)
def lb__law_drawing_2 : Fs := (setF 5 (op2E gAdd (frzF (varE 5)) (frzF (opLE gList (aoF (orefF 7) anilF)))))
def lb__law_drawing_3 : Fs := (forF (.nm 7) (frzF (varE 6)) lb__law_drawing_2)
def ce__law_drawing_4 : Fv := (frzF (callE [true, false, false] [] fn__law_strip (arF 0 (avF (frzF (varE 1)) (avF (frzF (ixE gSub2 (ovF (frzF (lstE (consF (frzF (conE (.int 3))) (consF (frzF (conE (.int 3))) (consF (frzF (conE (.int 3))) (consF (frzF (conE (.int 8))) nilF))))))) (frzF (callE [true, false] [] fn__law_next (arF 0 (avF (frzF (conE (.int 4))) anilF)))))) anilF)))))
def fb__law_drawing : Fs := (seqF (setF 3 (lcRngE rngD1 [4] (.nm 4) (consF (frzF (callE [true, false] [] fn__law_next (arF 0 (avF (frzF (op2E gAdd (frzF (varE 2)) (frzF (conE (.int 1))))) anilF)))) nilF) yesF ce__law_drawing_4)) (seqF (setF 5 (lstE nilF)) (seqF (forOF (.nm 6) 3 lb__law_drawing_3) (seqF (forF (.nm 8) (frzF (varE 1)) lb__law_drawing_1) (retVarF 3)))))
def fn__law_drawing : List D → Option (Re × List D) := bodyF [true, false, false] 6 fb__law_drawing
theorem nd__law_drawing : (N__law_drawing).Nodup := by decide +kernel
theorem bd__law_drawing {CX : CXT} {P : Program} {w : World} {K : W.Frag} {mg : Str → Option Value} {base : Heap} {qual : Str} {f : Addr} {cdv : Value} {A : Around} {outer : List Env} {s : Shared} {H : Hp} {E : XK} (hr : Room 2 (A.deeper (PyProof.Rows.envOfC qual (defScope (top 24)) s.heap.objs.size f cdv))) (b_list : mg (Str.ofString "list") = none) (b_range : mg (Str.ofString "range") = none) (d__law_next : CallD P w K mg base 1 (Str.ofString "_law_next") [true, false] [] fn__law_next) (d__law_strip : CallD P w K mg base 2 (Str.ofString "_law_strip") [true, false, false] [] fn__law_strip) : PSs (cxOf CX0 P w K mg base N__law_drawing qual (defScope (top 24)) f cdv A outer s H E) (defBody (top 24)) (tS K fb__law_drawing) :=
  have hu64 := units64 hr
  have hu1 := units1 hr
  have hu65 := units65 hr
  have nd := nd__law_drawing
  PSs.nox (es_cons (es_setLcR (i := 3) rfl nd rfl rfl (sw_true rfl rfl rfl (by decide +kernel)) rfl b_range (ea_cons (PE.frz (ev_c d__law_next (hr.mono (by decide)) rfl (aa_consR (i := 0) rfl (by first | exact Or.inl rfl | exact Or.inr (Or.inl rfl) | exact Or.inr (Or.inr rfl)) rfl rfl (aa_consV (PE.frz (ev_add (PE.frz (ev_var (i := 2) rfl (by first | exact Or.inl rfl | exact Or.inr (Or.inl rfl) | exact Or.inr (Or.inr rfl)) rfl rfl)) (PE.frz (ev_con pe_int (fun F => R.int _))))) aa_nil rfl) rfl) rfl rfl rfl)) ea_nil rfl) rfl (blkOk_by (own := [(Str.ofString "_law_k", 4)]) (N := N__law_drawing) (sc := defScope (top 24)) (by decide +kernel)) (fun _ _ _ _ _ => (eg_name (i := 4) nd rfl (by first | exact Or.inl rfl | exact Or.inr rfl) (by first | exact Or.inl rfl | exact Or.inr rfl))) (fun _ _ _ _ _ => ets_nil) (fun _ _ _ _ _ => (PE.frz (ev_c d__law_strip (hr.mono (by decide)) rfl (aa_consR (i := 0) rfl (by first | exact Or.inl rfl | exact Or.inr (Or.inl rfl) | exact Or.inr (Or.inr rfl)) rfl rfl (aa_consV (PE.frz (ev_var (i := 1) rfl (by first | exact Or.inl rfl | exact Or.inr (Or.inl rfl) | exact Or.inr (Or.inr rfl)) rfl rfl)) (aa_consV (PE.frz (ev_sub2 hu1 (eo_val (PE.frz (ev_lst (ea_cons (PE.frz (ev_con pe_int (fun F => R.int _))) (ea_cons (PE.frz (ev_con pe_int (fun F => R.int _))) (ea_cons (PE.frz (ev_con pe_int (fun F => R.int _))) (ea_cons (PE.frz (ev_con pe_int (fun F => R.int _))) ea_nil rfl) rfl) rfl) rfl)))) (PE.frz (ev_c d__law_next (hr.mono (by decide)) rfl (aa_consR (i := 0) rfl (by first | exact Or.inl rfl | exact Or.inr (Or.inl rfl) | exact Or.inr (Or.inr rfl)) rfl rfl (aa_consV (PE.frz (ev_con pe_int (fun F => R.int _))) aa_nil rfl) rfl) rfl rfl rfl)) (fun _ _ => rfl) (fun _ _ => rfl))) aa_nil rfl) rfl) rfl) rfl rfl rfl))) (fun _ => rfl) (by decide) rfl) (es_cons (es_set (i := 5) nd rfl (by first | exact Or.inl rfl | exact Or.inr rfl) (ev_lst ea_nil) rfl (by first | exact Or.inl rfl | exact Or.inr rfl)) (es_cons (es_forO PassesOwn.never rfl (i := 3) rfl (by first | exact Or.inl rfl | exact Or.inr (Or.inl rfl) | exact Or.inr (Or.inr rfl)) rfl rfl (eg_name (i := 6) nd rfl (by first | exact Or.inl rfl | exact Or.inr rfl) (by first | exact Or.inl rfl | exact Or.inr rfl)) (es_one (es_for PassesOwn.never rfl (PE.frz (ev_var (i := 6) rfl (by first | exact Or.inl rfl | exact Or.inr (Or.inl rfl) | exact Or.inr (Or.inr rfl)) rfl rfl)) (eg_name (i := 7) nd rfl (by first | exact Or.inl rfl | exact Or.inr rfl) (by first | exact Or.inl rfl | exact Or.inr rfl)) (es_one (es_set (i := 5) nd rfl (by first | exact Or.inl rfl | exact Or.inr rfl) (ev_add (PE.frz (ev_var (i := 5) rfl (by first | exact Or.inl rfl | exact Or.inr (Or.inl rfl) | exact Or.inr (Or.inr rfl)) rfl rfl)) (PE.frz (ev_list rfl b_list (aa_consO (eo_var (i := 7) rfl (by first | exact Or.inl rfl | exact Or.inr (Or.inl rfl) | exact Or.inr (Or.inr rfl)) rfl rfl) aa_nil rfl) rfl))) rfl (by first | exact Or.inl rfl | exact Or.inr rfl))) (fun _ => rfl))) (fun _ => rfl)) (es_cons (es_for PassesOwn.never rfl (PE.frz (ev_var (i := 1) rfl (by first | exact Or.inl rfl | exact Or.inr (Or.inl rfl) | exact Or.inr (Or.inr rfl)) rfl rfl)) (eg_name (i := 8) nd rfl (by first | exact Or.inl rfl | exact Or.inr rfl) (by first | exact Or.inl rfl | exact Or.inr rfl)) (es_one (es_if (ct_notIn2 hu65 (eo_var (i := 8) rfl (by first | exact Or.inl rfl | exact Or.inr (Or.inl rfl) | exact Or.inr (Or.inr rfl)) rfl rfl) (eo_var (i := 5) rfl (by first | exact Or.inl rfl | exact Or.inr (Or.inl rfl) | exact Or.inr (Or.inr rfl)) rfl rfl) rfl) (es_one (es_expr (ev_mut (k := 3) rfl (by first | exact Or.inl rfl | exact Or.inr (Or.inl rfl) | exact Or.inr (Or.inr rfl)) rfl rfl PySem.F.plainAttrs_list PySem.F.slot_list_append PySem.F.type_list_append mt_append gAppend_ok (ea_cons (PE.frz (ev_lst (ea_cons (PE.frz (ev_tup (ea_cons (PE.frz (ev_var (i := 8) rfl (by first | exact Or.inl rfl | exact Or.inr (Or.inl rfl) | exact Or.inr (Or.inr rfl)) rfl rfl)) ea_nil rfl))) ea_nil rfl))) ea_nil rfl) rfl rfl rfl rfl rfl) rfl)) es_nil)) (fun _ => rfl)) (es_one (es_retVar (i := 3) rfl (by first | exact Or.inl rfl | exact Or.inr (Or.inl rfl) | exact Or.inr (Or.inr rfl)) rfl rfl))))))
theorem sc__law_drawing : FnScope N__law_drawing [Str.ofString "_law_d", Str.ofString "_law_names_here", Str.ofString "_law_most"] (defScope (top 24)) := ⟨rfl, rfl, rfl, nd__law_drawing, rfl, by decide +kernel, by decide +kernel⟩
theorem ok__law_drawing {P : Program} {w : World} {K : W.Frag} {mg : Str → Option Value} {base : Heap} {f : Addr} {fd : FuncData} (F : FunD K (Str.ofString "_law_drawing") (Str.ofString "_law_drawing") (defArgs (top 24)) (defBody (top 24)) (defScope (top 24)) [] [] f fd) (gX : mg (Str.ofString "_law_drawing") = some (.ref f)) (b_list : mg (Str.ofString "list") = none) (b_range : mg (Str.ofString "range") = none) (d__law_next : CallD P w K mg base 1 (Str.ofString "_law_next") [true, false] [] fn__law_next) (d__law_strip : CallD P w K mg base 2 (Str.ofString "_law_strip") [true, false, false] [] fn__law_strip) : CallD P w K mg base 3 (Str.ofString "_law_drawing") [true, false, false] [] fn__law_drawing :=
  ⟨f, fd, [Str.ofString "_law_d", Str.ofString "_law_names_here", Str.ofString "_law_most"], [], [], fn_of F sc__law_drawing rfl (fun cdv A outer s H E hr => bd__law_drawing (CX := CX0) (E := E) hr (b_list := b_list) (b_range := b_range) (d__law_next := d__law_next) (d__law_strip := d__law_strip)), gX, F.kp, F.bindsN fun _ _ _ _ _ _ us hl => match us, hl with | [_, _, _], _ => rfl, .nil, fun _ => .nil⟩
abbrev N__law_places : List Str := [Str.ofString "_law_drawing_here", Str.ofString "_law_name", Str.ofString "_law_found", Str.ofString "_law_row", Str.ofString "_law_at"]
def lb__law_places_1 : Fs := (ifF (cmpT (bIn2 false) (orefF 1) (ovF (frzF (ixE gSub2 (ovF (frzF (ixE gSub2 (orefF 0) (frzF (varE 3))))) (frzF (varE 4)))))) (dropF (mutE "list" gAppend 2 (consF (frzF (tupE (consF (frzF (varE 3)) (consF (frzF (varE 4)) nilF)))) nilF))) nextF)
def lb__law_places_2 : Fs := (rngF rngD1 (.nm 4) (consF (frzF (opLE (fun ds => (gLen ds).or (gLenS ds)) (aoF (ovF (frzF (ixE gSub2 (orefF 0) (frzF (varE 3))))) anilF))) nilF) lb__law_places_1)
def fb__law_places : Fs := (seqF (setF 2 (lstE nilF)) (seqF (rngF rngD1 (.nm 3) (consF (frzF (opLE (fun ds => (gLen ds).or (gLenS ds)) (aoF (orefF 0) anilF))) nilF) lb__law_places_2) (retVarF 2)))
def fn__law_places : List D → Option (Re × List D) := bodyF [false, false] 3 fb__law_places
theorem nd__law_places : (N__law_places).Nodup := by decide +kernel
theorem bd__law_places {CX : CXT} {P : Program} {w : World} {K : W.Frag} {mg : Str → Option Value} {base : Heap} {qual : Str} {f : Addr} {cdv : Value} {A : Around} {outer : List Env} {s : Shared} {H : Hp} {E : XK} (hr : Room 0 (A.deeper (PyProof.Rows.envOfC qual (defScope (top 25)) s.heap.objs.size f cdv))) (b_len : mg (Str.ofString "len") = none) (b_range : mg (Str.ofString "range") = none) : PSs (cxOf CX0 P w K mg base N__law_places qual (defScope (top 25)) f cdv A outer s H E) (defBody (top 25)) (tS K fb__law_places) :=
  have hu64 := units64 hr
  have hu1 := units1 hr
  have hu65 := units65 hr
  have nd := nd__law_places
  PSs.nox (es_cons (es_set (i := 2) nd rfl (by first | exact Or.inl rfl | exact Or.inr rfl) (ev_lst ea_nil) rfl (by first | exact Or.inl rfl | exact Or.inr rfl)) (es_cons (es_range1 PassesOwn.never rfl rfl b_range (ea_cons (PE.frz (ev_len rfl b_len (aa_consO (eo_var (i := 0) rfl (by first | exact Or.inl rfl | exact Or.inr (Or.inl rfl) | exact Or.inr (Or.inr rfl)) rfl rfl) aa_nil rfl) rfl)) ea_nil rfl) (eg_name (i := 3) nd rfl (by first | exact Or.inl rfl | exact Or.inr rfl) (by first | exact Or.inl rfl | exact Or.inr rfl)) (es_one (es_range1 PassesOwn.never rfl rfl b_range (ea_cons (PE.frz (ev_len rfl b_len (aa_consO (eo_val (PE.frz (ev_sub2 hu1 (eo_var (i := 0) rfl (by first | exact Or.inl rfl | exact Or.inr (Or.inl rfl) | exact Or.inr (Or.inr rfl)) rfl rfl) (PE.frz (ev_var (i := 3) rfl (by first | exact Or.inl rfl | exact Or.inr (Or.inl rfl) | exact Or.inr (Or.inr rfl)) rfl rfl)) (fun _ _ => rfl) (fun _ _ => rfl)))) aa_nil rfl) rfl)) ea_nil rfl) (eg_name (i := 4) nd rfl (by first | exact Or.inl rfl | exact Or.inr rfl) (by first | exact Or.inl rfl | exact Or.inr rfl)) (es_one (es_if (ct_in2 hu65 (eo_var (i := 1) rfl (by first | exact Or.inl rfl | exact Or.inr (Or.inl rfl) | exact Or.inr (Or.inr rfl)) rfl rfl) (eo_val (PE.frz (ev_sub2 hu1 (eo_val (PE.frz (ev_sub2 hu1 (eo_var (i := 0) rfl (by first | exact Or.inl rfl | exact Or.inr (Or.inl rfl) | exact Or.inr (Or.inr rfl)) rfl rfl) (PE.frz (ev_var (i := 3) rfl (by first | exact Or.inl rfl | exact Or.inr (Or.inl rfl) | exact Or.inr (Or.inr rfl)) rfl rfl)) (fun _ _ => rfl) (fun _ _ => rfl)))) (PE.frz (ev_var (i := 4) rfl (by first | exact Or.inl rfl | exact Or.inr (Or.inl rfl) | exact Or.inr (Or.inr rfl)) rfl rfl)) (fun _ _ => rfl) (fun _ _ => rfl)))) rfl) (es_one (es_expr (ev_mut (k := 2) rfl (by first | exact Or.inl rfl | exact Or.inr (Or.inl rfl) | exact Or.inr (Or.inr rfl)) rfl rfl PySem.F.plainAttrs_list PySem.F.slot_list_append PySem.F.type_list_append mt_append gAppend_ok (ea_cons (PE.frz (ev_tup (ea_cons (PE.frz (ev_var (i := 3) rfl (by first | exact Or.inl rfl | exact Or.inr (Or.inl rfl) | exact Or.inr (Or.inr rfl)) rfl rfl)) (ea_cons (PE.frz (ev_var (i := 4) rfl (by first | exact Or.inl rfl | exact Or.inr (Or.inl rfl) | exact Or.inr (Or.inr rfl)) rfl rfl)) ea_nil rfl) rfl))) ea_nil rfl) rfl rfl rfl rfl rfl) rfl)) es_nil)) rfl (fun _ => rfl))) rfl (fun _ => rfl)) (es_one (es_retVar (i := 2) rfl (by first | exact Or.inl rfl | exact Or.inr (Or.inl rfl) | exact Or.inr (Or.inr rfl)) rfl rfl))))
theorem sc__law_places : FnScope N__law_places [Str.ofString "_law_drawing_here", Str.ofString "_law_name"] (defScope (top 25)) := ⟨rfl, rfl, rfl, nd__law_places, rfl, by decide +kernel, by decide +kernel⟩
theorem ok__law_places {P : Program} {w : World} {K : W.Frag} {mg : Str → Option Value} {base : Heap} {f : Addr} {fd : FuncData} (F : FunD K (Str.ofString "_law_places") (Str.ofString "_law_places") (defArgs (top 25)) (defBody (top 25)) (defScope (top 25)) [] [] f fd) (gX : mg (Str.ofString "_law_places") = some (.ref f)) (b_len : mg (Str.ofString "len") = none) (b_range : mg (Str.ofString "range") = none) : CallD P w K mg base 1 (Str.ofString "_law_places") [false, false] [] fn__law_places :=
  ⟨f, fd, [Str.ofString "_law_drawing_here", Str.ofString "_law_name"], [], [], fn_of F sc__law_places rfl (fun cdv A outer s H E hr => bd__law_places (CX := CX0) (E := E) hr (b_len := b_len) (b_range := b_range)), gX, F.kp, F.bindsN fun _ _ _ _ _ _ us hl => match us, hl with | [_, _], _ => rfl, .nil, fun _ => .nil⟩
abbrev N__law_near : List Str := [Str.ofString "_law_drawing_here", Str.ofString "_law_places_here", Str.ofString "_law_found", Str.ofString "_law_row", Str.ofString "_law_at"]
def lb__law_near_1 : Fs := (seqF (ifF (cmpT bGt (orefF 4) (ovF (frzF (conE (.int 0))))) (dropF (mutE "list" gAppend 2 (consF (frzF (tupE (consF (frzF (varE 3)) (consF (frzF (op2E gSub (frzF (varE 4)) (frzF (conE (.int 1))))) nilF)))) nilF))) nextF) (ifF (cmpT bLt (ovF (frzF (op2E gAdd (frzF (varE 4)) (frzF (conE (.int 1)))))) (ovF (frzF (opLE (fun ds => (gLen ds).or (gLenS ds)) (aoF (ovF (frzF (ixE gSub2 (orefF 0) (frzF (varE 3))))) anilF))))) (dropF (mutE "list" gAppend 2 (consF (frzF (tupE (consF (frzF (varE 3)) (consF (frzF (op2E gAdd (frzF (varE 4)) (frzF (conE (.int 1))))) nilF)))) nilF))) nextF))
def fb__law_near : Fs := (seqF (setF 2 (lstE nilF)) (seqF (forF (.tp [3, 4]) (frzF (varE 1)) lb__law_near_1) (retVarF 2)))
def fn__law_near : List D → Option (Re × List D) := bodyF [false, false] 3 fb__law_near
theorem nd__law_near : (N__law_near).Nodup := by decide +kernel
theorem bd__law_near {CX : CXT} {P : Program} {w : World} {K : W.Frag} {mg : Str → Option Value} {base : Heap} {qual : Str} {f : Addr} {cdv : Value} {A : Around} {outer : List Env} {s : Shared} {H : Hp} {E : XK} (hr : Room 0 (A.deeper (PyProof.Rows.envOfC qual (defScope (top 26)) s.heap.objs.size f cdv))) (b_len : mg (Str.ofString "len") = none) : PSs (cxOf CX0 P w K mg base N__law_near qual (defScope (top 26)) f cdv A outer s H E) (defBody (top 26)) (tS K fb__law_near) :=
  have hu64 := units64 hr
  have hu1 := units1 hr
  have hu65 := units65 hr
  have nd := nd__law_near
  PSs.nox (es_cons (es_set (i := 2) nd rfl (by first | exact Or.inl rfl | exact Or.inr rfl) (ev_lst ea_nil) rfl (by first | exact Or.inl rfl | exact Or.inr rfl)) (es_cons (es_for PassesOwn.never rfl (PE.frz (ev_var (i := 1) rfl (by first | exact Or.inl rfl | exact Or.inr (Or.inl rfl) | exact Or.inr (Or.inr rfl)) rfl rfl)) (eg_tup rfl (egs_cons (eg_name (i := 3) nd rfl (by first | exact Or.inl rfl | exact Or.inr rfl) (by first | exact Or.inl rfl | exact Or.inr rfl)) (egs_cons (eg_name (i := 4) nd rfl (by first | exact Or.inl rfl | exact Or.inr rfl) (by first | exact Or.inl rfl | exact Or.inr rfl)) egs_nil rfl) rfl) rfl rfl rfl) (es_cons (es_if (ct_gt (eo_var (i := 4) rfl (by first | exact Or.inl rfl | exact Or.inr (Or.inl rfl) | exact Or.inr (Or.inr rfl)) rfl rfl) (eo_val (PE.frz (ev_con pe_int (fun F => R.int _))))) (es_one (es_expr (ev_mut (k := 2) rfl (by first | exact Or.inl rfl | exact Or.inr (Or.inl rfl) | exact Or.inr (Or.inr rfl)) rfl rfl PySem.F.plainAttrs_list PySem.F.slot_list_append PySem.F.type_list_append mt_append gAppend_ok (ea_cons (PE.frz (ev_tup (ea_cons (PE.frz (ev_var (i := 3) rfl (by first | exact Or.inl rfl | exact Or.inr (Or.inl rfl) | exact Or.inr (Or.inr rfl)) rfl rfl)) (ea_cons (PE.frz (ev_sub (PE.frz (ev_var (i := 4) rfl (by first | exact Or.inl rfl | exact Or.inr (Or.inl rfl) | exact Or.inr (Or.inr rfl)) rfl rfl)) (PE.frz (ev_con pe_int (fun F => R.int _))))) ea_nil rfl) rfl))) ea_nil rfl) rfl rfl rfl rfl rfl) rfl)) es_nil) (es_one (es_if (ct_lt (eo_val (PE.frz (ev_add (PE.frz (ev_var (i := 4) rfl (by first | exact Or.inl rfl | exact Or.inr (Or.inl rfl) | exact Or.inr (Or.inr rfl)) rfl rfl)) (PE.frz (ev_con pe_int (fun F => R.int _)))))) (eo_val (PE.frz (ev_len rfl b_len (aa_consO (eo_val (PE.frz (ev_sub2 hu1 (eo_var (i := 0) rfl (by first | exact Or.inl rfl | exact Or.inr (Or.inl rfl) | exact Or.inr (Or.inr rfl)) rfl rfl) (PE.frz (ev_var (i := 3) rfl (by first | exact Or.inl rfl | exact Or.inr (Or.inl rfl) | exact Or.inr (Or.inr rfl)) rfl rfl)) (fun _ _ => rfl) (fun _ _ => rfl)))) aa_nil rfl) rfl)))) (es_one (es_expr (ev_mut (k := 2) rfl (by first | exact Or.inl rfl | exact Or.inr (Or.inl rfl) | exact Or.inr (Or.inr rfl)) rfl rfl PySem.F.plainAttrs_list PySem.F.slot_list_append PySem.F.type_list_append mt_append gAppend_ok (ea_cons (PE.frz (ev_tup (ea_cons (PE.frz (ev_var (i := 3) rfl (by first | exact Or.inl rfl | exact Or.inr (Or.inl rfl) | exact Or.inr (Or.inr rfl)) rfl rfl)) (ea_cons (PE.frz (ev_add (PE.frz (ev_var (i := 4) rfl (by first | exact Or.inl rfl | exact Or.inr (Or.inl rfl) | exact Or.inr (Or.inr rfl)) rfl rfl)) (PE.frz (ev_con pe_int (fun F => R.int _))))) ea_nil rfl) rfl))) ea_nil rfl) rfl rfl rfl rfl rfl) rfl)) es_nil))) (fun _ => rfl)) (es_one (es_retVar (i := 2) rfl (by first | exact Or.inl rfl | exact Or.inr (Or.inl rfl) | exact Or.inr (Or.inr rfl)) rfl rfl))))
theorem sc__law_near : FnScope N__law_near [Str.ofString "_law_drawing_here", Str.ofString "_law_places_here"] (defScope (top 26)) := ⟨rfl, rfl, rfl, nd__law_near, rfl, by decide +kernel, by decide +kernel⟩
theorem ok__law_near {P : Program} {w : World} {K : W.Frag} {mg : Str → Option Value} {base : Heap} {f : Addr} {fd : FuncData} (F : FunD K (Str.ofString "_law_near") (Str.ofString "_law_near") (defArgs (top 26)) (defBody (top 26)) (defScope (top 26)) [] [] f fd) (gX : mg (Str.ofString "_law_near") = some (.ref f)) (b_len : mg (Str.ofString "len") = none) : CallD P w K mg base 1 (Str.ofString "_law_near") [false, false] [] fn__law_near :=
  ⟨f, fd, [Str.ofString "_law_drawing_here", Str.ofString "_law_places_here"], [], [], fn_of F sc__law_near rfl (fun cdv A outer s H E hr => bd__law_near (CX := CX0) (E := E) hr (b_len := b_len)), gX, F.kp, F.bindsN fun _ _ _ _ _ _ us hl => match us, hl with | [_, _], _ => rfl, .nil, fun _ => .nil⟩
abbrev N__law_seen : List Str := [Str.ofString "_law_drawing_here", Str.ofString "_law_one", Str.ofString "_law_other", Str.ofString "_law_mine", Str.ofString "_law_theirs", Str.ofString "_law_both", Str.ofString "_law_place", Str.ofString "_law_out", Str.ofString "_law_touched"]
def cc__law_seen_1 : Fb := (cmpT (bIn2 false) (orefF 6) (orefF 4))
def ce__law_seen_2 : Fv := (frzF (varE 6))
def cc__law_seen_3 : Fb := (cmpT (bIn2 true) (orefF 6) (orefF 3))
def ce__law_seen_4 : Fv := (frzF (varE 6))
def cc__law_seen_5 : Fb := (cmpT (bIn2 true) (orefF 6) (orefF 4))
def ce__law_seen_6 : Fv := (frzF (varE 6))
def cc__law_seen_7 : Fb := (cmpT (bIn2 false) (orefF 6) (orefF 4))
def ce__law_seen_8 : Fv := (frzF (varE 6))
def fb__law_seen : Fs := (seqF (setF 3 (callE [false, false] [] fn__law_places (avF (frzF (varE 0)) (avF (frzF (varE 1)) anilF)))) (seqF (setF 4 (callE [false, false] [] fn__law_places (avF (frzF (varE 0)) (avF (frzF (varE 2)) anilF)))) (seqF (setF 5 (lcE [6] (.nm 6) (frzF (varE 3)) cc__law_seen_7 ce__law_seen_8)) (seqF (ifF (cmpT (bEq false) (orefF 3) (orefF 4)) (retF (conE (.str (Str.ofString "same")))) nextF) (seqF (ifF (cmpT (bEq false) (orefF 5) (orefF 3)) (seqF (setF 7 (lcE [6] (.nm 6) (frzF (callE [false, false] [] fn__law_near (avF (frzF (varE 0)) (avF (frzF (varE 3)) anilF)))) cc__law_seen_5 ce__law_seen_6)) (retF (ixE gSub2 (ovF (frzF (lstE (consF (frzF (conE (.str (Str.ofString "incore")))) (consF (frzF (conE (.str (Str.ofString "inrim")))) nilF))))) (frzF (opLE gInt (aoF (ovF (frzF (cmpE (bEq true) (orefF 7) (ovF (frzF (lstE nilF)))))) anilF)))))) nextF) (seqF (ifF (cmpT (bEq false) (orefF 5) (orefF 4)) (seqF (setF 7 (lcE [6] (.nm 6) (frzF (callE [false, false] [] fn__law_near (avF (frzF (varE 0)) (avF (frzF (varE 4)) anilF)))) cc__law_seen_3 ce__law_seen_4)) (retF (ixE gSub2 (ovF (frzF (lstE (consF (frzF (conE (.str (Str.ofString "hascore")))) (consF (frzF (conE (.str (Str.ofString "hasrim")))) nilF))))) (frzF (opLE gInt (aoF (ovF (frzF (cmpE (bEq true) (orefF 7) (ovF (frzF (lstE nilF)))))) anilF)))))) nextF) (seqF (ifF (cmpT (bEq true) (orefF 5) (ovF (frzF (lstE nilF)))) (retF (conE (.str (Str.ofString "over")))) nextF) (seqF (setF 8 (lcE [6] (.nm 6) (frzF (callE [false, false] [] fn__law_near (avF (frzF (varE 0)) (avF (frzF (varE 3)) anilF)))) cc__law_seen_1 ce__law_seen_2)) (retF (ixE gSub2 (ovF (frzF (lstE (consF (frzF (conE (.str (Str.ofString "apart")))) (consF (frzF (conE (.str (Str.ofString "meets")))) nilF))))) (frzF (opLE gInt (aoF (ovF (frzF (cmpE (bEq true) (orefF 8) (ovF (frzF (lstE nilF)))))) anilF)))))))))))))
def fn__law_seen : List D → Option (Re × List D) := bodyF [false, false, false] 6 fb__law_seen
theorem nd__law_seen : (N__law_seen).Nodup := by decide +kernel
theorem bd__law_seen {CX : CXT} {P : Program} {w : World} {K : W.Frag} {mg : Str → Option Value} {base : Heap} {qual : Str} {f : Addr} {cdv : Value} {A : Around} {outer : List Env} {s : Shared} {H : Hp} {E : XK} (hr : Room 1 (A.deeper (PyProof.Rows.envOfC qual (defScope (top 27)) s.heap.objs.size f cdv))) (b_int : mg (Str.ofString "int") = none) (d__law_near : CallD P w K mg base 1 (Str.ofString "_law_near") [false, false] [] fn__law_near) (d__law_places : CallD P w K mg base 1 (Str.ofString "_law_places") [false, false] [] fn__law_places) : PSs (cxOf CX0 P w K mg base N__law_seen qual (defScope (top 27)) f cdv A outer s H E) (defBody (top 27)) (tS K fb__law_seen) :=
  have hu64 := units64 hr
  have hu1 := units1 hr
  have hu65 := units65 hr
  have nd := nd__law_seen
  PSs.nox (es_cons (es_set (i := 3) nd rfl (by first | exact Or.inl rfl | exact Or.inr rfl) (ev_c d__law_places (hr.mono (by decide)) rfl (aa_consV (PE.frz (ev_var (i := 0) rfl (by first | exact Or.inl rfl | exact Or.inr (Or.inl rfl) | exact Or.inr (Or.inr rfl)) rfl rfl)) (aa_consV (PE.frz (ev_var (i := 1) rfl (by first | exact Or.inl rfl | exact Or.inr (Or.inl rfl) | exact Or.inr (Or.inr rfl)) rfl rfl)) aa_nil rfl) rfl) rfl rfl rfl) rfl (by first | exact Or.inl rfl | exact Or.inr rfl)) (es_cons (es_set (i := 4) nd rfl (by first | exact Or.inl rfl | exact Or.inr rfl) (ev_c d__law_places (hr.mono (by decide)) rfl (aa_consV (PE.frz (ev_var (i := 0) rfl (by first | exact Or.inl rfl | exact Or.inr (Or.inl rfl) | exact Or.inr (Or.inr rfl)) rfl rfl)) (aa_consV (PE.frz (ev_var (i := 2) rfl (by first | exact Or.inl rfl | exact Or.inr (Or.inl rfl) | exact Or.inr (Or.inr rfl)) rfl rfl)) aa_nil rfl) rfl) rfl rfl rfl) rfl (by first | exact Or.inl rfl | exact Or.inr rfl)) (es_cons (es_setLc (i := 5) rfl nd rfl rfl (sw_true rfl rfl rfl (by decide +kernel)) (PE.frz (ev_var (i := 3) rfl (by first | exact Or.inl rfl | exact Or.inr (Or.inl rfl) | exact Or.inr (Or.inr rfl)) rfl rfl)) (blkOk_by (own := [(Str.ofString "_law_place", 6)]) (N := N__law_seen) (sc := defScope (top 27)) (by decide +kernel)) (fun _ _ _ _ _ => (eg_name (i := 6) nd rfl (by first | exact Or.inl rfl | exact Or.inr rfl) (by first | exact Or.inl rfl | exact Or.inr rfl))) (fun _ _ _ _ _ => (ets_one (ct_in2 hu65 (eo_var (i := 6) rfl (by first | exact Or.inl rfl | exact Or.inr (Or.inl rfl) | exact Or.inr (Or.inr rfl)) rfl rfl) (eo_var (i := 4) rfl (by first | exact Or.inl rfl | exact Or.inr (Or.inl rfl) | exact Or.inr (Or.inr rfl)) rfl rfl) rfl))) (fun _ _ _ _ _ => (PE.frz (ev_var (i := 6) rfl (by first | exact Or.inl rfl | exact Or.inr (Or.inl rfl) | exact Or.inr (Or.inr rfl)) rfl rfl))) (fun _ => rfl) (by decide) rfl) (es_cons (es_if (ct_eq (eo_var (i := 3) rfl (by first | exact Or.inl rfl | exact Or.inr (Or.inl rfl) | exact Or.inr (Or.inr rfl)) rfl rfl) (eo_var (i := 4) rfl (by first | exact Or.inl rfl | exact Or.inr (Or.inl rfl) | exact Or.inr (Or.inr rfl)) rfl rfl) hu64) (es_one (es_ret (ev_con pe_str (fun F => R.str _)))) es_nil) (es_cons (es_if (ct_eq (eo_var (i := 5) rfl (by first | exact Or.inl rfl | exact Or.inr (Or.inl rfl) | exact Or.inr (Or.inr rfl)) rfl rfl) (eo_var (i := 3) rfl (by first | exact Or.inl rfl | exact Or.inr (Or.inl rfl) | exact Or.inr (Or.inr rfl)) rfl rfl) hu64) (es_cons (es_setLc (i := 7) rfl nd rfl rfl (sw_true rfl rfl rfl (by decide +kernel)) (PE.frz (ev_c d__law_near (hr.mono (by decide)) rfl (aa_consV (PE.frz (ev_var (i := 0) rfl (by first | exact Or.inl rfl | exact Or.inr (Or.inl rfl) | exact Or.inr (Or.inr rfl)) rfl rfl)) (aa_consV (PE.frz (ev_var (i := 3) rfl (by first | exact Or.inl rfl | exact Or.inr (Or.inl rfl) | exact Or.inr (Or.inr rfl)) rfl rfl)) aa_nil rfl) rfl) rfl rfl rfl)) (blkOk_by (own := [(Str.ofString "_law_place", 6)]) (N := N__law_seen) (sc := defScope (top 27)) (by decide +kernel)) (fun _ _ _ _ _ => (eg_name (i := 6) nd rfl (by first | exact Or.inl rfl | exact Or.inr rfl) (by first | exact Or.inl rfl | exact Or.inr rfl))) (fun _ _ _ _ _ => (ets_one (ct_notIn2 hu65 (eo_var (i := 6) rfl (by first | exact Or.inl rfl | exact Or.inr (Or.inl rfl) | exact Or.inr (Or.inr rfl)) rfl rfl) (eo_var (i := 4) rfl (by first | exact Or.inl rfl | exact Or.inr (Or.inl rfl) | exact Or.inr (Or.inr rfl)) rfl rfl) rfl))) (fun _ _ _ _ _ => (PE.frz (ev_var (i := 6) rfl (by first | exact Or.inl rfl | exact Or.inr (Or.inl rfl) | exact Or.inr (Or.inr rfl)) rfl rfl))) (fun _ => rfl) (by decide) rfl) (es_one (es_ret (ev_sub2 hu1 (eo_val (PE.frz (ev_lst (ea_cons (PE.frz (ev_con pe_str (fun F => R.str _))) (ea_cons (PE.frz (ev_con pe_str (fun F => R.str _))) ea_nil rfl) rfl)))) (PE.frz (ev_int rfl b_int (aa_consO (eo_val (PE.frz (ec_ne (eo_var (i := 7) rfl (by first | exact Or.inl rfl | exact Or.inr (Or.inl rfl) | exact Or.inr (Or.inr rfl)) rfl rfl) (eo_val (PE.frz (ev_lst ea_nil))) hu64))) aa_nil rfl) rfl)) (fun _ _ => rfl) (fun _ _ => rfl))))) es_nil) (es_cons (es_if (ct_eq (eo_var (i := 5) rfl (by first | exact Or.inl rfl | exact Or.inr (Or.inl rfl) | exact Or.inr (Or.inr rfl)) rfl rfl) (eo_var (i := 4) rfl (by first | exact Or.inl rfl | exact Or.inr (Or.inl rfl) | exact Or.inr (Or.inr rfl)) rfl rfl) hu64) (es_cons (es_setLc (i := 7) rfl nd rfl rfl (sw_true rfl rfl rfl (by decide +kernel)) (PE.frz (ev_c d__law_near (hr.mono (by decide)) rfl (aa_consV (PE.frz (ev_var (i := 0) rfl (by first | exact Or.inl rfl | exact Or.inr (Or.inl rfl) | exact Or.inr (Or.inr rfl)) rfl rfl)) (aa_consV (PE.frz (ev_var (i := 4) rfl (by first | exact Or.inl rfl | exact Or.inr (Or.inl rfl) | exact Or.inr (Or.inr rfl)) rfl rfl)) aa_nil rfl) rfl) rfl rfl rfl)) (blkOk_by (own := [(Str.ofString "_law_place", 6)]) (N := N__law_seen) (sc := defScope (top 27)) (by decide +kernel)) (fun _ _ _ _ _ => (eg_name (i := 6) nd rfl (by first | exact Or.inl rfl | exact Or.inr rfl) (by first | exact Or.inl rfl | exact Or.inr rfl))) (fun _ _ _ _ _ => (ets_one (ct_notIn2 hu65 (eo_var (i := 6) rfl (by first | exact Or.inl rfl | exact Or.inr (Or.inl rfl) | exact Or.inr (Or.inr rfl)) rfl rfl) (eo_var (i := 3) rfl (by first | exact Or.inl rfl | exact Or.inr (Or.inl rfl) | exact Or.inr (Or.inr rfl)) rfl rfl) rfl))) (fun _ _ _ _ _ => (PE.frz (ev_var (i := 6) rfl (by first | exact Or.inl rfl | exact Or.inr (Or.inl rfl) | exact Or.inr (Or.inr rfl)) rfl rfl))) (fun _ => rfl) (by decide) rfl) (es_one (es_ret (ev_sub2 hu1 (eo_val (PE.frz (ev_lst (ea_cons (PE.frz (ev_con pe_str (fun F => R.str _))) (ea_cons (PE.frz (ev_con pe_str (fun F => R.str _))) ea_nil rfl) rfl)))) (PE.frz (ev_int rfl b_int (aa_consO (eo_val (PE.frz (ec_ne (eo_var (i := 7) rfl (by first | exact Or.inl rfl | exact Or.inr (Or.inl rfl) | exact Or.inr (Or.inr rfl)) rfl rfl) (eo_val (PE.frz (ev_lst ea_nil))) hu64))) aa_nil rfl) rfl)) (fun _ _ => rfl) (fun _ _ => rfl))))) es_nil) (es_cons (es_if (ct_ne (eo_var (i := 5) rfl (by first | exact Or.inl rfl | exact Or.inr (Or.inl rfl) | exact Or.inr (Or.inr rfl)) rfl rfl) (eo_val (PE.frz (ev_lst ea_nil))) hu64) (es_one (es_ret (ev_con pe_str (fun F => R.str _)))) es_nil) (es_cons (es_setLc (i := 8) rfl nd rfl rfl (sw_true rfl rfl rfl (by decide +kernel)) (PE.frz (ev_c d__law_near (hr.mono (by decide)) rfl (aa_consV (PE.frz (ev_var (i := 0) rfl (by first | exact Or.inl rfl | exact Or.inr (Or.inl rfl) | exact Or.inr (Or.inr rfl)) rfl rfl)) (aa_consV (PE.frz (ev_var (i := 3) rfl (by first | exact Or.inl rfl | exact Or.inr (Or.inl rfl) | exact Or.inr (Or.inr rfl)) rfl rfl)) aa_nil rfl) rfl) rfl rfl rfl)) (blkOk_by (own := [(Str.ofString "_law_place", 6)]) (N := N__law_seen) (sc := defScope (top 27)) (by decide +kernel)) (fun _ _ _ _ _ => (eg_name (i := 6) nd rfl (by first | exact Or.inl rfl | exact Or.inr rfl) (by first | exact Or.inl rfl | exact Or.inr rfl))) (fun _ _ _ _ _ => (ets_one (ct_in2 hu65 (eo_var (i := 6) rfl (by first | exact Or.inl rfl | exact Or.inr (Or.inl rfl) | exact Or.inr (Or.inr rfl)) rfl rfl) (eo_var (i := 4) rfl (by first | exact Or.inl rfl | exact Or.inr (Or.inl rfl) | exact Or.inr (Or.inr rfl)) rfl rfl) rfl))) (fun _ _ _ _ _ => (PE.frz (ev_var (i := 6) rfl (by first | exact Or.inl rfl | exact Or.inr (Or.inl rfl) | exact Or.inr (Or.inr rfl)) rfl rfl))) (fun _ => rfl) (by decide) rfl) (es_one (es_ret (ev_sub2 hu1 (eo_val (PE.frz (ev_lst (ea_cons (PE.frz (ev_con pe_str (fun F => R.str _))) (ea_cons (PE.frz (ev_con pe_str (fun F => R.str _))) ea_nil rfl) rfl)))) (PE.frz (ev_int rfl b_int (aa_consO (eo_val (PE.frz (ec_ne (eo_var (i := 8) rfl (by first | exact Or.inl rfl | exact Or.inr (Or.inl rfl) | exact Or.inr (Or.inr rfl)) rfl rfl) (eo_val (PE.frz (ev_lst ea_nil))) hu64))) aa_nil rfl) rfl)) (fun _ _ => rfl) (fun _ _ => rfl))))))))))))
theorem sc__law_seen : FnScope N__law_seen [Str.ofString "_law_drawing_here", Str.ofString "_law_one", Str.ofString "_law_other"] (defScope (top 27)) := ⟨rfl, rfl, rfl, nd__law_seen, rfl, by decide +kernel, by decide +kernel⟩
theorem ok__law_seen {P : Program} {w : World} {K : W.Frag} {mg : Str → Option Value} {base : Heap} {f : Addr} {fd : FuncData} (F : FunD K (Str.ofString "_law_seen") (Str.ofString "_law_seen") (defArgs (top 27)) (defBody (top 27)) (defScope (top 27)) [] [] f fd) (gX : mg (Str.ofString "_law_seen") = some (.ref f)) (b_int : mg (Str.ofString "int") = none) (d__law_near : CallD P w K mg base 1 (Str.ofString "_law_near") [false, false] [] fn__law_near) (d__law_places : CallD P w K mg base 1 (Str.ofString "_law_places") [false, false] [] fn__law_places) : CallD P w K mg base 2 (Str.ofString "_law_seen") [false, false, false] [] fn__law_seen :=
  ⟨f, fd, [Str.ofString "_law_drawing_here", Str.ofString "_law_one", Str.ofString "_law_other"], [], [], fn_of F sc__law_seen rfl (fun cdv A outer s H E hr => bd__law_seen (CX := CX0) (E := E) hr (b_int := b_int) (d__law_near := d__law_near) (d__law_places := d__law_places)), gX, F.kp, F.bindsN fun _ _ _ _ _ _ us hl => match us, hl with | [_, _, _], _ => rfl, .nil, fun _ => .nil⟩
abbrev N__law_ways : List Str := []
def fb__law_ways : Fs := (retF (lstE (consF (frzF (conE (.str (Str.ofString "apart")))) (consF (frzF (conE (.str (Str.ofString "meets")))) (consF (frzF (conE (.str (Str.ofString "over")))) (consF (frzF (conE (.str (Str.ofString "same")))) (consF (frzF (conE (.str (Str.ofString "inrim")))) (consF (frzF (conE (.str (Str.ofString "incore")))) (consF (frzF (conE (.str (Str.ofString "hasrim")))) (consF (frzF (conE (.str (Str.ofString "hascore")))) nilF))))))))))
def fn__law_ways : List D → Option (Re × List D) := bodyF [] 0 fb__law_ways
theorem nd__law_ways : (N__law_ways).Nodup := by decide +kernel
theorem bd__law_ways {CX : CXT} {P : Program} {w : World} {K : W.Frag} {mg : Str → Option Value} {base : Heap} {qual : Str} {f : Addr} {cdv : Value} {A : Around} {outer : List Env} {s : Shared} {H : Hp} {E : XK} (hr : Room 0 (A.deeper (PyProof.Rows.envOfC qual (defScope (top 28)) s.heap.objs.size f cdv)))  : PSs (cxOf CX0 P w K mg base N__law_ways qual (defScope (top 28)) f cdv A outer s H E) (defBody (top 28)) (tS K fb__law_ways) :=
  have hu64 := units64 hr
  have hu1 := units1 hr
  have hu65 := units65 hr
  have nd := nd__law_ways
  PSs.nox (es_one (es_ret (ev_lst (ea_cons (PE.frz (ev_con pe_str (fun F => R.str _))) (ea_cons (PE.frz (ev_con pe_str (fun F => R.str _))) (ea_cons (PE.frz (ev_con pe_str (fun F => R.str _))) (ea_cons (PE.frz (ev_con pe_str (fun F => R.str _))) (ea_cons (PE.frz (ev_con pe_str (fun F => R.str _))) (ea_cons (PE.frz (ev_con pe_str (fun F => R.str _))) (ea_cons (PE.frz (ev_con pe_str (fun F => R.str _))) (ea_cons (PE.frz (ev_con pe_str (fun F => R.str _))) ea_nil rfl) rfl) rfl) rfl) rfl) rfl) rfl) rfl))))
theorem sc__law_ways : FnScope N__law_ways [] (defScope (top 28)) := ⟨rfl, rfl, rfl, nd__law_ways, rfl, by decide +kernel, by decide +kernel⟩
theorem ok__law_ways {P : Program} {w : World} {K : W.Frag} {mg : Str → Option Value} {base : Heap} {f : Addr} {fd : FuncData} (F : FunD K (Str.ofString "_law_ways") (Str.ofString "_law_ways") (defArgs (top 28)) (defBody (top 28)) (defScope (top 28)) [] [] f fd) (gX : mg (Str.ofString "_law_ways") = some (.ref f))  : CallD P w K mg base 1 (Str.ofString "_law_ways") [] [] fn__law_ways :=
  ⟨f, fd, [], [], [], fn_of F sc__law_ways rfl (fun cdv A outer s H E hr => bd__law_ways (CX := CX0) (E := E) hr ), gX, F.kp, F.bindsN fun _ _ _ _ _ _ us hl => match us, hl with | [], _ => rfl, .nil, fun _ => .nil⟩
abbrev N__law_turned : List Str := [Str.ofString "_law_choice", Str.ofString "_law_turns", Str.ofString "_law_found", Str.ofString "_law_way"]
def cc__law_turned_1 : Fb := (cmpT (bIn2 false) (orefF 3) (orefF 2))
def ce__law_turned_2 : Fv := (frzF (varE 3))
def ce__law_turned_3 : Fv := (frzF (dgetF (orefF 1) (frzF (varE 3)) (frzF (varE 3))))
def fb__law_turned : Fs := (seqF (setF 1 (dispE (((frzF (conE (.str (Str.ofString "inrim")))), (frzF (conE (.str (Str.ofString "hasrim"))))) :: (((frzF (conE (.str (Str.ofString "hasrim")))), (frzF (conE (.str (Str.ofString "inrim"))))) :: (((frzF (conE (.str (Str.ofString "incore")))), (frzF (conE (.str (Str.ofString "hascore"))))) :: (((frzF (conE (.str (Str.ofString "hascore")))), (frzF (conE (.str (Str.ofString "incore"))))) :: [])))))) (seqF (setF 2 (lcE [3] (.nm 3) (frzF (varE 0)) yesF ce__law_turned_3)) (retF (opLE gTuple (aoF (ovF (frzF (lcE [3] (.nm 3) (frzF (callE [] [] fn__law_ways anilF)) cc__law_turned_1 ce__law_turned_2))) anilF)))))
def fn__law_turned : List D → Option (Re × List D) := bodyF [false] 3 fb__law_turned
theorem nd__law_turned : (N__law_turned).Nodup := by decide +kernel
theorem bd__law_turned {CX : CXT} {P : Program} {w : World} {K : W.Frag} {mg : Str → Option Value} {base : Heap} {qual : Str} {f : Addr} {cdv : Value} {A : Around} {outer : List Env} {s : Shared} {H : Hp} {E : XK} (hr : Room 1 (A.deeper (PyProof.Rows.envOfC qual (defScope (top 29)) s.heap.objs.size f cdv))) (b_tuple : mg (Str.ofString "tuple") = none) (d__law_ways : CallD P w K mg base 1 (Str.ofString "_law_ways") [] [] fn__law_ways) : PSs (cxOf CX0 P w K mg base N__law_turned qual (defScope (top 29)) f cdv A outer s H E) (defBody (top 29)) (tS K fb__law_turned) :=
  have hu64 := units64 hr
  have hu1 := units1 hr
  have hu65 := units65 hr
  have nd := nd__law_turned
  PSs.nox (es_cons (es_set (i := 1) nd rfl (by first | exact Or.inl rfl | exact Or.inr rfl) (ev_disp (eps_cons (PE.frz (ev_con pe_str (fun F => R.str _))) (PE.frz (ev_con pe_str (fun F => R.str _))) (eps_cons (PE.frz (ev_con pe_str (fun F => R.str _))) (PE.frz (ev_con pe_str (fun F => R.str _))) (eps_cons (PE.frz (ev_con pe_str (fun F => R.str _))) (PE.frz (ev_con pe_str (fun F => R.str _))) (eps_cons (PE.frz (ev_con pe_str (fun F => R.str _))) (PE.frz (ev_con pe_str (fun F => R.str _))) eps_nil)))) rfl rfl (fun z => by cases z) (by decide)) rfl (by first | exact Or.inl rfl | exact Or.inr rfl)) (es_cons (es_set (i := 2) nd rfl (by first | exact Or.inl rfl | exact Or.inr rfl) (ev_lc rfl nd (PE.frz (ev_var (i := 0) rfl (by first | exact Or.inl rfl | exact Or.inr (Or.inl rfl) | exact Or.inr (Or.inr rfl)) rfl rfl)) (blkOk_by (own := [(Str.ofString "_law_way", 3)]) (N := N__law_turned) (sc := defScope (top 29)) (by decide +kernel)) (fun _ _ _ _ _ => (eg_name (i := 3) nd rfl (by first | exact Or.inl rfl | exact Or.inr rfl) (by first | exact Or.inl rfl | exact Or.inr rfl))) (fun _ _ _ _ _ => ets_nil) (fun _ _ _ _ _ => (PE.frz (ev_dget2 hu1 (eo_var (i := 1) rfl (by first | exact Or.inl rfl | exact Or.inr (Or.inl rfl) | exact Or.inr (Or.inr rfl)) rfl rfl) (PE.frz (ev_var (i := 3) rfl (by first | exact Or.inl rfl | exact Or.inr (Or.inl rfl) | exact Or.inr (Or.inr rfl)) rfl rfl)) (PE.frz (ev_var (i := 3) rfl (by first | exact Or.inl rfl | exact Or.inr (Or.inl rfl) | exact Or.inr (Or.inr rfl)) rfl rfl)) ⟨rfl, rfl, rfl, rfl⟩))) (fun _ => rfl) (by decide) rfl) rfl (by first | exact Or.inl rfl | exact Or.inr rfl)) (es_one (es_ret (ev_tuple rfl b_tuple (aa_consO (eo_val (PE.frz (ev_lc rfl nd (PE.frz (ev_c0 d__law_ways (hr.mono (by decide)) rfl rfl)) (blkOk_by (own := [(Str.ofString "_law_way", 3)]) (N := N__law_turned) (sc := defScope (top 29)) (by decide +kernel)) (fun _ _ _ _ _ => (eg_name (i := 3) nd rfl (by first | exact Or.inl rfl | exact Or.inr rfl) (by first | exact Or.inl rfl | exact Or.inr rfl))) (fun _ _ _ _ _ => (ets_one (ct_in2 hu65 (eo_var (i := 3) rfl (by first | exact Or.inl rfl | exact Or.inr (Or.inl rfl) | exact Or.inr (Or.inr rfl)) rfl rfl) (eo_var (i := 2) rfl (by first | exact Or.inl rfl | exact Or.inr (Or.inl rfl) | exact Or.inr (Or.inr rfl)) rfl rfl) rfl))) (fun _ _ _ _ _ => (PE.frz (ev_var (i := 3) rfl (by first | exact Or.inl rfl | exact Or.inr (Or.inl rfl) | exact Or.inr (Or.inr rfl)) rfl rfl))) (fun _ => rfl) (by decide) rfl))) aa_nil rfl) rfl)))))
theorem sc__law_turned : FnScope N__law_turned [Str.ofString "_law_choice"] (defScope (top 29)) := ⟨rfl, rfl, rfl, nd__law_turned, rfl, by decide +kernel, by decide +kernel⟩
theorem ok__law_turned {P : Program} {w : World} {K : W.Frag} {mg : Str → Option Value} {base : Heap} {f : Addr} {fd : FuncData} (F : FunD K (Str.ofString "_law_turned") (Str.ofString "_law_turned") (defArgs (top 29)) (defBody (top 29)) (defScope (top 29)) [] [] f fd) (gX : mg (Str.ofString "_law_turned") = some (.ref f)) (b_tuple : mg (Str.ofString "tuple") = none) (d__law_ways : CallD P w K mg base 1 (Str.ofString "_law_ways") [] [] fn__law_ways) : CallD P w K mg base 2 (Str.ofString "_law_turned") [false] [] fn__law_turned :=
  ⟨f, fd, [Str.ofString "_law_choice"], [], [], fn_of F sc__law_turned rfl (fun cdv A outer s H E hr => bd__law_turned (CX := CX0) (E := E) hr (b_tuple := b_tuple) (d__law_ways := d__law_ways)), gX, F.kp, F.bindsN fun _ _ _ _ _ _ us hl => match us, hl with | [_], _ => rfl, .nil, fun _ => .nil⟩
abbrev N__law_is_choice : List Str := [Str.ofString "_law_found", Str.ofString "_law_way"]
def cc__law_is_choice_1 : Fb := (cmpT (bIn2 false) (orefF 1) (orefF 0))
def ce__law_is_choice_2 : Fv := (frzF (varE 1))
def fb__law_is_choice : Fs := (retF (andE (frzF (isiE "tuple" (orefF 0))) (cmpE (bEq false) (ovF (frzF (opLE gList (aoF (orefF 0) anilF)))) (ovF (frzF (lcE [1] (.nm 1) (frzF (callE [] [] fn__law_ways anilF)) cc__law_is_choice_1 ce__law_is_choice_2))))))
def fn__law_is_choice : List D → Option (Re × List D) := bodyF [false] 1 fb__law_is_choice
theorem nd__law_is_choice : (N__law_is_choice).Nodup := by decide +kernel
theorem bd__law_is_choice {CX : CXT} {P : Program} {w : World} {K : W.Frag} {mg : Str → Option Value} {base : Heap} {qual : Str} {f : Addr} {cdv : Value} {A : Around} {outer : List Env} {s : Shared} {H : Hp} {E : XK} (hr : Room 1 (A.deeper (PyProof.Rows.envOfC qual (defScope (top 30)) s.heap.objs.size f cdv))) (b_isinstance : mg (Str.ofString "isinstance") = none) (b_list : mg (Str.ofString "list") = none) (b_tuple : mg (Str.ofString "tuple") = none) (d__law_ways : CallD P w K mg base 1 (Str.ofString "_law_ways") [] [] fn__law_ways) : PSs (cxOf CX0 P w K mg base N__law_is_choice qual (defScope (top 30)) f cdv A outer s H E) (defBody (top 30)) (tS K fb__law_is_choice) :=
  have hu64 := units64 hr
  have hu1 := units1 hr
  have hu65 := units65 hr
  have nd := nd__law_is_choice
  PSs.nox (es_one (es_ret (ev_and (PE.frz (ev_isi (T := "tuple") (eo_var (i := 0) rfl (by first | exact Or.inl rfl | exact Or.inr (Or.inl rfl) | exact Or.inr (Or.inr rfl)) rfl rfl) rfl b_isinstance (by decide +kernel) rfl b_tuple (by decide +kernel) (by decide) (by decide) rfl rfl rfl)) (ev_one (ec_eq (eo_val (PE.frz (ev_list rfl b_list (aa_consO (eo_var (i := 0) rfl (by first | exact Or.inl rfl | exact Or.inr (Or.inl rfl) | exact Or.inr (Or.inr rfl)) rfl rfl) aa_nil rfl) rfl))) (eo_val (PE.frz (ev_lc rfl nd (PE.frz (ev_c0 d__law_ways (hr.mono (by decide)) rfl rfl)) (blkOk_by (own := [(Str.ofString "_law_way", 1)]) (N := N__law_is_choice) (sc := defScope (top 30)) (by decide +kernel)) (fun _ _ _ _ _ => (eg_name (i := 1) nd rfl (by first | exact Or.inl rfl | exact Or.inr rfl) (by first | exact Or.inl rfl | exact Or.inr rfl))) (fun _ _ _ _ _ => (ets_one (ct_in2 hu65 (eo_var (i := 1) rfl (by first | exact Or.inl rfl | exact Or.inr (Or.inl rfl) | exact Or.inr (Or.inr rfl)) rfl rfl) (eo_var (i := 0) rfl (by first | exact Or.inl rfl | exact Or.inr (Or.inl rfl) | exact Or.inr (Or.inr rfl)) rfl rfl) rfl))) (fun _ _ _ _ _ => (PE.frz (ev_var (i := 1) rfl (by first | exact Or.inl rfl | exact Or.inr (Or.inl rfl) | exact Or.inr (Or.inr rfl)) rfl rfl))) (fun _ => rfl) (by decide) rfl))) hu64)))))
theorem sc__law_is_choice : FnScope N__law_is_choice [Str.ofString "_law_found"] (defScope (top 30)) := ⟨rfl, rfl, rfl, nd__law_is_choice, rfl, by decide +kernel, by decide +kernel⟩
theorem ok__law_is_choice {P : Program} {w : World} {K : W.Frag} {mg : Str → Option Value} {base : Heap} {f : Addr} {fd : FuncData} (F : FunD K (Str.ofString "_law_is_choice") (Str.ofString "_law_is_choice") (defArgs (top 30)) (defBody (top 30)) (defScope (top 30)) [] [] f fd) (gX : mg (Str.ofString "_law_is_choice") = some (.ref f)) (b_isinstance : mg (Str.ofString "isinstance") = none) (b_list : mg (Str.ofString "list") = none) (b_tuple : mg (Str.ofString "tuple") = none) (d__law_ways : CallD P w K mg base 1 (Str.ofString "_law_ways") [] [] fn__law_ways) : CallD P w K mg base 2 (Str.ofString "_law_is_choice") [false] [] fn__law_is_choice :=
  ⟨f, fd, [Str.ofString "_law_found"], [], [], fn_of F sc__law_is_choice rfl (fun cdv A outer s H E hr => bd__law_is_choice (CX := CX0) (E := E) hr (b_isinstance := b_isinstance) (b_list := b_list) (b_tuple := b_tuple) (d__law_ways := d__law_ways)), gX, F.kp, F.bindsN fun _ _ _ _ _ _ us hl => match us, hl with | [_], _ => rfl, .nil, fun _ => .nil⟩
abbrev N_law : List Str := [Str.ofString "_law_script", Str.ofString "_law_d", Str.ofString "_law_names_here", Str.ofString "_law_drawing_here", Str.ofString "_law_due", Str.ofString "_law_one", Str.ofString "_law_other", Str.ofString "_law_middle", Str.ofString "_law_first", Str.ofString "_law_second", Str.ofString "_law_found", Str.ofString "_law_back"]
def lb_law_1 : Fs := (seqF (setF 8 (getTE (orefF 4) (consF (frzF (varE 5)) (consF (frzF (varE 7)) nilF)))) (seqF (setF 9 (getTE (orefF 4) (consF (frzF (varE 7)) (consF (frzF (varE 6)) nilF)))) (seqF (setF 10 (callE [false, false] [] fn_led (avF (frzF (varE 8)) (avF (frzF (varE 9)) anilF)))) (seqF (ifF (orF (notF (truO (ovF (frzF (callE [false] [] fn__law_is_choice (avF (frzF (varE 10)) anilF)))))) (cmpT (bIn2 true) (ovF (frzF (getTE (orefF 4) (consF (frzF (varE 5)) (consF (frzF (varE 6)) nilF))))) (orefF 10))) (retF (conE (.bl false))) nextF) (seqF (setF 11 (callE [false, false] [] fn_led (avF (frzF (callE [false] [] fn_turned (avF (frzF (varE 9)) anilF))) (avF (frzF (callE [false] [] fn_turned (avF (frzF (varE 8)) anilF))) anilF)))) (ifF (orF (notF (truO (ovF (frzF (callE [false, false] [] (fn__law_like 9) (avF (frzF (varE 11)) (avF (frzF (callE [false] [] fn__law_turned (avF (frzF (varE 10)) anilF))) anilF))))))) (notF (truO (ovF (frzF (callE [false, false] [] (fn__law_like 9) (avF (frzF (callE [false, false] [] fn_led_choices (avF (frzF (tupE (consF (frzF (varE 8)) nilF))) (avF (frzF (tupE (consF (frzF (varE 9)) nilF))) anilF)))) (avF (frzF (varE 10)) anilF)))))))) (retF (conE (.bl false))) nextF))))))
def lb_law_2 : Fs := (forF (.nm 6) (frzF (varE 2)) lb_law_1)
def lb_law_3 : Fs := (forF (.nm 7) (frzF (varE 2)) lb_law_2)
def lb_law_4 : Fs := (seqF (setTF 4 (frzF (callE [false, false, false] [] fn__law_seen (avF (frzF (varE 3)) (avF (frzF (varE 5)) (avF (frzF (varE 6)) anilF))))) (consF (frzF (varE 5)) (consF (frzF (varE 6)) nilF))) (ifF (notF (truO (ovF (frzF (callE [false, false] [] (fn__law_like 9) (avF (frzF (callE [false, false, false] [] fn_seen (avF (frzF (varE 3)) (avF (frzF (varE 5)) (avF (frzF (varE 6)) anilF))))) (avF (frzF (getTE (orefF 4) (consF (frzF (varE 5)) (consF (frzF (varE 6)) nilF)))) anilF))))))) (retF (conE (.bl false))) nextF))
def lb_law_5 : Fs := (forF (.nm 6) (frzF (varE 2)) lb_law_4)
def fb_law : Fs := (seqF (setF 1 (callE [false] [] fn__law_dice (avF (frzF (varE 0)) anilF))) (seqF (setF 2 (callE [true, false] [] fn__law_names (arF 1 (avF (frzF (op2E gAdd (frzF (conE (.int 3))) (frzF (callE [true, false] [] fn__law_next (arF 1 (avF (frzF (conE (.int 3))) anilF)))))) anilF)))) (seqF (setF 3 (callE [true, false, false] [] fn__law_drawing (arF 1 (avF (frzF (varE 2)) (avF (frzF (conE (.int 6))) anilF))))) (seqF (setF 4 (fun ρ => some (.new (.dT []), ρ))) (seqF (forF (.nm 5) (frzF (varE 2)) lb_law_5) (seqF (forF (.nm 5) (frzF (varE 2)) lb_law_3) (retF (conE (.bl true)))))))))
def fn_law : List D → Option (Re × List D) := bodyF [false] 11 fb_law
theorem nd_law : (N_law).Nodup := by decide +kernel
theorem bd_law {CX : CXT} {P : Program} {w : World} {K : W.Frag} {mg : Str → Option Value} {base : Heap} {qual : Str} {f : Addr} {cdv : Value} {A : Around} {outer : List Env} {s : Shared} {H : Hp} {E : XK} (hr : Room 9 (A.deeper (PyProof.Rows.envOfC qual (defScope (top 31)) s.heap.objs.size f cdv))) (d__law_dice : CallD P w K mg base 1 (Str.ofString "_law_dice") [false] [] fn__law_dice) (d__law_drawing : CallD P w K mg base 3 (Str.ofString "_law_drawing") [true, false, false] [] fn__law_drawing) (d__law_is_choice : CallD P w K mg base 2 (Str.ofString "_law_is_choice") [false] [] fn__law_is_choice) (d__law_like : CallD P w K mg base 9 (Str.ofString "_law_like") [false, false] [] (fn__law_like 9)) (d__law_names : CallD P w K mg base 2 (Str.ofString "_law_names") [true, false] [] fn__law_names) (d__law_next : CallD P w K mg base 1 (Str.ofString "_law_next") [true, false] [] fn__law_next) (d__law_seen : CallD P w K mg base 2 (Str.ofString "_law_seen") [false, false, false] [] fn__law_seen) (d__law_turned : CallD P w K mg base 2 (Str.ofString "_law_turned") [false] [] fn__law_turned) (d_led : CallD P w K mg base 1 (Str.ofString "led") [false, false] [] fn_led) (d_led_choices : CallD P w K mg base 1 (Str.ofString "led_choices") [false, false] [] fn_led_choices) (d_seen : CallD P w K mg base 3 (Str.ofString "seen") [false, false, false] [] fn_seen) (d_turned : CallD P w K mg base 1 (Str.ofString "turned") [false] [] fn_turned) : PSs (cxOf CX0 P w K mg base N_law qual (defScope (top 31)) f cdv A outer s H E) (defBody (top 31)) (tS K fb_law) :=
  have hu64 := units64 hr
  have hu1 := units1 hr
  have hu65 := units65 hr
  have nd := nd_law
  PSs.nox (es_cons (es_set (i := 1) nd rfl (by first | exact Or.inl rfl | exact Or.inr rfl) (ev_c d__law_dice (hr.mono (by decide)) rfl (aa_consV (PE.frz (ev_var (i := 0) rfl (by first | exact Or.inl rfl | exact Or.inr (Or.inl rfl) | exact Or.inr (Or.inr rfl)) rfl rfl)) aa_nil rfl) rfl rfl rfl) rfl (by first | exact Or.inl rfl | exact Or.inr rfl)) (es_cons (es_set (i := 2) nd rfl (by first | exact Or.inl rfl | exact Or.inr rfl) (ev_c d__law_names (hr.mono (by decide)) rfl (aa_consR (i := 1) rfl (by first | exact Or.inl rfl | exact Or.inr (Or.inl rfl) | exact Or.inr (Or.inr rfl)) rfl rfl (aa_consV (PE.frz (ev_add (PE.frz (ev_con pe_int (fun F => R.int _))) (PE.frz (ev_c d__law_next (hr.mono (by decide)) rfl (aa_consR (i := 1) rfl (by first | exact Or.inl rfl | exact Or.inr (Or.inl rfl) | exact Or.inr (Or.inr rfl)) rfl rfl (aa_consV (PE.frz (ev_con pe_int (fun F => R.int _))) aa_nil rfl) rfl) rfl rfl rfl)))) aa_nil rfl) rfl) rfl rfl rfl) rfl (by first | exact Or.inl rfl | exact Or.inr rfl)) (es_cons (es_set (i := 3) nd rfl (by first | exact Or.inl rfl | exact Or.inr rfl) (ev_c d__law_drawing (hr.mono (by decide)) rfl (aa_consR (i := 1) rfl (by first | exact Or.inl rfl | exact Or.inr (Or.inl rfl) | exact Or.inr (Or.inr rfl)) rfl rfl (aa_consV (PE.frz (ev_var (i := 2) rfl (by first | exact Or.inl rfl | exact Or.inr (Or.inl rfl) | exact Or.inr (Or.inr rfl)) rfl rfl)) (aa_consV (PE.frz (ev_con pe_int (fun F => R.int _))) aa_nil rfl) rfl) rfl) rfl rfl rfl) rfl (by first | exact Or.inl rfl | exact Or.inr rfl)) (es_cons (es_set (i := 4) nd rfl (by first | exact Or.inl rfl | exact Or.inr rfl) ev_dnewT rfl (by first | exact Or.inl rfl | exact Or.inr rfl)) (es_cons (es_for PassesOwn.never rfl (PE.frz (ev_var (i := 2) rfl (by first | exact Or.inl rfl | exact Or.inr (Or.inl rfl) | exact Or.inr (Or.inr rfl)) rfl rfl)) (eg_name (i := 5) nd rfl (by first | exact Or.inl rfl | exact Or.inr rfl) (by first | exact Or.inl rfl | exact Or.inr rfl)) (es_one (es_for PassesOwn.never rfl (PE.frz (ev_var (i := 2) rfl (by first | exact Or.inl rfl | exact Or.inr (Or.inl rfl) | exact Or.inr (Or.inr rfl)) rfl rfl)) (eg_name (i := 6) nd rfl (by first | exact Or.inl rfl | exact Or.inr rfl) (by first | exact Or.inl rfl | exact Or.inr rfl)) (es_cons (es_putT (k := 4) hu1 rfl (by first | exact Or.inl rfl | exact Or.inr (Or.inl rfl) | exact Or.inr (Or.inr rfl)) rfl rfl (PE.frz (ev_c d__law_seen (hr.mono (by decide)) rfl (aa_consV (PE.frz (ev_var (i := 3) rfl (by first | exact Or.inl rfl | exact Or.inr (Or.inl rfl) | exact Or.inr (Or.inr rfl)) rfl rfl)) (aa_consV (PE.frz (ev_var (i := 5) rfl (by first | exact Or.inl rfl | exact Or.inr (Or.inl rfl) | exact Or.inr (Or.inr rfl)) rfl rfl)) (aa_consV (PE.frz (ev_var (i := 6) rfl (by first | exact Or.inl rfl | exact Or.inr (Or.inl rfl) | exact Or.inr (Or.inr rfl)) rfl rfl)) aa_nil rfl) rfl) rfl) rfl rfl rfl)) (ea_cons (PE.frz (ev_var (i := 5) rfl (by first | exact Or.inl rfl | exact Or.inr (Or.inl rfl) | exact Or.inr (Or.inr rfl)) rfl rfl)) (ea_cons (PE.frz (ev_var (i := 6) rfl (by first | exact Or.inl rfl | exact Or.inr (Or.inl rfl) | exact Or.inr (Or.inr rfl)) rfl rfl)) ea_nil rfl) rfl) rfl) (es_one (es_if (et_not (et_look (eo_val (PE.frz (ev_c d__law_like (hr.mono (by decide)) rfl (aa_consV (PE.frz (ev_c d_seen (hr.mono (by decide)) rfl (aa_consV (PE.frz (ev_var (i := 3) rfl (by first | exact Or.inl rfl | exact Or.inr (Or.inl rfl) | exact Or.inr (Or.inr rfl)) rfl rfl)) (aa_consV (PE.frz (ev_var (i := 5) rfl (by first | exact Or.inl rfl | exact Or.inr (Or.inl rfl) | exact Or.inr (Or.inr rfl)) rfl rfl)) (aa_consV (PE.frz (ev_var (i := 6) rfl (by first | exact Or.inl rfl | exact Or.inr (Or.inl rfl) | exact Or.inr (Or.inr rfl)) rfl rfl)) aa_nil rfl) rfl) rfl) rfl rfl rfl)) (aa_consV (PE.frz (ev_getT hu1 (eo_var (i := 4) rfl (by first | exact Or.inl rfl | exact Or.inr (Or.inl rfl) | exact Or.inr (Or.inr rfl)) rfl rfl) (ea_cons (PE.frz (ev_var (i := 5) rfl (by first | exact Or.inl rfl | exact Or.inr (Or.inl rfl) | exact Or.inr (Or.inr rfl)) rfl rfl)) (ea_cons (PE.frz (ev_var (i := 6) rfl (by first | exact Or.inl rfl | exact Or.inr (Or.inl rfl) | exact Or.inr (Or.inr rfl)) rfl rfl)) ea_nil rfl) rfl) (fun _ _ => rfl))) aa_nil rfl) rfl) rfl rfl rfl))) (fun _ => rfl))) (es_one (es_ret (ev_con pe_bl (fun F => R.bl _)))) es_nil))) (fun _ => rfl))) (fun _ => rfl)) (es_cons (es_for PassesOwn.never rfl (PE.frz (ev_var (i := 2) rfl (by first | exact Or.inl rfl | exact Or.inr (Or.inl rfl) | exact Or.inr (Or.inr rfl)) rfl rfl)) (eg_name (i := 5) nd rfl (by first | exact Or.inl rfl | exact Or.inr rfl) (by first | exact Or.inl rfl | exact Or.inr rfl)) (es_one (es_for PassesOwn.never rfl (PE.frz (ev_var (i := 2) rfl (by first | exact Or.inl rfl | exact Or.inr (Or.inl rfl) | exact Or.inr (Or.inr rfl)) rfl rfl)) (eg_name (i := 7) nd rfl (by first | exact Or.inl rfl | exact Or.inr rfl) (by first | exact Or.inl rfl | exact Or.inr rfl)) (es_one (es_for PassesOwn.never rfl (PE.frz (ev_var (i := 2) rfl (by first | exact Or.inl rfl | exact Or.inr (Or.inl rfl) | exact Or.inr (Or.inr rfl)) rfl rfl)) (eg_name (i := 6) nd rfl (by first | exact Or.inl rfl | exact Or.inr rfl) (by first | exact Or.inl rfl | exact Or.inr rfl)) (es_cons (es_set (i := 8) nd rfl (by first | exact Or.inl rfl | exact Or.inr rfl) (ev_getT hu1 (eo_var (i := 4) rfl (by first | exact Or.inl rfl | exact Or.inr (Or.inl rfl) | exact Or.inr (Or.inr rfl)) rfl rfl) (ea_cons (PE.frz (ev_var (i := 5) rfl (by first | exact Or.inl rfl | exact Or.inr (Or.inl rfl) | exact Or.inr (Or.inr rfl)) rfl rfl)) (ea_cons (PE.frz (ev_var (i := 7) rfl (by first | exact Or.inl rfl | exact Or.inr (Or.inl rfl) | exact Or.inr (Or.inr rfl)) rfl rfl)) ea_nil rfl) rfl) (fun _ _ => rfl)) rfl (by first | exact Or.inl rfl | exact Or.inr rfl)) (es_cons (es_set (i := 9) nd rfl (by first | exact Or.inl rfl | exact Or.inr rfl) (ev_getT hu1 (eo_var (i := 4) rfl (by first | exact Or.inl rfl | exact Or.inr (Or.inl rfl) | exact Or.inr (Or.inr rfl)) rfl rfl) (ea_cons (PE.frz (ev_var (i := 7) rfl (by first | exact Or.inl rfl | exact Or.inr (Or.inl rfl) | exact Or.inr (Or.inr rfl)) rfl rfl)) (ea_cons (PE.frz (ev_var (i := 6) rfl (by first | exact Or.inl rfl | exact Or.inr (Or.inl rfl) | exact Or.inr (Or.inr rfl)) rfl rfl)) ea_nil rfl) rfl) (fun _ _ => rfl)) rfl (by first | exact Or.inl rfl | exact Or.inr rfl)) (es_cons (es_set (i := 10) nd rfl (by first | exact Or.inl rfl | exact Or.inr rfl) (ev_c d_led (hr.mono (by decide)) rfl (aa_consV (PE.frz (ev_var (i := 8) rfl (by first | exact Or.inl rfl | exact Or.inr (Or.inl rfl) | exact Or.inr (Or.inr rfl)) rfl rfl)) (aa_consV (PE.frz (ev_var (i := 9) rfl (by first | exact Or.inl rfl | exact Or.inr (Or.inl rfl) | exact Or.inr (Or.inr rfl)) rfl rfl)) aa_nil rfl) rfl) rfl rfl rfl) rfl (by first | exact Or.inl rfl | exact Or.inr rfl)) (es_cons (es_if (PW.pt (et_or (et_not (et_look (eo_val (PE.frz (ev_c d__law_is_choice (hr.mono (by decide)) rfl (aa_consV (PE.frz (ev_var (i := 10) rfl (by first | exact Or.inl rfl | exact Or.inr (Or.inl rfl) | exact Or.inr (Or.inr rfl)) rfl rfl)) aa_nil rfl) rfl rfl rfl))) (fun _ => rfl))) (pw_or1 (ct_notIn2 hu65 (eo_val (PE.frz (ev_getT hu1 (eo_var (i := 4) rfl (by first | exact Or.inl rfl | exact Or.inr (Or.inl rfl) | exact Or.inr (Or.inr rfl)) rfl rfl) (ea_cons (PE.frz (ev_var (i := 5) rfl (by first | exact Or.inl rfl | exact Or.inr (Or.inl rfl) | exact Or.inr (Or.inr rfl)) rfl rfl)) (ea_cons (PE.frz (ev_var (i := 6) rfl (by first | exact Or.inl rfl | exact Or.inr (Or.inl rfl) | exact Or.inr (Or.inr rfl)) rfl rfl)) ea_nil rfl) rfl) (fun _ _ => rfl)))) (eo_var (i := 10) rfl (by first | exact Or.inl rfl | exact Or.inr (Or.inl rfl) | exact Or.inr (Or.inr rfl)) rfl rfl) rfl)))) (es_one (es_ret (ev_con pe_bl (fun F => R.bl _)))) es_nil) (es_cons (es_set (i := 11) nd rfl (by first | exact Or.inl rfl | exact Or.inr rfl) (ev_c d_led (hr.mono (by decide)) rfl (aa_consV (PE.frz (ev_c d_turned (hr.mono (by decide)) rfl (aa_consV (PE.frz (ev_var (i := 9) rfl (by first | exact Or.inl rfl | exact Or.inr (Or.inl rfl) | exact Or.inr (Or.inr rfl)) rfl rfl)) aa_nil rfl) rfl rfl rfl)) (aa_consV (PE.frz (ev_c d_turned (hr.mono (by decide)) rfl (aa_consV (PE.frz (ev_var (i := 8) rfl (by first | exact Or.inl rfl | exact Or.inr (Or.inl rfl) | exact Or.inr (Or.inr rfl)) rfl rfl)) aa_nil rfl) rfl rfl rfl)) aa_nil rfl) rfl) rfl rfl rfl) rfl (by first | exact Or.inl rfl | exact Or.inr rfl)) (es_one (es_if (PW.pt (et_or (et_not (et_look (eo_val (PE.frz (ev_c d__law_like (hr.mono (by decide)) rfl (aa_consV (PE.frz (ev_var (i := 11) rfl (by first | exact Or.inl rfl | exact Or.inr (Or.inl rfl) | exact Or.inr (Or.inr rfl)) rfl rfl)) (aa_consV (PE.frz (ev_c d__law_turned (hr.mono (by decide)) rfl (aa_consV (PE.frz (ev_var (i := 10) rfl (by first | exact Or.inl rfl | exact Or.inr (Or.inl rfl) | exact Or.inr (Or.inr rfl)) rfl rfl)) aa_nil rfl) rfl rfl rfl)) aa_nil rfl) rfl) rfl rfl rfl))) (fun _ => rfl))) (pw_or1 (et_not (et_look (eo_val (PE.frz (ev_c d__law_like (hr.mono (by decide)) rfl (aa_consV (PE.frz (ev_c d_led_choices (hr.mono (by decide)) rfl (aa_consV (PE.frz (ev_tup (ea_cons (PE.frz (ev_var (i := 8) rfl (by first | exact Or.inl rfl | exact Or.inr (Or.inl rfl) | exact Or.inr (Or.inr rfl)) rfl rfl)) ea_nil rfl))) (aa_consV (PE.frz (ev_tup (ea_cons (PE.frz (ev_var (i := 9) rfl (by first | exact Or.inl rfl | exact Or.inr (Or.inl rfl) | exact Or.inr (Or.inr rfl)) rfl rfl)) ea_nil rfl))) aa_nil rfl) rfl) rfl rfl rfl)) (aa_consV (PE.frz (ev_var (i := 10) rfl (by first | exact Or.inl rfl | exact Or.inr (Or.inl rfl) | exact Or.inr (Or.inr rfl)) rfl rfl)) aa_nil rfl) rfl) rfl rfl rfl))) (fun _ => rfl)))))) (es_one (es_ret (ev_con pe_bl (fun F => R.bl _)))) es_nil))))))) (fun _ => rfl))) (fun _ => rfl))) (fun _ => rfl)) (es_one (es_ret (ev_con pe_bl (fun F => R.bl _))))))))))
theorem sc_law : FnScope N_law [Str.ofString "_law_script"] (defScope (top 31)) := ⟨rfl, rfl, rfl, nd_law, rfl, by decide +kernel, by decide +kernel⟩
theorem ok_law {P : Program} {w : World} {K : W.Frag} {mg : Str → Option Value} {base : Heap} {f : Addr} {fd : FuncData} (F : FunD K (Str.ofString "law") (Str.ofString "law") (defArgs (top 31)) (defBody (top 31)) (defScope (top 31)) [] [] f fd) (gX : mg (Str.ofString "law") = some (.ref f)) (d__law_dice : CallD P w K mg base 1 (Str.ofString "_law_dice") [false] [] fn__law_dice) (d__law_drawing : CallD P w K mg base 3 (Str.ofString "_law_drawing") [true, false, false] [] fn__law_drawing) (d__law_is_choice : CallD P w K mg base 2 (Str.ofString "_law_is_choice") [false] [] fn__law_is_choice) (d__law_like : CallD P w K mg base 9 (Str.ofString "_law_like") [false, false] [] (fn__law_like 9)) (d__law_names : CallD P w K mg base 2 (Str.ofString "_law_names") [true, false] [] fn__law_names) (d__law_next : CallD P w K mg base 1 (Str.ofString "_law_next") [true, false] [] fn__law_next) (d__law_seen : CallD P w K mg base 2 (Str.ofString "_law_seen") [false, false, false] [] fn__law_seen) (d__law_turned : CallD P w K mg base 2 (Str.ofString "_law_turned") [false] [] fn__law_turned) (d_led : CallD P w K mg base 1 (Str.ofString "led") [false, false] [] fn_led) (d_led_choices : CallD P w K mg base 1 (Str.ofString "led_choices") [false, false] [] fn_led_choices) (d_seen : CallD P w K mg base 3 (Str.ofString "seen") [false, false, false] [] fn_seen) (d_turned : CallD P w K mg base 1 (Str.ofString "turned") [false] [] fn_turned) : CallD P w K mg base 10 (Str.ofString "law") [false] [] fn_law :=
  ⟨f, fd, [Str.ofString "_law_script"], [], [], fn_of F sc_law rfl (fun cdv A outer s H E hr => bd_law (CX := CX0) (E := E) hr (d__law_dice := d__law_dice) (d__law_drawing := d__law_drawing) (d__law_is_choice := d__law_is_choice) (d__law_like := d__law_like) (d__law_names := d__law_names) (d__law_next := d__law_next) (d__law_seen := d__law_seen) (d__law_turned := d__law_turned) (d_led := d_led) (d_led_choices := d_led_choices) (d_seen := d_seen) (d_turned := d_turned)), gX, F.kp, F.bindsN fun _ _ _ _ _ _ us hl => match us, hl with | [_], _ => rfl, .nil, fun _ => .nil⟩
end G02
/-! P02a -/
namespace G02
open PySem PySem.Spec PyProof.Rows L2 Ev
def dice (ns : List Int) (b c e : Int) : D := .lst [.rol (ns.map D.int), .int b, .int c, .int e]
/-- what a turn of the dice gives -/
def nextV (ns : List Int) (b c e m : Int) : Option (Int × Int × Int × Int) :=
  if 0 < e then some (e.fmod m, b, c, e.fdiv m)
  else if b + 1 ≤ ns.length then
    match atI ns b with
    | some x => some (x.fmod m, b + 1, c, if (10 : Int) ^ 18 ≤ x then x.fdiv m else 0)
    | none => none
  else some ((((c * 48271).fmod 2147483647).fdiv 7).fmod m, b + 1, (c * 48271).fmod 2147483647, e)
theorem inW_c : inW 48271 = true := by decide
theorem atI_map {α β : Type} (f : α → β) (l : List α) (i : Int) : atI (l.map f) i = (atI l i).map f := by
  unfold atI
  rw [List.length_map]
  cases ixN l.length i with
  | none => rfl
  | some j => simp
theorem pow18 : gPow (.int 10) (.int 18) = some (.val (.int (10 ^ 18))) := by first | rfl | simp [gPow, gI]
theorem next_eq {ns : List Int} {b c e m : Int} (hm : 0 < m) (hm2 : m < 1073741824) (hb : 0 ≤ b) {r b' c' e' : Int} (h : nextV ns b c e m = some (r, b', c', e')) :
    fn__law_next [dice ns b c e, .int m] = some (.val (.int r), [dice ns b' c' e', .int m]) := by
  have hm0 : m ≠ 0 := by omega
  have hmA : m.natAbs < 1073741824 := by omega
  have a0 : ∀ l : List D, l.length = 4 → ixN l.length 0 = some 0 := fun l h => by rw [h]; decide
  have i0 : ixN 4 0 = some 0 := by decide
  have i1 : ixN 4 1 = some 1 := by decide
  have i2 : ixN 4 2 = some 2 := by decide
  have i3 : ixN 4 3 = some 3 := by decide
  unfold nextV at h
  by_cases h1 : 0 < e
  · rw [if_pos h1] at h
    cases h
    simp [fn__law_next, fb__law_next, dice, atI, i0, i1, i2, i3, h1, hm0, hmA, bodyF, seqF, nextF, ifF, cmpT, cmpE, look2, ovF, frzF, ixE, orefF, inE, lookA, lookAs, lookOf, conE, varE, gSub2, gIx, gDget, itemsOf, Ev.keyOf, Re.d, bLt, bGt, bLe, bGe, bEq, bEqF, bInt, bStr, setF, op2E, gAdd, gAddI, gAddS, gAddL, gAddT, Ev.gSub, gMul, gMulI, gMulL, gMod, gFdiv, gPow, gI, gS, isRef, slOf, setItF, Ev.cellOf, gPut2, gSetL, gPutK, setC, retVarF, retF, outs, opLE, aoF, anilF, gLen, gLenS, iteE, dropF]
  · rw [if_neg h1] at h
    by_cases h2 : b + 1 ≤ ns.length
    · rw [if_pos h2] at h
      cases q : atI ns b with
      | none => rw [q] at h; cases h
      | some x =>
        rw [q] at h
        cases h
        have q2 : atI (ns.map D.int) b = some (.int x) := by rw [atI_map, q]; rfl
        have k0 : ∀ (x y z t : D), atI [x, y, z, t] 0 = some x := fun x y z t => rfl
        have k1 : ∀ (x y z t : D), atI [x, y, z, t] 1 = some y := fun x y z t => rfl
        have k2 : ∀ (x y z t : D), atI [x, y, z, t] 2 = some z := fun x y z t => rfl
        have k3 : ∀ (x y z t : D), atI [x, y, z, t] 3 = some t := fun x y z t => rfl
        by_cases h3 : (10 : Int) ^ 18 ≤ x
        · have h4 : (1000000000000000000 : Int) ≤ x := by simpa using h3
          simp [fn__law_next, fb__law_next, dice, k0, k1, k2, k3, i0, i1, i2, i3, h1, h2, h4, hm0, hmA, q2, bodyF, seqF, nextF, ifF, cmpT, cmpE, look2, ovF, frzF, ixE, orefF, inE, lookA, lookAs, lookOf, conE, varE, gSub2, gIx, gDget, itemsOf, Ev.keyOf, Re.d, bLt, bGt, bLe, bGe, bEq, bEqF, bInt, bStr, setF, op2E, gAdd, gAddI, gAddS, gAddL, gAddT, Ev.gSub, gMul, gMulI, gMulL, gMod, gFdiv, gPow, gI, gS, isRef, slOf, setItF, Ev.cellOf, gPut2, gSetL, gPutK, setC, retVarF, retF, outs, opLE, aoF, anilF, gLen, gLenS, iteE, dropF]
        · have h4 : ¬(1000000000000000000 : Int) ≤ x := by simpa using h3
          simp [fn__law_next, fb__law_next, dice, k0, k1, k2, k3, i0, i1, i2, i3, h1, h2, h4, hm0, hmA, q2, bodyF, seqF, nextF, ifF, cmpT, cmpE, look2, ovF, frzF, ixE, orefF, inE, lookA, lookAs, lookOf, conE, varE, gSub2, gIx, gDget, itemsOf, Ev.keyOf, Re.d, bLt, bGt, bLe, bGe, bEq, bEqF, bInt, bStr, setF, op2E, gAdd, gAddI, gAddS, gAddL, gAddT, Ev.gSub, gMul, gMulI, gMulL, gMod, gFdiv, gPow, gI, gS, isRef, slOf, setItF, Ev.cellOf, gPut2, gSetL, gPutK, setC, retVarF, retF, outs, opLE, aoF, anilF, gLen, gLenS, iteE, dropF]
    · rw [if_neg h2] at h
      cases h
      simp [fn__law_next, fb__law_next, dice, atI, i0, i1, i2, i3, h1, h2, hm0, hmA, inW_c, bodyF, seqF, nextF, ifF, cmpT, cmpE, look2, ovF, frzF, ixE, orefF, inE, lookA, lookAs, lookOf, conE, varE, gSub2, gIx, gDget, itemsOf, Ev.keyOf, Re.d, bLt, bGt, bLe, bGe, bEq, bEqF, bInt, bStr, setF, op2E, gAdd, gAddI, gAddS, gAddL, gAddT, Ev.gSub, gMul, gMulI, gMulL, gMod, gFdiv, gPow, gI, gS, isRef, slOf, setItF, Ev.cellOf, gPut2, gSetL, gPutK, setC, retVarF, retF, outs, opLE, aoF, anilF, gLen, gLenS, iteE, dropF]
end G02
/-! P02b -/
namespace G02
open PySem PySem.Spec PyProof.Rows L2 Ev
def slV (s : Sl) : Bool := match s with
  | .none => true
  | .val _ => true
  | _ => false
theorem dice_loop (L : D) : ∀ (ns : List Int) (m : Int) (s : Sl), slV s = true → ∃ m' s', slV s' = true ∧ loopF (.nm 2) lb__law_dice_1 (ns.map D.int) [.val L, .val (.int m), s] = some (.nx [.val L, .val (.int m'), s'])
  | [], m, s, h => ⟨m, s, h, rfl⟩
  | n :: ns, m, s, h => by
    have c1 : inW 48271 = true := by decide
    have c2 : inW 69621 = true := by decide
    obtain ⟨m', s', h', e⟩ := dice_loop L ns (((m * 48271 + n.fmod 2147483647 * 69621 + 11)).fmod 2147483647) (.val (.int n)) rfl
    refine ⟨m', s', h', ?_⟩
    rw [← e]
    cases s with
    | none => simp [loopF, lb__law_dice_1, putT, put1, c1, c2, bodyF, seqF, nextF, ifF, cmpT, cmpE, look2, ovF, frzF, ixE, orefF, inE, lookA, lookAs, lookOf, conE, varE, gSub2, gIx, gDget, itemsOf, Ev.keyOf, Re.d, bLt, bGt, bLe, bGe, bEq, bEqF, bInt, bStr, setF, op2E, gAdd, gAddI, gAddS, gAddL, gAddT, Ev.gSub, gMul, gMulI, gMulL, gMod, gFdiv, gPow, gI, gS, isRef, slOf, setItF, Ev.cellOf, gPut2, gSetL, gPutK, setC, retVarF, retF, outs, opLE, aoF, anilF, gLen, gLenS, iteE, dropF]
    | val d => simp [loopF, lb__law_dice_1, putT, put1, c1, c2, bodyF, seqF, nextF, ifF, cmpT, cmpE, look2, ovF, frzF, ixE, orefF, inE, lookA, lookAs, lookOf, conE, varE, gSub2, gIx, gDget, itemsOf, Ev.keyOf, Re.d, bLt, bGt, bLe, bGe, bEq, bEqF, bInt, bStr, setF, op2E, gAdd, gAddI, gAddS, gAddL, gAddT, Ev.gSub, gMul, gMulI, gMulL, gMod, gFdiv, gPow, gI, gS, isRef, slOf, setItF, Ev.cellOf, gPut2, gSetL, gPutK, setC, retVarF, retF, outs, opLE, aoF, anilF, gLen, gLenS, iteE, dropF]
    | own d => cases h
    | ref d => cases h
theorem dice_eq (ns : List Int) : ∃ c, fn__law_dice [.rol (ns.map D.int)] = some (.new (dice ns 0 c 0), [.rol (ns.map D.int)]) := by
  obtain ⟨m', s', h', e⟩ := dice_loop (.rol (ns.map D.int)) ns 0 .none rfl
  have c1 : inW 1 = true := by decide
  have c0 : inW 0 = true := by decide
  have l4 : isLine 4 = true := by decide
  by_cases h2 : (2 : Int) < ns.length
  · refine ⟨m' * 1, ?_⟩
    cases s' with
    | none => simp [fn__law_dice, fb__law_dice, forF, e, dice, gInt, lstE, consF, nilF, c1, h2, l4, bodyF, seqF, nextF, ifF, cmpT, cmpE, look2, ovF, frzF, ixE, orefF, inE, lookA, lookAs, lookOf, conE, varE, gSub2, gIx, gDget, itemsOf, Ev.keyOf, Re.d, bLt, bGt, bLe, bGe, bEq, bEqF, bInt, bStr, setF, op2E, gAdd, gAddI, gAddS, gAddL, gAddT, Ev.gSub, gMul, gMulI, gMulL, gMod, gFdiv, gPow, gI, gS, isRef, slOf, setItF, Ev.cellOf, gPut2, gSetL, gPutK, setC, retVarF, retF, outs, opLE, aoF, anilF, gLen, gLenS, iteE, dropF]
    | val d => simp [fn__law_dice, fb__law_dice, forF, e, dice, gInt, lstE, consF, nilF, c1, h2, l4, bodyF, seqF, nextF, ifF, cmpT, cmpE, look2, ovF, frzF, ixE, orefF, inE, lookA, lookAs, lookOf, conE, varE, gSub2, gIx, gDget, itemsOf, Ev.keyOf, Re.d, bLt, bGt, bLe, bGe, bEq, bEqF, bInt, bStr, setF, op2E, gAdd, gAddI, gAddS, gAddL, gAddT, Ev.gSub, gMul, gMulI, gMulL, gMod, gFdiv, gPow, gI, gS, isRef, slOf, setItF, Ev.cellOf, gPut2, gSetL, gPutK, setC, retVarF, retF, outs, opLE, aoF, anilF, gLen, gLenS, iteE, dropF]
    | own d => cases h'
    | ref d => cases h'
  · refine ⟨m' * 0, ?_⟩
    cases s' with
    | none => simp [fn__law_dice, fb__law_dice, forF, e, dice, gInt, lstE, consF, nilF, c0, h2, l4, bodyF, seqF, nextF, ifF, cmpT, cmpE, look2, ovF, frzF, ixE, orefF, inE, lookA, lookAs, lookOf, conE, varE, gSub2, gIx, gDget, itemsOf, Ev.keyOf, Re.d, bLt, bGt, bLe, bGe, bEq, bEqF, bInt, bStr, setF, op2E, gAdd, gAddI, gAddS, gAddL, gAddT, Ev.gSub, gMul, gMulI, gMulL, gMod, gFdiv, gPow, gI, gS, isRef, slOf, setItF, Ev.cellOf, gPut2, gSetL, gPutK, setC, retVarF, retF, outs, opLE, aoF, anilF, gLen, gLenS, iteE, dropF]
    | val d => simp [fn__law_dice, fb__law_dice, forF, e, dice, gInt, lstE, consF, nilF, c0, h2, l4, bodyF, seqF, nextF, ifF, cmpT, cmpE, look2, ovF, frzF, ixE, orefF, inE, lookA, lookAs, lookOf, conE, varE, gSub2, gIx, gDget, itemsOf, Ev.keyOf, Re.d, bLt, bGt, bLe, bGe, bEq, bEqF, bInt, bStr, setF, op2E, gAdd, gAddI, gAddS, gAddL, gAddT, Ev.gSub, gMul, gMulI, gMulL, gMod, gFdiv, gPow, gI, gS, isRef, slOf, setItF, Ev.cellOf, gPut2, gSetL, gPutK, setC, retVarF, retF, outs, opLE, aoF, anilF, gLen, gLenS, iteE, dropF]
    | own d => cases h'
    | ref d => cases h'
end G02
/-! P02c -/
namespace G02
open PySem PySem.Spec PyProof.Rows L2 Ev
def IsDice (d : D) : Prop := ∃ ns b c e, 0 ≤ b ∧ d = dice ns b c e
theorem ixN_in {n : Nat} {i : Int} (h : 0 ≤ i) (h2 : i < n) : ixN n i = some i.toNat := by
  unfold ixN
  rw [if_pos h, if_pos h2]
theorem next_spec {d : D} {m : Int} (hd : IsDice d) (hm : 0 < m) (hm2 : m < 1073741824) : ∃ (r : Int) (d' : D), 0 ≤ r ∧ r < m ∧ IsDice d' ∧ fn__law_next [d, .int m] = some (.val (.int r), [d', .int m]) := by
  obtain ⟨ns, b, c, e, hb, rfl⟩ := hd
  have md : ∀ x : Int, 0 ≤ x.fmod m ∧ x.fmod m < m := fun x => ⟨Int.fmod_nonneg_of_pos x hm, Int.fmod_lt_of_pos x hm⟩
  by_cases h1 : 0 < e
  · exact ⟨_, _, (md e).1, (md e).2, ⟨ns, b, c, e.fdiv m, hb, rfl⟩, next_eq hm hm2 hb (by unfold nextV; rw [if_pos h1])⟩
  · by_cases h2 : b + 1 ≤ ns.length
    · have hk : b.toNat < ns.length := by omega
      have q : atI ns b = some ns[b.toNat] := by
        unfold atI
        rw [ixN_in hb (by omega)]
        exact List.getElem?_eq_getElem hk
      exact ⟨_, _, (md _).1, (md _).2, ⟨ns, b + 1, c, _, by omega, rfl⟩, next_eq hm hm2 hb (by unfold nextV; rw [if_neg h1, if_pos h2, q])⟩
    · exact ⟨_, _, (md _).1, (md _).2, ⟨ns, b + 1, _, e, by omega, rfl⟩, next_eq hm hm2 hb (by unfold nextV; rw [if_neg h1, if_neg h2])⟩
section
/-- a turn of the dice that stands at place 0 -/
theorem r_next {d d' : D} {s : Sl} {m : Int} {r : Int} {l : EnvD} {e : Fe} (hs : s = .ref d ∨ s = .own d) (he : e (s :: l) = some (.val (.int m), s :: l)) (h : fn__law_next [d, .int m] = some (.val (.int r), [d', .int m])) :
    callE [true, false] [] fn__law_next (arF 0 (avF (frzF e) anilF)) (s :: l) = some (.val (.int r), (match s with | .ref _ => .ref d' | _ => .own d') :: l) := by
  have pb : List.mapIdx (fun j s => newSl (refAt [AD.r 0, .v (.int m)] [d', .int m] (j + 1)) s) l = l := by
    apply List.ext_getElem?
    intro k
    rw [List.getElem?_mapIdx]
    cases l[k]? with
    | none => rfl
    | some x => simp [refAt, newSl]
  have fz : frzF e (s :: l) = some (.int m, s :: l) := by
    unfold frzF
    rw [he]
    rfl
  have pbk : putBack [AD.r 0, .v (.int m)] [d', .int m] (s :: l) = newSl (some d') s :: l := by
    unfold putBack
    rw [List.mapIdx_cons, pb]
    rfl
  have ea : arF 0 (avF (frzF e) anilF) (s :: l) = some ([.r 0, .v (.int m)], s :: l) := by
    rcases hs with rfl | rfl <;> simp [arF, avF, fz, anilF]
  have da : argD ([AD.r 0, .v (.int m)] ++ List.map AD.v []) (s :: l) = some [d, .int m] := by
    rcases hs with rfl | rfl <;> simp [argD, Ev.cellOf]
  unfold callE
  rw [ea]
  simp only [da, h]
  rw [if_pos (by rfl)]
  simp only [List.map_nil, List.append_nil, List.length_cons, List.length_nil, decide_true, if_true]
  rw [pbk]
  rcases hs with rfl | rfl <;> rfl
end
end G02
/-! P02d -/
namespace G02
open PySem PySem.Spec PyProof.Rows L2 Ev
abbrev sd (l : List Str) : List D := l.map D.str
theorem in62_of {i : Int} (h : 0 ≤ i) (h2 : i < 1073741824) : in62 i = true := by
  cases i with
  | ofNat n =>
    show Nat.ble n 4611686018427387903 = true
    exact Nat.ble_eq_true_of_le (by have : (n : Int) < 1073741824 := h2; omega)
  | negSucc n => have := Int.negSucc_lt_zero n; omega
theorem pop_strs {l : List Str} {r : Int} (h : 0 ≤ r) (h2 : r < l.length) (hl : l.length ≤ 1000) : ∃ x, x ∈ l ∧ gPopAt (.lst (sd l)) [.int r] = some (.str x, .lst (sd (l.eraseIdx r.toNat))) := by
  have hk : r.toNat < l.length := by omega
  refine ⟨l[r.toNat], List.getElem_mem hk, ?_⟩
  have e1 : ixN (sd l).length r = some r.toNat := ixN_in h (by rw [List.length_map]; exact h2)
  have e2 : (sd l)[r.toNat]? = some (.str l[r.toNat]) := by rw [List.getElem?_map, List.getElem?_eq_getElem hk]; rfl
  simp only [gPopAt, in62_of h (by omega), e1, e2, if_true]
  rw [show (sd l).eraseIdx r.toNat = sd (l.eraseIdx r.toNat) by
    rw [List.eraseIdx_eq_take_drop_succ, List.eraseIdx_eq_take_drop_succ]
    simp [sd, List.map_take, List.map_drop]]
theorem len_own {l : List Str} {ρ : EnvD} {i : Nat} (h : ρ[i]? = some (.own (.lst (sd l))) ∨ ρ[i]? = some (.val (.lst (sd l)))) : opLE (fun ds => (gLen ds).or (gLenS ds)) (aoF (orefF i) anilF) ρ = some (.val (.int (l.length : Nat)), ρ) := by
  refine r_opL (as := [.r i]) (ds := [.lst (sd l)]) (r_ao (a := .r i) (as := []) ?_ rfl) ?_ ?_
  · unfold orefF
    rcases h with h | h <;> rw [h]
  · have : lookA ρ (.r i) = some (.lst (sd l)) := by
      show lookOf ρ i = _
      unfold lookOf
      rcases h with h | h <;> rw [h]
    simp only [lookAs, this]
  · simp [gLen, itemsOf]
def alph : Str := Str.ofString "abcdefghijklmnopqrstuvwxyz"
theorem alph_at {r : Int} (h : 0 ≤ r) (h2 : r < 26) : ∃ x : Str, x.length = 1 ∧ gSub2 (.str alph) (.int r) = some (.str x) := by
  have e0 : alph.cps.toList.length = 26 := by decide +kernel
  have e1 : isLine alph.length = true := by decide +kernel
  have hk : r.toNat < alph.cps.toList.length := by omega
  have e2 : atI alph.cps.toList r = some alph.cps.toList[r.toNat] := by
    unfold atI
    rw [ixN_in h (by rw [e0]; omega)]
    exact List.getElem?_eq_getElem hk
  refine ⟨⟨#[alph.cps.toList[r.toNat]]⟩, rfl, ?_⟩
  unfold gSub2
  show ((if isLine alph.length = true then (atI alph.cps.toList r).map fun c => D.str ⟨#[c]⟩ else none).or _) = _
  rw [if_pos e1, e2]
  rfl
theorem app_len {x y : Str} : (x ++ y).length = x.length + y.length := by
  show (x.cps ++ y.cps).size = _
  rw [Array.size_append]
  rfl
theorem names_turn {d many : D} {menu found : List Str} {s4 s5 : Sl} (hd : IsDice d) (h0 : menu ≠ []) (hl : menu.length ≤ 8) (hm : ∀ x, x ∈ menu → x.length ≤ 8) (hf : found.length ≤ 100) (h5 : isRef [s5] 0 = false) :
    ∃ d' menu' name, IsDice d' ∧ menu'.length + 1 = menu.length ∧ (∀ x, x ∈ menu' → x ∈ menu) ∧ name.length ≤ 9 ∧
      lb__law_names_1 [.ref d, .val many, .own (.lst (sd menu)), .own (.lst (sd found)), s4, s5] = some (.nx [.ref d', .val many, .own (.lst (sd menu')), .own (.lst (sd (found ++ [name]))), s4, .val (.str name)]) := by
  have hp : 0 < menu.length := List.length_pos_iff.mpr h0
  obtain ⟨r1, d1, a1, a2, D1, n1⟩ := next_spec (m := (menu.length : Nat)) hd (by omega) (by omega)
  obtain ⟨x, hx, px⟩ := pop_strs (l := menu) a1 (by omega) (by omega)
  have hx8 := hm x hx
  have c1 : setF 5 (mutE "list" gPopAt 2 (consF (frzF (callE [true, false] [] fn__law_next (arF 0 (avF (frzF (opLE (fun ds => (gLen ds).or (gLenS ds)) (aoF (orefF 2) anilF))) anilF)))) nilF)) [.ref d, .val many, .own (.lst (sd menu)), .own (.lst (sd found)), s4, s5] =
      some (.nx [.ref d1, .val many, .own (.lst (sd (menu.eraseIdx r1.toNat))), .own (.lst (sd found)), s4, .val (.str x)]) := by
    refine r_set (r := .val (.str x)) (ρ1 := [.ref d1, .val many, .own (.lst (sd (menu.eraseIdx r1.toNat))), .own (.lst (sd found)), s4, s5]) ?_ ?_
    · have k1 := r_next (s := .ref d) (l := [.val many, .own (.lst (sd menu)), .own (.lst (sd found)), s4, s5]) (.inl rfl) (len_own (i := 2) (.inl rfl)) n1
      exact (r_mut (k := 2) (T := "list") (ρ := [.ref d, .val many, .own (.lst (sd menu)), .own (.lst (sd found)), s4, s5]) rfl rfl (r_cons (r_frz k1 rfl) rfl) rfl px).trans rfl
    cases s5 <;> first | rfl | cases h5
  obtain ⟨r2, d2, b1, b2, D2, n2⟩ := next_spec (m := 3) D1 (by decide) (by decide)
  have t2 : cmpT (bEq false) (ovF (frzF (callE [true, false] [] fn__law_next (arF 0 (avF (frzF (conE (.int 3))) anilF))))) (ovF (frzF (conE (.int 2)))) [.ref d1, .val many, .own (.lst (sd (menu.eraseIdx r1.toNat))), .own (.lst (sd found)), s4, .val (.str x)] =
      some (decide (V.int r2 = V.int 2), [.ref d2, .val many, .own (.lst (sd (menu.eraseIdx r1.toNat))), .own (.lst (sd found)), s4, .val (.str x)]) :=
    r_cmpT (r_ov (r_frz (r_next (.inl rfl) rfl n2) rfl)) rfl rfl rfl rfl
  -- the name so far
  have mid : ∃ d3 y, IsDice d3 ∧ y.length ≤ 8 ∧ ifF (andF (cmpT (bEq false) (ovF (frzF (callE [true, false] [] fn__law_next (arF 0 (avF (frzF (conE (.int 3))) anilF))))) (ovF (frzF (conE (.int 2))))) (cmpT bLt (ovF (frzF (opLE (fun ds => (gLen ds).or (gLenS ds)) (aoF (orefF 5) anilF)))) (ovF (frzF (conE (.int 7))))))
      (setF 5 (op2E gAdd (frzF (ixE gSub2 (ovF (frzF (conE (.str (Str.ofString "abcdefghijklmnopqrstuvwxyz"))))) (frzF (callE [true, false] [] fn__law_next (arF 0 (avF (frzF (conE (.int 26))) anilF)))))) (frzF (varE 5)))) nextF [.ref d1, .val many, .own (.lst (sd (menu.eraseIdx r1.toNat))), .own (.lst (sd found)), s4, .val (.str x)] =
      some (.nx [.ref d3, .val many, .own (.lst (sd (menu.eraseIdx r1.toNat))), .own (.lst (sd found)), s4, .val (.str y)]) := by
    cases q2 : decide (V.int r2 = V.int 2) with
    | false =>
      rw [q2] at t2
      exact ⟨d2, x, D2, hx8, r_iff (r_andF t2) rfl⟩
    | true =>
      rw [q2] at t2
      have t3 : cmpT bLt (ovF (frzF (opLE (fun ds => (gLen ds).or (gLenS ds)) (aoF (orefF 5) anilF)))) (ovF (frzF (conE (.int 7)))) [.ref d2, .val many, .own (.lst (sd (menu.eraseIdx r1.toNat))), .own (.lst (sd found)), s4, .val (.str x)] =
          some (decide (((x.length : Nat) : Int) < 7), [.ref d2, .val many, .own (.lst (sd (menu.eraseIdx r1.toNat))), .own (.lst (sd found)), s4, .val (.str x)]) := by
        refine r_cmpT (r_ov (r_frz (r := .val (.int (x.length : Nat))) (r_opL (as := [.r 5]) (ds := [.str x]) (r_ao rfl rfl) rfl ?_) rfl)) rfl rfl rfl ?_
        · simp [gLen, gLenS, itemsOf, lineN (n := x.length) (by omega)]
        · rfl
      cases q3 : decide (((x.length : Nat) : Int) < 7) with
      | false =>
        rw [q3] at t3
        exact ⟨d2, x, D2, hx8, r_iff (r_andT t2 t3) rfl⟩
      | true =>
        rw [q3] at t3
        have hx7 : x.length < 7 := by have := of_decide_eq_true q3; omega
        obtain ⟨r3, d3, e1, e2, D3, n3⟩ := next_spec (m := 26) D2 (by decide) (by decide)
        obtain ⟨c, hc, gc⟩ := alph_at e1 e2
        refine ⟨d3, c ++ x, D3, by rw [app_len]; omega, r_ift (r_andT t2 t3) ?_⟩
        have k3 := r_next (s := .ref d2) (l := [.val many, .own (.lst (sd (menu.eraseIdx r1.toNat))), .own (.lst (sd found)), s4, .val (.str x)]) (e := conE (.int 26)) (.inl rfl) rfl n3
        have k4 := r_ix (g := gSub2) (fo := ovF (frzF (conE (.str alph)))) (a := .v (.str alph)) (x := .str alph) rfl (r_frz k3 rfl) rfl gc
        have k5 := r_op2 (g := gAdd) (b := frzF (varE 5)) (y := .str x) (r_frz k4 rfl) rfl (add_strs (x := c) (y := x) (by omega))
        exact (r_set (i := 5) k5 rfl).trans rfl
  obtain ⟨d3, y, D3, hy, c2⟩ := mid
  have last : ∃ z, z.length ≤ 9 ∧ ifF (cmpT (bIn2 false) (orefF 5) (orefF 3)) (setF 5 (op2E gAdd (frzF (varE 5)) (frzF (conE (.str (Str.ofString "z")))))) nextF [.ref d3, .val many, .own (.lst (sd (menu.eraseIdx r1.toNat))), .own (.lst (sd found)), s4, .val (.str y)] =
      some (.nx [.ref d3, .val many, .own (.lst (sd (menu.eraseIdx r1.toNat))), .own (.lst (sd found)), s4, .val (.str z)]) := by
    have t4 : cmpT (bIn2 false) (orefF 5) (orefF 3) [.ref d3, .val many, .own (.lst (sd (menu.eraseIdx r1.toNat))), .own (.lst (sd found)), s4, .val (.str y)] = some (found.contains y, [.ref d3, .val many, .own (.lst (sd (menu.eraseIdx r1.toNat))), .own (.lst (sd found)), s4, .val (.str y)]) :=
      r_cmpT rfl rfl rfl rfl (in_strs rfl)
    cases q4 : found.contains y with
    | false =>
      rw [q4] at t4
      exact ⟨y, by omega, r_iff t4 rfl⟩
    | true =>
      rw [q4] at t4
      have hz : (Str.ofString "z").length = 1 := by decide +kernel
      exact ⟨y ++ Str.ofString "z", by rw [app_len]; omega, r_ift t4 ((r_set (i := 5) (r_op2 (g := gAdd) (a := frzF (varE 5)) (b := frzF (conE (.str (Str.ofString "z")))) (x := .str y) (y := .str (Str.ofString "z")) (ρ := [.ref d3, .val many, .own (.lst (sd (menu.eraseIdx r1.toNat))), .own (.lst (sd found)), s4, .val (.str y)]) (ρ1 := [.ref d3, .val many, .own (.lst (sd (menu.eraseIdx r1.toNat))), .own (.lst (sd found)), s4, .val (.str y)]) (ρ2 := [.ref d3, .val many, .own (.lst (sd (menu.eraseIdx r1.toNat))), .own (.lst (sd found)), s4, .val (.str y)]) rfl rfl (add_strs (by omega))) rfl).trans rfl)⟩
  obtain ⟨z, hz, c3⟩ := last
  refine ⟨d3, menu.eraseIdx r1.toNat, z, D3, ?_, fun w hw => List.mem_of_mem_eraseIdx hw, hz, ?_⟩
  · rw [List.length_eraseIdx]
    rw [if_pos (by omega)]
    omega
  · have hl2 : (sd found).length ≤ 10000 := by rw [List.length_map]; omega
    have c4 : dropF (mutE "list" gAppend 3 (consF (frzF (varE 5)) nilF)) [.ref d3, .val many, .own (.lst (sd (menu.eraseIdx r1.toNat))), .own (.lst (sd found)), s4, .val (.str z)] =
        some (.nx [.ref d3, .val many, .own (.lst (sd (menu.eraseIdx r1.toNat))), .own (.lst (sd (found ++ [z]))), s4, .val (.str z)]) := by
      rw [show sd (found ++ [z]) = sd found ++ [D.str z] by simp [sd]]
      exact (r_drop (r_mut (k := 3) (T := "list") (fl := consF (frzF (varE 5)) nilF) (ρ := [.ref d3, .val many, .own (.lst (sd (menu.eraseIdx r1.toNat))), .own (.lst (sd found)), s4, .val (.str z)]) (ds := [.str z]) rfl rfl rfl rfl (append_at hl2))).trans rfl
    exact r_seq c1 (r_seq c2 (r_seq c3 c4))
end G02
/-! P02e -/
namespace G02
open PySem PySem.Spec PyProof.Rows L2 Ev
theorem loop_ix {t : Tg} {body : Fs} (I : Nat → EnvD → Prop) : ∀ (ds : List D) (j : Nat) (ρ : EnvD), I j ρ → (∀ i d ρ, ds[i]? = some d → I (j + i) ρ → ∃ ρ1 ρ2, putT t d ρ = some ρ1 ∧ body ρ1 = some (.nx ρ2) ∧ I (j + i + 1) ρ2) → ∃ ρ', loopF t body ds ρ = some (.nx ρ') ∧ I (j + ds.length) ρ'
  | [], j, ρ, h, _ => ⟨ρ, rfl, h⟩
  | d :: ds, j, ρ, h, s => by
    obtain ⟨ρ1, ρ2, e1, e2, h2⟩ := s 0 d ρ rfl h
    obtain ⟨ρ', e3, h3⟩ := loop_ix (t := t) (body := body) I ds (j + 1) ρ2 h2 fun i d ρ hd hI => by
      have q := s (i + 1) d ρ (by rw [List.getElem?_cons_succ]; exact hd) (by rw [show j + (i + 1) = j + 1 + i by omega]; exact hI)
      rw [show j + (i + 1) + 1 = j + 1 + i + 1 by omega] at q
      exact q
    refine ⟨ρ', ?_, by rw [List.length_cons, show j + (ds.length + 1) = j + 1 + ds.length by omega]; exact h3⟩
    rw [loopF, e1]
    simp only [e2]
    exact e3
theorem ilen {n : Nat} : (intsD 0 n).length = n := by unfold intsD; rw [List.length_map, List.length_range]
theorem iget {n i : Nat} (h : i < n) : (intsD 0 n)[i]? = some (.int ((0 : Int) + (i : Nat))) := by
  unfold intsD
  rw [List.getElem?_map, List.getElem?_range h]
  rfl
theorem loop_rng {t : Tg} {body : Fs} {n : Nat} {ρ : EnvD} (I : Nat → EnvD → Prop) (h0 : I 0 ρ) (step : ∀ (i : Nat) ρ, i < n → I i ρ → ∃ ρ1 ρ2, putT t (.int (i : Nat)) ρ = some ρ1 ∧ body ρ1 = some (.nx ρ2) ∧ I (i + 1) ρ2) : ∃ ρ', loopF t body (intsD 0 n) ρ = some (.nx ρ') ∧ I n ρ' := by
  have h := loop_ix (t := t) (body := body) I (intsD 0 n) 0 ρ h0 fun i d ρ hd hI => by
    have hi : i < n := by
      have := (List.getElem?_eq_some_iff.mp hd).1
      rw [ilen] at this
      exact this
    rw [iget hi] at hd
    cases hd
    rw [Nat.zero_add] at hI ⊢
    have q := step i ρ hi hI
    rw [show ((0 : Int) + (i : Nat)) = (i : Nat) by omega]
    exact q
  rw [ilen, Nat.zero_add] at h
  exact h
theorem rng1 {n : Nat} (h : n < 1073741824) : rngD1 [.int (n : Nat)] = some (intsD 0 n) := by
  show (if in62 (n : Int) = true then some (intsD 0 (n : Int).toNat) else none) = _
  rw [if_pos (in62_of (by omega) (by omega)), Int.toNat_natCast]
def menu8 : List Str := ["a", "b", "ab", "or", "ba", "never", "same", "samewise"].map Str.ofString
theorem menu8_len : ∀ x, x ∈ menu8 → x.length ≤ 8 := by decide +kernel
def slP (s : Sl) : Prop := isRef [s] 0 = false
theorem names_spec {d : D} {k : Nat} (hd : IsDice d) (hk : k ≤ 8) : ∃ d' names, IsDice d' ∧ names.length = k ∧ (∀ x, x ∈ names → x.length ≤ 9) ∧ fn__law_names [d, .int (k : Nat)] = some (.new (.lst (sd names)), [d', .int (k : Nat)]) := by
  have s1 : setF 2 (lstE (consF (frzF (conE (.str (Str.ofString "a")))) (consF (frzF (conE (.str (Str.ofString "b")))) (consF (frzF (conE (.str (Str.ofString "ab")))) (consF (frzF (conE (.str (Str.ofString "or")))) (consF (frzF (conE (.str (Str.ofString "ba")))) (consF (frzF (conE (.str (Str.ofString "never")))) (consF (frzF (conE (.str (Str.ofString "same")))) (consF (frzF (conE (.str (Str.ofString "samewise")))) nilF)))))))))
      [.ref d, .val (.int (k : Nat)), .none, .none, .none, .none] = some (.nx [.ref d, .val (.int (k : Nat)), .own (.lst (sd menu8)), .none, .none, .none]) := rfl
  obtain ⟨ρ', e, d', menu, names, s4, s5, D', h4, h5, m1, m2, m3, m4, rfl⟩ := loop_rng (t := .nm 4) (body := lb__law_names_1) (n := k) (ρ := [.ref d, .val (.int (k : Nat)), .own (.lst (sd menu8)), .own (.lst (sd [])), .none, .none])
    (fun i ρ => ∃ d' menu names s4 s5, IsDice d' ∧ slP s4 ∧ slP s5 ∧ menu.length + i = 8 ∧ (∀ x, x ∈ menu → x ∈ menu8) ∧ names.length = i ∧ (∀ x, x ∈ names → x.length ≤ 9) ∧ ρ = [.ref d', .val (.int (k : Nat)), .own (.lst (sd menu)), .own (.lst (sd names)), s4, s5])
    ⟨d, menu8, [], .none, .none, hd, rfl, rfl, rfl, fun x h => h, rfl, fun x h => by simp at h, rfl⟩ fun i ρ hi h => by
      obtain ⟨d', menu, names, s4, s5, D', h4, h5, m1, m2, m3, m4, rfl⟩ := h
      have hne : menu ≠ [] := fun z => by rw [z] at m1; simp at m1; omega
      obtain ⟨d2, menu2, name, D2, q1, q2, q3, q4⟩ := names_turn (many := .int (k : Nat)) (s4 := .val (.int (i : Nat))) (s5 := s5) (found := names) D' hne (by omega) (fun x hx => menu8_len x (m2 x hx)) (by omega) h5
      refine ⟨[.ref d', .val (.int (k : Nat)), .own (.lst (sd menu)), .own (.lst (sd names)), .val (.int (i : Nat)), s5], _, ?_, q4, d2, menu2, names ++ [name], .val (.int (i : Nat)), .val (.str name), D2, rfl, rfl, by omega, fun x hx => m2 x (q2 x hx), by simp [m3], fun x hx => ?_, rfl⟩
      · show put1 4 (.int (i : Nat)) _ = _
        unfold put1
        rw [show isRef [Sl.ref d', .val (.int (k : Nat)), .own (.lst (sd menu)), .own (.lst (sd names)), s4, s5] 4 = false from h4]
        rfl
      · rcases List.mem_append.mp hx with hx | hx
        · exact m4 x hx
        · rw [List.mem_singleton.mp hx]
          exact q3
  refine ⟨d', names, D', m3, m4, ?_⟩
  have run : fb__law_names [.ref d, .val (.int (k : Nat)), .none, .none, .none, .none] = some (.rt (.new (.lst (sd names))) [.ref d', .val (.int (k : Nat)), .own (.lst (sd menu)), .none, s4, s5]) := by
    refine r_seq s1 (r_seq (f := setF 3 (lstE nilF)) (ρ1 := [.ref d, .val (.int (k : Nat)), .own (.lst (sd menu8)), .own (.lst (sd [])), .none, .none]) rfl (r_seq (r_rng (ds := [.int (k : Nat)]) rfl (rng1 (by omega)) e) rfl))
  show (match fb__law_names [.ref d, .val (.int (k : Nat)), .none, .none, .none, .none] with
    | some (.rt r ρ') => (outs [true, false] [d, .int (k : Nat)] ρ').map fun ds' => (r, ds')
    | some (.nx ρ') => (outs [true, false] [d, .int (k : Nat)] ρ').map fun ds' => (.val .non, ds')
    | _ => none) = _
  rw [run]
  rfl
end G02
/-! P02f -/
namespace G02
open PySem PySem.Spec PyProof.Rows L2 Ev
abbrev pd (p : List Str) : D := .tup (sd p)
abbrev pds (l : List (List Str)) : List D := l.map pd
theorem sub_strs {l : List Str} {i : Nat} (h : i < l.length) : gSub2 (.lst (sd l)) (.int (i : Nat)) = some (.str l[i]) := by
  have e : atI (sd l) (i : Nat) = some (.str l[i]) := by
    unfold atI
    rw [ixN_in (by omega) (by rw [List.length_map]; omega), Int.toNat_natCast]
    show (sd l)[i]? = _
    rw [List.getElem?_map, List.getElem?_eq_getElem h]
    rfl
  show (atI (sd l) (i : Nat)).or _ = _
  rw [e]
  rfl
theorem r_nextD {d : D} {s : Sl} {m : Int} {l : EnvD} {e : Fe} (hd : IsDice d) (hm : 0 < m) (hm2 : m < 1073741824) (he : e (.ref d :: l) = some (.val (.int m), .ref d :: l)) :
    ∃ r d', 0 ≤ r ∧ r < m ∧ IsDice d' ∧ callE [true, false] [] fn__law_next (arF 0 (avF (frzF e) anilF)) (.ref d :: l) = some (.val (.int r), .ref d' :: l) := by
  obtain ⟨r, d', a, b, D', n⟩ := next_spec hd hm hm2
  exact ⟨r, d', a, b, D', r_next (.inl rfl) he n⟩
theorem sortS_perm (l : List Str) : (sortS l).Perm l := by
  have q := fold_perm (ks := l) (l := [])
  rw [List.append_nil] at q
  exact q
/-- one land, in the plot or not -/
theorem strip_1 {d most : D} {names plot : List Str} {kind first cut : Int} {fo : D} {s6 : Sl} {i : Nat} (hd : IsDice d) (hi : i < names.length) (hp : plot.length ≤ 1000) :
    ∃ d' plot', IsDice d' ∧ (plot' = plot ∨ plot' = plot ++ [names[i]]) ∧ lb__law_strip_1 [.ref d, .val (.lst (sd names)), .val most, .val (.int kind), .val (.int first), .own fo, s6, .val (.int cut), .own (.lst (sd plot)), .val (.int (i : Nat))] =
      some (.nx [.ref d', .val (.lst (sd names)), .val most, .val (.int kind), .val (.int first), .own fo, s6, .val (.int cut), .own (.lst (sd plot')), .val (.int (i : Nat))]) := by
  let E (d : D) (plot : List Str) : EnvD := [.ref d, .val (.lst (sd names)), .val most, .val (.int kind), .val (.int first), .own fo, s6, .val (.int cut), .own (.lst (sd plot)), .val (.int (i : Nat))]
  -- the test
  have test : ∃ d' b, IsDice d' ∧ (orF (andF (cmpT (bEq false) (orefF 3) (ovF (frzF (conE (.int 0))))) (cmpT (bEq false) (ovF (frzF (callE [true, false] [] fn__law_next (arF 0 (avF (frzF (conE (.int 2))) anilF))))) (ovF (frzF (conE (.int 1)))))) (andF (cmpT bGt (orefF 3) (ovF (frzF (conE (.int 0))))) (andF (cmpT bGe (orefF 9) (orefF 7)) (orF (cmpT (bEq false) (orefF 3) (ovF (frzF (conE (.int 1))))) (cmpT bLt (ovF (frzF (callE [true, false] [] fn__law_next (arF 0 (avF (frzF (conE (.int 4))) anilF))))) (ovF (frzF (conE (.int 3))))))))) (E d plot) = some (b, E d' plot) := by
    have right : ∀ d, IsDice d → ∃ d' b, IsDice d' ∧ (andF (cmpT bGt (orefF 3) (ovF (frzF (conE (.int 0))))) (andF (cmpT bGe (orefF 9) (orefF 7)) (orF (cmpT (bEq false) (orefF 3) (ovF (frzF (conE (.int 1))))) (cmpT bLt (ovF (frzF (callE [true, false] [] fn__law_next (arF 0 (avF (frzF (conE (.int 4))) anilF))))) (ovF (frzF (conE (.int 3)))))))) (E d plot) = some (b, E d' plot) := fun d D0 => by
      have t1 : cmpT bGt (orefF 3) (ovF (frzF (conE (.int 0)))) (E d plot) = some (decide (kind > 0), E d plot) := r_cmpT (x := .int kind) (y := .int 0) rfl rfl rfl rfl rfl
      cases q1 : decide (kind > 0) with
      | false => rw [q1] at t1; exact ⟨d, false, D0, r_andF t1⟩
      | true =>
        rw [q1] at t1
        have t2 : cmpT bGe (orefF 9) (orefF 7) (E d plot) = some (decide (((i : Nat) : Int) ≥ cut), E d plot) := r_cmpT (x := .int (i : Nat)) (y := .int cut) rfl rfl rfl rfl rfl
        cases q2 : decide (((i : Nat) : Int) ≥ cut) with
        | false => rw [q2] at t2; exact ⟨d, false, D0, r_andT t1 (r_andF t2)⟩
        | true =>
          rw [q2] at t2
          have t3 : cmpT (bEq false) (orefF 3) (ovF (frzF (conE (.int 1)))) (E d plot) = some (decide (V.int kind = V.int 1), E d plot) := r_cmpT (x := .int kind) (y := .int 1) rfl rfl rfl rfl rfl
          cases q3 : decide (V.int kind = V.int 1) with
          | true => rw [q3] at t3; exact ⟨d, true, D0, r_andT t1 (r_andT t2 (r_orT t3))⟩
          | false =>
            rw [q3] at t3
            obtain ⟨r, d2, _, _, D2, n⟩ := r_nextD (s := .none) (l := (E d plot).tail) (e := conE (.int 4)) D0 (by decide : (0 : Int) < 4) (by decide) rfl
            exact ⟨d2, decide (r < 3), D2, r_andT t1 (r_andT t2 (r_orF t3 (r_cmpT (x := .int r) (y := .int 3) (r_ov (r_frz n rfl)) rfl rfl rfl rfl)))⟩
    have t0 : cmpT (bEq false) (orefF 3) (ovF (frzF (conE (.int 0)))) (E d plot) = some (decide (V.int kind = V.int 0), E d plot) := r_cmpT (x := .int kind) (y := .int 0) rfl rfl rfl rfl rfl
    cases q0 : decide (V.int kind = V.int 0) with
    | false =>
      rw [q0] at t0
      obtain ⟨d', b, D', e⟩ := right d hd
      exact ⟨d', b, D', r_orF (r_andF t0) e⟩
    | true =>
      rw [q0] at t0
      obtain ⟨r, d2, _, _, D2, n⟩ := r_nextD (s := .none) (l := (E d plot).tail) (e := conE (.int 2)) hd (by decide : (0 : Int) < 2) (by decide) rfl
      have t1 : cmpT (bEq false) (ovF (frzF (callE [true, false] [] fn__law_next (arF 0 (avF (frzF (conE (.int 2))) anilF))))) (ovF (frzF (conE (.int 1)))) (E d plot) = some (decide (V.int r = V.int 1), E d2 plot) := r_cmpT (x := .int r) (y := .int 1) (r_ov (r_frz n rfl)) rfl rfl rfl rfl
      cases q1 : decide (V.int r = V.int 1) with
      | true => rw [q1] at t1; exact ⟨d2, true, D2, r_orT (r_andT t0 t1)⟩
      | false =>
        rw [q1] at t1
        obtain ⟨d', b, D', e⟩ := right d2 D2
        exact ⟨d', b, D', r_orF (r_andT t0 t1) e⟩
  obtain ⟨d', b, D', e⟩ := test
  cases b with
  | false => exact ⟨d', plot, D', .inl rfl, r_iff e rfl⟩
  | true =>
    refine ⟨d', plot ++ [names[i]], D', .inr rfl, r_ift e ?_⟩
    have hl2 : (sd plot).length ≤ 10000 := by rw [List.length_map]; omega
    have k : ixE gSub2 (orefF 1) (frzF (varE 9)) (E d' plot) = some (.val (.str names[i]), E d' plot) := r_ix (a := .r 1) (x := .lst (sd names)) (y := .int (i : Nat)) rfl rfl rfl (sub_strs hi)
    have c := r_drop (r_mut (k := 8) (T := "list") (ρ := E d' plot) (ρ1 := E d' plot) (c := .lst (sd plot)) (fl := consF (frzF (ixE gSub2 (orefF 1) (frzF (varE 9)))) nilF) rfl rfl (r_cons (r_frz k rfl) rfl) rfl (append_at (d := .str names[i]) hl2))
    refine c.trans ?_
    rw [show sd (plot ++ [names[i]]) = sd plot ++ [D.str names[i]] by simp [sd]]
    rfl
end G02
/-! P02g -/
namespace G02
open PySem PySem.Spec PyProof.Rows L2 Ev
theorem put_nm {i : Nat} {d : D} {ρ : EnvD} (h : isRef ρ i = false) : putT (.nm i) d ρ = some (ρ.set i (.val d)) := by
  show put1 i d ρ = _
  unfold put1
  rw [h]
  rfl
theorem strsOf_map : ∀ l : List Str, strsOf (sd l) = some l
  | [] => rfl
  | x :: l => by
    have e := strsOf_map l
    show strsOf (D.str x :: sd l) = _
    unfold strsOf
    rw [e]
    rfl
/-- a plot of a strip -/
def PlotOf (names : List Str) (p : List Str) : Prop := p.length ≤ names.length ∧ ∀ x, x ∈ p → x ∈ names
theorem strip_2 {d most : D} {names : List Str} {kind first : Int} {found : List (List Str)} {s6 s7 s8 s9 : Sl} (hd : IsDice d) (hn : names.length ≤ 60) (h7 : slP s7) (h8 : slP s8) (h9 : slP s9) (hf : found.length ≤ 1000) :
    ∃ d' plot s7' s8' s9', IsDice d' ∧ slP s7' ∧ slP s8' ∧ slP s9' ∧ PlotOf names plot ∧ lb__law_strip_2 [.ref d, .val (.lst (sd names)), .val most, .val (.int kind), .val (.int first), .own (.lst (pds found)), s6, s7, s8, s9] =
      some (.nx [.ref d', .val (.lst (sd names)), .val most, .val (.int kind), .val (.int first), .own (.lst (pds (found ++ [plot]))), s6, s7', s8', s9']) := by
  obtain ⟨r, d1, _, _, D1, n⟩ := r_nextD (s := .none) (l := [.val (.lst (sd names)), .val most, .val (.int kind), .val (.int first), .own (.lst (pds found)), s6, s7, s8, s9]) (e := conE (.int 3)) hd (by decide : (0 : Int) < 3) (by decide) rfl
  have c1 : setF 7 (op2E gAdd (frzF (op2E Ev.gSub (frzF (varE 4)) (frzF (conE (.int 1))))) (frzF (callE [true, false] [] fn__law_next (arF 0 (avF (frzF (conE (.int 3))) anilF))))) [.ref d, .val (.lst (sd names)), .val most, .val (.int kind), .val (.int first), .own (.lst (pds found)), s6, s7, s8, s9] =
      some (.nx [.ref d1, .val (.lst (sd names)), .val most, .val (.int kind), .val (.int first), .own (.lst (pds found)), s6, .val (.int (first - 1 + r)), s8, s9]) := by
    refine (r_set (i := 7) (r_op2 (g := gAdd) (x := .int (first - 1)) (y := .int r) (r := .val (.int (first - 1 + r))) ?_ (r_frz n rfl) rfl) ?_).trans rfl
    · rfl
    · cases s7 <;> first | rfl | cases h7
  have c2 : setF 8 (lstE nilF) [.ref d1, .val (.lst (sd names)), .val most, .val (.int kind), .val (.int first), .own (.lst (pds found)), s6, .val (.int (first - 1 + r)), s8, s9] =
      some (.nx [.ref d1, .val (.lst (sd names)), .val most, .val (.int kind), .val (.int first), .own (.lst (pds found)), s6, .val (.int (first - 1 + r)), .own (.lst (sd [])), s9]) := by
    refine (r_set (i := 8) (r := .new (.lst [])) rfl ?_).trans rfl
    cases s8 <;> first | rfl | cases h8
  obtain ⟨ρ', e, d2, plot, s9', D2, p1, p2, p3, rfl⟩ := loop_rng (t := .nm 9) (body := lb__law_strip_1) (n := names.length) (ρ := [.ref d1, .val (.lst (sd names)), .val most, .val (.int kind), .val (.int first), .own (.lst (pds found)), s6, .val (.int (first - 1 + r)), .own (.lst (sd [])), s9])
    (fun i ρ => ∃ d2 plot s9', IsDice d2 ∧ slP s9' ∧ plot.length ≤ i ∧ (∀ x, x ∈ plot → x ∈ names) ∧ ρ = [.ref d2, .val (.lst (sd names)), .val most, .val (.int kind), .val (.int first), .own (.lst (pds found)), s6, .val (.int (first - 1 + r)), .own (.lst (sd plot)), s9'])
    ⟨d1, [], s9, D1, h9, Nat.le_refl _, fun x hx => by simp at hx, rfl⟩ fun i ρ hi h => by
      obtain ⟨d2, plot, s9', D2, p1, p2, p3, rfl⟩ := h
      obtain ⟨d3, plot', D3, q1, q2⟩ := strip_1 (most := most) (kind := kind) (first := first) (cut := first - 1 + r) (fo := .lst (pds found)) (s6 := s6) (plot := plot) D2 hi (by omega)
      refine ⟨[.ref d2, .val (.lst (sd names)), .val most, .val (.int kind), .val (.int first), .own (.lst (pds found)), s6, .val (.int (first - 1 + r)), .own (.lst (sd plot)), .val (.int (i : Nat))], _, put_nm (by cases s9' <;> first | rfl | cases p1), q2, d3, plot', .val (.int (i : Nat)), D3, rfl, ?_, fun x hx => ?_, rfl⟩
      · rcases q1 with rfl | rfl
        · omega
        · rw [List.length_append, List.length_singleton]; omega
      · rcases q1 with rfl | rfl
        · exact p3 x hx
        · rcases List.mem_append.mp hx with hx | hx
          · exact p3 x hx
          · rw [List.mem_singleton.mp hx]; exact List.getElem_mem hi
  have sp := sortS_perm plot
  refine ⟨d2, sortS plot, .val (.int (first - 1 + r)), .own (.lst (sd plot)), s9', D2, rfl, rfl, p1, ⟨by rw [sp.length_eq]; exact p2, fun x hx => p3 x (sp.mem_iff.mp hx)⟩, ?_⟩
  have hl2 : (pds found).length ≤ 10000 := by rw [List.length_map]; omega
  have k1 : opLE gSortS (aoF (orefF 8) anilF) [.ref d2, .val (.lst (sd names)), .val most, .val (.int kind), .val (.int first), .own (.lst (pds found)), s6, .val (.int (first - 1 + r)), .own (.lst (sd plot)), s9'] =
      some (.new (.lst (sd (sortS plot))), [.ref d2, .val (.lst (sd names)), .val most, .val (.int kind), .val (.int first), .own (.lst (pds found)), s6, .val (.int (first - 1 + r)), .own (.lst (sd plot)), s9']) := by
    refine r_opL (as := [.r 8]) (ds := [.lst (sd plot)]) rfl rfl ?_
    have es : strsOf (sd plot) = some plot := strsOf_map plot
    show (match strsOf (sd plot) with
      | some ks => if Nat.ble ks.length 63 then some (Re.new (.lst ((sortS ks).map D.str))) else none
      | none => none) = _
    rw [es]
    show (if Nat.ble plot.length 63 = true then some (Re.new (.lst ((sortS plot).map D.str))) else none) = _
    rw [if_pos (Nat.ble_eq_true_of_le (by omega))]
  have k2 : opLE gTuple (aoF (ovF (frzF (opLE gSortS (aoF (orefF 8) anilF)))) anilF) [.ref d2, .val (.lst (sd names)), .val most, .val (.int kind), .val (.int first), .own (.lst (pds found)), s6, .val (.int (first - 1 + r)), .own (.lst (sd plot)), s9'] =
      some (.val (pd (sortS plot)), [.ref d2, .val (.lst (sd names)), .val most, .val (.int kind), .val (.int first), .own (.lst (pds found)), s6, .val (.int (first - 1 + r)), .own (.lst (sd plot)), s9']) :=
    r_opL (as := [.v (.lst (sd (sortS plot)))]) (ds := [.lst (sd (sortS plot))]) (r_ao (r_ov (r_frz k1 rfl)) rfl) rfl rfl
  have c4 : dropF (mutE "list" gAppend 5 (consF (frzF (opLE gTuple (aoF (ovF (frzF (opLE gSortS (aoF (orefF 8) anilF)))) anilF))) nilF)) [.ref d2, .val (.lst (sd names)), .val most, .val (.int kind), .val (.int first), .own (.lst (pds found)), s6, .val (.int (first - 1 + r)), .own (.lst (sd plot)), s9'] =
      some (.nx [.ref d2, .val (.lst (sd names)), .val most, .val (.int kind), .val (.int first), .own (.lst (pds (found ++ [sortS plot]))), s6, .val (.int (first - 1 + r)), .own (.lst (sd plot)), s9']) := by
    have m := r_drop (r_mut (k := 5) (T := "list") (fl := consF (frzF (opLE gTuple (aoF (ovF (frzF (opLE gSortS (aoF (orefF 8) anilF)))) anilF))) nilF) (ρ := [.ref d2, .val (.lst (sd names)), .val most, .val (.int kind), .val (.int first), .own (.lst (pds found)), s6, .val (.int (first - 1 + r)), .own (.lst (sd plot)), s9']) (ρ1 := [.ref d2, .val (.lst (sd names)), .val most, .val (.int kind), .val (.int first), .own (.lst (pds found)), s6, .val (.int (first - 1 + r)), .own (.lst (sd plot)), s9']) (ds := [pd (sortS plot)]) rfl rfl (r_cons (r_frz k2 rfl) rfl) rfl (append_at hl2))
    rw [show pds (found ++ [sortS plot]) = pds found ++ [pd (sortS plot)] by simp [pds]]
    exact m.trans rfl
  exact r_seq c1 (r_seq c2 (r_seq (r_rng (ds := [.int (names.length : Nat)]) (r_cons (r_frz (len_own (i := 1) (.inr rfl)) rfl) rfl) (rng1 (by omega)) e) c4))
end G02
/-! P02h -/
namespace G02
open PySem PySem.Spec PyProof.Rows L2 Ev
theorem strip_spec {d : D} {names : List Str} {M : Int} (hd : IsDice d) (hn : names.length ≤ 60) (hM : 0 < M) (hM2 : M ≤ 100) :
    ∃ d' plots, IsDice d' ∧ 1 ≤ plots.length ∧ (plots.length : Int) ≤ M ∧ (∀ p, p ∈ plots → PlotOf names p) ∧ fn__law_strip [d, .lst (sd names), .int M] = some (.new (.lst (pds plots)), [d', .lst (sd names), .int M]) := by
  let l0 : EnvD := [.val (.lst (sd names)), .val (.int M), .none, .none, .none, .none, .none, .none, .none]
  obtain ⟨r1, d1, _, _, D1, n1⟩ := r_nextD (s := .none) (l := l0) (e := conE (.int 3)) hd (by decide : (0 : Int) < 3) (by decide) rfl
  have c1 : setF 3 (callE [true, false] [] fn__law_next (arF 0 (avF (frzF (conE (.int 3))) anilF))) (.ref d :: l0) = some (.nx [.ref d1, .val (.lst (sd names)), .val (.int M), .val (.int r1), .none, .none, .none, .none, .none, .none]) := (r_set (i := 3) n1 rfl).trans rfl
  have k2 : op2E gAdd (frzF (opLE (fun ds => (gLen ds).or (gLenS ds)) (aoF (orefF 1) anilF))) (frzF (conE (.int 1))) [.ref d1, .val (.lst (sd names)), .val (.int M), .val (.int r1), .none, .none, .none, .none, .none, .none] =
      some (.val (.int ((names.length : Nat) + 1)), [.ref d1, .val (.lst (sd names)), .val (.int M), .val (.int r1), .none, .none, .none, .none, .none, .none]) :=
    r_op2 (g := gAdd) (x := .int (names.length : Nat)) (y := .int 1) (r_frz (len_own (i := 1) (.inr rfl)) rfl) rfl rfl
  obtain ⟨r2, d2, _, _, D2, n2⟩ := r_nextD (s := .none) (l := [.val (.lst (sd names)), .val (.int M), .val (.int r1), .none, .none, .none, .none, .none, .none]) D1 (by omega : (0 : Int) < (names.length : Nat) + 1) (by omega) k2
  have c2 : setF 4 (callE [true, false] [] fn__law_next (arF 0 (avF (frzF (op2E gAdd (frzF (opLE (fun ds => (gLen ds).or (gLenS ds)) (aoF (orefF 1) anilF))) (frzF (conE (.int 1))))) anilF))) [.ref d1, .val (.lst (sd names)), .val (.int M), .val (.int r1), .none, .none, .none, .none, .none, .none] = some (.nx [.ref d2, .val (.lst (sd names)), .val (.int M), .val (.int r1), .val (.int r2), .none, .none, .none, .none, .none]) := (r_set (i := 4) n2 rfl).trans rfl
  have c3 : setF 5 (lstE nilF) [.ref d2, .val (.lst (sd names)), .val (.int M), .val (.int r1), .val (.int r2), .none, .none, .none, .none, .none] = some (.nx [.ref d2, .val (.lst (sd names)), .val (.int M), .val (.int r1), .val (.int r2), .own (.lst (pds [])), .none, .none, .none, .none]) := rfl
  obtain ⟨r3, d3, a3, b3, D3, n3⟩ := r_nextD (s := .none) (l := [.val (.lst (sd names)), .val (.int M), .val (.int r1), .val (.int r2), .own (.lst (pds [])), .none, .none, .none, .none]) (e := varE 2) D2 hM (by omega) rfl
  have e4 : (1 : Int) + r3 = ((1 + r3.toNat : Nat) : Int) := by omega
  have c4 : consF (frzF (op2E gAdd (frzF (conE (.int 1))) (frzF (callE [true, false] [] fn__law_next (arF 0 (avF (frzF (varE 2)) anilF)))))) nilF [.ref d2, .val (.lst (sd names)), .val (.int M), .val (.int r1), .val (.int r2), .own (.lst (pds [])), .none, .none, .none, .none] =
      some ([.int ((1 + r3.toNat : Nat) : Int)], [.ref d3, .val (.lst (sd names)), .val (.int M), .val (.int r1), .val (.int r2), .own (.lst (pds [])), .none, .none, .none, .none]) := by
    rw [← e4]
    exact r_cons (r_frz (r_op2 (g := gAdd) (x := .int 1) (y := .int r3) (r := .val (.int (1 + r3))) rfl (r_frz n3 rfl) rfl) rfl) rfl
  obtain ⟨ρ', e, d4, plots, s6, s7, s8, s9, D4, h6, h7, h8, h9, p1, p2, rfl⟩ := loop_rng (t := .nm 6) (body := lb__law_strip_2) (n := 1 + r3.toNat) (ρ := [.ref d3, .val (.lst (sd names)), .val (.int M), .val (.int r1), .val (.int r2), .own (.lst (pds [])), .none, .none, .none, .none])
    (fun i ρ => ∃ d4 plots s6 s7 s8 s9, IsDice d4 ∧ slP s6 ∧ slP s7 ∧ slP s8 ∧ slP s9 ∧ plots.length = i ∧ (∀ p, p ∈ plots → PlotOf names p) ∧ ρ = [.ref d4, .val (.lst (sd names)), .val (.int M), .val (.int r1), .val (.int r2), .own (.lst (pds plots)), s6, s7, s8, s9])
    ⟨d3, [], .none, .none, .none, .none, D3, rfl, rfl, rfl, rfl, rfl, fun p hp => by simp at hp, rfl⟩ fun i ρ hi h => by
      obtain ⟨d4, plots, s6, s7, s8, s9, D4, h6, h7, h8, h9, p1, p2, rfl⟩ := h
      obtain ⟨d5, plot, s7', s8', s9', D5, q7, q8, q9, q1, q2⟩ := strip_2 (most := .int M) (kind := r1) (first := r2) (found := plots) (s6 := .val (.int (i : Nat))) D4 hn h7 h8 h9 (by omega)
      refine ⟨[.ref d4, .val (.lst (sd names)), .val (.int M), .val (.int r1), .val (.int r2), .own (.lst (pds plots)), .val (.int (i : Nat)), s7, s8, s9], _, put_nm (by cases s6 <;> first | rfl | cases h6), q2, d5, plots ++ [plot], .val (.int (i : Nat)), s7', s8', s9', D5, rfl, q7, q8, q9, by simp [p1], fun p hp => ?_, rfl⟩
      rcases List.mem_append.mp hp with hp | hp
      · exact p2 p hp
      · rw [List.mem_singleton.mp hp]; exact q1
  refine ⟨d4, plots, D4, by omega, by omega, p2, ?_⟩
  have run : fb__law_strip (.ref d :: l0) = some (.rt (.new (.lst (pds plots))) [.ref d4, .val (.lst (sd names)), .val (.int M), .val (.int r1), .val (.int r2), .none, s6, s7, s8, s9]) :=
    r_seq c1 (r_seq c2 (r_seq c3 (r_seq (r_rng c4 (rng1 (by omega)) e) rfl)))
  show (match fb__law_strip (.ref d :: l0) with
    | some (.rt r ρ') => (outs [true, false, false] [d, .lst (sd names), .int M] ρ').map fun ds' => (r, ds')
    | some (.nx ρ') => (outs [true, false, false] [d, .lst (sd names), .int M] ρ').map fun ds' => (.val .non, ds')
    | _ => none) = _
  rw [run]
  rfl
end G02
/-! P02i -/
namespace G02
open PySem PySem.Spec PyProof.Rows L2 Ev
theorem r_call3 {F : List D → Option (Re × List D)} {d d1 d2 x y : D} {r : Re} {l : EnvD} {f g : Fv} (hf : f (.ref d :: l) = some (x, .ref d :: l)) (hg : g (.ref d :: l) = some (y, .ref d1 :: l)) (hF : F [d1, x, y] = some (r, [d2, x, y])) :
    callE [true, false, false] [] F (arF 0 (avF f (avF g anilF))) (.ref d :: l) = some (r, .ref d2 :: l) := by
  have pb : List.mapIdx (fun j s => newSl (refAt [AD.r 0, .v x, .v y] [d2, x, y] (j + 1)) s) l = l := by
    apply List.ext_getElem?
    intro k
    rw [List.getElem?_mapIdx]
    cases l[k]? with
    | none => rfl
    | some x => simp [refAt, newSl]
  have pbk : putBack [AD.r 0, .v x, .v y] [d2, x, y] (.ref d1 :: l) = .ref d2 :: l := by
    unfold putBack
    rw [List.mapIdx_cons, pb]
    rfl
  have ea : arF 0 (avF f (avF g anilF)) (.ref d :: l) = some ([.r 0, .v x, .v y], .ref d1 :: l) := by
    simp [arF, avF, hf, hg, anilF]
  have da : argD ([AD.r 0, .v x, .v y] ++ List.map AD.v []) (.ref d1 :: l) = some [d1, x, y] := by
    simp [argD, Ev.cellOf]
  unfold callE
  rw [ea]
  simp only [da, hF]
  rw [if_pos (by rfl)]
  simp only [List.map_nil, List.append_nil, List.length_cons, List.length_nil, decide_true, if_true]
  rw [pbk]
theorem four {r : Int} (h : 0 ≤ r) (h2 : r < 4) : ∃ M : Int, 0 < M ∧ M ≤ 8 ∧ gSub2 (.lst [.int 3, .int 3, .int 3, .int 8]) (.int r) = some (.int M) := by
  rcases (by omega : r = 0 ∨ r = 1 ∨ r = 2 ∨ r = 3) with rfl | rfl | rfl | rfl
  · exact ⟨3, by decide, by decide, rfl⟩
  · exact ⟨3, by decide, by decide, rfl⟩
  · exact ⟨3, by decide, by decide, rfl⟩
  · exact ⟨8, by decide, by decide, rfl⟩
abbrev Strip := List (List Str)
abbrev ssd (l : List Strip) : List D := l.map fun s => .lst (pds s)
def StripOf (names : List Str) (s : Strip) : Prop := 1 ≤ s.length ∧ s.length ≤ 8 ∧ ∀ p, p ∈ s → PlotOf names p
theorem ssd_snoc {l : List Strip} {s : Strip} : ssd (l ++ [s]) = ssd l ++ [.lst (pds s)] := by simp [ssd]
theorem line_lt {n : Nat} (h : n ≤ 10000) : n < sizeLine := Nat.lt_of_le_of_lt h (by rw [sizeLine_eq]; decide)
/-- the strips that are drawn -/
theorem draw_1 {d : D} {names : List Str} {most : Int} (hd : IsDice d) (hn : names.length ≤ 60) (h0 : 0 ≤ most) (h1 : most ≤ 100) :
    ∃ d' strips, IsDice d' ∧ (strips.length : Int) ≤ most ∧ (∀ s, s ∈ strips → StripOf names s) ∧
      setF 3 (lcRngE rngD1 [4] (.nm 4) (consF (frzF (callE [true, false] [] fn__law_next (arF 0 (avF (frzF (op2E gAdd (frzF (varE 2)) (frzF (conE (.int 1))))) anilF)))) nilF) yesF ce__law_drawing_4) [.ref d, .val (.lst (sd names)), .val (.int most), .none, .none, .none, .none, .none, .none] =
        some (.nx [.ref d', .val (.lst (sd names)), .val (.int most), .own (.lst (ssd strips)), .none, .none, .none, .none, .none]) := by
  let l : EnvD := [.val (.lst (sd names)), .val (.int most), .none, .none, .none, .none, .none, .none]
  have k0 : op2E gAdd (frzF (varE 2)) (frzF (conE (.int 1))) (.ref d :: l) = some (.val (.int (most + 1)), .ref d :: l) := r_op2 (g := gAdd) (x := .int most) (y := .int 1) rfl rfl rfl
  obtain ⟨r, d1, a1, a2, D1, n1⟩ := r_nextD (s := .none) hd (by omega : 0 < most + 1) (by omega) k0
  have er : (r : Int) = ((r.toNat : Nat) : Int) := by omega
  have i1 : consF (frzF (callE [true, false] [] fn__law_next (arF 0 (avF (frzF (op2E gAdd (frzF (varE 2)) (frzF (conE (.int 1))))) anilF)))) nilF (.ref d :: l) = some ([.int ((r.toNat : Nat) : Int)], .ref d1 :: l) := by
    rw [← er]
    exact r_cons (r_frz n1 rfl) rfl
  obtain ⟨acc, ρ', e, d2, strips, D2, rfl, p1, p2, rfl⟩ := lcLoop_nx (vs := [4]) (t := .nm 4) (c := yesF) (e := ce__law_drawing_4) (f := fun i : Nat => D.int (0 + (i : Nat)))
    (fun pre acc ρ => ∃ d2 strips, IsDice d2 ∧ acc = ssd strips ∧ strips.length = pre.length ∧ (∀ s, s ∈ strips → StripOf names s) ∧ ρ = .ref d2 :: l) (List.range r.toNat) [] [] (.ref d1 :: l) ⟨d1, [], D1, rfl, rfl, fun s hs => by simp at hs, rfl⟩
    fun pr i post acc ρ hs h => by
      obtain ⟨d2, strips, D2, rfl, p1, p2, rfl⟩ := h
      have hlen : pr.length < r.toNat := by
        have := congrArg List.length hs
        simp at this
        omega
      let l4 : EnvD := [.val (.lst (sd names)), .val (.int most), .none, .val (.int (0 + (i : Nat))), .none, .none, .none, .none]
      obtain ⟨r4, d3, b1, b2, D3, n4⟩ := r_nextD (s := .none) (l := l4) (e := conE (.int 4)) D2 (by decide : (0 : Int) < 4) (by decide) rfl
      obtain ⟨M, m1, m2, gm⟩ := four b1 b2
      have k1 : ixE gSub2 (ovF (frzF (lstE (consF (frzF (conE (.int 3))) (consF (frzF (conE (.int 3))) (consF (frzF (conE (.int 3))) (consF (frzF (conE (.int 8))) nilF))))))) (frzF (callE [true, false] [] fn__law_next (arF 0 (avF (frzF (conE (.int 4))) anilF)))) (.ref d2 :: l4) = some (.val (.int M), .ref d3 :: l4) :=
        r_ix (g := gSub2) (a := .v (.lst [.int 3, .int 3, .int 3, .int 8])) (x := .lst [.int 3, .int 3, .int 3, .int 8]) (y := .int r4) rfl (r_frz n4 rfl) rfl gm
      obtain ⟨d4, plots, D4, q1, q2, q3, q4⟩ := strip_spec (M := M) D3 hn m1 (by omega)
      have k2 : ce__law_drawing_4 (.ref d2 :: l4) = some (.lst (pds plots), .ref d4 :: l4) := r_frz (r_call3 (f := frzF (varE 1)) (x := .lst (sd names)) rfl (r_frz k1 rfl) q4) rfl
      refine ⟨.ref d2 :: l4, true, .ref d2 :: l4, rfl, rfl, fun z => (by cases z), fun _ => ⟨_, _, k2, rfl, ?_, d4, strips ++ [plots], D4, ssd_snoc.symm, by simp [p1], fun s hs => ?_, rfl⟩⟩
      · rw [List.length_map]
        exact line_lt (by omega)
      · rcases List.mem_append.mp hs with hs | hs
        · exact p2 s hs
        · rw [List.mem_singleton.mp hs]
          exact ⟨q1, by omega, q3⟩
  rw [List.nil_append, List.length_range] at p1
  refine ⟨d2, strips, D2, by omega, p2, ?_⟩
  refine (r_set (i := 3) (r := .new (.lst (ssd strips))) (ρ1 := .ref d2 :: l) ?_ rfl).trans rfl
  unfold lcRngE
  rw [i1]
  show (match rngD1 [.int ((r.toNat : Nat) : Int)] with
    | some ll => lcRun [4] (.nm 4) yesF ce__law_drawing_4 ll (.ref d1 :: l)
    | none => none) = _
  rw [rng1 (by omega)]
  show lcRun [4] (.nm 4) yesF ce__law_drawing_4 (intsD 0 r.toNat) (.ref d1 :: l) = _
  unfold lcRun
  rw [if_pos (show noCell (.ref d1 :: l) [4] = true from rfl)]
  show (match lcLoop [4] (.nm 4) yesF ce__law_drawing_4 (intsD 0 r.toNat) [] (.ref d1 :: l) with
    | some (acc, ρ2) => some (Re.new (.lst acc), back (.ref d1 :: l) (clr ρ2 [4]) [4])
    | none => none) = _
  rw [show lcLoop [4] (.nm 4) yesF ce__law_drawing_4 (intsD 0 r.toNat) [] (.ref d1 :: l) = some (ssd strips, .ref d2 :: l) from e]
  rfl
end G02
/-! P02j -/
namespace G02
open PySem PySem.Spec PyProof.Rows L2 Ev
theorem loopO_nx {t : Tg} {k : Nat} {body : Fs} {ds : List D} (I : Nat → EnvD → Prop) (hc : ∀ j ρ, I j ρ → Ev.cellOf ρ k = some (.lst ds)) (step : ∀ j d ρ, ds[j]? = some d → I j ρ → ∃ ρ1 ρ2, putT t d ρ = some ρ1 ∧ body ρ1 = some (.nx ρ2) ∧ I (j + 1) ρ2) :
    ∀ n j ρ, j + n = ds.length + 1 → j ≤ ds.length → I j ρ → ∃ ρ', loopO t k body n j ρ = some (.nx ρ') ∧ I ds.length ρ'
  | 0, j, ρ, h, h2, _ => by omega
  | n + 1, j, ρ, h, h2, hI => by
    unfold loopO
    rw [hc j ρ hI]
    by_cases hj : j < ds.length
    · have e : ds[j]? = some ds[j] := List.getElem?_eq_getElem hj
      obtain ⟨ρ1, ρ2, e1, e2, hI2⟩ := step j _ ρ e hI
      obtain ⟨ρ', e3, hI3⟩ := loopO_nx I hc step n (j + 1) ρ2 (by omega) hj hI2
      refine ⟨ρ', ?_, hI3⟩
      simp only [e, e1, e2]
      exact e3
    · have e : ds[j]? = none := List.getElem?_eq_none_iff.mpr (by omega)
      refine ⟨ρ, by simp only [e], ?_⟩
      have : j = ds.length := by omega
      rw [← this]
      exact hI
/-- the lands of a strip, put behind those there -/
theorem there_3 {d most S : D} {names T : List Str} {s : Strip} {s7 : Sl} (h7 : slP s7) (hs : s.length ≤ 8) (hp : ∀ p, p ∈ s → p.length ≤ 60) (hT : T.length ≤ 8000) :
    ∃ T' s7', slP s7' ∧ T'.length ≤ T.length + 480 ∧ (∀ x, x ∈ T' ↔ x ∈ T ∨ ∃ p, p ∈ s ∧ x ∈ p) ∧
      lb__law_drawing_3 [.ref d, .val (.lst (sd names)), .val most, .ref S, .none, .own (.lst (sd T)), .val (.lst (pds s)), s7, .none] = some (.nx [.ref d, .val (.lst (sd names)), .val most, .ref S, .none, .own (.lst (sd T')), .val (.lst (pds s)), s7', .none]) := by
  obtain ⟨ρ', e, T', s7', h7', q1, q2, rfl⟩ := loop_nx (t := .nm 7) (body := lb__law_drawing_2) (f := pd)
    (fun pr ρ => ∃ T' s7', slP s7' ∧ T'.length ≤ T.length + 60 * pr.length ∧ (∀ x, x ∈ T' ↔ x ∈ T ∨ ∃ p, p ∈ pr ∧ x ∈ p) ∧ ρ = [.ref d, .val (.lst (sd names)), .val most, .ref S, .none, .own (.lst (sd T')), .val (.lst (pds s)), s7', .none])
    s [] [.ref d, .val (.lst (sd names)), .val most, .ref S, .none, .own (.lst (sd T)), .val (.lst (pds s)), s7, .none] ⟨T, s7, h7, by simp, fun x => by simp, rfl⟩
    fun pr p post ρ hs2 h => by
      obtain ⟨T', s7', h7', q1, q2, rfl⟩ := h
      rw [List.nil_append] at hs2
      have hlen : pr.length + (post.length + 1) = s.length := by rw [hs2]; simp
      have hpp := hp p (by rw [hs2]; simp)
      have k1 : opLE gList (aoF (orefF 7) anilF) [.ref d, .val (.lst (sd names)), .val most, .ref S, .none, .val (.lst (sd T')), .val (.lst (pds s)), .val (pd p), .none] = some (.new (.lst (sd p)), [.ref d, .val (.lst (sd names)), .val most, .ref S, .none, .val (.lst (sd T')), .val (.lst (pds s)), .val (pd p), .none]) :=
        r_opL (as := [.r 7]) (ds := [pd p]) rfl rfl rfl
      have k2 : op2E gAdd (frzF (varE 5)) (frzF (opLE gList (aoF (orefF 7) anilF))) [.ref d, .val (.lst (sd names)), .val most, .ref S, .none, .own (.lst (sd T')), .val (.lst (pds s)), .val (pd p), .none] = some (.new (.lst (sd T' ++ sd p)), [.ref d, .val (.lst (sd names)), .val most, .ref S, .none, .val (.lst (sd T')), .val (.lst (pds s)), .val (pd p), .none]) :=
        r_op2 (g := gAdd) (x := .lst (sd T')) (y := .lst (sd p)) rfl (r_frz k1 rfl) (add_lsts (by rw [List.length_map, List.length_map]; omega))
      refine ⟨[.ref d, .val (.lst (sd names)), .val most, .ref S, .none, .own (.lst (sd T')), .val (.lst (pds s)), .val (pd p), .none], [.ref d, .val (.lst (sd names)), .val most, .ref S, .none, .own (.lst (sd (T' ++ p))), .val (.lst (pds s)), .val (pd p), .none], put_nm (by cases s7' <;> first | rfl | cases h7'), ?_, T' ++ p, .val (pd p), rfl, ?_, fun x => ?_, rfl⟩
      · rw [show sd (T' ++ p) = sd T' ++ sd p by simp [sd]]
        exact (r_set (i := 5) k2 rfl).trans rfl
      · rw [List.length_append, List.length_append, List.length_singleton]
        omega
      · rw [List.mem_append, q2 x]
        constructor
        · rintro ((h | ⟨p', h1, h2⟩) | h)
          · exact .inl h
          · exact .inr ⟨p', List.mem_append_left _ h1, h2⟩
          · exact .inr ⟨p, by simp, h⟩
        · rintro (h | ⟨p', h1, h2⟩)
          · exact .inl (.inl h)
          · rcases List.mem_append.mp h1 with h1 | h1
            · exact .inl (.inr ⟨p', h1, h2⟩)
            · rw [List.mem_singleton] at h1
              subst h1
              exact .inr h2
  rw [List.nil_append] at q1 q2
  exact ⟨T', s7', h7', by omega, q2, r_for (d := .lst (pds s)) rfl rfl e⟩
/-- a drawing of all these lands -/
structure Drawn (names : List Str) (dr : List Strip) : Prop where
  few : dr.length ≤ 10 + names.length
  strip : ∀ s, s ∈ dr → StripOf names s
  all : ∀ n, n ∈ names → ∃ s, s ∈ dr ∧ ∃ p, p ∈ s ∧ n ∈ p
theorem drawing_spec {d : D} {names : List Str} {most : Int} (hd : IsDice d) (hn : names.length ≤ 60) (h0 : 0 ≤ most) (h1 : most ≤ 10) :
    ∃ d' dr, IsDice d' ∧ Drawn names dr ∧ fn__law_drawing [d, .lst (sd names), .int most] = some (.new (.lst (ssd dr)), [d', .lst (sd names), .int most]) := by
  obtain ⟨d1, strips, D1, p1, p2, c1⟩ := draw_1 hd hn h0 (by omega)
  have c2 : setF 5 (lstE nilF) [.ref d1, .val (.lst (sd names)), .val (.int most), .own (.lst (ssd strips)), .none, .none, .none, .none, .none] = some (.nx [.ref d1, .val (.lst (sd names)), .val (.int most), .own (.lst (ssd strips)), .none, .own (.lst (sd [])), .none, .none, .none]) := rfl
  obtain ⟨ρ', e, T, s6, s7, h6, h7, q1, q2, rfl⟩ := loopO_nx (t := .nm 6) (k := 3) (body := lb__law_drawing_3) (ds := ssd strips)
    (fun j ρ => ∃ T s6 s7, slP s6 ∧ slP s7 ∧ T.length ≤ 480 * j ∧ (∀ x, x ∈ T ↔ ∃ s, s ∈ strips.take j ∧ ∃ p, p ∈ s ∧ x ∈ p) ∧ ρ = [.ref d1, .val (.lst (sd names)), .val (.int most), .ref (.lst (ssd strips)), .none, .own (.lst (sd T)), s6, s7, .none])
    (fun j ρ ⟨T, s6, s7, _, _, _, _, e⟩ => by rw [e]; rfl) (fun j x ρ hx h => by
      obtain ⟨T, s6, s7, h6, h7, q1, q2, rfl⟩ := h
      rw [List.getElem?_map] at hx
      obtain ⟨s, hs, rfl⟩ := Option.map_eq_some_iff.mp hx
      obtain ⟨hj, es⟩ := List.getElem?_eq_some_iff.mp hs
      have hsm : s ∈ strips := by rw [← es]; exact List.getElem_mem hj
      obtain ⟨b1, b2, b3⟩ := p2 s hsm
      obtain ⟨T', s7', h7', a1, a2, a3⟩ := there_3 (d := d1) (most := .int most) (S := .lst (ssd strips)) (names := names) (T := T) (s := s) h7 b2 (fun p hp => by have := (b3 p hp).1; omega) (by omega)
      refine ⟨_, _, put_nm (by cases s6 <;> first | rfl | cases h6), a3, T', .val (.lst (pds s)), s7', rfl, h7', by omega, fun x => ?_, rfl⟩
      rw [a2 x, q2 x, List.take_succ, hs]
      constructor
      · rintro (⟨s', g1, g2⟩ | ⟨p, g1, g2⟩)
        · exact ⟨s', List.mem_append_left _ g1, g2⟩
        · exact ⟨s, by simp, p, g1, g2⟩
      · rintro ⟨s', g1, g2⟩
        rcases List.mem_append.mp g1 with g1 | g1
        · exact .inl ⟨s', g1, g2⟩
        · have : s' = s := by simpa using g1
          subst this
          exact .inr g2) ((ssd strips).length + 1) 0 [.ref d1, .val (.lst (sd names)), .val (.int most), .ref (.lst (ssd strips)), .none, .own (.lst (sd [])), .none, .none, .none] (by omega) (by omega) ⟨[], .none, .none, rfl, rfl, by simp, fun x => by simp, rfl⟩
  have c3 : forOF (.nm 6) 3 lb__law_drawing_3 [.ref d1, .val (.lst (sd names)), .val (.int most), .own (.lst (ssd strips)), .none, .own (.lst (sd [])), .none, .none, .none] = some (.nx [.ref d1, .val (.lst (sd names)), .val (.int most), .own (.lst (ssd strips)), .none, .own (.lst (sd T)), s6, s7, .none]) := by
    show (loopO (.nm 6) 3 lb__law_drawing_3 ((ssd strips).length + 1) 0 [.ref d1, .val (.lst (sd names)), .val (.int most), .ref (.lst (ssd strips)), .none, .own (.lst (sd [])), .none, .none, .none]).map (mapOut fun ρ => unref ρ 3) = _
    rw [e]
    rfl
  have sl : (ssd strips).length = strips.length := List.length_map _
  rw [sl] at q1 q2
  rw [List.take_length] at q2
  obtain ⟨ρ', e2, dr, s8, h8, w1, w2, w3, w4, rfl⟩ := loop_nx (t := .nm 8) (body := lb__law_drawing_1) (f := D.str)
    (fun pr ρ => ∃ dr s8, slP s8 ∧ dr.length ≤ strips.length + pr.length ∧ (∀ s, s ∈ strips → s ∈ dr) ∧ (∀ s, s ∈ dr → StripOf names s) ∧ (∀ n, n ∈ pr → ∃ s, s ∈ dr ∧ ∃ p, p ∈ s ∧ n ∈ p) ∧ ρ = [.ref d1, .val (.lst (sd names)), .val (.int most), .own (.lst (ssd dr)), .none, .own (.lst (sd T)), s6, s7, s8])
    names [] [.ref d1, .val (.lst (sd names)), .val (.int most), .own (.lst (ssd strips)), .none, .own (.lst (sd T)), s6, s7, .none] ⟨strips, .none, rfl, by simp, fun s h => h, p2, fun n h => by simp at h, rfl⟩
    fun pr n post ρ hs h => by
      obtain ⟨dr, s8, h8, w1, w2, w3, w4, rfl⟩ := h
      rw [List.nil_append] at hs
      have hlen : pr.length + (post.length + 1) = names.length := by rw [hs]; simp
      have hnm : n ∈ names := by rw [hs]; simp
      have t1 : cmpT (bIn2 true) (orefF 8) (orefF 5) [.ref d1, .val (.lst (sd names)), .val (.int most), .own (.lst (ssd dr)), .none, .own (.lst (sd T)), s6, s7, .val (.str n)] = some (!T.contains n, [.ref d1, .val (.lst (sd names)), .val (.int most), .own (.lst (ssd dr)), .none, .own (.lst (sd T)), s6, s7, .val (.str n)]) :=
        r_cmpT rfl rfl rfl rfl (in_strs rfl)
      have pt : putT (.nm 8) (.str n) [.ref d1, .val (.lst (sd names)), .val (.int most), .own (.lst (ssd dr)), .none, .own (.lst (sd T)), s6, s7, s8] = some [.ref d1, .val (.lst (sd names)), .val (.int most), .own (.lst (ssd dr)), .none, .own (.lst (sd T)), s6, s7, .val (.str n)] := put_nm (by cases s8 <;> first | rfl | cases h8)
      cases q : T.contains n with
      | true =>
        rw [q] at t1
        refine ⟨_, _, pt, r_iff t1 rfl, dr, .val (.str n), rfl, by simp; omega, w2, w3, fun m hm => ?_, rfl⟩
        rcases List.mem_append.mp hm with hm | hm
        · exact w4 m hm
        · rw [List.mem_singleton.mp hm]
          obtain ⟨s, g1, g2⟩ := (q2 n).mp (List.contains_iff_mem.mp q)
          exact ⟨s, w2 s g1, g2⟩
      | false =>
        rw [q] at t1
        have hl2 : (ssd dr).length ≤ 10000 := by rw [List.length_map]; omega
        have k := r_drop (r_mut (k := 3) (T := "list") (gm := gAppend) (fl := consF (frzF (lstE (consF (frzF (tupE (consF (frzF (varE 8)) nilF))) nilF))) nilF) (ρ := [.ref d1, .val (.lst (sd names)), .val (.int most), .own (.lst (ssd dr)), .none, .own (.lst (sd T)), s6, s7, .val (.str n)]) (ρ1 := [.ref d1, .val (.lst (sd names)), .val (.int most), .own (.lst (ssd dr)), .none, .own (.lst (sd T)), s6, s7, .val (.str n)]) (ds := [.lst (pds [[n]])]) rfl rfl rfl rfl (append_at hl2))
        refine ⟨_, [.ref d1, .val (.lst (sd names)), .val (.int most), .own (.lst (ssd (dr ++ [[[n]]]))), .none, .own (.lst (sd T)), s6, s7, .val (.str n)], pt, ?_, dr ++ [[[n]]], .val (.str n), rfl, by simp; omega, fun s hs => List.mem_append_left _ (w2 s hs), fun s hs => ?_, fun m hm => ?_, rfl⟩
        · rw [ssd_snoc]
          exact r_ift t1 (k.trans rfl)
        · rcases List.mem_append.mp hs with hs | hs
          · exact w3 s hs
          · rw [List.mem_singleton.mp hs]
            refine ⟨by simp, by simp, fun p hp => ?_⟩
            rw [List.mem_singleton.mp hp]
            exact ⟨by simp; omega, fun x hx => by rw [List.mem_singleton.mp hx]; exact hnm⟩
        · rcases List.mem_append.mp hm with hm | hm
          · obtain ⟨s, g1, g2⟩ := w4 m hm
            exact ⟨s, List.mem_append_left _ g1, g2⟩
          · rw [List.mem_singleton.mp hm]
            exact ⟨[[n]], by simp, [n], by simp, by simp⟩
  rw [List.nil_append] at w1 w4
  refine ⟨d1, dr, D1, ⟨by omega, w3, w4⟩, ?_⟩
  have run : fb__law_drawing [.ref d, .val (.lst (sd names)), .val (.int most), .none, .none, .none, .none, .none, .none] = some (.rt (.new (.lst (ssd dr))) [.ref d1, .val (.lst (sd names)), .val (.int most), .none, .none, .own (.lst (sd T)), s6, s7, s8]) :=
    r_seq c1 (r_seq c2 (r_seq c3 (r_seq (r_for (d := .lst (sd names)) rfl rfl e2) rfl)))
  show (match fb__law_drawing [.ref d, .val (.lst (sd names)), .val (.int most), .none, .none, .none, .none, .none, .none] with
    | some (.rt r ρ') => (outs [true, false, false] [d, .lst (sd names), .int most] ρ').map fun ds' => (r, ds')
    | some (.nx ρ') => (outs [true, false, false] [d, .lst (sd names), .int most] ρ').map fun ds' => (.val .non, ds')
    | _ => none) = _
  rw [run]
  rfl
end G02
/-! M02 -/
namespace M02
open PySem G02
abbrev V6 := Bool × Bool × Bool × Bool × Bool × Bool
/-- x sticks out of y, y out of x, both on a plot, x beside a plot without y, y beside one without x, x beside y -/
def rev : V6 → V6 | (a, b, c, e, g, f) => (b, a, c, g, e, f)
def imp (a b : Bool) : Bool := !a || b
def rule : V6 → V6 → V6 → Bool
  | (a, _, c, e, _, f), (a2, b2, c2, g2, _, f2), (a3, _, c3, e3, _, f3) => imp a3 (a || a2 && c) && (imp c3 (a && b2 || c && c2) && (imp e3 (f && a2 || e) && (imp e3 (c && g2 || a) && (imp f3 (f && c2 || e && b2) && imp f3 (c && f2 || a)))))
/-- the way, by its number -/
def way : V6 → Nat | (a, b, c, e, g, f) => if !a && !b then 3 else if !a then (if e then 4 else 5) else if !b then (if g then 6 else 7) else if c then 2 else if f then 1 else 0
def bools : List Bool := [false, true]
def valid : V6 → Bool | (a, b, c, _, _, _) => (a || c) && (b || c)
def all6 : List V6 := bools.flatMap fun a => bools.flatMap fun b => bools.flatMap fun c => bools.flatMap fun e => bools.flatMap fun g => bools.map fun f => (a, b, c, e, g, f)
theorem mem_all6 (v : V6) : v ∈ all6 := by
  obtain ⟨a, b, c, e, g, f⟩ := v
  cases a <;> cases b <;> cases c <;> cases e <;> cases g <;> cases f <;> decide +kernel
def rules (xy yz xz : V6) : Bool := rule xy yz xz && (rule xz (rev yz) xy && (rule (rev xy) xz yz && (rule yz (rev xz) (rev xy) && (rule (rev xz) xy (rev yz) && rule (rev yz) (rev xy) (rev xz)))))
section
variable (dr : List Strip)
def plots : List (List Str) := dr.flatten
def pairs : Strip → List (List Str × List Str)
  | p :: q :: r => (p, q) :: (q, p) :: pairs (q :: r)
  | _ => []
def nbs : List (List Str × List Str) := dr.flatMap pairs
def hasA (x y : Str) : Bool := (plots dr).any fun p => p.contains x && !p.contains y
def hasC (x y : Str) : Bool := (plots dr).any fun p => p.contains x && p.contains y
def hasE (x y : Str) : Bool := (nbs dr).any fun p => p.1.contains x && !p.2.contains y
def hasF (x y : Str) : Bool := (nbs dr).any fun p => p.1.contains x && p.2.contains y
def vw (x y : Str) : V6 := (hasA dr x y, hasA dr y x, hasC dr x y, hasE dr x y, hasE dr y x, hasF dr x y)
end
section
variable {dr : List Strip} {x y z : Str}
theorem pairs_sym : ∀ {s : Strip} {p q : List Str}, (p, q) ∈ pairs s → (q, p) ∈ pairs s ∧ p ∈ s ∧ q ∈ s
  | [], p, q, h => by cases h
  | [_], p, q, h => by cases h
  | a :: b :: r, p, q, h => by
    have h : (p, q) ∈ (a, b) :: (b, a) :: pairs (b :: r) := h
    show (q, p) ∈ (a, b) :: (b, a) :: pairs (b :: r) ∧ _
    rcases List.mem_cons.mp h with e | h
    · cases e; simp
    · rcases List.mem_cons.mp h with e | h
      · cases e; simp
      · obtain ⟨h1, h2, h3⟩ := pairs_sym h
        exact ⟨List.mem_cons_of_mem _ (List.mem_cons_of_mem _ h1), List.mem_cons_of_mem _ h2, List.mem_cons_of_mem _ h3⟩
theorem nbs_sym {p q : List Str} (h : (p, q) ∈ nbs dr) : (q, p) ∈ nbs dr ∧ p ∈ plots dr ∧ q ∈ plots dr := by
  obtain ⟨s, h1, h2⟩ := List.mem_flatMap.mp h
  obtain ⟨a, b, c⟩ := pairs_sym h2
  exact ⟨List.mem_flatMap.mpr ⟨s, h1, a⟩, List.mem_flatten.mpr ⟨s, h1, b⟩, List.mem_flatten.mpr ⟨s, h1, c⟩⟩
theorem A_iff : hasA dr x y = true ↔ ∃ p, p ∈ plots dr ∧ x ∈ p ∧ y ∉ p := by
  unfold hasA; rw [List.any_eq_true]; simp
theorem C_iff : hasC dr x y = true ↔ ∃ p, p ∈ plots dr ∧ x ∈ p ∧ y ∈ p := by
  unfold hasC; rw [List.any_eq_true]; simp
theorem E_iff : hasE dr x y = true ↔ ∃ p q, (p, q) ∈ nbs dr ∧ x ∈ p ∧ y ∉ q := by
  unfold hasE; rw [List.any_eq_true]; simp
theorem F_iff : hasF dr x y = true ↔ ∃ p q, (p, q) ∈ nbs dr ∧ x ∈ p ∧ y ∈ q := by
  unfold hasF; rw [List.any_eq_true]; simp
theorem beq_of_iff {a b : Bool} (h : a = true ↔ b = true) : a = b := by cases a <;> cases b <;> simp_all
theorem C_comm : hasC dr x y = hasC dr y x := beq_of_iff (by rw [C_iff, C_iff]; exact ⟨fun ⟨p, a, b, c⟩ => ⟨p, a, c, b⟩, fun ⟨p, a, b, c⟩ => ⟨p, a, c, b⟩⟩)
theorem F_comm : hasF dr x y = hasF dr y x := beq_of_iff (by rw [F_iff, F_iff]; exact ⟨fun ⟨p, q, a, b, c⟩ => ⟨q, p, (nbs_sym a).1, c, b⟩, fun ⟨p, q, a, b, c⟩ => ⟨q, p, (nbs_sym a).1, c, b⟩⟩)
theorem vw_rev : vw dr y x = rev (vw dr x y) := by
  unfold vw rev
  rw [C_comm (x := y), F_comm (x := y)]
theorem imp_ok {a b : Bool} (h : a = true → b = true) : imp a b = true := by
  cases a with
  | false => rfl
  | true => exact h rfl
theorem vw_rule : rule (vw dr x y) (vw dr y z) (vw dr x z) = true := by
  have g : ∀ p : List Str, y ∈ p ∨ y ∉ p := fun p => Classical.em _
  simp only [vw, rule, Bool.and_eq_true]
  refine ⟨imp_ok fun h => ?_, imp_ok fun h => ?_, imp_ok fun h => ?_, imp_ok fun h => ?_, imp_ok fun h => ?_, imp_ok fun h => ?_⟩ <;> simp only [Bool.or_eq_true, Bool.and_eq_true]
  · obtain ⟨p, h1, h2, h3⟩ := A_iff.mp h
    rcases g p with k | k
    · exact .inr ⟨A_iff.mpr ⟨p, h1, k, h3⟩, C_iff.mpr ⟨p, h1, h2, k⟩⟩
    · exact .inl (A_iff.mpr ⟨p, h1, h2, k⟩)
  · obtain ⟨p, h1, h2, h3⟩ := C_iff.mp h
    rcases g p with k | k
    · exact .inr ⟨C_iff.mpr ⟨p, h1, h2, k⟩, C_iff.mpr ⟨p, h1, k, h3⟩⟩
    · exact .inl ⟨A_iff.mpr ⟨p, h1, h2, k⟩, A_iff.mpr ⟨p, h1, h3, k⟩⟩
  · obtain ⟨p, q, h1, h2, h3⟩ := E_iff.mp h
    rcases g q with k | k
    · exact .inl ⟨F_iff.mpr ⟨p, q, h1, h2, k⟩, A_iff.mpr ⟨q, (nbs_sym h1).2.2, k, h3⟩⟩
    · exact .inr (E_iff.mpr ⟨p, q, h1, h2, k⟩)
  · obtain ⟨p, q, h1, h2, h3⟩ := E_iff.mp h
    rcases g p with k | k
    · exact .inl ⟨C_iff.mpr ⟨p, (nbs_sym h1).2.1, h2, k⟩, E_iff.mpr ⟨p, q, h1, k, h3⟩⟩
    · exact .inr (A_iff.mpr ⟨p, (nbs_sym h1).2.1, h2, k⟩)
  · obtain ⟨p, q, h1, h2, h3⟩ := F_iff.mp h
    rcases g q with k | k
    · exact .inl ⟨F_iff.mpr ⟨p, q, h1, h2, k⟩, C_iff.mpr ⟨q, (nbs_sym h1).2.2, k, h3⟩⟩
    · exact .inr ⟨E_iff.mpr ⟨p, q, h1, h2, k⟩, A_iff.mpr ⟨q, (nbs_sym h1).2.2, h3, k⟩⟩
  · obtain ⟨p, q, h1, h2, h3⟩ := F_iff.mp h
    rcases g p with k | k
    · exact .inl ⟨C_iff.mpr ⟨p, (nbs_sym h1).2.1, h2, k⟩, F_iff.mpr ⟨p, q, h1, k, h3⟩⟩
    · exact .inr (A_iff.mpr ⟨p, (nbs_sym h1).2.1, h2, k⟩)
theorem vw_rules : rules (vw dr x y) (vw dr y z) (vw dr x z) = true := by
  simp only [rules, Bool.and_eq_true, ← vw_rev]
  exact ⟨vw_rule, vw_rule, vw_rule, vw_rule, vw_rule, vw_rule⟩
theorem vw_valid (hx : ∃ p, p ∈ plots dr ∧ x ∈ p) (hy : ∃ p, p ∈ plots dr ∧ y ∈ p) : valid (vw dr x y) = true := by
  obtain ⟨p, p1, p2⟩ := hx
  obtain ⟨q, q1, q2⟩ := hy
  simp only [vw, valid, Bool.and_eq_true, Bool.or_eq_true]
  constructor
  · rcases Classical.em (y ∈ p) with k | k
    · exact .inr (C_iff.mpr ⟨p, p1, p2, k⟩)
    · exact .inl (A_iff.mpr ⟨p, p1, p2, k⟩)
  · rcases Classical.em (x ∈ q) with k | k
    · exact .inr (C_iff.mpr ⟨q, q1, k, q2⟩)
    · exact .inl (A_iff.mpr ⟨q, q1, q2, k⟩)
end
end M02
/-! T02 -/
namespace M02
open PySem G02 Ev
def ledN : List (List (List Nat)) := [[[0, 1, 2, 3, 4, 5, 6, 7], [0, 1, 2, 4, 5], [0, 1, 2, 4, 5], [0], [0, 1, 2, 4, 5], [0, 1, 2, 4, 5], [0], [0]], [[0, 1, 2, 6, 7], [0, 1, 2, 3, 4, 6], [0, 1, 2, 4, 5], [1], [1, 2, 4, 5], [2, 4, 5], [0, 1], [0]], [[0, 1, 2, 6, 7], [0, 1, 2, 6, 7], [0, 1, 2, 3, 4, 5, 6, 7], [2], [2, 4, 5], [2, 4, 5], [0, 1, 2, 6, 7], [0, 1, 2, 6, 7]], [[0], [1], [2], [3], [4], [5], [6], [7]], [[0], [0, 1], [0, 1, 2, 4, 5], [4], [4, 5], [5], [0, 1, 2, 3, 4, 6], [0, 1, 2, 6, 7]], [[0], [0], [0, 1, 2, 4, 5], [5], [5], [5], [0, 1, 2, 4, 5], [0, 1, 2, 3, 4, 5, 6, 7]], [[0, 1, 2, 6, 7], [1, 2, 6, 7], [2, 6, 7], [6], [2, 3, 4, 6], [2, 4, 5], [6, 7], [7]], [[0, 1, 2, 6, 7], [2, 6, 7], [2, 6, 7], [7], [2, 6, 7], [2, 3, 4, 5, 6, 7], [7], [7]]]
def LN (i j : Nat) : List Nat := (ledN.getD i []).getD j []
def ok3 (ab bc ac : V6) : Bool := !rules ab bc ac || (LN (way ab) (way bc)).contains (way ac)
def vs : List V6 := [(false, false, true, false, false, false), (false, false, true, false, false, true), (false, false, true, false, true, false), (false, false, true, false, true, true), (false, false, true, true, false, false), (false, false, true, true, false, true), (false, false, true, true, true, false), (false, false, true, true, true, true), (false, true, true, false, false, false), (false, true, true, false, false, true), (false, true, true, false, true, false), (false, true, true, false, true, true), (false, true, true, true, false, false), (false, true, true, true, false, true), (false, true, true, true, true, false), (false, true, true, true, true, true), (true, false, true, false, false, false), (true, false, true, false, false, true), (true, false, true, false, true, false), (true, false, true, false, true, true), (true, false, true, true, false, false), (true, false, true, true, false, true), (true, false, true, true, true, false), (true, false, true, true, true, true), (true, true, false, false, false, false), (true, true, false, false, false, true), (true, true, false, false, true, false), (true, true, false, false, true, true), (true, true, false, true, false, false), (true, true, false, true, false, true), (true, true, false, true, true, false), (true, true, false, true, true, true), (true, true, true, false, false, false), (true, true, true, false, false, true), (true, true, true, false, true, false), (true, true, true, false, true, true), (true, true, true, true, false, false), (true, true, true, true, false, true), (true, true, true, true, true, false), (true, true, true, true, true, true)]
theorem mem_vs {v : V6} (h : valid v = true) : v ∈ vs := by
  obtain ⟨a, b, c, e, g, f⟩ := v
  cases a <;> cases b <;> cases c <;> first | (cases h; done) | (cases e <;> cases g <;> cases f <;> decide +kernel)
def row (ab : V6) : Bool := vs.all fun bc => vs.all fun ac => ok3 ab bc ac
theorem row0 : row (false, false, true, false, false, false) = true := by decide +kernel
theorem row1 : row (false, false, true, false, false, true) = true := by decide +kernel
theorem row2 : row (false, false, true, false, true, false) = true := by decide +kernel
theorem row3 : row (false, false, true, false, true, true) = true := by decide +kernel
theorem row4 : row (false, false, true, true, false, false) = true := by decide +kernel
theorem row5 : row (false, false, true, true, false, true) = true := by decide +kernel
theorem row6 : row (false, false, true, true, true, false) = true := by decide +kernel
theorem row7 : row (false, false, true, true, true, true) = true := by decide +kernel
theorem row8 : row (false, true, true, false, false, false) = true := by decide +kernel
theorem row9 : row (false, true, true, false, false, true) = true := by decide +kernel
theorem row10 : row (false, true, true, false, true, false) = true := by decide +kernel
theorem row11 : row (false, true, true, false, true, true) = true := by decide +kernel
theorem row12 : row (false, true, true, true, false, false) = true := by decide +kernel
theorem row13 : row (false, true, true, true, false, true) = true := by decide +kernel
theorem row14 : row (false, true, true, true, true, false) = true := by decide +kernel
theorem row15 : row (false, true, true, true, true, true) = true := by decide +kernel
theorem row16 : row (true, false, true, false, false, false) = true := by decide +kernel
theorem row17 : row (true, false, true, false, false, true) = true := by decide +kernel
theorem row18 : row (true, false, true, false, true, false) = true := by decide +kernel
theorem row19 : row (true, false, true, false, true, true) = true := by decide +kernel
theorem row20 : row (true, false, true, true, false, false) = true := by decide +kernel
theorem row21 : row (true, false, true, true, false, true) = true := by decide +kernel
theorem row22 : row (true, false, true, true, true, false) = true := by decide +kernel
theorem row23 : row (true, false, true, true, true, true) = true := by decide +kernel
theorem row24 : row (true, true, false, false, false, false) = true := by decide +kernel
theorem row25 : row (true, true, false, false, false, true) = true := by decide +kernel
theorem row26 : row (true, true, false, false, true, false) = true := by decide +kernel
theorem row27 : row (true, true, false, false, true, true) = true := by decide +kernel
theorem row28 : row (true, true, false, true, false, false) = true := by decide +kernel
theorem row29 : row (true, true, false, true, false, true) = true := by decide +kernel
theorem row30 : row (true, true, false, true, true, false) = true := by decide +kernel
theorem row31 : row (true, true, false, true, true, true) = true := by decide +kernel
theorem row32 : row (true, true, true, false, false, false) = true := by decide +kernel
theorem row33 : row (true, true, true, false, false, true) = true := by decide +kernel
theorem row34 : row (true, true, true, false, true, false) = true := by decide +kernel
theorem row35 : row (true, true, true, false, true, true) = true := by decide +kernel
theorem row36 : row (true, true, true, true, false, false) = true := by decide +kernel
theorem row37 : row (true, true, true, true, false, true) = true := by decide +kernel
theorem row38 : row (true, true, true, true, true, false) = true := by decide +kernel
theorem row39 : row (true, true, true, true, true, true) = true := by decide +kernel
theorem rows : ∀ ab, ab ∈ vs → row ab = true := by
  unfold vs
  refine List.forall_mem_cons.mpr ⟨row0, ?_⟩
  refine List.forall_mem_cons.mpr ⟨row1, ?_⟩
  refine List.forall_mem_cons.mpr ⟨row2, ?_⟩
  refine List.forall_mem_cons.mpr ⟨row3, ?_⟩
  refine List.forall_mem_cons.mpr ⟨row4, ?_⟩
  refine List.forall_mem_cons.mpr ⟨row5, ?_⟩
  refine List.forall_mem_cons.mpr ⟨row6, ?_⟩
  refine List.forall_mem_cons.mpr ⟨row7, ?_⟩
  refine List.forall_mem_cons.mpr ⟨row8, ?_⟩
  refine List.forall_mem_cons.mpr ⟨row9, ?_⟩
  refine List.forall_mem_cons.mpr ⟨row10, ?_⟩
  refine List.forall_mem_cons.mpr ⟨row11, ?_⟩
  refine List.forall_mem_cons.mpr ⟨row12, ?_⟩
  refine List.forall_mem_cons.mpr ⟨row13, ?_⟩
  refine List.forall_mem_cons.mpr ⟨row14, ?_⟩
  refine List.forall_mem_cons.mpr ⟨row15, ?_⟩
  refine List.forall_mem_cons.mpr ⟨row16, ?_⟩
  refine List.forall_mem_cons.mpr ⟨row17, ?_⟩
  refine List.forall_mem_cons.mpr ⟨row18, ?_⟩
  refine List.forall_mem_cons.mpr ⟨row19, ?_⟩
  refine List.forall_mem_cons.mpr ⟨row20, ?_⟩
  refine List.forall_mem_cons.mpr ⟨row21, ?_⟩
  refine List.forall_mem_cons.mpr ⟨row22, ?_⟩
  refine List.forall_mem_cons.mpr ⟨row23, ?_⟩
  refine List.forall_mem_cons.mpr ⟨row24, ?_⟩
  refine List.forall_mem_cons.mpr ⟨row25, ?_⟩
  refine List.forall_mem_cons.mpr ⟨row26, ?_⟩
  refine List.forall_mem_cons.mpr ⟨row27, ?_⟩
  refine List.forall_mem_cons.mpr ⟨row28, ?_⟩
  refine List.forall_mem_cons.mpr ⟨row29, ?_⟩
  refine List.forall_mem_cons.mpr ⟨row30, ?_⟩
  refine List.forall_mem_cons.mpr ⟨row31, ?_⟩
  refine List.forall_mem_cons.mpr ⟨row32, ?_⟩
  refine List.forall_mem_cons.mpr ⟨row33, ?_⟩
  refine List.forall_mem_cons.mpr ⟨row34, ?_⟩
  refine List.forall_mem_cons.mpr ⟨row35, ?_⟩
  refine List.forall_mem_cons.mpr ⟨row36, ?_⟩
  refine List.forall_mem_cons.mpr ⟨row37, ?_⟩
  refine List.forall_mem_cons.mpr ⟨row38, ?_⟩
  refine List.forall_mem_cons.mpr ⟨row39, ?_⟩
  exact fun _ h => by cases h
theorem led_has {dr : List Strip} {x y z : Str} (hx : ∃ p, p ∈ plots dr ∧ x ∈ p) (hy : ∃ p, p ∈ plots dr ∧ y ∈ p) (hz : ∃ p, p ∈ plots dr ∧ z ∈ p) : (LN (way (vw dr x y)) (way (vw dr y z))).contains (way (vw dr x z)) = true := by
  have m : ∀ a b, (∃ p, p ∈ plots dr ∧ a ∈ p) → (∃ p, p ∈ plots dr ∧ b ∈ p) → vw dr a b ∈ vs := fun a b ha hb => mem_vs (vw_valid ha hb)
  have h := List.all_eq_true.mp (List.all_eq_true.mp (rows _ (m x y hx hy)) _ (m y z hy hz)) _ (m x z hx hz)
  unfold ok3 at h
  rw [vw_rules] at h
  exact h
end M02
/-! P02k -/
namespace G02
open PySem PySem.Spec PyProof.Rows L2 Ev M02
theorem lt_dec {n : Nat} (h : n ≤ 10000) : decide (n < sizeLine) = true := decide_eq_true (line_lt h)
theorem r_ret {e : Fe} {ρ ρ1 : EnvD} {r : Re} (h : e ρ = some (r, ρ1)) : retF e ρ = some (.rt r ρ1) := by
  unfold retF
  rw [h]
  rfl
theorem plots_in {a b : Sl} : ∀ (ds acc : List D), acc.length + ds.length ≤ 10000 → lcForN [2] (.nm 2) yesF ck__plots_2 ds acc [a, b, .none] = some (acc ++ ds, [a, b, .none])
  | [], acc, _ => by rw [List.append_nil]; rfl
  | d :: ds, acc, h => by
    rw [List.length_cons] at h
    have ih := plots_in (a := a) (b := b) ds (acc ++ [d]) (by rw [List.length_append, List.length_singleton]; omega)
    show (match (if decide (acc.length < sizeLine) = true then some (acc ++ [d], [a, b, .val d]) else none) with
      | none => none
      | some (acc2, ρ3) => if noCell ρ3 [2] then lcForN [2] (.nm 2) yesF ck__plots_2 ds acc2 (clr ρ3 [2]) else none) = _
    rw [if_pos (lt_dec (by omega))]
    rw [List.append_assoc] at ih
    exact ih
theorem plots_out {a : Sl} : ∀ (dr : List Strip) (acc : List D), acc.length + (plots dr).length ≤ 10000 → lcForN [1, 2] (.nm 1) yesF ck__plots_4 (ssd dr) acc [a, .none, .none] = some (acc ++ pds (plots dr), [a, .none, .none])
  | [], acc, _ => by show some (acc, _) = some (acc ++ [], _); rw [List.append_nil]
  | s :: dr, acc, h => by
    have hp : plots (s :: dr) = s ++ plots dr := rfl
    rw [hp, List.length_append] at h
    have e := plots_in (a := a) (b := .val (.lst (pds s))) (pds s) acc (by rw [List.length_map]; omega)
    have ih := plots_out (a := a) dr (acc ++ pds s) (by rw [List.length_append, List.length_map]; omega)
    show (match lcForN [2] (.nm 2) yesF ck__plots_2 (pds s) acc [a, .val (.lst (pds s)), .none] with
      | none => none
      | some (acc2, ρ3) => if noCell ρ3 [1, 2] then lcForN [1, 2] (.nm 1) yesF ck__plots_4 (ssd dr) acc2 (clr ρ3 [1, 2]) else none) = _
    rw [e]
    rw [List.append_assoc, show pds s ++ pds (plots dr) = pds (plots (s :: dr)) by rw [hp]; simp [pds]] at ih
    exact ih
theorem plots_spec {dr : List Strip} (h : (plots dr).length ≤ 10000) : fn__plots [.lst (ssd dr)] = some (.new (.lst (pds (plots dr))), [.lst (ssd dr)]) := by
  have e := plots_out (a := .val (.lst (ssd dr))) dr [] (by simpa using h)
  have run : fb__plots [.val (.lst (ssd dr)), .none, .none] = some (.rt (.new (.lst (pds (plots dr)))) [.val (.lst (ssd dr)), .none, .none]) := by
    refine r_ret ?_
    show (match lcForN [1, 2] (.nm 1) yesF ck__plots_4 (ssd dr) [] [.val (.lst (ssd dr)), .none, .none] with
      | some (acc, ρ2) => some (Re.new (.lst acc), back [.val (.lst (ssd dr)), .none, .none] (clr ρ2 [1, 2]) [1, 2])
      | none => none) = _
    rw [e]
    rfl
  show (match fb__plots [.val (.lst (ssd dr)), .none, .none] with
    | some (.rt r ρ') => (outs [false] [.lst (ssd dr)] ρ').map fun ds' => (r, ds')
    | some (.nx ρ') => (outs [false] [.lst (ssd dr)] ρ').map fun ds' => (.val .non, ds')
    | _ => none) = _
  rw [run]
  rfl
def namesOf (dr : List Strip) : List Str := (plots dr).flatten
theorem lands_1 {a b c : Sl} : ∀ (ns acc : List Str), acc.length + ns.length ≤ 3900 → lcForN [3] (.nm 3) yesF ck_lands_2 (sd ns) (sd acc) [a, b, c, .none] = some (sd (acc ++ ns), [a, b, c, .none])
  | [], acc, _ => by rw [List.append_nil]; rfl
  | x :: ns, acc, h => by
    rw [List.length_cons] at h
    have ih := lands_1 (a := a) (b := b) (c := c) ns (acc ++ [x]) (by rw [List.length_append, List.length_singleton]; omega)
    show (match (if Nat.ble ((sd acc).length + 1) 4000 = true then some (sd acc ++ [.str x], [a, b, c, .val (.str x)]) else none) with
      | none => none
      | some (acc2, ρ3) => if noCell ρ3 [3] then lcForN [3] (.nm 3) yesF ck_lands_2 (sd ns) acc2 (clr ρ3 [3]) else none) = _
    rw [if_pos (Nat.ble_eq_true_of_le (by rw [List.length_map]; omega))]
    rw [List.append_assoc, show sd (acc ++ [x]) = sd acc ++ [D.str x] by simp [sd]] at ih
    exact ih
theorem lands_2 {a b : Sl} : ∀ (ps : List (List Str)) (acc : List Str), acc.length + ps.flatten.length ≤ 3900 → lcForN [2, 3] (.nm 2) yesF ck_lands_4 (pds ps) (sd acc) [a, b, .none, .none] = some (sd (acc ++ ps.flatten), [a, b, .none, .none])
  | [], acc, _ => by rw [List.flatten_nil, List.append_nil]; rfl
  | p :: ps, acc, h => by
    rw [List.flatten_cons, List.length_append] at h
    have e := lands_1 (a := a) (b := b) (c := .val (pd p)) p acc (by omega)
    have ih := lands_2 (a := a) (b := b) ps (acc ++ p) (by rw [List.length_append]; omega)
    show (match lcForN [3] (.nm 3) yesF ck_lands_2 (sd p) (sd acc) [a, b, .val (pd p), .none] with
      | none => none
      | some (acc2, ρ3) => if noCell ρ3 [2, 3] then lcForN [2, 3] (.nm 2) yesF ck_lands_4 (pds ps) acc2 (clr ρ3 [2, 3]) else none) = _
    rw [e]
    rw [List.append_assoc] at ih
    exact ih
theorem lands_3 {a : Sl} : ∀ (dr : List Strip) (acc : List Str), acc.length + (namesOf dr).length ≤ 3900 → lcForN [1, 2, 3] (.nm 1) yesF ck_lands_6 (ssd dr) (sd acc) [a, .none, .none, .none] = some (sd (acc ++ namesOf dr), [a, .none, .none, .none])
  | [], acc, _ => by show some (sd acc, _) = some (sd (acc ++ []), _); rw [List.append_nil]
  | s :: dr, acc, h => by
    have hp : namesOf (s :: dr) = s.flatten ++ namesOf dr := by
      show (s ++ plots dr).flatten = _
      rw [List.flatten_append]
      rfl
    rw [hp, List.length_append] at h
    have e := lands_2 (a := a) (b := .val (.lst (pds s))) s acc (by omega)
    have ih := lands_3 (a := a) dr (acc ++ s.flatten) (by rw [List.length_append]; omega)
    show (match lcForN [2, 3] (.nm 2) yesF ck_lands_4 (pds s) (sd acc) [a, .val (.lst (pds s)), .none, .none] with
      | none => none
      | some (acc2, ρ3) => if noCell ρ3 [1, 2, 3] then lcForN [1, 2, 3] (.nm 1) yesF ck_lands_6 (ssd dr) acc2 (clr ρ3 [1, 2, 3]) else none) = _
    rw [e, hp]
    rw [List.append_assoc] at ih
    exact ih
theorem nodup_len : ∀ {l m : List Str}, l.Nodup → (∀ x, x ∈ l → x ∈ m) → l.length ≤ m.length
  | [], m, _, _ => Nat.zero_le _
  | x :: l, m, h, k => by
    have hx := k x List.mem_cons_self
    have hn := List.nodup_cons.mp h
    have ih := nodup_len (l := l) (m := m.erase x) hn.2 fun y hy => (List.mem_erase_of_ne (fun (e : y = x) => hn.1 (e ▸ hy))).mpr (k y (List.mem_cons_of_mem _ hy))
    rw [List.length_erase_of_mem hx] at ih
    have := List.length_pos_of_mem hx
    rw [List.length_cons]
    omega
theorem up_nodup {l : List Str} (h : UpS l) : l.Nodup := h.imp fun {a b} q e => by
  subst e
  rw [sLt_irr] at q
  cases q
theorem lands_spec {dr : List Strip} {names : List Str} (h : (namesOf dr).length ≤ 3900) (hn : names.length ≤ 60) (hs : ∀ x, x ∈ namesOf dr → x ∈ names) : fn_lands [.lst (ssd dr)] = some (.new (.lst (sd (sortU (namesOf dr)))), [.lst (ssd dr)]) := by
  have e := lands_3 (a := .val (.lst (ssd dr))) dr [] (by simpa using h)
  have hl : (sortU (namesOf dr)).length ≤ 63 := by
    have := nodup_len (up_nodup up_sortU) fun x hx => hs x (mem_sortU.mp hx)
    omega
  have run : fb_lands [.val (.lst (ssd dr)), .none, .none, .none] = some (.rt (.new (.lst (sd (sortU (namesOf dr))))) [.val (.lst (ssd dr)), .none, .none, .none]) := by
    refine r_ret ?_
    show (match lcForN [1, 2, 3] (.nm 1) yesF ck_lands_6 (ssd dr) (sd []) [.val (.lst (ssd dr)), .none, .none, .none] with
      | some (acc, ρ2) => (match strsOf acc with
        | some ks => if Nat.ble (sortU ks).length 63 then some (Re.new (.lst ((sortU ks).map D.str)), back [.val (.lst (ssd dr)), .none, .none, .none] (clr ρ2 [1, 2, 3]) [1, 2, 3]) else none
        | none => none)
      | none => none) = _
    rw [e]
    show (match strsOf (sd (namesOf dr)) with
        | some ks => if Nat.ble (sortU ks).length 63 then some (Re.new (.lst ((sortU ks).map D.str)), [Sl.val (.lst (ssd dr)), .none, .none, .none]) else none
        | none => none) = _
    rw [strsOf_map]
    show (if Nat.ble (sortU (namesOf dr)).length 63 then some (Re.new (.lst ((sortU (namesOf dr)).map D.str)), [Sl.val (.lst (ssd dr)), .none, .none, .none]) else none) = _
    rw [if_pos (Nat.ble_eq_true_of_le hl)]
  show (match fb_lands [.val (.lst (ssd dr)), .none, .none, .none] with
    | some (.rt r ρ') => (outs [false] [.lst (ssd dr)] ρ').map fun ds' => (r, ds')
    | some (.nx ρ') => (outs [false] [.lst (ssd dr)] ρ').map fun ds' => (.val .non, ds')
    | _ => none) = _
  rw [run]
  rfl
end G02
/-! P02l -/
namespace G02
open PySem PySem.Spec PyProof.Rows L2 Ev M02
def pr (x : List Str × List Str) : D := .tup [pd x.1, pd x.2]
theorem nb_turn {a st : Sl} {x y : D} {acc : List D} (h : acc.length + 2 ≤ 10000) : lb__neighbours_1 [a, .own (.lst acc), st, .val x, .val y] = some (.nx [a, .own (.lst (acc ++ [.tup [x, y], .tup [y, x]])), st, .val x, .val y]) := by
  have c1 : dropF (mutE "list" gAppend 1 (consF (frzF (tupE (consF (frzF (varE 3)) (consF (frzF (varE 4)) nilF)))) nilF)) [a, .own (.lst acc), st, .val x, .val y] = some (.nx [a, .own (.lst (acc ++ [.tup [x, y]])), st, .val x, .val y]) :=
    (r_drop (r_mut (k := 1) (T := "list") (gm := gAppend) (fl := consF (frzF (tupE (consF (frzF (varE 3)) (consF (frzF (varE 4)) nilF)))) nilF) (ρ := [a, .own (.lst acc), st, .val x, .val y]) (ρ1 := [a, .own (.lst acc), st, .val x, .val y]) (ds := [.tup [x, y]]) rfl rfl rfl rfl (append_at (by omega)))).trans rfl
  have c2 : dropF (mutE "list" gAppend 1 (consF (frzF (tupE (consF (frzF (varE 4)) (consF (frzF (varE 3)) nilF)))) nilF)) [a, .own (.lst (acc ++ [.tup [x, y]])), st, .val x, .val y] = some (.nx [a, .own (.lst ((acc ++ [.tup [x, y]]) ++ [.tup [y, x]])), st, .val x, .val y]) :=
    (r_drop (r_mut (k := 1) (T := "list") (gm := gAppend) (fl := consF (frzF (tupE (consF (frzF (varE 4)) (consF (frzF (varE 3)) nilF)))) nilF) (ρ := [a, .own (.lst (acc ++ [.tup [x, y]])), st, .val x, .val y]) (ρ1 := [a, .own (.lst (acc ++ [.tup [x, y]])), st, .val x, .val y]) (ds := [.tup [y, x]]) rfl rfl rfl rfl (append_at (by rw [List.length_append, List.length_singleton]; omega)))).trans rfl
  rw [List.append_assoc] at c2
  exact r_seq c1 c2
theorem nb_loop {a st : Sl} : ∀ (s : Strip) (acc : List D) (s3 s4 : Sl), slP s3 → slP s4 → acc.length + (pairs s).length ≤ 10000 → ∃ s3' s4', slP s3' ∧ slP s4' ∧ loopF (.tp [3, 4]) lb__neighbours_1 (zipD (pds s) (pds (s.drop 1))) [a, .own (.lst acc), st, s3, s4] = some (.nx [a, .own (.lst (acc ++ (pairs s).map pr)), st, s3', s4'])
  | [], acc, s3, s4, h3, h4, _ => ⟨s3, s4, h3, h4, by show some _ = some (Out.nx [a, .own (.lst (acc ++ [])), st, s3, s4]); rw [List.append_nil]⟩
  | [_], acc, s3, s4, h3, h4, _ => ⟨s3, s4, h3, h4, by show some _ = some (Out.nx [a, .own (.lst (acc ++ [])), st, s3, s4]); rw [List.append_nil]⟩
  | p :: q :: r, acc, s3, s4, h3, h4, h => by
    have hp : pairs (p :: q :: r) = (p, q) :: (q, p) :: pairs (q :: r) := rfl
    rw [hp, List.length_cons, List.length_cons] at h
    obtain ⟨s3', s4', g3, g4, e⟩ := nb_loop (a := a) (st := st) (q :: r) (acc ++ [.tup [pd p, pd q], .tup [pd q, pd p]]) (.val (pd p)) (.val (pd q)) rfl rfl (by rw [List.length_append]; simp; omega)
    refine ⟨s3', s4', g3, g4, ?_⟩
    have pt : putT (.tp [3, 4]) (.tup [pd p, pd q]) [a, .own (.lst acc), st, s3, s4] = some [a, .own (.lst acc), st, .val (pd p), .val (pd q)] := by
      cases s3 <;> cases s4 <;> first | rfl | cases (show true = false from h3) | cases (show true = false from h4)
    show loopF (.tp [3, 4]) lb__neighbours_1 (.tup [pd p, pd q] :: zipD (pds (q :: r)) (pds ((q :: r).drop 1))) [a, .own (.lst acc), st, s3, s4] = _
    rw [loopF, pt]
    simp only [nb_turn (a := a) (st := st) (x := pd p) (y := pd q) (acc := acc) (by omega)]
    rw [e, hp]
    simp [pr]
theorem cut1 (s : Strip) : cutA (pds s) (some 1) none = pds (s.drop 1) := by
  cases s with
  | nil => rfl
  | cons p r =>
    have e : cutA (pds (p :: r)) (some 1) none = ((pds (p :: r)).drop (min 1 (r.length + 1))).take (r.length + 1 - min 1 (r.length + 1)) := by
      show ((pds (p :: r)).drop (HT.sIx (pds (p :: r)).length 0 (some ((1 : Nat) : Int)))).take (HT.sIx (pds (p :: r)).length (pds (p :: r)).length none - HT.sIx (pds (p :: r)).length 0 (some ((1 : Nat) : Int))) = _
      rw [HT.sIx_nat, HT.sIx_none, List.length_map, List.length_cons]
    rw [e, show min 1 (r.length + 1) = 1 by omega]
    show (pds r).take (r.length + 1 - 1) = pds r
    rw [Nat.add_sub_cancel]
    exact List.take_of_length_le (by rw [List.length_map]; exact Nat.le_refl _)
theorem neighbours_spec {dr : List Strip} (h : (nbs dr).length ≤ 10000) : fn__neighbours [.lst (ssd dr)] = some (.new (.lst ((nbs dr).map pr)), [.lst (ssd dr)]) := by
  obtain ⟨ρ', e, s2, s3, s4, h2, h3, h4, rfl⟩ := loop_nx (t := .nm 2) (body := lb__neighbours_2) (f := fun s : Strip => D.lst (pds s))
    (fun q ρ => ∃ s2 s3 s4, slP s2 ∧ slP s3 ∧ slP s4 ∧ ρ = [.val (.lst (ssd dr)), .own (.lst ((nbs q).map pr)), s2, s3, s4]) dr [] [.val (.lst (ssd dr)), .own (.lst []), .none, .none, .none] ⟨.none, .none, .none, rfl, rfl, rfl, rfl⟩
    fun q s post ρ hs hI => by
      obtain ⟨s2, s3, s4, h2, h3, h4, rfl⟩ := hI
      rw [List.nil_append] at hs
      have hl : (nbs q).length + (pairs s).length ≤ 10000 := by
        have e : nbs dr = nbs q ++ (pairs s ++ nbs post) := by rw [hs]; unfold nbs; rw [List.flatMap_append, List.flatMap_cons]
        rw [e, List.length_append, List.length_append] at h
        omega
      obtain ⟨s3', s4', g3, g4, e⟩ := nb_loop (a := .val (.lst (ssd dr))) (st := .val (.lst (pds s))) s ((nbs q).map pr) s3 s4 h3 h4 (by rw [List.length_map]; exact hl)
      refine ⟨[.val (.lst (ssd dr)), .own (.lst ((nbs q).map pr)), .val (.lst (pds s)), s3, s4], _, put_nm (by cases s2 <;> first | rfl | cases h2), ?_, .val (.lst (pds s)), s3', s4', rfl, g3, g4, rfl⟩
      have k : slE (orefF 2) (some (frzF (conE (.int 1)))) none [.val (.lst (ssd dr)), .own (.lst ((nbs q).map pr)), .val (.lst (pds s)), s3, s4] = some (.new (.lst (pds (s.drop 1))), [.val (.lst (ssd dr)), .own (.lst ((nbs q).map pr)), .val (.lst (pds s)), s3, s4]) := by
        rw [← cut1]
        rfl
      have k2 : consF (frzF (varE 2)) (consF (frzF (slE (orefF 2) (some (frzF (conE (.int 1)))) none)) nilF) [.val (.lst (ssd dr)), .own (.lst ((nbs q).map pr)), .val (.lst (pds s)), s3, s4] = some ([.lst (pds s), .lst (pds (s.drop 1))], [.val (.lst (ssd dr)), .own (.lst ((nbs q).map pr)), .val (.lst (pds s)), s3, s4]) :=
        r_cons rfl (r_cons (r_frz k rfl) rfl)
      show zipF (.tp [3, 4]) _ lb__neighbours_1 _ = _
      unfold zipF
      rw [k2]
      show loopF (.tp [3, 4]) lb__neighbours_1 (zipD (pds s) (pds (s.drop 1))) _ = _
      rw [e]
      have en : nbs (q ++ [s]) = nbs q ++ pairs s := by unfold nbs; rw [List.flatMap_append, List.flatMap_cons, List.flatMap_nil, List.append_nil]
      rw [en, List.map_append]
  rw [List.nil_append] at *
  have run : fb__neighbours [.val (.lst (ssd dr)), .none, .none, .none, .none] = some (.rt (.new (.lst ((nbs dr).map pr))) [.val (.lst (ssd dr)), .none, s2, s3, s4]) :=
    r_seq (f := setF 1 (lstE nilF)) (ρ1 := [.val (.lst (ssd dr)), .own (.lst []), .none, .none, .none]) rfl (r_seq (r_for (d := .lst (ssd dr)) rfl rfl e) rfl)
  show (match fb__neighbours [.val (.lst (ssd dr)), .none, .none, .none, .none] with
    | some (.rt r ρ') => (outs [false] [.lst (ssd dr)] ρ').map fun ds' => (r, ds')
    | some (.nx ρ') => (outs [false] [.lst (ssd dr)] ρ').map fun ds' => (.val .non, ds')
    | _ => none) = _
  rw [run]
  rfl
end G02
/-! P02m -/
namespace G02
open PySem PySem.Spec PyProof.Rows L2 Ev M02 Gx
theorem argD_vals {ρ : EnvD} : ∀ ds : List D, argD (ds.map AD.v) ρ = some ds
  | [] => rfl
  | d :: ds => by
    show (argD (ds.map AD.v) ρ).map (d :: ·) = _
    rw [argD_vals ds]
    rfl
theorem refs_vals : ∀ ds : List D, refsOf (ds.map AD.v) = []
  | [] => rfl
  | d :: ds => refs_vals ds
theorem refAt_vals {j : Nat} : ∀ (ds es : List D), refAt (ds.map AD.v) es j = none
  | [], es => by cases es <;> rfl
  | d :: ds, [] => rfl
  | d :: ds, e :: es => refAt_vals ds es
theorem put_vals {ds es : List D} {ρ : EnvD} : putBack (ds.map AD.v) es ρ = ρ := by
  unfold putBack
  apply List.ext_getElem?
  intro k
  rw [List.getElem?_mapIdx]
  cases ρ[k]? with
  | none => rfl
  | some s => show some (newSl (refAt (ds.map AD.v) es k) s) = _; rw [refAt_vals]; rfl
theorem isR_vals : ∀ ds : List D, (ds.map AD.v).map AD.isR = ds.map fun _ => false
  | [] => rfl
  | d :: ds => by
    rw [List.map_cons, List.map_cons, List.map_cons, isR_vals ds]
    rfl
theorem r_callV {ms : List Bool} {F : List D → Option (Re × List D)} {fa : Fa} {ρ ρ1 : EnvD} {ds ds' : List D} {r : Re} (h1 : fa ρ = some (ds.map AD.v, ρ1)) (hm : ms = ds.map fun _ => false) (hF : F ds = some (r, ds')) (hl : ds'.length = ds.length) : callE ms [] F fa ρ = some (r, ρ1) := by
  unfold callE
  rw [h1]
  show (if (decide ((ds.map AD.v ++ List.map AD.v []).map AD.isR = ms) && noDup (refsOf (ds.map AD.v ++ List.map AD.v []))) = true then _ else none) = _
  rw [List.map_nil, List.append_nil, isR_vals, refs_vals, hm, decide_eq_true rfl]
  show (match argD (ds.map AD.v) ρ1 with
    | some ds0 => (match F ds0 with
      | some (r, ds') => if decide (ds'.length = ds0.length) = true then some (r, putBack (ds.map AD.v) ds' ρ1) else none
      | none => none)
    | none => none) = _
  rw [argD_vals]
  show (match F ds with
      | some (r, ds') => if decide (ds'.length = ds.length) = true then some (r, putBack (ds.map AD.v) ds' ρ1) else none
      | none => none) = _
  rw [hF]
  show (if decide (ds'.length = ds.length) = true then some (r, putBack (ds.map AD.v) ds' ρ1) else none) = _
  rw [decide_eq_true hl, if_pos rfl, put_vals]
theorem r_tru {fo : Fo} {ρ ρ1 : EnvD} {a : AD} {k : Bool} (h : fo ρ = some (a, ρ1)) (h2 : truA ρ1 a = some k) : truO fo ρ = some (k, ρ1) := by
  unfold truO
  rw [h]
  show (truA ρ1 a).map (fun k => (k, ρ1)) = _
  rw [h2]
  rfl
theorem r_not {p : Fb} {ρ ρ1 : EnvD} {k : Bool} (h : p ρ = some (k, ρ1)) : notF p ρ = some (!k, ρ1) := by
  unfold notF
  rw [h]
  rfl
theorem r_seqR {f g : Fs} {ρ ρ1 : EnvD} {r : Re} (h : f ρ = some (.rt r ρ1)) : seqF f g ρ = some (.rt r ρ1) := by
  unfold seqF
  rw [h]
theorem tests_map {α : Type} {g : D → Option Bool} {f : α → D} {b : α → Bool} : ∀ l : List α, (∀ x, x ∈ l → g (f x) = some (b x)) → testsD g (l.map f) = some (l.map b)
  | [], _ => rfl
  | x :: l, h => by
    rw [List.map_cons, testsD, h x List.mem_cons_self, tests_map l fun y hy => h y (List.mem_cons_of_mem _ hy)]
    rfl
theorem r_any {α : Type} {gd : EnvD → D → Option Bool} {f : Fv} {ρ ρ1 : EnvD} {fd : α → D} {b : α → Bool} {l : List α} (h : f ρ = some (.lst (l.map fd), ρ1)) (ht : ∀ x, x ∈ l → gd ρ1 (fd x) = some (b x)) : anyF (fun bs => bs.any fun b => b) gd f ρ = some (.val (.bl (l.any b)), ρ1) := by
  unfold anyF
  rw [h]
  show (testsD (gd ρ1) (l.map fd)).map (fun bs => (Re.val (.bl (bs.any fun b => b)), ρ1)) = _
  rw [tests_map l ht]
  show some (Re.val (.bl ((l.map b).any fun b => b)), ρ1) = _
  rw [List.any_map]
  rfl
/-- a test within -/
def sgn (neg b : Bool) : Bool := if neg then !b else b
theorem two_in {m : Str → Option RawD} {a P b Q x y : Str} {p q : List Str} {n1 n2 : Bool} (h1 : m a = some (.str x)) (h2 : m P = some (.seq p)) (h3 : m b = some (.str y)) (h4 : m Q = some (.seq q)) : tAnd2 (tIn n1 a P) (tIn n2 b Q) m = some (sgn n1 (p.contains x) && sgn n2 (q.contains y)) := by
  have e1 : tIn n1 a P m = some (sgn n1 (p.contains x)) := by
    unfold tIn
    rw [h1, h2]
    rfl
  have e2 : tIn n2 b Q m = some (sgn n2 (q.contains y)) := by
    unfold tIn
    rw [h3, h4]
    rfl
  unfold tAnd2
  rw [e1]
  cases sgn n1 (p.contains x) with
  | false => rfl
  | true => exact e2
theorem raw_pd (p : List Str) : rawD (pd p) = some (.seq p) := by
  show (strsOf (sd p)).map RawD.seq = _
  rw [strsOf_map]
  rfl
theorem cap_at {ρ : EnvD} {caps : List (Str × Nat)} {y x : Str} {i : Nat} (h : caps.lookup y = some i) (h2 : lookOf ρ i = some (.str x)) : capM ρ caps y = some (.str x) := by
  unfold capM
  rw [h]
  show (match lookOf ρ i with
    | some d => rawD d
    | none => none) = _
  rw [h2]
  rfl
theorem nm1_at {X y : Str} {p : List Str} {m : Str → Option RawD} : nm1 X (pd p) m X = some (.seq p) := by
  unfold nm1
  rw [if_pos rfl]
  exact raw_pd p
theorem nm1_ne {X y : Str} {d : D} {m : Str → Option RawD} (h : y ≠ X) : nm1 X d m y = m y := if_neg h
/-- one plot -/
theorem g1_at {ρ : EnvD} {caps : List (Str × Nat)} {a b X x y : Str} {i j : Nat} {n1 n2 : Bool} {p : List Str} (ha : a ≠ X) (hb : b ≠ X) (ka : caps.lookup a = some i) (kb : caps.lookup b = some j) (ea : lookOf ρ i = some (.str x)) (eb : lookOf ρ j = some (.str y)) :
    g1 X caps (tAnd2 (tIn n1 a X) (tIn n2 b X)) ρ (pd p) = some (sgn n1 (p.contains x) && sgn n2 (p.contains y)) :=
  two_in ((nm1_ne ha).trans (cap_at ka ea)) (nm1_at (y := X)) ((nm1_ne hb).trans (cap_at kb eb)) (nm1_at (y := X))
/-- two plots beside each other -/
theorem g2_at {ρ : EnvD} {caps : List (Str × Nat)} {a b X Y x y : Str} {i j : Nat} {n1 n2 : Bool} {p : List Str × List Str} (ha : a ≠ X) (ha2 : a ≠ Y) (hb : b ≠ X) (hb2 : b ≠ Y) (hXY : Y ≠ X) (ka : caps.lookup a = some i) (kb : caps.lookup b = some j) (ea : lookOf ρ i = some (.str x)) (eb : lookOf ρ j = some (.str y)) :
    g2 X Y caps (tAnd2 (tIn n1 a X) (tIn n2 b Y)) ρ (pr p) = some (sgn n1 (p.1.contains x) && sgn n2 (p.2.contains y)) := by
  show tAnd2 (tIn n1 a X) (tIn n2 b Y) (fun z => if z = X then rawD (pd p.1) else if z = Y then rawD (pd p.2) else capM ρ caps z) = _
  refine two_in ?_ ?_ ?_ ?_
  · rw [if_neg ha, if_neg ha2]; exact cap_at ka ea
  · rw [if_pos rfl]; exact raw_pd _
  · rw [if_neg hb, if_neg hb2]; exact cap_at kb eb
  · rw [if_neg hXY, if_pos rfl]; exact raw_pd _
def wayW : List Str := ["apart", "meets", "over", "same", "inrim", "incore", "hasrim", "hascore"].map Str.ofString
def ws (i : Nat) : Str := wayW.getD i ⟨#[]⟩
def wd (i : Nat) : D := .str (ws i)
theorem within_spec {dr : List Strip} {x y : Str} : fn__way_within [.lst ((nbs dr).map pr), .str x, .str y] = some (.val (wd (if hasE dr x y then 4 else 5)), [.lst ((nbs dr).map pr), .str x, .str y]) := by
  let ρ : EnvD := [.val (.lst ((nbs dr).map pr)), .val (.str x), .val (.str y), .none, .none]
  have k := r_any (gd := g2 (Str.ofString "plot") (Str.ofString "beside") [(Str.ofString "inner", 1), (Str.ofString "outer", 2)] (tAnd2 (tIn false (Str.ofString "inner") (Str.ofString "plot")) (tIn true (Str.ofString "outer") (Str.ofString "beside")))) (f := frzF (varE 0)) (ρ := ρ) (ρ1 := ρ) (fd := pr) (l := nbs dr) (b := fun p => p.1.contains x && !p.2.contains y) rfl
    fun p _ => g2_at (n1 := false) (n2 := true) (i := 1) (j := 2) (by decide +kernel) (by decide +kernel) (by decide +kernel) (by decide +kernel) (by decide +kernel) (by decide +kernel) (by decide +kernel) rfl rfl
  have t := r_tru (r_ov (r_frz k rfl)) (k := hasE dr x y) rfl
  have run : fb__way_within ρ = some (.rt (.val (wd (if hasE dr x y then 4 else 5))) ρ) := by
    cases q : hasE dr x y with
    | true => rw [q] at t; exact r_seqR (r_ift t rfl)
    | false => rw [q] at t; exact r_seq (r_iff t rfl) rfl
  show (match fb__way_within ρ with
    | some (.rt r ρ') => (outs [false, false, false] [.lst ((nbs dr).map pr), .str x, .str y] ρ').map fun ds' => (r, ds')
    | some (.nx ρ') => (outs [false, false, false] [.lst ((nbs dr).map pr), .str x, .str y] ρ').map fun ds' => (.val .non, ds')
    | _ => none) = _
  rw [run]
  rfl
end G02
/-! P02n -/
namespace G02
open PySem PySem.Spec PyProof.Rows L2 Ev M02 Gx
theorem r_av {f : Fv} {g : Fa} {ρ ρ1 ρ2 : EnvD} {d : D} {as : List AD} (h : f ρ = some (d, ρ1)) (h2 : g ρ1 = some (as, ρ2)) : avF f g ρ = some (.v d :: as, ρ2) := by
  unfold avF
  rw [h]
  show (match g ρ1 with
    | some (as, ρ2) => some (AD.v d :: as, ρ2)
    | none => none) = _
  rw [h2]
theorem turned_4 : fn_turned [wd 4] = some (.val (wd 6), [wd 4]) := by kernel_rfl
theorem turned_5 : fn_turned [wd 5] = some (.val (wd 7), [wd 5]) := by kernel_rfl
theorem way_spec {dr : List Strip} {x y : Str} : fn__way [.lst (pds (plots dr)), .lst ((nbs dr).map pr), .str x, .str y] = some (.val (wd (way (vw dr x y))), [.lst (pds (plots dr)), .lst ((nbs dr).map pr), .str x, .str y]) := by
  let ρ0 : EnvD := [.val (.lst (pds (plots dr))), .val (.lst ((nbs dr).map pr)), .val (.str x), .val (.str y), .none, .none, .none, .none]
  let ρ1 (a : Bool) : EnvD := [.val (.lst (pds (plots dr))), .val (.lst ((nbs dr).map pr)), .val (.str x), .val (.str y), .val (.bl a), .none, .none, .none]
  let ρ2 (a b : Bool) : EnvD := [.val (.lst (pds (plots dr))), .val (.lst ((nbs dr).map pr)), .val (.str x), .val (.str y), .val (.bl a), .none, .val (.bl b), .none]
  have k1 := r_any (gd := g1 (Str.ofString "plot") [(Str.ofString "one", 2), (Str.ofString "other", 3)] (tAnd2 (tIn false (Str.ofString "one") (Str.ofString "plot")) (tIn true (Str.ofString "other") (Str.ofString "plot")))) (f := frzF (varE 0)) (ρ := ρ0) (ρ1 := ρ0) (fd := pd) (l := plots dr) (b := fun p => p.contains x && !p.contains y) rfl
    fun p _ => g1_at (n1 := false) (n2 := true) (i := 2) (j := 3) (by decide +kernel) (by decide +kernel) (by decide +kernel) (by decide +kernel) rfl rfl
  have c1 : setF 4 _ ρ0 = some (.nx (ρ1 (hasA dr x y))) := (r_set (i := 4) k1 rfl).trans rfl
  have k2 := r_any (gd := g1 (Str.ofString "plot") [(Str.ofString "other", 3), (Str.ofString "one", 2)] (tAnd2 (tIn false (Str.ofString "other") (Str.ofString "plot")) (tIn true (Str.ofString "one") (Str.ofString "plot")))) (f := frzF (varE 0)) (ρ := ρ1 (hasA dr x y)) (ρ1 := ρ1 (hasA dr x y)) (fd := pd) (l := plots dr) (b := fun p => p.contains y && !p.contains x) rfl
    fun p _ => g1_at (n1 := false) (n2 := true) (i := 3) (j := 2) (by decide +kernel) (by decide +kernel) (by decide +kernel) (by decide +kernel) rfl rfl
  have c2 : setF 6 _ (ρ1 (hasA dr x y)) = some (.nx (ρ2 (hasA dr x y) (hasA dr y x))) := (r_set (i := 6) k2 rfl).trans rfl
  have ta : ∀ a b, notF (truO (orefF 4)) (ρ2 a b) = some (!a, ρ2 a b) := fun a b => r_not (r_tru (a := .r 4) rfl rfl)
  have tb : ∀ a b, notF (truO (orefF 6)) (ρ2 a b) = some (!b, ρ2 a b) := fun a b => r_not (r_tru (a := .r 6) rfl rfl)
  have run : fb__way ρ0 = some (.rt (.val (wd (way (vw dr x y)))) (ρ2 (hasA dr x y) (hasA dr y x))) := by
    refine r_seq c1 (r_seq c2 ?_)
    show _ = some (Out.rt (Re.val (wd (way (hasA dr x y, hasA dr y x, hasC dr x y, hasE dr x y, hasE dr y x, hasF dr x y)))) _)
    cases qa : hasA dr x y with
    | false =>
      cases qb : hasA dr y x with
      | false => exact r_seqR (r_ift (r_andT (ta _ _) (tb _ _)) rfl)
      | true =>
        refine r_seq (r_iff (r_andT (ta _ _) (tb _ _)) rfl) (r_seqR (r_ift (ta _ _) ?_))
        have w := within_spec (dr := dr) (x := x) (y := y)
        exact r_ret (r_callV (ds := [.lst ((nbs dr).map pr), .str x, .str y]) rfl rfl w rfl)
    | true =>
      cases qb : hasA dr y x with
      | false =>
        refine r_seq (r_iff (r_andF (ta _ _)) rfl) (r_seq (r_iff (ta _ _) rfl) (r_seqR (r_ift (tb _ _) ?_)))
        have w := within_spec (dr := dr) (x := y) (y := x)
        have w2 := r_callV (ms := [false, false, false]) (fa := avF (frzF (varE 1)) (avF (frzF (varE 3)) (avF (frzF (varE 2)) anilF))) (ρ := ρ2 true false) (ρ1 := ρ2 true false) (ds := [.lst ((nbs dr).map pr), .str y, .str x]) rfl rfl w rfl
        cases qe : hasE dr y x with
        | true =>
          rw [qe] at w2
          have w3 : avF (frzF (callE [false, false, false] [] fn__way_within (avF (frzF (varE 1)) (avF (frzF (varE 3)) (avF (frzF (varE 2)) anilF))))) anilF (ρ2 true false) = some ([wd 4].map AD.v, ρ2 true false) := r_av (r_frz w2 rfl) rfl
          exact r_ret (r_callV w3 rfl turned_4 rfl)
        | false =>
          rw [qe] at w2
          have w3 : avF (frzF (callE [false, false, false] [] fn__way_within (avF (frzF (varE 1)) (avF (frzF (varE 3)) (avF (frzF (varE 2)) anilF))))) anilF (ρ2 true false) = some ([wd 5].map AD.v, ρ2 true false) := r_av (r_frz w2 rfl) rfl
          exact r_ret (r_callV w3 rfl turned_5 rfl)
      | true =>
        refine r_seq (r_iff (r_andF (ta _ _)) rfl) (r_seq (r_iff (ta _ _) rfl) (r_seq (r_iff (tb _ _) rfl) ?_))
        have k3 := r_any (gd := g1 (Str.ofString "plot") [(Str.ofString "one", 2), (Str.ofString "other", 3)] (tAnd2 (tIn false (Str.ofString "one") (Str.ofString "plot")) (tIn false (Str.ofString "other") (Str.ofString "plot")))) (f := frzF (varE 0)) (ρ := ρ2 true true) (ρ1 := ρ2 true true) (fd := pd) (l := plots dr) (b := fun p => p.contains x && p.contains y) rfl
          fun p _ => g1_at (n1 := false) (n2 := false) (i := 2) (j := 3) (by decide +kernel) (by decide +kernel) (by decide +kernel) (by decide +kernel) rfl rfl
        have t3 := r_tru (r_ov (r_frz k3 rfl)) (k := hasC dr x y) rfl
        cases qc : hasC dr x y with
        | true => rw [qc] at t3; exact r_seqR (r_ift t3 rfl)
        | false =>
          rw [qc] at t3
          have k4 := r_any (gd := g2 (Str.ofString "plot") (Str.ofString "beside") [(Str.ofString "one", 2), (Str.ofString "other", 3)] (tAnd2 (tIn false (Str.ofString "one") (Str.ofString "plot")) (tIn false (Str.ofString "other") (Str.ofString "beside")))) (f := frzF (varE 1)) (ρ := ρ2 true true) (ρ1 := ρ2 true true) (fd := pr) (l := nbs dr) (b := fun p => p.1.contains x && p.2.contains y) rfl
            fun p _ => g2_at (n1 := false) (n2 := false) (i := 2) (j := 3) (by decide +kernel) (by decide +kernel) (by decide +kernel) (by decide +kernel) (by decide +kernel) (by decide +kernel) (by decide +kernel) rfl rfl
          have t4 := r_tru (r_ov (r_frz k4 rfl)) (k := hasF dr x y) rfl
          cases qf : hasF dr x y with
          | true => rw [qf] at t4; exact r_seq (r_iff t3 rfl) (r_seqR (r_ift t4 rfl))
          | false => rw [qf] at t4; exact r_seq (r_iff t3 rfl) (r_seq (r_iff t4 rfl) rfl)
  show (match fb__way ρ0 with
    | some (.rt r ρ') => (outs [false, false, false, false] [.lst (pds (plots dr)), .lst ((nbs dr).map pr), .str x, .str y] ρ').map fun ds' => (r, ds')
    | some (.nx ρ') => (outs [false, false, false, false] [.lst (pds (plots dr)), .lst ((nbs dr).map pr), .str x, .str y] ρ').map fun ds' => (.val .non, ds')
    | _ => none) = _
  rw [run]
  rfl
/-- what is asked of a drawing for the program's limits -/
structure Small (dr : List Strip) (names : List Str) : Prop where
  pl : (plots dr).length ≤ 10000
  nb : (nbs dr).length ≤ 10000
  nm : (namesOf dr).length ≤ 3900
  few : names.length ≤ 60
  sub : ∀ x, x ∈ namesOf dr → x ∈ names
theorem refuse_spec {ks : List Str} {x y : Str} (hx : x ∈ ks) (hy : y ∈ ks) : fn_refuse_unknown [.lst (sd ks), .lst (sd [x, y])] = some (.val .non, [.lst (sd ks), .lst (sd [x, y])]) := by
  have turn : ∀ z, z ∈ ks → lb_refuse_unknown_1 [.val (.lst (sd ks)), .val (.lst (sd [x, y])), .val (.str z)] = some (.nx [.val (.lst (sd ks)), .val (.lst (sd [x, y])), .val (.str z)]) := fun z hz => by
    have t : cmpT (bIn2 true) (orefF 2) (orefF 0) [.val (.lst (sd ks)), .val (.lst (sd [x, y])), .val (.str z)] = some (!ks.contains z, [.val (.lst (sd ks)), .val (.lst (sd [x, y])), .val (.str z)]) := r_cmpT rfl rfl rfl rfl (in_strs rfl)
    rw [List.contains_iff_mem.mpr hz] at t
    exact r_iff t rfl
  have run : fb_refuse_unknown [.val (.lst (sd ks)), .val (.lst (sd [x, y])), .none] = some (.nx [.val (.lst (sd ks)), .val (.lst (sd [x, y])), .val (.str y)]) := by
    refine r_for (d := .lst (sd [x, y])) (l := sd [x, y]) rfl rfl ?_
    show loopF (.nm 2) lb_refuse_unknown_1 [.str x, .str y] _ = _
    rw [loopF, put_nm rfl]
    simp only [show ([Sl.val (.lst (sd ks)), .val (.lst (sd [x, y])), .none].set 2 (.val (.str x))) = [Sl.val (.lst (sd ks)), .val (.lst (sd [x, y])), .val (.str x)] from rfl, turn x hx]
    rw [loopF, put_nm rfl]
    simp only [show ([Sl.val (.lst (sd ks)), .val (.lst (sd [x, y])), .val (.str x)].set 2 (.val (.str y))) = [Sl.val (.lst (sd ks)), .val (.lst (sd [x, y])), .val (.str y)] from rfl, turn y hy]
    rfl
  show (match fb_refuse_unknown [.val (.lst (sd ks)), .val (.lst (sd [x, y])), .none] with
    | some (.rt r ρ') => (outs [false, false] [.lst (sd ks), .lst (sd [x, y])] ρ').map fun ds' => (r, ds')
    | some (.nx ρ') => (outs [false, false] [.lst (sd ks), .lst (sd [x, y])] ρ').map fun ds' => (.val .non, ds')
    | _ => none) = _
  rw [run]
  rfl
theorem seen_spec {dr : List Strip} {names : List Str} {x y : Str} (h : Small dr names) (hx : x ∈ namesOf dr) (hy : y ∈ namesOf dr) : fn_seen [.lst (ssd dr), .str x, .str y] = some (.val (wd (way (vw dr x y))), [.lst (ssd dr), .str x, .str y]) := by
  let ρ : EnvD := [.val (.lst (ssd dr)), .val (.str x), .val (.str y)]
  have la := r_callV (ms := [false]) (fa := avF (frzF (varE 0)) anilF) (ρ := ρ) (ρ1 := ρ) (ds := [.lst (ssd dr)]) rfl rfl (lands_spec h.nm h.few h.sub) rfl
  have al : avF (frzF (callE [false] [] fn_lands (avF (frzF (varE 0)) anilF))) (avF (frzF (lstE (consF (frzF (varE 1)) (consF (frzF (varE 2)) nilF)))) anilF) ρ = some ([.lst (sd (sortU (namesOf dr))), .lst (sd [x, y])].map AD.v, ρ) := by
    have f1 : frzF (callE [false] [] fn_lands (avF (frzF (varE 0)) anilF)) ρ = some (.lst (sd (sortU (namesOf dr))), ρ) := r_frz la rfl
    exact r_av f1 rfl
  have c1 : dropF (callE [false, false] [] fn_refuse_unknown (avF (frzF (callE [false] [] fn_lands (avF (frzF (varE 0)) anilF))) (avF (frzF (lstE (consF (frzF (varE 1)) (consF (frzF (varE 2)) nilF)))) anilF))) ρ = some (.nx ρ) :=
    r_drop (r_callV al rfl (refuse_spec (mem_sortU.mpr hx) (mem_sortU.mpr hy)) rfl)
  have p := r_callV (ms := [false]) (fa := avF (frzF (varE 0)) anilF) (ρ := ρ) (ρ1 := ρ) (ds := [.lst (ssd dr)]) rfl rfl (plots_spec h.pl) rfl
  have n := r_callV (ms := [false]) (fa := avF (frzF (varE 0)) anilF) (ρ := ρ) (ρ1 := ρ) (ds := [.lst (ssd dr)]) rfl rfl (neighbours_spec h.nb) rfl
  have a : avF (frzF (callE [false] [] fn__plots (avF (frzF (varE 0)) anilF))) (avF (frzF (callE [false] [] fn__neighbours (avF (frzF (varE 0)) anilF))) (avF (frzF (varE 1)) (avF (frzF (varE 2)) anilF))) ρ = some ([.lst (pds (plots dr)), .lst ((nbs dr).map pr), .str x, .str y].map AD.v, ρ) := by
    have f1 : frzF (callE [false] [] fn__plots (avF (frzF (varE 0)) anilF)) ρ = some (.lst (pds (plots dr)), ρ) := r_frz p rfl
    have f2 : frzF (callE [false] [] fn__neighbours (avF (frzF (varE 0)) anilF)) ρ = some (.lst ((nbs dr).map pr), ρ) := r_frz n rfl
    exact r_av f1 (r_av f2 rfl)
  have run : fb_seen ρ = some (.rt (.val (wd (way (vw dr x y)))) ρ) := r_seq c1 (r_ret (r_callV a rfl way_spec rfl))
  show (match fb_seen ρ with
    | some (.rt r ρ') => (outs [false, false, false] [.lst (ssd dr), .str x, .str y] ρ').map fun ds' => (r, ds')
    | some (.nx ρ') => (outs [false, false, false] [.lst (ssd dr), .str x, .str y] ρ').map fun ds' => (.val .non, ds')
    | _ => none) = _
  rw [run]
  rfl
end G02
/-! P02o -/
namespace G02
open PySem PySem.Spec PyProof.Rows L2 Ev M02 Gx
abbrev Pl := Nat × Nat
def pt (p : Pl) : D := .tup [.int (p.1 : Nat), .int (p.2 : Nat)]
def ptP (p : Pl) : PyData := .tuple [.int (p.1 : Nat), .int (p.2 : Nat)]
theorem toPy_pt (p : Pl) : toPy (pt p) = some (ptP p) := rfl
theorem toPys_pt : ∀ l : List Pl, toPys (l.map pt) = some (l.map ptP)
  | [] => rfl
  | p :: l => by
    rw [List.map_cons, toPys, toPys_pt l, toPy_pt]
    rfl
theorem can_pts : ∀ l : List Pl, PyData.canLayAll0 (l.map ptP) = true
  | [] => rfl
  | p :: l => by
    show (PyData.canLay0 (ptP p) && PyData.canLayAll0 (l.map ptP)) = true
    rw [can_pts l]
    rfl
theorem dep_pts : ∀ l : List Pl, PyData.depthAll (l.map ptP) ≤ 1
  | [] => Nat.zero_le _
  | p :: l => by
    show max (PyData.depth (ptP p)) (PyData.depthAll (l.map ptP)) ≤ 1
    have := dep_pts l
    have e : PyData.depth (ptP p) = 1 := rfl
    omega
theorem shaped_pt (p : Pl) : SeqAt.shaped (ptP p) = true := by
  show (PyData.canLay0 (ptP p) && decide (PyData.depth (ptP p) ≤ 64)) = true
  rfl
theorem shaped_pts (l : List Pl) : SeqAt.shaped (.list (l.map ptP)) = true := by
  show (PyData.canLayAll0 (l.map ptP) && decide (PyData.depthAll (l.map ptP) + 1 ≤ 64)) = true
  rw [can_pts, decide_eq_true (by have := dep_pts l; omega)]
  rfl
theorem eqv_pt (p q : Pl) : PyData.eqv (ptP p) (ptP q) = (p == q) := by
  show ((((p.1 : Nat) : Int) == ((q.1 : Nat) : Int)) && ((((p.2 : Nat) : Int) == ((q.2 : Nat) : Int)) && true)) = _
  obtain ⟨a, b⟩ := p
  obtain ⟨c, d⟩ := q
  rw [Bool.and_true, Bool.eq_iff_iff, Bool.and_eq_true, beq_iff_eq, beq_iff_eq, beq_iff_eq, Prod.mk.injEq]
  constructor
  · rintro ⟨h1, h2⟩; exact ⟨Int.ofNat.inj h1, Int.ofNat.inj h2⟩
  · rintro ⟨h1, h2⟩; exact ⟨congrArg _ h1, congrArg _ h2⟩
theorem eqv_pts : ∀ l m : List Pl, PyData.eqvAll (l.map ptP) (m.map ptP) = (l == m)
  | [], [] => rfl
  | [], _ :: _ => rfl
  | _ :: _, [] => rfl
  | p :: l, q :: m => by
    show (PyData.eqv (ptP p) (ptP q) && PyData.eqvAll (l.map ptP) (m.map ptP)) = _
    rw [eqv_pt, eqv_pts l m]
    rfl
theorem eq_pts {l m : List Pl} {neg : Bool} : bEq neg (.lst (l.map pt)) (.lst (m.map pt)) = some (sgn neg (l == m)) := by
  have e1 : toPy (.lst (l.map pt)) = some (.list (l.map ptP)) := by
    show (toPys (l.map pt)).map PyData.list = _
    rw [toPys_pt]; rfl
  have e2 : toPy (.lst (m.map pt)) = some (.list (m.map ptP)) := by
    show (toPys (m.map pt)).map PyData.list = _
    rw [toPys_pt]; rfl
  show (bEqD neg (.lst (l.map pt)) (.lst (m.map pt))) = _
  unfold bEqD
  rw [e1, e2]
  show (if (SeqAt.shaped (.list (l.map ptP)) && SeqAt.shaped (.list (m.map ptP))) = true then some (if neg then !PyData.eqv (.list (l.map ptP)) (.list (m.map ptP)) else PyData.eqv (.list (l.map ptP)) (.list (m.map ptP))) else none) = _
  rw [shaped_pts, shaped_pts]
  show some (if neg then !PyData.eqvAll (l.map ptP) (m.map ptP) else PyData.eqvAll (l.map ptP) (m.map ptP)) = _
  rw [eqv_pts]
  rfl
theorem in_pts {p : Pl} {l : List Pl} {neg : Bool} : bIn2 neg (pt p) (.lst (l.map pt)) = some (sgn neg (l.contains p)) := by
  have e2 : toPy (.lst (l.map pt)) = some (.list (l.map ptP)) := by
    show (toPys (l.map pt)).map PyData.list = _
    rw [toPys_pt]; rfl
  show (bInD neg (pt p) (.lst (l.map pt))) = _
  unfold bInD
  rw [e2, toPy_pt]
  show (if (SeqAt.shaped (ptP p) && SeqAt.shaped (.list (l.map ptP))) = true then some (if neg then !((l.map ptP).any fun z => PyData.eqv z (ptP p)) else (l.map ptP).any fun z => PyData.eqv z (ptP p)) else none) = _
  rw [shaped_pt, shaped_pts]
  have e : ((l.map ptP).any fun z => PyData.eqv z (ptP p)) = l.contains p := by
    rw [List.any_map, Bool.eq_iff_iff, List.any_eq_true, List.contains_iff_mem]
    constructor
    · rintro ⟨q, h1, h2⟩
      have h2 : PyData.eqv (ptP q) (ptP p) = true := h2
      rw [eqv_pt] at h2
      exact eq_of_beq h2 ▸ h1
    · intro h
      exact ⟨p, h, by show PyData.eqv (ptP p) (ptP p) = true; rw [eqv_pt]; exact beq_self_eq_true p⟩
  rw [if_pos (show (true && true) = true from rfl), e]
  rfl
theorem sub_map {α : Type} {f : α → D} {l : List α} {i : Nat} (h : i < l.length) : gSub2 (.lst (l.map f)) (.int (i : Nat)) = some (f l[i]) := by
  have e : atI (l.map f) (i : Nat) = some (f l[i]) := by
    unfold atI
    rw [ixN_in (by omega) (by rw [List.length_map]; omega), Int.toNat_natCast]
    show (l.map f)[i]? = _
    rw [List.getElem?_map, List.getElem?_eq_getElem h]
    rfl
  show (atI (l.map f) (i : Nat)).or _ = _
  rw [e]
  rfl
abbrev sf (s : Strip) : D := .lst (pds s)
def rowP (x : Str) (i : Nat) (s : Strip) (n : Nat) : List Pl := ((List.range n).filter fun j => (s.getD j []).contains x).map fun j => (i, j)
def placesN (dr : List Strip) (x : Str) (n : Nat) : List Pl := (List.range n).flatMap fun i => rowP x i (dr.getD i []) (dr.getD i []).length
def places (dr : List Strip) (x : Str) : List Pl := placesN dr x dr.length
theorem rowP_succ {x : Str} {i n : Nat} {s : Strip} : rowP x i s (n + 1) = rowP x i s n ++ (if (s.getD n []).contains x then [(i, n)] else []) := by
  unfold rowP
  rw [List.range_succ, List.filter_append, List.map_append]
  rw [List.filter_cons, List.filter_nil]
  cases (s.getD n []).contains x <;> rfl
theorem placesN_succ {dr : List Strip} {x : Str} {n : Nat} : placesN dr x (n + 1) = placesN dr x n ++ rowP x n (dr.getD n []) (dr.getD n []).length := by
  unfold placesN
  rw [List.range_succ, List.flatMap_append, List.flatMap_cons, List.flatMap_nil, List.append_nil]
theorem rowP_len {x : Str} {i n : Nat} {s : Strip} : (rowP x i s n).length ≤ n := by
  unfold rowP
  rw [List.length_map]
  have := List.length_filter_le (fun j => (s.getD j []).contains x) (List.range n)
  rw [List.length_range] at this
  exact this
end G02
/-! P02p -/
namespace G02
open PySem PySem.Spec PyProof.Rows L2 Ev M02 Gx
theorem getD_at {α : Type} {l : List α} {i : Nat} {d : α} (h : i < l.length) : l.getD i d = l[i] := by
  rw [List.getD_eq_getElem?_getD, List.getElem?_eq_getElem h]
  rfl
theorem strip_at {dr : List Strip} {i : Nat} {ρ : EnvD} (h : i < dr.length) (h0 : ρ[0]? = some (.val (.lst (ssd dr)))) (h3 : ρ[3]? = some (.val (.int (i : Nat)))) : ixE gSub2 (orefF 0) (frzF (varE 3)) ρ = some (.val (sf dr[i]), ρ) := by
  refine r_ix (a := .r 0) (x := .lst (ssd dr)) (y := .int (i : Nat)) (ρ1 := ρ) ?_ (r_frz (r := .val (.int (i : Nat))) ?_ rfl) ?_ (sub_map (f := sf) h)
  · unfold orefF; rw [h0]
  · unfold varE; rw [h3]
  · show lookOf ρ 0 = _
    unfold lookOf
    rw [h0]
theorem places_spec {dr : List Strip} {x : Str} (h1 : dr.length ≤ 100) (h2 : ∀ s, s ∈ dr → s.length ≤ 20) : fn__law_places [.lst (ssd dr), .str x] = some (.new (.lst ((places dr x).map pt)), [.lst (ssd dr), .str x]) := by
  have hlen : ∀ i, i ≤ dr.length → (placesN dr x i).length ≤ 20 * i := by
    intro i
    induction i with
    | zero => intro _; exact Nat.le_refl _
    | succ i ih =>
      intro hi
      rw [placesN_succ, List.length_append]
      have a := ih (by omega)
      have b := rowP_len (x := x) (i := i) (n := (dr.getD i []).length) (s := dr.getD i [])
      have c : (dr.getD i []).length ≤ 20 := by
        rw [getD_at (by omega)]
        exact h2 _ (List.getElem_mem _)
      omega
  obtain ⟨ρ', e, s3, s4, g3, g4, rfl⟩ := loop_rng (t := .nm 3) (body := lb__law_places_2) (n := dr.length) (ρ := [.val (.lst (ssd dr)), .val (.str x), .own (.lst []), .none, .none])
    (fun i ρ => ∃ s3 s4, slP s3 ∧ slP s4 ∧ ρ = [.val (.lst (ssd dr)), .val (.str x), .own (.lst ((placesN dr x i).map pt)), s3, s4]) ⟨.none, .none, rfl, rfl, rfl⟩ fun i ρ hi h => by
      obtain ⟨s3, s4, g3, g4, rfl⟩ := h
      have ed : dr.getD i [] = dr[i] := getD_at hi
      have hsl := h2 _ (List.getElem_mem hi)
      let E (acc : List Pl) (s4 : Sl) : EnvD := [.val (.lst (ssd dr)), .val (.str x), .own (.lst (acc.map pt)), .val (.int (i : Nat)), s4]
      obtain ⟨ρ', e, s4', g4', rfl⟩ := loop_rng (t := .nm 4) (body := lb__law_places_1) (n := (dr[i]).length) (ρ := E (placesN dr x i) s4)
        (fun j ρ => ∃ s4', slP s4' ∧ ρ = E (placesN dr x i ++ rowP x i dr[i] j) s4') ⟨s4, g4, by show E _ _ = E (placesN dr x i ++ []) _; rw [List.append_nil]⟩ fun j ρ hj h => by
          obtain ⟨s4', g4', rfl⟩ := h
          let acc := placesN dr x i ++ rowP x i dr[i] j
          have k1 := strip_at (dr := dr) (i := i) (ρ := E acc (.val (.int (j : Nat)))) hi rfl rfl
          have k2 : ixE gSub2 (ovF (frzF (ixE gSub2 (orefF 0) (frzF (varE 3))))) (frzF (varE 4)) (E acc (.val (.int (j : Nat)))) = some (.val (pd (dr[i])[j]), E acc (.val (.int (j : Nat)))) :=
            r_ix (a := .v (sf dr[i])) (x := sf dr[i]) (y := .int (j : Nat)) (r_ov (r_frz k1 rfl)) rfl rfl (sub_map (f := pd) hj)
          have t : cmpT (bIn2 false) (orefF 1) (ovF (frzF (ixE gSub2 (ovF (frzF (ixE gSub2 (orefF 0) (frzF (varE 3))))) (frzF (varE 4))))) (E acc (.val (.int (j : Nat)))) = some ((dr[i])[j].contains x, E acc (.val (.int (j : Nat)))) :=
            r_cmpT (a := .r 1) rfl (r_ov (r_frz k2 rfl)) rfl rfl (in_strs rfl)
          have eg : (dr[i]).getD j [] = (dr[i])[j] := getD_at hj
          refine ⟨E acc (.val (.int (j : Nat))), E (placesN dr x i ++ rowP x i dr[i] (j + 1)) (.val (.int (j : Nat))), put_nm (by cases s4' <;> first | rfl | cases (show true = false from g4')), ?_, .val (.int (j : Nat)), rfl, rfl⟩
          rw [rowP_succ, eg]
          cases q : (dr[i])[j].contains x with
          | false =>
            rw [q] at t
            rw [if_neg (by simp), List.append_nil]
            exact r_iff t rfl
          | true =>
            rw [q] at t
            rw [if_pos rfl]
            have hl2 : (acc.map pt).length ≤ 10000 := by
              rw [List.length_map, List.length_append]
              have := hlen i (by omega)
              have := rowP_len (x := x) (i := i) (n := j) (s := dr[i])
              omega
            have m := r_drop (r_mut (k := 2) (T := "list") (gm := gAppend) (fl := consF (frzF (tupE (consF (frzF (varE 3)) (consF (frzF (varE 4)) nilF)))) nilF) (ρ := E acc (.val (.int (j : Nat)))) (ρ1 := E acc (.val (.int (j : Nat)))) (ds := [pt (i, j)]) rfl rfl rfl rfl (append_at hl2))
            refine r_ift t (m.trans ?_)
            rw [← List.append_assoc]
            show _ = some (Out.nx (E (acc ++ [(i, j)]) _))
            show some (Out.nx [Sl.val (.lst (ssd dr)), .val (.str x), .own (.lst (acc.map pt ++ [pt (i, j)])), .val (.int (i : Nat)), .val (.int (j : Nat))]) = some (Out.nx [Sl.val (.lst (ssd dr)), .val (.str x), .own (.lst ((acc ++ [(i, j)]).map pt)), .val (.int (i : Nat)), .val (.int (j : Nat))])
            rw [show (acc ++ [(i, j)]).map pt = acc.map pt ++ [pt (i, j)] from List.map_append]
      refine ⟨E (placesN dr x i) s4, E (placesN dr x (i + 1)) s4', put_nm (by cases s3 <;> first | rfl | cases (show true = false from g3)), ?_, .val (.int (i : Nat)), s4', rfl, g4', rfl⟩
      have k1 := strip_at (dr := dr) (i := i) (ρ := E (placesN dr x i) s4) hi rfl rfl
      have kl : opLE (fun ds => (gLen ds).or (gLenS ds)) (aoF (ovF (frzF (ixE gSub2 (orefF 0) (frzF (varE 3))))) anilF) (E (placesN dr x i) s4) = some (.val (.int ((dr[i]).length : Nat)), E (placesN dr x i) s4) := by
        refine r_opL (as := [.v (sf dr[i])]) (ds := [sf dr[i]]) (r_ao (r_ov (r_frz k1 rfl)) rfl) rfl ?_
        simp [gLen, itemsOf]
      rw [placesN_succ, ed]
      exact r_rng (ds := [.int ((dr[i]).length : Nat)]) (r_cons (r_frz kl rfl) rfl) (rng1 (by omega)) e
  have kl : opLE (fun ds => (gLen ds).or (gLenS ds)) (aoF (orefF 0) anilF) [.val (.lst (ssd dr)), .val (.str x), .own (.lst []), .none, .none] = some (.val (.int (dr.length : Nat)), [.val (.lst (ssd dr)), .val (.str x), .own (.lst []), .none, .none]) := by
    refine r_opL (as := [.r 0]) (ds := [.lst (ssd dr)]) rfl rfl ?_
    simp [gLen, itemsOf]
  have run : fb__law_places [.val (.lst (ssd dr)), .val (.str x), .none, .none, .none] = some (.rt (.new (.lst ((places dr x).map pt))) [.val (.lst (ssd dr)), .val (.str x), .none, s3, s4]) :=
    r_seq (f := setF 2 (lstE nilF)) (ρ1 := [.val (.lst (ssd dr)), .val (.str x), .own (.lst []), .none, .none]) rfl (r_seq (r_rng (ds := [.int (dr.length : Nat)]) (r_cons (r_frz kl rfl) rfl) (rng1 (by omega)) e) rfl)
  show (match fb__law_places [.val (.lst (ssd dr)), .val (.str x), .none, .none, .none] with
    | some (.rt r ρ') => (outs [false, false] [.lst (ssd dr), .str x] ρ').map fun ds' => (r, ds')
    | some (.nx ρ') => (outs [false, false] [.lst (ssd dr), .str x] ρ').map fun ds' => (.val .non, ds')
    | _ => none) = _
  rw [run]
  rfl
end G02
/-! P02q -/
namespace G02
open PySem PySem.Spec PyProof.Rows L2 Ev M02 Gx
def near1 (dr : List Strip) (p : Pl) : List Pl := (if 0 < p.2 then [(p.1, p.2 - 1)] else []) ++ (if p.2 + 1 < (dr.getD p.1 []).length then [(p.1, p.2 + 1)] else [])
def near (dr : List Strip) (l : List Pl) : List Pl := l.flatMap (near1 dr)
theorem near1_len {dr : List Strip} {p : Pl} : (near1 dr p).length ≤ 2 := by
  unfold near1
  rw [List.length_append]
  have a : (if 0 < p.2 then [(p.1, p.2 - 1)] else []).length ≤ 1 := by split <;> simp
  have b : (if p.2 + 1 < (dr.getD p.1 []).length then [(p.1, p.2 + 1)] else []).length ≤ 1 := by split <;> simp
  omega
theorem near_turn {dr : List Strip} {P : D} {acc : List Pl} {p : Pl} (hi : p.1 < dr.length) (ha : acc.length ≤ 9000) :
    lb__law_near_1 [.val (.lst (ssd dr)), .val P, .own (.lst (acc.map pt)), .val (.int (p.1 : Nat)), .val (.int (p.2 : Nat))] = some (.nx [.val (.lst (ssd dr)), .val P, .own (.lst ((acc ++ near1 dr p).map pt)), .val (.int (p.1 : Nat)), .val (.int (p.2 : Nat))]) := by
  obtain ⟨i, j⟩ := p
  let E (acc : List Pl) : EnvD := [.val (.lst (ssd dr)), .val P, .own (.lst (acc.map pt)), .val (.int (i : Nat)), .val (.int (j : Nat))]
  have ed : dr.getD i [] = dr[i] := getD_at hi
  have app : ∀ (acc : List Pl) (fl : Fv) (q : Pl), acc.length ≤ 9500 → fl (E acc) = some (pt q, E acc) → dropF (mutE "list" gAppend 2 (consF fl nilF)) (E acc) = some (.nx (E (acc ++ [q]))) := fun acc fl q hl hf => by
    have m := r_drop (r_mut (k := 2) (T := "list") (gm := gAppend) (fl := consF fl nilF) (ρ := E acc) (ρ1 := E acc) (ds := [pt q]) rfl rfl (r_cons hf rfl) rfl (append_at (by rw [List.length_map]; omega)))
    refine m.trans ?_
    show some (Out.nx [Sl.val (.lst (ssd dr)), .val P, .own (.lst (acc.map pt ++ [pt q])), .val (.int (i : Nat)), .val (.int (j : Nat))]) = some (Out.nx [Sl.val (.lst (ssd dr)), .val P, .own (.lst ((acc ++ [q]).map pt)), .val (.int (i : Nat)), .val (.int (j : Nat))])
    rw [show (acc ++ [q]).map pt = acc.map pt ++ [pt q] from List.map_append]
  have left : ifF (cmpT bGt (orefF 4) (ovF (frzF (conE (.int 0))))) (dropF (mutE "list" gAppend 2 (consF (frzF (tupE (consF (frzF (varE 3)) (consF (frzF (op2E Ev.gSub (frzF (varE 4)) (frzF (conE (.int 1))))) nilF)))) nilF))) nextF (E acc) = some (.nx (E (acc ++ if 0 < j then [(i, j - 1)] else []))) := by
    have t : cmpT bGt (orefF 4) (ovF (frzF (conE (.int 0)))) (E acc) = some (decide (((j : Nat) : Int) > 0), E acc) := r_cmpT (x := .int (j : Nat)) (y := .int 0) rfl rfl rfl rfl rfl
    by_cases hj : 0 < j
    · rw [decide_eq_true (by omega)] at t
      rw [if_pos hj]
      refine r_ift t (app acc _ (i, j - 1) (by omega) ?_)
      have k : op2E Ev.gSub (frzF (varE 4)) (frzF (conE (.int 1))) (E acc) = some (.val (.int (((j : Nat) : Int) - 1)), E acc) := r_op2 (g := Ev.gSub) (x := .int (j : Nat)) (y := .int 1) rfl rfl rfl
      have e : ((j : Nat) : Int) - 1 = ((j - 1 : Nat) : Int) := by omega
      rw [e] at k
      have kc : consF (frzF (varE 3)) (consF (frzF (op2E Ev.gSub (frzF (varE 4)) (frzF (conE (.int 1))))) nilF) (E acc) = some ([.int (i : Nat), .int ((j - 1 : Nat) : Int)], E acc) := r_cons rfl (r_cons (r_frz k rfl) rfl)
      refine r_frz (r := .val (pt (i, j - 1))) ?_ rfl
      unfold tupE
      rw [kc]
      rfl
    · rw [decide_eq_false (by omega)] at t
      rw [if_neg hj, List.append_nil]
      exact r_iff t rfl
  have right : ∀ acc : List Pl, acc.length ≤ 9400 → ifF (cmpT bLt (ovF (frzF (op2E gAdd (frzF (varE 4)) (frzF (conE (.int 1)))))) (ovF (frzF (opLE (fun ds => (gLen ds).or (gLenS ds)) (aoF (ovF (frzF (ixE gSub2 (orefF 0) (frzF (varE 3))))) anilF))))) (dropF (mutE "list" gAppend 2 (consF (frzF (tupE (consF (frzF (varE 3)) (consF (frzF (op2E gAdd (frzF (varE 4)) (frzF (conE (.int 1))))) nilF)))) nilF))) nextF (E acc) = some (.nx (E (acc ++ if j + 1 < (dr.getD i []).length then [(i, j + 1)] else []))) := fun acc hl => by
    have k : op2E gAdd (frzF (varE 4)) (frzF (conE (.int 1))) (E acc) = some (.val (.int (((j : Nat) : Int) + 1)), E acc) := r_op2 (g := gAdd) (x := .int (j : Nat)) (y := .int 1) rfl rfl rfl
    have k1 := strip_at (dr := dr) (i := i) (ρ := E acc) hi rfl rfl
    have kl : opLE (fun ds => (gLen ds).or (gLenS ds)) (aoF (ovF (frzF (ixE gSub2 (orefF 0) (frzF (varE 3))))) anilF) (E acc) = some (.val (.int ((dr[i]).length : Nat)), E acc) := by
      refine r_opL (as := [.v (sf dr[i])]) (ds := [sf dr[i]]) (r_ao (r_ov (r_frz k1 rfl)) rfl) rfl ?_
      simp [gLen, itemsOf]
    have t : cmpT bLt (ovF (frzF (op2E gAdd (frzF (varE 4)) (frzF (conE (.int 1)))))) (ovF (frzF (opLE (fun ds => (gLen ds).or (gLenS ds)) (aoF (ovF (frzF (ixE gSub2 (orefF 0) (frzF (varE 3))))) anilF)))) (E acc) = some (decide (((j : Nat) : Int) + 1 < ((dr[i]).length : Nat)), E acc) := r_cmpT (x := .int (((j : Nat) : Int) + 1)) (y := .int ((dr[i]).length : Nat)) (r_ov (r_frz k rfl)) (r_ov (r_frz kl rfl)) rfl rfl rfl
    rw [ed]
    by_cases hj : j + 1 < (dr[i]).length
    · rw [decide_eq_true (by omega)] at t
      rw [if_pos hj]
      refine r_ift t (app acc _ (i, j + 1) (by omega) ?_)
      have kc : consF (frzF (varE 3)) (consF (frzF (op2E gAdd (frzF (varE 4)) (frzF (conE (.int 1))))) nilF) (E acc) = some ([.int (i : Nat), .int (((j : Nat) : Int) + 1)], E acc) := r_cons rfl (r_cons (r_frz k rfl) rfl)
      refine r_frz (r := .val (pt (i, j + 1))) ?_ rfl
      unfold tupE
      rw [kc]
      rfl
    · rw [decide_eq_false (by omega)] at t
      rw [if_neg hj, List.append_nil]
      exact r_iff t rfl
  have c := r_seq left (right _ (by rw [List.length_append]; have : (if 0 < j then [(i, j - 1)] else []).length ≤ 1 := (by split <;> simp); omega))
  rw [List.append_assoc] at c
  exact c
theorem near_spec {dr : List Strip} {l : List Pl} (hv : ∀ p, p ∈ l → p.1 < dr.length) (hl : l.length ≤ 4000) : fn__law_near [.lst (ssd dr), .lst (l.map pt)] = some (.new (.lst ((near dr l).map pt)), [.lst (ssd dr), .lst (l.map pt)]) := by
  obtain ⟨ρ', e, s3, s4, g3, g4, _, rfl⟩ := loop_nx (t := .tp [3, 4]) (body := lb__law_near_1) (f := pt)
    (fun q ρ => ∃ s3 s4, slP s3 ∧ slP s4 ∧ (near dr q).length ≤ 2 * q.length ∧ ρ = [.val (.lst (ssd dr)), .val (.lst (l.map pt)), .own (.lst ((near dr q).map pt)), s3, s4]) l [] [.val (.lst (ssd dr)), .val (.lst (l.map pt)), .own (.lst []), .none, .none] ⟨.none, .none, rfl, rfl, Nat.le_refl _, rfl⟩
    fun q p post ρ hs h => by
      obtain ⟨s3, s4, g3, g4, hq, rfl⟩ := h
      rw [List.nil_append] at hs
      have hlen : q.length + (post.length + 1) = l.length := by rw [hs]; simp
      have en : near dr (q ++ [p]) = near dr q ++ near1 dr p := by unfold near; rw [List.flatMap_append, List.flatMap_cons, List.flatMap_nil, List.append_nil]
      have pt' : putT (.tp [3, 4]) (pt p) [.val (.lst (ssd dr)), .val (.lst (l.map pt)), .own (.lst ((near dr q).map pt)), s3, s4] = some [.val (.lst (ssd dr)), .val (.lst (l.map pt)), .own (.lst ((near dr q).map pt)), .val (.int (p.1 : Nat)), .val (.int (p.2 : Nat))] := by
        cases s3 <;> cases s4 <;> first | rfl | cases (show true = false from g3) | cases (show true = false from g4)
      refine ⟨_, _, pt', near_turn (hv p (by rw [hs]; simp)) (by omega), .val (.int (p.1 : Nat)), .val (.int (p.2 : Nat)), rfl, rfl, ?_, by rw [en]⟩
      rw [en, List.length_append, List.length_append, List.length_singleton]
      have := near1_len (dr := dr) (p := p)
      omega
  have run : fb__law_near [.val (.lst (ssd dr)), .val (.lst (l.map pt)), .none, .none, .none] = some (.rt (.new (.lst ((near dr l).map pt))) [.val (.lst (ssd dr)), .val (.lst (l.map pt)), .none, s3, s4]) :=
    r_seq (f := setF 2 (lstE nilF)) (ρ1 := [.val (.lst (ssd dr)), .val (.lst (l.map pt)), .own (.lst []), .none, .none]) rfl (r_seq (r_for (d := .lst (l.map pt)) rfl rfl e) rfl)
  show (match fb__law_near [.val (.lst (ssd dr)), .val (.lst (l.map pt)), .none, .none, .none] with
    | some (.rt r ρ') => (outs [false, false] [.lst (ssd dr), .lst (l.map pt)] ρ').map fun ds' => (r, ds')
    | some (.nx ρ') => (outs [false, false] [.lst (ssd dr), .lst (l.map pt)] ρ').map fun ds' => (.val .non, ds')
    | _ => none) = _
  rw [run]
  rfl
end G02
/-! P02r -/
namespace G02
open PySem PySem.Spec PyProof.Rows L2 Ev M02 Gx
section
variable {cc : Fb} {ce : Fv} {E : Sl → EnvD} {b : Pl → Bool} (hp : ∀ d, putT (.nm 6) d (E .none) = some (E (.val d))) (hc : ∀ p, cc (E (.val (pt p))) = some (b p, E (.val (pt p)))) (he : ∀ p, ce (E (.val (pt p))) = some (pt p, E (.val (pt p)))) (hn : ∀ d, noCell (E (.val d)) [6] = true) (hz : ∀ d, clr (E (.val d)) [6] = E .none)
include hp hc he hn hz
theorem lc_filter : ∀ (L : List Pl) (acc : List D), acc.length + L.length ≤ 10000 → lcLoop [6] (.nm 6) cc ce (L.map pt) acc (E .none) = some (acc ++ (L.filter b).map pt, E .none)
  | [], acc, _ => by show some (acc, _) = some (acc ++ [], _); rw [List.append_nil]
  | p :: L, acc, h => by
    rw [List.length_cons] at h
    rw [List.map_cons, lcLoop, hp]
    simp only [hc]
    cases q : b p with
    | false =>
      simp only [hn, hz, if_true]
      rw [lc_filter L acc (by omega), List.filter_cons_of_neg (by rw [q]; simp)]
    | true =>
      simp only [he, hn, hz, lt_dec (n := acc.length) (by omega), Bool.and_self, if_true]
      rw [lc_filter L (acc ++ [pt p]) (by rw [List.length_append, List.length_singleton]; omega), List.filter_cons_of_pos q, List.map_cons, List.append_assoc]
      rfl
theorem lc_run {f : Fv} {ρ : EnvD} {L : List Pl} (hf : f ρ = some (.lst (L.map pt), E .none)) (hL : L.length ≤ 9000) (h1 : noCell (E .none) [6] = true) (h2 : clr (E .none) [6] = E .none) (h3 : back (E .none) (E .none) [6] = E .none) : lcE [6] (.nm 6) f cc ce ρ = some (.new (.lst ((L.filter b).map pt)), E .none) := by
  unfold lcE
  rw [hf]
  show lcRun [6] (.nm 6) cc ce (L.map pt) (E .none) = _
  unfold lcRun
  rw [if_pos h1, h2, lc_filter hp hc he hn hz L [] (by simp; omega)]
  show some (Re.new (.lst ([] ++ (L.filter b).map pt)), back (E .none) (clr (E .none) [6]) [6]) = _
  rw [h2, h3]
  rfl
end
theorem pick {ρ : EnvD} {k : Nat} {out : List Pl} {a b : Str} (h : ρ[k]? = some (.own (.lst (out.map pt)))) : ixE gSub2 (ovF (frzF (lstE (consF (frzF (conE (.str a))) (consF (frzF (conE (.str b))) nilF))))) (frzF (opLE gInt (aoF (ovF (frzF (cmpE (bEq true) (orefF k) (ovF (frzF (lstE nilF)))))) anilF))) ρ = some (.val (.str (if out == [] then a else b)), ρ) := by
  have k1 : cmpE (bEq true) (orefF k) (ovF (frzF (lstE nilF))) ρ = some (.val (.bl (!(out == []))), ρ) := by
    refine r_cmpE (a := .r k) (b := .v (.lst [])) (x := .lst (out.map pt)) (y := .lst (([] : List Pl).map pt)) (ρ1 := ρ) ?_ rfl ?_ rfl (eq_pts (neg := true))
    · unfold orefF; rw [h]
    · show lookOf ρ k = _
      unfold lookOf
      rw [h]
  cases q : (out == []) with
  | true =>
    rw [q] at k1
    have k2 : opLE gInt (aoF (ovF (frzF (cmpE (bEq true) (orefF k) (ovF (frzF (lstE nilF)))))) anilF) ρ = some (.val (.int 0), ρ) := r_opL (as := [.v (.bl false)]) (ds := [.bl false]) (r_ao (r_ov (r_frz k1 rfl)) rfl) rfl rfl
    exact r_ix (a := .v (.lst [.str a, .str b])) (x := .lst [.str a, .str b]) (y := .int 0) rfl (r_frz k2 rfl) rfl rfl
  | false =>
    rw [q] at k1
    have k2 : opLE gInt (aoF (ovF (frzF (cmpE (bEq true) (orefF k) (ovF (frzF (lstE nilF)))))) anilF) ρ = some (.val (.int 1), ρ) := r_opL (as := [.v (.bl true)]) (ds := [.bl true]) (r_ao (r_ov (r_frz k1 rfl)) rfl) rfl rfl
    exact r_ix (a := .v (.lst [.str a, .str b])) (x := .lst [.str a, .str b]) (y := .int 1) rfl (r_frz k2 rfl) rfl rfl
def bothP (m t : List Pl) : List Pl := m.filter fun p => t.contains p
def outP (n t : List Pl) : List Pl := n.filter fun p => !t.contains p
def lawWay (dr : List Strip) (m t : List Pl) : Nat :=
  if m == t then 3 else if bothP m t == m then (if outP (near dr m) t == [] then 5 else 4) else if bothP m t == t then (if outP (near dr t) m == [] then 7 else 6) else if !(bothP m t == []) then 2 else if bothP (near dr m) t == [] then 0 else 1
/-- what is asked of the places -/
structure Places (dr : List Strip) (m : List Pl) : Prop where
  ok : ∀ p, p ∈ m → p.1 < dr.length
  few : m.length ≤ 2000
theorem near_len {dr : List Strip} : ∀ l : List Pl, (near dr l).length ≤ 2 * l.length
  | [] => Nat.le_refl _
  | p :: l => by
    show (near1 dr p ++ near dr l).length ≤ _
    rw [List.length_append, List.length_cons]
    have := near1_len (dr := dr) (p := p)
    have := near_len (dr := dr) l
    omega
theorem lawSeen_spec {dr : List Strip} {x y : Str} (h1 : dr.length ≤ 100) (h2 : ∀ s, s ∈ dr → s.length ≤ 20) (hm : Places dr (places dr x)) (ht : Places dr (places dr y)) :
    fn__law_seen [.lst (ssd dr), .str x, .str y] = some (.val (wd (lawWay dr (places dr x) (places dr y))), [.lst (ssd dr), .str x, .str y]) := by
  generalize em : places dr x = m at hm
  generalize et : places dr y = t at ht
  let B : List Sl := [.val (.lst (ssd dr)), .val (.str x), .val (.str y)]
  have pm := places_spec (x := x) h1 h2
  have pt' := places_spec (x := y) h1 h2
  rw [em] at pm
  rw [et] at pt'
  have c1 : setF 3 (callE [false, false] [] fn__law_places (avF (frzF (varE 0)) (avF (frzF (varE 1)) anilF))) [.val (.lst (ssd dr)), .val (.str x), .val (.str y), .none, .none, .none, .none, .none, .none] = some (.nx [.val (.lst (ssd dr)), .val (.str x), .val (.str y), .own (.lst (m.map pt)), .none, .none, .none, .none, .none]) :=
    (r_set (i := 3) (r_callV (ds := [.lst (ssd dr), .str x]) rfl rfl pm rfl) rfl).trans rfl
  have c2 : setF 4 (callE [false, false] [] fn__law_places (avF (frzF (varE 0)) (avF (frzF (varE 2)) anilF))) [.val (.lst (ssd dr)), .val (.str x), .val (.str y), .own (.lst (m.map pt)), .none, .none, .none, .none, .none] = some (.nx [.val (.lst (ssd dr)), .val (.str x), .val (.str y), .own (.lst (m.map pt)), .own (.lst (t.map pt)), .none, .none, .none, .none]) :=
    (r_set (i := 4) (r_callV (ds := [.lst (ssd dr), .str y]) rfl rfl pt' rfl) rfl).trans rfl
  have k3 := lc_run (cc := cc__law_seen_7) (ce := ce__law_seen_8) (f := frzF (varE 3)) (ρ := [.val (.lst (ssd dr)), .val (.str x), .val (.str y), .own (.lst (m.map pt)), .own (.lst (t.map pt)), .none, .none, .none, .none]) (L := m) (b := fun p => t.contains p)
    (E := fun s => [.val (.lst (ssd dr)), .val (.str x), .val (.str y), .val (.lst (m.map pt)), .own (.lst (t.map pt)), .none, s, .none, .none]) (fun d => rfl) (fun p => r_cmpT (a := .r 6) (b := .r 4) rfl rfl rfl rfl (in_pts (neg := false))) (fun p => rfl) (fun d => rfl) (fun d => rfl) rfl (by have := hm.few; omega) rfl rfl rfl
  let E5 (s4 s7 s8 : Sl) : EnvD := [.val (.lst (ssd dr)), .val (.str x), .val (.str y), .val (.lst (m.map pt)), s4, .own (.lst ((bothP m t).map pt)), .none, s7, s8]
  have c3 : setF 5 (lcE [6] (.nm 6) (frzF (varE 3)) cc__law_seen_7 ce__law_seen_8) [.val (.lst (ssd dr)), .val (.str x), .val (.str y), .own (.lst (m.map pt)), .own (.lst (t.map pt)), .none, .none, .none, .none] = some (.nx (E5 (.own (.lst (t.map pt))) .none .none)) :=
    (r_set (i := 5) k3 rfl).trans rfl
  have t1 : cmpT (bEq false) (orefF 3) (orefF 4) (E5 (.own (.lst (t.map pt))) .none .none) = some (m == t, E5 (.own (.lst (t.map pt))) .none .none) := r_cmpT (a := .r 3) (b := .r 4) rfl rfl rfl rfl (eq_pts (neg := false))
  have t2 : cmpT (bEq false) (orefF 5) (orefF 3) (E5 (.own (.lst (t.map pt))) .none .none) = some (bothP m t == m, E5 (.own (.lst (t.map pt))) .none .none) := r_cmpT (a := .r 5) (b := .r 3) rfl rfl rfl rfl (eq_pts (neg := false))
  have t3 : cmpT (bEq false) (orefF 5) (orefF 4) (E5 (.own (.lst (t.map pt))) .none .none) = some (bothP m t == t, E5 (.own (.lst (t.map pt))) .none .none) := r_cmpT (a := .r 5) (b := .r 4) rfl rfl rfl rfl (eq_pts (neg := false))
  have t4 : cmpT (bEq true) (orefF 5) (ovF (frzF (lstE nilF))) (E5 (.own (.lst (t.map pt))) .none .none) = some (!(bothP m t == []), E5 (.own (.lst (t.map pt))) .none .none) := r_cmpT (a := .r 5) (b := .v (.lst [])) (y := .lst (([] : List Pl).map pt)) rfl rfl rfl rfl (eq_pts (neg := true))
  have nm := near_spec (dr := dr) (l := m) hm.ok (by have := hm.few; omega)
  have nt := near_spec (dr := dr) (l := t) ht.ok (by have := ht.few; omega)
  have lm : (near dr m).length ≤ 9000 := by have := near_len (dr := dr) m; have := hm.few; omega
  have lt : (near dr t).length ≤ 9000 := by have := near_len (dr := dr) t; have := ht.few; omega
  have run : ∃ ρ', fb__law_seen [.val (.lst (ssd dr)), .val (.str x), .val (.str y), .none, .none, .none, .none, .none, .none] = some (.rt (.val (wd (lawWay dr m t))) (.val (.lst (ssd dr)) :: .val (.str x) :: .val (.str y) :: ρ')) := by
    unfold lawWay
    cases q1 : m == t with
    | true => rw [q1] at t1; exact ⟨_, r_seq c1 (r_seq c2 (r_seq c3 (r_seqR (r_ift t1 rfl))))⟩
    | false =>
      rw [q1] at t1
      cases q2 : bothP m t == m with
      | true =>
        rw [q2] at t2
        have k7 := lc_run (cc := cc__law_seen_5) (ce := ce__law_seen_6) (f := frzF (callE [false, false] [] fn__law_near (avF (frzF (varE 0)) (avF (frzF (varE 3)) anilF)))) (ρ := E5 (.own (.lst (t.map pt))) .none .none) (L := near dr m) (b := fun p => !t.contains p)
          (E := fun s => [.val (.lst (ssd dr)), .val (.str x), .val (.str y), .val (.lst (m.map pt)), .own (.lst (t.map pt)), .own (.lst ((bothP m t).map pt)), s, .none, .none]) (fun d => rfl) (fun p => r_cmpT (a := .r 6) (b := .r 4) rfl rfl rfl rfl (in_pts (neg := true))) (fun p => rfl) (fun d => rfl) (fun d => rfl) (r_frz (r_callV (ds := [.lst (ssd dr), .lst (m.map pt)]) rfl rfl nm rfl) rfl) lm rfl rfl rfl
        have c7 := (r_set (i := 7) k7 rfl)
        have pk := pick (ρ := E5 (.own (.lst (t.map pt))) (.own (.lst ((outP (near dr m) t).map pt))) .none) (k := 7) (out := outP (near dr m) t) (a := Str.ofString "incore") (b := Str.ofString "inrim") rfl
        refine ⟨(E5 (.own (.lst (t.map pt))) (.own (.lst ((outP (near dr m) t).map pt))) .none).drop 3, r_seq c1 (r_seq c2 (r_seq c3 (r_seq (r_iff t1 rfl) (r_seqR (r_ift t2 (r_seq (c7.trans rfl) ((r_ret pk).trans ?_)))))))⟩
        cases outP (near dr m) t == [] <;> rfl
      | false =>
        rw [q2] at t2
        cases q3 : bothP m t == t with
        | true =>
          rw [q3] at t3
          have k7 := lc_run (cc := cc__law_seen_3) (ce := ce__law_seen_4) (f := frzF (callE [false, false] [] fn__law_near (avF (frzF (varE 0)) (avF (frzF (varE 4)) anilF)))) (ρ := E5 (.own (.lst (t.map pt))) .none .none) (L := near dr t) (b := fun p => !m.contains p)
            (E := fun s => [.val (.lst (ssd dr)), .val (.str x), .val (.str y), .val (.lst (m.map pt)), .val (.lst (t.map pt)), .own (.lst ((bothP m t).map pt)), s, .none, .none]) (fun d => rfl) (fun p => r_cmpT (a := .r 6) (b := .r 3) rfl rfl rfl rfl (in_pts (neg := true))) (fun p => rfl) (fun d => rfl) (fun d => rfl) (r_frz (r_callV (ds := [.lst (ssd dr), .lst (t.map pt)]) rfl rfl nt rfl) rfl) lt rfl rfl rfl
          have c7 := (r_set (i := 7) k7 rfl)
          have pk := pick (ρ := E5 (.val (.lst (t.map pt))) (.own (.lst ((outP (near dr t) m).map pt))) .none) (k := 7) (out := outP (near dr t) m) (a := Str.ofString "hascore") (b := Str.ofString "hasrim") rfl
          refine ⟨(E5 (.val (.lst (t.map pt))) (.own (.lst ((outP (near dr t) m).map pt))) .none).drop 3, r_seq c1 (r_seq c2 (r_seq c3 (r_seq (r_iff t1 rfl) (r_seq (r_iff t2 rfl) (r_seqR (r_ift t3 (r_seq (c7.trans rfl) ((r_ret pk).trans ?_))))))))⟩
          cases outP (near dr t) m == [] <;> rfl
        | false =>
          rw [q3] at t3
          cases q4 : bothP m t == [] with
          | false =>
            rw [q4] at t4
            exact ⟨_, r_seq c1 (r_seq c2 (r_seq c3 (r_seq (r_iff t1 rfl) (r_seq (r_iff t2 rfl) (r_seq (r_iff t3 rfl) (r_seqR (r_ift t4 rfl)))))))⟩
          | true =>
            rw [q4] at t4
            have k8 := lc_run (cc := cc__law_seen_1) (ce := ce__law_seen_2) (f := frzF (callE [false, false] [] fn__law_near (avF (frzF (varE 0)) (avF (frzF (varE 3)) anilF)))) (ρ := E5 (.own (.lst (t.map pt))) .none .none) (L := near dr m) (b := fun p => t.contains p)
              (E := fun s => [.val (.lst (ssd dr)), .val (.str x), .val (.str y), .val (.lst (m.map pt)), .own (.lst (t.map pt)), .own (.lst ((bothP m t).map pt)), s, .none, .none]) (fun d => rfl) (fun p => r_cmpT (a := .r 6) (b := .r 4) rfl rfl rfl rfl (in_pts (neg := false))) (fun p => rfl) (fun d => rfl) (fun d => rfl) (r_frz (r_callV (ds := [.lst (ssd dr), .lst (m.map pt)]) rfl rfl nm rfl) rfl) lm rfl rfl rfl
            have c8 := (r_set (i := 8) k8 rfl)
            have pk := pick (ρ := E5 (.own (.lst (t.map pt))) .none (.own (.lst ((bothP (near dr m) t).map pt)))) (k := 8) (out := bothP (near dr m) t) (a := Str.ofString "apart") (b := Str.ofString "meets") rfl
            refine ⟨(E5 (.own (.lst (t.map pt))) .none (.own (.lst ((bothP (near dr m) t).map pt)))).drop 3, r_seq c1 (r_seq c2 (r_seq c3 (r_seq (r_iff t1 rfl) (r_seq (r_iff t2 rfl) (r_seq (r_iff t3 rfl) (r_seq (r_iff t4 rfl) (r_seq (c8.trans rfl) ((r_ret pk).trans ?_))))))))⟩
            cases bothP (near dr m) t == [] <;> rfl
  obtain ⟨ρ', run⟩ := run
  show (match fb__law_seen [.val (.lst (ssd dr)), .val (.str x), .val (.str y), .none, .none, .none, .none, .none, .none] with
    | some (.rt r ρ') => (outs [false, false, false] [.lst (ssd dr), .str x, .str y] ρ').map fun ds' => (r, ds')
    | some (.nx ρ') => (outs [false, false, false] [.lst (ssd dr), .str x, .str y] ρ').map fun ds' => (.val .non, ds')
    | _ => none) = _
  rw [run]
  rfl
end G02
/-! M03 -/
namespace M02
open PySem G02
theorem pairs_iff : ∀ {s : Strip} {P Q : List Str}, (P, Q) ∈ pairs s ↔ ∃ j k, j < s.length ∧ k < s.length ∧ (k = j + 1 ∨ j = k + 1) ∧ s.getD j [] = P ∧ s.getD k [] = Q
  | [], P, Q => by
    constructor
    · intro h; cases h
    · rintro ⟨j, k, h, _⟩; cases h
  | [a], P, Q => by
    constructor
    · intro h; cases h
    · rintro ⟨j, k, h1, h2, h3, _⟩
      simp only [List.length_cons, List.length_nil] at h1 h2
      omega
  | a :: b :: r, P, Q => by
    show (P, Q) ∈ (a, b) :: (b, a) :: pairs (b :: r) ↔ _
    rw [List.mem_cons, List.mem_cons, pairs_iff]
    constructor
    · rintro (h | h | ⟨j, k, h1, h2, h3, h4, h5⟩)
      · cases h; exact ⟨0, 1, by simp, by simp, .inl rfl, rfl, rfl⟩
      · cases h; exact ⟨1, 0, by simp, by simp, .inr rfl, rfl, rfl⟩
      · exact ⟨j + 1, k + 1, by simpa using h1, by simpa using h2, by omega, h4, h5⟩
    · rintro ⟨j, k, h1, h2, h3, h4, h5⟩
      match j, k with
      | 0, 0 => omega
      | 0, 1 => left; rw [← h4, ← h5]; rfl
      | 1, 0 => right; left; rw [← h4, ← h5]; rfl
      | 0, k + 2 => omega
      | j + 2, 0 => omega
      | j + 1, k + 1 => exact .inr (.inr ⟨j, k, by simpa using h1, by simpa using h2, by omega, h4, h5⟩)
def plot (dr : List Strip) (p : Pl) : List Str := (dr.getD p.1 []).getD p.2 []
def InD (dr : List Strip) (p : Pl) : Prop := p.1 < dr.length ∧ p.2 < (dr.getD p.1 []).length
def allP (dr : List Strip) : List Pl := (List.range dr.length).flatMap fun i => (List.range (dr.getD i []).length).map fun j => (i, j)
section
variable {dr : List Strip} {x y : Str}
theorem mem_all {p : Pl} : p ∈ allP dr ↔ InD dr p := by
  unfold allP InD
  rw [List.mem_flatMap]
  constructor
  · rintro ⟨i, h1, h2⟩
    obtain ⟨j, h3, rfl⟩ := List.mem_map.mp h2
    exact ⟨List.mem_range.mp h1, List.mem_range.mp h3⟩
  · rintro ⟨h1, h2⟩
    exact ⟨p.1, List.mem_range.mpr h1, List.mem_map.mpr ⟨p.2, List.mem_range.mpr h2, rfl⟩⟩
theorem places_eq : places dr x = (allP dr).filter fun p => (plot dr p).contains x := by
  unfold places placesN allP
  rw [List.filter_flatMap]
  congr 1
  funext i
  unfold rowP
  rw [List.filter_map]
  rfl
theorem mem_places {p : Pl} : p ∈ places dr x ↔ InD dr p ∧ x ∈ plot dr p := by
  rw [places_eq, List.mem_filter, mem_all, List.contains_iff_mem]
theorem plot_mem {p : Pl} (h : InD dr p) : plot dr p ∈ plots dr := by
  obtain ⟨h1, h2⟩ := h
  unfold plot
  rw [getD_at h2]
  refine List.mem_flatten.mpr ⟨dr.getD p.1 [], ?_, List.getElem_mem h2⟩
  rw [getD_at h1]
  exact List.getElem_mem h1
theorem plot_of {P : List Str} (h : P ∈ plots dr) : ∃ p, InD dr p ∧ plot dr p = P := by
  obtain ⟨s, h1, h2⟩ := List.mem_flatten.mp h
  obtain ⟨i, hi, rfl⟩ := List.getElem_of_mem h1
  obtain ⟨j, hj, rfl⟩ := List.getElem_of_mem h2
  have e : dr.getD i [] = dr[i] := getD_at hi
  refine ⟨(i, j), ⟨hi, by show j < (dr.getD i []).length; rw [e]; exact hj⟩, ?_⟩
  show (dr.getD i []).getD j [] = _
  rw [e]
  exact getD_at hj
theorem near1_iff {p q : Pl} (hp : InD dr p) : q ∈ near1 dr p ↔ InD dr q ∧ q.1 = p.1 ∧ (q.2 = p.2 + 1 ∨ p.2 = q.2 + 1) := by
  obtain ⟨i, j⟩ := p
  obtain ⟨k, l⟩ := q
  obtain ⟨h1, h2⟩ := hp
  unfold near1 InD
  rw [List.mem_append]
  simp only at h1 h2 ⊢
  constructor
  · rintro (h | h)
    · split at h
      · rw [List.mem_singleton] at h
        cases h
        exact ⟨⟨h1, by omega⟩, rfl, by omega⟩
      · cases h
    · split at h
      · rename_i h3
        rw [List.mem_singleton] at h
        cases h
        exact ⟨⟨h1, h3⟩, rfl, by omega⟩
      · cases h
  · rintro ⟨⟨h3, h4⟩, rfl, h5⟩
    rcases h5 with h5 | h5
    · right
      subst h5
      rw [if_pos h4]
      exact List.mem_singleton.mpr rfl
    · left
      rw [if_pos (by omega)]
      exact List.mem_singleton.mpr (by rw [h5]; rfl)
theorem nbs_iff {P Q : List Str} : (P, Q) ∈ nbs dr ↔ ∃ p q, InD dr p ∧ q ∈ near1 dr p ∧ plot dr p = P ∧ plot dr q = Q := by
  unfold nbs
  rw [List.mem_flatMap]
  constructor
  · rintro ⟨s, h1, h2⟩
    obtain ⟨i, hi, rfl⟩ := List.getElem_of_mem h1
    obtain ⟨j, k, a, b, c, d, e⟩ := pairs_iff.mp h2
    have ed : dr.getD i [] = dr[i] := getD_at hi
    have hp : InD dr (i, j) := ⟨hi, by show j < (dr.getD i []).length; rw [ed]; exact a⟩
    refine ⟨(i, j), (i, k), hp, (near1_iff hp).mpr ⟨⟨hi, by show k < (dr.getD i []).length; rw [ed]; exact b⟩, rfl, c⟩, ?_, ?_⟩
    · show (dr.getD i []).getD j [] = _; rw [ed]; exact d
    · show (dr.getD i []).getD k [] = _; rw [ed]; exact e
  · rintro ⟨⟨i, j⟩, ⟨i2, k⟩, hp, hq, d, e⟩
    obtain ⟨h3, h4, h5⟩ := (near1_iff hp).mp hq
    have h4 : i2 = i := h4
    subst h4
    have ed : dr.getD i2 [] = dr[i2]'hp.1 := getD_at hp.1
    refine ⟨dr[i2]'hp.1, List.getElem_mem _, pairs_iff.mpr ⟨j, k, ?_, ?_, h5, ?_, ?_⟩⟩
    · rw [← ed]; exact hp.2
    · rw [← ed]; exact h3.2
    · rw [← ed]; exact d
    · rw [← ed]; exact e
theorem A_pl : hasA dr x y = true ↔ ∃ p, p ∈ places dr x ∧ p ∉ places dr y := by
  rw [A_iff]
  constructor
  · rintro ⟨P, h1, h2, h3⟩
    obtain ⟨p, hp, rfl⟩ := plot_of h1
    exact ⟨p, mem_places.mpr ⟨hp, h2⟩, fun z => h3 (mem_places.mp z).2⟩
  · rintro ⟨p, h1, h2⟩
    obtain ⟨a, b⟩ := mem_places.mp h1
    exact ⟨_, plot_mem a, b, fun z => h2 (mem_places.mpr ⟨a, z⟩)⟩
theorem C_pl : hasC dr x y = true ↔ ∃ p, p ∈ places dr x ∧ p ∈ places dr y := by
  rw [C_iff]
  constructor
  · rintro ⟨P, h1, h2, h3⟩
    obtain ⟨p, hp, rfl⟩ := plot_of h1
    exact ⟨p, mem_places.mpr ⟨hp, h2⟩, mem_places.mpr ⟨hp, h3⟩⟩
  · rintro ⟨p, h1, h2⟩
    obtain ⟨a, b⟩ := mem_places.mp h1
    exact ⟨_, plot_mem a, b, (mem_places.mp h2).2⟩
theorem near_mem {q : Pl} {l : List Pl} : q ∈ near dr l ↔ ∃ p, p ∈ l ∧ q ∈ near1 dr p := by
  unfold near
  rw [List.mem_flatMap]
theorem E_pl : hasE dr x y = true ↔ ∃ q, q ∈ near dr (places dr x) ∧ q ∉ places dr y := by
  rw [E_iff]
  constructor
  · rintro ⟨P, Q, h1, h2, h3⟩
    obtain ⟨p, q, hp, hq, rfl, rfl⟩ := nbs_iff.mp h1
    exact ⟨q, near_mem.mpr ⟨p, mem_places.mpr ⟨hp, h2⟩, hq⟩, fun z => h3 (mem_places.mp z).2⟩
  · rintro ⟨q, h1, h2⟩
    obtain ⟨p, h3, h4⟩ := near_mem.mp h1
    obtain ⟨a, b⟩ := mem_places.mp h3
    exact ⟨_, _, nbs_iff.mpr ⟨p, q, a, h4, rfl, rfl⟩, b, fun z => h2 (mem_places.mpr ⟨((near1_iff a).mp h4).1, z⟩)⟩
theorem F_pl : hasF dr x y = true ↔ ∃ q, q ∈ near dr (places dr x) ∧ q ∈ places dr y := by
  rw [F_iff]
  constructor
  · rintro ⟨P, Q, h1, h2, h3⟩
    obtain ⟨p, q, hp, hq, rfl, rfl⟩ := nbs_iff.mp h1
    exact ⟨q, near_mem.mpr ⟨p, mem_places.mpr ⟨hp, h2⟩, hq⟩, mem_places.mpr ⟨((near1_iff hp).mp hq).1, h3⟩⟩
  · rintro ⟨q, h1, h2⟩
    obtain ⟨p, h3, h4⟩ := near_mem.mp h1
    obtain ⟨a, b⟩ := mem_places.mp h3
    exact ⟨_, _, nbs_iff.mpr ⟨p, q, a, h4, rfl, rfl⟩, b, (mem_places.mp h2).2⟩
theorem neg_iff {b : Bool} {p : Prop} (h : b = true ↔ p) : b = false ↔ ¬ p := by
  rw [← h]
  cases b <;> simp
theorem out_iff {n t : List Pl} : (outP n t == []) = true ↔ ¬ ∃ q, q ∈ n ∧ q ∉ t := by
  rw [beq_iff_eq]
  unfold outP
  rw [List.filter_eq_nil_iff]
  simp
theorem both_nil {m t : List Pl} : (bothP m t == []) = true ↔ ¬ ∃ q, q ∈ m ∧ q ∈ t := by
  rw [beq_iff_eq]
  unfold bothP
  rw [List.filter_eq_nil_iff]
  simp
theorem both_self {m t : List Pl} : (bothP m t == m) = true ↔ ¬ ∃ q, q ∈ m ∧ q ∉ t := by
  rw [beq_iff_eq]
  unfold bothP
  rw [List.filter_eq_self]
  simp
theorem both_other : (bothP (places dr x) (places dr y) == places dr y) = true ↔ ¬ ∃ q, q ∈ places dr y ∧ q ∉ places dr x := by
  rw [beq_iff_eq]
  constructor
  · rintro h ⟨q, h1, h2⟩
    rw [← h] at h1
    exact h2 (List.mem_filter.mp h1).1
  · intro h
    have e : ∀ p, p ∈ allP dr → ((places dr y).contains p && (plot dr p).contains x) = (plot dr p).contains y := fun p hp => by
      rw [Bool.eq_iff_iff, Bool.and_eq_true, List.contains_iff_mem, List.contains_iff_mem, List.contains_iff_mem, mem_places]
      constructor
      · exact fun z => z.1.2
      · intro z
        refine ⟨⟨mem_all.mp hp, z⟩, ?_⟩
        have := Classical.byContradiction fun k => h ⟨p, mem_places.mpr ⟨mem_all.mp hp, z⟩, fun w => k w⟩
        exact (mem_places.mp this).2
    unfold bothP
    rw [places_eq (x := x), List.filter_filter]
    conv => rhs; rw [places_eq (x := y)]
    exact List.filter_congr e
theorem same_iff : (places dr x == places dr y) = true ↔ (¬ ∃ q, q ∈ places dr x ∧ q ∉ places dr y) ∧ ¬ ∃ q, q ∈ places dr y ∧ q ∉ places dr x := by
  rw [beq_iff_eq]
  constructor
  · intro h
    rw [h]
    exact ⟨fun ⟨q, a, b⟩ => b a, fun ⟨q, a, b⟩ => b a⟩
  · rintro ⟨h1, h2⟩
    rw [places_eq, places_eq]
    refine List.filter_congr fun p hp => ?_
    rw [Bool.eq_iff_iff, List.contains_iff_mem, List.contains_iff_mem]
    have hp' := mem_all.mp hp
    constructor
    · intro z
      have := Classical.byContradiction fun k => h1 ⟨p, mem_places.mpr ⟨hp', z⟩, fun w => k w⟩
      exact (mem_places.mp this).2
    · intro z
      have := Classical.byContradiction fun k => h2 ⟨p, mem_places.mpr ⟨hp', z⟩, fun w => k w⟩
      exact (mem_places.mp this).2
theorem beqT {a b : Bool} (h : a = true ↔ b = true) : a = b := by cases a <;> cases b <;> simp_all
theorem law_way : lawWay dr (places dr x) (places dr y) = way (vw dr x y) := by
  have e1 : (places dr x == places dr y) = (!hasA dr x y && !hasA dr y x) := beqT (by rw [same_iff, Bool.and_eq_true, Bool.not_eq_true', Bool.not_eq_true', neg_iff A_pl, neg_iff A_pl])
  have e2 : (bothP (places dr x) (places dr y) == places dr x) = !hasA dr x y := beqT (by rw [both_self, Bool.not_eq_true', neg_iff A_pl])
  have e3 : (bothP (places dr x) (places dr y) == places dr y) = !hasA dr y x := beqT (by rw [both_other, Bool.not_eq_true', neg_iff A_pl])
  have e4 : (bothP (places dr x) (places dr y) == []) = !hasC dr x y := beqT (by rw [both_nil, Bool.not_eq_true', neg_iff C_pl])
  have e5 : (outP (near dr (places dr x)) (places dr y) == []) = !hasE dr x y := beqT (by rw [out_iff, Bool.not_eq_true', neg_iff E_pl])
  have e6 : (outP (near dr (places dr y)) (places dr x) == []) = !hasE dr y x := beqT (by rw [out_iff, Bool.not_eq_true', neg_iff E_pl])
  have e7 : (bothP (near dr (places dr x)) (places dr y) == []) = !hasF dr x y := beqT (by rw [both_nil, Bool.not_eq_true', neg_iff F_pl])
  unfold lawWay vw way
  rw [e1, e2, e3, e4, e5, e6, e7]
  cases hasA dr x y <;> cases hasA dr y x <;> cases hasC dr x y <;> cases hasE dr x y <;> cases hasE dr y x <;> cases hasF dr x y <;> rfl
end
end M02
/-! P02s -/
namespace G02
open PySem PySem.Spec PyProof.Rows L2 Ev M02 Gx
def tn (i : Nat) : Nat := [0, 1, 2, 3, 6, 7, 4, 5].getD i 0
def TT (i j : Nat) : D := .tup ((LN i j).map wd)
structure Good (i j : Nat) : Prop where
  e1 : fn_led [wd i, wd j] = some (.val (TT i j), [wd i, wd j])
  e2 : fn__law_is_choice [TT i j] = some (.val (.bl true), [TT i j])
  e3 : fn_turned [wd i] = some (.val (wd (tn i)), [wd i])
  e4 : fn_led [wd (tn j), wd (tn i)] = some (.val (TT (tn j) (tn i)), [wd (tn j), wd (tn i)])
  e5 : fn__law_turned [TT i j] = some (.val (TT (tn j) (tn i)), [TT i j])
  e6 : fn__law_like 9 [TT i j, TT i j] = some (.val (.bl true), [TT i j, TT i j])
  e7 : fn_led_choices [.tup [wd i], .tup [wd j]] = some (.val (TT i j), [.tup [wd i], .tup [wd j]])
  e8 : fn__law_like 9 [wd i, wd i] = some (.val (.bl true), [wd i, wd i])
theorem all8 {P : Nat → Prop} (h0 : P 0) (h1 : P 1) (h2 : P 2) (h3 : P 3) (h4 : P 4) (h5 : P 5) (h6 : P 6) (h7 : P 7) : ∀ i, i < 8 → P i
  | 0, _ => h0 | 1, _ => h1 | 2, _ => h2 | 3, _ => h3 | 4, _ => h4 | 5, _ => h5 | 6, _ => h6 | 7, _ => h7
  | n + 8, h => by omega
theorem good : ∀ i, i < 8 → ∀ j, j < 8 → Good i j := by
  refine all8 ?_ ?_ ?_ ?_ ?_ ?_ ?_ ?_ <;> refine all8 ?_ ?_ ?_ ?_ ?_ ?_ ?_ ?_ <;> constructor <;> kernel_rfl
end G02
/-! P02t -/
namespace G02
open PySem PySem.Spec PyProof.Rows L2 Ev M02 Gx
theorem way_lt (v : V6) : way v < 8 := by
  obtain ⟨a, b, c, e, g, f⟩ := v
  cases a <;> cases b <;> cases c <;> cases e <;> cases g <;> cases f <;> decide
theorem valD_cons {k0 k' : TK} {v0 : D} {l : List (TK × D)} : valD ((k0, v0) :: l) k' = if k0 = k' then some v0 else valD l k' := by
  unfold valD
  rw [List.find?_cons]
  by_cases z : k0 = k'
  · rw [if_pos z]
    simp [z]
  · rw [if_neg z]
    simp [z]
theorem valD_map {k k' : TK} {v : D} : ∀ l : List (TK × D), valD (l.map fun kv => if kv.1 = k then (kv.1, v) else kv) k' = if k' = k then (valD l k).map (fun _ => v) else valD l k'
  | [] => by
    rw [List.map_nil]
    split <;> rfl
  | (k0, v0) :: l => by
    have ih := valD_map (k := k) (k' := k') (v := v) l
    rw [List.map_cons, valD_cons (k0 := k0), valD_cons (k0 := k0)]
    by_cases z : k0 = k
    · rw [if_pos (show (k0, v0).1 = k from z), valD_cons, if_pos z, ih]
      by_cases y : k' = k
      · rw [if_pos y, if_pos y, if_pos (z.trans y.symm)]
        rfl
      · rw [if_neg y, if_neg y, if_neg (fun h => y (h.symm.trans z)), if_neg (fun h => y (h.symm.trans z))]
    · rw [if_neg (show ¬ (k0, v0).1 = k from z), valD_cons, if_neg z, ih]
      by_cases y : k' = k
      · rw [if_pos y, if_pos y, if_neg (fun h => z (h.trans y))]
      · rw [if_neg y, if_neg y]
theorem valD_snoc {k k' : TK} {v : D} : ∀ l : List (TK × D), valD (l ++ [(k, v)]) k' = (valD l k').or (if k = k' then some v else none)
  | [] => by
    rw [List.nil_append, valD_cons]
    rfl
  | (k0, v0) :: l => by
    rw [List.cons_append, valD_cons, valD_cons, valD_snoc l]
    split <;> rfl
theorem valD_has {k : TK} : ∀ l : List (TK × D), (l.any fun kv => decide (kv.1 = k)) = (valD l k).isSome
  | [] => rfl
  | (k0, v0) :: l => by
    rw [List.any_cons, valD_cons, valD_has l]
    by_cases z : k0 = k
    · simp [z]
    · simp [z]
theorem valD_put {l : List (TK × D)} {k k' : TK} {v : D} : valD (putD l k v) k' = if k' = k then some v else valD l k' := by
  unfold putD
  rw [valD_has]
  cases q : valD l k with
  | none =>
    rw [if_neg (by simp), valD_snoc]
    by_cases z : k' = k
    · subst z
      rw [q, if_pos rfl]
      rfl
    · rw [if_neg z, if_neg (fun h => z h.symm)]
      cases valD l k' <;> rfl
  | some u =>
    rw [if_pos (by simp), valD_map, q]
    rfl
theorem put_len {l : List (TK × D)} {k : TK} {v : D} : (putD l k v).length ≤ l.length + 1 := by
  unfold putD
  split
  · rw [List.length_map]; omega
  · rw [List.length_append, List.length_singleton]; exact Nat.le_refl _
/-- the dict as far as it is filled -/
def Has (dr : List Strip) (due : List (TK × D)) (x y : Str) : Prop := valD due (tkey [x, y]) = some (wd (way (vw dr x y)))
theorem has_put {dr : List Strip} {due : List (TK × D)} {x y a b : Str} (h : Has dr due a b ∨ (a = x ∧ b = y)) : Has dr (putD due (tkey [x, y]) (wd (way (vw dr x y)))) a b := by
  unfold Has
  rw [valD_put]
  by_cases z : tkey [a, b] = tkey [x, y]
  · rw [if_pos z]
    have z : [Sum.inr a, Sum.inr b] = ([Sum.inr x, Sum.inr y] : TK) := z
    injection z with z1 z2
    injection z2 with z2 _
    injection z1 with z1
    injection z2 with z2
    rw [z1, z2]
  · rw [if_neg z]
    rcases h with h | ⟨rfl, rfl⟩
    · exact h
    · exact absurd rfl z
theorem get_two {ρ : EnvD} {due : List (TK × D)} {i j : Nat} {x y : Str} {v : D} (h4 : ρ[4]? = some (.own (.dT due))) (hi : ρ[i]? = some (.val (.str x))) (hj : ρ[j]? = some (.val (.str y))) (h : valD due (tkey [x, y]) = some v) :
    getTE (orefF 4) (consF (frzF (varE i)) (consF (frzF (varE j)) nilF)) ρ = some (.val v, ρ) := by
  have f : ∀ k z, ρ[k]? = some (.val (.str z)) → frzF (varE k) ρ = some (.str z, ρ) := fun k z hk => r_frz (r := .val (.str z)) (by unfold varE; rw [hk]) rfl
  have c : consF (frzF (varE i)) (consF (frzF (varE j)) nilF) ρ = some ([.str x, .str y], ρ) := r_cons (f i x hi) (r_cons (f j y hj) rfl)
  have o : orefF 4 ρ = some (.r 4, ρ) := by unfold orefF; rw [h4]
  have l : lookA ρ (.r 4) = some (.dT due) := by
    show lookOf ρ 4 = _
    unfold lookOf
    rw [h4]
  unfold getTE
  rw [o]
  show (match consF (frzF (varE i)) (consF (frzF (varE j)) nilF) ρ with
    | some (ds, ρ2) => (match lookA ρ2 (.r 4), strsOf ds with
      | some (.dT l), some ys => if isLine ys.length then (valD l (tkey ys)).map fun d => (Re.val d, ρ2) else none
      | _, _ => none)
    | none => none) = _
  rw [c]
  show (match lookA ρ (.r 4), strsOf (sd [x, y]) with
      | some (.dT l), some ys => if isLine ys.length then (valD l (tkey ys)).map fun d => (Re.val d, ρ) else none
      | _, _ => none) = _
  rw [l, strsOf_map]
  show (valD due (tkey [x, y])).map (fun d => (Re.val d, ρ)) = _
  rw [h]
  rfl
/-- one pair of lands -/
theorem pair_turn {dr : List Strip} {names : List Str} {P Q N : D} {s3 : Sl} {s7 s8 s9 s10 s11 : Sl} {due : List (TK × D)} {x y : Str} (h : Small dr names) (hx : x ∈ namesOf dr) (hy : y ∈ namesOf dr) (h1 : dr.length ≤ 100) (h2 : ∀ s, s ∈ dr → s.length ≤ 20) (pm : ∀ x, Places dr (places dr x)) (hs : s3 = .own (.lst (ssd dr)) ∨ s3 = .val (.lst (ssd dr))) (hd : due.length ≤ 5000) :
    lb_law_4 [.val P, .own Q, .val N, s3, .own (.dT due), .val (.str x), .val (.str y), s7, s8, s9, s10, s11] = some (.nx [.val P, .own Q, .val N, .val (.lst (ssd dr)), .own (.dT (putD due (tkey [x, y]) (wd (way (vw dr x y))))), .val (.str x), .val (.str y), s7, s8, s9, s10, s11]) := by
  let E (due : List (TK × D)) : EnvD := [.val P, .own Q, .val N, .val (.lst (ssd dr)), .own (.dT due), .val (.str x), .val (.str y), s7, s8, s9, s10, s11]
  have ls := lawSeen_spec (x := x) (y := y) h1 h2 (pm x) (pm y)
  rw [law_way] at ls
  have a0 : avF (frzF (varE 3)) (avF (frzF (varE 5)) (avF (frzF (varE 6)) anilF)) [.val P, .own Q, .val N, s3, .own (.dT due), .val (.str x), .val (.str y), s7, s8, s9, s10, s11] = some ([D.lst (ssd dr), .str x, .str y].map AD.v, E due) := by
    rcases hs with rfl | rfl <;> rfl
  have k1 := r_callV a0 (ms := [false, false, false]) rfl ls rfl
  have c1 : setTF 4 (frzF (callE [false, false, false] [] fn__law_seen (avF (frzF (varE 3)) (avF (frzF (varE 5)) (avF (frzF (varE 6)) anilF))))) (consF (frzF (varE 5)) (consF (frzF (varE 6)) nilF)) [.val P, .own Q, .val N, s3, .own (.dT due), .val (.str x), .val (.str y), s7, s8, s9, s10, s11] = some (.nx (E (putD due (tkey [x, y]) (wd (way (vw dr x y)))))) := by
    unfold setTF
    rw [r_frz k1 rfl]
    show (match strsOf (sd [x, y]) with
      | some ys => if isLine ys.length then (if decide (due.length < sizeLine) then some (Out.nx (setC (E due) 4 (.dT (putD due (tkey ys) (wd (way (vw dr x y))))))) else none) else none
      | none => none) = _
    rw [strsOf_map]
    show (if decide (due.length < sizeLine) = true then some (Out.nx (setC (E due) 4 (.dT (putD due (tkey [x, y]) (wd (way (vw dr x y))))))) else none) = _
    rw [if_pos (lt_dec (by omega))]
    rfl
  have g := get_two (ρ := E (putD due (tkey [x, y]) (wd (way (vw dr x y))))) (i := 5) (j := 6) (x := x) (y := y) rfl rfl rfl (has_put (.inr ⟨rfl, rfl⟩))
  have se := r_callV (ms := [false, false, false]) (fa := avF (frzF (varE 3)) (avF (frzF (varE 5)) (avF (frzF (varE 6)) anilF))) (ρ := E (putD due (tkey [x, y]) (wd (way (vw dr x y))))) (ρ1 := E (putD due (tkey [x, y]) (wd (way (vw dr x y))))) (ds := [.lst (ssd dr), .str x, .str y]) rfl rfl (seen_spec h hx hy) rfl
  have lk := r_callV (ms := [false, false]) (fa := avF (frzF (callE [false, false, false] [] fn_seen (avF (frzF (varE 3)) (avF (frzF (varE 5)) (avF (frzF (varE 6)) anilF))))) (avF (frzF (getTE (orefF 4) (consF (frzF (varE 5)) (consF (frzF (varE 6)) nilF)))) anilF)) (ds := [wd (way (vw dr x y)), wd (way (vw dr x y))]) (r_av (r_frz se rfl) (r_av (r_frz g rfl) rfl)) rfl (good _ (way_lt _) _ (way_lt (vw dr x y))).e8 rfl
  have t := r_not (r_tru (r_ov (r_frz lk rfl)) (k := true) rfl)
  exact r_seq c1 (r_iff t rfl)
end G02
/-! P02u -/
namespace G02
open PySem PySem.Spec PyProof.Rows L2 Ev M02 Gx
/-- one three of lands -/
theorem three_turn {dr : List Strip} {due : List (TK × D)} {P Q N : D} {S : Sl} {x y z : Str} {s8 s9 s10 s11 : Sl} (g8 : slP s8) (g9 : slP s9) (g10 : slP s10) (g11 : slP s11) (hxy : Has dr due x y) (hyz : Has dr due y z) (hxz : Has dr due x z) (hl : (LN (way (vw dr x y)) (way (vw dr y z))).contains (way (vw dr x z)) = true) :
    ∃ s8' s9' s10' s11', slP s8' ∧ slP s9' ∧ slP s10' ∧ slP s11' ∧ lb_law_1 [.val P, .own Q, .val N, S, .own (.dT due), .val (.str x), .val (.str z), .val (.str y), s8, s9, s10, s11] = some (.nx [.val P, .own Q, .val N, S, .own (.dT due), .val (.str x), .val (.str z), .val (.str y), s8', s9', s10', s11']) := by
  have hi := way_lt (vw dr x y)
  have hj := way_lt (vw dr y z)
  have tl : ∀ i, i < 8 → tn i < 8 := all8 (by decide) (by decide) (by decide) (by decide) (by decide) (by decide) (by decide) (by decide)
  generalize ei : way (vw dr x y) = i at hi hl
  generalize ej : way (vw dr y z) = j at hj hl
  have G := good i hi j hj
  have Gj := good j hj j hj
  have GT := good (tn j) (tl j hj) (tn i) (tl i hi)
  unfold Has at hxy hyz hxz
  rw [ei] at hxy
  rw [ej] at hyz
  let E (a b c d : Sl) : EnvD := [.val P, .own Q, .val N, S, .own (.dT due), .val (.str x), .val (.str z), .val (.str y), a, b, c, d]
  have c1 : setF 8 (getTE (orefF 4) (consF (frzF (varE 5)) (consF (frzF (varE 7)) nilF))) (E s8 s9 s10 s11) = some (.nx (E (.val (wd i)) s9 s10 s11)) := by
    refine (r_set (i := 8) (get_two (ρ := E s8 s9 s10 s11) (i := 5) (j := 7) rfl rfl rfl hxy) ?_).trans rfl
    cases s8 <;> first | rfl | cases (show true = false from g8)
  have c2 : setF 9 (getTE (orefF 4) (consF (frzF (varE 7)) (consF (frzF (varE 6)) nilF))) (E (.val (wd i)) s9 s10 s11) = some (.nx (E (.val (wd i)) (.val (wd j)) s10 s11)) := by
    refine (r_set (i := 9) (get_two (ρ := E (.val (wd i)) s9 s10 s11) (i := 7) (j := 6) rfl rfl rfl hyz) ?_).trans rfl
    cases s9 <;> first | rfl | cases (show true = false from g9)
  have k3 := r_callV (ms := [false, false]) (fa := avF (frzF (varE 8)) (avF (frzF (varE 9)) anilF)) (ρ := E (.val (wd i)) (.val (wd j)) s10 s11) (ρ1 := E (.val (wd i)) (.val (wd j)) s10 s11) (ds := [wd i, wd j]) rfl rfl G.e1 rfl
  have c3 : setF 10 (callE [false, false] [] fn_led (avF (frzF (varE 8)) (avF (frzF (varE 9)) anilF))) (E (.val (wd i)) (.val (wd j)) s10 s11) = some (.nx (E (.val (wd i)) (.val (wd j)) (.val (TT i j)) s11)) := by
    refine (r_set (i := 10) k3 ?_).trans rfl
    cases s10 <;> first | rfl | cases (show true = false from g10)
  -- the first test
  have k4 := r_callV (ms := [false]) (fa := avF (frzF (varE 10)) anilF) (ρ := E (.val (wd i)) (.val (wd j)) (.val (TT i j)) s11) (ρ1 := E (.val (wd i)) (.val (wd j)) (.val (TT i j)) s11) (ds := [TT i j]) rfl rfl G.e2 rfl
  have t4 := r_not (r_tru (r_ov (r_frz k4 rfl)) (k := true) rfl)
  have k5 := get_two (ρ := E (.val (wd i)) (.val (wd j)) (.val (TT i j)) s11) (i := 5) (j := 6) rfl rfl rfl hxz
  have e5 : bIn2 true (wd (way (vw dr x z))) (TT i j) = some false := by
    have e : itemsOf (TT i j) = some (sd ((LN i j).map ws)) := by
      show some ((LN i j).map wd) = some (((LN i j).map ws).map D.str)
      rw [List.map_map]
      rfl
    have q := in_strs (x := ws (way (vw dr x z))) (neg := true) e
    rw [List.contains_iff_mem.mpr (List.mem_map.mpr ⟨_, List.contains_iff_mem.mp hl, rfl⟩)] at q
    exact q
  have t5 : cmpT (bIn2 true) (ovF (frzF (getTE (orefF 4) (consF (frzF (varE 5)) (consF (frzF (varE 6)) nilF))))) (orefF 10) (E (.val (wd i)) (.val (wd j)) (.val (TT i j)) s11) = some (false, E (.val (wd i)) (.val (wd j)) (.val (TT i j)) s11) :=
    r_cmpT (b := .r 10) (r_ov (r_frz k5 rfl)) rfl rfl rfl e5
  have c4 := r_iff (f := retF (conE (.bl false))) (g := nextF) (r_orF t4 t5) rfl
  -- back
  have kj := r_callV (ms := [false]) (fa := avF (frzF (varE 9)) anilF) (ρ := E (.val (wd i)) (.val (wd j)) (.val (TT i j)) s11) (ρ1 := E (.val (wd i)) (.val (wd j)) (.val (TT i j)) s11) (ds := [wd j]) rfl rfl Gj.e3 rfl
  have ki := r_callV (ms := [false]) (fa := avF (frzF (varE 8)) anilF) (ρ := E (.val (wd i)) (.val (wd j)) (.val (TT i j)) s11) (ρ1 := E (.val (wd i)) (.val (wd j)) (.val (TT i j)) s11) (ds := [wd i]) rfl rfl G.e3 rfl
  have k6 := r_callV (ms := [false, false]) (fa := avF (frzF (callE [false] [] fn_turned (avF (frzF (varE 9)) anilF))) (avF (frzF (callE [false] [] fn_turned (avF (frzF (varE 8)) anilF))) anilF)) (ds := [wd (tn j), wd (tn i)]) (r_av (r_frz kj rfl) (r_av (r_frz ki rfl) rfl)) rfl G.e4 rfl
  have c5 : setF 11 (callE [false, false] [] fn_led (avF (frzF (callE [false] [] fn_turned (avF (frzF (varE 9)) anilF))) (avF (frzF (callE [false] [] fn_turned (avF (frzF (varE 8)) anilF))) anilF))) (E (.val (wd i)) (.val (wd j)) (.val (TT i j)) s11) = some (.nx (E (.val (wd i)) (.val (wd j)) (.val (TT i j)) (.val (TT (tn j) (tn i))))) := by
    refine (r_set (i := 11) k6 ?_).trans rfl
    cases s11 <;> first | rfl | cases (show true = false from g11)
  let F : EnvD := E (.val (wd i)) (.val (wd j)) (.val (TT i j)) (.val (TT (tn j) (tn i)))
  have k7 := r_callV (ms := [false]) (fa := avF (frzF (varE 10)) anilF) (ρ := F) (ρ1 := F) (ds := [TT i j]) rfl rfl G.e5 rfl
  have f11 : frzF (varE 11) F = some (TT (tn j) (tn i), F) := rfl
  have k8 := r_callV (ms := [false, false]) (fa := avF (frzF (varE 11)) (avF (frzF (callE [false] [] fn__law_turned (avF (frzF (varE 10)) anilF))) anilF)) (ds := [TT (tn j) (tn i), TT (tn j) (tn i)]) (r_av f11 (r_av (r_frz k7 rfl) rfl)) rfl GT.e6 rfl
  have t8 := r_not (r_tru (r_ov (r_frz k8 rfl)) (k := true) rfl)
  have p8 : frzF (tupE (consF (frzF (varE 8)) nilF)) F = some (.tup [wd i], F) := rfl
  have p9 : frzF (tupE (consF (frzF (varE 9)) nilF)) F = some (.tup [wd j], F) := rfl
  have k9 := r_callV (ms := [false, false]) (fa := avF (frzF (tupE (consF (frzF (varE 8)) nilF))) (avF (frzF (tupE (consF (frzF (varE 9)) nilF))) anilF)) (ds := [.tup [wd i], .tup [wd j]]) (r_av p8 (r_av p9 rfl)) rfl G.e7 rfl
  have f10 : frzF (varE 10) F = some (TT i j, F) := rfl
  have k10 := r_callV (ms := [false, false]) (fa := avF (frzF (callE [false, false] [] fn_led_choices (avF (frzF (tupE (consF (frzF (varE 8)) nilF))) (avF (frzF (tupE (consF (frzF (varE 9)) nilF))) anilF)))) (avF (frzF (varE 10)) anilF)) (ds := [TT i j, TT i j]) (r_av (r_frz k9 rfl) (r_av f10 rfl)) rfl G.e6 rfl
  have t10 := r_not (r_tru (r_ov (r_frz k10 rfl)) (k := true) rfl)
  have c6 := r_iff (f := retF (conE (.bl false))) (g := nextF) (r_orF t8 t10) rfl
  exact ⟨.val (wd i), .val (wd j), .val (TT i j), .val (TT (tn j) (tn i)), rfl, rfl, rfl, rfl, r_seq c1 (r_seq c2 (r_seq c3 (r_seq c4 (r_seq c5 c6))))⟩
end G02
/-! P02v -/
namespace G02
open PySem PySem.Spec PyProof.Rows L2 Ev M02 Gx
theorem r_ar {ρ ρ1 : EnvD} {d : D} {g : Fa} {as : List AD} (h : ρ[1]? = some (.own d)) (h2 : g ρ = some (as, ρ1)) : arF 1 g ρ = some (.r 1 :: as, ρ1) := by
  unfold arF
  rw [h]
  show (match g ρ with
    | some (as, ρ2) => some (AD.r 1 :: as, ρ2)
    | none => none) = _
  rw [h2]
theorem r_callR {ms : List Bool} {F : List D → Option (Re × List D)} {fa : Fa} {ρ ρ1 : EnvD} {d1 d2 : D} {ds : List D} {r : Re} (h1 : fa ρ = some (.r 1 :: ds.map AD.v, ρ1)) (hρ : ρ1[1]? = some (.own d1)) (hm : ms = true :: ds.map fun _ => false) (hF : F (d1 :: ds) = some (r, d2 :: ds)) : callE ms [] F fa ρ = some (r, ρ1.set 1 (.own d2)) := by
  have ad : argD (.r 1 :: ds.map AD.v) ρ1 = some (d1 :: ds) := by
    show (match Ev.cellOf ρ1 1, argD (ds.map AD.v) ρ1 with
      | some d, some ds => some (d :: ds)
      | _, _ => none) = _
    rw [argD_vals, show Ev.cellOf ρ1 1 = some d1 by unfold Ev.cellOf; rw [hρ]]
  have pb : putBack (.r 1 :: ds.map AD.v) (d2 :: ds) ρ1 = ρ1.set 1 (.own d2) := by
    unfold putBack
    apply List.ext_getElem?
    intro k
    rw [List.getElem?_mapIdx, List.getElem?_set]
    by_cases z : 1 = k
    · subst z
      have hl := (List.getElem?_eq_some_iff.mp hρ).1
      rw [hρ, if_pos rfl, if_pos hl]
      rfl
    · rw [if_neg z]
      cases ρ1[k]? with
      | none => rfl
      | some s =>
        show some (newSl (if 1 = k then some d2 else refAt (ds.map AD.v) ds k) s) = _
        rw [if_neg z, refAt_vals]
        rfl
  unfold callE
  rw [h1]
  show (if (decide ((AD.r 1 :: ds.map AD.v ++ List.map AD.v []).map AD.isR = ms) && noDup (refsOf (AD.r 1 :: ds.map AD.v ++ List.map AD.v []))) = true then _ else none) = _
  rw [List.map_nil, List.append_nil, hm, show (AD.r 1 :: ds.map AD.v).map AD.isR = true :: ds.map fun _ => false by rw [List.map_cons, isR_vals]; rfl, decide_eq_true rfl, show refsOf (AD.r 1 :: ds.map AD.v) = [1] by show 1 :: refsOf (ds.map AD.v) = _; rw [refs_vals]]
  show (match argD (.r 1 :: ds.map AD.v) ρ1 with
    | some ds0 => (match F ds0 with
      | some (r, ds') => if decide (ds'.length = ds0.length) = true then some (r, putBack (.r 1 :: ds.map AD.v) ds' ρ1) else none
      | none => none)
    | none => none) = _
  rw [ad]
  show (match F (d1 :: ds) with
      | some (r, ds') => if decide (ds'.length = (d1 :: ds).length) = true then some (r, putBack (.r 1 :: ds.map AD.v) ds' ρ1) else none
      | none => none) = _
  rw [hF]
  show (if decide ((d2 :: ds).length = (d1 :: ds).length) = true then some (r, putBack (.r 1 :: ds.map AD.v) (d2 :: ds) ρ1) else none) = _
  rw [decide_eq_true (show (d2 :: ds).length = (d1 :: ds).length from rfl), if_pos rfl, pb]
theorem flat_len {α : Type} {k : Nat} : ∀ l : List (List α), (∀ s, s ∈ l → s.length ≤ k) → l.flatten.length ≤ k * l.length
  | [], _ => Nat.zero_le _
  | s :: l, h => by
    rw [List.flatten_cons, List.length_append, List.length_cons, Nat.mul_add, Nat.mul_one]
    have := h s List.mem_cons_self
    have := flat_len l fun t ht => h t (List.mem_cons_of_mem _ ht)
    omega
theorem pairs_len : ∀ s : Strip, (pairs s).length ≤ 2 * s.length
  | [] => Nat.le_refl _
  | [_] => Nat.zero_le _
  | p :: q :: r => by
    show (pairs (q :: r)).length + 1 + 1 ≤ _
    have := pairs_len (q :: r)
    simp only [List.length_cons] at this ⊢
    omega
theorem nbs_len : ∀ dr : List Strip, (nbs dr).length ≤ 2 * (plots dr).length
  | [] => Nat.le_refl _
  | s :: dr => by
    show (pairs s ++ nbs dr).length ≤ 2 * (s ++ plots dr).length
    rw [List.length_append, List.length_append]
    have := pairs_len s
    have := nbs_len dr
    omega
theorem small_of {dr : List Strip} {names : List Str} (h : Drawn names dr) (hn : names.length ≤ 5) : Small dr names := by
  have p : (plots dr).length ≤ 8 * dr.length := flat_len dr fun s hs => (h.strip s hs).2.1
  have hf := h.few
  have q : ∀ pl, pl ∈ plots dr → PlotOf names pl := fun pl hp => by
    obtain ⟨s, h1, h2⟩ := List.mem_flatten.mp hp
    exact (h.strip s h1).2.2 pl h2
  have r : (namesOf dr).length ≤ 5 * (plots dr).length := flat_len (plots dr) fun pl hp => by have := (q pl hp).1; omega
  refine ⟨by omega, by have := nbs_len dr; omega, by omega, by omega, fun x hx => ?_⟩
  obtain ⟨pl, h1, h2⟩ := List.mem_flatten.mp hx
  exact (q pl h1).2 x h2
theorem placesN_len {dr : List Strip} {x : Str} (h : ∀ s, s ∈ dr → s.length ≤ 8) : ∀ n, n ≤ dr.length → (placesN dr x n).length ≤ 8 * n
  | 0, _ => Nat.le_refl _
  | n + 1, hn => by
    rw [placesN_succ, List.length_append]
    have := placesN_len (x := x) h n (by omega)
    have := rowP_len (x := x) (i := n) (n := (dr.getD n []).length) (s := dr.getD n [])
    have : (dr.getD n []).length ≤ 8 := by
      rw [getD_at (by omega)]
      exact h _ (List.getElem_mem _)
    omega
theorem places_of {dr : List Strip} {names : List Str} (h : Drawn names dr) (hn : names.length ≤ 5) (x : Str) : Places dr (places dr x) :=
  ⟨fun p hp => (mem_places.mp hp).1.1, by
    have := placesN_len (x := x) (fun s hs => (h.strip s hs).2.1) dr.length (Nat.le_refl _)
    have := h.few
    show (placesN dr x dr.length).length ≤ 2000
    omega⟩
theorem named {dr : List Strip} {names : List Str} (h : Drawn names dr) {x : Str} (hx : x ∈ names) : x ∈ namesOf dr := by
  obtain ⟨s, h1, p, h2, h3⟩ := h.all x hx
  exact List.mem_flatten.mpr ⟨p, List.mem_flatten.mpr ⟨s, h1, h2⟩, h3⟩
theorem there {dr : List Strip} {x : Str} (hx : x ∈ namesOf dr) : ∃ p, p ∈ plots dr ∧ x ∈ p := List.mem_flatten.mp hx
section
variable {dr : List Strip} {names : List Str} {P Q : D}
theorem fill {s7 s8 s9 s10 s11 : Sl} (h : Drawn names dr) (hn : names.length ≤ 5) (s3 s5 s6 : Sl) (h3 : s3 = .own (.lst (ssd dr)) ∨ s3 = .val (.lst (ssd dr))) (h5 : slP s5) (h6 : slP s6) :
    ∃ s3' s5' s6' due, (s3' = .own (.lst (ssd dr)) ∨ s3' = .val (.lst (ssd dr))) ∧ slP s5' ∧ slP s6' ∧ (∀ x, x ∈ names → ∀ y, y ∈ names → Has dr due x y) ∧
      loopF (.nm 5) lb_law_5 (sd names) [.val P, .own Q, .val (.lst (sd names)), s3, .own (.dT []), s5, s6, s7, s8, s9, s10, s11] = some (.nx [.val P, .own Q, .val (.lst (sd names)), s3', .own (.dT due), s5', s6', s7, s8, s9, s10, s11]) := by
  have S := small_of h hn
  have h8 : ∀ s, s ∈ dr → s.length ≤ 20 := fun s hs => by have := (h.strip s hs).2.1; omega
  have hdr : dr.length ≤ 100 := by have := h.few; omega
  obtain ⟨ρ', e, s3', s5', s6', due, g3, g5, g6, gl, gd, rfl⟩ := loop_nx (t := .nm 5) (body := lb_law_5) (f := D.str)
    (fun pr ρ => ∃ s3' s5' s6' due, (s3' = .own (.lst (ssd dr)) ∨ s3' = .val (.lst (ssd dr))) ∧ slP s5' ∧ slP s6' ∧ due.length ≤ 5 * pr.length ∧ (∀ x, x ∈ pr → ∀ y, y ∈ names → Has dr due x y) ∧ ρ = [.val P, .own Q, .val (.lst (sd names)), s3', .own (.dT due), s5', s6', s7, s8, s9, s10, s11])
    names [] [.val P, .own Q, .val (.lst (sd names)), s3, .own (.dT []), s5, s6, s7, s8, s9, s10, s11] ⟨s3, s5, s6, [], h3, h5, h6, Nat.le_refl _, fun x hx => by simp at hx, rfl⟩
    fun pr x post ρ hs hI => by
      obtain ⟨s3', s5', s6', due, g3, g5, g6, gl, gd, rfl⟩ := hI
      rw [List.nil_append] at hs
      have hx : x ∈ names := by rw [hs]; simp
      have hlen : pr.length + (post.length + 1) = names.length := by rw [hs]; simp
      obtain ⟨ρ', e, t3, t6, due2, k3, k6, kl, kd, ko, rfl⟩ := loop_nx (t := .nm 6) (body := lb_law_4) (f := D.str)
        (fun pr2 ρ => ∃ t3 t6 due2, (t3 = .own (.lst (ssd dr)) ∨ t3 = .val (.lst (ssd dr))) ∧ slP t6 ∧ due2.length ≤ due.length + pr2.length ∧ (∀ y, y ∈ pr2 → Has dr due2 x y) ∧ (∀ a b, Has dr due a b → Has dr due2 a b) ∧ ρ = [.val P, .own Q, .val (.lst (sd names)), t3, .own (.dT due2), .val (.str x), t6, s7, s8, s9, s10, s11])
        names [] [.val P, .own Q, .val (.lst (sd names)), s3', .own (.dT due), .val (.str x), s6', s7, s8, s9, s10, s11] ⟨s3', s6', due, g3, g6, Nat.le_refl _, fun y hy => by simp at hy, fun a b z => z, rfl⟩
        fun pr2 y post2 ρ hs2 hI2 => by
          obtain ⟨t3, t6, due2, k3, k6, kl, kd, ko, rfl⟩ := hI2
          rw [List.nil_append] at hs2
          have hy : y ∈ names := by rw [hs2]; simp
          have hlen2 : pr2.length + (post2.length + 1) = names.length := by rw [hs2]; simp
          have t := pair_turn (P := P) (Q := Q) (N := .lst (sd names)) (s3 := t3) (s7 := s7) (s8 := s8) (s9 := s9) (s10 := s10) (s11 := s11) (due := due2) S (named h hx) (named h hy) hdr h8 (places_of h hn) k3 (by omega)
          refine ⟨_, _, put_nm (by cases t6 <;> first | rfl | cases (show true = false from k6)), t, .val (.lst (ssd dr)), .val (.str y), putD due2 (tkey [x, y]) (wd (way (vw dr x y))), .inr rfl, rfl, ?_, fun z hz => ?_, fun a b z => has_put (.inl (ko a b z)), rfl⟩
          · rw [List.length_append, List.length_singleton]
            have := put_len (l := due2) (k := tkey [x, y]) (v := wd (way (vw dr x y)))
            omega
          · rcases List.mem_append.mp hz with hz | hz
            · exact has_put (.inl (kd z hz))
            · rw [List.mem_singleton.mp hz]
              exact has_put (.inr ⟨rfl, rfl⟩)
      rw [List.nil_append] at kl kd
      refine ⟨[.val P, .own Q, .val (.lst (sd names)), s3', .own (.dT due), .val (.str x), s6', s7, s8, s9, s10, s11], [.val P, .own Q, .val (.lst (sd names)), t3, .own (.dT due2), .val (.str x), t6, s7, s8, s9, s10, s11], put_nm (by cases s5' <;> first | rfl | cases (show true = false from g5)), r_for (d := .lst (sd names)) rfl rfl e, t3, .val (.str x), t6, due2, k3, rfl, k6, ?_, fun a ha b hb => ?_, rfl⟩
      · rw [List.length_append, List.length_singleton]
        omega
      · rcases List.mem_append.mp ha with ha | ha
        · exact ko a b (gd a ha b hb)
        · rw [List.mem_singleton.mp ha]
          exact kd b hb
  rw [List.nil_append] at gd
  exact ⟨s3', s5', s6', due, g3, g5, g6, gd, e⟩
/-- the slots of the threes' loops -/
def Sl4 (a b c d : Sl) : Prop := slP a ∧ slP b ∧ slP c ∧ slP d
theorem threes {due : List (TK × D)} {S : Sl} (h : Drawn names dr) (hn : names.length ≤ 5) (hd : ∀ x, x ∈ names → ∀ y, y ∈ names → Has dr due x y) (s5 s6 s7 s8 s9 s10 s11 : Sl) (h5 : slP s5) (h6 : slP s6) (h7 : slP s7) (h4 : Sl4 s8 s9 s10 s11) :
    ∃ ρ', loopF (.nm 5) lb_law_3 (sd names) [.val P, .own Q, .val (.lst (sd names)), S, .own (.dT due), s5, s6, s7, s8, s9, s10, s11] = some (.nx (.val P :: ρ')) := by
  let E (s5 s6 s7 s8 s9 s10 s11 : Sl) : EnvD := [.val P, .own Q, .val (.lst (sd names)), S, .own (.dT due), s5, s6, s7, s8, s9, s10, s11]
  have in1 : ∀ (x y : Str), x ∈ names → y ∈ names → ∀ s6 s8 s9 s10 s11, slP s6 → Sl4 s8 s9 s10 s11 → ∃ s6' s8' s9' s10' s11', slP s6' ∧ Sl4 s8' s9' s10' s11' ∧ lb_law_2 (E (.val (.str x)) s6 (.val (.str y)) s8 s9 s10 s11) = some (.nx (E (.val (.str x)) s6' (.val (.str y)) s8' s9' s10' s11')) := fun x y hx hy s6 s8 s9 s10 s11 h6 h4 => by
    obtain ⟨ρ', e, s6', s8', s9', s10', s11', g6, g4, rfl⟩ := loop_nx (t := .nm 6) (body := lb_law_1) (f := D.str)
      (fun pr ρ => ∃ s6' s8' s9' s10' s11', slP s6' ∧ Sl4 s8' s9' s10' s11' ∧ ρ = E (.val (.str x)) s6' (.val (.str y)) s8' s9' s10' s11') names [] (E (.val (.str x)) s6 (.val (.str y)) s8 s9 s10 s11) ⟨s6, s8, s9, s10, s11, h6, h4, rfl⟩
      fun pr z post ρ hs hI => by
        obtain ⟨s6', s8', s9', s10', s11', g6, g4, rfl⟩ := hI
        rw [List.nil_append] at hs
        have hz : z ∈ names := by rw [hs]; simp
        obtain ⟨a, b, c, d⟩ := g4
        obtain ⟨t8, t9, t10, t11, b8, b9, b10, b11, e⟩ := three_turn (P := P) (Q := Q) (N := .lst (sd names)) (S := S) a b c d (hd x hx y hy) (hd y hy z hz) (hd x hx z hz) (led_has (there (named h hx)) (there (named h hy)) (there (named h hz)))
        exact ⟨E (.val (.str x)) (.val (.str z)) (.val (.str y)) s8' s9' s10' s11', _, put_nm (by cases s6' <;> first | rfl | cases (show true = false from g6)), e, .val (.str z), t8, t9, t10, t11, rfl, ⟨b8, b9, b10, b11⟩, rfl⟩
    exact ⟨s6', s8', s9', s10', s11', g6, g4, r_for (d := .lst (sd names)) rfl rfl e⟩
  have in2 : ∀ (x : Str), x ∈ names → ∀ s6 s7 s8 s9 s10 s11, slP s6 → slP s7 → Sl4 s8 s9 s10 s11 → ∃ s6' s7' s8' s9' s10' s11', slP s6' ∧ slP s7' ∧ Sl4 s8' s9' s10' s11' ∧ lb_law_3 (E (.val (.str x)) s6 s7 s8 s9 s10 s11) = some (.nx (E (.val (.str x)) s6' s7' s8' s9' s10' s11')) := fun x hx s6 s7 s8 s9 s10 s11 h6 h7 h4 => by
    obtain ⟨ρ', e, s6', s7', s8', s9', s10', s11', g6, g7, g4, rfl⟩ := loop_nx (t := .nm 7) (body := lb_law_2) (f := D.str)
      (fun pr ρ => ∃ s6' s7' s8' s9' s10' s11', slP s6' ∧ slP s7' ∧ Sl4 s8' s9' s10' s11' ∧ ρ = E (.val (.str x)) s6' s7' s8' s9' s10' s11') names [] (E (.val (.str x)) s6 s7 s8 s9 s10 s11) ⟨s6, s7, s8, s9, s10, s11, h6, h7, h4, rfl⟩
      fun pr y post ρ hs hI => by
        obtain ⟨s6', s7', s8', s9', s10', s11', g6, g7, g4, rfl⟩ := hI
        rw [List.nil_append] at hs
        have hy : y ∈ names := by rw [hs]; simp
        obtain ⟨t6, t8, t9, t10, t11, b6, b4, e⟩ := in1 x y hx hy s6' s8' s9' s10' s11' g6 g4
        exact ⟨E (.val (.str x)) s6' (.val (.str y)) s8' s9' s10' s11', _, put_nm (by cases s7' <;> first | rfl | cases (show true = false from g7)), e, t6, .val (.str y), t8, t9, t10, t11, b6, rfl, b4, rfl⟩
    exact ⟨s6', s7', s8', s9', s10', s11', g6, g7, g4, r_for (d := .lst (sd names)) rfl rfl e⟩
  obtain ⟨ρ', e, s5', s6', s7', s8', s9', s10', s11', g5, g6, g7, g4, rfl⟩ := loop_nx (t := .nm 5) (body := lb_law_3) (f := D.str)
    (fun pr ρ => ∃ s5' s6' s7' s8' s9' s10' s11', slP s5' ∧ slP s6' ∧ slP s7' ∧ Sl4 s8' s9' s10' s11' ∧ ρ = E s5' s6' s7' s8' s9' s10' s11') names [] (E s5 s6 s7 s8 s9 s10 s11) ⟨s5, s6, s7, s8, s9, s10, s11, h5, h6, h7, h4, rfl⟩
    fun pr x post ρ hs hI => by
      obtain ⟨s5', s6', s7', s8', s9', s10', s11', g5, g6, g7, g4, rfl⟩ := hI
      rw [List.nil_append] at hs
      have hx : x ∈ names := by rw [hs]; simp
      obtain ⟨t6, t7, t8, t9, t10, t11, b6, b7, b4, e⟩ := in2 x hx s6' s7' s8' s9' s10' s11' g6 g7 g4
      exact ⟨E (.val (.str x)) s6' s7' s8' s9' s10' s11', _, put_nm (by cases s5' <;> first | rfl | cases (show true = false from g5)), e, .val (.str x), t6, t7, t8, t9, t10, t11, rfl, b6, b7, b4, rfl⟩
  exact ⟨_, e⟩
end
end G02
/-! P02w -/
namespace G02
open PySem PySem.Spec PyProof.Rows L2 Ev M02 Gx
theorem law_eq (ns : List Int) : fn_law [.rol (ns.map D.int)] = some (.val (.bl true), [.rol (ns.map D.int)]) := by
  obtain ⟨c, hd⟩ := dice_eq ns
  have D0 : IsDice (dice ns 0 c 0) := ⟨ns, 0, c, 0, by omega, rfl⟩
  generalize dice ns 0 c 0 = d0 at hd D0
  generalize D.rol (ns.map D.int) = L at hd ⊢
  let ρ (d : D) : EnvD := [.val L, .own d, .none, .none, .none, .none, .none, .none, .none, .none, .none, .none]
  have c1 : setF 1 (callE [false] [] fn__law_dice (avF (frzF (varE 0)) anilF)) [.val L, .none, .none, .none, .none, .none, .none, .none, .none, .none, .none, .none] = some (.nx (ρ d0)) :=
    (r_set (i := 1) (r_callV (ds := [L]) rfl rfl hd rfl) rfl).trans rfl
  obtain ⟨r, d1, a1, a2, D1, n1⟩ := next_spec (m := 3) D0 (by decide) (by decide)
  have k2 : callE [true, false] [] fn__law_next (arF 1 (avF (frzF (conE (.int 3))) anilF)) (ρ d0) = some (.val (.int r), ρ d1) := (r_callR (ds := [.int 3]) (r_ar rfl rfl) rfl rfl n1).trans rfl
  have er : (3 : Int) + r = ((3 + r.toNat : Nat) : Int) := by omega
  have k3 : op2E gAdd (frzF (conE (.int 3))) (frzF (callE [true, false] [] fn__law_next (arF 1 (avF (frzF (conE (.int 3))) anilF)))) (ρ d0) = some (.val (.int ((3 + r.toNat : Nat) : Int)), ρ d1) := by
    rw [← er]
    exact r_op2 (g := gAdd) (x := .int 3) (y := .int r) (r := .val (.int (3 + r))) rfl (r_frz k2 rfl) rfl
  obtain ⟨d2, names, D2, nl, _, n2⟩ := names_spec (k := 3 + r.toNat) D1 (by omega)
  have k4 : callE [true, false] [] fn__law_names (arF 1 (avF (frzF (op2E gAdd (frzF (conE (.int 3))) (frzF (callE [true, false] [] fn__law_next (arF 1 (avF (frzF (conE (.int 3))) anilF)))))) anilF)) (ρ d0) = some (.new (.lst (sd names)), ρ d2) :=
    (r_callR (ds := [.int ((3 + r.toNat : Nat) : Int)]) (r_ar rfl (r_av (r_frz k3 rfl) rfl)) rfl rfl n2).trans rfl
  have c2 := (r_set (i := 2) k4 rfl)
  have hn : names.length ≤ 5 := by omega
  obtain ⟨d3, dr, D3, dn, n3⟩ := drawing_spec (names := names) (most := 6) D2 (by omega) (by decide) (by decide)
  have k5 : callE [true, false, false] [] fn__law_drawing (arF 1 (avF (frzF (varE 2)) (avF (frzF (conE (.int 6))) anilF))) [.val L, .own d2, .own (.lst (sd names)), .none, .none, .none, .none, .none, .none, .none, .none, .none] = some (.new (.lst (ssd dr)), [.val L, .own d3, .val (.lst (sd names)), .none, .none, .none, .none, .none, .none, .none, .none, .none]) :=
    (r_callR (ds := [.lst (sd names), .int 6]) (r_ar rfl rfl) rfl rfl n3).trans rfl
  have c3 := (r_set (i := 3) k5 rfl)
  obtain ⟨s3, s5, s6, due, g3, g5, g6, gd, e1⟩ := fill (P := L) (Q := d3) (s7 := .none) (s8 := .none) (s9 := .none) (s10 := .none) (s11 := .none) dn hn (.own (.lst (ssd dr))) .none .none (.inl rfl) rfl rfl
  obtain ⟨ρ', e2⟩ := threes (P := L) (Q := d3) (due := due) (S := s3) dn hn gd s5 s6 .none .none .none .none .none g5 g6 rfl ⟨rfl, rfl, rfl, rfl⟩
  have run : fb_law [.val L, .none, .none, .none, .none, .none, .none, .none, .none, .none, .none, .none] = some (.rt (.val (.bl true)) (.val L :: ρ')) := by
    refine r_seq c1 (r_seq (c2.trans rfl) (r_seq (c3.trans rfl) (r_seq (f := setF 4 (fun ρ => some (.new (.dT []), ρ))) (ρ1 := [.val L, .own d3, .val (.lst (sd names)), .own (.lst (ssd dr)), .own (.dT []), .none, .none, .none, .none, .none, .none, .none]) rfl (r_seq (r_for (d := .lst (sd names)) rfl rfl e1) (r_seq (r_for (d := .lst (sd names)) rfl rfl e2) rfl)))))
  show (match fb_law [.val L, .none, .none, .none, .none, .none, .none, .none, .none, .none, .none, .none] with
    | some (.rt r ρ') => (outs [false] [L] ρ').map fun ds' => (r, ds')
    | some (.nx ρ') => (outs [false] [L] ρ').map fun ds' => (.val .non, ds')
    | _ => none) = _
  rw [run]
  rfl
end G02
/-! Head02 -/
namespace Hd02
open PySem PySem.W PySem.Calls PySem.Spec PyProof.Rows L2 HandSHeadRun LedRun LedHook
abbrev PG : Program := PySem.Challenge.pw_regionsay_k02_what_leads_to_what
def top (i : Nat) : Stmt := PG.main.body.getD i (.Pass ⟨0, 0, 0, 0⟩)
def dd (i : Nat) (x : Str) : He.DefD := ⟨(x, none), x, x, defArgs (top i), defBody (top i), defScope (top i), [], []⟩
def fn : List He.DefD := [dd 4 "turned", dd 5 "led", dd 6 "led_choices", dd 10 "refuse_unknown", dd 12 "lands", dd 13 "seen", dd 14 "_plots", dd 15 "_neighbours", dd 16 "_way", dd 17 "_way_within", dd 19 "_law_dice", dd 20 "_law_next", dd 21 "_law_like", dd 22 "_law_names", dd 23 "_law_strip", dd 24 "_law_drawing", dd 25 "_law_places", dd 26 "_law_near", dd 27 "_law_seen", dd 28 "_law_ways", dd 29 "_law_turned", dd 30 "_law_is_choice", dd 31 "law"]
def fa : List He.Fa := (fn.map fun d => .glo d.name) ++ [.glo "WAYS", .glo "TURNED", .glo "LED"] ++ [.free "any", .free "bool", .free "dict", .free "int", .free "isinstance", .free "len", .free "list", .free "range", .free "sorted", .free "str", .free "tuple", .free "zip"]
abbrev R : PySem.W.OpenRow := PySem.W.OpenLaw.row PySem.Challenge.rw_regionsay_k02_what_leads_to_what
def S2 (a : String) (b : String) : Str × Str := (Str.ofString a, Str.ofString b)
def kv_TURNED : List (Str × Str) := [S2 "apart" "apart", S2 "meets" "meets", S2 "over" "over", S2 "same" "same", S2 "inrim" "hasrim", S2 "incore" "hascore", S2 "hasrim" "inrim", S2 "hascore" "incore"]
def tu_WAYS : List Str := ["apart", "meets", "over", "same", "inrim", "incore", "hasrim", "hascore"].map Str.ofString
def ts : List He.Tab := [((fun K => He.ga K "TURNED"), kv_TURNED.map (·.1))]
def bb (K : PySem.W.Frag) : Bool := He.tupB K "WAYS" (tu_WAYS.map He.Dv.str) && He.valsB K (He.ga K "TURNED") (kv_TURNED.map fun p => (p.1, He.Dv.str p.2))
def tf : List He.Defn := [("_way", none), ("_way_within", none)]
def tabP : List P2 := ([(["apart", "apart"], ["apart", "meets", "over", "same", "inrim", "incore", "hasrim", "hascore"]), (["apart", "meets"], ["apart", "meets", "over", "inrim", "incore"]), (["apart", "over"], ["apart", "meets", "over", "inrim", "incore"]), (["apart", "same"], ["apart"]), (["apart", "inrim"], ["apart", "meets", "over", "inrim", "incore"]), (["apart", "incore"], ["apart", "meets", "over", "inrim", "incore"]), (["apart", "hasrim"], ["apart"]), (["apart", "hascore"], ["apart"]), (["meets", "apart"], ["apart", "meets", "over", "hasrim", "hascore"]), (["meets", "meets"], ["apart", "meets", "over", "same", "inrim", "hasrim"]), (["meets", "over"], ["apart", "meets", "over", "inrim", "incore"]), (["meets", "same"], ["meets"]), (["meets", "inrim"], ["meets", "over", "inrim", "incore"]), (["meets", "incore"], ["over", "inrim", "incore"]), (["meets", "hasrim"], ["apart", "meets"]), (["meets", "hascore"], ["apart"]), (["over", "apart"], ["apart", "meets", "over", "hasrim", "hascore"]), (["over", "meets"], ["apart", "meets", "over", "hasrim", "hascore"]), (["over", "over"], ["apart", "meets", "over", "same", "inrim", "incore", "hasrim", "hascore"]), (["over", "same"], ["over"]), (["over", "inrim"], ["over", "inrim", "incore"]), (["over", "incore"], ["over", "inrim", "incore"]), (["over", "hasrim"], ["apart", "meets", "over", "hasrim", "hascore"]), (["over", "hascore"], ["apart", "meets", "over", "hasrim", "hascore"]), (["same", "apart"], ["apart"]), (["same", "meets"], ["meets"]), (["same", "over"], ["over"]), (["same", "same"], ["same"]), (["same", "inrim"], ["inrim"]), (["same", "incore"], ["incore"]), (["same", "hasrim"], ["hasrim"]), (["same", "hascore"], ["hascore"]), (["inrim", "apart"], ["apart"]), (["inrim", "meets"], ["apart", "meets"]), (["inrim", "over"], ["apart", "meets", "over", "inrim", "incore"]), (["inrim", "same"], ["inrim"]), (["inrim", "inrim"], ["inrim", "incore"]), (["inrim", "incore"], ["incore"]), (["inrim", "hasrim"], ["apart", "meets", "over", "same", "inrim", "hasrim"]), (["inrim", "hascore"], ["apart", "meets", "over", "hasrim", "hascore"]), (["incore", "apart"], ["apart"]), (["incore", "meets"], ["apart"]), (["incore", "over"], ["apart", "meets", "over", "inrim", "incore"]), (["incore", "same"], ["incore"]), (["incore", "inrim"], ["incore"]), (["incore", "incore"], ["incore"]), (["incore", "hasrim"], ["apart", "meets", "over", "inrim", "incore"]), (["incore", "hascore"], ["apart", "meets", "over", "same", "inrim", "incore", "hasrim", "hascore"]), (["hasrim", "apart"], ["apart", "meets", "over", "hasrim", "hascore"]), (["hasrim", "meets"], ["meets", "over", "hasrim", "hascore"]), (["hasrim", "over"], ["over", "hasrim", "hascore"]), (["hasrim", "same"], ["hasrim"]), (["hasrim", "inrim"], ["over", "same", "inrim", "hasrim"]), (["hasrim", "incore"], ["over", "inrim", "incore"]), (["hasrim", "hasrim"], ["hasrim", "hascore"]), (["hasrim", "hascore"], ["hascore"]), (["hascore", "apart"], ["apart", "meets", "over", "hasrim", "hascore"]), (["hascore", "meets"], ["over", "hasrim", "hascore"]), (["hascore", "over"], ["over", "hasrim", "hascore"]), (["hascore", "same"], ["hascore"]), (["hascore", "inrim"], ["over", "hasrim", "hascore"]), (["hascore", "incore"], ["over", "same", "inrim", "incore", "hasrim", "hascore"]), (["hascore", "hasrim"], ["hascore"]), (["hascore", "hascore"], ["hascore"])] : List (List String × List String)).map fun p => (p.1.map Str.ofString, p.2.map Str.ofString)
def parts (k : Nat) (b : List Stmt) : Parts := match b.drop k with
  | .Assign [.Name x px] (.Dict keys values dpos) spos :: rest => ⟨b.take k, x, px, keys, values, dpos, spos, rest⟩
  | _ => ⟨[], "", ⟨0,0,0,0⟩, [], [], ⟨0,0,0,0⟩, ⟨0,0,0,0⟩, []⟩
def dP : Parts := parts 3 PG.main.body
def envX : Env := mainEnv PG 13 14
def loose : List Str := ["WAYS", "TURNED", "LED", "turned", "led", "led_choices", "LandError", "NoLand", "refuse_unknown", "lands", "seen", "_plots", "_neighbours", "_way", "_way_within", "_law_dice", "_law_next", "_law_like", "_law_names", "_law_strip", "_law_drawing", "_law_places", "_law_near", "_law_seen", "_law_ways", "_law_turned", "_law_is_choice"]
abbrev q := PySem.W.view PG [31]
def Xt (s : Shared) : Bool := PySem.W.xlAt q [] s && PySem.W.recOk R.toRowW.records s
def A0Eq (w : World) : Prop := ∀ os, (runA (stepQ (denQ tabQ) PG w) w os PG 12).map (·.2) = some ⟨denQ tabQ (.body dP.body envX), .body dP.body envX, default, [PySem.W.topFrame default]⟩
theorem a0 (w : World) : A0Eq w := by
  refine PySem.W.byRow2 "special-get-raises" (P := A0Eq) (fun w os => ?_) (fun w os => ?_) w
  · kernel_rfl
  · kernel_rfl
def A1Eq (w : World) : Prop := ∀ os P, (runAll (stepQ (denQ tabQ) PG w) w os PG 12 dP tabP envX default default P 6000).map (fun r => (r.c2, r.c3, r.low, looksF PG (PySem.W.boot_heap w.params) r.fin.abs, seenQ q loose (importedModules PG.main.body) Xt r.fin.abs, obsY 4 fa fn ts bb "LED" tf (getT r.fin))) =
  some (.body dP.body envX, .body dP.body envX, true, true, PySem.W.openGood q loose, valY PG fn ts tabP w)
theorem a1 (w : World) : A1Eq w := by
  refine PySem.W.byRow2 "special-get-raises" (P := A1Eq) (fun w os P => ?_) (fun w os P => ?_) w
  · kernel_rfl
  · kernel_rfl
theorem c1 : okAll dP.keys dP.values tabP = true := by decide +kernel
theorem c2 : opening PG = plainProg PG.main.scope.names := by kernel_rfl
theorem c3 : ∀ s, fenceModules? PG s = some s := fun s => by kernel_rfl
theorem c4 : chainsOk q = true := by decide +kernel
theorem c5 : swapsWithSole [.Name dP.x dP.px] (.Dict dP.keys dP.values dP.dpos) dP.spos.line envX = pure false := by kernel_rfl
theorem c6 : (tabP.map (·.1)).Nodup := by decide +kernel
theorem c7 : tabP.length ≤ 1000 := by decide +kernel
theorem c8 : ∀ s, Xt s = true → (fun mg h => XL q [] mg h ∧ RecFacts R.toRowW.records h) (s.heap.nsMap mainGlobals) s.heap := fun s z => ⟨xl_of s (Bool.and_eq_true_iff.mp z).1, recFacts_of (Bool.and_eq_true_iff.mp z).2⟩
def Yf (s : Shared) : AlY := obsY 4 fa fn ts bb "LED" tf s.heap.get?
theorem c9 : ∀ w s, Yf s = valY PG fn ts tabP w → YLY PG fa fn ts bb "LED" tabP tf w s.heap := fun w s h => yly_of h
theorem a1' (w : World) : ∀ os P, (runAll (stepQ (denQ tabQ) PG w) w os PG 12 dP tabP envX default default P 6000).map (fun r => (r.c2, r.c3, r.low, looksF PG (boot_heap w.params) r.fin.abs, seenQ q loose (importedModules PG.main.body) Xt r.fin.abs, Yf r.fin.abs)) =
  some (.body dP.body envX, .body dP.body envX, true, true, openGood q loose, valY PG fn ts tabP w) := by
  intro os P
  have z := a1 w os P
  have eo : (fun r : Res => (r.c2, r.c3, r.low, looksF PG (boot_heap w.params) r.fin.abs, seenQ q loose (importedModules PG.main.body) Xt r.fin.abs, obsY 4 fa fn ts bb "LED" tf (getT r.fin))) = fun r : Res => (r.c2, r.c3, r.low, looksF PG (boot_heap w.params) r.fin.abs, seenQ q loose (importedModules PG.main.body) Xt r.fin.abs, Yf r.fin.abs) := funext fun r => by rw [obsY_eq (getT_eq r.fin)]; rfl
  rw [eo] at z
  exact z
theorem leftAll (w : World) : Left1 PG q loose (fun mg h => XL q [] mg h ∧ RecFacts R.toRowW.records h) (YLY PG fa fn ts bb "LED" tabP tf) w := by
  haveI : Ev.Tabs := ⟨[]⟩
  obtain ⟨ts', e, m⟩ := mkAll (prog := PG) (w := w) (env := envX) (dpos := dP.dpos) dP.keys dP.values tabP c1
  exact left1_of (p := PG) (q := q) (loose := loose) (Xt := Xt) (Yf := Yf) (Ya := fun w => valY PG fn ts tabP w) (YP := YLY PG fa fn ts bb "LED" tabP tf) (w := w) (d := dP) (l := tabP) (env := envX) (p1 := default) (qq := default) (m0 := 12) (M := 6000) (ts := ts') c2 c3 c8 c4 c9 c5 e m c6 c7 (a0 w) (a1' w)
end Hd02
/-! Fin02 -/
namespace G02
open PySem PySem.Spec PyProof.Rows L2 Ev He LedHook
abbrev csK (K : PySem.W.Frag) : List (Addr × Addr) := Hd02.tf.map (cT K)
abbrev tabsK (K : PySem.W.Frag) : Tabs := ⟨(csK K).map (·.2)⟩
theorem facts {w : World} {K : PySem.W.Frag} {h : Heap} {mg : Str → Option Value} {f : Addr} (X : K.In h) (G : h.Ns mainGlobals mg) (hfa : mg ("law" : Str) = some (.ref f)) (c : SaysL Hd02.PG Hd02.fa Hd02.fn Hd02.ts Hd02.bb "LED" Hd02.tabP w K) (tt : TabsY Hd02.tf h K) :
    ∃ fd : FuncData, (∀ (s : Shared) (v : Value), BindsTo s fd ⟨[v], []⟩ [("_law_script", v)]) ∧ ∀ base : Heap, K.In base → base.Ns mainGlobals mg → (∀ p ∈ csK K, LamX.TabB base mg p.1 p.2) → FnOk Hd02.PG w K mg base CX0 10 f fd ["_law_script"] (@spD (tabsK K) K [false] fn_law) := by
  letI : Tabs := tabsK K
  have ct : SaysT Hd02.fa Hd02.fn Hd02.ts w K := congrArg (fun z : AlL => z.1) c
  have cb : Hd02.bb K = true := congrArg (fun z : AlL => z.2.1) c
  have cl : ledW K (ga K "LED") = some (ledIn w Hd02.PG Hd02.tabP) := congrArg (fun z : AlL => z.2.2) c
  have cd := ct.d
  have g_WAYS : (He.Fa.glo "WAYS").ok K = true := cd.fact 23 rfl
  have g_TURNED : (He.Fa.glo "TURNED").ok K = true := cd.fact 24 rfl
  have g_LED : (He.Fa.glo "LED").ok K = true := cd.fact 25 rfl
  have b_any := He.free_ok X G (cd.fact 26 (f := .free "any") rfl)
  have b_bool := He.free_ok X G (cd.fact 27 (f := .free "bool") rfl)
  have b_dict := He.free_ok X G (cd.fact 28 (f := .free "dict") rfl)
  have b_int := He.free_ok X G (cd.fact 29 (f := .free "int") rfl)
  have b_isinstance := He.free_ok X G (cd.fact 30 (f := .free "isinstance") rfl)
  have b_len := He.free_ok X G (cd.fact 31 (f := .free "len") rfl)
  have b_list := He.free_ok X G (cd.fact 32 (f := .free "list") rfl)
  have b_range := He.free_ok X G (cd.fact 33 (f := .free "range") rfl)
  have b_sorted := He.free_ok X G (cd.fact 34 (f := .free "sorted") rfl)
  have b_str := He.free_ok X G (cd.fact 35 (f := .free "str") rfl)
  have b_tuple := He.free_ok X G (cd.fact 36 (f := .free "tuple") rfl)
  have b_zip := He.free_ok X G (cd.fact 37 (f := .free "zip") rfl)
  obtain ⟨cb1, cb2⟩ := ba cb
  have c_WAYS : ∃ (v : V) (u : Value), mg (Str.ofString "WAYS") = some u ∧ RelV v u ∧ ∀ F : Hp, R K F v ways := tup_of X G g_WAYS cb1
  obtain ⟨es, n, kd⟩ := ct.tab 0 rfl
  have k_TURNED : KTab K w (ga K "TURNED") turns := ktab_of kd cb2
  have t_TURNED := glo_ok X G g_TURNED
  have k_LED : KLed Hd02.PG w K (ga K "LED") ledT := ledW_ok Hd02.c6 cl
  have t_LED := glo_ok X G g_LED
  obtain ⟨fd_turned, F_turned⟩ := cd.def_ 0 rfl
  have g_turned := He.glo_ok X G (cd.fact 0 (f := .glo "turned") rfl)
  obtain ⟨fd_led, F_led⟩ := cd.def_ 1 rfl
  have g_led := He.glo_ok X G (cd.fact 1 (f := .glo "led") rfl)
  obtain ⟨fd_led_choices, F_led_choices⟩ := cd.def_ 2 rfl
  have g_led_choices := He.glo_ok X G (cd.fact 2 (f := .glo "led_choices") rfl)
  obtain ⟨fd_lands, F_lands⟩ := cd.def_ 4 rfl
  have g_lands := He.glo_ok X G (cd.fact 4 (f := .glo "lands") rfl)
  obtain ⟨fd__plots, F__plots⟩ := cd.def_ 6 rfl
  have g__plots := He.glo_ok X G (cd.fact 6 (f := .glo "_plots") rfl)
  obtain ⟨fd__neighbours, F__neighbours⟩ := cd.def_ 7 rfl
  have g__neighbours := He.glo_ok X G (cd.fact 7 (f := .glo "_neighbours") rfl)
  obtain ⟨fd__way_within, F__way_within⟩ := cd.def_ 9 rfl
  have g__way_within := He.glo_ok X G (cd.fact 9 (f := .glo "_way_within") rfl)
  obtain ⟨fd__way, F__way⟩ := cd.def_ 8 rfl
  have g__way := He.glo_ok X G (cd.fact 8 (f := .glo "_way") rfl)
  obtain ⟨fd_refuse_unknown, F_refuse_unknown⟩ := cd.def_ 3 rfl
  have g_refuse_unknown := He.glo_ok X G (cd.fact 3 (f := .glo "refuse_unknown") rfl)
  obtain ⟨fd_seen, F_seen⟩ := cd.def_ 5 rfl
  have g_seen := He.glo_ok X G (cd.fact 5 (f := .glo "seen") rfl)
  obtain ⟨fd__law_dice, F__law_dice⟩ := cd.def_ 10 rfl
  have g__law_dice := He.glo_ok X G (cd.fact 10 (f := .glo "_law_dice") rfl)
  obtain ⟨fd__law_next, F__law_next⟩ := cd.def_ 11 rfl
  have g__law_next := He.glo_ok X G (cd.fact 11 (f := .glo "_law_next") rfl)
  obtain ⟨fd__law_like, F__law_like⟩ := cd.def_ 12 rfl
  have g__law_like := He.glo_ok X G (cd.fact 12 (f := .glo "_law_like") rfl)
  obtain ⟨fd__law_names, F__law_names⟩ := cd.def_ 13 rfl
  have g__law_names := He.glo_ok X G (cd.fact 13 (f := .glo "_law_names") rfl)
  obtain ⟨fd__law_strip, F__law_strip⟩ := cd.def_ 14 rfl
  have g__law_strip := He.glo_ok X G (cd.fact 14 (f := .glo "_law_strip") rfl)
  obtain ⟨fd__law_drawing, F__law_drawing⟩ := cd.def_ 15 rfl
  have g__law_drawing := He.glo_ok X G (cd.fact 15 (f := .glo "_law_drawing") rfl)
  obtain ⟨fd__law_places, F__law_places⟩ := cd.def_ 16 rfl
  have g__law_places := He.glo_ok X G (cd.fact 16 (f := .glo "_law_places") rfl)
  obtain ⟨fd__law_near, F__law_near⟩ := cd.def_ 17 rfl
  have g__law_near := He.glo_ok X G (cd.fact 17 (f := .glo "_law_near") rfl)
  obtain ⟨fd__law_seen, F__law_seen⟩ := cd.def_ 18 rfl
  have g__law_seen := He.glo_ok X G (cd.fact 18 (f := .glo "_law_seen") rfl)
  obtain ⟨fd__law_ways, F__law_ways⟩ := cd.def_ 19 rfl
  have g__law_ways := He.glo_ok X G (cd.fact 19 (f := .glo "_law_ways") rfl)
  obtain ⟨fd__law_turned, F__law_turned⟩ := cd.def_ 20 rfl
  have g__law_turned := He.glo_ok X G (cd.fact 20 (f := .glo "_law_turned") rfl)
  obtain ⟨fd__law_is_choice, F__law_is_choice⟩ := cd.def_ 21 rfl
  have g__law_is_choice := He.glo_ok X G (cd.fact 21 (f := .glo "_law_is_choice") rfl)
  obtain ⟨fd, F⟩ := cd.def_ 22 rfl
  have e := hfa.symm.trans (He.glo_ok X G (cd.fact 22 (f := .glo "law") rfl))
  cases e
  refine ⟨fd, fun s v => (FunD.bindsA (ps := ["_law_script"]) F fun _ _ _ _ _ _ us hl => match us, hl with | [_], _ => rfl) s [v] rfl, fun base _ _ tB => ?_⟩
  have d_turned := ok_turned (P := Hd02.PG) (w := w) (base := base) F_turned g_turned (t_TURNED := t_TURNED) (k_TURNED := k_TURNED)
  have d_led := ok_led (P := Hd02.PG) (w := w) (base := base) F_led g_led (t_LED := t_LED) (k_LED := k_LED)
  have d_led_choices := ok_led_choices (P := Hd02.PG) (w := w) (base := base) F_led_choices g_led_choices (b_tuple := b_tuple) (c_WAYS := c_WAYS) (t_LED := t_LED) (k_LED := k_LED)
  have d_lands := ok_lands (P := Hd02.PG) (w := w) (base := base) F_lands g_lands (b_sorted := b_sorted)
  have d__plots := ok__plots (P := Hd02.PG) (w := w) (base := base) F__plots g__plots 
  have d__neighbours := ok__neighbours (P := Hd02.PG) (w := w) (base := base) F__neighbours g__neighbours (b_zip := b_zip)
  have d__way_within := ok__way_within (P := Hd02.PG) (w := w) (base := base) F__way_within g__way_within (b_any := b_any) (tb := tab_of (tB (cT K ("_way_within", none)) (List.mem_map.mpr ⟨_, by simp [Hd02.tf], rfl⟩))) (ht := List.mem_map.mpr ⟨cT K ("_way_within", none), List.mem_map.mpr ⟨_, by simp [Hd02.tf], rfl⟩, rfl⟩) (hc := code_of F__way_within)
  have d__way := ok__way (P := Hd02.PG) (w := w) (base := base) F__way g__way (b_any := b_any) (d__way_within := d__way_within) (d_turned := d_turned) (tb := tab_of (tB (cT K ("_way", none)) (List.mem_map.mpr ⟨_, by simp [Hd02.tf], rfl⟩))) (ht := List.mem_map.mpr ⟨cT K ("_way", none), List.mem_map.mpr ⟨_, by simp [Hd02.tf], rfl⟩, rfl⟩) (hc := code_of F__way)
  have d_refuse_unknown := ok_refuse_unknown (P := Hd02.PG) (w := w) (base := base) F_refuse_unknown g_refuse_unknown 
  have d_seen := ok_seen (P := Hd02.PG) (w := w) (base := base) F_seen g_seen (d__neighbours := d__neighbours) (d__plots := d__plots) (d__way := d__way) (d_lands := d_lands) (d_refuse_unknown := d_refuse_unknown)
  have d__law_dice := ok__law_dice (P := Hd02.PG) (w := w) (base := base) F__law_dice g__law_dice (b_int := b_int) (b_len := b_len)
  have d__law_next := ok__law_next (P := Hd02.PG) (w := w) (base := base) F__law_next g__law_next (b_len := b_len)
  have d__law_like := ok__law_like (P := Hd02.PG) (w := w) (base := base) F__law_like g__law_like (b_bool := b_bool) (b_dict := b_dict) (b_int := b_int) (b_isinstance := b_isinstance) (b_len := b_len) (b_list := b_list) (b_range := b_range) (b_str := b_str) (b_tuple := b_tuple) 9
  have d__law_names := ok__law_names (P := Hd02.PG) (w := w) (base := base) F__law_names g__law_names (b_len := b_len) (b_range := b_range) (d__law_next := d__law_next)
  have d__law_strip := ok__law_strip (P := Hd02.PG) (w := w) (base := base) F__law_strip g__law_strip (b_len := b_len) (b_range := b_range) (b_sorted := b_sorted) (b_tuple := b_tuple) (d__law_next := d__law_next)
  have d__law_drawing := ok__law_drawing (P := Hd02.PG) (w := w) (base := base) F__law_drawing g__law_drawing (b_list := b_list) (b_range := b_range) (d__law_next := d__law_next) (d__law_strip := d__law_strip)
  have d__law_places := ok__law_places (P := Hd02.PG) (w := w) (base := base) F__law_places g__law_places (b_len := b_len) (b_range := b_range)
  have d__law_near := ok__law_near (P := Hd02.PG) (w := w) (base := base) F__law_near g__law_near (b_len := b_len)
  have d__law_seen := ok__law_seen (P := Hd02.PG) (w := w) (base := base) F__law_seen g__law_seen (b_int := b_int) (d__law_near := d__law_near) (d__law_places := d__law_places)
  have d__law_ways := ok__law_ways (P := Hd02.PG) (w := w) (base := base) F__law_ways g__law_ways 
  have d__law_turned := ok__law_turned (P := Hd02.PG) (w := w) (base := base) F__law_turned g__law_turned (b_tuple := b_tuple) (d__law_ways := d__law_ways)
  have d__law_is_choice := ok__law_is_choice (P := Hd02.PG) (w := w) (base := base) F__law_is_choice g__law_is_choice (b_isinstance := b_isinstance) (b_list := b_list) (b_tuple := b_tuple) (d__law_ways := d__law_ways)
  exact fn_of F sc_law rfl (fun cdv A outer s H E hr => bd_law (CX := CX0) (E := E) hr (d__law_dice := d__law_dice) (d__law_drawing := d__law_drawing) (d__law_is_choice := d__law_is_choice) (d__law_like := d__law_like) (d__law_names := d__law_names) (d__law_next := d__law_next) (d__law_seen := d__law_seen) (d__law_turned := d__law_turned) (d_led := d_led) (d_led_choices := d_led_choices) (d_seen := d_seen) (d_turned := d_turned))
end G02
open PySem PySem.W PySem.Calls PyProof.Rows
set_option maxRecDepth 100000 in
set_option maxHeartbeats 0 in
theorem PySem.Challenge.cw_regionsay_k02_what_leads_to_what_holds : PySem.Challenge.rw_regionsay_k02_what_leads_to_what.Holds := by
  w_on; o_law
  refine LedRun.hold_left (r := OpenLaw.row PySem.Challenge.rw_regionsay_k02_what_leads_to_what) (q := Hd02.q) (loose := Hd02.loose) (YP := LedHook.YLY Hd02.PG Hd02.fa Hd02.fn Hd02.ts Hd02.bb "LED" Hd02.tabP Hd02.tf) (d := HandSHeadRun.topDef (OpenLaw.row PySem.Challenge.rw_regionsay_k02_what_leads_to_what).prog 31) (kwd := []) Hd02.leftAll LedHook.yly_keep
    (by kernel_rfl) (by kernel_rfl) (by kernel_rfl) (by rfl) (by first | assumption | decide +kernel) (by decide +kernel) ⟨rfl, rfl, rfl, rfl, rfl, by decide +kernel⟩ ?hw ?hc
  case hw => w_witness2
  case hc =>
    refine LamX.walk_ofTsE (l := PySem.Challenge.rw_regionsay_k02_what_leads_to_what) (n := 63) (k := 10) (x := "_law_script") (CX := fun _ => L2.CX0) rfl (by decide) (by kernel_rfl) ⟨rfl, by decide, by decide⟩ ?F (fun _ _ _ _ _ z => z)
    intro w mg fa h Y G hmg0
    obtain ⟨K, KX, c, tt⟩ := Y
    have hmg : mg ("law" : PySem.Str) = some (.ref fa) := by
      have e : (HandSHeadRun.topDef (OpenLaw.row PySem.Challenge.rw_regionsay_k02_what_leads_to_what).prog 31).name = ("law" : PySem.Str) := by kernel_rfl
      rw [← e]
      exact hmg0
    obtain ⟨fd, hb, hF⟩ := G02.facts KX G hmg c tt
    have mem : ∀ p, p ∈ G02.csK K → ∃ d, d ∈ Hd02.tf ∧ p = He.cT K d := fun p hp => by
      obtain ⟨d, hd, e⟩ := List.mem_map.mp hp
      exact ⟨d, hd, e.symm⟩
    refine ⟨K, KX, fd, G02.csK K, @Ev.spD (G02.tabsK K) K [false] G02.fn_law, fun p hp => ?_, fun p hp => ?_, fun p hp => ?_, hb, fun H a ns hl _ hT hS => ?_, hF⟩
    · obtain ⟨d, hd, rfl⟩ := mem p hp
      exact tt.empty d hd
    · obtain ⟨d, hd, rfl⟩ := mem p hp
      exact tt.out d hd
    · obtain ⟨d, hd, rfl⟩ := mem p hp
      exact PySem.W.codeHd_of_K KX (tt.hd d hd)
    · letI : Ev.Tabs := G02.tabsK K
      obtain ⟨F, rp⟩ := Ev.start_repT (K := K) (H := H) (a := a) (ns := ns) (fun P hP => by
        obtain ⟨p, hp, e⟩ := List.mem_map.mp hP
        rw [← e]
        exact hT p hp) hS
      refine ⟨fun _ => none, [], F, [.rol (ns.map Ev.D.int)], _, _, rfl, rp, G02.law_eq ns, fun i hi => ?_, fun v F' H' _ _ rr => ?_⟩
      · match i with
        | 0 => cases hi
        | i + 1 => cases hi
      · cases rr
        rfl
