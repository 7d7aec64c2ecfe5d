import PyProof.Rows.All
import Wide.All
import OpenK.AllK
import Wide.FinOn
import KE.KStateDown
import HandS.Head0
import HandS.Head1
import HandS.Head2
import KE.KDictDisplayH
import HandS.HeadHook1
import HandS.Ends
import HandS.HeadEnd
import HandS.ForMost
import HandS.IsInst
import HandS.Defaults
import HandS.Wide
import HandS.TupAny
import HandS.TupLe
import HandS.More
import HandS.WrittenGet
import HandS.Comp
import HandS.HeadHook2
import HandS.HeadHook3
import HandS.Base
import HandS.Call
import HandS.Words
import PySem.Challenge.RW_regionsay_k04_choices_led
set_option Elab.async false
set_option linter.all false
set_option maxRecDepth 100000
set_option maxHeartbeats 0
/-! LedRun -/
namespace LedRun
open PySem PySem.W PySem.Calls PyProof.Rows
section
variable {den : Code → Sem Fin} {pr : Program} {w : World}
/-- a step, or several: calm all the way -/
inductive Rn (den : Code → Sem Fin) (pr : Program) (w : World) : Shared → Thread → Shared → Thread → Prop
  | refl {s s2 t t2} (hs : Shared.forget s = Shared.forget s2) (ht : Thread.forget t = Thread.forget t2) : Rn den pr w s t s2 t2
  | step {s t s1 t1 s2 t2} (c : Thread.calm t = true) (h : (PySem.step den pr w s t).forget = (Step.go s1 t1).forget) (r : Rn den pr w s1 t1 s2 t2) : Rn den pr w s t s2 t2
theorem Rn.trans {s t s1 t1 s2 t2} (a : Rn den pr w s t s1 t1) (b : Rn den pr w s1 t1 s2 t2) : Rn den pr w s t s2 t2 := by
  induction a with
  | refl hs ht =>
    cases b with
    | refl hs' ht' => exact .refl (hs.trans hs') (ht.trans ht')
    | step c h r =>
      refine .step ?_ ?_ r
      · rw [← Thread.calm_forget, ht, Thread.calm_forget]; exact c
      · exact (step_same den pr w hs ht).trans h
  | step c h _ ih => exact .step c h (ih b)
theorem Rn.one {s t s1 t1} (c : Thread.calm t = true) (h : PySem.step den pr w s t = .go s1 t1) : Rn den pr w s t s1 t1 := .step c (by rw [h]) (.refl rfl rfl)
/-- what the scheduler does with it -/
theorem Rn.sched {s t s2 t2} (a : Rn den pr w s t s2 t2) : ∀ {s0 : Shared} {t0 : Thread}, s0.forget = s.forget → t0.forget = t.forget → s0.asleep →
    ∃ m σ τ, schedN den pr w m (.single s0 t0) = .running (.single σ τ) ∧ σ.forget = s2.forget ∧ τ.forget = t2.forget ∧ σ.heap.life = s0.heap.life := by
  induction a with
  | refl hs ht => exact fun es et hr => ⟨0, _, _, rfl, es.trans hs, et.trans ht, rfl⟩
  | step c h _ ih =>
    intro s0 t0 es et hr
    have c0 : t0.calm = true := by rw [← Thread.calm_forget, et, Thread.calm_forget]; exact c
    have h0 := (step_same den pr w es et).trans h
    cases e : PySem.step den pr w s0 t0 with
    | halt o z => rw [e] at h0; cases h0
    | go z u =>
      rw [e] at h0
      simp only [Step.forget, Step.go.injEq] at h0
      have el := step_life den pr w s0 z t0 u e
      obtain ⟨m, σ, τ, hm, h1, h2, h3⟩ := ih h0.1 h0.2 (Shared.asleep_of_life el hr)
      refine ⟨m + 1, σ, τ, ?_, h1, h2, h3.trans el⟩
      have q : sstep den pr w (.single s0 t0) = .go (.single z u) := by
        rcases sstep_single den pr w s0 t0 c0 hr with q | q
        · rw [q, e]; rfl
        · rw [e] at q; cases q
      simp only [schedN, q]
      exact hm
/-- a run of the model's own machine -/
theorem Rn.ofI : ∀ {n : Nat} {s t s2 t2}, runNI den pr w n s t = .running s2 t2 → Rn den pr w s t s2 t2
  | 0, s, t, s2, t2, h => by
    injection h with a b
    subst a b
    exact .refl rfl rfl
  | n + 1, s, t, s2, t2, h => by
    simp only [runNI] at h
    cases hl : t.loud with
    | true => simp only [stepI_loud den pr w hl] at h; cases h
    | false =>
      simp only [stepI_quiet den pr w hl] at h
      cases hr : t.refused with
      | true =>
        obtain ⟨what, e⟩ := stepK_refused den pr w (s := s) hr
        simp only [e] at h
        cases h
      | false =>
        cases hs : stepK den pr w s t with
        | halt o z => simp only [hs] at h; cases h
        | go z u =>
          simp only [hs] at h
          refine .step (by rw [Thread.calm_eq, hl, hr]; rfl) ?_ (Rn.ofI h)
          rw [← stepK_forget, hs]
end
section
variable {M : Model}
/-- what is shown of a part of the code, as a run of the whole: behind it stands the continuation -/
theorem wpRun {α : Type} {K : α → Sem Fin} {H : Value → Sem Fin} {gd : Bool → Bool} {lv : List Value → List Value} {G : Ctx} {st : List Frame} (hf : G.Fits st) (t : Sem α) :
    ∀ (Q : α → Pos → Shared → Prop) (p : Pos) (s : Shared), Sem.wp M G t Q (fun _ _ _ => False) p s →
      ∃ a s2 p2, Q a p2 s2 ∧ Comes M s ⟨t.wrap K H gd lv, G.code, p, st⟩ s2 ⟨K a, G.code, p2, st⟩ := by
  induction t with
  | pure a => exact fun Q p s h => ⟨a, s, p, h, .refl _ _⟩
  | raise e => exact fun Q p s h => h.elim
  | unsupported _ => exact fun Q p s h => h.elim
  | finish _ => exact fun Q p s h => h.elim
  | rule tag k ih => exact fun Q p s h => let ⟨a, s2, p2, q, c⟩ := ih () Q p s h; ⟨a, s2, p2, q, .step (step_rule ..) c⟩
  | «at» p0 k ih => exact fun Q p s h => let ⟨a, s2, p2, q, c⟩ := ih () Q p0 s h; ⟨a, s2, p2, q, .step (step_at ..) c⟩
  | load b part k ih => exact fun Q p s ⟨o, ho, h⟩ => let ⟨a, s2, p2, q, c⟩ := ih o Q p s h; ⟨a, s2, p2, q, .step (step_load _ _ _ _ _ _ _ ho) c⟩
  | update b part f k ih => exact fun Q p s ⟨hb, h⟩ => let ⟨a, s2, p2, q, c⟩ := ih () Q p _ h; ⟨a, s2, p2, q, .step (step_update _ _ _ _ _ _ _ _ hb) c⟩
  | loadIfAlive b k ih => exact fun Q p s h => let ⟨a, s2, p2, q, c⟩ := ih _ Q p s h; ⟨a, s2, p2, q, .step (step_loadIfAlive ..) c⟩
  | point l k ih => exact fun Q p s h => let ⟨a, s2, p2, q, c⟩ := ih () Q p s h; ⟨a, s2, p2, q, .step (step_point ..) c⟩
  | register b k _ => exact fun Q p s h => h.elim
  | alloc o k ih => exact fun Q p s h => let ⟨a, s2, p2, q, c⟩ := ih _ Q p _ h; ⟨a, s2, p2, q, .step (step_alloc ..) c⟩
  | fresh k ih => exact fun Q p s h => let ⟨a, s2, p2, q, c⟩ := ih _ Q p _ h; ⟨a, s2, p2, q, .step (step_fresh ..) c⟩
  | ask k ih => exact fun Q p s h => let ⟨a, s2, p2, q, c⟩ := ih _ Q p s h; ⟨a, s2, p2, q, .step (step_ask ..) c⟩
  | choose src n k ih => exact fun Q p s ⟨hn, h⟩ => let ⟨a, s2, p2, q, c⟩ := ih _ Q p _ h; ⟨a, s2, p2, q, .step (step_choose _ _ _ _ _ _ _ hn) c⟩
  | os qq l k ih => exact fun Q p s h => let ⟨a, s2, p2, q, c⟩ := ih _ Q p _ h; ⟨a, s2, p2, q, .step (step_os ..) c⟩
  | call cd h0 g l k ih =>
    intro Q p s h
    obtain ⟨r, s1, hr, h⟩ := h
    obtain ⟨t', c', p', pre', hc1, hx⟩ := (runs_reach hr _ (hf.enter cd (fun r => (k r).wrap K H gd lv) h0 (gd g) (lv l) p [])).comes
    obtain ⟨rfl, rfl⟩ := hx
    obtain ⟨a, s2, p2, q, c⟩ := ih r Q p s1 h
    exact ⟨a, s2, p2, q, .step (step_call ..) (.trans hc1 (.step (step_leaf_ret ..) c))⟩
  | handled own k ih =>
    intro Q p s h
    obtain ⟨a, s2, p2, q, c⟩ := ih _ Q p s h
    refine ⟨a, s2, p2, q, .step ?_ c⟩
    show M.step s ⟨.handled own (fun x => (k x).wrap K H gd lv), G.code, p, st⟩ = _
    rw [step_handled]
    cases own
    · rw [hf.handled]; rfl
    · rw [hf.own]; rfl
  | genState g k ih => exact fun Q p s ⟨x, hg, h⟩ => let ⟨a, s2, p2, q, c⟩ := ih _ Q p s h; ⟨a, s2, p2, q, .step (step_genState _ _ _ _ _ _ hg) c⟩
  | newGen cd k ih => exact fun Q p s h => let ⟨a, s2, p2, q, c⟩ := ih _ Q p _ h; ⟨a, s2, p2, q, .step (step_newGen ..) c⟩
  | resume g r l k ih =>
    intro Q p s h
    obtain ⟨res, s1, hw, h⟩ := h
    obtain ⟨a, s2, p2, q, c⟩ := ih res Q p s1 h
    exact ⟨a, s2, p2, q, .trans (wakes_comes hf (lv l) (fun r => (k r).wrap K H gd lv) hw) c⟩
  | yield v g l k _ => exact fun Q p s h => h.elim
  | stack k ih =>
    intro Q p s h
    obtain ⟨a, s2, p2, q, c⟩ := ih _ Q p s h
    refine ⟨a, s2, p2, q, .step ?_ c⟩
    rw [hf.below]
    exact step_stack ..
  | fork cd k _ => exact fun Q p s h => h.elim
  | thread k ih => exact fun Q p s h => let ⟨a, s2, p2, q, c⟩ := ih _ Q p s h; ⟨a, s2, p2, q, .step (step_thread ..) c⟩
  | await b f d l k _ => exact fun Q p s h => h.elim
end
section
variable {α : Type} {tb : String → Option Builtin} {pr : Program} {w : World} {n0 : Nat} {ann : Option Value} {B : List Frame} {K2 : α → Sem Fin} {H2 : Value → Sem Fin} {gd : Bool → Bool} {lv : List Value → List Value} {res : α → Flow}
theorem calm_of {t : Thread} (h : stepOk n0 ann t = true) : t.calm = true := (Bool.and_eq_true_iff.mp h).1
theorem segRn (hB : splitAtGen B = none) : ∀ (n : Nat) (s : Shared) (t t' : Thread) (f : Flow) (s' : Shared) (c' : Code) (p' : Pos),
    Rel2 (fun a => .pure (.done (res a))) K2 deadEnd H2 gd lv B t t' → segRun tb pr w n0 ann B.length n s t = some (f, s', c', p') →
    ∃ a, res a = f ∧ Rn (denote tb) pr w s t' s' ⟨K2 a, c', p', B⟩ := by
  intro n
  induction n with
  | zero => intro s t t' f s' c' p' R h; simp [segRun] at h
  | succ n ih =>
    rintro s ⟨cur, code, pos, st⟩ ⟨cur', code', pos', st'⟩ f s' c' p' ⟨e1, e2, R⟩ h
    dsimp only at e1 e2 R
    subst e1 e2
    unfold segRun at h
    cases he : endAt B.length ⟨cur, code, pos, st⟩ with
    | some g =>
      rw [he] at h
      have h5 : (g, s, code, pos) = (f, s', c', p') := Option.some.inj h
      simp only [Prod.mk.injEq] at h5
      obtain ⟨rfl, rfl, rfl, rfl⟩ := h5
      rcases R with ⟨rfl, rfl, x, rfl, rfl⟩ | ⟨rfl, F⟩
      · cases x with
        | pure a =>
          simp only [endAt, Sem.wrap, beq_self_eq_true, Option.some.injEq] at he
          exact ⟨a, he, .refl rfl rfl⟩
        | _ => simp [endAt, Sem.wrap] at he
      · have z : (st.length == B.length) = false := beq_eq_false_iff_ne.mpr (Nat.ne_of_gt F.longer.1)
        simp only [endAt, z] at he
        cases he
    | none =>
      rw [he] at h
      cases hk : stepOk n0 ann ⟨cur, code, pos, st⟩ with
      | false => rw [hk] at h; cases h
      | true =>
        rw [hk] at h
        cases hs : PySem.step (denote tb) pr w s ⟨cur, code, pos, st⟩ with
        | halt o s2 => rw [hs] at h; cases h
        | go s2 t2 =>
          rw [hs] at h
          have key : stepOk n0 ann ⟨cur', code, pos, st'⟩ = true ∧ ∃ t3, PySem.step (denote tb) pr w s ⟨cur', code, pos, st'⟩ = .go s2 t3 ∧ Rel2 (fun a => .pure (.done (res a))) K2 deadEnd H2 gd lv B t2 t3 := by
            rcases R with ⟨rfl, rfl, x, rfl, rfl⟩ | ⟨rfl, F⟩
            · have np : ∀ a, x ≠ .pure a := fun a z => by
                subst z
                simp [endAt, Sem.wrap] at he
              have nr : ∀ e, x ≠ .raise e := fun e z => by
                subst z
                obtain ⟨heap, gens, drawn, toks, os⟩ := s
                simp only [Sem.wrap, PySem.step] at hs
                cases hs
              exact ⟨(okOuter (K' := K2) (H' := H2) np nr hk).1, step_outer hB np hs⟩
            · exact ⟨(okInner hB F hk).1, step_inner hB F hs⟩
          obtain ⟨k1, t3, k2, R2⟩ := key
          obtain ⟨a, ha, r⟩ := ih s2 t2 t3 f s' c' p' R2 h
          exact ⟨a, ha, .step (calm_of k1) (by rw [k2]) r⟩
variable {env : Env} {q : Pos}
theorem pieces {n : Nat} {s s' : Shared} {l rest : List Stmt} {c : Code} {pos p' : Pos} (h : segRun tb pr w n0 ann 1 n s (piecesOf l env c pos [topFrame q]) = some (.next, s', c, p')) :
    Rn (denote tb) pr w s (restOf (l ++ rest) env c pos [topFrame q]) s' (restOf rest env c p' [topFrame q]) := by
  have R : Rel2 (fun a : Flow => .pure (.done (id a))) (fun f => match f with | .next => (execs rest env).wrap doneF (leaveH env) id id | f => doneF f) deadEnd (leaveH env) id id [topFrame q]
      (piecesOf l env c pos [topFrame q]) ⟨(execs l env).wrap (fun f => match f with | .next => (execs rest env).wrap doneF (leaveH env) id id | f => doneF f) (leaveH env) id id, c, pos, [topFrame q]⟩ :=
    ⟨rfl, rfl, .inl ⟨rfl, rfl, _, rfl, rfl⟩⟩
  obtain ⟨a, ha, r⟩ := segRn rfl n s _ _ _ _ _ _ R h
  have ea : a = .next := ha
  subst ea
  unfold restOf
  rw [execs_app_wrap]
  exact r
theorem block {n : Nat} {s s' : Shared} {b : List Stmt} {c : Code} {pos p' : Pos} (h : segRun tb pr w n0 ann 1 n s (blockOf b env c pos [topFrame q]) = some (.next, s', c, p')) :
    Rn (denote tb) pr w s ⟨denote tb (.body b env), c, pos, [topFrame q]⟩ s' (restOf b env c p' [topFrame q]) := by
  have R : Rel2 (fun a : Unit => .pure (.done ((fun _ => Flow.next) a))) (fun _ => (execs b env).wrap doneF (leaveH env) id id) deadEnd Sem.raise id id [topFrame q]
      (blockOf b env c pos [topFrame q]) ⟨(blockStart b env).wrap (fun _ => (execs b env).wrap doneF (leaveH env) id id) .raise id id, c, pos, [topFrame q]⟩ :=
    ⟨rfl, rfl, .inl ⟨rfl, rfl, _, rfl, rfl⟩⟩
  obtain ⟨a, ha, r⟩ := segRn (res := fun _ : Unit => Flow.next) rfl n s _ _ _ _ _ _ R h
  rw [body_wrap]
  exact r
theorem goRn : ∀ {n : Nat} {s s' : Shared} {t t' : Thread}, topGo tb pr w n0 ann n s t = some (s', t') → Rn (denote tb) pr w s t s' t'
  | 0, s, s', t, t', h => by
    have h5 : (s, t) = (s', t') := Option.some.inj h
    simp only [Prod.mk.injEq] at h5
    obtain ⟨rfl, rfl⟩ := h5
    exact .refl rfl rfl
  | n + 1, s, s', t, t', h => by
    unfold topGo at h
    cases ht : through t with
    | true => rw [ht] at h; cases h
    | false =>
      rw [ht] at h
      cases hk : stepOk n0 ann t with
      | false => rw [hk] at h; cases h
      | true =>
        rw [hk] at h
        cases hs : PySem.step (denote tb) pr w s t with
        | halt o z => rw [hs] at h; cases h
        | go z u => rw [hs] at h; exact .step (calm_of hk) (by rw [hs]) (goRn h)
end
end LedRun
/-! LedDisp -/
namespace LedRun
open PySem PySem.W PySem.Calls PyProof.Rows
def strVs : List Str → Nat → List Value
  | [], _ => []
  | x :: r, k => .str x k :: strVs r (k + 1)
theorem strVs_len : ∀ (l : List Str) (k : Nat), (strVs l k).length = l.length
  | [], _ => rfl
  | _ :: r, k => by show (strVs r (k + 1)).length + 1 = r.length + 1; rw [strVs_len r]
def tupO (xs : List Str) (k : Nat) : Obj := { cls := .type "tuple", data := .seq (strVs xs k).toArray }
def mkT (xs : List Str) (s : Shared) : Shared := { s with heap := s.heap.push (tupO xs s.toks), toks := s.toks + xs.length }
abbrev P2 := List Str × List Str
section
variable {prog : Program} {w : World} {A : Around} {E : Value → Shared → Prop} {s : Shared} {env : Env}
abbrev knd (prog : Program) (w : World) := tupleKind (PySem.strKind prog w)
/-- the expression makes a new tuple of these texts -/
def Mk (prog : Program) (w : World) (t : Sem Value) (xs : List Str) : Prop := ∀ (A : Around) (E : Value → Shared → Prop) (s : Shared) (Q : Value → Shared → Prop), Q (.ref s.heap.objs.size) (mkT xs s) → wpAny (model prog w) A t Q E s
def isStrs : List Expr → List Str → Bool
  | [], [] => true
  | .Constant (.str x) _ _ :: r, y :: l => decide (x = y) && isStrs r l
  | _, _ => false
theorem spl_strs {pos : Pos} : ∀ (es : List Expr) (xs : List Str) (s : Shared) (Q : List Value → Shared → Prop), isStrs es xs = true → Q (strVs xs s.toks) { s with toks := s.toks + xs.length } →
    wpAny (model prog w) A (spliced (backTo pos (starEach es env))) Q E s
  | [], [], s, Q, _, h => spliced_nil (by
      have e : ({ s with toks := s.toks + ([] : List Str).length } : Shared) = s := by simp
      rw [e] at h
      exact h)
  | e :: r, [], s, Q, z, _ => by
    cases e <;> first | cases z | (rename_i c _ _; cases c <;> cases z)
  | [], _ :: _, s, Q, z, _ => by cases z
  | e :: r, y :: l, s, Q, z, h => by
    cases e <;> try cases z
    rename_i c k p
    cases c <;> try cases z
    rename_i x
    obtain ⟨z1, z2⟩ := Bool.and_eq_true_iff.mp z
    have ex : x = y := of_decide_eq_true z1
    subst ex
    refine spliced_cons ?_
    show wpAny _ _ (eval (.Constant (.str x) k p) env) _ _ s
    refine Constant_str ?_
    refine spl_strs r l _ _ z2 ?_
    have e : ({ s with toks := s.toks + 1 + l.length } : Shared) = { s with toks := s.toks + (x :: l).length } := by
      rw [List.length_cons, Nat.add_assoc, Nat.add_comm 1]
    show Q (.str x s.toks :: strVs l (s.toks + 1)) { s with toks := s.toks + 1 + l.length }
    rw [e]
    exact h
def isTup : Expr → List Str → Bool
  | .Tuple es _ _, xs => isStrs es xs && decide (xs.length ≤ 1000)
  | _, _ => false
theorem mk_tup {e : Expr} {xs : List Str} (h : isTup e xs = true) : Mk prog w (eval e env) xs := by
  intro A E s Q q
  cases e <;> try cases h
  rename_i es k pos
  obtain ⟨h1, h2⟩ := Bool.and_eq_true_iff.mp h
  have hl : xs.length ≤ 1000 := of_decide_eq_true h2
  refine wpAny_Tuple_spliced (spl_strs es xs s _ h1 ⟨?_, q⟩)
  rw [strVs_len]
  exact Nat.le_trans hl (by decide)
theorem mk_then {t : Sem Value} {xs : List Str} {pos : Pos} (h : Mk prog w t xs) : Mk prog w (do let x ← t; standAt pos; pure x) xs := fun A E s Q q =>
  wpAny_bind (h A E s _ (wpAny_bind (wpAny_standAt (wpAny_pure q))))
def putE (d : Addr) (h : Int) (k v : Value) (s : Shared) : Shared := { s with heap := s.heap.update d (Obj.mapDictKeys (·.push ⟨h, k, v⟩)) }
def hsh (w : World) (prog : Program) (ks : List Str) : Int := (knd prog w).hash ks
theorem key_tup {s : Shared} {xs : List Str} {k : Nat} {a : Addr} {h : Heap} (e : h.get? a = some (tupO xs k)) : (knd prog w).is h xs a := by
  refine ⟨tupO xs k, (strVs xs k).toArray, 0, e, rfl, rfl, ?_⟩
  show ItemsAre (PySem.strKind prog w) xs (strVs xs k).toArray.toList
  rw [List.toList_toArray]
  clear e
  induction xs generalizing k with
  | nil => exact .nil
  | cons x r ih => exact .cons (strKind_is prog w x k) ih
theorem dof_keep {h h' : Heap} {d : Addr} {xs : List (List Str × Addr × Value)} (hm : h.DictOfH (knd prog w) d xs) (k : ∀ b o, h.get? b = some o → h'.get? b = some o) : h'.DictOfH (knd prog w) d xs := by
  obtain ⟨o, es, ep, ho, hc, hd, he, his, hn⟩ := hm
  refine ⟨o, es, ep, k _ _ ho, hc, hd, he, fun x hx => ?_, hn⟩
  obtain ⟨o1, it, n, e1, e2⟩ := his x hx
  exact ⟨o1, it, n, k _ _ e1, e2⟩
theorem dof_same {h h' : Heap} {d c : Addr} {xs : List (List Str × Addr × Value)} {o : Obj} {es : Array DictEntry} {ep : Nat} (hm : h.DictOfH (knd prog w) d xs) (hc : h.get? c = some o) (hod : o.data = .dict es ep) (hne : d ≠ c) (sb : Heap.SameBut c h h') : h'.DictOfH (knd prog w) d xs := by
  obtain ⟨o2, es2, ep2, ho, hc2, hd, he, his, hn⟩ := hm
  exact ⟨o2, es2, ep2, (sb.2 d hne).trans ho, hc2, hd, he, fun x hx => (knd prog w).keeps (his x hx) hc hod sb, hn⟩
theorem dof_put {d : Addr} {xs : List (List Str × Addr × Value)} {k : List Str} {a : Addr} {v : Value} (hm : s.heap.DictOfH (knd prog w) d xs) (hk : (knd prog w).is s.heap k a) (hn : k ∉ xs.map (·.1)) :
    (putE d (hsh w prog k) (.ref a) v s).heap.DictOfH (knd prog w) d (xs ++ [(k, a, v)]) := by
  obtain ⟨o, es, ep, ho, hc, hd, he, his, hnd⟩ := hm
  refine ⟨_, es.push ⟨hsh w prog k, .ref a, v⟩, ep + 1, Heap.get?_update_self _ ho (Obj.isFreed_of_dict (Obj.data_mapDictKeys hd _)), hc.mapDictKeys _, Obj.data_mapDictKeys hd _, ?_, ?_, ?_⟩
  · rw [Array.toList_push, he, List.map_append]
    rfl
  · intro x hx
    rcases List.mem_append.mp hx with hx | hx
    · exact (knd prog w).keeps (his x hx) ho hd (Heap.SameBut.update ..)
    · rw [List.mem_singleton] at hx
      subst hx
      exact (knd prog w).keeps hk ho hd (Heap.SameBut.update ..)
  · rw [List.map_append, List.nodup_append]
    refine ⟨hnd, by simp, fun x hx y hy e => ?_⟩
    rw [List.map_cons, List.map_nil, List.mem_singleton] at hy
    have z : x = k := e.trans hy
    rw [z] at hx
    exact hn hx
theorem none_at {xs : List (List Str × Addr × Value)} {k : List Str} (hn : k ∉ xs.map (·.1)) {j : Nat} {p : Addr × Value} : xs[j]? ≠ some (k, p) := fun e =>
  hn (List.mem_map.mpr ⟨_, List.mem_of_getElem? e, rfl⟩)
theorem size_ofD {d : Addr} {xs : List (List Str × Addr × Value)} {o : Obj} {es : Array DictEntry} (he : es.toList = xs.map (entryOfKey (knd prog w))) : es.size = xs.length := size_of_entries he
def setE (w : World) (prog : Program) (d : Addr) (ks : List Str) (a : Addr) (v : Value) (s : Shared) : Shared := putE d (hsh w prog ks) (.ref a) v { s with toks := s.toks + (ks.length + 1) }
theorem set_new {d a : Addr} {xs : List (List Str × Addr × Value)} {k : List Str} {v : Value} {Q : Unit → Shared → Prop} (hu : A.units < cLine) (hk : (knd prog w).is s.heap k a) (hm : s.heap.DictOfH (knd prog w) d xs) (hn : k ∉ xs.map (·.1)) (hl : xs.length ≤ 1000)
    (q : Q () (setE w prog d k a v s)) : wpAny (model prog w) A (dictSet d (.ref a) v) Q E s := by
  obtain ⟨o, es, ep, ho, hc, hd, he, his, hnd⟩ := hm
  unfold dictSet
  refine wpAny_holding ?_
  refine wpAny_bind ((knd prog w).pyHash hu hk ?_)
  unfold dictSetHashed
  refine wpAny_holding ?_
  refine wpAny_bind (wpAny_dictFind_heap (knd := knd prog w) (s := { s with toks := s.toks + (knd prog w).draws k }) hu hk ho hd he his hnd (fun _ => ?_) fun j p e => absurd e (none_at hn))
  have hz : es.size ≤ sizeLine := by
    rw [size_of_entries he]
    exact Nat.le_trans hl (by decide)
  exact wpAny_bind (wpAny_rule (wpAny_updateDictKeys (hz := hz) (s := { s with toks := s.toks + (knd prog w).draws k }) ho hd q))
theorem put_new {d a : Addr} {xs : List (List Str × Addr × Value)} {k : List Str} {v : Value} {Q : Unit → Shared → Prop} (hu : A.units < cLine) (hk : (knd prog w).is s.heap k a) (hm : s.heap.DictOfH (knd prog w) d xs) (hn : k ∉ xs.map (·.1)) (hl : xs.length ≤ 1000)
    (q : Q () (putE d (hsh w prog k) (.ref a) v s)) : wpAny (model prog w) A (dictPut d (hsh w prog k) (.ref a) v) Q E s := by
  obtain ⟨o, es, ep, ho, hc, hd, he, his, hnd⟩ := hm
  unfold dictPut
  refine wpAny_bind (wpAny_dictFind_heap (knd := knd prog w) hu hk ho hd he his hnd (fun _ => ?_) fun j p e => absurd e (none_at hn))
  have hz : es.size ≤ sizeLine := by
    rw [size_of_entries he]
    exact Nat.le_trans hl (by decide)
  exact wpAny_updateDictKeys (hz := hz) ho hd q
end
end LedRun
/-! LedDisp2 -/
namespace LedRun
open PySem PySem.W PySem.Calls PyProof.Rows
abbrev Ent := List Str × Addr × Value
def MkP (prog : Program) (w : World) : List (Sem Value × Sem Value) → List P2 → Prop
  | [], [] => True
  | p :: r, x :: l => Mk prog w p.1 x.1 ∧ Mk prog w p.2 x.2 ∧ MkP prog w r l
  | _, _ => False
theorem MkP.len {prog : Program} {w : World} : ∀ {a : List (Sem Value × Sem Value)} {b : List P2}, MkP prog w a b → a.length = b.length
  | [], [], _ => rfl
  | _ :: _, _ :: _, h => by rw [List.length_cons, List.length_cons, MkP.len h.2.2]
  | [], _ :: _, h => h.elim
  | _ :: _, [], h => h.elim
theorem MkP.app {prog : Program} {w : World} : ∀ {a c : List (Sem Value × Sem Value)} {b d : List P2}, MkP prog w a b → MkP prog w c d → MkP prog w (a ++ c) (b ++ d)
  | [], _, [], _, _, k => k
  | _ :: _, _, _ :: _, _, h, k => ⟨h.1, h.2.1, MkP.app h.2.2 k⟩
  | [], _, _ :: _, _, h, _ => h.elim
  | _ :: _, _, [], _, h, _ => h.elim
def entL : Nat → List P2 → List Ent
  | _, [] => []
  | n, (ks, _) :: r => (ks, n, .ref (n + 1)) :: entL (n + 2) r
theorem entL_keys : ∀ (l : List P2) (n : Nat), (entL n l).map (·.1) = l.map (·.1)
  | [], _ => rfl
  | (ks, vs) :: r, n => by show ks :: (entL (n + 2) r).map (·.1) = ks :: r.map (·.1); rw [entL_keys r]
theorem entL_len (l : List P2) (n : Nat) : (entL n l).length = l.length := by
  have h := congrArg List.length (entL_keys l n)
  rw [List.length_map, List.length_map] at h
  exact h
def evS : List P2 → Shared → Shared
  | [], s => s
  | (ks, vs) :: r, s => evS r (mkT vs (mkT ks s))
theorem mkT_size (xs : List Str) (s : Shared) : (mkT xs s).heap.objs.size = s.heap.objs.size + 1 := Heap.size_push ..
theorem mkT_keep (xs : List Str) (s : Shared) : ∀ b o, s.heap.get? b = some o → (mkT xs s).heap.get? b = some o := fun b o e => Heap.get?_push_of_some _ e
theorem evS_keep : ∀ (l : List P2) (s : Shared), ∀ b o, s.heap.get? b = some o → (evS l s).heap.get? b = some o
  | [], _, _, _, e => e
  | (ks, vs) :: r, s, b, o, e => evS_keep r _ b o (mkT_keep _ _ _ _ (mkT_keep _ _ _ _ e))
theorem evS_size : ∀ (l : List P2) (s : Shared), (evS l s).heap.objs.size = s.heap.objs.size + 2 * l.length
  | [], _ => rfl
  | (ks, vs) :: r, s => by
    show (evS r (mkT vs (mkT ks s))).heap.objs.size = _
    rw [evS_size r, mkT_size, mkT_size, List.length_cons]
    omega
theorem mkT_new (xs : List Str) (s : Shared) : (mkT xs s).heap.get? s.heap.objs.size = some (tupO xs s.toks) := Heap.get?_push_size _ rfl
section
variable {prog : Program} {w : World}
theorem evS_keys : ∀ (l : List P2) (s : Shared), ∀ x ∈ entL s.heap.objs.size l, (knd prog w).is (evS l s).heap x.1 x.2.1
  | [], _, x, h => by cases h
  | (ks, vs) :: r, s, x, h => by
    rcases List.mem_cons.mp h with h | h
    · subst h
      exact key_tup (s := s) (evS_keep r _ _ _ (mkT_keep vs _ _ _ (mkT_new ks s)))
    · refine evS_keys r (mkT vs (mkT ks s)) x ?_
      rw [mkT_size, mkT_size]
      exact h
variable {A : Around} {E : Value → Shared → Prop} {s : Shared}
def setsS (w : World) (prog : Program) (d : Addr) : List Ent → Shared → Shared
  | [], s => s
  | (ks, a, v) :: r, s => setsS w prog d r (setE w prog d ks a v s)
def putsS (w : World) (prog : Program) (d : Addr) : List Ent → Shared → Shared
  | [], s => s
  | (ks, a, v) :: r, s => putsS w prog d r (putE d (hsh w prog ks) (.ref a) v s)
def longS (w : World) (prog : Program) (d : Addr) : List P2 → Shared → Shared
  | [], s => s
  | (ks, vs) :: r, s => longS w prog d r (setE w prog d ks s.heap.objs.size (.ref (s.heap.objs.size + 1)) (mkT vs (mkT ks s)))
def newD (s : Shared) : Shared := { s with heap := s.heap.push { cls := .type "dict", data := .dict #[] } }
def subX (w : World) (prog : Program) (l : List P2) (s : Shared) : Shared :=
  if l.length ≤ 15 then setsS w prog s.heap.objs.size (entL (s.heap.objs.size + 1) l) (evS l (newD s)) else longS w prog s.heap.objs.size l (newD s)
theorem putE_sb (d : Addr) (h : Int) (k v : Value) (s : Shared) : Heap.SameBut d s.heap (putE d h k v s).heap := Heap.SameBut.update ..
theorem putE_size (d : Addr) (h : Int) (k v : Value) (s : Shared) : (putE d h k v s).heap.objs.size = s.heap.objs.size := (putE_sb d h k v s).1
theorem keys_one {xs : List Ent} {ks : List Str} {L : List (List Str)} (h : (xs.map (·.1) ++ ks :: L).Nodup) : ks ∉ xs.map (·.1) := by
  rw [List.nodup_append] at h
  exact fun z => h.2.2 ks z ks (List.mem_cons_self ..) rfl
theorem keys_next {xs : List Ent} {ks : List Str} {a : Addr} {v : Value} {L : List (List Str)} (h : (xs.map (·.1) ++ ks :: L).Nodup) : ((xs ++ [(ks, a, v)]).map (·.1) ++ L).Nodup := by
  rw [List.map_append, List.append_assoc]
  exact h
/-- the entries one by one into d, all keys there -/
theorem sets_ok {d : Addr} (hu : A.units < cLine) : ∀ (l : List Ent) (xs : List Ent) (s : Shared) (Q : PUnit → Shared → Prop), s.heap.DictOfH (knd prog w) d xs → (∀ x ∈ l, (knd prog w).is s.heap x.1 x.2.1) → (xs.map (·.1) ++ l.map (·.1)).Nodup → xs.length + l.length ≤ 1000 →
    ((setsS w prog d l s).heap.DictOfH (knd prog w) d (xs ++ l) → Q PUnit.unit (setsS w prog d l s)) →
    wpAny (model prog w) A (forIn (l.map fun x => ((Value.ref x.2.1, x.2.2) : Value × Value)) PUnit.unit fun (x : Value × Value) (_ : PUnit) => (do dictSet d x.1 x.2; pure (ForInStep.yield PUnit.unit) : Sem (ForInStep PUnit))) Q E s
  | [], xs, s, Q, hm, _, _, _, q => by
    rw [List.map_nil, List.forIn_nil]
    rw [List.append_nil] at q
    exact wpAny_pure (q hm)
  | (ks, a, v) :: r, xs, s, Q, hm, hk, hn, hl, q => by
    rw [List.length_cons] at hl
    have hk1 : (knd prog w).is s.heap ks a := hk (ks, a, v) (List.mem_cons_self ..)
    have hn1 : ks ∉ xs.map (·.1) := keys_one hn
    rw [List.map_cons, List.forIn_cons]
    refine wpAny_bind (wpAny_bind (set_new hu hk1 hm hn1 (by omega) (wpAny_pure ?_)))
    have hm1 : (setE w prog d ks a v s).heap.DictOfH (knd prog w) d (xs ++ [(ks, a, v)]) := dof_put (s := { s with toks := s.toks + (ks.length + 1) }) hm hk1 hn1
    obtain ⟨o, es, ep, ho, _, hd, _⟩ := hm
    refine sets_ok hu r _ _ Q hm1 (fun x hx => (knd prog w).keeps (hk x (List.mem_cons_of_mem _ hx)) ho hd (putE_sb ..)) (keys_next hn) (by rw [List.length_append, List.length_singleton]; omega) ?_
    rw [List.append_assoc]
    exact q
theorem long_ok {d : Addr} (hu : A.units < cLine) : ∀ (ts : List (Sem Value × Sem Value)) (l : List P2) (xs : List Ent) (s : Shared) (Q : PUnit → Shared → Prop), MkP prog w ts l → s.heap.DictOfH (knd prog w) d xs → (xs.map (·.1) ++ l.map (·.1)).Nodup → xs.length + l.length ≤ 1000 →
    ((longS w prog d l s).heap.DictOfH (knd prog w) d (xs ++ entL s.heap.objs.size l) → Q PUnit.unit (longS w prog d l s)) →
    wpAny (model prog w) A (forIn ts PUnit.unit fun (x : Sem Value × Sem Value) (_ : PUnit) => (do let kv ← x.1; let vv ← holding [kv] x.2; holding [kv, vv] (dictSet d kv vv); pure (ForInStep.yield PUnit.unit) : Sem (ForInStep PUnit))) Q E s
  | [], [], xs, s, Q, _, hm, _, _, q => by
    rw [List.forIn_nil]
    rw [show entL s.heap.objs.size [] = [] from rfl, List.append_nil] at q
    exact wpAny_pure (q hm)
  | [], _ :: _, _, _, _, h, _, _, _, _ => h.elim
  | _ :: _, [], _, _, _, h, _, _, _, _ => h.elim
  | (tk, tv) :: ts, (ks, vs) :: r, xs, s, Q, ⟨h1, h2, h3⟩, hm, hn, hl, q => by
    rw [List.length_cons] at hl
    rw [List.forIn_cons]
    have hn1 : ks ∉ xs.map (·.1) := keys_one hn
    refine wpAny_bind (wpAny_bind (h1 _ _ _ _ (wpAny_bind (wpAny_holding (h2 _ _ _ _ (wpAny_bind (wpAny_holding ?_)))))))
    have hm0 : (mkT vs (mkT ks s)).heap.DictOfH (knd prog w) d xs := dof_keep hm fun b o e => mkT_keep _ _ _ _ (mkT_keep _ _ _ _ e)
    have hk0 : (knd prog w).is (mkT vs (mkT ks s)).heap ks s.heap.objs.size := key_tup (s := s) (mkT_keep vs _ _ _ (mkT_new ks s))
    rw [mkT_size]
    refine set_new hu hk0 hm0 hn1 (by omega) (wpAny_pure ?_)
    have hm1 := dof_put (v := .ref (s.heap.objs.size + 1)) (s := { mkT vs (mkT ks s) with toks := (mkT vs (mkT ks s)).toks + (ks.length + 1) }) hm0 hk0 hn1
    have sz : (setE w prog d ks s.heap.objs.size (.ref (s.heap.objs.size + 1)) (mkT vs (mkT ks s))).heap.objs.size = s.heap.objs.size + 2 := by
      show (putE _ _ _ _ _).heap.objs.size = _
      rw [putE_size]
      show (mkT vs (mkT ks s)).heap.objs.size = _
      rw [mkT_size, mkT_size]
    refine long_ok hu ts r _ _ Q h3 hm1 (keys_next hn) (by rw [List.length_append, List.length_singleton]; omega) ?_
    rw [sz, List.append_assoc]
    exact q
theorem evp_ok : ∀ (ts : List (Sem Value × Sem Value)) (l : List P2) (s : Shared) (Q : List (Value × Value) → Shared → Prop), MkP prog w ts l → Q ((entL s.heap.objs.size l).map fun x => (Value.ref x.2.1, x.2.2)) (evS l s) →
    wpAny (model prog w) A (evalPairs ts) Q E s
  | [], [], s, Q, _, q => wpAny_pure q
  | [], _ :: _, _, _, h, _ => h.elim
  | _ :: _, [], _, _, h, _ => h.elim
  | (tk, tv) :: ts, (ks, vs) :: r, s, Q, ⟨h1, h2, h3⟩, q => by
    unfold evalPairs
    refine wpAny_bind (h1 _ _ _ _ (wpAny_bind (wpAny_holding (h2 _ _ _ _ (wpAny_bind (wpAny_holding (evp_ok ts r _ _ h3 (wpAny_pure ?_))))))))
    simp only [mkT_size]
    exact q
theorem newD_of (s : Shared) : (newD s).heap.DictOfH (knd prog w) s.heap.objs.size [] := Heap.DictOfH.new s.heap
theorem newD_size (s : Shared) : (newD s).heap.objs.size = s.heap.objs.size + 1 := Heap.size_push ..
theorem sub_ok (hu : A.units < cLine) {ts : List (Sem Value × Sem Value)} {l : List P2} {Q : Addr → Shared → Prop} (h : MkP prog w ts l) (hn : (l.map (·.1)).Nodup) (hl : l.length ≤ 1000)
    (q : (subX w prog l s).heap.DictOfH (knd prog w) s.heap.objs.size (entL (s.heap.objs.size + 1) l) → Q s.heap.objs.size (subX w prog l s)) : wpAny (model prog w) A (subDict ts) Q E s := by
  unfold subDict
  refine wpAny_bind (wpAny_alloc ?_)
  refine wpAny_bind (wpAny_holding ?_)
  unfold subX at q
  by_cases h15 : l.length ≤ 15
  · rw [if_pos h15] at q
    rw [if_pos (by rw [h.len]; exact h15)]
    refine wpAny_bind (evp_ok ts l (newD s) _ h ?_)
    refine wpAny_holding ?_
    rw [newD_size]
    refine wpAny_bind (sets_ok hu (entL (s.heap.objs.size + 1) l) [] (evS l (newD s)) _ (dof_keep (newD_of s) (evS_keep l _)) ?_ (by rw [entL_keys]; exact hn) (by rw [entL_len]; simpa using hl) fun hm => wpAny_pure (wpAny_pure (q hm)))
    intro x hx
    refine evS_keys l (newD s) x ?_
    rw [newD_size]
    exact hx
  · rw [if_neg h15] at q
    rw [if_neg (by rw [h.len]; exact h15)]
    refine wpAny_bind (wpAny_rule ?_)
    refine wpAny_bind (long_ok hu ts l [] (newD s) _ h (newD_of s) hn (by simpa using hl) fun hm => wpAny_pure (wpAny_pure (q ?_)))
    rw [newD_size, List.nil_append] at hm
    exact hm
theorem puts_dof {d : Addr} : ∀ (l : List Ent) (xs : List Ent) (s : Shared), s.heap.DictOfH (knd prog w) d xs → (∀ x ∈ l, (knd prog w).is s.heap x.1 x.2.1) → (xs.map (·.1) ++ l.map (·.1)).Nodup → (putsS w prog d l s).heap.DictOfH (knd prog w) d (xs ++ l)
  | [], xs, s, hm, _, _ => by rw [List.append_nil]; exact hm
  | (ks, a, v) :: r, xs, s, hm, hk, hn => by
    have hk1 : (knd prog w).is s.heap ks a := hk (ks, a, v) (List.mem_cons_self ..)
    have hm1 := dof_put (v := v) hm hk1 (keys_one hn)
    obtain ⟨o, es, ep, ho, _, hd, _⟩ := hm
    have z := puts_dof r _ _ hm1 (fun x hx => (knd prog w).keeps (hk x (List.mem_cons_of_mem _ hx)) ho hd (putE_sb ..)) (keys_next hn)
    rw [List.append_assoc] at z
    exact z
theorem merge_loop {d c : Addr} (hu : A.units < cLine) (hdc : d ≠ c) {o : Obj} {es : Array DictEntry} {ep : Nat} {ys : List Ent} (hdat : o.data = .dict es ep) (hes : es.toList = ys.map (entryOfKey (knd prog w))) :
    ∀ (l : List Ent) (i : Nat) (xs : List Ent) (s : Shared) (Q : PUnit → Shared → Prop), s.heap.get? c = some o → s.heap.DictOfH (knd prog w) d xs → (∀ x ∈ l, (knd prog w).is s.heap x.1 x.2.1) → (xs.map (·.1) ++ l.map (·.1)).Nodup → xs.length + l.length ≤ 1000 → ys.drop i = l →
    Q PUnit.unit (putsS w prog d l s) →
    wpAny (model prog w) A (forIn (List.range' i l.length) PUnit.unit fun (i : Nat) (_ : PUnit) => (do
      match (← dictEntries c)[i]? with
      | some e => do
        holding [e.key, e.val] (dictPut d e.hash e.key e.val)
        let z ← dictEpoch c
        if (z != ep) = true then do
          let _ ← (unsupported "dict.changed-during-merge" : Sem PUnit)
          pure (ForInStep.yield PUnit.unit)
        else pure (ForInStep.yield PUnit.unit)
      | _ => do
        let _ ← (unsupported "dict.changed-during-merge" : Sem PUnit)
        pure (ForInStep.yield PUnit.unit) : Sem (ForInStep PUnit))) Q E s
  | [], i, xs, s, Q, _, _, _, _, _, _, q => by
    rw [List.length_nil, List.range'_zero, List.forIn_nil]
    exact wpAny_pure q
  | (ks, a, v) :: r, i, xs, s, Q, hc, hm, hk, hn, hl, hy, q => by
    rw [List.length_cons] at hl
    have hk1 : (knd prog w).is s.heap ks a := hk (ks, a, v) (List.mem_cons_self ..)
    have hn1 : ks ∉ xs.map (·.1) := keys_one hn
    rw [List.length_cons, List.range'_succ, List.forIn_cons]
    have hi : ys[i]? = some (ks, a, v) := by
      have z := congrArg (·[0]?) hy
      simpa using z
    have he : es[i]? = some (entryOfKey (knd prog w) (ks, a, v)) := by rw [entry_at hes i, hi]; rfl
    refine wpAny_bind (wpAny_bind (wpAny_dictEntries hc hdat ?_))
    rw [he]
    refine wpAny_bind (wpAny_holding ?_)
    show wpAny _ _ (dictPut d (hsh w prog ks) (.ref a) v) _ _ s
    refine put_new hu hk1 hm hn1 (by omega) ?_
    have hc1 : (putE d (hsh w prog ks) (.ref a) v s).heap.get? c = some o := ((putE_sb d _ _ v s).2 c (Ne.symm hdc)).trans hc
    refine wpAny_bind (wpAny_dictEpoch hc1 hdat ?_)
    rw [if_neg (by simp)]
    refine wpAny_pure ?_
    have hm1 := dof_put (v := v) hm hk1 hn1
    obtain ⟨o2, es2, ep2, ho2, _, hd2, _⟩ := hm
    refine merge_loop hu hdc hdat hes r (i + 1) _ _ Q hc1 hm1 (fun x hx => (knd prog w).keeps (hk x (List.mem_cons_of_mem _ hx)) ho2 hd2 (putE_sb ..)) (keys_next hn) (by rw [List.length_append, List.length_singleton]; omega) ?_ q
    have z := congrArg (List.drop 1) hy
    rw [List.drop_drop] at z
    exact z
theorem merge_ok {d c : Addr} (hu : A.units < cLine) (hdc : d ≠ c) (hcm : (c == sysModules) = false) {xs ys : List Ent} (hm : s.heap.DictOfH (knd prog w) d xs) (hy : s.heap.DictOfH (knd prog w) c ys) (hx : xs ≠ []) (hn : (xs.map (·.1) ++ ys.map (·.1)).Nodup) (hl : xs.length + ys.length ≤ 1000)
    {Q : Unit → Shared → Prop} (q : Q () (putsS w prog d ys s)) : wpAny (model prog w) A (mergeMapping d (.ref c) false) Q E s := by
  have hT := hy.typeIs
  have hm2 := hm
  obtain ⟨o, es, ep, ho, hex, hdat, hes, his, hnd⟩ := hy
  obtain ⟨o2, es2, ep2, ho2, hex2, hd2, he2, his2, hnd2⟩ := hm
  unfold mergeMapping
  refine wpAny_bind (wpAny_isInstance hT isSubtype_dict_dict ?_)
  rw [if_pos rfl]
  refine wpAny_bind (wpAny_specialOf hT F.slot_dict_iter.lookup ?_)
  refine wpAny_bind (wpAny_pure ?_)
  simp only [beq_self_eq_true]
  rw [if_neg (by rw [hcm]; exact Bool.false_ne_true)]
  refine wpAny_bind (wpAny_dictEntries ho2 hd2 ?_)
  have hne : es2.isEmpty = false := by
    cases z : es2.isEmpty with
    | false => rfl
    | true =>
      have z1 := Array.isEmpty_iff.mp z
      rw [z1] at he2
      cases xs with
      | nil => exact absurd rfl hx
      | cons _ _ => cases he2
  rw [if_neg (by rw [hne]; exact Bool.false_ne_true)]
  refine wpAny_bind (wpAny_dictEntries ho hdat ?_)
  refine wpAny_bind (wpAny_dictEpoch ho hdat ?_)
  rw [size_of_entries hes, List.range_eq_range']
  refine wpAny_bind (merge_loop hu hdc hdat hes ys 0 xs s (fun _ s' => wpAny (model prog w) A (pure ()) Q E s') ho hm2 his hn hl (by simp) (wpAny_pure q))
end
end LedRun
/-! LedDisp3 -/
namespace LedRun
open PySem PySem.W PySem.Calls PyProof.Rows
section
variable {prog : Program} {w : World} {A : Around} {E : Value → Shared → Prop} {s : Shared}
def flushS (w : World) (prog : Program) (l : List P2) (m : Option Addr) (s : Shared) : Option Addr × Shared := match l with
  | [] => (m, s)
  | x :: r => match m with
    | none => (some s.heap.objs.size, subX w prog (x :: r) s)
    | some d => (some d, putsS w prog d (entL (s.heap.objs.size + 1) (x :: r)) (subX w prog (x :: r) s))
/-- what the display holds so far -/
def Holds (w : World) (prog : Program) (m : Option Addr) (xs : List Ent) (s : Shared) : Prop := match m with
  | none => xs = []
  | some d => s.heap.DictOfH (knd prog w) d xs ∧ xs ≠ [] ∧ d < s.heap.objs.size
abbrev flushP (ts : List (Sem Value × Sem Value)) (m : Option Addr) : Sem (Option Addr) :=
  if ts.isEmpty = true then pure m else match m with
    | none => do let z ← subDict ts; pure (some z)
    | some d => do
      let sub ← holding [Value.ref d] (subDict ts)
      (holding [Value.ref d, Value.ref sub] (mergeMapping d (Value.ref sub) false)).onRaise fun x => do
        let _ ← holding [Value.ref d, x] (runValue (Code.builtin "proto.let_go" { }))
        pure ()
      pure (some d)
theorem setsS_sb {d : Addr} : ∀ (l : List Ent) (s : Shared), Heap.SameBut d s.heap (setsS w prog d l s).heap
  | [], s => Heap.SameBut.refl _ _
  | (ks, a, v) :: r, s => (putE_sb d (hsh w prog ks) (.ref a) v { s with toks := s.toks + (ks.length + 1) }).trans (setsS_sb r _)
theorem putsS_sb {d : Addr} : ∀ (l : List Ent) (s : Shared), Heap.SameBut d s.heap (putsS w prog d l s).heap
  | [], s => Heap.SameBut.refl _ _
  | (ks, a, v) :: r, s => (putE_sb d (hsh w prog ks) (.ref a) v s).trans (putsS_sb r _)
theorem longS_old {d : Addr} : ∀ (l : List P2) (s : Shared), s.heap.objs.size ≤ (longS w prog d l s).heap.objs.size ∧ ∀ b o, b ≠ d → s.heap.get? b = some o → (longS w prog d l s).heap.get? b = some o
  | [], s => ⟨Nat.le_refl _, fun _ _ _ e => e⟩
  | (ks, vs) :: r, s => by
    have z := longS_old (d := d) r (setE w prog d ks s.heap.objs.size (.ref (s.heap.objs.size + 1)) (mkT vs (mkT ks s)))
    have sb := putE_sb d (hsh w prog ks) (.ref s.heap.objs.size) (.ref (s.heap.objs.size + 1)) { mkT vs (mkT ks s) with toks := (mkT vs (mkT ks s)).toks + (ks.length + 1) }
    refine ⟨Nat.le_trans ?_ z.1, fun b o hb e => z.2 b o hb ((sb.2 b hb).trans (mkT_keep vs _ _ _ (mkT_keep ks _ _ _ e)))⟩
    show s.heap.objs.size ≤ (putE _ _ _ _ _).heap.objs.size
    rw [putE_size]
    show s.heap.objs.size ≤ (mkT vs (mkT ks s)).heap.objs.size
    rw [mkT_size, mkT_size]
    omega
theorem newD_keep (s : Shared) : ∀ b o, s.heap.get? b = some o → (newD s).heap.get? b = some o := fun b o e => Heap.get?_push_of_some _ e
theorem subX_old (l : List P2) (s : Shared) : s.heap.objs.size < (subX w prog l s).heap.objs.size ∧ ∀ b o, s.heap.get? b = some o → (subX w prog l s).heap.get? b = some o := by
  unfold subX
  have lt : ∀ b o, s.heap.get? b = some o → b ≠ s.heap.objs.size := fun b o e => Nat.ne_of_lt (Heap.lt_size e)
  split
  · have sb := setsS_sb (w := w) (prog := prog) (d := s.heap.objs.size) (entL (s.heap.objs.size + 1) l) (evS l (newD s))
    refine ⟨?_, fun b o e => (sb.2 b (lt b o e)).trans (evS_keep l _ b o (newD_keep s b o e))⟩
    rw [sb.1, evS_size, newD_size]
    omega
  · have z := longS_old (w := w) (prog := prog) (d := s.heap.objs.size) l (newD s)
    refine ⟨?_, fun b o e => z.2 b o (lt b o e) (newD_keep s b o e)⟩
    have z1 := z.1
    rw [newD_size] at z1
    omega
theorem flush_ok (hu : A.units < cLine) {ts : List (Sem Value × Sem Value)} {l : List P2} {m : Option Addr} {xs : List Ent} {Q : Option Addr → Shared → Prop} (h : MkP prog w ts l) (hm : Holds w prog m xs s) (hn : (xs.map (·.1) ++ l.map (·.1)).Nodup) (hl : xs.length + l.length ≤ 1000) (hlow : sysModules < s.heap.objs.size)
    (q : ∀ ys, ys.map (·.1) = xs.map (·.1) ++ l.map (·.1) → Holds w prog (flushS w prog l m s).1 ys (flushS w prog l m s).2 → sysModules < (flushS w prog l m s).2.heap.objs.size → Q (flushS w prog l m s).1 (flushS w prog l m s).2) :
    wpAny (model prog w) A (flushP ts m) Q E s := by
  unfold flushP
  cases l with
  | nil =>
    cases ts with
    | cons _ _ => exact h.elim
    | nil =>
      rw [if_pos (show ([] : List (Sem Value × Sem Value)).isEmpty = true from rfl)]
      exact wpAny_pure (q xs (by simp) hm hlow)
  | cons x r =>
    have hts : ts.isEmpty = false := by
      cases ts with
      | nil => exact h.elim
      | cons _ _ => rfl
    rw [if_neg (by rw [hts]; exact Bool.false_ne_true)]
    have hnl : ((x :: r).map (·.1)).Nodup := (List.nodup_append.mp hn).2.1
    have old := subX_old (w := w) (prog := prog) (x :: r) s
    cases m with
    | none =>
      refine wpAny_bind (sub_ok hu h hnl (by omega) fun hd => wpAny_pure (q (entL (s.heap.objs.size + 1) (x :: r)) ?_ ⟨hd, ?_, old.1⟩ (Nat.lt_trans hlow old.1)))
      · have hx : xs = [] := hm
        rw [hx, entL_keys]
        rfl
      · intro z
        have z1 := entL_len (x :: r) (s.heap.objs.size + 1)
        rw [z] at z1
        cases z1
    | some d =>
      obtain ⟨hd, hne, hlt⟩ := hm
      refine wpAny_bind (wpAny_holding (sub_ok hu h hnl (by omega) fun hs => ?_))
      have hd1 : (subX w prog (x :: r) s).heap.DictOfH (knd prog w) d xs := dof_keep hd old.2
      have hdc : d ≠ s.heap.objs.size := Nat.ne_of_lt hlt
      have hcs : (s.heap.objs.size == sysModules) = false := beq_eq_false_iff_ne.mpr (Nat.ne_of_gt hlow)
      have hk2 : (xs.map (·.1) ++ (entL (s.heap.objs.size + 1) (x :: r)).map (·.1)).Nodup := by rw [entL_keys]; exact hn
      refine wpAny_bind (wpAny_onRaise (wpAny_mono (wpAny_holding (merge_ok (E := fun _ _ => False) (Q := fun _ s' => s' = putsS w prog d (entL (s.heap.objs.size + 1) (x :: r)) (subX w prog (x :: r) s)) hu hdc hcs hd1 hs hne hk2 (by rw [entL_len]; exact hl) rfl)) ?_ ?_))
      · intro u s' es
        subst es
        refine wpAny_pure (q (xs ++ entL (s.heap.objs.size + 1) (x :: r)) (by rw [List.map_append, entL_keys]) ⟨?_, ?_, ?_⟩ ?_)
        · obtain ⟨o, es, ep, ho, hex, hdat, hes, his, hnd⟩ := hs
          exact puts_dof _ _ _ hd1 his hk2
        · exact fun z => hne (List.append_eq_nil_iff.mp z).1
        · rw [show (flushS w prog (x :: r) (some d) s).2 = putsS w prog d (entL (s.heap.objs.size + 1) (x :: r)) (subX w prog (x :: r) s) from rfl, (putsS_sb _ _).1]
          exact Nat.lt_trans hlt old.1
        · rw [show (flushS w prog (x :: r) (some d) s).2 = putsS w prog d (entL (s.heap.objs.size + 1) (x :: r)) (subX w prog (x :: r) s) from rfl, (putsS_sb _ _).1]
          exact Nat.lt_trans hlow old.1
      · exact fun _ _ z => z.elim
/-- the whole display -/
def dispS (w : World) (prog : Program) : List P2 → List P2 → Option Addr → Shared → Option Addr × Shared
  | [], run, m, s => flushS w prog run m s
  | p :: r, run, m, s => if (run ++ [p]).length = 17 then dispS w prog r [] (flushS w prog (run ++ [p]) m s).1 (flushS w prog (run ++ [p]) m s).2 else dispS w prog r (run ++ [p]) m s
abbrev St2 := Option Addr × List (Sem Value × Sem Value)
abbrev turnP (p : Sem Value × Sem Value) (st : St2) : Sem (ForInStep St2) :=
  if ((st.2 ++ [(p.1, p.2)]).length == 17) = true then do
    let m ← flushP (st.2 ++ [(p.1, p.2)]) st.1
    pure (ForInStep.yield (m, []))
  else pure (ForInStep.yield (st.1, st.2 ++ [(p.1, p.2)]))
theorem disp_loop (hu : A.units < cLine) {body : Option (Sem Value) × Sem Value → St2 → Sem (ForInStep St2)} (hb : ∀ p st, body (some p.1, p.2) st = turnP p st) : ∀ (ts : List (Sem Value × Sem Value)) (l : List P2) (run : List (Sem Value × Sem Value)) (lr : List P2) (m : Option Addr) (xs : List Ent) (s : Shared) (Q : Value → Shared → Prop),
    MkP prog w ts l → MkP prog w run lr → Holds w prog m xs s → (xs.map (·.1) ++ (lr.map (·.1) ++ l.map (·.1))).Nodup → xs.length + (lr.length + l.length) ≤ 1000 → sysModules < s.heap.objs.size →
    (∀ ys, ys.map (·.1) = xs.map (·.1) ++ (lr.map (·.1) ++ l.map (·.1)) → Holds w prog (dispS w prog l lr m s).1 ys (dispS w prog l lr m s).2 → ∀ d, (dispS w prog l lr m s).1 = some d → Q (.ref d) (dispS w prog l lr m s).2) →
    ((dispS w prog l lr m s).1.isSome = true) →
    wpAny (model prog w) A (forIn (ts.map fun p => (some p.1, p.2)) (m, run) body) (fun st s' => wpAny (model prog w) A (do
      let z ← flushP st.2 st.1
      match z with
      | some d => pure (Value.ref d)
      | none => newDict) Q E s') E s
  | [], [], run, lr, m, xs, s, Q, _, hr, hm, hn, hl, hlow, q, hz => by
    rw [List.map_nil, List.forIn_nil]
    refine wpAny_pure ?_
    have hn2 : (xs.map (·.1) ++ lr.map (·.1)).Nodup := by simpa using hn
    refine wpAny_bind (flush_ok hu hr hm hn2 (by simpa using hl) hlow fun ys e1 e2 _ => ?_)
    cases e : (flushS w prog lr m s).1 with
    | none =>
      have hz1 : (flushS w prog lr m s).1.isSome = true := hz
      rw [e] at hz1
      cases hz1
    | some d => exact wpAny_pure (q ys (by rw [e1]; simp) e2 d e)
  | [], _ :: _, _, _, _, _, _, _, h, _, _, _, _, _, _, _ => h.elim
  | _ :: _, [], _, _, _, _, _, _, h, _, _, _, _, _, _, _ => h.elim
  | (tk, tv) :: ts, p :: l, run, lr, m, xs, s, Q, ⟨h1, h2, h3⟩, hr, hm, hn, hl, hlow, q, hz => by
    rw [List.map_cons, List.forIn_cons, hb (tk, tv)]
    have hr1 : MkP prog w (run ++ [(tk, tv)]) (lr ++ [p]) := hr.app ⟨h1, h2, trivial⟩
    have hlen : (run ++ [(tk, tv)]).length = (lr ++ [p]).length := hr1.len
    have en : lr.map (·.1) ++ (p :: l).map (·.1) = (lr ++ [p]).map (·.1) ++ l.map (·.1) := by simp
    rw [en] at hn
    have el : lr.length + (p :: l).length = (lr ++ [p]).length + l.length := by
      rw [List.length_cons, List.length_append, List.length_singleton]
      omega
    rw [el] at hl
    have q' : ∀ ys, ys.map (·.1) = xs.map (·.1) ++ ((lr ++ [p]).map (·.1) ++ l.map (·.1)) → Holds w prog (dispS w prog (p :: l) lr m s).1 ys (dispS w prog (p :: l) lr m s).2 → ∀ d, (dispS w prog (p :: l) lr m s).1 = some d → Q (.ref d) (dispS w prog (p :: l) lr m s).2 := fun ys e => q ys (by rw [en]; exact e)
    unfold dispS at q' hz
    by_cases h17 : (lr ++ [p]).length = 17
    · rw [if_pos h17] at q' hz
      refine wpAny_bind ?_
      show wpAny _ _ (if ((run ++ [(tk, tv)]).length == 17) = true then _ else _) _ _ s
      rw [if_pos (by rw [hlen, h17]; rfl)]
      have hn2 : (xs.map (·.1) ++ (lr ++ [p]).map (·.1)).Nodup := by
        rw [← List.append_assoc] at hn
        exact (List.nodup_append.mp hn).1
      refine wpAny_bind (flush_ok hu hr1 hm hn2 (by omega) hlow fun ys e1 e2 e3 => wpAny_pure ?_)
      have ys_len : ys.length = xs.length + (lr ++ [p]).length := by
        have z := congrArg List.length e1
        rw [List.length_append, List.length_map, List.length_map, List.length_map] at z
        exact z
      have z := disp_loop hu hb ts l [] [] (flushS w prog (lr ++ [p]) m s).1 ys (flushS w prog (lr ++ [p]) m s).2 Q h3 trivial e2 (by rw [e1, List.map_nil, List.nil_append, List.append_assoc]; exact hn) (by rw [ys_len, List.length_nil]; omega) e3
        (fun zs f1 f2 d f3 => q' zs (by rw [f1, e1, List.map_nil, List.nil_append, List.append_assoc]) f2 d f3) hz
      exact z
    · rw [if_neg h17] at q' hz
      refine wpAny_bind ?_
      show wpAny _ _ (if ((run ++ [(tk, tv)]).length == 17) = true then _ else _) _ _ s
      rw [if_neg (by rw [hlen]; exact fun z => h17 (beq_iff_eq.mp z))]
      refine wpAny_pure ?_
      have z := disp_loop hu hb ts l (run ++ [(tk, tv)]) (lr ++ [p]) m xs s Q h3 hr1 hm hn hl hlow q' hz
      exact z
theorem display_ok (hu : A.units < cLine) {ts : List (Sem Value × Sem Value)} {l : List P2} {Q : Value → Shared → Prop} (h : MkP prog w ts l) (hn : (l.map (·.1)).Nodup) (hl : l.length ≤ 1000) (hlow : sysModules < s.heap.objs.size) (hz : (dispS w prog l [] none s).1.isSome = true)
    (q : ∀ ys, ys.map (·.1) = l.map (·.1) → ∀ d, (dispS w prog l [] none s).1 = some d → (dispS w prog l [] none s).2.heap.DictOfH (knd prog w) d ys → Q (.ref d) (dispS w prog l [] none s).2) :
    wpAny (model prog w) A (dictDisplay (ts.map fun p => (some p.1, p.2))) Q E s := by
  unfold dictDisplay
  exact wpAny_bind (disp_loop hu (fun _ _ => rfl) ts l [] [] none [] s Q h trivial rfl (by simpa using hn) (by simpa using hl) hlow (fun ys e1 e2 d e3 => q ys (by simpa using e1) d e3 (by
    rw [e3] at e2
    exact e2.1)) hz)
end
end LedRun
/-! LedHead -/
namespace LedRun
open PySem PySem.W PySem.Calls PyProof.Rows
section
variable {tb : String → Option Builtin} {pr : Program} {w : World} {n0 : Nat} {ann : Option Value}
structure Kept (n0 : Nat) (ann : Option Value) (s s' : Shared) : Prop where
  life : s'.heap.life = s.heap.life
  os : s'.os = s.os
  old : ∀ b o, b < n0 → b ≠ mainNs → b ≠ cStatics → ann ≠ some (.ref b) → s.heap.get? b = some o → s'.heap.get? b = some o
theorem Kept.refl (s : Shared) : Kept n0 ann s s := ⟨rfl, rfl, fun _ _ _ _ _ _ e => e⟩
theorem Kept.trans {s s1 s2 : Shared} (a : Kept n0 ann s s1) (b : Kept n0 ann s1 s2) : Kept n0 ann s s2 :=
  ⟨b.life.trans a.life, b.os.trans a.os, fun c o h1 h2 h3 h4 e => b.old c o h1 h2 h3 h4 (a.old c o h1 h2 h3 h4 e)⟩
theorem kept_step {s s' : Shared} {t t' : Thread} (hk : stepOk n0 ann t = true) (hs : PySem.step (denote tb) pr w s t = .go s' t') : Kept n0 ann s s' := by
  obtain ⟨_, k2⟩ := Bool.and_eq_true_iff.mp hk
  refine ⟨step_life (denote tb) pr w s s' t t' hs, step_os_same hs ?_, fun b o h1 h2 h3 h4 e => ?_⟩
  · generalize t.cur = c at k2
    cases c <;> first | rfl | cases k2
  · rw [step_heap (denote tb) pr w s s' t t' hs]
    generalize t.cur = c at k2
    cases c with
    | update a part f k =>
      have ne : b ≠ a := fun z => by
        subst z
        simp only [Bool.or_eq_true, Nat.ble_eq, beq_iff_eq] at k2
        rcases k2 with ((z | z) | z) | z
        · exact Nat.lt_irrefl _ (Nat.lt_of_lt_of_le h1 z)
        · exact h2 z
        · exact h3 z
        · exact h4 z
      exact (Heap.get?_update_ne _ _ _ _ ne).trans e
    | alloc x k => exact Heap.get?_push_of_some x e
    | _ => exact e
theorem kept_go : ∀ {n : Nat} {s s' : Shared} {t t' : Thread}, topGo tb pr w n0 ann n s t = some (s', t') → Kept n0 ann s s'
  | 0, s, s', t, t', h => by
    have h5 : (s, t) = (s', t') := Option.some.inj h
    simp only [Prod.mk.injEq] at h5
    rw [h5.1]
    exact .refl _
  | n + 1, s, s', t, t', h => by
    unfold topGo at h
    cases ht : through t with
    | true => rw [ht] at h; cases h
    | false =>
      rw [ht] at h
      cases hk : stepOk n0 ann t with
      | false => rw [hk] at h; cases h
      | true =>
        rw [hk] at h
        cases hs : PySem.step (denote tb) pr w s t with
        | halt o z => rw [hs] at h; cases h
        | go z u => rw [hs] at h; exact (kept_step hk hs).trans (kept_go h)
theorem kept_seg {b : Nat} : ∀ {n : Nat} {s s' : Shared} {t : Thread} {f : Flow} {c : Code} {p : Pos}, segRun tb pr w n0 ann b n s t = some (f, s', c, p) → Kept n0 ann s s'
  | 0, _, _, _, _, _, _, h => by simp [segRun] at h
  | n + 1, s, s', t, f, c, p, h => by
    unfold segRun at h
    cases he : endAt b t with
    | some g =>
      rw [he] at h
      have h5 : (g, s, t.code, t.pos) = (f, s', c, p) := Option.some.inj h
      simp only [Prod.mk.injEq] at h5
      rw [h5.2.1]
      exact .refl _
    | none =>
      rw [he] at h
      cases hk : stepOk n0 ann t with
      | false => rw [hk] at h; cases h
      | true =>
        rw [hk] at h
        cases hs : PySem.step (denote tb) pr w s t with
        | halt o z => rw [hs] at h; cases h
        | go z u => rw [hs] at h; exact (kept_step hk hs).trans (kept_seg h)
end
section
variable {prog : Program} {w : World}
theorem sets_rest {d : Addr} : ∀ (l : List Ent) (s : Shared), (setsS w prog d l s).heap.life = s.heap.life ∧ (setsS w prog d l s).os = s.os ∧ (setsS w prog d l s).gens = s.gens
  | [], _ => ⟨rfl, rfl, rfl⟩
  | (ks, a, v) :: r, s => by
    have z := sets_rest (d := d) r (setE w prog d ks a v s)
    exact ⟨z.1, z.2.1, z.2.2⟩
theorem puts_rest {d : Addr} : ∀ (l : List Ent) (s : Shared), (putsS w prog d l s).heap.life = s.heap.life ∧ (putsS w prog d l s).os = s.os ∧ (putsS w prog d l s).gens = s.gens
  | [], _ => ⟨rfl, rfl, rfl⟩
  | (ks, a, v) :: r, s => by
    have z := puts_rest (d := d) r (putE d (hsh w prog ks) (.ref a) v s)
    exact ⟨z.1, z.2.1, z.2.2⟩
theorem evS_rest : ∀ (l : List P2) (s : Shared), (evS l s).heap.life = s.heap.life ∧ (evS l s).os = s.os ∧ (evS l s).gens = s.gens
  | [], _ => ⟨rfl, rfl, rfl⟩
  | (ks, vs) :: r, s => by
    have z := evS_rest r (mkT vs (mkT ks s))
    exact ⟨z.1, z.2.1, z.2.2⟩
theorem longS_rest {d : Addr} : ∀ (l : List P2) (s : Shared), (longS w prog d l s).heap.life = s.heap.life ∧ (longS w prog d l s).os = s.os ∧ (longS w prog d l s).gens = s.gens
  | [], _ => ⟨rfl, rfl, rfl⟩
  | (ks, vs) :: r, s => by
    have z := longS_rest (d := d) r (setE w prog d ks s.heap.objs.size (.ref (s.heap.objs.size + 1)) (mkT vs (mkT ks s)))
    exact ⟨z.1, z.2.1, z.2.2⟩
theorem subX_rest (l : List P2) (s : Shared) : (subX w prog l s).heap.life = s.heap.life ∧ (subX w prog l s).os = s.os ∧ (subX w prog l s).gens = s.gens := by
  unfold subX
  split
  · have a := sets_rest (w := w) (prog := prog) (d := s.heap.objs.size) (entL (s.heap.objs.size + 1) l) (evS l (newD s))
    have b := evS_rest l (newD s)
    exact ⟨a.1.trans b.1, a.2.1.trans b.2.1, a.2.2.trans b.2.2⟩
  · have a := longS_rest (w := w) (prog := prog) (d := s.heap.objs.size) l (newD s)
    exact ⟨a.1, a.2.1, a.2.2⟩
theorem subX_lt (l : List P2) (s : Shared) : s.heap.objs.size ≤ (subX w prog l s).heap.objs.size := Nat.le_of_lt (subX_old l s).1
/-- d may be changed where it is new -/
theorem flush_kept {z : Shared} (l : List P2) (m : Option Addr) (s : Shared) (hm : ∀ d, m = some d → z.heap.objs.size ≤ d) (hz : z.heap.objs.size ≤ s.heap.objs.size) (k : (∀ b o, z.heap.get? b = some o → s.heap.get? b = some o) ∧ s.heap.life = z.heap.life ∧ s.os = z.os ∧ s.gens = z.gens) :
    (∀ d, (flushS w prog l m s).1 = some d → z.heap.objs.size ≤ d) ∧ z.heap.objs.size ≤ (flushS w prog l m s).2.heap.objs.size ∧
    (∀ b o, z.heap.get? b = some o → (flushS w prog l m s).2.heap.get? b = some o) ∧ (flushS w prog l m s).2.heap.life = z.heap.life ∧ (flushS w prog l m s).2.os = z.os ∧ (flushS w prog l m s).2.gens = z.gens := by
  obtain ⟨k1, k2, k3, k4⟩ := k
  cases l with
  | nil => exact ⟨hm, hz, k1, k2, k3, k4⟩
  | cons x r =>
    have o := subX_old (w := w) (prog := prog) (x :: r) s
    have q := subX_rest (w := w) (prog := prog) (x :: r) s
    cases m with
    | none =>
      refine ⟨fun d e => ?_, Nat.le_trans hz (Nat.le_of_lt o.1), fun b ob e => o.2 b ob (k1 b ob e), q.1.trans k2, q.2.1.trans k3, q.2.2.trans k4⟩
      have e1 : s.heap.objs.size = d := Option.some.inj e
      rw [← e1]
      exact hz
    | some d =>
      have sb := putsS_sb (w := w) (prog := prog) (d := d) (entL (s.heap.objs.size + 1) (x :: r)) (subX w prog (x :: r) s)
      have pr := puts_rest (w := w) (prog := prog) (d := d) (entL (s.heap.objs.size + 1) (x :: r)) (subX w prog (x :: r) s)
      refine ⟨fun c e => ?_, ?_, fun b ob e => ?_, pr.1.trans (q.1.trans k2), pr.2.1.trans (q.2.1.trans k3), pr.2.2.trans (q.2.2.trans k4)⟩
      · have e1 : d = c := Option.some.inj e
        rw [← e1]
        exact hm d rfl
      · rw [show (flushS w prog (x :: r) (some d) s).2 = putsS w prog d (entL (s.heap.objs.size + 1) (x :: r)) (subX w prog (x :: r) s) from rfl, sb.1]
        exact Nat.le_trans hz (Nat.le_of_lt o.1)
      · have lt := Heap.lt_size e
        have ne : b ≠ d := fun y => by
          rw [y] at lt
          exact Nat.lt_irrefl _ (Nat.lt_of_lt_of_le lt (hm d rfl))
        exact (sb.2 b ne).trans (o.2 b ob (k1 b ob e))
theorem disp_kept {z : Shared} : ∀ (l run : List P2) (m : Option Addr) (s : Shared), (∀ d, m = some d → z.heap.objs.size ≤ d) → z.heap.objs.size ≤ s.heap.objs.size → ((∀ b o, z.heap.get? b = some o → s.heap.get? b = some o) ∧ s.heap.life = z.heap.life ∧ s.os = z.os ∧ s.gens = z.gens) →
    (∀ b o, z.heap.get? b = some o → (dispS w prog l run m s).2.heap.get? b = some o) ∧ (dispS w prog l run m s).2.heap.life = z.heap.life ∧ (dispS w prog l run m s).2.os = z.os ∧ (dispS w prog l run m s).2.gens = z.gens
  | [], run, m, s, hm, hz, k => (flush_kept run m s hm hz k).2.2
  | p :: r, run, m, s, hm, hz, k => by
    unfold dispS
    split
    · obtain ⟨a, b, c⟩ := flush_kept (w := w) (prog := prog) (run ++ [p]) m s hm hz k
      exact disp_kept r [] _ _ a b c
    · exact disp_kept r (run ++ [p]) m s hm hz k
end
end LedRun
/-! LedHead2 -/
namespace LedRun
open PySem PySem.W PySem.Calls PyProof.Rows
def storeS (x : Str) (px : Pos) (value : Expr) (env : Env) (v : Value) : Sem Flow := do assignStores env v (← swappedStores [.Name x px] value env) ((assignEach [.Name x px] env).map (·.2))
def behindS (x : Str) (px : Pos) (value : Expr) (rest : List Stmt) (env : Env) (v : Value) : Sem Flow := (storeS x px value env v).bind fun f => match f with
  | .next => execs rest env
  | f => .pure f
def aheadS (keys : List (Option Expr)) (values : List Expr) (dpos spos : Pos) (env : Env) : Sem Value := do
  standAt spos
  standAt dpos
  dictDisplay ((evalEachOpt keys env).zip ((evalEach values env).map fun v => do let x ← v; standAt dpos; pure x))
theorem ledSplit {x : Str} {px dpos spos : Pos} {keys : List (Option Expr)} {values : List Expr} {rest : List Stmt} {env : Env} {c : Code} {p : Pos} {B : List Frame} (hsw : swapsWithSole [.Name x px] (.Dict keys values dpos) spos.line env = pure false) :
    restOf (.Assign [.Name x px] (.Dict keys values dpos) spos :: rest) env c p B =
      ⟨(aheadS keys values dpos spos env).wrap (fun v => (behindS x px (.Dict keys values dpos) rest env v).wrap doneF (leaveH env) id id) (leaveH env) id id, c, p, B⟩ := by
  unfold restOf
  rw [execs_cons_wrap]
  have e : exec (.Assign [.Name x px] (.Dict keys values dpos) spos) env = (aheadS keys values dpos spos env).bind (storeS x px (.Dict keys values dpos) env) := by
    rw [arm_exec_Assign, hsw]
    rfl
  rw [e, Sem.bind_eq_wrap, Sem.wrap_wrap]
  have e2 : ∀ v, (storeS x px (.Dict keys values dpos) env v).wrap (fun f => match f with | .next => (execs rest env).wrap doneF (leaveH env) id id | f => doneF f) (leaveH env) id id = (behindS x px (.Dict keys values dpos) rest env v).wrap doneF (leaveH env) id id := by
    intro v
    unfold behindS
    rw [Sem.bind_eq_wrap, Sem.wrap_wrap]
    exact Sem.wrap_congr _ _ _ (fun f => by cases f <;> rfl) fun _ => rfl
  refine congrArg (fun z => (⟨z, c, p, B⟩ : Thread)) ?_
  exact Sem.wrap_congr _ _ _ (fun v => e2 v) fun _ => rfl
def frX {α : Type} (s : SharedT) (k : SharedT → α) : α := HandSHeadRun.frS s k
section
variable (st : SharedT → Thread → Option (SharedT × Thread)) (n0 : Nat) (ann : Option Value)
def goT : Nat → SharedT → Thread → Option (SharedT × Thread)
  | 0, s, t => some (s, t)
  | m + 1, s, t => match through t with
    | true => none
    | false => match stepOk n0 ann t with
      | false => none
      | true => match st s t with
        | some (s', t') => frX s' fun s' => goT m s' t'
        | none => none
def segT : Nat → SharedT → Thread → Option (SharedT × Code × Pos)
  | 0, _, _ => none
  | m + 1, s, t => match endAt 1 t with
    | some f => (match f with
      | .next => some (s, t.code, t.pos)
      | _ => none)
    | none => match stepOk n0 ann t with
      | false => none
      | true => match st s t with
        | some (s', t') => frX s' fun s' => segT m s' t'
        | none => none
end
section
variable {tb : String → Option Builtin} {pr : Program} {w : World} {n0 : Nat} {ann : Option Value}
theorem goT_ok : ∀ {m : Nat} {s s' : SharedT} {t t' : Thread}, goT (stepT (denote tb) pr w) n0 ann m s t = some (s', t') → topGo tb pr w n0 ann m s.abs t = some (s'.abs, t')
  | 0, s, s', t, t', h => by
    have h5 : (s, t) = (s', t') := Option.some.inj h
    simp only [Prod.mk.injEq] at h5
    rw [h5.1, h5.2]
    rfl
  | m + 1, s, s', t, t', h => by
    unfold goT at h
    unfold topGo
    cases ht : through t with
    | true => rw [ht] at h; cases h
    | false =>
      rw [ht] at h
      cases hk : stepOk n0 ann t with
      | false => rw [hk] at h; cases h
      | true =>
        rw [hk] at h
        cases hs : stepT (denote tb) pr w s t with
        | none => rw [hs] at h; cases h
        | some r =>
          obtain ⟨s2, t2⟩ := r
          rw [hs] at h
          have h3 : (frX s2 fun s' => goT (stepT (denote tb) pr w) n0 ann m s' t2) = some (s', t') := h
          unfold frX at h3
          rw [HandSHeadRun.frS_eq] at h3
          show (match PySem.step (denote tb) pr w s.abs t with
            | .go s' t' => topGo tb pr w n0 ann m s' t'
            | .halt _ _ => none) = _
          rw [stepT_spec hs]
          exact goT_ok h3
theorem segT_ok : ∀ {m : Nat} {s s' : SharedT} {t : Thread} {c : Code} {p : Pos}, segT (stepT (denote tb) pr w) n0 ann m s t = some (s', c, p) → segRun tb pr w n0 ann 1 m s.abs t = some (.next, s'.abs, c, p)
  | 0, _, _, _, _, _, h => by cases h
  | m + 1, s, s', t, c, p, h => by
    unfold segT at h
    unfold segRun
    cases he : endAt 1 t with
    | some f =>
      rw [he] at h
      cases f with
      | next =>
        have h5 : (s, t.code, t.pos) = (s', c, p) := Option.some.inj h
        simp only [Prod.mk.injEq] at h5
        obtain ⟨h6, h7, h8⟩ := h5
        rw [h6, h7, h8]
      | _ => cases h
    | none =>
      rw [he] at h
      cases hk : stepOk n0 ann t with
      | false => rw [hk] at h; cases h
      | true =>
        rw [hk] at h
        cases hs : stepT (denote tb) pr w s t with
        | none => rw [hs] at h; cases h
        | some r =>
          obtain ⟨s2, t2⟩ := r
          rw [hs] at h
          have h3 : (frX s2 fun s' => segT (stepT (denote tb) pr w) n0 ann m s' t2) = some (s', c, p) := h
          unfold frX at h3
          rw [HandSHeadRun.frS_eq] at h3
          show (match PySem.step (denote tb) pr w s.abs t with
            | .go s' t' => segRun tb pr w n0 ann 1 m s' t'
            | .halt _ _ => none) = _
          rw [stepT_spec hs]
          exact segT_ok h3
theorem top_end {s : Shared} {c : Code} {p q : Pos} : Rn (denote tb) pr w s ⟨doneF .next, c, p, [topFrame q]⟩ s ⟨topAfter (.ok .next), .builtin "claim.caller" {}, q, []⟩ := Rn.one rfl rfl
theorem top_through {q : Pos} : through ⟨topAfter (.ok .next), .builtin "claim.caller" {}, q, []⟩ = true := rfl
end
/-- what a context may count on -/
def ctxA (G : Ctx) : Around := { handled := G.handled, depth := frameCount G.below + G.code.weight, frames := none, guards := none, units := G.units }
theorem ctxA_in (G : Ctx) : G.In (ctxA G) := ⟨rfl, Nat.le_refl _, fun l hl => (by cases hl), fun g hg => (by cases hg), Nat.le_refl _⟩
theorem top_units {b : List Stmt} {env : Env} {q : Pos} : (ctxA (Ctx.of (.body b env) [topFrame q])).units < cLine := (show (7 : Nat) < 9900 by decide)
/-- the display, run in the midst of the top -/
theorem led_rn {prog : Program} {w : World} {s : Shared} {b : List Stmt} {env : Env} {p q : Pos} {K : Value → Sem Fin} {H : Value → Sem Fin} {keys : List (Option Expr)} {values : List Expr} {dpos spos : Pos} {ts : List (Sem Value × Sem Value)} {l : List P2} {d : Addr}
    (hi : (evalEachOpt keys env).zip ((evalEach values env).map fun v => do let x ← v; standAt dpos; pure x) = ts.map fun p => (some p.1, p.2)) (h : MkP prog w ts l) (hn : (l.map (·.1)).Nodup) (hl : l.length ≤ 1000) (hlow : sysModules < s.heap.objs.size) (hd : (dispS w prog l [] none s).1 = some d) :
    ∃ p2, Rn (denote table) prog w s ⟨(aheadS keys values dpos spos env).wrap K H id id, .body b env, p, [topFrame q]⟩ (dispS w prog l [] none s).2 ⟨K (.ref d), .body b env, p2, [topFrame q]⟩ := by
  have w1 : wpAny (model prog w) (ctxA (Ctx.of (.body b env) [topFrame q])) (aheadS keys values dpos spos env) (fun v s' => v = .ref d ∧ s' = (dispS w prog l [] none s).2) (fun _ _ => False) s := by
    unfold aheadS
    refine wpAny_bind (wpAny_standAt (wpAny_bind (wpAny_standAt ?_)))
    rw [hi]
    refine display_ok top_units h hn hl hlow (by rw [hd]; rfl) fun ys _ d2 e _ => ?_
    rw [hd] at e
    exact ⟨by rw [Option.some.inj e], rfl⟩
  have w2 := w1 _ p (ctxA_in _)
  obtain ⟨a, s2, p2, ⟨ea, es⟩, n, hc⟩ := wpRun (K := K) (H := H) (gd := id) (lv := id) (Ctx.fits_of (.body b env) [topFrame q]) (aheadS keys values dpos spos env) (fun v _ s' => v = .ref d ∧ s' = (dispS w prog l [] none s).2) p s w2
  subst ea es
  exact ⟨p2, Rn.ofI hc⟩
end LedRun
/-! LedHead3 -/
noncomputable section
namespace LedRun
open PySem PySem.W PySem.Calls PyProof.Rows HandSHeadRun
/-- what the run of the top leaves at a world -/
def Left1 (p q : Program) (loose : List PySem.Str) (XP : (PySem.Str → Option Value) → Heap → Prop) (YP : World → Heap → Prop) (w : World) : Prop :=
  (∃ s, AfterRun (opening p) w s) ∧ ∀ s, AfterRun (opening p) w s → ∃ s0, fenceModules? p s = some s0 ∧ s0.gens = #[] ∧ ∃ s1, TopRan p w s0 s1 ∧ s1.asleep ∧ s1.gens = #[] ∧ s1.heap.isNs mainGlobals = true ∧
    Ground q loose [] XP w s1 (s1.heap.nsMap mainGlobals) (s1.heap.nsMap builtinsNs) s1.heap ∧ YP w s1.heap
/-- the parts of a top with one display: what stands ahead of it, its name and place, its keys and values, what stands behind -/
structure Parts where
  pre : List Stmt
  x : PySem.Str
  px : Pos
  keys : List (Option Expr)
  values : List Expr
  dpos : Pos
  spos : Pos
  rest : List Stmt
def Parts.body (d : Parts) : List Stmt := d.pre ++ .Assign [.Name d.x d.px] (.Dict d.keys d.values d.dpos) d.spos :: d.rest
def Parts.val (d : Parts) : Expr := .Dict d.keys d.values d.dpos
structure Res where
  c2 : Code
  c3 : Code
  low : Bool
  fin : SharedT
def pieceT (t : Sem Flow) (c : Code) (p q : Pos) : Thread := ⟨t.wrap doneF deadEnd id id, c, p, [topFrame q]⟩
/-- behind the display -/
def runC (st : SharedT → Thread → Option (SharedT × Thread)) (n0 : Nat) (ann : Option Value) (d : Parts) (env : Env) (q P : Pos) (M : Nat) (c2 c3 : Code) (low : Bool) (z : Option Addr × Shared) : Option Res := match z.1 with
  | none => none
  | some a => match putAll z.2.heap.objs.toList .nil 0 with
    | none => none
    | some (t4, n4) => frNat n4 fun n4 => match segT st n0 ann M ⟨t4, n4, z.2.heap.life, z.2.gens, z.2.drawn, z.2.toks, z.2.os⟩ (pieceT (behindS d.x d.px d.val d.rest env (.ref a)) (.body d.body env) P q) with
      | none => none
      | some (s5, _, _) => some ⟨c2, c3, low, s5⟩
/-- from the state ahead of the body -/
def runB (st : SharedT → Thread → Option (SharedT × Thread)) (w : World) (p : Program) (n0 : Nat) (ann : Option Value) (d : Parts) (l : List P2) (env : Env) (p1 q P : Pos) (M : Nat) (s1 : SharedT) : Option Res := match segT st n0 ann M s1 (blockOf d.body env (.body d.body env) p1 [topFrame q]) with
  | none => none
  | some (s2, c2, p2) => match segT st n0 ann M s2 (piecesOf d.pre env c2 p2 [topFrame q]) with
    | none => none
    | some (s3, c3, _) => runC st n0 ann d env q P M c2 c3 (Nat.blt sysModules s3.n) (dispS w p l [] none s3.abs)
/-- ahead of the body -/
def runA (st : SharedT → Thread → Option (SharedT × Thread)) (w : World) (os : OsState) (p : Program) (m0 : Nat) : Option (SharedT × Thread) := match putAll (boot_heap w.params).objs.toList .nil 0 with
  | some (t, n) => frNat n fun n0 => goT st n0 (bootAnn w) m0 (bootT w os (t, n0)) (topStub p)
  | none => none
def runAll (st : SharedT → Thread → Option (SharedT × Thread)) (w : World) (os : OsState) (p : Program) (m0 : Nat) (d : Parts) (l : List P2) (env : Env) (p1 q P : Pos) (M : Nat) : Option Res := match runA st w os p m0 with
  | none => none
  | some (s1, _) => frNat (boot_heap w.params).objs.toList.length fun n0 => runB st w p n0 (bootAnn w) d l env p1 q P M s1
theorem through_forget {t u : Thread} (h : t.forget = u.forget) (hu : through u = true) : through t = true := by
  obtain ⟨c, k, p, st⟩ := t
  obtain ⟨c2, k2, p2, st2⟩ := u
  unfold through at hu
  obtain ⟨h1, h2⟩ := Bool.and_eq_true_iff.mp hu
  have e : st2 = [] := by
    cases st2 with
    | nil => rfl
    | cons _ _ => cases h1
  subst e
  unfold Thread.forget at h
  simp only [Thread.mk.injEq] at h
  obtain ⟨e1, _, _, e4⟩ := h
  have e5 : st = [] := by
    cases st with
    | nil => rfl
    | cons _ _ => cases e4
  subst e5 e1
  exact hu
section
variable {p q : Program} {loose : List PySem.Str} {Xt : Shared → Bool} {XP : (PySem.Str → Option Value) → Heap → Prop} {α : Type} {Yf : Shared → α} {Ya : World → α} {YP : World → Heap → Prop} {w : World} {d : Parts} {l : List P2} {env : Env} {p1 qq : Pos} {m0 M : Nat} {ts : List (Sem Value × Sem Value)}
theorem left1_of (e : opening p = plainProg p.main.scope.names) (f : ∀ s, fenceModules? p s = some s) (hX : ∀ s, Xt s = true → XP (s.heap.nsMap mainGlobals) s.heap) (hch : chainsOk q = true) (hY : ∀ w s, Yf s = Ya w → YP w s.heap)
    (hsw : swapsWithSole [.Name d.x d.px] (.Dict d.keys d.values d.dpos) d.spos.line env = pure false)
    (hi : (evalEachOpt d.keys env).zip ((evalEach d.values env).map fun v => do let x ← v; standAt d.dpos; pure x) = ts.map fun p => (some p.1, p.2)) (hMk : MkP p w ts l) (hn : (l.map (·.1)).Nodup) (hl : l.length ≤ 1000)
    (A0 : ∀ os, (runA (stepQ (denQ tabQ) p w) w os p m0).map (·.2) = some ⟨denQ tabQ (.body d.body env), .body d.body env, p1, [topFrame qq]⟩)
    (A1 : ∀ os P, (runAll (stepQ (denQ tabQ) p w) w os p m0 d l env p1 qq P M).map (fun r => (r.c2, r.c3, r.low, looksF p (boot_heap w.params) r.fin.abs, seenQ q loose (importedModules p.main.body) Xt r.fin.abs, Yf r.fin.abs)) =
      some (.body d.body env, .body d.body env, true, true, openGood q loose, Ya w)) : Left1 p q loose XP YP w := by
  obtain ⟨⟨h0, gs, dr, tk, os⟩, a, a'⟩ := Option.map_eq_some_iff.mp (boot_open (N := 600) e rfl f w)
  obtain ⟨rfl, rfl, rfl, rfl⟩ : h0 = boot_heap w.params ∧ gs = Array.mk [] ∧ dr = boot_drawn ∧ tk = boot_toks := by simpa using a'
  obtain ⟨s, b1, b2⟩ := Option.bind_eq_some_iff.mp a
  rw [← table_eq_tree] at b1
  have AI := AfterImport.of_importEnds b1
  refine ⟨⟨s, AI⟩, fun s' hs' => ?_⟩
  obtain rfl : s' = s := AfterImport.unique hs' AI
  refine ⟨_, b2, rfl, ?_⟩
  have zz : (⟨boot_heap w.params, Array.mk [], boot_drawn, boot_toks, os⟩ : Shared).asleep := Shared.asleep_of_life (fence_lifeW b2) AI.life
  obtain ⟨r, hr, hv⟩ := Option.map_eq_some_iff.mp (A1 os ⟨0, 0, 0, 0⟩)
  simp only [Prod.mk.injEq] at hv
  -- the state ahead of the body
  obtain ⟨⟨s1, t1⟩, r0, e0⟩ := Option.map_eq_some_iff.mp (A0 os)
  have e0 : t1 = _ := e0
  subst e0
  have key : ∃ n0, n0 = (boot_heap w.params).objs.size ∧ ∃ bt : SharedT, bt.abs = ⟨boot_heap w.params, #[], boot_drawn, boot_toks, os⟩ ∧ goT (stepQ (denQ tabQ) p w) n0 (bootAnn w) m0 bt (topStub p) = some (s1, ⟨denQ tabQ (.body d.body env), .body d.body env, p1, [topFrame qq]⟩) := by
    unfold runA at r0
    cases ep : putAll (boot_heap w.params).objs.toList .nil 0 with
    | none => rw [ep] at r0; cases r0
    | some tn =>
      obtain ⟨t, n⟩ := tn
      rw [ep] at r0
      have r1 : (frNat n fun n0 => goT (stepQ (denQ tabQ) p w) n0 (bootAnn w) m0 (bootT w os (t, n0)) (topStub p)) = some (s1, _) := r0
      rw [frNat_eq] at r1
      have eh := putAll_heap ep
      refine ⟨n, ?_, bootT w os (t, n), ?_, r1⟩
      · rw [← eh]
        exact (absHeap_size t n _).symm
      · show (⟨absHeap t n (boot_heap w.params).life, #[], boot_drawn, boot_toks, os⟩ : Shared) = _
        rw [eh]
  obtain ⟨n0, en0, bt, ebt, r1⟩ := key
  rw [← stepQ_eq, ← denQ_eq, ← tabQ_eq, ← table_eq_tree] at r1
  have g1 := goT_ok r1
  rw [ebt] at g1
  have R0 := goRn g1
  have K0 := kept_go g1
  have en1 : (boot_heap w.params).objs.toList.length = n0 := by rw [en0, Array.length_toList]
  -- the whole
  have whole : ∀ P r, runAll (stepQ (denQ tabQ) p w) w os p m0 d l env p1 qq P M = some r → runB (stepT (denote table) p w) w p n0 (bootAnn w) d l env p1 qq P M s1 = some r := by
    intro P r h
    unfold runAll at h
    rw [r0] at h
    have h1 : (frNat (boot_heap w.params).objs.toList.length fun n0 => runB (stepQ (denQ tabQ) p w) w p n0 (bootAnn w) d l env p1 qq P M s1) = some r := h
    rw [frNat_eq, en1, ← stepQ_eq, ← denQ_eq, ← tabQ_eq, ← table_eq_tree] at h1
    exact h1
  have parts : ∀ P r, runB (stepT (denote table) p w) w p n0 (bootAnn w) d l env p1 qq P M s1 = some r → ∃ s2 c2 p2 s3 c3 p3, segT (stepT (denote table) p w) n0 (bootAnn w) M s1 (blockOf d.body env (.body d.body env) p1 [topFrame qq]) = some (s2, c2, p2) ∧
      segT (stepT (denote table) p w) n0 (bootAnn w) M s2 (piecesOf d.pre env c2 p2 [topFrame qq]) = some (s3, c3, p3) ∧ runC (stepT (denote table) p w) n0 (bootAnn w) d env qq P M c2 c3 (Nat.blt sysModules s3.n) (dispS w p l [] none s3.abs) = some r := by
    intro P r h
    unfold runB at h
    cases q1 : segT (stepT (denote table) p w) n0 (bootAnn w) M s1 (blockOf d.body env (.body d.body env) p1 [topFrame qq]) with
    | none => rw [q1] at h; cases h
    | some z =>
      obtain ⟨s2, c2, p2⟩ := z
      rw [q1] at h
      have h : (match segT (stepT (denote table) p w) n0 (bootAnn w) M s2 (piecesOf d.pre env c2 p2 [topFrame qq]) with
        | none => none
        | some (s3, c3, _) => runC (stepT (denote table) p w) n0 (bootAnn w) d env qq P M c2 c3 (Nat.blt sysModules s3.n) (dispS w p l [] none s3.abs)) = some r := h
      cases q2 : segT (stepT (denote table) p w) n0 (bootAnn w) M s2 (piecesOf d.pre env c2 p2 [topFrame qq]) with
      | none => rw [q2] at h; cases h
      | some z =>
        obtain ⟨s3, c3, p3⟩ := z
        rw [q2] at h
        exact ⟨s2, c2, p2, s3, c3, p3, rfl, q2, h⟩
  have lastp : ∀ P r c2 c3 low z, runC (stepT (denote table) p w) n0 (bootAnn w) d env qq P M c2 c3 low z = some r → ∃ a s4 c5 p5, z.1 = some a ∧ SharedT.abs s4 = z.2 ∧ segT (stepT (denote table) p w) n0 (bootAnn w) M s4 (pieceT (behindS d.x d.px d.val d.rest env (.ref a)) (.body d.body env) P qq) = some (r.fin, c5, p5) ∧ r.c2 = c2 ∧ r.c3 = c3 ∧ r.low = low := by
    rintro P r c2 c3 low ⟨z1, z2⟩ h
    unfold runC at h
    cases z1 with
    | none => cases h
    | some a =>
      have h : (match putAll z2.heap.objs.toList .nil 0 with
        | none => none
        | some (t4, n4) => frNat n4 fun n4 => match segT (stepT (denote table) p w) n0 (bootAnn w) M ⟨t4, n4, z2.heap.life, z2.gens, z2.drawn, z2.toks, z2.os⟩ (pieceT (behindS d.x d.px d.val d.rest env (.ref a)) (.body d.body env) P qq) with
          | none => none
          | some (s5, _, _) => some (⟨c2, c3, low, s5⟩ : Res)) = some r := h
      cases ep : putAll z2.heap.objs.toList .nil 0 with
      | none => rw [ep] at h; cases h
      | some tn =>
        obtain ⟨t4, n4⟩ := tn
        rw [ep] at h
        have h : (frNat n4 fun n4 => match segT (stepT (denote table) p w) n0 (bootAnn w) M ⟨t4, n4, z2.heap.life, z2.gens, z2.drawn, z2.toks, z2.os⟩ (pieceT (behindS d.x d.px d.val d.rest env (.ref a)) (.body d.body env) P qq) with
          | none => none
          | some (s5, _, _) => some (⟨c2, c3, low, s5⟩ : Res)) = some r := h
        rw [frNat_eq] at h
        cases q5 : segT (stepT (denote table) p w) n0 (bootAnn w) M ⟨t4, n4, z2.heap.life, z2.gens, z2.drawn, z2.toks, z2.os⟩ (pieceT (behindS d.x d.px d.val d.rest env (.ref a)) (.body d.body env) P qq) with
        | none => rw [q5] at h; cases h
        | some z =>
          obtain ⟨s5, c5, p5⟩ := z
          rw [q5] at h
          have h5 : (⟨c2, c3, low, s5⟩ : Res) = r := Option.some.inj h
          subst h5
          refine ⟨a, _, c5, p5, rfl, ?_, q5, rfl, rfl, rfl⟩
          show (⟨absHeap t4 n4 z2.heap.life, z2.gens, z2.drawn, z2.toks, z2.os⟩ : Shared) = z2
          rw [putAll_heap ep]
  have hr1 := whole _ _ hr
  obtain ⟨s2, c2, p2, s3, c3, p3, q1, q2, q3⟩ := parts _ _ hr1
  obtain ⟨a, s4, c5, p5, z1, z2, q5, y1, y2, y3⟩ := lastp _ _ _ _ _ _ q3
  have hc2 : c2 = .body d.body env := y1.symm.trans hv.1
  have hc3 : c3 = .body d.body env := y2.symm.trans hv.2.1
  have hlow1 : Nat.blt sysModules s3.n = true := y3.symm.trans hv.2.2.1
  subst hc2 hc3
  have hlow : sysModules < s3.abs.heap.objs.size := by
    show sysModules < (absHeap s3.tree s3.n s3.life).objs.size
    rw [absHeap_size]
    exact Nat.le_of_ble_eq_true hlow1
  have g2 := segT_ok q1
  have R1 := block g2
  have K1 := kept_seg g2
  have g3 := segT_ok q2
  have R2 := pieces (rest := .Assign [.Name d.x d.px] (.Dict d.keys d.values d.dpos) d.spos :: d.rest) g3
  have K2 := kept_seg g3
  obtain ⟨P, R3⟩ := led_rn (prog := p) (w := w) (s := s3.abs) (b := d.body) (env := env) (p := p3) (q := qq) (K := fun v => (behindS d.x d.px d.val d.rest env v).wrap doneF (leaveH env) id id) (H := leaveH env) (spos := d.spos) hi hMk hn hl hlow z1
  -- once more, at the place where the display has left it
  obtain ⟨r', hr', hv'⟩ := Option.map_eq_some_iff.mp (A1 os P)
  simp only [Prod.mk.injEq] at hv'
  obtain ⟨s2', c2', p2', s3', c3', p3', q1', q2', q3'⟩ := parts _ _ (whole _ _ hr')
  rw [q1] at q1'
  have i1 := Option.some.inj q1'
  simp only [Prod.mk.injEq] at i1
  obtain ⟨rfl, rfl, rfl⟩ := i1
  rw [q2] at q2'
  have i2 := Option.some.inj q2'
  simp only [Prod.mk.injEq] at i2
  obtain ⟨rfl, rfl, rfl⟩ := i2
  obtain ⟨a2, s4', c5', p5', z1', z2', q5', _, _, _⟩ := lastp _ _ _ _ _ _ q3'
  have ea : a = a2 := Option.some.inj (z1.symm.trans z1')
  subst ea
  have g5 := segT_ok q5'
  rw [z2'] at g5
  have R4 : Rn (denote table) p w (dispS w p l [] none s3.abs).2 ⟨(behindS d.x d.px d.val d.rest env (.ref a)).wrap doneF (leaveH env) id id, .body d.body env, P, [topFrame qq]⟩ r'.fin.abs ⟨doneF .next, c5', p5', [topFrame qq]⟩ := by
    have RR : Rel2 (fun a : Flow => .pure (.done (id a))) doneF deadEnd (leaveH env) id id [topFrame qq] (pieceT (behindS d.x d.px d.val d.rest env (.ref a)) (.body d.body env) P qq) ⟨(behindS d.x d.px d.val d.rest env (.ref a)).wrap doneF (leaveH env) id id, .body d.body env, P, [topFrame qq]⟩ :=
      ⟨rfl, rfl, .inl ⟨rfl, rfl, _, rfl, rfl⟩⟩
    obtain ⟨f, ef, R⟩ := segRn rfl M _ _ _ _ _ _ _ RR g5
    have ef : f = .next := ef
    subst ef
    exact R
  have K4 := kept_seg g5
  rw [ledSplit hsw] at R2
  have R := ((((R0.trans R1).trans R2).trans R3).trans R4).trans top_end
  obtain ⟨m, sg, tau, hm, f1, f2, f3⟩ := R.sched rfl rfl zz
  have G := ground_of_open (w := w) (q := q) (loose := loose) (mods := importedModules p.main.body) (Xt := Xt) (XP := XP) (g0 := true) hX hch (by rw [seenQ_eq]; exact hv'.2.2.2.2.1)
  obtain ⟨G1, G2, G3, G4, G5, G6, G7⟩ := G
  have hgens : r'.fin.abs.gens = #[] := Array.eq_empty_of_size_eq_zero (beq_iff_eq.mp G2)
  have esg : sg = r'.fin.abs := Shared.eq_of_forget_eq f1 hgens
  subst esg
  have dk := disp_kept (w := w) (prog := p) (z := s3.abs) l [] none s3.abs (fun _ e => by cases e) (Nat.le_refl _) ⟨fun _ _ e => e, rfl, rfl, rfl⟩
  have K3 : Kept n0 (bootAnn w) s3.abs (dispS w p l [] none s3.abs).2 := ⟨dk.2.1, dk.2.2.1, fun b o _ _ _ _ e => dk.1 b o e⟩
  have K := (((K0.trans K1).trans K2).trans K3).trans K4
  obtain ⟨L1, L2⟩ := Bool.and_eq_true_iff.mp hv'.2.2.2.1
  obtain ⟨L3, L4⟩ := Bool.and_eq_true_iff.mp L1
  obtain ⟨L5, L6⟩ := Bool.and_eq_true_iff.mp L3
  have hg0 : (boot_heap w.params).isNs mainGlobals = true := boot_ns w.params
  refine ⟨r'.fin.abs, ⟨⟨m, tau, hm, through_forget f2 top_through⟩, K.life, Shared.rest_eq K.os, fun b o hb hno => ?_, G4, statics_of_ok L5, G5, G6, G7, gens_of_done L4, names_of_bound L6, laid_of_kept L2⟩, Shared.asleep_of_life K.life zz, hgens, G3, G1, hY _ _ hv'.2.2.2.2.2⟩
  refine K.old b o (by rw [en0]; exact Heap.lt_size hb) (fun z => hno (.inl z)) (fun z => hno (.inr (.inl z))) (fun z => hno (.inr (.inr ?_))) hb
  exact (Pin.globalOf_eq hg0 _).trans z
end
end LedRun
end
/-! LedHold -/
noncomputable section
namespace LedRun
open PySem PySem.W PySem.Calls PyProof.Rows HandSHeadRun
/-- the row, from what the run of the top leaves at each world -/
theorem hold_left {r : OpenRow} {q : Program} {loose : List PySem.Str} {YP : World → Heap → Prop} {d : DefRec} {kwd : List (PySem.Str × PySem.Expr)}
    (left : ∀ w, Left1 r.prog q loose (fun mg h => XL q [] mg h ∧ RecFacts r.records h) YP w) (hYk : ∀ w h h', YP w h → (∀ b o, h.get? b = some o → h'.get? b = some o) → YP w h')
    (hdef : defOf q r.name = some (d, kwd)) (hp : r.prog.theDef r.name = some (d.params, d.body, d.scope)) (hk : kwWritten? d.params.kwonlyargs d.params.kw_defaults = some kwd)
    (hwr : (!r.writes || r.records.isEmpty) = true) (k1 : r.wellSaid = true) (ok : (chainsOk q && opensWell r.prog && (frees r.toRowW && r.within.isEmpty)) = true) (hb : r.prog.bare) (hw : r.toRowW.promised)
    (call : WalkO q loose (XL q []) YP r.toRowW d kwd fun f vs => PySem.call f vs) : r.Holds := by
  obtain ⟨ok1, ok2⟩ := Bool.and_eq_true_iff.mp ok
  obtain ⟨_, o1⟩ := Bool.and_eq_true_iff.mp ok1
  obtain ⟨k5, k6⟩ := Bool.and_eq_true_iff.mp ok2
  obtain ⟨hsame, hu, ha, hap, hm⟩ := frees_parts k5
  have hid := ident_freeW hu ha hap
  have hin : r.toRowW.claim.within = [] := List.isEmpty_iff.mp k6
  refine ⟨k1, hw, ⟨hb, o1, ?_⟩, hw.witness, fun w => ⟨(left w).1, fun s' hs' => ?_⟩⟩
  · show r.makers.map _ = []
    rw [hm]
    rfl
  obtain ⟨s0, hf, hg0, s, hT, hz, hgens, hg, G00, y⟩ := (left w).2 s' hs'
  obtain ⟨gT, gB, gD, gE, gC, gW, gX, gcl, ghas, gap, gon, gK⟩ := G00
  have G0 : Ground q loose [] (XL q []) w s (s.heap.nsMap mainGlobals) (s.heap.nsMap builtinsNs) s.heap := ⟨gT, gB, gD, gE, gC, gW, gX.1, gcl, ghas, gap, gon, gK⟩
  have G : Ground q loose r.records (XL q []) w s (s.heap.nsMap mainGlobals) (s.heap.nsMap builtinsNs) s.heap := RecFacts.ground gX.2 G0
  have hT' := hT
  refine ⟨s0, hf, hg0, s, hT, fun n hn => ?_, gX.2.1, gX.2.2.1, ?_⟩
  · have e : n = r.name := by
      split at hn
      · exact List.mem_singleton.mp hn
      · cases hn
    subst e
    exact pinned_of_view hg G0 hdef hp hk
  refine ClaimW.callFrom_of_specG (c := r.toRowW.claim) (tree := fun vs => do
      match ← nsGet mainNs r.name with
      | some f => do ret (← PySem.call f vs)
      | none => unsupported "claim.caller:no-such-global") hz hgens fun args hpre hlay ord hord => ?_
  obtain ⟨⟨vs, s1⟩, laid⟩ := Option.isSome_iff_exists.mp (layAllW_isSome (P := w.params) (ord := ord) G.has args r.args s (pre_splitW hpre).1)
  have keeps := layAllW_keeps _ _ _ laid
  have rest := layAllW_rest _ _ _ laid
  obtain ⟨as, hrd, hin2, hold⟩ := reads_layAllW hord _ _ _ laid hlay s1.heap fun _ _ e => e
  have L : Laid r.records w s s1 args vs as := ⟨⟨ord, hord, laid⟩, hrd, hin2, hold, keeps, rest.1.trans hgens, rest.2.2.1⟩
  have G1 := G.keeps (XL.keeps) keeps
  obtain ⟨a, o, pm, cd, doc, dV, kV, h1, h2, h3, h4, h5⟩ := G1.fn hdef
  have h1n := defOf_name hdef ▸ h1
  have z := call w s s1 _ _ G1 (hYk _ _ _ y keeps) a o pm cd doc dV kV h2 h3 h4 h5 h1n L.gens args vs as hpre hlay L.reads L.well (L.low G.low)
  refine ⟨vs, s1, laid, ?_⟩
  refine wpAny_bind (wpAny_nsGet G1.T.g ?_)
  have e2 : s.heap.nsMap mainGlobals r.name = some (.ref a) := h1
  rw [e2]
  refine wpAny_bind (wpAny_mono z (fun v s' g => wpAny_pure ?_) fun e s' g => ?_)
  · have t := g.laid (c := r.toRowW.claim) hsame hin hid L
    exact ⟨_, rfl, t.1, t.2.1, t.2.2, fun q2 => ⟨namesKept_of hT' hg r.keeps keeps g.2.1.old, noTable hwr q2⟩⟩
  · have t := g.laid (c := r.toRowW.claim) hsame hin hid L
    exact ⟨t.1, t.2.1, t.2.2, fun q2 => ⟨namesKept_of hT' hg r.keeps keeps g.2.1.old, noTable hwr q2⟩⟩
end LedRun
end
/-! Ev0 -/
namespace Ev
open PySem PySem.Spec PyProof.Rows L2
inductive D where
  | non | bl (b : Bool) | int (i : Int) | str (x : Str) | lst (l : List D) | rol (l : List D) | tup (l : List D) | dK (l : List (Key × D)) | dT (l : List (List Key × D))
abbrev Frag := PySem.W.Frag
def Ex (H H' : Hp) : Prop := ∀ a o, H a = some o → H' a = some o
theorem Ex.refl (H : Hp) : Ex H H := fun _ _ h => h
theorem Ex.trans {H H1 H2 : Hp} (a : Ex H H1) (b : Ex H1 H2) : Ex H H2 := fun x o h => b x o (a x o h)
theorem Ex.new {H : Hp} {p : Addr} {o : HO} (h : H p = none) : Ex H (upd H p o) := fun a u e => by
  rw [upd_ne (ne_of_none e h)]
  exact e
theorem Ex.none {H H' : Hp} {p : Addr} (e : Ex H H') (h : H' p = none) : H p = none := by
  cases q : H p with
  | none => rfl
  | some o =>
    rw [e p o q] at h
    cases h
theorem Ex.rd {H H' : Hp} {a : Addr} {u : HO} (e : Ex H H') (h : Rd H a u) : Rd H' a u := by
  rcases h with h | ⟨o, h⟩
  · exact .inl (e a _ h)
  · exact .inr ⟨o, e a _ h⟩
theorem Ex.seqL {K : Frag} {H H' : Hp} {a : Addr} {xs : List V} (e : Ex H H') (h : SqL K H a xs) : SqL K H' a xs := h.imp e.rd id
theorem Ex.seqT {K : Frag} {H H' : Hp} {a : Addr} {xs : List V} (e : Ex H H') (h : SqT K H a xs) : SqT K H' a xs := h.imp e.rd id
mutual
inductive R (K : Frag) (F : Hp) : V → D → Prop
  | non : R K F .non .non
  | bl (b : Bool) : R K F (.bl b) (.bl b)
  | int (i : Int) : R K F (.int i) (.int i)
  | str (x : Str) : R K F (.str x) (.str x)
  | lst {a : Addr} {xs : List V} {ds : List D} (h : F a = some (.lst xs)) (r : Rs K F xs ds) : R K F (.ref a) (.lst ds)
  | rol {a : Addr} {xs : List V} {ds : List D} (h : SqL K F a xs) (r : Rs K F xs ds) : R K F (.ref a) (.rol ds)
  | tup {a : Addr} {xs : List V} {ds : List D} (h : SqT K F a xs) (r : Rs K F xs ds) : R K F (.ref a) (.tup ds)
  | dK {a : Addr} {kvs : List (Key × V)} {ds : List (Key × D)} (h : Rd F a (.dK kvs)) (r : RKs K F kvs ds) : R K F (.ref a) (.dK ds)
  | dT {a : Addr} {kvs : List (List Key × V)} {ds : List (List Key × D)} (h : F a = some (.dT kvs)) (r : RTs K F kvs ds) : R K F (.ref a) (.dT ds)
inductive Rs (K : Frag) (F : Hp) : List V → List D → Prop
  | nil : Rs K F [] []
  | cons {v : V} {d : D} {vs : List V} {ds : List D} (h : R K F v d) (r : Rs K F vs ds) : Rs K F (v :: vs) (d :: ds)
inductive RKs (K : Frag) (F : Hp) : List (Key × V) → List (Key × D) → Prop
  | nil : RKs K F [] []
  | cons {k : Key} {v : V} {d : D} {vs : List (Key × V)} {ds : List (Key × D)} (h : R K F v d) (r : RKs K F vs ds) : RKs K F ((k, v) :: vs) ((k, d) :: ds)
inductive RTs (K : Frag) (F : Hp) : List (List Key × V) → List (List Key × D) → Prop
  | nil : RTs K F [] []
  | cons {k : List Key} {v : V} {d : D} {vs : List (List Key × V)} {ds : List (List Key × D)} (h : R K F v d) (r : RTs K F vs ds) : RTs K F ((k, v) :: vs) ((k, d) :: ds)
end
section
variable {K : Frag} {F F' : Hp}
mutual
theorem R.mono (e : Ex F F') : ∀ {v : V} {d : D}, R K F v d → R K F' v d
  | _, _, .non => .non
  | _, _, .bl b => .bl b
  | _, _, .int i => .int i
  | _, _, .str x => .str x
  | _, _, .lst h r => .lst (e _ _ h) (Rs.mono e r)
  | _, _, .rol h r => .rol (e.seqL h) (Rs.mono e r)
  | _, _, .tup h r => .tup (e.seqT h) (Rs.mono e r)
  | _, _, .dK h r => .dK (e.rd h) (RKs.mono e r)
  | _, _, .dT h r => .dT (e _ _ h) (RTs.mono e r)
theorem Rs.mono (e : Ex F F') : ∀ {vs : List V} {ds : List D}, Rs K F vs ds → Rs K F' vs ds
  | _, _, .nil => .nil
  | _, _, .cons h r => .cons (R.mono e h) (Rs.mono e r)
theorem RKs.mono (e : Ex F F') : ∀ {vs : List (Key × V)} {ds : List (Key × D)}, RKs K F vs ds → RKs K F' vs ds
  | _, _, .nil => .nil
  | _, _, .cons h r => .cons (R.mono e h) (RKs.mono e r)
theorem RTs.mono (e : Ex F F') : ∀ {vs : List (List Key × V)} {ds : List (List Key × D)}, RTs K F vs ds → RTs K F' vs ds
  | _, _, .nil => .nil
  | _, _, .cons h r => .cons (R.mono e h) (RTs.mono e r)
end
theorem Rs.len : ∀ {vs : List V} {ds : List D}, Rs K F vs ds → vs.length = ds.length
  | _, _, .nil => rfl
  | _, _, .cons _ r => congrArg (· + 1) r.len
theorem Rs.get : ∀ {vs : List V} {ds : List D} {i : Nat} {d : D}, Rs K F vs ds → ds[i]? = some d → ∃ v, vs[i]? = some v ∧ R K F v d
  | _, _, _, _, .nil, e => by simp at e
  | _, _, 0, _, .cons h _, e => by
    rw [List.getElem?_cons_zero] at e
    cases e
    exact ⟨_, rfl, h⟩
  | _, _, i + 1, _, .cons _ r, e => by
    rw [List.getElem?_cons_succ] at e
    obtain ⟨v, e1, h⟩ := r.get e
    exact ⟨v, by rw [List.getElem?_cons_succ]; exact e1, h⟩
theorem Rs.getV : ∀ {vs : List V} {ds : List D} {i : Nat} {v : V}, Rs K F vs ds → vs[i]? = some v → ∃ d, ds[i]? = some d ∧ R K F v d
  | _, _, _, _, .nil, e => by simp at e
  | _, _, 0, _, .cons h _, e => by
    rw [List.getElem?_cons_zero] at e
    cases e
    exact ⟨_, rfl, h⟩
  | _, _, i + 1, _, .cons _ r, e => by
    rw [List.getElem?_cons_succ] at e
    obtain ⟨d, e1, h⟩ := r.getV e
    exact ⟨d, by rw [List.getElem?_cons_succ]; exact e1, h⟩
theorem Rs.app : ∀ {vs ws : List V} {ds es : List D}, Rs K F vs ds → Rs K F ws es → Rs K F (vs ++ ws) (ds ++ es)
  | _, _, _, _, .nil, q => q
  | _, _, _, _, .cons h r, q => .cons h (r.app q)
theorem Rs.take : ∀ {vs : List V} {ds : List D} (n : Nat), Rs K F vs ds → Rs K F (vs.take n) (ds.take n)
  | _, _, 0, _ => .nil
  | _, _, _ + 1, .nil => .nil
  | _, _, n + 1, .cons h r => .cons h (r.take n)
theorem Rs.drop : ∀ {vs : List V} {ds : List D} (n : Nat), Rs K F vs ds → Rs K F (vs.drop n) (ds.drop n)
  | _, _, 0, r => r
  | _, _, _ + 1, .nil => .nil
  | _, _, n + 1, .cons _ r => r.drop n
theorem Rs.set : ∀ {vs : List V} {ds : List D} {v : V} {d : D} (i : Nat), R K F v d → Rs K F vs ds → Rs K F (vs.set i v) (ds.set i d)
  | _, _, _, _, _, _, .nil => .nil
  | _, _, _, _, 0, h, .cons _ r => .cons h r
  | _, _, _, _, i + 1, h, .cons q r => .cons q (r.set i h)
theorem Rs.one {v : V} {d : D} (h : R K F v d) : Rs K F [v] [d] := .cons h .nil
theorem RKs.len : ∀ {vs : List (Key × V)} {ds : List (Key × D)}, RKs K F vs ds → vs.length = ds.length
  | _, _, .nil => rfl
  | _, _, .cons _ r => congrArg (· + 1) r.len
theorem RTs.len : ∀ {vs : List (List Key × V)} {ds : List (List Key × D)}, RTs K F vs ds → vs.length = ds.length
  | _, _, .nil => rfl
  | _, _, .cons _ r => congrArg (· + 1) r.len
/-- the ints of a list -/
theorem Rs.ints : ∀ {ns : List Int}, Rs K F (ns.map V.int) (ns.map D.int)
  | [] => .nil
  | n :: _ => .cons (.int n) Rs.ints
theorem Rs.strs : ∀ {ns : List Str}, Rs K F (ns.map V.str) (ns.map D.str)
  | [] => .nil
  | n :: _ => .cons (.str n) Rs.strs
theorem Rs.strs_inv : ∀ {vs : List V} {ns : List Str}, Rs K F vs (ns.map D.str) → vs = ns.map V.str
  | _, [], .nil => rfl
  | _, n :: r, .cons (.str _) t => by rw [Rs.strs_inv t]; rfl
end
/-- a name's place: nothing, a value, a list or dict of the def's own, one that was handed in to be changed -/
inductive Sl where
  | none | val (d : D) | own (d : D) | ref (d : D)
abbrev EnvD := List Sl
/-- what an expression gives: a value, a new list or dict -/
inductive Re where
  | val (d : D) | new (d : D)
def Re.d : Re → D
  | .val d => d
  | .new d => d
/-- what stands at an address that may be changed -/
def Cell (K : Frag) (F H : Hp) (l : Addr) (d : D) : Prop := match d with
  | .lst ds => ∃ xs, H l = some (.lst xs) ∧ Rs K F xs ds
  | .dK ds => ∃ kvs, H l = some (.dK kvs) ∧ RKs K F kvs ds
  | .dT ds => ∃ kvs, H l = some (.dT kvs) ∧ RTs K F kvs ds
  | _ => False
theorem Cell.mono {K : Frag} {F F' H H' : Hp} {l : Addr} {d : D} (c : Cell K F H l d) (e : Ex F F') (h : H' l = H l) : Cell K F' H' l d := by
  cases d with
  | lst ds => obtain ⟨xs, a, b⟩ := c; exact ⟨xs, h.trans a, b.mono e⟩
  | dK ds => obtain ⟨xs, a, b⟩ := c; exact ⟨xs, h.trans a, b.mono e⟩
  | dT ds => obtain ⟨xs, a, b⟩ := c; exact ⟨xs, h.trans a, b.mono e⟩
  | _ => exact c
theorem Cell.there {K : Frag} {F H : Hp} {l : Addr} {d : D} (c : Cell K F H l d) : ∃ o, H l = some o := by
  cases d with
  | lst ds => obtain ⟨xs, a, b⟩ := c; exact ⟨_, a⟩
  | dK ds => obtain ⟨xs, a, b⟩ := c; exact ⟨_, a⟩
  | dT ds => obtain ⟨xs, a, b⟩ := c; exact ⟨_, a⟩
  | _ => exact c.elim
theorem Cell.ext {K : Frag} {F F' H H' : Hp} {l : Addr} {d : D} (c : Cell K F H l d) (e : Ex F F') (h : Ex H H') : Cell K F' H' l d := by
  obtain ⟨o, ho⟩ := c.there
  exact c.mono e (by rw [h l o ho, ho])
/-- a cell is frozen: it stands among what is never changed -/
theorem Cell.frz {K : Frag} {F H : Hp} {l : Addr} {d : D} {o : HO} (c : Cell K F H l d) (hF : F l = none) (ho : H l = some o) : R K (upd F l o) (.ref l) d := by
  have e : Ex F (upd F l o) := Ex.new hF
  cases d with
  | lst ds =>
    obtain ⟨xs, a, b⟩ := c
    rw [ho] at a
    cases a
    exact .lst upd_same (b.mono e)
  | dK ds =>
    obtain ⟨xs, a, b⟩ := c
    rw [ho] at a
    cases a
    exact .dK (.inl upd_same) (b.mono e)
  | dT ds =>
    obtain ⟨xs, a, b⟩ := c
    rw [ho] at a
    cases a
    exact .dT upd_same (b.mono e)
  | _ => exact c.elim
/-- the addresses of the environment's cells, by place -/
def cellOf (ρ : EnvD) (i : Nat) : Option D := match ρ[i]? with
  | some (.own d) => some d
  | some (.ref d) => some d
  | _ => none
/-- H holds what nobody here may touch (G), what never changes (F), and the cells of the environment; B: the places handed in to be changed, with their addresses -/
structure Rep (K : Frag) (G : Hp) (B : List (Nat × Addr)) (F H : Hp) (ρ : EnvD) (σ : L2.St) : Prop where
  len : ρ.length = σ.length
  exF : Ex F H
  exG : Ex G H
  dis : ∀ a o, F a = some o → G a = none
  val : ∀ (i : Nat) (d : D), ρ[i]? = some (Sl.val d) → ∃ v, σ[i]? = some (some v) ∧ R K F v d
  own : ∀ (i : Nat) (d : D), cellOf ρ i = some d → ∃ l, σ[i]? = some (some (.ref l)) ∧ F l = none ∧ G l = none ∧ Cell K F H l d
  sep : ∀ (i j : Nat) (d e : D) (l : Addr), cellOf ρ i = some d → cellOf ρ j = some e → σ[i]? = some (some (.ref l)) → σ[j]? = some (some (.ref l)) → i = j
  bor : ∀ (i : Nat) (l : Addr), (i, l) ∈ B → (∃ d, ρ[i]? = some (Sl.ref d)) ∧ σ[i]? = some (some (.ref l))
def RRe (K : Frag) (G F H : Hp) (ρ : EnvD) (σ : L2.St) (v : V) : Re → Prop
  | .val d => R K F v d
  | .new d => ∃ l, v = .ref l ∧ F l = none ∧ G l = none ∧ Cell K F H l d ∧ ∀ (i : Nat) (e : D), cellOf ρ i = some e → σ[i]? ≠ some (some (.ref l))
abbrev Fe := EnvD → Option (Re × EnvD)
abbrev Fv := EnvD → Option (D × EnvD)
abbrev Fb := EnvD → Option (Bool × EnvD)
abbrev Fl := EnvD → Option (List D × EnvD)
/-- the reading of an expression: what the function over data gives -/
def tE (K : Frag) (f : Fe) : TE := fun σ H Q => ∃ G B F ρ r ρ', Rep K G B F H ρ σ ∧ f ρ = some (r, ρ') ∧ ∀ v F' H', Ex F F' → Rep K G B F' H' ρ' σ → RRe K G F' H' ρ' σ v r → Q v H'
def tV (K : Frag) (f : Fv) : TE := fun σ H Q => ∃ G B F ρ d ρ', Rep K G B F H ρ σ ∧ f ρ = some (d, ρ') ∧ ∀ v F' H', Ex F F' → Rep K G B F' H' ρ' σ → R K F' v d → Q v H'
def tT (K : Frag) (f : Fb) : TT := fun σ H Q => ∃ G B F ρ b ρ', Rep K G B F H ρ σ ∧ f ρ = some (b, ρ') ∧ ∀ F' H', Ex F F' → Rep K G B F' H' ρ' σ → Q b H'
def tL (K : Frag) (f : Fl) : TA := fun σ H Q => ∃ G B F ρ ds ρ', Rep K G B F H ρ σ ∧ f ρ = some (ds, ρ') ∧ ∀ vs F' H', Ex F F' → Rep K G B F' H' ρ' σ → Rs K F' vs ds → Q vs H'
theorem PE.weak {X : Cx} {e : Expr} {t t' : TE} (h : PE X e t) (w : ∀ σ H Q, t' σ H Q → t σ H Q) : PE X e t' := ⟨fun pins s σ H Q I q => h.run pins s σ H Q I (w σ H Q q)⟩
theorem PT.weak {X : Cx} {e : Expr} {t t' : TT} (h : PT X e t) (w : ∀ σ H Q, t' σ H Q → t σ H Q) : PT X e t' := ⟨fun pins s σ H Q I q => h.run pins s σ H Q I (w σ H Q q)⟩
theorem PA.weak {X : Cx} {es : List Expr} {t t' : TA} (h : PA X es t) (w : ∀ σ H Q, t' σ H Q → t σ H Q) : PA X es t' := ⟨fun p pins s σ H Q I q => h.run p pins s σ H Q I (w σ H Q q)⟩
theorem PS.weak {X : Cx} {st : Stmt} {t t' : TS} (h : PS X st t) (w : ∀ D σ H, t' D σ H → t D σ H) : PS X st t' := ⟨fun pins s σ H D I q => h.run pins s σ H D I (w D σ H q)⟩
theorem PSs.weak {X : Cx} {st : List Stmt} {t t' : TS} (h : PSs X st t) (w : ∀ D σ H, t' D σ H → t D σ H) : PSs X st t' := ⟨fun pins s σ H D I q => h.run pins s σ H D I (w D σ H q)⟩
/-- of a new list the freedom is given up -/
def frzF (f : Fe) : Fv := fun ρ => (f ρ).map fun x => (x.1.d, x.2)
section
variable {K : Frag} {G : Hp} {B : List (Nat × Addr)} {F F' H H' : Hp} {ρ ρ' : EnvD} {σ : L2.St}
theorem Rep.frz {l : Addr} {o : HO} (r : Rep K G B F H ρ σ) (hG : G l = none) (hF : F l = none) (ho : H l = some o) (hs : ∀ (i : Nat) (e : D), cellOf ρ i = some e → σ[i]? ≠ some (some (.ref l))) : Rep K G B (upd F l o) H ρ σ := by
  have e : Ex F (upd F l o) := Ex.new hF
  refine ⟨r.len, fun a u q => ?_, r.exG, fun a u q => ?_, fun i d q => ?_, fun i d q => ?_, r.sep, r.bor⟩
  · by_cases h : a = l
    · subst h
      rw [upd_same] at q
      cases q
      exact ho
    · rw [upd_ne h] at q
      exact r.exF a u q
  · by_cases h : a = l
    · rw [h]; exact hG
    · rw [upd_ne h] at q
      exact r.dis a u q
  · obtain ⟨v, a, b⟩ := r.val i d q
    exact ⟨v, a, b.mono e⟩
  · obtain ⟨m, a, b, c, d2⟩ := r.own i d q
    have ne : m ≠ l := fun z => by
      subst z
      exact hs i d q a
    exact ⟨m, a, by rw [upd_ne ne]; exact b, c, d2.mono e rfl⟩
theorem frz_re {v : V} {r : Re} (p : Rep K G B F H ρ σ) (q : RRe K G F H ρ σ v r) : ∃ F', Ex F F' ∧ Rep K G B F' H ρ σ ∧ R K F' v r.d := by
  cases r with
  | val d => exact ⟨F, Ex.refl _, p, q⟩
  | new d =>
    obtain ⟨l, rfl, hF, hG, c, hs⟩ := q
    obtain ⟨o, ho⟩ := c.there
    exact ⟨upd F l o, Ex.new hF, p.frz hG hF ho hs, c.frz hF ho⟩
end
theorem PE.frz {X : Cx} {e : Expr} {K : Frag} {f : Fe} (h : PE X e (tE K f)) : PE X e (tV K (frzF f)) := PE.weak h fun σ H Q ⟨G, B, F, ρ, d, ρ', rp, ef, k⟩ => by
  unfold frzF at ef
  cases q : f ρ with
  | none => rw [q] at ef; cases ef
  | some x =>
    obtain ⟨r, ρ2⟩ := x
    rw [q] at ef
    have e2 : (r.d, ρ2) = (d, ρ') := Option.some.inj ef
    simp only [Prod.mk.injEq] at e2
    obtain ⟨rfl, rfl⟩ := e2
    refine ⟨G, B, F, ρ, r, ρ2, rp, q, fun v F' H' e rp' rr => ?_⟩
    obtain ⟨F2, e3, rp2, r2⟩ := frz_re rp' rr
    exact k v F2 H' (e.trans e3) rp2 r2
/-- a value as an expression's result -/
def valF (f : Fv) : Fe := fun ρ => (f ρ).map fun x => (.val x.1, x.2)
theorem PE.val {X : Cx} {e : Expr} {K : Frag} {f : Fv} (h : PE X e (tV K f)) : PE X e (tE K (valF f)) := PE.weak h fun σ H Q ⟨G, B, F, ρ, r, ρ', rp, ef, k⟩ => by
  unfold valF at ef
  cases q : f ρ with
  | none => rw [q] at ef; cases ef
  | some x =>
    obtain ⟨d, ρ2⟩ := x
    rw [q] at ef
    have e2 : (Re.val d, ρ2) = (r, ρ') := Option.some.inj ef
    simp only [Prod.mk.injEq] at e2
    obtain ⟨rfl, rfl⟩ := e2
    exact ⟨G, B, F, ρ, d, ρ2, rp, q, k⟩
/-- what is never reached -/
theorem pe_no {X : Cx} {e : Expr} {K : Frag} : PE X e (tE K fun _ => none) := ⟨fun pins s σ H Q I ⟨G, B, F, ρ, r, ρ', rp, ef, k⟩ => by cases ef⟩
end Ev
/-! Ev1 -/
namespace Ev
open PySem PySem.Spec PyProof.Rows L2
section
variable {K : Frag} {G : Hp} {B : List (Nat × Addr)} {F F' H H' : Hp} {ρ ρ' : EnvD} {σ : L2.St}
/-- a new object is laid -/
theorem Rep.new {p : Addr} {o : HO} (r : Rep K G B F H ρ σ) (h : H p = none) : Rep K G B F (upd H p o) ρ σ ∧ F p = none ∧ G p = none ∧ ∀ (i : Nat) (e : D), cellOf ρ i = some e → σ[i]? ≠ some (some (.ref p)) := by
  have e : Ex H (upd H p o) := Ex.new h
  refine ⟨⟨r.len, r.exF.trans e, r.exG.trans e, r.dis, r.val, fun i d q => ?_, r.sep, r.bor⟩, r.exF.none h, r.exG.none h, fun i d q z => ?_⟩
  · obtain ⟨l, a, b, c, d2⟩ := r.own i d q
    exact ⟨l, a, b, c, d2.ext (Ex.refl F) e⟩
  · obtain ⟨l, a, b, c, d2⟩ := r.own i d q
    rw [a] at z
    cases z
    obtain ⟨o2, ho⟩ := d2.there
    rw [h] at ho
    cases ho
/-- a new object that is never changed -/
theorem Rep.newF {p : Addr} {o : HO} (r : Rep K G B F H ρ σ) (h : H p = none) : Rep K G B (upd F p o) (upd H p o) ρ σ ∧ Ex F (upd F p o) := by
  obtain ⟨a, b, c, d⟩ := r.new (o := o) h
  exact ⟨a.frz c b upd_same d, Ex.new b⟩
theorem Rep.lt (r : Rep K G B F H ρ σ) {i : Nat} {x : Sl} (h : ρ[i]? = some x) : i < σ.length := by
  rw [← r.len]
  exact (List.getElem?_eq_some_iff.mp h).1
theorem cell_set_val {ρ : EnvD} {i j : Nat} {d : D} : cellOf (ρ.set i (.val d)) j = if i = j ∧ i < ρ.length then none else cellOf ρ j := by
  unfold cellOf
  rw [List.getElem?_set]
  by_cases h : i = j
  · subst h
    by_cases h2 : i < ρ.length
    · simp [h2]
    · simp [h2]
  · simp [h]
theorem cell_set_none {ρ : EnvD} {i j : Nat} : cellOf (ρ.set i .none) j = if i = j ∧ i < ρ.length then none else cellOf ρ j := by
  unfold cellOf
  rw [List.getElem?_set]
  by_cases h : i = j
  · subst h
    by_cases h2 : i < ρ.length
    · simp [h2]
    · simp [h2]
  · simp [h]
theorem cell_own {ρ : EnvD} {i : Nat} {d : D} (h : ρ[i]? = some (Sl.own d)) : cellOf ρ i = some d := by unfold cellOf; rw [h]
theorem cell_ref {ρ : EnvD} {i : Nat} {d : D} (h : ρ[i]? = some (Sl.ref d)) : cellOf ρ i = some d := by unfold cellOf; rw [h]
theorem cell_val {ρ : EnvD} {i : Nat} {d : D} (h : ρ[i]? = some (Sl.val d)) : cellOf ρ i = none := by unfold cellOf; rw [h]
/-- the def's own cell i is given away -/
theorem Rep.giveup {i : Nat} {d : D} (r : Rep K G B F H ρ σ) (h : ρ[i]? = some (Sl.own d)) : ∃ l F', σ[i]? = some (some (.ref l)) ∧ Ex F F' ∧ Rep K G B F' H (ρ.set i (.val d)) σ ∧ R K F' (.ref l) d := by
  obtain ⟨l, a, b, c, d2⟩ := r.own i d (cell_own h)
  obtain ⟨o, ho⟩ := d2.there
  have e : Ex F (upd F l o) := Ex.new b
  have hlt : i < ρ.length := (List.getElem?_eq_some_iff.mp h).1
  have hR : R K (upd F l o) (.ref l) d := d2.frz b ho
  refine ⟨l, upd F l o, a, e, ⟨by rw [List.length_set]; exact r.len, fun x u q => ?_, r.exG, fun x u q => ?_, fun j e2 q => ?_, fun j e2 q => ?_, fun j k e2 e3 m q1 q2 => ?_, fun j m q => ?_⟩, hR⟩
  · by_cases z : x = l
    · subst z
      rw [upd_same] at q
      cases q
      exact ho
    · rw [upd_ne z] at q
      exact r.exF x u q
  · by_cases z : x = l
    · rw [z]; exact c
    · rw [upd_ne z] at q
      exact r.dis x u q
  · rw [List.getElem?_set] at q
    by_cases z : i = j
    · subst z
      rw [if_pos rfl, if_pos hlt] at q
      cases q
      exact ⟨_, a, hR⟩
    · rw [if_neg z] at q
      obtain ⟨v, q1, q2⟩ := r.val j e2 q
      exact ⟨v, q1, q2.mono e⟩
  · rw [cell_set_val] at q
    split at q
    · cases q
    · rename_i z
      obtain ⟨m, q1, q2, q3, q4⟩ := r.own j e2 q
      have ne : m ≠ l := fun y => by
        subst y
        exact z ⟨r.sep i j d e2 m (cell_own h) q a q1, hlt⟩
      exact ⟨m, q1, by rw [upd_ne ne]; exact q2, q3, q4.mono e rfl⟩
  · rw [cell_set_val] at q1 q2
    split at q1
    · cases q1
    · split at q2
      · cases q2
      · exact r.sep j k e2 e3 m q1 q2
  · obtain ⟨⟨e2, q1⟩, q2⟩ := r.bor j m q
    refine ⟨⟨e2, ?_⟩, q2⟩
    rw [List.getElem?_set]
    have ne : i ≠ j := fun y => by
      subst y
      rw [h] at q1
      cases q1
    rw [if_neg ne]
    exact q1
end
def varE (i : Nat) : Fe := fun ρ => match ρ[i]? with
  | some (.val d) => some (.val d, ρ)
  | some (.own d) => some (.val d, ρ.set i (.val d))
  | _ => none
theorem ev_var {X : Cx} {K : Frag} {x : Str} {pos : Pos} {i : Nat} (hN : X.N[i]? = some x) (hv : Vis X.env.scope x) (hd : (x == ("__debug__" : Str)) = false) (hc : (x == ("__classdict__" : Str)) = false) : PE X (.Name x pos) (tE K (varE i)) :=
  PE.weak (pe_var (i := i) hN hv hd hc) fun σ H Q ⟨G, B, F, ρ, r, ρ', rp, ef, k⟩ => by
    unfold varE at ef
    cases q : ρ[i]? with
    | none => rw [q] at ef; cases ef
    | some sl =>
      rw [q] at ef
      cases sl with
      | val d =>
        have e2 : (Re.val d, ρ) = (r, ρ') := Option.some.inj ef
        simp only [Prod.mk.injEq] at e2
        obtain ⟨rfl, rfl⟩ := e2
        obtain ⟨v, a, b⟩ := rp.val i d q
        exact ⟨v, a, k v F H (Ex.refl F) rp b⟩
      | own d =>
        have e2 : (Re.val d, ρ.set i (.val d)) = (r, ρ') := Option.some.inj ef
        simp only [Prod.mk.injEq] at e2
        obtain ⟨rfl, rfl⟩ := e2
        obtain ⟨l, F', a, e, rp', rr⟩ := rp.giveup q
        exact ⟨.ref l, a, k _ F' H e rp' rr⟩
      | none => cases ef
      | ref d => cases ef
def conE (d : D) : Fe := fun ρ => some (.val d, ρ)
theorem ev_con {X : Cx} {K : Frag} {e : Expr} {v : V} {d : D} (h : PE X e (tC v)) (hr : ∀ F : Hp, R K F v d) : PE X e (tE K (conE d)) :=
  PE.weak h fun σ H Q ⟨G, B, F, ρ, r, ρ', rp, ef, k⟩ => by
    have e2 : (Re.val d, ρ) = (r, ρ') := Option.some.inj ef
    simp only [Prod.mk.injEq] at e2
    obtain ⟨rfl, rfl⟩ := e2
    exact k v F H (Ex.refl F) rp (hr F)
abbrev Op2 := D → D → Option Re
def op2E (g : Op2) (f1 f2 : Fv) : Fe := fun ρ => match f1 ρ with
  | some (x, ρ1) => (match f2 ρ1 with
    | some (y, ρ2) => (match g x y with
      | some r => some (r, ρ2)
      | none => none)
    | none => none)
  | none => none
/-- an operation on values does what g says of data -/
def Op2Ok (K : Frag) (r : R2) (g : Op2) : Prop := ∀ (G : Hp) (B : List (Nat × Addr)) (F H : Hp) (ρ : EnvD) (σ : L2.St) (v u : V) (x y : D) (z : Re) (Q : VK), Rep K G B F H ρ σ → R K F v x → R K F u y → g x y = some z →
  (∀ w F' H', Ex F F' → Rep K G B F' H' ρ σ → RRe K G F' H' ρ σ w z → Q w H') → r v u H Q
theorem ev_tOp {X : Cx} {K : Frag} {e : Expr} {r : R2} {g : Op2} {f1 f2 : Fv} (h : PE X e (tOp r (tV K f1) (tV K f2))) (ok : Op2Ok K r g) : PE X e (tE K (op2E g f1 f2)) :=
  PE.weak h fun σ H Q ⟨G, B, F, ρ, z, ρ', rp, ef, k⟩ => by
    unfold op2E at ef
    cases q1 : f1 ρ with
    | none => rw [q1] at ef; cases ef
    | some x1 =>
      obtain ⟨x, ρ1⟩ := x1
      rw [q1] at ef
      cases q2 : f2 ρ1 with
      | none => simp only [q2] at ef; cases ef
      | some y1 =>
        obtain ⟨y, ρ2⟩ := y1
        simp only [q2] at ef
        cases q3 : g x y with
        | none => rw [q3] at ef; cases ef
        | some z2 =>
          rw [q3] at ef
          have e2 : (z2, ρ2) = (z, ρ') := Option.some.inj ef
          simp only [Prod.mk.injEq] at e2
          obtain ⟨rfl, rfl⟩ := e2
          refine ⟨G, B, F, ρ, x, ρ1, rp, q1, fun v F1 H1 e1 rp1 r1 => ?_⟩
          refine ⟨G, B, F1, ρ1, y, ρ2, rp1, q2, fun u F2 H2 e2 rp2 r2 => ?_⟩
          exact ok G B F2 H2 ρ2 σ v u x y z2 Q rp2 (r1.mono e2) r2 q3 fun w F3 H3 e3 rp3 r3 => k w F3 H3 ((e1.trans e2).trans e3) rp3 r3
theorem Op2Ok.or {K : Frag} {r r' : R2} {g g' : Op2} (h : Op2Ok K r g) (h' : Op2Ok K r' g') : Op2Ok K (fun x y H Q => r x y H Q ∨ r' x y H Q) (fun x y => (g x y).or (g' x y)) := by
  intro G B F H ρ σ v u x y z Q rp r1 r2 e k
  have e : (g x y).or (g' x y) = some z := e
  cases q : g x y with
  | some z2 =>
    rw [q] at e
    cases e
    exact .inl (h G B F H ρ σ v u x y z Q rp r1 r2 q k)
  | none =>
    rw [q] at e
    exact .inr (h' G B F H ρ σ v u x y z Q rp r1 r2 e k)
theorem OpR.or {X : Cx} {f : Value → Value → Sem Value} {r r' : R2} (h : OpR X f r) (h' : OpR X f r') : OpR X f (fun x y H Q => r x y H Q ∨ r' x y H Q) := fun pins s σ H x y v u Q I rx ry q => by
  rcases q with q | q
  · exact h pins s σ H x y v u Q I rx ry q
  · exact h' pins s σ H x y v u Q I rx ry q
/-- ints -/
def gI (g : Int → Int → Option D) : Op2 := fun x y => match x, y with
  | .int i, .int j => (g i j).map Re.val
  | _, _ => none
theorem gI_ok {K : Frag} {C : Int → Int → Prop} {f : Int → Int → V} {g : Int → Int → Option D} (h : ∀ i j d, g i j = some d → C i j ∧ ∀ F, R K F (f i j) d) : Op2Ok K (rI C f) (gI g) := by
  intro G B F H ρ σ v u x y z Q rp r1 r2 e k
  cases r1 <;> cases r2 <;> try cases e
  rename_i i j
  have e1 : (g i j).map Re.val = some z := e
  obtain ⟨d, e2, e3⟩ := Option.map_eq_some_iff.mp e1
  subst e3
  obtain ⟨c, hr⟩ := h i j d e2
  exact ⟨i, j, rfl, rfl, c, k _ F H (Ex.refl F) rp (hr F)⟩
theorem gI0_ok {K : Frag} {f : Int → Int → V} {g : Int → Int → Option D} (h : ∀ i j d, g i j = some d → ∀ F, R K F (f i j) d) : Op2Ok K (rI0 f) (gI g) := by
  intro G B F H ρ σ v u x y z Q rp r1 r2 e k
  cases r1 <;> cases r2 <;> try cases e
  rename_i i j
  have e1 : (g i j).map Re.val = some z := e
  obtain ⟨d, e2, e3⟩ := Option.map_eq_some_iff.mp e1
  subst e3
  exact ⟨i, j, rfl, rfl, k _ F H (Ex.refl F) rp (h i j d e2 F)⟩
/-- texts -/
def gS (g : Str → Str → Option D) : Op2 := fun x y => match x, y with
  | .str i, .str j => (g i j).map Re.val
  | _, _ => none
def isLine (n : Nat) : Bool := decide (n ≤ sizeLine)
def gAddS : Op2 := gS fun i j => if isLine (i.length + j.length) then some (.str (i ++ j)) else none
def rAddS : R2 := fun x y H Q => ∃ i j, x = .str i ∧ y = .str j ∧ i.length + j.length ≤ sizeLine ∧ Q (.str (i ++ j)) H
theorem gAddS_ok {K : Frag} : Op2Ok K rAddS gAddS := by
  intro G B F H ρ σ v u x y z Q rp r1 r2 e k
  cases r1 <;> cases r2 <;> try cases e
  rename_i i j
  have e1 : (if isLine (i.length + j.length) then some (D.str (i ++ j)) else none).map Re.val = some z := e
  split at e1
  · rename_i hl
    cases e1
    exact ⟨i, j, rfl, rfl, of_decide_eq_true hl, k _ F H (Ex.refl F) rp (.str _)⟩
  · cases e1
def gAddI : Op2 := gI fun i j => some (.int (i + j))
def gAddL : Op2 := fun x y => match x, y with
  | .lst a, .lst b => if isLine (a.length + b.length) then some (.new (.lst (a ++ b))) else none
  | _, _ => none
theorem gAddL_ok {K : Frag} : Op2Ok K rCat gAddL := by
  intro G B F H ρ σ v u x y z Q rp r1 r2 e k
  cases r1 <;> try cases e
  cases r2 <;> try cases e
  rename_i a xs ds h1 s1 b ys es h2 s2
  have e1 : (if isLine (ds.length + es.length) then some (Re.new (.lst (ds ++ es))) else none) = some z := e
  split at e1
  · rename_i hl
    cases e1
    refine ⟨a, b, xs, ys, rfl, rfl, rp.exF _ _ h1, rp.exF _ _ h2, by rw [s1.len, s2.len]; exact of_decide_eq_true hl, fun p hp => ?_⟩
    obtain ⟨rp2, f, g, ne⟩ := rp.new (o := .lst (xs ++ ys)) hp
    exact k _ F _ (Ex.refl F) rp2 ⟨p, rfl, f, g, ⟨_, upd_same, s1.app s2⟩, ne⟩
  · cases e1
def gAddT : Op2 := fun x y => match x, y with
  | .tup a, .tup b => if isLine (a.length + b.length) then some (.val (.tup (a ++ b))) else none
  | _, _ => none
theorem gAddT_ok {K : Frag} : Op2Ok K (rCatA K) gAddT := by
  intro G B F H ρ σ v u x y z Q rp r1 r2 e k
  cases r1 <;> try cases e
  cases r2 <;> try cases e
  rename_i a xs ds h1 s1 b ys es h2 s2
  have e1 : (if isLine (ds.length + es.length) then some (Re.val (.tup (ds ++ es))) else none) = some z := e
  split at e1
  · rename_i hl
    cases e1
    have hs := s1.app s2
    refine ⟨a, b, xs, ys, rfl, rfl, rp.exF.seqT h1, rp.exF.seqT h2, by rw [s1.len, s2.len]; exact of_decide_eq_true hl, fun e0 => ?_, fun _ e0 => ?_, fun _ _ p hp => ?_⟩
    · rw [e0, List.nil_append] at hs
      exact k _ F H (Ex.refl F) rp (.tup h2 hs)
    · rw [e0, List.append_nil] at hs
      exact k _ F H (Ex.refl F) rp (.tup h1 hs)
    · obtain ⟨rp2, ex⟩ := rp.newF (o := .tup (xs ++ ys)) hp
      exact k _ _ _ ex rp2 (.tup (SqT.of upd_same) (hs.mono ex))
  · cases e1
abbrev gAdd : Op2 := fun x y => ((((gAddI x y).or (gAddS x y))).or (gAddL x y)).or (gAddT x y)
theorem gAdd_ok {K : Frag} : Op2Ok K (fun x y H Q => ((rI0 (fun i j => .int (i + j)) x y H Q ∨ rAddS x y H Q) ∨ rCat x y H Q) ∨ rCatA K x y H Q) gAdd :=
  (((gI0_ok fun i j d e F => by cases e; exact .int _).or gAddS_ok).or gAddL_ok).or gAddT_ok
section
variable {X : Cx} {a b : Expr} {f1 f2 : Fv} {pos : Pos}
theorem ev_add (ha : PE X a (tV X.K f1)) (hb : PE X b (tV X.K f2)) : PE X (.BinOp a .Add b pos) (tE X.K (op2E gAdd f1 f2)) :=
  ev_tOp (pe_op (OpR.or (OpR.or (OpR.or op_add op_add_str) op_cat) op_catA) ha hb) gAdd_ok
def gSub : Op2 := gI fun i j => some (.int (i - j))
theorem ev_sub (ha : PE X a (tV X.K f1)) (hb : PE X b (tV X.K f2)) : PE X (.BinOp a .Sub b pos) (tE X.K (op2E gSub f1 f2)) :=
  ev_tOp (pe_op op_sub ha hb) (gI0_ok fun i j d e F => by cases e; exact .int _)
def inW : Int → Bool
  | .ofNat n => Nat.ble n 18446744073709551615
  | .negSucc n => Nat.ble n 18446744073709551614
theorem inW_ok {i : Int} (h : inW i = true) : -(2 ^ 64) < i ∧ i < 2 ^ 64 := by
  cases i with
  | ofNat n =>
    have := Nat.le_of_ble_eq_true h
    rw [show Int.ofNat n = (n : Int) from rfl]
    exact ⟨by omega, by omega⟩
  | negSucc n =>
    have := Nat.le_of_ble_eq_true h
    rw [Int.negSucc_eq]
    exact ⟨by omega, by omega⟩
def gMulI : Op2 := gI fun i j => if inW i || inW j then some (.int (i * j)) else none
def gMulL : Op2 := fun x y => match x, y with
  | .lst a, .int k => if inW k && (decide (-(2 ^ 63) ≤ k) && (decide (k < 2 ^ 63) && isLine (a.length * k.toNat))) then some (.new (.lst (List.replicate k.toNat a).flatten)) else none
  | _, _ => none
theorem Rs.rep {K : Frag} {F : Hp} {vs : List V} {ds : List D} (r : Rs K F vs ds) : ∀ n : Nat, Rs K F (List.replicate n vs).flatten (List.replicate n ds).flatten
  | 0 => .nil
  | n + 1 => by
    rw [List.replicate_succ, List.replicate_succ, List.flatten_cons, List.flatten_cons]
    exact r.app (r.rep n)
theorem gMulL_ok {K : Frag} : Op2Ok K rRep gMulL := by
  intro G B F H ρ σ v u x y z Q rp r1 r2 e k
  cases r1 <;> try cases e
  cases r2 <;> try cases e
  rename_i a xs ds h1 s1 j
  have e1 : (if inW j && (decide (-(2 ^ 63) ≤ j) && (decide (j < 2 ^ 63) && isLine (ds.length * j.toNat))) then some (Re.new (.lst (List.replicate j.toNat ds).flatten)) else none) = some z := e
  split at e1
  · rename_i hl
    cases e1
    simp only [Bool.and_eq_true, decide_eq_true_eq] at hl
    refine ⟨a, j, xs, rfl, rfl, rp.exF _ _ h1, hl.2.1, hl.2.2.1, by rw [s1.len]; exact of_decide_eq_true hl.2.2.2, fun p hp => ?_⟩
    obtain ⟨rp2, f, g, ne⟩ := rp.new (o := .lst (List.replicate j.toNat xs).flatten) hp
    exact k _ F _ (Ex.refl F) rp2 ⟨p, rfl, f, g, ⟨_, upd_same, s1.rep _⟩, ne⟩
  · cases e1
abbrev gMul : Op2 := fun x y => (gMulI x y).or (gMulL x y)
theorem ev_mul (ha : PE X a (tV X.K f1)) (hb : PE X b (tV X.K f2)) : PE X (.BinOp a .Mult b pos) (tE X.K (op2E gMul f1 f2)) :=
  ev_tOp (pe_op (OpR.or op_mul op_rep) ha hb) (Op2Ok.or (gI_ok fun i j d e => by
    split at e
    · rename_i hc
      cases e
      refine ⟨?_, fun F => .int _⟩
      rcases Bool.or_eq_true_iff.mp hc with h | h
      · exact .inl (inW_ok h)
      · exact .inr (inW_ok h)
    · cases e) gMulL_ok)
def gFdiv : Op2 := gI fun i j => if decide (j ≠ 0) && decide (j.natAbs < 1073741824) then some (.int (i.fdiv j)) else none
theorem ev_fdiv (ha : PE X a (tV X.K f1)) (hb : PE X b (tV X.K f2)) : PE X (.BinOp a .FloorDiv b pos) (tE X.K (op2E gFdiv f1 f2)) :=
  ev_tOp (pe_op op_fdivN ha hb) (gI_ok fun i j d e => by
    split at e
    · rename_i hc
      cases e
      obtain ⟨a, b⟩ := Bool.and_eq_true_iff.mp hc
      exact ⟨⟨of_decide_eq_true a, of_decide_eq_true b⟩, fun F => .int _⟩
    · cases e)
def gMod : Op2 := gI fun i j => if decide (j ≠ 0) then some (.int (i.fmod j)) else none
theorem ev_mod (ha : PE X a (tV X.K f1)) (hb : PE X b (tV X.K f2)) : PE X (.BinOp a .Mod b pos) (tE X.K (op2E gMod f1 f2)) :=
  ev_tOp (pe_op op_modN ha hb) (gI_ok fun i j d e => by
    split at e
    · rename_i hc
      cases e
      exact ⟨of_decide_eq_true hc, fun F => .int _⟩
    · cases e)
def gPow : Op2 := gI fun i j => if decide (0 ≤ j) && (decide (j ≤ 1000000) && decide (i.natAbs < 2 ^ 64)) then some (.int (i ^ j.toNat)) else none
theorem ev_pow (ha : PE X a (tV X.K f1)) (hb : PE X b (tV X.K f2)) : PE X (.BinOp a .Pow b pos) (tE X.K (op2E gPow f1 f2)) :=
  ev_tOp (pe_op op_pow ha hb) (gI_ok fun i j d e => by
    split at e
    · rename_i hc
      cases e
      simp only [Bool.and_eq_true, decide_eq_true_eq] at hc
      exact ⟨⟨hc.1, hc.2.1, hc.2.2⟩, fun F => .int _⟩
    · cases e)
end
end Ev
/-! Ev2 -/
namespace Ev
open PySem PySem.Spec PyProof.Rows L2
section
variable {X : Cx} {a b c : Expr} {f1 f2 f3 : Fv} {pos : Pos} {op : CmpOp}
theorem ev_cmp {r : R2} {g : Op2} (ho : OpR X (compareOp op) r) (ok : Op2Ok X.K r g) (ha : PE X a (tV X.K f1)) (hb : PE X b (tV X.K f2)) (hm : behindInMarks op b = false) : PE X (.Compare a [op] [b] pos) (tE X.K (op2E g f1 f2)) :=
  ev_tOp (pe_cmpR ho ha hb hm) ok
def toFlat : D → Option V
  | .non => some .non
  | .bl b => some (.bl b)
  | .int i => some (.int i)
  | .str x => some (.str x)
  | _ => none
theorem toFlat_ok {K : Frag} {F : Hp} {v u : V} {d : D} (r : R K F v d) (e : toFlat d = some u) : v = u ∧ flatV v = true := by
  cases r <;> cases e <;> exact ⟨rfl, rfl⟩
/-- x == y of flat values -/
def gEqF : Op2 := fun x y => match toFlat x, toFlat y with
  | some v, some u => if scal v u then some (.val (.bl (decide (v = u)))) else none
  | _, _ => none
def gNeF : Op2 := fun x y => match toFlat x, toFlat y with
  | some v, some u => if scal v u then some (.val (.bl (!decide (v = u)))) else none
  | _, _ => none
theorem gEqF_ok {K : Frag} : Op2Ok K rEq gEqF := by
  intro G B F H ρ σ v u x y z Q rp r1 r2 e k
  unfold gEqF at e
  cases q1 : toFlat x with
  | none => rw [q1] at e; cases e
  | some v1 =>
    cases q2 : toFlat y with
    | none => rw [q1, q2] at e; cases e
    | some u1 =>
      rw [q1, q2] at e
      obtain ⟨rfl, _⟩ := toFlat_ok r1 q1
      obtain ⟨rfl, _⟩ := toFlat_ok r2 q2
      have e : (if scal v u then some (Re.val (.bl (decide (v = u)))) else none) = some z := e
      split at e
      · rename_i hs
        cases e
        exact ⟨hs, k _ F H (Ex.refl F) rp (.bl _)⟩
      · cases e
theorem gNeF_ok {K : Frag} : Op2Ok K rNe gNeF := by
  intro G B F H ρ σ v u x y z Q rp r1 r2 e k
  unfold gNeF at e
  cases q1 : toFlat x with
  | none => rw [q1] at e; cases e
  | some v1 =>
    cases q2 : toFlat y with
    | none => rw [q1, q2] at e; cases e
    | some u1 =>
      rw [q1, q2] at e
      obtain ⟨rfl, _⟩ := toFlat_ok r1 q1
      obtain ⟨rfl, _⟩ := toFlat_ok r2 q2
      have e : (if scal v u then some (Re.val (.bl (!decide (v = u)))) else none) = some z := e
      split at e
      · rename_i hs
        cases e
        exact ⟨hs, k _ F H (Ex.refl F) rp (.bl _)⟩
      · cases e
mutual
def toPy : D → Option PyData
  | .non => some .none
  | .bl b => some (.bool b)
  | .int i => some (.int i)
  | .str x => some (.str x)
  | .lst l => (toPys l).map .list
  | .rol l => (toPys l).map .list
  | .tup l => (toPys l).map .tuple
  | .dK _ => none
  | .dT _ => none
def toPys : List D → Option (List PyData)
  | [] => some []
  | d :: l => match toPy d, toPys l with
    | some x, some r => some (x :: r)
    | _, _ => none
end
section
variable {K : Frag} {F H : Hp}
mutual
theorem toPy_ok (e : Ex F H) : ∀ {v : V} {d : D} {p : PyData}, R K F v d → toPy d = some p → Dp K H v p
  | _, _, _, .non, q => by cases q; exact .non
  | _, _, _, .bl b, q => by cases q; exact .bl b
  | _, _, _, .int i, q => by cases q; exact .int i
  | _, _, _, .str x, q => by cases q; exact .str x
  | _, _, _, .lst h r, q => by
    unfold toPy at q
    obtain ⟨l, q1, q2⟩ := Option.map_eq_some_iff.mp q
    subst q2
    exact .lst (SqL.of (e _ _ h)) (toPys_ok e r q1)
  | _, _, _, .rol h r, q => by
    unfold toPy at q
    obtain ⟨l, q1, q2⟩ := Option.map_eq_some_iff.mp q
    subst q2
    exact .lst (e.seqL h) (toPys_ok e r q1)
  | _, _, _, .tup h r, q => by
    unfold toPy at q
    obtain ⟨l, q1, q2⟩ := Option.map_eq_some_iff.mp q
    subst q2
    exact .tup (e.seqT h) (toPys_ok e r q1)
  | _, _, _, .dK _ _, q => by cases q
  | _, _, _, .dT _ _, q => by cases q
theorem toPys_ok (e : Ex F H) : ∀ {vs : List V} {ds : List D} {ps : List PyData}, Rs K F vs ds → toPys ds = some ps → DpAll K H vs ps
  | _, _, _, .nil, q => by cases q; exact .nil
  | _, _, _, .cons (d := d) (ds := ds) h r, q => by
    unfold toPys at q
    cases q1 : toPy d with
    | none => rw [q1] at q; cases q
    | some x =>
      cases q2 : toPys ds with
      | none => rw [q1, q2] at q; cases q
      | some l =>
        rw [q1, q2] at q
        have q3 : x :: l = _ := Option.some.inj q
        subst q3
        exact .cons (toPy_ok e h q1) (toPys_ok e r q2)
end
end
def gEqD (neg : Bool) : Op2 := fun x y => match toPy x, toPy y with
  | some p, some q => if SeqAt.shaped p && SeqAt.shaped q then some (.val (.bl (if neg then !PyData.eqv p q else PyData.eqv p q))) else none
  | _, _ => none
theorem gEqD_ok {K : Frag} : Op2Ok K (rEqD K) (gEqD false) := by
  intro G B F H ρ σ v u x y z Q rp r1 r2 e k
  unfold gEqD at e
  cases q1 : toPy x with
  | none => rw [q1] at e; cases e
  | some p =>
    cases q2 : toPy y with
    | none => rw [q1, q2] at e; cases e
    | some q =>
      rw [q1, q2] at e
      have e : (if SeqAt.shaped p && SeqAt.shaped q then some (Re.val (.bl (PyData.eqv p q))) else none) = some z := e
      split at e
      · rename_i hs
        obtain ⟨h1, h2⟩ := Bool.and_eq_true_iff.mp hs
        cases e
        exact ⟨p, q, toPy_ok rp.exF r1 q1, toPy_ok rp.exF r2 q2, h1, h2, k _ F H (Ex.refl F) rp (.bl _)⟩
      · cases e
theorem gNeD_ok {K : Frag} : Op2Ok K (rNeD K) (gEqD true) := by
  intro G B F H ρ σ v u x y z Q rp r1 r2 e k
  unfold gEqD at e
  cases q1 : toPy x with
  | none => rw [q1] at e; cases e
  | some p =>
    cases q2 : toPy y with
    | none => rw [q1, q2] at e; cases e
    | some q =>
      rw [q1, q2] at e
      have e : (if SeqAt.shaped p && SeqAt.shaped q then some (Re.val (.bl (!PyData.eqv p q))) else none) = some z := e
      split at e
      · rename_i hs
        obtain ⟨h1, h2⟩ := Bool.and_eq_true_iff.mp hs
        cases e
        exact ⟨p, q, toPy_ok rp.exF r1 q1, toPy_ok rp.exF r2 q2, h1, h2, k _ F H (Ex.refl F) rp (.bl _)⟩
      · cases e
abbrev gEq : Op2 := fun x y => (gEqF x y).or (gEqD false x y)
abbrev gNe : Op2 := fun x y => (gNeF x y).or (gEqD true x y)
theorem ev_eq (hu : X.A.units + 64 < cLine) (ha : PE X a (tV X.K f1)) (hb : PE X b (tV X.K f2)) : PE X (.Compare a [.Eq] [b] pos) (tE X.K (op2E gEq f1 f2)) :=
  ev_cmp (OpR.or op_eq (op_eqD hu)) (gEqF_ok.or gEqD_ok) ha hb (nomark _)
theorem ev_ne (hu : X.A.units + 64 < cLine) (ha : PE X a (tV X.K f1)) (hb : PE X b (tV X.K f2)) : PE X (.Compare a [.NotEq] [b] pos) (tE X.K (op2E gNe f1 f2)) :=
  ev_cmp (OpR.or op_ne (op_neD hu)) (gNeF_ok.or gNeD_ok) ha hb (nomark _)
def gB (g : Int → Int → Bool) : Op2 := gI fun i j => some (.bl (g i j))
theorem gB_ok {K : Frag} {g : Int → Int → Bool} : Op2Ok K (rI0 fun i j => .bl (g i j)) (gB g) := gI0_ok fun i j d e F => by cases e; exact .bl _
def gSB (g : Str → Str → Bool) : Op2 := gS fun i j => some (.bl (g i j))
theorem gSB_ok {K : Frag} {g : Str → Str → Bool} : Op2Ok K (fun x y H Q => ∃ i j, x = .str i ∧ y = .str j ∧ Q (.bl (g i j)) H) (gSB g) := by
  intro G B F H ρ σ v u x y z Q rp r1 r2 e k
  cases r1 <;> try cases e
  cases r2 <;> try cases e
  exact ⟨_, _, rfl, rfl, k _ F H (Ex.refl F) rp (.bl _)⟩
abbrev ltS (i j : Str) : Bool := decide (i.cps.toList < j.cps.toList)
abbrev gLt : Op2 := fun x y => (gB (fun i j => decide (i < j)) x y).or (gSB ltS x y)
abbrev gGt : Op2 := fun x y => (gB (fun i j => decide (j < i)) x y).or (gSB (fun i j => ltS j i) x y)
abbrev gLe : Op2 := fun x y => (gB (fun i j => decide (i ≤ j)) x y).or (gSB (fun i j => !ltS j i) x y)
abbrev gGe : Op2 := fun x y => (gB (fun i j => decide (j ≤ i)) x y).or (gSB (fun i j => !ltS i j) x y)
theorem ev_lt (ha : PE X a (tV X.K f1)) (hb : PE X b (tV X.K f2)) : PE X (.Compare a [.Lt] [b] pos) (tE X.K (op2E gLt f1 f2)) := ev_cmp (OpR.or op_lt op_lt_str) (gB_ok.or gSB_ok) ha hb (nomark _)
theorem ev_gt (ha : PE X a (tV X.K f1)) (hb : PE X b (tV X.K f2)) : PE X (.Compare a [.Gt] [b] pos) (tE X.K (op2E gGt f1 f2)) := ev_cmp (OpR.or op_gt op_gt_str) (gB_ok.or gSB_ok) ha hb (nomark _)
theorem ev_le (ha : PE X a (tV X.K f1)) (hb : PE X b (tV X.K f2)) : PE X (.Compare a [.LtE] [b] pos) (tE X.K (op2E gLe f1 f2)) := ev_cmp (OpR.or op_le op_le_str) (gB_ok.or gSB_ok) ha hb (nomark _)
theorem ev_ge (ha : PE X a (tV X.K f1)) (hb : PE X b (tV X.K f2)) : PE X (.Compare a [.GtE] [b] pos) (tE X.K (op2E gGe f1 f2)) := ev_cmp (OpR.or op_ge op_ge_str) (gB_ok.or gSB_ok) ha hb (nomark _)
def itemsOf : D → Option (List D)
  | .lst l => some l
  | .rol l => some l
  | .tup l => some l
  | _ => none
def toFlats : List D → Option (List V)
  | [] => some []
  | d :: l => match toFlat d, toFlats l with
    | some v, some r => some (v :: r)
    | _, _ => none
theorem toFlats_ok {K : Frag} {F : Hp} : ∀ {vs : List V} {ds : List D} {us : List V}, Rs K F vs ds → toFlats ds = some us → vs = us ∧ vs.all flatV = true
  | _, _, _, .nil, e => by cases e; exact ⟨rfl, rfl⟩
  | _, _, _, .cons (d := d) (ds := ds) h r, e => by
    unfold toFlats at e
    cases q1 : toFlat d with
    | none => rw [q1] at e; cases e
    | some x =>
      cases q2 : toFlats ds with
      | none => rw [q1, q2] at e; cases e
      | some l =>
        rw [q1, q2] at e
        have e : x :: l = _ := Option.some.inj e
        subst e
        obtain ⟨rfl, h1⟩ := toFlat_ok h q1
        obtain ⟨rfl, h2⟩ := toFlats_ok r q2
        exact ⟨rfl, by rw [List.all_cons, h1, h2]; rfl⟩
theorem itemsOf_ok {K : Frag} {F H : Hp} (e : Ex F H) {v : V} {d : D} {l : List D} (r : R K F v d) (q : itemsOf d = some l) : ∃ p xs, v = .ref p ∧ (SqL K H p xs ∨ SqT K H p xs) ∧ Rs K F xs l := by
  cases r <;> cases q
  · exact ⟨_, _, rfl, .inl (SqL.of (e _ _ ‹_›)), ‹_›⟩
  · exact ⟨_, _, rfl, .inl (e.seqL ‹_›), ‹_›⟩
  · exact ⟨_, _, rfl, .inr (e.seqT ‹_›), ‹_›⟩
def gInF (neg : Bool) : Op2 := fun x y => match toFlat x, itemsOf y with
  | some v, some l => (match toFlats l with
    | some vs => some (.val (.bl (if neg then !inV v vs else inV v vs)))
    | none => none)
  | _, _ => none
theorem gInF_ok {K : Frag} {neg : Bool} : Op2Ok K (rIn K neg) (gInF neg) := by
  intro G B F H ρ σ v u x y z Q rp r1 r2 e k
  unfold gInF at e
  cases q1 : toFlat x with
  | none => rw [q1] at e; cases e
  | some v1 =>
    cases q2 : itemsOf y with
    | none => rw [q1, q2] at e; cases e
    | some l =>
      cases q3 : toFlats l with
      | none => simp only [q1, q2, q3] at e; cases e
      | some vs =>
        simp only [q1, q2, q3] at e
        cases e
        obtain ⟨rfl, f1⟩ := toFlat_ok r1 q1
        obtain ⟨p, xs, rfl, hs, rs⟩ := itemsOf_ok rp.exF r2 q2
        obtain ⟨rfl, f2⟩ := toFlats_ok rs q3
        exact ⟨p, xs, rfl, hs, f1, f2, k _ F H (Ex.refl F) rp (.bl _)⟩
/-- one sign in a text -/
def gIn1 (neg : Bool) : Op2 := gS fun i j => match i.cps.toList with
  | [c] => some (.bl (if neg then !decide (c ∈ j.cps.toList) else decide (c ∈ j.cps.toList)))
  | _ => none
def rIn1 (neg : Bool) : R2 := fun x y H Q => ∃ (c : Nat) (z : Str), x = .str ⟨#[c]⟩ ∧ y = .str z ∧ Q (.bl (if neg then !decide (c ∈ z.cps.toList) else decide (c ∈ z.cps.toList))) H
theorem one_sign {i : Str} {c : Nat} (h : i.cps.toList = [c]) : i = ⟨#[c]⟩ := by
  obtain ⟨z⟩ := i
  have h : z.toList = [c] := h
  rw [show z = #[c] from Array.ext' h]
theorem gIn1_ok {K : Frag} {neg : Bool} : Op2Ok K (rIn1 neg) (gIn1 neg) := by
  intro G B F H ρ σ v u x y z Q rp r1 r2 e k
  cases r1 <;> try cases e
  cases r2 <;> try cases e
  rename_i i j
  have e1 : (match i.cps.toList with
    | [c] => some (D.bl (if neg then !decide (c ∈ j.cps.toList) else decide (c ∈ j.cps.toList)))
    | _ => none).map Re.val = some z := e
  split at e1
  · rename_i c hc
    cases e1
    exact ⟨c, j, by rw [one_sign hc], rfl, k _ F H (Ex.refl F) rp (.bl _)⟩
  · cases e1
abbrev gIn (neg : Bool) : Op2 := fun x y => (gInF neg x y).or (gIn1 neg x y)
theorem ev_in (ha : PE X a (tV X.K f1)) (hb : PE X b (tV X.K f2)) (hm : behindInMarks .In b = false) : PE X (.Compare a [.In] [b] pos) (tE X.K (op2E (gIn false) f1 f2)) :=
  ev_cmp (OpR.or op_in_seq op_in_sign) (gInF_ok.or gIn1_ok) ha hb hm
theorem ev_notIn (ha : PE X a (tV X.K f1)) (hb : PE X b (tV X.K f2)) (hm : behindInMarks .NotIn b = false) : PE X (.Compare a [.NotIn] [b] pos) (tE X.K (op2E (gIn true) f1 f2)) :=
  ev_cmp (OpR.or op_notIn_seq op_notIn_sign) (gInF_ok.or gIn1_ok) ha hb hm
/-- is None -/
def gIsN (neg : Bool) : Op2 := fun x y => match y with
  | .non => some (.val (.bl (match x with
    | .non => !neg
    | _ => neg)))
  | _ => none
theorem isN_V {K : Frag} {F : Hp} {v : V} {x : D} (r : R K F v x) : decide (v = .non) = (match x with
    | .non => true
    | _ => false) := by
  cases r <;> rfl
theorem ev_isN (ha : PE X a (tV X.K f1)) (hb : PE X b (tV X.K f2)) : PE X (.Compare a [.Is] [b] pos) (tE X.K (op2E (gIsN false) f1 f2)) :=
  ev_cmp op_isN (fun G B F H ρ σ v u x y z Q rp r1 r2 e k => by
    cases r2 <;> try cases e
    refine ⟨rfl, ?_⟩
    have q := k (.bl (decide (v = .non))) F H (Ex.refl F) rp
    rw [isN_V r1] at q
    rw [isN_V r1]
    cases x <;> exact q (.bl _)) ha hb (nomark _)
theorem ev_notN (ha : PE X a (tV X.K f1)) (hb : PE X b (tV X.K f2)) : PE X (.Compare a [.IsNot] [b] pos) (tE X.K (op2E (gIsN true) f1 f2)) :=
  ev_cmp op_notN (fun G B F H ρ σ v u x y z Q rp r1 r2 e k => by
    cases r2 <;> try cases e
    refine ⟨rfl, ?_⟩
    have q := k (.bl (!decide (v = .non))) F H (Ex.refl F) rp
    rw [isN_V r1] at q
    rw [isN_V r1]
    cases x <;> exact q (.bl _)) ha hb (nomark _)
end
end Ev
/-! Ev3 -/
namespace Ev
open PySem PySem.Spec PyProof.Rows L2
theorem PE.or {X : Cx} {e : Expr} {t t' : TE} (h : PE X e t) (h' : PE X e t') : PE X e (fun σ H Q => t σ H Q ∨ t' σ H Q) := ⟨fun pins s σ H Q I q => by
  rcases q with q | q
  · exact h.run pins s σ H Q I q
  · exact h'.run pins s σ H Q I q⟩
def lookOf (ρ : EnvD) (i : Nat) : Option D := match ρ[i]? with
  | some (.val d) => some d
  | some (.own d) => some d
  | some (.ref d) => some d
  | _ => none
def RL (K : Frag) (F H : Hp) (v : V) (d : D) : Prop := R K F v d ∨ ∃ l, v = .ref l ∧ Cell K F H l d
theorem Rep.look {K : Frag} {G : Hp} {B : List (Nat × Addr)} {F H : Hp} {ρ : EnvD} {σ : L2.St} (r : Rep K G B F H ρ σ) {i : Nat} {d : D} (h : lookOf ρ i = some d) : ∃ v, σ[i]? = some (some v) ∧ RL K F H v d := by
  unfold lookOf at h
  cases q : ρ[i]? with
  | none => rw [q] at h; cases h
  | some sl =>
    rw [q] at h
    cases sl with
    | val e => cases h; obtain ⟨v, a, b⟩ := r.val i d q; exact ⟨v, a, .inl b⟩
    | own e => cases h; obtain ⟨l, a, _, _, c⟩ := r.own i d (cell_own q); exact ⟨_, a, .inr ⟨l, rfl, c⟩⟩
    | ref e => cases h; obtain ⟨l, a, _, _, c⟩ := r.own i d (cell_ref q); exact ⟨_, a, .inr ⟨l, rfl, c⟩⟩
    | none => cases h
theorem RL.items {K : Frag} {F H : Hp} (e : Ex F H) {v : V} {d : D} {l : List D} (r : RL K F H v d) (q : itemsOf d = some l) : ∃ p xs, v = .ref p ∧ (SqL K H p xs ∨ SqT K H p xs) ∧ Rs K F xs l := by
  rcases r with r | ⟨p, rfl, c⟩
  · exact itemsOf_ok e r q
  · cases d <;> cases q
    · obtain ⟨xs, a, b⟩ := c
      exact ⟨p, xs, rfl, .inl (SqL.of a), b⟩
    · exact c.elim
    · exact c.elim
section
variable {X : Cx} {a b c : Expr} {f1 f2 f3 : Fv} {g1 g2 g3 : Fe} {pos : Pos}
def truD : D → Option Bool
  | .non => some false
  | .bl b => some b
  | .int i => some (i != 0)
  | .str x => if isLine x.length then some ((x.length : Int) != 0) else none
  | .lst l => some (!l.isEmpty)
  | .rol l => some (!l.isEmpty)
  | .tup l => some (!l.isEmpty)
  | .dK l => some (!l.isEmpty)
  | .dT _ => none
theorem isEmpty_len {α β : Type} {l : List α} {m : List β} (h : l.length = m.length) : l.isEmpty = m.isEmpty := by
  cases l <;> cases m <;> first | rfl | cases h
theorem truD_ok {K : Frag} {F H : Hp} (e : Ex F H) {v : V} {d : D} {k : Bool} (r : RL K F H v d) (q : truD d = some k) (hf : ∀ l, d = .dK l → ∃ p kvs, v = .ref p ∧ H p = some (.dK kvs) ∧ kvs.length = l.length) : TruV K v H k := by
  rcases r with r | ⟨p, rfl, c⟩
  · cases r with
    | non => cases q; rfl
    | bl b => cases q; rfl
    | int i => cases q; rfl
    | str x =>
      have q : (if isLine x.length then some ((x.length : Int) != 0) else none) = some k := q
      split at q
      · rename_i h
        cases q
        exact ⟨of_decide_eq_true h, rfl⟩
      · cases q
    | lst h r => cases q; exact .inl ⟨_, SqL.of (e _ _ h), by rw [isEmpty_len r.len]⟩
    | rol h r => cases q; exact .inl ⟨_, e.seqL h, by rw [isEmpty_len r.len]⟩
    | tup h r => cases q; exact .inr (.inl ⟨_, e.seqT h, by rw [isEmpty_len r.len]⟩)
    | dK h r =>
      cases q
      obtain ⟨p, kvs, e1, e2, e3⟩ := hf _ rfl
      cases e1
      exact .inr (.inr ⟨kvs, e2, by rw [isEmpty_len e3]⟩)
    | dT h r => cases q
  · cases d with
    | lst l => cases q; obtain ⟨xs, a, b⟩ := c; exact .inl ⟨_, SqL.of a, by rw [isEmpty_len b.len]⟩
    | dK l => cases q; obtain ⟨xs, a, b⟩ := c; exact .inr (.inr ⟨_, a, by rw [isEmpty_len b.len]⟩)
    | dT l => cases q
    | _ => exact c.elim
/-- of a dict that is never changed, by what it is -/
def truN (d : D) : Option Bool := match d with
  | .dK _ => none
  | d => truD d
theorem truN_ok {K : Frag} {F H : Hp} (e : Ex F H) {v : V} {d : D} {k : Bool} (r : R K F v d) (q : truN d = some k) : TruV K v H k := by
  refine truD_ok e (.inl r) ?_ fun l z => ?_
  · cases d <;> first | exact q | cases q
  · subst z
    cases q
def truF (f : Fv) : Fb := fun ρ => match f ρ with
  | some (d, ρ1) => (truN d).map fun k => (k, ρ1)
  | none => none
theorem et_val (h : PE X a (tV X.K f1)) (he : ∀ whole, isTrue a X.env whole = (do let v ← whole; standAt a.pos; holding [v] (truthy v))) : PT X a (tT X.K (truF f1)) :=
  PT.weak (pt_truth h he) fun σ H Q ⟨G, B, F, ρ, k, ρ', rp, ef, q⟩ => by
    unfold truF at ef
    cases q1 : f1 ρ with
    | none => rw [q1] at ef; cases ef
    | some x1 =>
      obtain ⟨d, ρ1⟩ := x1
      rw [q1] at ef
      obtain ⟨k1, e1, e2⟩ := Option.map_eq_some_iff.mp ef
      simp only [Prod.mk.injEq] at e2
      obtain ⟨rfl, rfl⟩ := e2
      exact ⟨G, B, F, ρ, d, ρ1, rp, q1, fun v F1 H1 e1' rp1 r1 => ⟨k1, truN_ok rp1.exF r1 e1, q F1 H1 e1' rp1⟩⟩
/-- a bool's -/
def blF (f : Fv) : Fb := fun ρ => match f ρ with
  | some (.bl k, ρ1) => some (k, ρ1)
  | _ => none
theorem et_cmp {r : R2} {g : Op2} {op : CmpOp} (ho : OpR X (compareOp op) r) (ok : Op2Ok X.K r g) (ha : PE X a (tV X.K f1)) (hb : PE X b (tV X.K f2)) (hm : behindInMarks op b = false) : PT X (.Compare a [op] [b] pos) (tT X.K (blF (frzF (op2E g f1 f2)))) := by
  have h1 := PE.frz (ev_tOp (pe_cmpR (pos := pos) ho ha hb hm) ok)
  refine PT.weak (pt_cmpR (pos := pos) ho ha hb hm) fun σ H Q ⟨G, B, F, ρ, k, ρ', rp, ef, q⟩ => ?_
  unfold blF frzF op2E at ef
  cases q1 : f1 ρ with
  | none => simp only [q1] at ef; cases ef
  | some x1 =>
    obtain ⟨x, ρ1⟩ := x1
    simp only [q1] at ef
    cases q2 : f2 ρ1 with
    | none => simp only [q2] at ef; cases ef
    | some y1 =>
      obtain ⟨y, ρ2⟩ := y1
      simp only [q2] at ef
      cases q3 : g x y with
      | none => simp only [q3] at ef; cases ef
      | some z =>
        simp only [q3] at ef
        have ef : (match (some (z.d, ρ2) : Option (D × EnvD)) with
          | some (.bl k, ρ1) => some (k, ρ1)
          | _ => none) = some (k, ρ') := ef
        refine ⟨G, B, F, ρ, x, ρ1, rp, q1, fun v F1 H1 e1 rp1 r1 => ?_⟩
        refine ⟨G, B, F1, ρ1, y, ρ2, rp1, q2, fun u F2 H2 e2 rp2 r2 => ?_⟩
        refine ok G B F2 H2 ρ2 σ v u x y z _ rp2 (r1.mono e2) r2 q3 fun w F3 H3 e3 rp3 r3 => ?_
        cases z with
        | new d =>
          cases d <;> cases ef
          obtain ⟨l, _, _, _, cc, _⟩ := r3
          exact cc.elim
        | val d =>
          cases d <;> cases ef
          have r4 : R X.K F3 w (.bl k) := r3
          cases r4
          exact ⟨k, rfl, q F3 H3 ((e1.trans e2).trans e3) rp3⟩
def andF (p q : Fb) : Fb := fun ρ => match p ρ with
  | some (true, ρ1) => q ρ1
  | some (false, ρ1) => some (false, ρ1)
  | none => none
def orF (p q : Fb) : Fb := fun ρ => match p ρ with
  | some (true, ρ1) => some (true, ρ1)
  | some (false, ρ1) => q ρ1
  | none => none
def notF (p : Fb) : Fb := fun ρ => (p ρ).map fun x => (!x.1, x.2)
theorem wk_and {K : Frag} {p q : Fb} {σ : L2.St} {H : Hp} {Q : Bool → Hp → Prop} (h : tT K (andF p q) σ H Q) : tAnd (tT K p) (tT K q) σ H Q := by
  obtain ⟨G, B, F, ρ, k, ρ', rp, ef, z⟩ := h
  unfold andF at ef
  cases q1 : p ρ with
  | none => rw [q1] at ef; cases ef
  | some x1 =>
    obtain ⟨c, ρ1⟩ := x1
    rw [q1] at ef
    refine ⟨G, B, F, ρ, c, ρ1, rp, q1, fun F1 H1 e1 rp1 => ?_⟩
    cases c with
    | true => exact iteT ⟨G, B, F1, ρ1, k, ρ', rp1, ef, fun F2 H2 e2 rp2 => z F2 H2 (e1.trans e2) rp2⟩
    | false =>
      cases ef
      exact iteF (z F1 H1 e1 rp1)
theorem wk_or {K : Frag} {p q : Fb} {σ : L2.St} {H : Hp} {Q : Bool → Hp → Prop} (h : tT K (orF p q) σ H Q) : tOr (tT K p) (tT K q) σ H Q := by
  obtain ⟨G, B, F, ρ, k, ρ', rp, ef, z⟩ := h
  unfold orF at ef
  cases q1 : p ρ with
  | none => rw [q1] at ef; cases ef
  | some x1 =>
    obtain ⟨c, ρ1⟩ := x1
    rw [q1] at ef
    refine ⟨G, B, F, ρ, c, ρ1, rp, q1, fun F1 H1 e1 rp1 => ?_⟩
    cases c with
    | false => exact iteF ⟨G, B, F1, ρ1, k, ρ', rp1, ef, fun F2 H2 e2 rp2 => z F2 H2 (e1.trans e2) rp2⟩
    | true =>
      cases ef
      exact iteT (z F1 H1 e1 rp1)
theorem PW.weak {e : Expr} {t t' : TT} (h : PW X e t) (w : ∀ σ H Q, t' σ H Q → t σ H Q) : PW X e t' := ⟨fun wh pins s σ H Q I q => h.run wh pins s σ H Q I (w σ H Q q)⟩
theorem et_and {rest : List Expr} {p q : Fb} (ha : PT X a (tT X.K p)) (hb : PW X (.BoolOp .And (b :: rest) pos) (tT X.K q)) : PW X (.BoolOp .And (a :: b :: rest) pos) (tT X.K (andF p q)) := PW.weak (pw_and ha hb) fun _ _ _ => wk_and
theorem et_or {rest : List Expr} {p q : Fb} (ha : PT X a (tT X.K p)) (hb : PW X (.BoolOp .Or (b :: rest) pos) (tT X.K q)) : PW X (.BoolOp .Or (a :: b :: rest) pos) (tT X.K (orF p q)) := PW.weak (pw_or ha hb) fun _ _ _ => wk_or
theorem et_not {p : Fb} (ha : PT X a (tT X.K p)) : PT X (.UnaryOp .Not a pos) (tT X.K (notF p)) := PT.weak (pt_not ha) fun σ H Q ⟨G, B, F, ρ, k, ρ', rp, ef, z⟩ => by
  unfold notF at ef
  obtain ⟨x, e1, e2⟩ := Option.map_eq_some_iff.mp ef
  obtain ⟨c, ρ1⟩ := x
  simp only [Prod.mk.injEq] at e2
  obtain ⟨rfl, rfl⟩ := e2
  exact ⟨G, B, F, ρ, c, ρ1, rp, e1, z⟩
/-- .. as values: bools ahead, anything last -/
def andE (p : Fv) (q : Fe) : Fe := fun ρ => match p ρ with
  | some (.bl true, ρ1) => q ρ1
  | some (.bl false, ρ1) => some (.val (.bl false), ρ1)
  | _ => none
def orE (p : Fv) (q : Fe) : Fe := fun ρ => match p ρ with
  | some (.bl true, ρ1) => some (.val (.bl true), ρ1)
  | some (.bl false, ρ1) => q ρ1
  | _ => none
def notE (p : Fv) : Fe := fun ρ => match p ρ with
  | some (.bl k, ρ1) => some (.val (.bl (!k)), ρ1)
  | _ => none
theorem ev_one {op : BoolOp} (h : PE X a (tE X.K g1)) : PE X (.BoolOp op [a] pos) (tE X.K g1) := pe_one h
theorem ev_and {rest : List Expr} (ha : PE X a (tV X.K f1)) (hb : PE X (.BoolOp .And (b :: rest) pos) (tE X.K g1)) : PE X (.BoolOp .And (a :: b :: rest) pos) (tE X.K (andE f1 g1)) :=
  PE.weak (pe_and ha hb) fun σ H Q ⟨G, B, F, ρ, r, ρ', rp, ef, z⟩ => by
    unfold andE at ef
    cases q1 : f1 ρ with
    | none => rw [q1] at ef; cases ef
    | some x1 =>
      obtain ⟨d, ρ1⟩ := x1
      rw [q1] at ef
      refine ⟨G, B, F, ρ, d, ρ1, rp, q1, fun v F1 H1 e1 rp1 r1 => ?_⟩
      cases d <;> try cases ef
      rename_i k
      cases r1
      refine ⟨k, rfl, ?_⟩
      cases k with
      | true => exact iteT ⟨G, B, F1, ρ1, r, ρ', rp1, ef, fun v F2 H2 e2 rp2 rr => z v F2 H2 (e1.trans e2) rp2 rr⟩
      | false =>
        cases ef
        exact iteF (z _ F1 H1 e1 rp1 (.bl false))
theorem ev_or {rest : List Expr} (ha : PE X a (tV X.K f1)) (hb : PE X (.BoolOp .Or (b :: rest) pos) (tE X.K g1)) : PE X (.BoolOp .Or (a :: b :: rest) pos) (tE X.K (orE f1 g1)) :=
  PE.weak (pe_or ha hb) fun σ H Q ⟨G, B, F, ρ, r, ρ', rp, ef, z⟩ => by
    unfold orE at ef
    cases q1 : f1 ρ with
    | none => rw [q1] at ef; cases ef
    | some x1 =>
      obtain ⟨d, ρ1⟩ := x1
      rw [q1] at ef
      refine ⟨G, B, F, ρ, d, ρ1, rp, q1, fun v F1 H1 e1 rp1 r1 => ?_⟩
      cases d <;> try cases ef
      rename_i k
      cases r1
      refine ⟨k, rfl, ?_⟩
      cases k with
      | false => exact iteF ⟨G, B, F1, ρ1, r, ρ', rp1, ef, fun v F2 H2 e2 rp2 rr => z v F2 H2 (e1.trans e2) rp2 rr⟩
      | true =>
        cases ef
        exact iteT (z _ F1 H1 e1 rp1 (.bl true))
theorem ev_not (ha : PE X a (tV X.K f1)) : PE X (.UnaryOp .Not a pos) (tE X.K (notE f1)) :=
  PE.weak (pe_not ha) fun σ H Q ⟨G, B, F, ρ, r, ρ', rp, ef, z⟩ => by
    unfold notE at ef
    cases q1 : f1 ρ with
    | none => rw [q1] at ef; cases ef
    | some x1 =>
      obtain ⟨d, ρ1⟩ := x1
      rw [q1] at ef
      refine ⟨G, B, F, ρ, d, ρ1, rp, q1, fun v F1 H1 e1 rp1 r1 => ?_⟩
      cases d <;> cases ef
      cases r1
      exact ⟨_, rfl, z _ F1 H1 e1 rp1 (.bl _)⟩
/-- a if c else b -/
def iteE (p : Fb) (x y : Fe) : Fe := fun ρ => match p ρ with
  | some (true, ρ1) => x ρ1
  | some (false, ρ1) => y ρ1
  | none => none
theorem ev_ite {p : Fb} (hc : PT X c (tT X.K p)) (ha : PE X a (tE X.K g1)) (hb : PE X b (tE X.K g2)) : PE X (.IfExp c a b pos) (tE X.K (iteE p g1 g2)) :=
  PE.weak (pe_ifExp hc ha hb) fun σ H Q ⟨G, B, F, ρ, r, ρ', rp, ef, z⟩ => by
    unfold iteE at ef
    cases q1 : p ρ with
    | none => rw [q1] at ef; cases ef
    | some x1 =>
      obtain ⟨k, ρ1⟩ := x1
      rw [q1] at ef
      refine ⟨G, B, F, ρ, k, ρ1, rp, q1, fun F1 H1 e1 rp1 => ?_⟩
      cases k with
      | true => exact iteT ⟨G, B, F1, ρ1, r, ρ', rp1, ef, fun v F2 H2 e2 rp2 rr => z v F2 H2 (e1.trans e2) rp2 rr⟩
      | false => exact iteF ⟨G, B, F1, ρ1, r, ρ', rp1, ef, fun v F2 H2 e2 rp2 rr => z v F2 H2 (e1.trans e2) rp2 rr⟩
/-- -a -/
def negE (f : Fv) : Fe := fun ρ => match f ρ with
  | some (.int i, ρ1) => some (.val (.int (-i)), ρ1)
  | _ => none
theorem ev_neg (ha : PE X a (tV X.K f1)) : PE X (.UnaryOp .USub a pos) (tE X.K (negE f1)) :=
  PE.weak (pe_un un_neg ha) fun σ H Q ⟨G, B, F, ρ, r, ρ', rp, ef, z⟩ => by
    unfold negE at ef
    cases q1 : f1 ρ with
    | none => rw [q1] at ef; cases ef
    | some x1 =>
      obtain ⟨d, ρ1⟩ := x1
      rw [q1] at ef
      refine ⟨G, B, F, ρ, d, ρ1, rp, q1, fun v F1 H1 e1 rp1 r1 => ?_⟩
      cases d <;> cases ef
      cases r1
      exact ⟨_, rfl, z _ F1 H1 e1 rp1 (.int _)⟩
def nilF : Fl := fun ρ => some ([], ρ)
def consF (f : Fv) (g : Fl) : Fl := fun ρ => match f ρ with
  | some (d, ρ1) => (match g ρ1 with
    | some (ds, ρ2) => some (d :: ds, ρ2)
    | none => none)
  | none => none
theorem ea_nil : PA X [] (tL X.K nilF) := PA.weak pa_nil fun σ H Q ⟨G, B, F, ρ, ds, ρ', rp, ef, z⟩ => by
  cases ef
  exact z [] F H (Ex.refl F) rp .nil
theorem ea_cons {es : List Expr} {g : Fl} (ha : PE X a (tV X.K f1)) (hb : PA X es (tL X.K g)) (hs : starEach (a :: es) X.env = (false, eval a X.env) :: starEach es X.env) : PA X (a :: es) (tL X.K (consF f1 g)) :=
  PA.weak (pa_cons ha hb hs) fun σ H Q ⟨G, B, F, ρ, ds, ρ', rp, ef, z⟩ => by
    unfold consF at ef
    cases q1 : f1 ρ with
    | none => rw [q1] at ef; cases ef
    | some x1 =>
      obtain ⟨d, ρ1⟩ := x1
      rw [q1] at ef
      cases q2 : g ρ1 with
      | none => simp only [q2] at ef; cases ef
      | some x2 =>
        obtain ⟨es', ρ2⟩ := x2
        simp only [q2] at ef
        cases ef
        refine ⟨G, B, F, ρ, d, ρ1, rp, q1, fun v F1 H1 e1 rp1 r1 => ?_⟩
        exact ⟨G, B, F1, ρ1, es', ρ', rp1, q2, fun vs F2 H2 e2 rp2 r2 => z (v :: vs) F2 H2 (e1.trans e2) rp2 (.cons (r1.mono e2) r2)⟩
/-- [a, b, ..], (a, b, ..) -/
def lstE (g : Fl) : Fe := fun ρ => match g ρ with
  | some (ds, ρ1) => if isLine ds.length then some (.new (.lst ds), ρ1) else none
  | none => none
def tupE (g : Fl) : Fe := fun ρ => match g ρ with
  | some (ds, ρ1) => if isLine ds.length then some (.val (.tup ds), ρ1) else none
  | none => none
theorem ev_lst {es : List Expr} {g : Fl} (h : PA X es (tL X.K g)) : PE X (.List es pos) (tE X.K (lstE g)) :=
  PE.weak (pe_lst h) fun σ H Q ⟨G, B, F, ρ, r, ρ', rp, ef, z⟩ => by
    unfold lstE at ef
    cases q1 : g ρ with
    | none => rw [q1] at ef; cases ef
    | some x1 =>
      obtain ⟨ds, ρ1⟩ := x1
      rw [q1] at ef
      have ef : (if isLine ds.length then some (Re.new (.lst ds), ρ1) else none) = some (r, ρ') := ef
      split at ef
      · rename_i hl
        cases ef
        refine ⟨G, B, F, ρ, ds, ρ', rp, q1, fun vs F1 H1 e1 rp1 r1 => ⟨by rw [r1.len]; exact of_decide_eq_true hl, fun p hp => ?_⟩⟩
        obtain ⟨rp2, f, g, ne⟩ := rp1.new (o := .lst vs) hp
        exact z _ F1 _ e1 rp2 ⟨p, rfl, f, g, ⟨_, upd_same, r1⟩, ne⟩
      · cases ef
theorem ev_tup {es : List Expr} {g : Fl} {x1 : Nat} (h : PA X es (tL X.K g)) : PE X (.Tuple es x1 pos) (tE X.K (tupE g)) :=
  PE.weak (pe_tup h) fun σ H Q ⟨G, B, F, ρ, r, ρ', rp, ef, z⟩ => by
    unfold tupE at ef
    cases q1 : g ρ with
    | none => rw [q1] at ef; cases ef
    | some x1 =>
      obtain ⟨ds, ρ1⟩ := x1
      rw [q1] at ef
      have ef : (if isLine ds.length then some (Re.val (.tup ds), ρ1) else none) = some (r, ρ') := ef
      split at ef
      · rename_i hl
        cases ef
        refine ⟨G, B, F, ρ, ds, ρ', rp, q1, fun vs F1 H1 e1 rp1 r1 => ⟨by rw [r1.len]; exact of_decide_eq_true hl, fun p hp => ?_⟩⟩
        obtain ⟨rp2, ex⟩ := rp1.newF (o := .tup vs) hp
        exact z _ _ _ (e1.trans ex) rp2 (.tup (SqT.of upd_same) (r1.mono ex))
      · cases ef
end
end Ev
/-! Ev4 -/
namespace Ev
open PySem PySem.Spec PyProof.Rows L2
/-- how a statement ends -/
inductive Out where
  | nx (ρ : EnvD) | rt (r : Re) (ρ : EnvD) | bk (ρ : EnvD) | ct (ρ : EnvD)
abbrev Fs := EnvD → Option Out
def Post (K : Frag) (G : Hp) (B : List (Nat × Addr)) (F : Hp) (D : Ends) : Out → Prop
  | .nx ρ => ∀ σ F' H', Ex F F' → Rep K G B F' H' ρ σ → D.nx σ H'
  | .rt r ρ => ∀ σ v F' H', Ex F F' → Rep K G B F' H' ρ σ → RRe K G F' H' ρ σ v r → D.rt v H'
  | .bk ρ => ∀ σ F' H', Ex F F' → Rep K G B F' H' ρ σ → D.bk σ H'
  | .ct ρ => ∀ σ F' H', Ex F F' → Rep K G B F' H' ρ σ → D.ct σ H'
theorem Post.ex {K : Frag} {G : Hp} {B : List (Nat × Addr)} {F F' : Hp} {D : Ends} {o : Out} (p : Post K G B F D o) (e : Ex F F') : Post K G B F' D o := by
  cases o with
  | nx ρ => exact fun σ F2 H2 e2 r => p σ F2 H2 (e.trans e2) r
  | rt q ρ => exact fun σ v F2 H2 e2 r rr => p σ v F2 H2 (e.trans e2) r rr
  | bk ρ => exact fun σ F2 H2 e2 r => p σ F2 H2 (e.trans e2) r
  | ct ρ => exact fun σ F2 H2 e2 r => p σ F2 H2 (e.trans e2) r
def tS (K : Frag) (f : Fs) : TS := fun D σ H => ∃ G B F ρ o, Rep K G B F H ρ σ ∧ f ρ = some o ∧ Post K G B F D o
theorem ps_none {X : Cx} {st : Stmt} {K : Frag} : PS X st (tS K fun _ => none) := ⟨fun pins s σ H D I ⟨G, B, F, ρ, o, rp, ef, k⟩ => by cases ef⟩
theorem pss_none {X : Cx} {st : List Stmt} {K : Frag} : PSs X st (tS K fun _ => none) := ⟨fun pins s σ H D I ⟨G, B, F, ρ, o, rp, ef, k⟩ => by cases ef⟩
theorem PS.or {X : Cx} {st : Stmt} {t t' : TS} (h : PS X st t) (h' : PS X st t') : PS X st (fun D σ H => t D σ H ∨ t' D σ H) := ⟨fun pins s σ H D I q => by
  rcases q with q | q
  · exact h.run pins s σ H D I q
  · exact h'.run pins s σ H D I q⟩
theorem PI.or {X : Cx} {a b : Expr} {t t' : TI} (h : PI X a b t) (h' : PI X a b t') : PI X a b (fun σ H R => t σ H R ∨ t' σ H R) := ⟨fun pins s σ H R I q => by
  rcases q with q | q
  · exact h.run pins s σ H R I q
  · exact h'.run pins s σ H R I q⟩
def slOf : Re → Sl
  | .val d => .val d
  | .new d => .own d
def isRef (ρ : EnvD) (i : Nat) : Bool := match ρ[i]? with
  | some (.ref _) => true
  | _ => false
theorem cell_set_own {ρ : EnvD} {i j : Nat} {d : D} : cellOf (ρ.set i (.own d)) j = if i = j ∧ i < ρ.length then some d else cellOf ρ j := by
  unfold cellOf
  rw [List.getElem?_set]
  by_cases h : i = j
  · subst h
    by_cases h2 : i < ρ.length
    · simp [h2]
    · simp [h2]
  · simp [h]
theorem cell_lt {ρ : EnvD} {i : Nat} {d : D} (h : cellOf ρ i = some d) : i < ρ.length := by
  unfold cellOf at h
  cases q : ρ[i]? with
  | none => rw [q] at h; cases h
  | some x => exact (List.getElem?_eq_some_iff.mp q).1
section
variable {K : Frag} {G : Hp} {B : List (Nat × Addr)} {F F' H H' : Hp} {ρ ρ' : EnvD} {σ : L2.St}
theorem set_at {α : Type} {l : List α} {i : Nat} {x : α} (h : i < l.length) : (l.set i x)[i]? = some x := by
  rw [List.getElem?_set, if_pos rfl, if_pos h]
theorem set_ne {α : Type} {l : List α} {i j : Nat} {x : α} (h : i ≠ j) : (l.set i x)[j]? = l[j]? := by
  rw [List.getElem?_set, if_neg h]
/-- a value is put to a place -/
theorem Rep.set {v : V} {r : Re} (i : Nat) (p : Rep K G B F H ρ σ) (q : RRe K G F H ρ σ v r) (h : isRef ρ i = false) : Rep K G B F H (ρ.set i (slOf r)) (σ.set i (some v)) := by
  by_cases hi : i < ρ.length
  · have hi2 : i < σ.length := by rw [← p.len]; exact hi
    refine ⟨by rw [List.length_set, List.length_set]; exact p.len, p.exF, p.exG, p.dis, fun j d e => ?_, fun j d e => ?_, fun j k d e l q1 q2 s1 s2 => ?_, fun j l e => ?_⟩
    · by_cases z : i = j
      · subst z
        rw [set_at hi] at e
        cases r with
        | val d' => cases e; exact ⟨v, set_at hi2, q⟩
        | new d' => cases e
      · rw [set_ne z] at e
        rw [set_ne z]
        exact p.val j d e
    · by_cases z : i = j
      · subst z
        cases r with
        | val d' =>
          rw [show slOf (.val d') = .val d' from rfl, cell_set_val, if_pos ⟨rfl, hi⟩] at e
          cases e
        | new d' =>
          rw [show slOf (.new d') = .own d' from rfl, cell_set_own, if_pos ⟨rfl, hi⟩] at e
          cases e
          obtain ⟨l, rfl, a, b, c, _⟩ := q
          exact ⟨l, set_at hi2, a, b, c⟩
      · have e2 : cellOf ρ j = some d := by
          unfold cellOf at e ⊢
          rw [set_ne z] at e
          exact e
        rw [set_ne z]
        exact p.own j d e2
    · have nr : ∀ (m : Nat) (d : D) (l : Addr), i ≠ m → cellOf (ρ.set i (slOf r)) m = some d → (σ.set i (some v))[m]? = some (some (.ref l)) → cellOf ρ m = some d ∧ σ[m]? = some (some (.ref l)) := fun m d l z e1 e2 => by
        rw [set_ne z] at e2
        unfold cellOf at e1 ⊢
        rw [set_ne z] at e1
        exact ⟨e1, e2⟩
      by_cases z1 : i = j
      · by_cases z2 : i = k
        · exact z1.symm.trans z2
        · exfalso
          subst z1
          rw [set_at hi2] at s1
          obtain ⟨c2, c3⟩ := nr k e l z2 q2 s2
          cases r with
          | val d' => rw [show slOf (.val d') = .val d' from rfl, cell_set_val, if_pos ⟨rfl, hi⟩] at q1; cases q1
          | new d' =>
            obtain ⟨m, rfl, _, _, _, ne⟩ := q
            have e0 : m = l := by injection s1 with s1; injection s1 with s1; injection s1
            subst e0
            exact ne k e c2 c3
      · by_cases z2 : i = k
        · exfalso
          subst z2
          rw [set_at hi2] at s2
          obtain ⟨c2, c3⟩ := nr j d l z1 q1 s1
          cases r with
          | val d' => rw [show slOf (.val d') = .val d' from rfl, cell_set_val, if_pos ⟨rfl, hi⟩] at q2; cases q2
          | new d' =>
            obtain ⟨m, rfl, _, _, _, ne⟩ := q
            have e0 : m = l := by injection s2 with s2; injection s2 with s2; injection s2
            subst e0
            exact ne j d c2 c3
        · obtain ⟨a1, a2⟩ := nr j d l z1 q1 s1
          obtain ⟨b1, b2⟩ := nr k e l z2 q2 s2
          exact p.sep j k d e l a1 b1 a2 b2
    · obtain ⟨⟨d, a⟩, b⟩ := p.bor j l e
      have z : i ≠ j := fun y => by
        subst y
        unfold isRef at h
        rw [a] at h
        cases h
      exact ⟨⟨d, by rw [set_ne z]; exact a⟩, by rw [set_ne z]; exact b⟩
  · have hi2 : σ.length ≤ i := by rw [← p.len]; omega
    rw [List.set_eq_of_length_le (by omega), List.set_eq_of_length_le hi2]
    exact p
/-- a place is forgotten -/
theorem Rep.drop (i : Nat) (p : Rep K G B F H ρ σ) (h : isRef ρ i = false) : Rep K G B F H (ρ.set i .none) σ := by
  refine ⟨by rw [List.length_set]; exact p.len, p.exF, p.exG, p.dis, fun j d e => ?_, fun j d e => ?_, fun j k d e l q1 q2 s1 s2 => ?_, fun j l e => ?_⟩
  · by_cases z : i = j
    · subst z
      by_cases hi : i < ρ.length
      · rw [set_at hi] at e
        cases e
      · rw [List.set_eq_of_length_le (by omega)] at e
        exact p.val _ d e
    · rw [set_ne z] at e
      exact p.val j d e
  · rw [cell_set_none] at e
    split at e
    · cases e
    · exact p.own j d e
  · rw [cell_set_none] at q1 q2
    split at q1
    · cases q1
    · split at q2
      · cases q2
      · exact p.sep j k d e l q1 q2 s1 s2
  · obtain ⟨⟨d, a⟩, b⟩ := p.bor j l e
    have z : i ≠ j := fun y => by
      subst y
      unfold isRef at h
      rw [a] at h
      cases h
    exact ⟨⟨d, by rw [set_ne z]; exact a⟩, b⟩
end
section
variable {X : Cx} {a b c : Expr} {f1 f2 f3 : Fv} {g1 g2 g3 : Fe} {s1 s2 : Fs} {pos : Pos} {st : Stmt} {rest : List Stmt}
def seqF (f g : Fs) : Fs := fun ρ => match f ρ with
  | some (.nx ρ1) => g ρ1
  | o => o
def nextF : Fs := fun ρ => some (.nx ρ)
theorem es_nil : PSs X [] (tS X.K nextF) := PSs.weak pss_nil fun D σ H ⟨G, B, F, ρ, o, rp, ef, z⟩ => by
  cases ef
  exact z σ F H (Ex.refl F) rp
theorem es_cons (h : PS X st (tS X.K s1)) (h2 : PSs X rest (tS X.K s2)) : PSs X (st :: rest) (tS X.K (seqF s1 s2)) :=
  PSs.weak (pss_cons h h2) fun D σ H ⟨G, B, F, ρ, o, rp, ef, z⟩ => by
    unfold seqF at ef
    cases q : s1 ρ with
    | none => rw [q] at ef; cases ef
    | some o1 =>
      rw [q] at ef
      cases o1 with
      | nx ρ1 => exact ⟨G, B, F, ρ, .nx ρ1, rp, q, fun σ1 F1 H1 e1 rp1 => ⟨G, B, F1, ρ1, o, rp1, ef, z.ex e1⟩⟩
      | rt r ρ1 => cases ef; exact ⟨G, B, F, ρ, _, rp, q, z⟩
      | bk ρ1 => cases ef; exact ⟨G, B, F, ρ, _, rp, q, z⟩
      | ct ρ1 => cases ef; exact ⟨G, B, F, ρ, _, rp, q, z⟩
theorem es_one (h : PS X st (tS X.K s1)) : PSs X [st] (tS X.K s1) := pss_one h
theorem es_pass : PS X (.Pass pos) (tS X.K nextF) := PS.weak ps_pass fun D σ H ⟨G, B, F, ρ, o, rp, ef, z⟩ => by
  cases ef
  exact z σ F H (Ex.refl F) rp
theorem es_break : PS X (.Break pos) (tS X.K fun ρ => some (.bk ρ)) := PS.weak ps_break fun D σ H ⟨G, B, F, ρ, o, rp, ef, z⟩ => by
  cases ef
  exact z σ F H (Ex.refl F) rp
theorem es_continue : PS X (.Continue pos) (tS X.K fun ρ => some (.ct ρ)) := PS.weak ps_continue fun D σ H ⟨G, B, F, ρ, o, rp, ef, z⟩ => by
  cases ef
  exact z σ F H (Ex.refl F) rp
def ifF (p : Fb) (f g : Fs) : Fs := fun ρ => match p ρ with
  | some (true, ρ1) => f ρ1
  | some (false, ρ1) => g ρ1
  | none => none
theorem es_if {p : Fb} {x y : List Stmt} (hc : PT X c (tT X.K p)) (ha : PSs X x (tS X.K s1)) (hb : PSs X y (tS X.K s2)) : PS X (.If c x y pos) (tS X.K (ifF p s1 s2)) :=
  PS.weak (ps_if hc ha hb) fun D σ H ⟨G, B, F, ρ, o, rp, ef, z⟩ => by
    unfold ifF at ef
    cases q : p ρ with
    | none => rw [q] at ef; cases ef
    | some y1 =>
      obtain ⟨k, ρ1⟩ := y1
      rw [q] at ef
      refine ⟨G, B, F, ρ, k, ρ1, rp, q, fun F1 H1 e1 rp1 => ?_⟩
      cases k with
      | true => exact iteT ⟨G, B, F1, ρ1, o, rp1, ef, z.ex e1⟩
      | false => exact iteF ⟨G, B, F1, ρ1, o, rp1, ef, z.ex e1⟩
def dropF (f : Fe) : Fs := fun ρ => (f ρ).map fun x => .nx x.2
theorem es_expr (h : PE X a (tE X.K g1)) (hs : swapsWith a none pos.line X.env = pure false) : PS X (.Expr a pos) (tS X.K (dropF g1)) :=
  PS.weak (ps_expr h hs) fun D σ H ⟨G, B, F, ρ, o, rp, ef, z⟩ => by
    unfold dropF at ef
    obtain ⟨x, e1, e2⟩ := Option.map_eq_some_iff.mp ef
    obtain ⟨r, ρ1⟩ := x
    subst e2
    exact ⟨G, B, F, ρ, r, ρ1, rp, e1, fun v F1 H1 e rp1 rr => z σ F1 H1 e rp1⟩
def retF (f : Fe) : Fs := fun ρ => (f ρ).map fun x => .rt x.1 x.2
theorem es_ret (h : PE X a (tE X.K g1)) : PS X (.Return (some a) pos) (tS X.K (retF g1)) :=
  PS.weak (ps_ret h) fun D σ H ⟨G, B, F, ρ, o, rp, ef, z⟩ => by
    unfold retF at ef
    obtain ⟨x, e1, e2⟩ := Option.map_eq_some_iff.mp ef
    obtain ⟨r, ρ1⟩ := x
    subst e2
    exact ⟨G, B, F, ρ, r, ρ1, rp, e1, fun v F1 H1 e rp1 rr => z σ v F1 H1 e rp1 rr⟩
theorem es_retN : PS X (.Return none pos) (tS X.K fun ρ => some (.rt (.val .non) ρ)) :=
  PS.weak ps_retN fun D σ H ⟨G, B, F, ρ, o, rp, ef, z⟩ => by
    cases ef
    exact z σ _ F H (Ex.refl F) rp .non
/-- a def's own list is handed out -/
def retVarF (i : Nat) : Fs := fun ρ => match ρ[i]? with
  | some (.val d) => some (.rt (.val d) ρ)
  | some (.own d) => some (.rt (.new d) (ρ.set i .none))
  | _ => none
theorem es_retVar {x : Str} {pos' : Pos} {i : Nat} (hN : X.N[i]? = some x) (hv : Vis X.env.scope x) (hd : (x == ("__debug__" : Str)) = false) (hc : (x == ("__classdict__" : Str)) = false) : PS X (.Return (some (.Name x pos')) pos) (tS X.K (retVarF i)) :=
  PS.weak (ps_ret (pe_var (i := i) hN hv hd hc)) fun D σ H ⟨G, B, F, ρ, o, rp, ef, z⟩ => by
    unfold retVarF at ef
    cases q : ρ[i]? with
    | none => rw [q] at ef; cases ef
    | some sl =>
      rw [q] at ef
      cases sl with
      | val d =>
        cases ef
        obtain ⟨v, a, b⟩ := rp.val i d q
        exact ⟨v, a, z σ v F H (Ex.refl F) rp b⟩
      | own d =>
        cases ef
        obtain ⟨l, a, b, c, d2⟩ := rp.own i d (cell_own q)
        have hr : isRef ρ i = false := by unfold isRef; rw [q]
        refine ⟨.ref l, a, z σ _ F H (Ex.refl F) (rp.drop i hr) ⟨l, rfl, b, c, d2, fun j e hj hs => ?_⟩⟩
        rw [cell_set_none] at hj
        split at hj
        · cases hj
        · rename_i nj
          have ij := rp.sep i j d e l (cell_own q) hj a hs
          exact nj ⟨ij, (List.getElem?_eq_some_iff.mp q).1⟩
      | none => cases ef
      | ref d => cases ef
def setF (i : Nat) (f : Fe) : Fs := fun ρ => match f ρ with
  | some (r, ρ1) => if isRef ρ1 i then none else some (.nx (ρ1.set i (slOf r)))
  | none => none
theorem es_set {x : Str} {i : Nat} {pos' : Pos} (nd : X.N.Nodup) (hN : X.N[i]? = some x) (hl : L2.Loc X.env.scope x) (h : PE X a (tE X.K g1)) (hs : swapsWith a (some (.Name x pos')) pos.line X.env = pure false) (hf : X.fn x = true ∨ List.lookup x X.env.scope.names = some NameKind.local) : PS X (.Assign [.Name x pos'] a pos) (tS X.K (setF i g1)) :=
  PS.weak (ps_set (i := i) nd hN hl h hs hf) fun D σ H ⟨G, B, F, ρ, o, rp, ef, z⟩ => by
    unfold setF at ef
    cases q : g1 ρ with
    | none => rw [q] at ef; cases ef
    | some y1 =>
      obtain ⟨r, ρ1⟩ := y1
      rw [q] at ef
      have ef : (if isRef ρ1 i then none else some (Out.nx (ρ1.set i (slOf r)))) = some o := ef
      split at ef
      · cases ef
      · rename_i hr
        cases ef
        exact ⟨G, B, F, ρ, r, ρ1, rp, q, fun v F1 H1 e1 rp1 rr => z _ F1 H1 e1 (rp1.set i rr (by simpa using hr))⟩
end
end Ev
/-! Ev5 -/
namespace Ev
open PySem PySem.Spec PyProof.Rows L2
theorem PG.weak {X : Cx} {e : Expr} {t t' : TG} (h : PG X e t) (w : ∀ v σ H Q, t' v σ H Q → t v σ H Q) : PG X e t' := ⟨fun pins s σ H v u Q I r q => h.run pins s σ H v u Q I r (w v σ H Q q)⟩
theorem PGs.weak {X : Cx} {es : List Expr} {t t' : TGs} (h : PGs X es t) (w : ∀ vs σ H Q, t' vs σ H Q → t vs σ H Q) : PGs X es t' := ⟨fun pins s σ H v u Q I r q => h.run pins s σ H v u Q I r (w v σ H Q q)⟩
inductive Tg where
  | nm (i : Nat) | tp (is : List Nat)
def Tg.ix : Tg → List Nat
  | .nm i => [i]
  | .tp is => is
def put1 (i : Nat) (d : D) (ρ : EnvD) : Option EnvD := if isRef ρ i then none else some (ρ.set i (.val d))
def puts : List Nat → List D → EnvD → Option EnvD
  | [], [], ρ => some ρ
  | i :: is, d :: ds, ρ => match put1 i d ρ with
    | some ρ1 => puts is ds ρ1
    | none => none
  | _, _, _ => none
def putT (t : Tg) (d : D) (ρ : EnvD) : Option EnvD := match t with
  | .nm i => put1 i d ρ
  | .tp is => match d with
    | .tup ds => puts is ds ρ
    | _ => none
def Same (is : List Nat) (σ σ' : L2.St) : Prop := σ'.length = σ.length ∧ ∀ j, j ∉ is → σ'[j]? = σ[j]?
def gT (K : Frag) (t : Tg) : TG := fun v σ H Q => ∃ G B F ρ d ρ', Rep K G B F H ρ σ ∧ R K F v d ∧ putT t d ρ = some ρ' ∧ ∀ σ', Same t.ix σ σ' → Rep K G B F H ρ' σ' → Q σ' H
def gTs (K : Frag) (is : List Nat) : TGs := fun vs σ H Q => ∃ G B F ρ ds ρ', Rep K G B F H ρ σ ∧ Rs K F vs ds ∧ puts is ds ρ = some ρ' ∧ ∀ σ', Same is σ σ' → Rep K G B F H ρ' σ' → Q σ' H
theorem Same.one {i : Nat} {σ : L2.St} {x : Option V} : Same [i] σ (σ.set i x) := ⟨List.length_set, fun j h => set_ne (fun e => h (by rw [e]; exact List.mem_singleton.mpr rfl))⟩
theorem Same.mono {is js : List Nat} {σ σ' : L2.St} (h : Same is σ σ') (k : ∀ j, j ∈ is → j ∈ js) : Same js σ σ' := ⟨h.1, fun j hj => h.2 j fun z => hj (k j z)⟩
theorem Same.trans {is : List Nat} {σ σ' σ2 : L2.St} (h : Same is σ σ') (k : Same is σ' σ2) : Same is σ σ2 := ⟨k.1.trans h.1, fun j hj => (k.2 j hj).trans (h.2 j hj)⟩
section
variable {K : Frag} {G : Hp} {B : List (Nat × Addr)} {F F' H H' : Hp} {ρ ρ' : EnvD} {σ : L2.St}
theorem Rep.put1 {i : Nat} {v : V} {d : D} (p : Rep K G B F H ρ σ) (r : R K F v d) (e : Ev.put1 i d ρ = some ρ') : Rep K G B F H ρ' (σ.set i (some v)) := by
  unfold Ev.put1 at e
  split at e
  · cases e
  · rename_i h
    cases e
    exact p.set (r := .val d) i r (by simpa using h)
end
section
variable {X : Cx} {a b c : Expr} {f1 f2 f3 : Fv} {g1 g2 g3 : Fe} {s1 s2 : Fs} {pos : Pos} {st : Stmt} {rest : List Stmt}
theorem eg_name {x : Str} {i : Nat} (nd : X.N.Nodup) (hN : X.N[i]? = some x) (hl : L2.Loc X.env.scope x) (hf : X.fn x = true ∨ List.lookup x X.env.scope.names = some NameKind.local) : PG X (.Name x pos) (gT X.K (.nm i)) :=
  PG.weak (pg_name (i := i) nd hN hl hf) fun v σ H Q ⟨G, B, F, ρ, d, ρ', rp, r, e, k⟩ => k _ Same.one (rp.put1 r e)
theorem egs_nil : PGs X [] (gTs X.K []) := PGs.weak pgs_nil fun vs σ H Q ⟨G, B, F, ρ, ds, ρ', rp, r, e, k⟩ => by
  cases r with
  | nil => cases e; exact ⟨rfl, k σ ⟨rfl, fun _ _ => rfl⟩ rp⟩
  | cons h t => cases e
theorem egs_cons {i : Nat} {is : List Nat} {es : List Expr} (h : PG X a (gT X.K (.nm i))) (t : PGs X es (gTs X.K is)) (hm : List.map (fun x => x.snd) (assignEach (a :: es) X.env) = assign a X.env :: List.map (fun x => x.snd) (assignEach es X.env)) : PGs X (a :: es) (gTs X.K (i :: is)) :=
  PGs.weak (pgs_cons h t hm) fun vs σ H Q ⟨G, B, F, ρ, ds, ρ', rp, r, e, k⟩ => by
    cases r with
    | nil => cases e
    | @cons v d vs ds hd tl =>
      unfold puts at e
      cases q : Ev.put1 i d ρ with
      | none => rw [q] at e; cases e
      | some ρ1 =>
        rw [q] at e
        refine ⟨v, vs, rfl, G, B, F, ρ, d, ρ1, rp, hd, q, fun σ1 s1 rp1 => ⟨G, B, F, ρ1, ds, ρ', rp1, tl, e, fun σ2 s2 rp2 => ?_⟩⟩
        refine k σ2 ?_ rp2
        exact (Same.mono s1 (fun j hj => by rw [List.mem_singleton.mp hj]; exact List.mem_cons_self)).trans (s2.mono fun j hj => List.mem_cons_of_mem _ hj)
theorem puts_len {is : List Nat} : ∀ {ds : List D} {ρ ρ' : EnvD}, puts is ds ρ = some ρ' → ds.length = is.length := by
  induction is with
  | nil => intro ds ρ ρ' e; cases ds with
    | nil => rfl
    | cons _ _ => cases e
  | cons i is ih => intro ds ρ ρ' e; cases ds with
    | nil => cases e
    | cons d ds =>
      unfold puts at e
      split at e
      · rename_i ρ1 _
        exact congrArg (· + 1) (ih e)
      · cases e
theorem eg_tup {is : List Nat} {es : List Expr} {k n : Nat} (hc : X.calm = true) (h : PGs X es (gTs X.K is)) (hn : (assignEach es X.env).length = n) (hs : List.findIdx? (fun x => x.fst) (assignEach es X.env) = none) (hi : is.length = n) : PG X (.Tuple es k pos) (gT X.K (.tp is)) :=
  PG.weak (pg_tup hc h hn hs) fun v σ H Q ⟨G, B, F, ρ, d, ρ', rp, r, e, kk⟩ => by
    cases r with
    | @tup a xs ds sq rs =>
      have e : puts is ds ρ = some ρ' := e
      exact ⟨a, xs, rfl, rp.exF.seqT sq, by rw [rs.len, puts_len e, hi], G, B, F, ρ, ds, ρ', rp, rs, e, kk⟩
    | _ => cases e
def loopF (t : Tg) (body : Fs) : List D → EnvD → Option Out
  | [], ρ => some (.nx ρ)
  | d :: ds, ρ => match putT t d ρ with
    | none => none
    | some ρ1 => match body ρ1 with
      | some (.nx ρ2) => loopF t body ds ρ2
      | some (.ct ρ2) => loopF t body ds ρ2
      | some (.bk ρ2) => some (.nx ρ2)
      | some (.rt r ρ2) => some (.rt r ρ2)
      | none => none
def forF (t : Tg) (it : Fv) (body : Fs) : Fs := fun ρ => match it ρ with
  | some (d, ρ1) => (match itemsOf d with
    | some ds => loopF t body ds ρ1
    | none => none)
  | none => none
/-- what holds ahead of turn i -/
def Turn (K : Frag) (G : Hp) (B : List (Nat × Addr)) (F : Hp) (t : Tg) (body : Fs) (ds : List D) (o : Out) (i : Nat) (σ : L2.St) (H : Hp) : Prop := ∃ F1 ρ1, Ex F F1 ∧ Rep K G B F1 H ρ1 σ ∧ loopF t body (ds.drop i) ρ1 = some o
theorem turn_ok {K : Frag} {G : Hp} {B : List (Nat × Addr)} {F H : Hp} {D : Ends} {o : Out} {t : Tg} {body : Fs} {xs : List V} {ds : List Ev.D} {i : Nat} {x : V} {σ : L2.St} (rs : Rs K F xs ds) (z : Post K G B F D o) (hx : xs[i]? = some x) (q : Turn K G B F t body ds o i σ H) :
    gT K t x σ H fun σ2 H2 => tS K body { nx := Turn K G B F t body ds o (i + 1), rt := D.rt, bk := D.nx, ct := Turn K G B F t body ds o (i + 1) } σ2 H2 := by
  obtain ⟨F1, ρ1, e1, rp1, q1⟩ := q
  obtain ⟨d, hd, hr⟩ := rs.getV hx
  have hlt := (List.getElem?_eq_some_iff.mp hd)
  obtain ⟨hl, hde⟩ := hlt
  rw [List.drop_eq_getElem_cons hl, hde] at q1
  unfold loopF at q1
  cases q2 : putT t d ρ1 with
  | none => rw [q2] at q1; cases q1
  | some ρ2 =>
    rw [q2] at q1
    refine ⟨G, B, F1, ρ1, d, ρ2, rp1, hr.mono e1, q2, fun σ2 _ rp2 => ?_⟩
    have q1 : (match body ρ2 with
      | some (.nx ρ2) => loopF t body (ds.drop (i + 1)) ρ2
      | some (.ct ρ2) => loopF t body (ds.drop (i + 1)) ρ2
      | some (.bk ρ2) => some (.nx ρ2)
      | some (.rt r ρ2) => some (.rt r ρ2)
      | none => none) = some o := q1
    cases q3 : body ρ2 with
    | none => rw [q3] at q1; cases q1
    | some o3 =>
      rw [q3] at q1
      refine ⟨G, B, F1, ρ2, o3, rp2, q3, ?_⟩
      cases o3 with
      | nx ρ3 => exact fun σ3 F3 H3 e3 rp3 => ⟨F3, ρ3, e1.trans e3, rp3, q1⟩
      | ct ρ3 => exact fun σ3 F3 H3 e3 rp3 => ⟨F3, ρ3, e1.trans e3, rp3, q1⟩
      | bk ρ3 => cases q1; exact fun σ3 F3 H3 e3 rp3 => z σ3 F3 H3 (e1.trans e3) rp3
      | rt r ρ3 => cases q1; exact fun σ3 v F3 H3 e3 rp3 rr => z σ3 v F3 H3 (e1.trans e3) rp3 rr
theorem turn_end {K : Frag} {G : Hp} {B : List (Nat × Addr)} {F H : Hp} {D : Ends} {o : Out} {t : Tg} {body : Fs} {xs : List V} {ds : List Ev.D} {σ : L2.St} (rs : Rs K F xs ds) (z : Post K G B F D o) (q : Turn K G B F t body ds o xs.length σ H) : D.nx σ H := by
  obtain ⟨F1, ρ1, e1, rp1, q1⟩ := q
  rw [rs.len, List.drop_length] at q1
  cases q1
  exact z σ F1 H e1 rp1
theorem es_for {t : Tg} {tg : Expr} {body : List Stmt} (po : PassesOwn (model X.prog X.w) X.A X.env X.xe) (hc : X.calm = true) (ha : PE X a (tV X.K f1)) (hg : PG X tg (gT X.K t)) (hb : PSs X body (tS X.K s1)) (hs : ∀ x : Value, foldedSetIterable a X.env x = pure x) : PS X (.For tg a body [] pos) (tS X.K (forF t f1 s1)) :=
  PS.weak (ps_for po hc (PI.or (pi_list ha) (pi_tup ha)) hg hb hs) fun D σ H ⟨G, B, F, ρ, o, rp, ef, z⟩ => by
    unfold forF at ef
    cases q1 : f1 ρ with
    | none => rw [q1] at ef; cases ef
    | some y1 =>
      obtain ⟨d, ρ1⟩ := y1
      rw [q1] at ef
      have ef : (match itemsOf d with
        | some ds => loopF t s1 ds ρ1
        | none => none) = some o := ef
      cases q2 : itemsOf d with
      | none => rw [q2] at ef; cases ef
      | some ds =>
        rw [q2] at ef
        have key : ∀ v F1 H1, Ex F F1 → Rep X.K G B F1 H1 ρ1 σ → R X.K F1 v d → ∃ p xs, v = .ref p ∧ (SqL X.K H1 p xs ∨ SqT X.K H1 p xs) ∧ Rs X.K F1 xs ds := fun v F1 H1 e1 rp1 r1 => itemsOf_ok rp1.exF r1 q2
        cases d with
        | tup l =>
          refine .inr ⟨G, B, F, ρ, _, ρ1, rp, q1, fun v F1 H1 e1 rp1 r1 => ?_⟩
          cases q2
          cases r1 with
          | tup sq rs =>
            rename_i p xs
            refine ⟨p, rfl, ⟨xs, rp1.exF.seqT sq⟩, for_tup (xs := xs) (Turn X.K G B F1 t s1 ds o) ⟨F1, ρ1, Ex.refl _, rp1, ef⟩ (fun i σ H _ q => ?_) (fun i x σ H hx q => turn_ok rs (z.ex e1) hx q) (fun σ H q => turn_end rs (z.ex e1) q)⟩
            obtain ⟨F2, ρ2, e2, rp2, _⟩ := q
            exact rp2.exF.seqT (e2.seqT sq)
        | lst l =>
          refine .inl ⟨G, B, F, ρ, _, ρ1, rp, q1, fun v F1 H1 e1 rp1 r1 => ?_⟩
          cases q2
          cases r1 with
          | lst sq rs =>
            rename_i p xs
            refine ⟨p, rfl, ⟨xs, SqL.of (rp1.exF _ _ sq)⟩, for_list (xs := xs) (Turn X.K G B F1 t s1 ds o) ⟨F1, ρ1, Ex.refl _, rp1, ef⟩ (fun i σ H _ q => ?_) (fun i x σ H hx q => turn_ok rs (z.ex e1) hx q) (fun σ H q => turn_end rs (z.ex e1) q)⟩
            obtain ⟨F2, ρ2, e2, rp2, _⟩ := q
            exact SqL.of (rp2.exF _ _ (e2 _ _ sq))
        | rol l =>
          refine .inl ⟨G, B, F, ρ, _, ρ1, rp, q1, fun v F1 H1 e1 rp1 r1 => ?_⟩
          cases q2
          cases r1 with
          | rol sq rs =>
            rename_i p xs
            refine ⟨p, rfl, ⟨xs, rp1.exF.seqL sq⟩, for_list (xs := xs) (Turn X.K G B F1 t s1 ds o) ⟨F1, ρ1, Ex.refl _, rp1, ef⟩ (fun i σ H _ q => ?_) (fun i x σ H hx q => turn_ok rs (z.ex e1) hx q) (fun σ H q => turn_end rs (z.ex e1) q)⟩
            obtain ⟨F2, ρ2, e2, rp2, _⟩ := q
            exact rp2.exF.seqL (e2.seqL sq)
        | _ => cases q2
def intsD (lo : Int) (n : Nat) : List D := (List.range n).map fun i => D.int (lo + (i : Nat))
theorem ints_get {lo : Int} {n i : Nat} (h : i < n) : (intsD lo n)[i]? = some (.int (lo + (i : Nat))) := by
  unfold intsD
  rw [List.getElem?_map, List.getElem?_range h]
  rfl
theorem ints_len {lo : Int} {n : Nat} : (intsD lo n).length = n := by unfold intsD; rw [List.length_map, List.length_range]
theorem ints_Rs {K : Frag} {F : Hp} {lo : Int} {n : Nat} : Rs K F ((List.range n).map fun i => V.int (lo + (i : Nat))) (intsD lo n) := by
  unfold intsD
  generalize List.range n = l
  induction l with
  | nil => exact .nil
  | cons a l ih => exact .cons (.int _) ih
def in62 : Int → Bool
  | .ofNat n => Nat.ble n 4611686018427387903
  | .negSucc n => Nat.ble n 4611686018427387903
theorem in62_ok {i : Int} (h : in62 i = true) : -(2 ^ 62) ≤ i ∧ i < 2 ^ 62 := by
  cases i with
  | ofNat n =>
    have := Nat.le_of_ble_eq_true h
    rw [show Int.ofNat n = (n : Int) from rfl]
    exact ⟨by omega, by omega⟩
  | negSucc n =>
    have := Nat.le_of_ble_eq_true h
    rw [Int.negSucc_eq]
    exact ⟨by omega, by omega⟩
def rngD1 : List D → Option (List D)
  | [.int j] => if in62 j then some (intsD 0 j.toNat) else none
  | _ => none
def rngD2 : List D → Option (List D)
  | [.int i, .int j] => if in62 i && in62 j then some (intsD i (j - i).toNat) else none
  | _ => none
theorem rngD1_inv {ds l : List D} (h : rngD1 ds = some l) : ∃ j, ds = [.int j] ∧ in62 j = true ∧ l = intsD 0 j.toNat := by
  unfold rngD1 at h
  split at h
  · split at h
    · rename_i j hj
      cases h
      exact ⟨j, rfl, hj, rfl⟩
    · cases h
  · cases h
theorem rngD2_inv {ds l : List D} (h : rngD2 ds = some l) : ∃ i j, ds = [.int i, .int j] ∧ in62 i = true ∧ in62 j = true ∧ l = intsD i (j - i).toNat := by
  unfold rngD2 at h
  split at h
  · split at h
    · rename_i i j hj
      cases h
      obtain ⟨a, b⟩ := Bool.and_eq_true_iff.mp hj
      exact ⟨i, j, rfl, a, b, rfl⟩
    · cases h
  · cases h
theorem Rs.one_inv {K : Frag} {F : Hp} {vs : List V} {j : Int} (r : Rs K F vs [.int j]) : vs = [.int j] := by
  cases r with
  | cons h t =>
    cases h
    cases t
    rfl
theorem Rs.two_inv {K : Frag} {F : Hp} {vs : List V} {i j : Int} (r : Rs K F vs [.int i, .int j]) : vs = [.int i, .int j] := by
  cases r with
  | cons h t =>
    cases h
    rw [Rs.one_inv t]
def rngF (rd : List D → Option (List D)) (t : Tg) (it : Fl) (body : Fs) : Fs := fun ρ => match it ρ with
  | some (ds, ρ1) => (match rd ds with
    | some l => loopF t body l ρ1
    | none => none)
  | none => none
theorem rngF_inv {rd : List D → Option (List D)} {t : Tg} {it : Fl} {body : Fs} {ρ : EnvD} {o : Out} (h : rngF rd t it body ρ = some o) : ∃ ds ρ1 l, it ρ = some (ds, ρ1) ∧ rd ds = some l ∧ loopF t body l ρ1 = some o := by
  unfold rngF at h
  cases q1 : it ρ with
  | none => rw [q1] at h; cases h
  | some y1 =>
    obtain ⟨ds, ρ1⟩ := y1
    rw [q1] at h
    have h : (match rd ds with
      | some l => loopF t body l ρ1
      | none => none) = some o := h
    cases q2 : rd ds with
    | none => rw [q2] at h; cases h
    | some l =>
      rw [q2] at h
      exact ⟨ds, ρ1, l, rfl, q2, h⟩
theorem turn_int {K : Frag} {G : Hp} {B : List (Nat × Addr)} {F : Hp} {D : Ends} {o : Out} {t : Tg} {body : Fs} {lo : Int} {n : Nat} {σ : L2.St} {H : Hp} (z : Post K G B F D o) (q : Turn K G B F t body (intsD lo n) o 0 σ H) : ∃ W : Nat → Nat → L2.St → Hp → Prop, (∃ m, W 0 m σ H) ∧ ∀ (i m : Nat) (σ : L2.St) (H : Hp), W i m σ H →
    (Itr lo n).stop i H ∧ D.nx σ H ∨ (Itr lo n).go i H ∧ ∃ N : L2.St → Hp → Prop, (∀ (σ' : L2.St) (H' : Hp), N σ' H' → ∃ m', m' < m ∧ W (i + 1) m' σ' H') ∧ ∀ (x : V) (H' : Hp), (Itr lo n).yld i H x H' → gT K t x σ H' fun σ2 H2 => tS K body { nx := N, rt := D.rt, bk := D.nx, ct := N } σ2 H2 :=
  for_range (Turn K G B F t body (intsD lo n) o) q
    (fun i σ H hi q => turn_ok (x := .int (lo + (i : Nat))) ints_Rs z (by rw [List.getElem?_map, List.getElem?_range hi]; rfl) q)
    (fun σ H q => turn_end (xs := (List.range n).map fun i => V.int (lo + (i : Nat))) ints_Rs z (by rw [List.length_map, List.length_range]; exact q))
theorem es_range1 {t : Tg} {tg : Expr} {body : List Stmt} {l1 : Fl} {p : Pos} {pos2 : Pos} (po : PassesOwn (model X.prog X.w) X.A X.env X.xe) (hc : X.calm = true) (gl : Gl X (Str.ofString "range")) (hm : X.mg (Str.ofString "range") = none) (ha : PA X [a] (tL X.K l1)) (hg : PG X tg (gT X.K t)) (hb : PSs X body (tS X.K s1)) (hst : starEach [a] X.env = [(false, eval a X.env)]) (hs : ∀ x : Value, foldedSetIterable (Expr.Call (.Name (Str.ofString "range") p) [a] [] pos2) X.env x = pure x) : PS X (.For tg (Expr.Call (.Name (Str.ofString "range") p) [a] [] pos2) body [] pos) (tS X.K (rngF rngD1 t l1 s1)) :=
  PS.weak (ps_for po hc (pi_range1 gl hm ha hst) hg hb hs) fun D σ H ⟨G, B, F, ρ, o, rp, ef, z⟩ => by
    obtain ⟨ds, ρ1, l, q1, q2, q3⟩ := rngF_inv ef
    obtain ⟨j, rfl, hj, rfl⟩ := rngD1_inv q2
    refine ⟨G, B, F, ρ, _, ρ1, rp, q1, fun vs F1 H1 e1 rp1 r1 => ?_⟩
    obtain ⟨a1, a2⟩ := in62_ok hj
    exact ⟨j, Rs.one_inv r1, a1, a2, turn_int (z.ex e1) ⟨F1, ρ1, Ex.refl _, rp1, q3⟩⟩
theorem es_range2 {t : Tg} {tg : Expr} {body : List Stmt} {l1 : Fl} {p : Pos} {pos2 : Pos} (po : PassesOwn (model X.prog X.w) X.A X.env X.xe) (hc : X.calm = true) (gl : Gl X (Str.ofString "range")) (hm : X.mg (Str.ofString "range") = none) (ha : PA X [a, b] (tL X.K l1)) (hg : PG X tg (gT X.K t)) (hb : PSs X body (tS X.K s1)) (hst : starEach [a, b] X.env = [(false, eval a X.env), (false, eval b X.env)]) (hst2 : starEach [b] X.env = [(false, eval b X.env)]) (hs : ∀ x : Value, foldedSetIterable (Expr.Call (.Name (Str.ofString "range") p) [a, b] [] pos2) X.env x = pure x) : PS X (.For tg (Expr.Call (.Name (Str.ofString "range") p) [a, b] [] pos2) body [] pos) (tS X.K (rngF rngD2 t l1 s1)) :=
  PS.weak (ps_for po hc (pi_range2 gl hm ha hst hst2) hg hb hs) fun D σ H ⟨G, B, F, ρ, o, rp, ef, z⟩ => by
    obtain ⟨ds, ρ1, l, q1, q2, q3⟩ := rngF_inv ef
    obtain ⟨i, j, rfl, hi, hj, rfl⟩ := rngD2_inv q2
    refine ⟨G, B, F, ρ, _, ρ1, rp, q1, fun vs F1 H1 e1 rp1 r1 => ?_⟩
    obtain ⟨a1, a2⟩ := in62_ok hi
    obtain ⟨b1, b2⟩ := in62_ok hj
    exact ⟨i, j, Rs.two_inv r1, ⟨a1, a2, b1, b2⟩, turn_int (z.ex e1) ⟨F1, ρ1, Ex.refl _, rp1, q3⟩⟩
end
end Ev
/-! Ev6 -/
namespace Ev
open PySem PySem.Spec PyProof.Rows L2
/-- the places vs forgotten -/
def clr (ρ : EnvD) : List Nat → EnvD
  | [] => ρ
  | v :: vs => (clr ρ vs).set v .none
theorem clr_length (ρ : EnvD) : ∀ vs : List Nat, (clr ρ vs).length = ρ.length
  | [] => rfl
  | v :: vs => by
    unfold clr
    rw [List.length_set]
    exact clr_length ρ vs
theorem clr_out {ρ : EnvD} {i : Nat} : ∀ {vs : List Nat}, i ∉ vs → (clr ρ vs)[i]? = ρ[i]?
  | [], _ => rfl
  | v :: vs, h => by
    unfold clr
    rw [set_ne (fun e => h (by rw [e]; exact List.mem_cons_self))]
    exact clr_out fun z => h (List.mem_cons_of_mem _ z)
theorem clr_in {ρ : EnvD} {i : Nat} {s : Sl} : ∀ {vs : List Nat}, i ∈ vs → (clr ρ vs)[i]? = some s → s = .none
  | v :: vs, h, e => by
    unfold clr at e
    by_cases z : v = i
    · subst z
      rw [List.getElem?_set, if_pos rfl] at e
      split at e
      · cases e; rfl
      · cases e
    · rw [set_ne z] at e
      exact clr_in (by
        cases h with
        | head => exact absurd rfl z
        | tail _ h => exact h) e
/-- no cell stands at the places -/
def noCell (ρ : EnvD) (vs : List Nat) : Bool := vs.all fun v => match ρ[v]? with
  | some (.own _) => false
  | some (.ref _) => false
  | _ => true
theorem noCell_of {ρ : EnvD} {vs : List Nat} (h : noCell ρ vs = true) {i : Nat} (hi : i ∈ vs) : cellOf ρ i = none := by
  have q := List.all_eq_true.mp h i hi
  unfold cellOf
  cases e : ρ[i]? with
  | none => rfl
  | some s =>
    rw [e] at q
    cases s <;> first | rfl | cases q
/-- what stood at the places ahead stands there again -/
def back (ρ0 ρ : EnvD) : List Nat → EnvD
  | [] => ρ
  | v :: vs => (back ρ0 ρ vs).set v ((ρ0[v]?).getD .none)
theorem back_length (ρ0 ρ : EnvD) : ∀ vs : List Nat, (back ρ0 ρ vs).length = ρ.length
  | [] => rfl
  | v :: vs => by
    unfold back
    rw [List.length_set]
    exact back_length ρ0 ρ vs
theorem back_out {ρ0 ρ : EnvD} {i : Nat} : ∀ {vs : List Nat}, i ∉ vs → (back ρ0 ρ vs)[i]? = ρ[i]?
  | [], _ => rfl
  | v :: vs, h => by
    unfold back
    rw [set_ne (fun e => h (by rw [e]; exact List.mem_cons_self))]
    exact back_out fun z => h (List.mem_cons_of_mem _ z)
theorem back_in {ρ0 ρ : EnvD} {i : Nat} : ∀ {vs : List Nat}, i ∈ vs → i < ρ.length → ρ0.length = ρ.length → (back ρ0 ρ vs)[i]? = ρ0[i]?
  | v :: vs, h, hl, he => by
    unfold back
    by_cases z : v = i
    · subst z
      rw [set_at (by rw [back_length]; exact hl)]
      cases e : ρ0[v]? with
      | none =>
        rw [List.getElem?_eq_none_iff] at e
        omega
      | some s => rfl
    · rw [set_ne z]
      exact back_in (by
        cases h with
        | head => exact absurd rfl z
        | tail _ h => exact h) hl he
section
variable {K : Frag} {G : Hp} {B : List (Nat × Addr)} {F F' H H' : Hp} {ρ ρ' ρ0 : EnvD} {σ σ' : L2.St}
theorem wipe_in {i : Nat} {x : Option V} : ∀ {vs : List Nat}, i ∈ vs → (wipe σ vs)[i]? = some x → x = none
  | v :: vs, h, e => by
    rw [wipe.eq_def] at e
    have e : (List.set (wipe σ vs) v none)[i]? = some x := e
    by_cases z : v = i
    · subst z
      rw [List.getElem?_set, if_pos rfl] at e
      split at e
      · cases e; rfl
      · cases e
    · rw [set_ne z] at e
      exact wipe_in (by
        cases h with
        | head => exact absurd rfl z
        | tail _ h => exact h) e
theorem wipe_same {vs is : List Nat} (h : Same is σ σ') (k : ∀ j, j ∈ is → j ∈ vs) : wipe σ' vs = wipe σ vs := by
  apply List.ext_getElem?
  intro i
  by_cases hi : i ∈ vs
  · have l1 : (wipe σ' vs).length = (wipe σ vs).length := by rw [wipe_length, wipe_length, h.1]
    cases e1 : (wipe σ' vs)[i]? with
    | none =>
      rw [List.getElem?_eq_none_iff] at e1
      rw [eq_comm, List.getElem?_eq_none_iff]
      omega
    | some x =>
      cases e2 : (wipe σ vs)[i]? with
      | none =>
        rw [List.getElem?_eq_none_iff] at e2
        have := (List.getElem?_eq_some_iff.mp e1).1
        omega
      | some y => rw [wipe_in hi e1, wipe_in hi e2]
  · rw [wipe_out hi, wipe_out hi]
    exact h.2 i fun z => hi (k i z)
theorem wipe_wipe {vs : List Nat} : wipe (wipe σ vs) vs = wipe σ vs := by
  refine wipe_same (is := vs) ⟨wipe_length _ _, fun j hj => wipe_out hj⟩ fun j h => h
/-- the places are wiped -/
theorem Rep.wipe {vs : List Nat} (p : Rep K G B F H ρ σ) (h : noCell ρ vs = true) : Rep K G B F H (clr ρ vs) (L2.wipe σ vs) := by
  have cl : ∀ i d, cellOf (clr ρ vs) i = some d → cellOf ρ i = some d ∧ i ∉ vs := fun i d e => by
    by_cases hi : i ∈ vs
    · exfalso
      unfold cellOf at e
      cases q : (clr ρ vs)[i]? with
      | none => rw [q] at e; cases e
      | some s =>
        have := clr_in hi q
        subst this
        rw [q] at e
        cases e
    · refine ⟨?_, hi⟩
      unfold cellOf at e ⊢
      rw [clr_out hi] at e
      exact e
  refine ⟨by rw [clr_length, wipe_length]; exact p.len, p.exF, p.exG, p.dis, fun i d e => ?_, fun i d e => ?_, fun i j d e l q1 q2 s1 s2 => ?_, fun i l e => ?_⟩
  · by_cases hi : i ∈ vs
    · have := clr_in hi e
      cases this
    · rw [clr_out hi] at e
      rw [wipe_out hi]
      exact p.val i d e
  · obtain ⟨e1, hi⟩ := cl i d e
    rw [wipe_out hi]
    exact p.own i d e1
  · obtain ⟨a1, h1⟩ := cl i d q1
    obtain ⟨a2, h2⟩ := cl j e q2
    rw [wipe_out h1] at s1
    rw [wipe_out h2] at s2
    exact p.sep i j d e l a1 a2 s1 s2
  · obtain ⟨⟨d, a⟩, b⟩ := p.bor i l e
    have hi : i ∉ vs := fun hi => by
      have := noCell_of h hi
      rw [cell_ref a] at this
      cases this
    exact ⟨⟨d, by rw [clr_out hi]; exact a⟩, by rw [wipe_out hi]; exact b⟩
/-- .. and what stood there stands there again -/
theorem Rep.unwipe {vs : List Nat} (p0 : Rep K G B F H ρ0 σ) (h0 : noCell ρ0 vs = true) (e : Ex F F') (p : Rep K G B F' H' (clr ρ vs) (L2.wipe σ vs)) : Rep K G B F' H' (back ρ0 (clr ρ vs) vs) σ := by
  have ll : ρ0.length = (clr ρ vs).length := by rw [p0.len, p.len, wipe_length]
  have cl : ∀ i d, cellOf (back ρ0 (clr ρ vs) vs) i = some d → cellOf (clr ρ vs) i = some d ∧ i ∉ vs := fun i d q => by
    by_cases hi : i ∈ vs
    · exfalso
      have hl := cell_lt q
      rw [back_length] at hl
      have z := noCell_of h0 hi
      unfold cellOf at q z
      rw [back_in hi hl ll] at q
      rw [z] at q
      cases q
    · refine ⟨?_, hi⟩
      unfold cellOf at q ⊢
      rw [back_out hi] at q
      exact q
  refine ⟨by rw [back_length, ← ll]; exact p0.len, p.exF, p.exG, p.dis, fun i d q => ?_, fun i d q => ?_, fun i j d e' l q1 q2 s1 s2 => ?_, fun i l q => ?_⟩
  · by_cases hi : i ∈ vs
    · have hl : i < (clr ρ vs).length := by
        have := (List.getElem?_eq_some_iff.mp q).1
        rw [back_length] at this
        exact this
      rw [back_in hi hl ll] at q
      obtain ⟨v, a, b⟩ := p0.val i d q
      exact ⟨v, a, b.mono e⟩
    · rw [back_out hi] at q
      obtain ⟨v, a, b⟩ := p.val i d q
      rw [wipe_out hi] at a
      exact ⟨v, a, b⟩
  · obtain ⟨a, hi⟩ := cl i d q
    have := p.own i d a
    rw [wipe_out hi] at this
    exact this
  · obtain ⟨a1, h1⟩ := cl i d q1
    obtain ⟨a2, h2⟩ := cl j e' q2
    refine p.sep i j d e' l a1 a2 ?_ ?_
    · rw [wipe_out h1]; exact s1
    · rw [wipe_out h2]; exact s2
  · obtain ⟨⟨d, a⟩, b⟩ := p.bor i l q
    have hi : i ∉ vs := fun hi => by
      have := clr_in hi a
      cases this
    exact ⟨⟨d, by rw [back_out hi]; exact a⟩, by rw [wipe_out hi] at b; exact b⟩
/-- one address more that nobody may touch -/
theorem Rep.inG {p : Addr} {o : HO} (r : Rep K G B F H ρ σ) (ho : H p = some o) (hF : F p = none) (hG : G p = none) (hs : ∀ (i : Nat) (e : D), cellOf ρ i = some e → σ[i]? ≠ some (some (.ref p))) : Rep K (upd G p o) B F H ρ σ := by
  refine ⟨r.len, r.exF, fun a u q => ?_, fun a u q => ?_, r.val, fun i d q => ?_, r.sep, r.bor⟩
  · by_cases z : a = p
    · subst z
      rw [upd_same] at q
      cases q
      exact ho
    · rw [upd_ne z] at q
      exact r.exG a u q
  · by_cases z : a = p
    · subst z
      rw [hF] at q
      cases q
    · rw [upd_ne z]
      exact r.dis a u q
  · obtain ⟨l, a, b, c, d2⟩ := r.own i d q
    have ne : l ≠ p := fun z => by
      subst z
      exact hs i d q a
    exact ⟨l, a, b, by rw [upd_ne ne]; exact c, d2⟩
/-- what stands there is changed -/
theorem Rep.chG {p : Addr} {o o' : HO} (r : Rep K (upd G p o) B F H ρ σ) : Rep K (upd G p o') B F (upd H p o') ρ σ := by
  have hF : F p = none := by
    cases q : F p with
    | none => rfl
    | some u =>
      have := r.dis p u q
      rw [upd_same] at this
      cases this
  refine ⟨r.len, fun a u q => ?_, fun a u q => ?_, fun a u q => ?_, r.val, fun i d q => ?_, r.sep, r.bor⟩
  · have ne : a ≠ p := fun z => by
      subst z
      rw [hF] at q
      cases q
    rw [upd_ne ne]
    exact r.exF a u q
  · by_cases z : a = p
    · subst z
      rw [upd_same] at q ⊢
      exact q
    · rw [upd_ne z] at q ⊢
      exact r.exG a u (by rw [upd_ne z]; exact q)
  · have ne : a ≠ p := fun z => by
      subst z
      rw [hF] at q
      cases q
    have := r.dis a u q
    rw [upd_ne ne] at this ⊢
    exact this
  · obtain ⟨l, a, b, c, d2⟩ := r.own i d q
    have ne : l ≠ p := fun z => by
      subst z
      rw [upd_same] at c
      cases c
    refine ⟨l, a, b, ?_, d2.mono (Ex.refl F) (by rw [upd_ne ne])⟩
    rw [upd_ne ne] at c ⊢
    exact c
/-- .. and handed out -/
theorem Rep.outG {p : Addr} {o : HO} (r : Rep K (upd G p o) B F H ρ σ) (hG : G p = none) : Rep K G B F H ρ σ ∧ F p = none ∧ H p = some o ∧ ∀ (i : Nat) (e : D), cellOf ρ i = some e → σ[i]? ≠ some (some (.ref p)) := by
  have gle : ∀ a, upd G p o a = none → G a = none := fun a h => by
    by_cases z : a = p
    · rw [z]; exact hG
    · rw [upd_ne z] at h; exact h
  refine ⟨⟨r.len, r.exF, fun a u q => ?_, fun a u q => gle a (r.dis a u q), r.val, fun i d q => ?_, r.sep, r.bor⟩, ?_, r.exG p o upd_same, fun i d q z => ?_⟩
  · have ne : a ≠ p := fun z => by
      subst z
      rw [hG] at q
      cases q
    exact r.exG a u (by rw [upd_ne ne]; exact q)
  · obtain ⟨l, a, b, c, d2⟩ := r.own i d q
    exact ⟨l, a, b, gle l c, d2⟩
  · cases q : F p with
    | none => rfl
    | some u =>
      have := r.dis p u q
      rw [upd_same] at this
      cases this
  · obtain ⟨l, a, b, c, d2⟩ := r.own i d q
    rw [a] at z
    cases z
    rw [upd_same] at c
    cases c
end
def lcLoop (vs : List Nat) (t : Tg) (c : Fb) (e : Fv) : List D → List D → EnvD → Option (List D × EnvD)
  | [], acc, ρ => some (acc, ρ)
  | d :: ds, acc, ρ => match putT t d ρ with
    | none => none
    | some ρ1 => match c ρ1 with
      | none => none
      | some (false, ρ2) => if noCell ρ2 vs then lcLoop vs t c e ds acc (clr ρ2 vs) else none
      | some (true, ρ2) => match e ρ2 with
        | none => none
        | some (y, ρ3) => if noCell ρ3 vs && decide (acc.length < sizeLine) then lcLoop vs t c e ds (acc ++ [y]) (clr ρ3 vs) else none
def lcRun (vs : List Nat) (t : Tg) (c : Fb) (e : Fv) (ds : List D) (ρ1 : EnvD) : Option (Re × EnvD) :=
  if noCell ρ1 vs then match lcLoop vs t c e ds [] (clr ρ1 vs) with
    | some (acc, ρ2) => some (.new (.lst acc), back ρ1 (clr ρ2 vs) vs)
    | none => none
  else none
def yesF : Fb := fun ρ => some (true, ρ)
theorem ets_nil {X : Cx} : PTs X [] (tT X.K yesF) := ⟨fun pins s σ H Q I ⟨G, B, F, ρ, b, ρ', rp, ef, k⟩ => by
  cases ef
  exact (pts_nil (X := X)).run pins s σ H Q I (k F H (Ex.refl F) rp)⟩
theorem ets_one {X : Cx} {c : Expr} {p : Fb} (h : PT X c (tT X.K p)) : PTs X [c] (tT X.K p) := pts_one h
/-- what holds ahead of turn i -/
def LTurn (K : Frag) (G : Hp) (B : List (Nat × Addr)) (F : Hp) (vs : List Nat) (t : Tg) (c : Fb) (e : Fv) (ds : List D) (D0 : Addr) (σ : L2.St) (o : List D × EnvD) (i : Nat) (H : Hp) : Prop :=
  ∃ F1 ρ1 acc as, Ex F F1 ∧ Rep K (upd G D0 (.lst acc)) B F1 H (clr ρ1 vs) (wipe σ vs) ∧ Rs K F1 acc as ∧ lcLoop vs t c e (ds.drop i) as (clr ρ1 vs) = some o
section
variable {K : Frag} {G : Hp} {B : List (Nat × Addr)} {F F' H H' : Hp} {ρ ρ' ρ0 : EnvD} {σ σ' : L2.St} {vs : List Nat} {t : Tg} {c : Fb} {e : Fv} {ds : List D} {D0 : Addr} {o : List D × EnvD} {xs : List V}
theorem lturn_ok {i : Nat} {x : V} (rs : Rs K F xs ds) (ht : ∀ j, j ∈ t.ix → j ∈ vs) (hx : xs[i]? = some x) (q : LTurn K G B F vs t c e ds D0 σ o i H) :
    gT K t x (wipe σ vs) H fun σ2 H2 => wipe σ2 vs = wipe σ vs ∧ tT K c σ2 H2 fun b H3 =>
      if b = true then tV K e σ2 H3 fun y H4 => ∃ acc, H4 D0 = some (.lst acc) ∧ acc.length < sizeLine ∧ LTurn K G B F vs t c e ds D0 σ o (i + 1) (upd H4 D0 (.lst (acc ++ [y])))
      else LTurn K G B F vs t c e ds D0 σ o (i + 1) H3 := by
  obtain ⟨F1, ρ1, acc, as, e1, rp1, ra, q1⟩ := q
  obtain ⟨d, hd, hr⟩ := rs.getV hx
  obtain ⟨hl, hde⟩ := List.getElem?_eq_some_iff.mp hd
  rw [List.drop_eq_getElem_cons hl, hde] at q1
  unfold lcLoop at q1
  cases q2 : putT t d (clr ρ1 vs) with
  | none => rw [q2] at q1; cases q1
  | some ρ2 =>
    simp only [q2] at q1
    refine ⟨_, B, F1, clr ρ1 vs, d, ρ2, rp1, hr.mono e1, q2, fun σ2 s2 rp2 => ?_⟩
    have w2 : wipe σ2 vs = wipe σ vs := by rw [wipe_same s2 ht, wipe_wipe]
    refine ⟨w2, ?_⟩
    cases q3 : c ρ2 with
    | none => simp only [q3] at q1; cases q1
    | some y =>
      obtain ⟨b, ρ3⟩ := y
      simp only [q3] at q1
      refine ⟨_, B, F1, ρ2, b, ρ3, rp2, q3, fun F3 H3 e3 rp3 => ?_⟩
      cases b with
      | false =>
        refine iteF ?_
        have q1 : (if noCell ρ3 vs = true then lcLoop vs t c e (ds.drop (i + 1)) as (clr ρ3 vs) else none) = some o := q1
        split at q1
        · rename_i hn
          have rp4 := rp3.wipe hn
          rw [w2] at rp4
          exact ⟨F3, ρ3, acc, as, e1.trans e3, rp4, ra.mono e3, q1⟩
        · cases q1
      | true =>
        refine iteT ?_
        have q1 : (match e ρ3 with
          | none => none
          | some (y, ρ3) => if (noCell ρ3 vs && decide (as.length < sizeLine)) = true then lcLoop vs t c e (ds.drop (i + 1)) (as ++ [y]) (clr ρ3 vs) else none) = some o := q1
        cases q4 : e ρ3 with
        | none => rw [q4] at q1; cases q1
        | some y =>
          obtain ⟨y, ρ4⟩ := y
          rw [q4] at q1
          have q1 : (if (noCell ρ4 vs && decide (as.length < sizeLine)) = true then lcLoop vs t c e (ds.drop (i + 1)) (as ++ [y]) (clr ρ4 vs) else none) = some o := q1
          split at q1
          · rename_i hn
            obtain ⟨h1, h2⟩ := Bool.and_eq_true_iff.mp hn
            refine ⟨_, B, F3, ρ3, y, ρ4, rp3, q4, fun v F4 H4 e4 rp4 r4 => ?_⟩
            refine ⟨acc, rp4.exG D0 _ upd_same, by rw [ra.len]; exact of_decide_eq_true h2, ?_⟩
            have rp5 := (rp4.wipe h1).chG (o' := .lst (acc ++ [v]))
            rw [w2] at rp5
            exact ⟨F4, ρ4, acc ++ [v], as ++ [y], (e1.trans e3).trans e4, rp5, ((ra.mono e3).mono e4).app (Rs.one r4), q1⟩
          · cases q1
theorem lturn_start {ρ1 : EnvD} {D0 : Addr} (rp : Rep K G B F H ρ1 σ) (hn : noCell ρ1 vs = true) (hD : H D0 = none) (q : lcLoop vs t c e ds [] (clr ρ1 vs) = some o) : G D0 = none ∧ LTurn K G B F vs t c e ds D0 σ o 0 (upd H D0 (.lst [])) := by
  obtain ⟨a, b, g, d⟩ := rp.new (o := .lst []) hD
  refine ⟨g, F, ρ1, [], [], Ex.refl F, ?_, .nil, q⟩
  have r2 := a.wipe hn
  refine r2.inG upd_same b g fun i e' h z => ?_
  have hi : i ∉ vs := fun hi => by
    have z2 := wipe_in hi z
    cases z2
  rw [wipe_out hi] at z
  refine d i e' ?_ z
  unfold cellOf at h ⊢
  rw [clr_out hi] at h
  exact h
theorem lturn_end {acc : List D} {ρ1 ρ2 : EnvD} {r : Re} (rs : Rs K F xs ds) (rp : Rep K G B F H ρ1 σ) (hn : noCell ρ1 vs = true) (hG : G D0 = none) (q : LTurn K G B F vs t c e ds D0 σ (acc, ρ2) xs.length H') : ∃ F', Ex F F' ∧ Rep K G B F' H' (back ρ1 (clr ρ2 vs) vs) σ ∧ RRe K G F' H' (back ρ1 (clr ρ2 vs) vs) σ (.ref D0) (.new (.lst acc)) := by
  obtain ⟨F1, ρ3, as, bs, e1, rp1, ra, q1⟩ := q
  rw [rs.len, List.drop_length] at q1
  cases q1
  have cc : clr (clr ρ3 vs) vs = clr ρ3 vs := by
    apply List.ext_getElem?
    intro i
    by_cases hi : i ∈ vs
    · have l1 : (clr (clr ρ3 vs) vs).length = (clr ρ3 vs).length := clr_length _ _
      cases e1 : (clr (clr ρ3 vs) vs)[i]? with
      | none =>
        rw [List.getElem?_eq_none_iff] at e1
        rw [eq_comm, List.getElem?_eq_none_iff]
        omega
      | some x =>
        cases e2 : (clr ρ3 vs)[i]? with
        | none =>
          rw [List.getElem?_eq_none_iff] at e2
          have := (List.getElem?_eq_some_iff.mp e1).1
          omega
        | some y => rw [clr_in hi e1, clr_in hi e2]
    · rw [clr_out hi]
  rw [cc]
  obtain ⟨r1, r2, r3, r4⟩ := rp1.outG hG
  have r5 := Rep.unwipe rp hn e1 r1
  refine ⟨F1, e1, r5, D0, rfl, r2, hG, ⟨as, r3, ra⟩, fun i e' h z => ?_⟩
  by_cases hi : i ∈ vs
  · have hl := cell_lt h
    rw [back_length] at hl
    have zz := noCell_of hn hi
    unfold cellOf at h zz
    rw [back_in hi hl (by rw [rp.len, r1.len, wipe_length])] at h
    rw [zz] at h
    cases h
  · refine r4 i e' ?_ (by rw [wipe_out hi]; exact z)
    unfold cellOf at h ⊢
    rw [back_out hi] at h
    exact h
end
def lcE (vs : List Nat) (t : Tg) (it : Fv) (c : Fb) (e : Fv) : Fe := fun ρ => match it ρ with
  | some (d, ρ1) => (match itemsOf d with
    | some ds => lcRun vs t c e ds ρ1
    | none => none)
  | none => none
theorem lcRun_inv {vs : List Nat} {t : Tg} {c : Fb} {e : Fv} {ds : List D} {ρ1 ρ' : EnvD} {r : Re} (h : lcRun vs t c e ds ρ1 = some (r, ρ')) : noCell ρ1 vs = true ∧ ∃ acc ρ2, lcLoop vs t c e ds [] (clr ρ1 vs) = some (acc, ρ2) ∧ r = .new (.lst acc) ∧ ρ' = back ρ1 (clr ρ2 vs) vs := by
  unfold lcRun at h
  split at h
  · rename_i hn
    split at h
    · rename_i acc ρ2 q
      cases h
      exact ⟨hn, acc, ρ2, q, rfl, rfl⟩
    · cases h
  · cases h
section
variable {X : Cx} {a : Expr} {f1 : Fv}
theorem wk_lc {own : List Nat} {t : Tg} {fc : Fb} {fe : Fv} (ht : ∀ j, j ∈ t.ix → j ∈ own) (σ : L2.St) (H : Hp) (Q : VK) (h : tE X.K (lcE own t f1 fc fe) σ H Q) :
    tLc (fun σ H R => iList X.K (tV X.K f1) σ H R ∨ iTup X.K (tV X.K f1) σ H R) (gT X.K t) (tT X.K fc) (tV X.K fe) own σ H Q := by
  obtain ⟨G, B, F, ρ, r, ρ', rp, ef, z⟩ := h
  unfold lcE at ef
  cases q1 : f1 ρ with
  | none => rw [q1] at ef; cases ef
  | some y1 =>
    obtain ⟨d, ρ1⟩ := y1
    rw [q1] at ef
    have ef : (match itemsOf d with
      | some ds => lcRun own t fc fe ds ρ1
      | none => none) = some (r, ρ') := ef
    cases d with
    | tup ds =>
      obtain ⟨hn, acc, ρ2, q3, rfl, rfl⟩ := lcRun_inv ef
      refine .inr ⟨G, B, F, ρ, _, ρ1, rp, q1, fun v F1 H1 e1 rp1 r1 => ?_⟩
      cases r1 with
      | @tup p xs _ sq rs =>
        refine ⟨p, rfl, ⟨xs, rp1.exF.seqT sq⟩, fun D0 hD => ?_⟩
        obtain ⟨hG, st⟩ := lturn_start rp1 hn hD q3
        refine lc_tup (xs := xs) (LTurn X.K G B F1 own t fc fe ds D0 σ (acc, ρ2)) st (fun i H _ q => ?_) (fun i x H hx q => lturn_ok rs ht hx q) (fun H q => ?_)
        · obtain ⟨F2, ρ2, _, _, e2, rp2, _, _⟩ := q
          exact rp2.exF.seqT (e2.seqT sq)
        · obtain ⟨F2, e2, rp2, rr⟩ := lturn_end (r := .val .non) rs rp1 hn hG q
          exact z _ F2 H (e1.trans e2) rp2 rr
    | lst ds =>
      obtain ⟨hn, acc, ρ2, q3, rfl, rfl⟩ := lcRun_inv ef
      refine .inl ⟨G, B, F, ρ, _, ρ1, rp, q1, fun v F1 H1 e1 rp1 r1 => ?_⟩
      cases r1 with
      | @lst p xs _ sq rs =>
        refine ⟨p, rfl, ⟨xs, SqL.of (rp1.exF _ _ sq)⟩, fun D0 hD => ?_⟩
        obtain ⟨hG, st⟩ := lturn_start rp1 hn hD q3
        refine lc_list (xs := xs) (LTurn X.K G B F1 own t fc fe ds D0 σ (acc, ρ2)) st (fun i H _ q => ?_) (fun i x H hx q => lturn_ok rs ht hx q) (fun H q => ?_)
        · obtain ⟨F2, ρ2, _, _, e2, rp2, _, _⟩ := q
          exact SqL.of (rp2.exF _ _ (e2 _ _ sq))
        · obtain ⟨F2, e2, rp2, rr⟩ := lturn_end (r := .val .non) rs rp1 hn hG q
          exact z _ F2 H (e1.trans e2) rp2 rr
    | rol ds =>
      obtain ⟨hn, acc, ρ2, q3, rfl, rfl⟩ := lcRun_inv ef
      refine .inl ⟨G, B, F, ρ, _, ρ1, rp, q1, fun v F1 H1 e1 rp1 r1 => ?_⟩
      cases r1 with
      | @rol p xs _ sq rs =>
        refine ⟨p, rfl, ⟨xs, rp1.exF.seqL sq⟩, fun D0 hD => ?_⟩
        obtain ⟨hG, st⟩ := lturn_start rp1 hn hD q3
        refine lc_list (xs := xs) (LTurn X.K G B F1 own t fc fe ds D0 σ (acc, ρ2)) st (fun i H _ q => ?_) (fun i x H hx q => lturn_ok rs ht hx q) (fun H q => ?_)
        · obtain ⟨F2, ρ2, _, _, e2, rp2, _, _⟩ := q
          exact rp2.exF.seqL (e2.seqL sq)
        · obtain ⟨F2, e2, rp2, rr⟩ := lturn_end (r := .val .non) rs rp1 hn hG q
          exact z _ F2 H (e1.trans e2) rp2 rr
    | _ => cases ef
end
end Ev
/-! Ev7 -/
namespace Ev
open PySem PySem.Spec PyProof.Rows L2
/-- an argument: a value, or a place whose list or dict the def may change -/
inductive AD where
  | v (d : D) | r (i : Nat)
abbrev Fa := EnvD → Option (List AD × EnvD)
def ARel (K : Frag) (F : Hp) (σ : L2.St) (v : V) : AD → Prop
  | .v d => R K F v d
  | .r i => σ[i]? = some (some v)
inductive ARels (K : Frag) (F : Hp) (σ : L2.St) : List V → List AD → Prop
  | nil : ARels K F σ [] []
  | cons {v : V} {a : AD} {vs : List V} {as : List AD} (h : ARel K F σ v a) (t : ARels K F σ vs as) : ARels K F σ (v :: vs) (a :: as)
section
variable {K : Frag} {F F' : Hp} {σ : L2.St}
theorem ARel.mono {v : V} {a : AD} (e : Ex F F') (h : ARel K F σ v a) : ARel K F' σ v a := by
  cases a with
  | v d => exact R.mono e h
  | r i => exact h
theorem ARels.mono {vs : List V} {as : List AD} (e : Ex F F') (h : ARels K F σ vs as) : ARels K F' σ vs as := by
  induction h with
  | nil => exact .nil
  | cons h t ih => exact .cons (h.mono e) ih
theorem ARels.len {vs : List V} {as : List AD} (h : ARels K F σ vs as) : vs.length = as.length := by
  induction h with
  | nil => rfl
  | cons h t ih => exact congrArg (· + 1) ih
theorem ARels.get {vs : List V} {as : List AD} {i : Nat} {a : AD} (h : ARels K F σ vs as) (e : as[i]? = some a) : ∃ v, vs[i]? = some v ∧ ARel K F σ v a := by
  induction h generalizing i with
  | nil => simp at e
  | cons h t ih =>
    cases i with
    | zero =>
      rw [List.getElem?_cons_zero] at e
      cases e
      exact ⟨_, rfl, h⟩
    | succ i =>
      rw [List.getElem?_cons_succ] at e
      obtain ⟨v, a, b⟩ := ih e
      exact ⟨v, by rw [List.getElem?_cons_succ]; exact a, b⟩
theorem ARels.app {vs ws : List V} {as bs : List AD} (h : ARels K F σ vs as) (k : ARels K F σ ws bs) : ARels K F σ (vs ++ ws) (as ++ bs) := by
  induction h with
  | nil => exact k
  | cons h t ih => exact .cons h ih
theorem ARels.vals : ∀ {vs : List V} {ds : List D}, Rs K F vs ds → ARels K F σ vs (ds.map AD.v)
  | _, _, .nil => .nil
  | _, _, .cons h t => .cons h (ARels.vals t)
end
def tA (K : Frag) (f : Fa) : TA := fun σ H Q => ∃ G B F ρ as ρ', Rep K G B F H ρ σ ∧ f ρ = some (as, ρ') ∧ ∀ vs F' H', Ex F F' → Rep K G B F' H' ρ' σ → ARels K F' σ vs as → Q vs H'
def anilF : Fa := fun ρ => some ([], ρ)
def avF (f : Fv) (g : Fa) : Fa := fun ρ => match f ρ with
  | some (d, ρ1) => (match g ρ1 with
    | some (as, ρ2) => some (.v d :: as, ρ2)
    | none => none)
  | none => none
def arF (i : Nat) (g : Fa) : Fa := fun ρ => match ρ[i]? with
  | some .none => none
  | none => none
  | some _ => (match g ρ with
    | some (as, ρ2) => some (.r i :: as, ρ2)
    | none => none)
section
variable {X : Cx} {a b : Expr} {f1 : Fv} {pos : Pos}
theorem aa_nil : PA X [] (tA X.K anilF) := PA.weak pa_nil fun σ H Q ⟨G, B, F, ρ, ds, ρ', rp, ef, z⟩ => by
  cases ef
  exact z [] F H (Ex.refl F) rp .nil
theorem aa_consV {es : List Expr} {g : Fa} (ha : PE X a (tV X.K f1)) (hb : PA X es (tA X.K g)) (hs : starEach (a :: es) X.env = (false, eval a X.env) :: starEach es X.env) : PA X (a :: es) (tA X.K (avF f1 g)) :=
  PA.weak (pa_cons ha hb hs) fun σ H Q ⟨G, B, F, ρ, ds, ρ', rp, ef, z⟩ => by
    unfold avF at ef
    cases q1 : f1 ρ with
    | none => rw [q1] at ef; cases ef
    | some x1 =>
      obtain ⟨d, ρ1⟩ := x1
      rw [q1] at ef
      cases q2 : g ρ1 with
      | none => simp only [q2] at ef; cases ef
      | some x2 =>
        obtain ⟨es', ρ2⟩ := x2
        simp only [q2] at ef
        cases ef
        refine ⟨G, B, F, ρ, d, ρ1, rp, q1, fun v F1 H1 e1 rp1 r1 => ?_⟩
        exact ⟨G, B, F1, ρ1, es', ρ', rp1, q2, fun vs F2 H2 e2 rp2 r2 => z (v :: vs) F2 H2 (e1.trans e2) rp2 (.cons (R.mono e2 r1) r2)⟩
theorem Rep.there {K : Frag} {G : Hp} {B : List (Nat × Addr)} {F H : Hp} {ρ : EnvD} {σ : L2.St} (p : Rep K G B F H ρ σ) {i : Nat} {s : Sl} (h : ρ[i]? = some s) (hs : s ≠ .none) : ∃ v, σ[i]? = some (some v) := by
  cases s with
  | none => exact absurd rfl hs
  | val d => obtain ⟨v, a, _⟩ := p.val i d h; exact ⟨v, a⟩
  | own d => obtain ⟨l, a, _⟩ := p.own i d (cell_own h); exact ⟨_, a⟩
  | ref d => obtain ⟨l, a, _⟩ := p.own i d (cell_ref h); exact ⟨_, a⟩
theorem aa_consR {es : List Expr} {g : Fa} {x : Str} {pos' : Pos} {i : Nat} (hN : X.N[i]? = some x) (hv : Vis X.env.scope x) (hd : (x == ("__debug__" : Str)) = false) (hc : (x == ("__classdict__" : Str)) = false) (hb : PA X es (tA X.K g)) (hs : starEach (.Name x pos' :: es) X.env = (false, eval (.Name x pos') X.env) :: starEach es X.env) : PA X (.Name x pos' :: es) (tA X.K (arF i g)) :=
  PA.weak (pa_cons (pe_var (i := i) hN hv hd hc) hb hs) fun σ H Q ⟨G, B, F, ρ, ds, ρ', rp, ef, z⟩ => by
    unfold arF at ef
    cases q1 : ρ[i]? with
    | none => rw [q1] at ef; cases ef
    | some s =>
      rw [q1] at ef
      have ef : s ≠ .none ∧ (match g ρ with
        | some (as, ρ2) => some (AD.r i :: as, ρ2)
        | none => none) = some (ds, ρ') := by
        cases s with
        | none => cases ef
        | val d => exact ⟨(fun h => nomatch h), ef⟩
        | own d => exact ⟨(fun h => nomatch h), ef⟩
        | ref d => exact ⟨(fun h => nomatch h), ef⟩
      obtain ⟨hs, ef⟩ := ef
      obtain ⟨v, hv⟩ := rp.there q1 hs
      cases q2 : g ρ with
      | none => simp only [q2] at ef; cases ef
      | some x2 =>
        obtain ⟨es', ρ2⟩ := x2
        simp only [q2] at ef
        cases ef
        exact ⟨v, hv, G, B, F, ρ, es', ρ', rp, q2, fun vs F2 H2 e2 rp2 r2 => z (v :: vs) F2 H2 e2 rp2 (.cons hv r2)⟩
end
def inE (ms : List Bool) (ds : List D) : EnvD := List.zipWith (fun m d => if m = true then Sl.ref d else Sl.val d) ms ds
theorem inE_get {ms : List Bool} {ds : List D} {i : Nat} : (inE ms ds)[i]? = match ms[i]?, ds[i]? with
    | some true, some d => some (.ref d)
    | some false, some d => some (.val d)
    | _, _ => none := by
  unfold inE
  rw [List.getElem?_zipWith]
  cases ms[i]? with
  | none => rfl
  | some m =>
    cases ds[i]? with
    | none => cases m <;> rfl
    | some d => cases m <;> rfl
/-- what a def promises: f of the data handed in gives the answer and what the changed ones hold then -/
def spD (K : Frag) (ms : List Bool) (f : List D → Option (Re × List D)) : Sp := fun vs H Q E => ∃ G B F ds r ds', ds.length = ms.length ∧ Rep K G B F H (inE ms ds) (vs.map some) ∧ f ds = some (r, ds') ∧
  (∀ i, ms[i]? = some true → ∃ l, (i, l) ∈ B) ∧
  ∀ v F' H', Ex F F' → Rep K G B F' H' (inE ms ds') (vs.map some) → RRe K G F' H' (inE ms ds') (vs.map some) v r → Q v H'
/-- the changed ones behind -/
def outs : List Bool → List D → EnvD → Option (List D)
  | [], [], _ => some []
  | true :: ms, _ :: ds, .ref d :: ρ => (outs ms ds ρ).map (d :: ·)
  | false :: ms, d :: ds, _ :: ρ => (outs ms ds ρ).map (d :: ·)
  | _, _, _ => none
theorem outs_len {ms : List Bool} : ∀ {ds ds' : List D} {ρ : EnvD}, outs ms ds ρ = some ds' → ds'.length = ms.length ∧ ds.length = ms.length := by
  induction ms with
  | nil => intro ds ds' ρ h; cases ds with
    | nil => cases h; exact ⟨rfl, rfl⟩
    | cons _ _ => cases h
  | cons m ms ih =>
    intro ds ds' ρ h
    cases ds with
    | nil => cases m <;> cases h
    | cons d ds =>
      cases ρ with
      | nil => cases m <;> cases h
      | cons s ρ =>
        cases m with
        | true =>
          cases s <;> try cases h
          obtain ⟨x, a, b⟩ := Option.map_eq_some_iff.mp h
          subst b
          obtain ⟨a1, a2⟩ := ih a
          exact ⟨congrArg (· + 1) a1, congrArg (· + 1) a2⟩
        | false =>
          have h : (outs ms ds ρ).map (d :: ·) = some ds' := h
          obtain ⟨x, a, b⟩ := Option.map_eq_some_iff.mp h
          subst b
          obtain ⟨a1, a2⟩ := ih a
          exact ⟨congrArg (· + 1) a1, congrArg (· + 1) a2⟩
theorem outs_get {ms : List Bool} : ∀ {ds ds' : List D} {ρ : EnvD} {i : Nat}, outs ms ds ρ = some ds' → (ms[i]? = some true → ∃ d, ρ[i]? = some (.ref d) ∧ ds'[i]? = some d) ∧ (ms[i]? = some false → ds'[i]? = ds[i]?) := by
  induction ms with
  | nil => intro ds ds' ρ i h; exact ⟨fun h => by simp at h, fun h => by simp at h⟩
  | cons m ms ih =>
    intro ds ds' ρ i h
    cases ds with
    | nil => cases m <;> cases h
    | cons d ds =>
      cases ρ with
      | nil => cases m <;> cases h
      | cons s ρ =>
        cases m with
        | true =>
          cases s <;> try cases h
          obtain ⟨x, a, b⟩ := Option.map_eq_some_iff.mp h
          subst b
          cases i with
          | zero => exact ⟨fun _ => ⟨_, rfl, rfl⟩, fun h => by cases h⟩
          | succ i => exact ih a
        | false =>
          have h : (outs ms ds ρ).map (d :: ·) = some ds' := h
          obtain ⟨x, a, b⟩ := Option.map_eq_some_iff.mp h
          subst b
          cases i with
          | zero => exact ⟨(fun h => by cases h), fun _ => rfl⟩
          | succ i => exact ih a
/-- a def by its body -/
def bodyF (ms : List Bool) (k : Nat) (fb : Fs) : List D → Option (Re × List D) := fun ds => match fb (inE ms ds ++ List.replicate k .none) with
  | some (.rt r ρ') => (outs ms ds ρ').map fun ds' => (r, ds')
  | some (.nx ρ') => (outs ms ds ρ').map fun ds' => (.val .non, ds')
  | _ => none
section
variable {K : Frag} {G : Hp} {B : List (Nat × Addr)} {F F' H H' : Hp} {ρ ρ' ρ0 : EnvD} {σ σ' : L2.St}
theorem app_get {α : Type} {l m : List α} {i : Nat} (h : i < l.length) : (l ++ m)[i]? = l[i]? := by
  rw [List.getElem?_append_left h]
theorem rep_get {α : Type} {x y : α} {k i : Nat} (h : (List.replicate k x)[i]? = some y) : y = x := by
  rw [List.getElem?_replicate] at h
  split at h
  · cases h; rfl
  · cases h
/-- places more -/
theorem Rep.ext (p : Rep K G B F H ρ σ) (k : Nat) : Rep K G B F H (ρ ++ List.replicate k .none) (σ ++ List.replicate k none) := by
  have gg : ∀ i s, (ρ ++ List.replicate k Sl.none)[i]? = some s → s ≠ .none → i < ρ.length := fun i s h hs => by
    by_cases z : i < ρ.length
    · exact z
    · rw [List.getElem?_append_right (by omega)] at h
      exact absurd (rep_get h) hs
  have cc : ∀ i d, cellOf (ρ ++ List.replicate k Sl.none) i = some d → i < ρ.length ∧ cellOf ρ i = some d := fun i d h => by
    have hl : i < ρ.length := by
      unfold cellOf at h
      cases q : (ρ ++ List.replicate k Sl.none)[i]? with
      | none => rw [q] at h; cases h
      | some s => exact gg i s q fun z => by rw [q, z] at h; cases h
    refine ⟨hl, ?_⟩
    unfold cellOf at h ⊢
    rw [app_get hl] at h
    exact h
  refine ⟨by rw [List.length_append, List.length_append, List.length_replicate, List.length_replicate, p.len], p.exF, p.exG, p.dis, fun i d q => ?_, fun i d q => ?_, fun i j d e l q1 q2 s1 s2 => ?_, fun i l q => ?_⟩
  · have hl := gg i _ q (fun h => nomatch h)
    rw [app_get hl] at q
    rw [app_get (by rw [← p.len]; exact hl)]
    exact p.val i d q
  · obtain ⟨hl, q⟩ := cc i d q
    rw [app_get (by rw [← p.len]; exact hl)]
    exact p.own i d q
  · obtain ⟨h1, q1⟩ := cc i d q1
    obtain ⟨h2, q2⟩ := cc j e q2
    rw [app_get (by rw [← p.len]; exact h1)] at s1
    rw [app_get (by rw [← p.len]; exact h2)] at s2
    exact p.sep i j d e l q1 q2 s1 s2
  · obtain ⟨⟨d, a⟩, b⟩ := p.bor i l q
    have hl : i < ρ.length := (List.getElem?_eq_some_iff.mp a).1
    exact ⟨⟨d, by rw [app_get hl]; exact a⟩, by rw [app_get (by rw [← p.len]; exact hl)]; exact b⟩
/-- behind a def's body: the def's own names are gone -/
theorem Rep.leave {ms : List Bool} {ds ds' : List D} {vs : List V} (p0 : Rep K G B F H (inE ms ds) (vs.map some)) (hl : ds.length = ms.length) (hB : ∀ i, ms[i]? = some true → ∃ l, (i, l) ∈ B) (e : Ex F F') (p : Rep K G B F' H' ρ' σ') (ho : outs ms ds ρ' = some ds') :
    Rep K G B F' H' (inE ms ds') (vs.map some) ∧ ∀ (v : V) (r : Re), RRe K G F' H' ρ' σ' v r → RRe K G F' H' (inE ms ds') (vs.map some) v r := by
  obtain ⟨hl', _⟩ := outs_len ho
  have len0 : (inE ms ds').length = (inE ms ds).length := by unfold inE; rw [List.length_zipWith, List.length_zipWith, hl', hl]
  -- a cell of the def's, seen from within
  have cel : ∀ i d, cellOf (inE ms ds') i = some d → ∃ l, (vs.map some)[i]? = some (some (.ref l)) ∧ cellOf ρ' i = some d ∧ σ'[i]? = some (some (.ref l)) := fun i d h => by
    unfold cellOf at h
    rw [inE_get] at h
    cases q1 : ms[i]? with
    | none => rw [q1] at h; cases h
    | some m =>
      cases q2 : ds'[i]? with
      | none => rw [q1, q2] at h; cases m <;> cases h
      | some d2 =>
        rw [q1, q2] at h
        cases m with
        | false => cases h
        | true =>
          cases h
          obtain ⟨l, hl⟩ := hB i q1
          obtain ⟨d3, a, b⟩ := (outs_get ho).1 q1
          rw [q2] at b
          cases b
          exact ⟨l, (p0.bor i l hl).2, cell_ref a, (p.bor i l hl).2⟩
  refine ⟨⟨by rw [len0]; exact p0.len, p.exF, p.exG, p.dis, fun i d q => ?_, fun i d q => ?_, fun i j d e l q1 q2 s1 s2 => ?_, fun i l q => ?_⟩, fun v r q => ?_⟩
  · rw [inE_get] at q
    cases q1 : ms[i]? with
    | none => rw [q1] at q; cases q
    | some m =>
      cases q2 : ds'[i]? with
      | none => rw [q1, q2] at q; cases m <;> cases q
      | some d2 =>
        rw [q1, q2] at q
        cases m with
        | true => cases q
        | false =>
          cases q
          have e2 := (outs_get (i := i) ho).2 q1
          rw [q2] at e2
          obtain ⟨v, a, b⟩ := p0.val i d (by rw [inE_get, q1, ← e2])
          exact ⟨v, a, b.mono e⟩
  · obtain ⟨l, a, b, c⟩ := cel i d q
    obtain ⟨l2, a2, b2, c2, d2⟩ := p.own i d b
    rw [c] at a2
    cases a2
    exact ⟨l, a, b2, c2, d2⟩
  · obtain ⟨l1, a1, b1, c1⟩ := cel i d q1
    obtain ⟨l2, a2, b2, c2⟩ := cel j e q2
    rw [a1] at s1
    cases s1
    rw [a2] at s2
    cases s2
    exact p.sep i j d e l b1 b2 c1 c2
  · obtain ⟨⟨d, a⟩, b⟩ := p0.bor i l q
    refine ⟨?_, b⟩
    rw [inE_get] at a
    cases q1 : ms[i]? with
    | none => rw [q1] at a; cases a
    | some m =>
      cases m with
      | false => rw [q1] at a; cases z : ds[i]? <;> rw [z] at a <;> cases a
      | true =>
        obtain ⟨d3, _, b3⟩ := (outs_get (i := i) ho).1 q1
        exact ⟨d3, by rw [inE_get, q1, b3]⟩
  · cases r with
    | val d => exact q
    | new d =>
      obtain ⟨l, a1, a2, a3, a4, a5⟩ := q
      refine ⟨l, a1, a2, a3, a4, fun i e h z => ?_⟩
      obtain ⟨l2, b1, b2, b3⟩ := cel i e h
      rw [b1] at z
      cases z
      exact a5 i e b2 b3
end
/-- a def keeps its promise -/
theorem fn_of {P : Program} {w : World} {K : Frag} {mg : Str → Option Value} {base : Heap} {x qual : Str} {params : Arguments} {body : List Stmt} {scope : Scope} {dvs : List V} {kws : List (Str × V)} {f : Addr} {fd : FuncData} {CX : CXT} {N ps : List Str} {k : Nat} {ms : List Bool} {fb : Fs}
    (fu : FunD K x qual params body scope dvs kws f fd) (sc : FnScope N ps scope) (hm : ms.length = ps.length)
    (hb : ∀ (cdv : Value) (A : Around) (outer : List Env) (s : Shared) (H : Hp) (E : XK), Room k (A.deeper (PyProof.Rows.envOfC qual scope s.heap.objs.size f cdv)) → PSs (cxOf CX P w K mg base N qual scope f cdv A outer s H E) body (tS K fb)) :
    FnOk P w K mg base CX (k + 1) f fd ps (spD K ms (bodyF ms (N.length - ms.length) fb)) := by
  refine fu.ok sc (fun vs H Q E ⟨G, B, F, ds, r, ds', hl, rp, _, _, _⟩ => ?_) (fun cdv A outer s H vs Q E hr ⟨G, B, F, ds, r, ds', hl, rp, ef, hB, z⟩ => ⟨_, hb cdv A outer s H E hr, ?_⟩)
  · have := rp.len
    unfold inE at this
    rw [List.length_zipWith, List.length_map, hl, Nat.min_self] at this
    rw [← this, hm]
  · have hv : vs.length = ms.length := by
      have := rp.len
      unfold inE at this
      rw [List.length_zipWith, List.length_map, hl, Nat.min_self] at this
      exact this.symm
    have rp2 := rp.ext (N.length - ms.length)
    unfold bodyF at ef
    cases q : fb (inE ms ds ++ List.replicate (N.length - ms.length) .none) with
    | none => rw [q] at ef; cases ef
    | some o =>
      rw [q] at ef
      refine ⟨G, B, F, _, o, ?_, q, ?_⟩
      · unfold L2.start
        rw [hv]
        exact rp2
      · cases o with
        | rt r1 ρ1 =>
          obtain ⟨y, e1, e2⟩ := Option.map_eq_some_iff.mp ef
          cases e2
          intro σ v F' H' e rp3 rr
          obtain ⟨a, b⟩ := Rep.leave rp hl hB e rp3 e1
          exact z v F' H' e a (b v _ rr)
        | nx ρ1 =>
          obtain ⟨y, e1, e2⟩ := Option.map_eq_some_iff.mp ef
          cases e2
          intro σ F' H' e rp3
          obtain ⟨a, b⟩ := Rep.leave rp hl hB e rp3 e1
          exact z _ F' H' e a .non
        | bk ρ1 => cases ef
        | ct ρ1 => cases ef
end Ev
/-! Ev8 -/
namespace Ev
open PySem PySem.Spec PyProof.Rows L2
def AD.isR : AD → Bool
  | .v _ => false
  | .r _ => true
/-- what the def is handed, as data -/
def argD : List AD → EnvD → Option (List D)
  | [], _ => some []
  | .v d :: as, ρ => (argD as ρ).map (d :: ·)
  | .r i :: as, ρ => match cellOf ρ i, argD as ρ with
    | some d, some ds => some (d :: ds)
    | _, _ => none
def refsOf : List AD → List Nat
  | [] => []
  | .v _ :: as => refsOf as
  | .r i :: as => i :: refsOf as
/-- what the def left in place j -/
def refAt : List AD → List D → Nat → Option D
  | .r i :: as, d :: ds, j => if i = j then some d else refAt as ds j
  | .v _ :: as, _ :: ds, j => refAt as ds j
  | _, _, _ => none
def newSl (o : Option D) (s : Sl) : Sl := match o with
  | none => s
  | some d => match s with
    | .own _ => .own d
    | .ref _ => .ref d
    | s => s
def putBack (as : List AD) (ds : List D) (ρ : EnvD) : EnvD := ρ.mapIdx fun j s => newSl (refAt as ds j) s
def noDup : List Nat → Bool
  | [] => true
  | i :: is => !is.contains i && noDup is
def callE (ms : List Bool) (dds : List D) (f : List D → Option (Re × List D)) (args : Fa) : Fe := fun ρ => match args ρ with
  | some (as0, ρ1) => let as := as0 ++ dds.map AD.v
    if decide (as.map AD.isR = ms) && noDup (refsOf as) then match argD as ρ1 with
      | some ds => (match f ds with
        | some (r, ds') => if decide (ds'.length = ds.length) then some (r, putBack as ds' ρ1) else none
        | none => none)
      | none => none
    else none
  | none => none
theorem argD_len : ∀ {as : List AD} {ρ : EnvD} {ds : List D}, argD as ρ = some ds → ds.length = as.length
  | [], _, _, h => by cases h; rfl
  | .v d :: as, ρ, ds, h => by
    obtain ⟨x, a, b⟩ := Option.map_eq_some_iff.mp h
    subst b
    exact congrArg (· + 1) (argD_len a)
  | .r i :: as, ρ, ds, h => by
    unfold argD at h
    cases q1 : cellOf ρ i with
    | none => rw [q1] at h; cases h
    | some d =>
      cases q2 : argD as ρ with
      | none => rw [q1, q2] at h; cases h
      | some l =>
        rw [q1, q2] at h
        cases h
        exact congrArg (· + 1) (argD_len q2)
theorem argD_v : ∀ {as : List AD} {ρ : EnvD} {ds : List D} {i : Nat} {d : D}, argD as ρ = some ds → as[i]? = some (.v d) → ds[i]? = some d
  | [], _, _, _, _, _, e => by simp at e
  | .v d :: as, ρ, ds, i, d', h, e => by
    obtain ⟨x, a, b⟩ := Option.map_eq_some_iff.mp h
    subst b
    cases i with
    | zero => cases e; rfl
    | succ i => rw [List.getElem?_cons_succ]; exact argD_v (as := as) (i := i) a (by rw [List.getElem?_cons_succ] at e; exact e)
  | .r j :: as, ρ, ds, i, d', h, e => by
    unfold argD at h
    cases q1 : cellOf ρ j with
    | none => rw [q1] at h; cases h
    | some d =>
      cases q2 : argD as ρ with
      | none => rw [q1, q2] at h; cases h
      | some l =>
        rw [q1, q2] at h
        cases h
        cases i with
        | zero => cases e
        | succ i => rw [List.getElem?_cons_succ]; exact argD_v (as := as) (i := i) q2 (by rw [List.getElem?_cons_succ] at e; exact e)
theorem argD_r : ∀ {as : List AD} {ρ : EnvD} {ds : List D} {i j : Nat}, argD as ρ = some ds → as[i]? = some (.r j) → ∃ d, ds[i]? = some d ∧ cellOf ρ j = some d
  | [], _, _, _, _, _, e => by simp at e
  | .v d :: as, ρ, ds, i, d', h, e => by
    obtain ⟨x, a, b⟩ := Option.map_eq_some_iff.mp h
    subst b
    cases i with
    | zero => cases e
    | succ i => rw [List.getElem?_cons_succ]; exact argD_r (as := as) (i := i) a (by rw [List.getElem?_cons_succ] at e; exact e)
  | .r j :: as, ρ, ds, i, d', h, e => by
    unfold argD at h
    cases q1 : cellOf ρ j with
    | none => rw [q1] at h; cases h
    | some d =>
      cases q2 : argD as ρ with
      | none => rw [q1, q2] at h; cases h
      | some l =>
        rw [q1, q2] at h
        cases h
        cases i with
        | zero => cases e; exact ⟨d, rfl, q1⟩
        | succ i => rw [List.getElem?_cons_succ]; exact argD_r (as := as) (i := i) q2 (by rw [List.getElem?_cons_succ] at e; exact e)
theorem refs_mem : ∀ {as : List AD} {j : Nat}, j ∈ refsOf as ↔ ∃ i : Nat, as[i]? = some (AD.r j)
  | [], j => ⟨(fun h => nomatch h), fun ⟨i, h⟩ => by simp at h⟩
  | .v d :: as, j => by
    unfold refsOf
    rw [refs_mem (as := as)]
    constructor
    · rintro ⟨i, h⟩
      exact ⟨i + 1, h⟩
    · rintro ⟨i, h⟩
      cases i with
      | zero => cases h
      | succ i => exact ⟨i, h⟩
  | .r k :: as, j => by
    unfold refsOf
    rw [List.mem_cons, refs_mem (as := as)]
    constructor
    · rintro (h | ⟨i, h⟩)
      · subst h
        exact ⟨0, rfl⟩
      · exact ⟨i + 1, h⟩
    · rintro ⟨i, h⟩
      cases i with
      | zero => cases h; exact .inl rfl
      | succ i => exact .inr ⟨i, h⟩
theorem noDup_ix : ∀ {as : List AD} {i k j : Nat}, noDup (refsOf as) = true → as[i]? = some (.r j) → as[k]? = some (.r j) → i = k
  | [], _, _, _, _, e, _ => by simp at e
  | .v d :: as, i, k, j, h, e1, e2 => by
    cases i with
    | zero => cases e1
    | succ i =>
      cases k with
      | zero => cases e2
      | succ k => exact congrArg (· + 1) (noDup_ix (as := as) h e1 e2)
  | .r m :: as, i, k, j, h, e1, e2 => by
    have h : (!(refsOf as).contains m && noDup (refsOf as)) = true := h
    obtain ⟨h1, h2⟩ := Bool.and_eq_true_iff.mp h
    have nm : m ∉ refsOf as := fun z => by
      rw [List.contains_iff_mem.mpr z] at h1
      cases h1
    cases i with
    | zero =>
      cases k with
      | zero => rfl
      | succ k =>
        cases e1
        exact absurd (refs_mem.mpr ⟨k, e2⟩) nm
    | succ i =>
      cases k with
      | zero =>
        cases e2
        exact absurd (refs_mem.mpr ⟨i, e1⟩) nm
      | succ k => exact congrArg (· + 1) (noDup_ix (as := as) h2 e1 e2)
theorem refAt_some : ∀ {as : List AD} {ds : List D} {j : Nat} {d : D}, refAt as ds j = some d → ∃ i : Nat, as[i]? = some (AD.r j) ∧ ds[i]? = some d
  | [], ds, _, _, h => by cases ds <;> cases h
  | .v _ :: as, [], _, _, h => by cases h
  | .r _ :: as, [], _, _, h => by cases h
  | .v _ :: as, _ :: ds, j, d, h => by
    obtain ⟨i, a, b⟩ := refAt_some (as := as) (ds := ds) h
    exact ⟨i + 1, a, b⟩
  | .r m :: as, d' :: ds, j, d, h => by
    unfold refAt at h
    split at h
    · rename_i z
      cases h
      exact ⟨0, by rw [z]; rfl, rfl⟩
    · obtain ⟨i, a, b⟩ := refAt_some (as := as) (ds := ds) h
      exact ⟨i + 1, a, b⟩
theorem refAt_none : ∀ {as : List AD} {ds : List D} {j : Nat}, as.length = ds.length → refAt as ds j = none → j ∉ refsOf as
  | [], _, _, _, _ => fun h => nomatch h
  | .v _ :: as, [], _, h, _ => by cases h
  | .r _ :: as, [], _, h, _ => by cases h
  | .v _ :: as, _ :: ds, j, hl, h => refAt_none (as := as) (ds := ds) (Nat.succ.inj hl) h
  | .r m :: as, d' :: ds, j, hl, h => by
    unfold refAt at h
    split at h
    · cases h
    · rename_i z
      intro q
      cases q with
      | head => exact z rfl
      | tail _ q => exact refAt_none (as := as) (ds := ds) (Nat.succ.inj hl) h q
theorem put_get {as : List AD} {ds : List D} {ρ : EnvD} {j : Nat} : (putBack as ds ρ)[j]? = (ρ[j]?).map (newSl (refAt as ds j)) := by
  unfold putBack
  rw [List.getElem?_mapIdx]
theorem cell_put {as : List AD} {ds : List D} {ρ : EnvD} {j : Nat} {d : D} (h : cellOf (putBack as ds ρ) j = some d) : ∃ d0, cellOf ρ j = some d0 ∧ (refAt as ds j = some d ∨ refAt as ds j = none ∧ d0 = d) := by
  unfold cellOf at h ⊢
  rw [put_get] at h
  cases q : ρ[j]? with
  | none => rw [q] at h; cases h
  | some s =>
    rw [q] at h
    cases s with
    | none => cases q2 : refAt as ds j <;> rw [q2] at h <;> cases h
    | val _ => cases q2 : refAt as ds j <;> rw [q2] at h <;> cases h
    | own e =>
      refine ⟨e, rfl, ?_⟩
      cases q2 : refAt as ds j with
      | none => rw [q2] at h; cases h; exact .inr ⟨rfl, rfl⟩
      | some d2 => rw [q2] at h; cases h; exact .inl rfl
    | ref e =>
      refine ⟨e, rfl, ?_⟩
      cases q2 : refAt as ds j with
      | none => rw [q2] at h; cases h; exact .inr ⟨rfl, rfl⟩
      | some d2 => rw [q2] at h; cases h; exact .inl rfl
section
variable {K : Frag} {G : Hp} {B : List (Nat × Addr)} {F F' H H' : Hp} {ρ ρ' ρ0 : EnvD} {σ σ' : L2.St}
open Classical in
/-- the caller's own lists that are not handed on: nobody may touch them within -/
noncomputable def Gx (G H : Hp) (P : Addr → Prop) : Hp := fun a => if P a then H a else G a
theorem Gx_in {G H : Hp} {P : Addr → Prop} {a : Addr} (h : P a) : Gx G H P a = H a := if_pos h
theorem Gx_out {G H : Hp} {P : Addr → Prop} {a : Addr} (h : ¬P a) : Gx G H P a = G a := if_neg h
def Kept (ρ : EnvD) (σ : L2.St) (rs : List Nat) (a : Addr) : Prop := ∃ j d, cellOf ρ j = some d ∧ j ∉ rs ∧ σ[j]? = some (some (.ref a))
/-- the places handed in to be changed -/
def borOf (as : List AD) (vs : List V) : List (Nat × Addr) := (List.range as.length).filterMap fun (i : Nat) => match as[i]?, vs[i]? with
  | some (AD.r _), some (V.ref l) => some (i, l)
  | _, _ => none
theorem borOf_mem {as : List AD} {vs : List V} {i : Nat} {l : Addr} : (i, l) ∈ borOf as vs ↔ ∃ j, as[i]? = some (.r j) ∧ vs[i]? = some (.ref l) := by
  unfold borOf
  rw [List.mem_filterMap]
  constructor
  · rintro ⟨k, _, h⟩
    split at h
    · rename_i j l2 h1 h2
      cases h
      exact ⟨j, h1, h2⟩
    · cases h
  · rintro ⟨j, h1, h2⟩
    refine ⟨i, List.mem_range.mpr (List.getElem?_eq_some_iff.mp h1).1, ?_⟩
    rw [h1, h2]
theorem modes_get {as : List AD} {i : Nat} {b : Bool} (h : (as.map AD.isR)[i]? = some b) : (b = true ∧ ∃ j, as[i]? = some (.r j)) ∨ (b = false ∧ ∃ d, as[i]? = some (.v d)) := by
  rw [List.getElem?_map] at h
  cases q : as[i]? with
  | none => rw [q] at h; cases h
  | some a =>
    rw [q] at h
    cases a with
    | v d => cases h; exact .inr ⟨rfl, d, rfl⟩
    | r j => cases h; exact .inl ⟨rfl, j, rfl⟩
theorem inE_ref {as : List AD} {ds : List D} {i : Nat} {d : D} (h : cellOf (inE (as.map AD.isR) ds) i = some d) : ∃ j, as[i]? = some (.r j) ∧ ds[i]? = some d := by
  unfold cellOf at h
  rw [inE_get] at h
  cases q1 : (as.map AD.isR)[i]? with
  | none => rw [q1] at h; cases h
  | some m =>
    cases q2 : ds[i]? with
    | none => rw [q1, q2] at h; cases m <;> cases h
    | some d2 =>
      rw [q1, q2] at h
      rcases modes_get q1 with ⟨rfl, j, hj⟩ | ⟨rfl, _⟩
      · cases h; exact ⟨j, hj, rfl⟩
      · cases h
theorem inE_val {as : List AD} {ds : List D} {i : Nat} {d : D} (h : (inE (as.map AD.isR) ds)[i]? = some (.val d)) : ∃ d', as[i]? = some (.v d') ∧ ds[i]? = some d := by
  rw [inE_get] at h
  cases q1 : (as.map AD.isR)[i]? with
  | none => rw [q1] at h; cases h
  | some m =>
    cases q2 : ds[i]? with
    | none => rw [q1, q2] at h; cases m <;> cases h
    | some d2 =>
      rw [q1, q2] at h
      rcases modes_get q1 with ⟨rfl, _⟩ | ⟨rfl, d', hd⟩
      · cases h
      · cases h; exact ⟨d', hd, rfl⟩
/-- into the def -/
theorem Rep.enter {as : List AD} {ds : List D} {vs : List V} (p : Rep K G B F H ρ σ) (ra : ARels K F σ vs as) (ha : argD as ρ = some ds) (nd : noDup (refsOf as) = true) :
    Rep K (Gx G H (Kept ρ σ (refsOf as))) (borOf as vs) F H (inE (as.map AD.isR) ds) (vs.map some) := by
  have hl := argD_len ha
  have arg : ∀ i d, cellOf (inE (as.map AD.isR) ds) i = some d → ∃ j l, as[i]? = some (.r j) ∧ cellOf ρ j = some d ∧ σ[j]? = some (some (.ref l)) ∧ vs[i]? = some (.ref l) := fun i d h => by
    obtain ⟨j, hj, hd⟩ := inE_ref h
    obtain ⟨d2, e1, e2⟩ := argD_r ha hj
    rw [hd] at e1
    cases e1
    obtain ⟨l, a, _⟩ := p.own j d e2
    obtain ⟨v, b1, b2⟩ := ra.get hj
    have b2 : σ[j]? = some (some v) := b2
    rw [a] at b2
    cases b2
    exact ⟨j, l, hj, e2, a, b1⟩
  refine ⟨?_, p.exF, fun a o q => ?_, fun a o q => ?_, fun i d q => ?_, fun i d q => ?_, fun i j d e l q1 q2 s1 s2 => ?_, fun i l q => ?_⟩
  · unfold inE
    rw [List.length_zipWith, List.length_map, List.length_map, hl, Nat.min_self, ra.len]
  · by_cases z : Kept ρ σ (refsOf as) a
    · rw [Gx_in z] at q; exact q
    · rw [Gx_out z] at q; exact p.exG a o q
  · have z : ¬Kept ρ σ (refsOf as) a := fun ⟨j, d, c1, _, c2⟩ => by
      obtain ⟨l, a1, a2, _⟩ := p.own j d c1
      rw [c2] at a1
      cases a1
      rw [a2] at q
      cases q
    rw [Gx_out z]
    exact p.dis a o q
  · obtain ⟨d', h1, h2⟩ := inE_val q
    have := argD_v ha h1
    rw [h2] at this
    cases this
    obtain ⟨v, b1, b2⟩ := ra.get h1
    refine ⟨v, ?_, b2⟩
    rw [List.getElem?_map, b1]
    rfl
  · obtain ⟨j, l, h1, h2, h3, h4⟩ := arg i d q
    obtain ⟨l2, a1, a2, a3, a4⟩ := p.own j d h2
    rw [h3] at a1
    cases a1
    refine ⟨l, by rw [List.getElem?_map, h4]; rfl, a2, ?_, a4⟩
    have z : ¬Kept ρ σ (refsOf as) l := fun ⟨k, d', c1, c2, c3⟩ => by
      have := p.sep k j d' d l c1 h2 c3 h3
      subst this
      exact c2 (refs_mem.mpr ⟨i, h1⟩)
    rw [Gx_out z]
    exact a3
  · obtain ⟨k1, l1, a1, a2, a3, a4⟩ := arg i d q1
    obtain ⟨k2, l2, b1, b2, b3, b4⟩ := arg j e q2
    rw [List.getElem?_map, a4] at s1
    cases s1
    rw [List.getElem?_map, b4] at s2
    cases s2
    have := p.sep k1 k2 d e l a2 b2 a3 b3
    subst this
    exact noDup_ix nd a1 b1
  · obtain ⟨j, h1, h2⟩ := borOf_mem.mp q
    obtain ⟨d, e1, e2⟩ := argD_r ha h1
    refine ⟨⟨d, ?_⟩, by rw [List.getElem?_map, h2]; rfl⟩
    rw [inE_get, List.getElem?_map, h1, e1]
    rfl
/-- out of the def -/
theorem Rep.exit {as : List AD} {ds ds' : List D} {vs : List V} {v : V} {r : Re} (p : Rep K G B F H ρ σ) (ra : ARels K F σ vs as) (ha : argD as ρ = some ds) (nd : noDup (refsOf as) = true) (hl' : ds'.length = ds.length) (e : Ex F F')
    (q : Rep K (Gx G H (Kept ρ σ (refsOf as))) (borOf as vs) F' H' (inE (as.map AD.isR) ds') (vs.map some)) (rr : RRe K (Gx G H (Kept ρ σ (refsOf as))) F' H' (inE (as.map AD.isR) ds') (vs.map some) v r) :
    Rep K G B F' H' (putBack as ds' ρ) σ ∧ RRe K G F' H' (putBack as ds' ρ) σ v r := by
  have hl := argD_len ha
  have kin : ∀ a, Kept ρ σ (refsOf as) a → (∃ o, H a = some o) ∧ G a = none ∧ F a = none := fun a ⟨j, d, c1, c2, c3⟩ => by
    obtain ⟨l, a1, a2, a3, a4⟩ := p.own j d c1
    rw [c3] at a1
    cases a1
    exact ⟨a4.there, a3, a2⟩
  have gnone : ∀ a, Gx G H (Kept ρ σ (refsOf as)) a = none → G a = none ∧ ¬Kept ρ σ (refsOf as) a := fun a h => by
    by_cases z : Kept ρ σ (refsOf as) a
    · obtain ⟨⟨o, ho⟩, _⟩ := kin a z
      rw [Gx_in z, ho] at h
      cases h
    · rw [Gx_out z] at h
      exact ⟨h, z⟩
  -- a cell behind: its address, from within or kept
  have cel : ∀ j d, cellOf (putBack as ds' ρ) j = some d → ∃ d0 l, cellOf ρ j = some d0 ∧ σ[j]? = some (some (.ref l)) ∧ F' l = none ∧ G l = none ∧ Cell K F' H' l d ∧ (v = .ref l → (∃ d, r = .new d) → False) := fun j d h => by
    obtain ⟨d0, c0, hh⟩ := cell_put h
    obtain ⟨l, a1, a2, a3, a4⟩ := p.own j d0 c0
    rcases hh with h | ⟨hn, hde⟩
    · obtain ⟨i, h1, h2⟩ := refAt_some h
      obtain ⟨w, b1, b2⟩ := ra.get h1
      have b2 : σ[j]? = some (some w) := b2
      rw [a1] at b2
      cases b2
      have ci : cellOf (inE (as.map AD.isR) ds') i = some d := by
        unfold cellOf
        rw [inE_get, List.getElem?_map, h1, h2]
        rfl
      obtain ⟨l2, c1, c2, c3, c4⟩ := q.own i d ci
      rw [List.getElem?_map, b1] at c1
      cases c1
      refine ⟨d0, l, c0, a1, c2, a3, c4, fun hv ⟨d9, hr⟩ => ?_⟩
      subst hv hr
      obtain ⟨m, e1, _, _, _, ne⟩ := rr
      cases e1
      exact ne i d ci (by rw [List.getElem?_map, b1]; rfl)
    · have hk : Kept ρ σ (refsOf as) l := ⟨j, d0, c0, refAt_none (by rw [hl', hl]) hn, a1⟩
      subst hde
      obtain ⟨o, ho⟩ := a4.there
      have hH : H' l = H l := by rw [ho]; exact q.exG l o (by rw [Gx_in hk]; exact ho)
      refine ⟨d0, l, c0, a1, ?_, a3, a4.mono e hH, fun hv ⟨d9, hr⟩ => ?_⟩
      · cases z : F' l with
        | none => rfl
        | some o2 =>
          have := q.dis l o2 z
          rw [Gx_in hk, ho] at this
          cases this
      · subst hv hr
        obtain ⟨m, e1, _, g1, _, _⟩ := rr
        cases e1
        exact (gnone l g1).2 hk
  refine ⟨⟨?_, q.exF, fun a o h => ?_, fun a o h => (gnone a (q.dis a o h)).1, fun j d h => ?_, fun j d h => ?_, fun i j d e' l q1 q2 s1 s2 => ?_, fun j l h => ?_⟩, ?_⟩
  · unfold putBack
    rw [List.length_mapIdx]
    exact p.len
  · have z : ¬Kept ρ σ (refsOf as) a := fun z => by
      obtain ⟨_, g, _⟩ := kin a z
      rw [g] at h
      cases h
    exact q.exG a o (by rw [Gx_out z]; exact h)
  · have : ρ[j]? = some (.val d) := by
      rw [put_get] at h
      cases q2 : ρ[j]? with
      | none => rw [q2] at h; cases h
      | some s =>
        rw [q2] at h
        cases s with
        | val d2 => cases q3 : refAt as ds' j <;> rw [q3] at h <;> cases h <;> rfl
        | none => cases q3 : refAt as ds' j <;> rw [q3] at h <;> cases h
        | own d2 => cases q3 : refAt as ds' j <;> rw [q3] at h <;> cases h
        | ref d2 => cases q3 : refAt as ds' j <;> rw [q3] at h <;> cases h
    obtain ⟨w, a, b⟩ := p.val j d this
    exact ⟨w, a, b.mono e⟩
  · obtain ⟨d0, l, _, a, b, c, d1, _⟩ := cel j d h
    exact ⟨l, a, b, c, d1⟩
  · obtain ⟨d0, l1, c1, a1, _⟩ := cel i d q1
    obtain ⟨d2, l2, c2, a2, _⟩ := cel j e' q2
    exact p.sep i j d0 d2 l c1 c2 s1 s2
  · obtain ⟨⟨d, a⟩, b⟩ := p.bor j l h
    refine ⟨?_, b⟩
    rw [put_get, a]
    cases refAt as ds' j with
    | none => exact ⟨d, rfl⟩
    | some d2 => exact ⟨d2, rfl⟩
  · cases r with
    | val d => exact rr
    | new d =>
      obtain ⟨l, e1, a2, a3, a4, a5⟩ := rr
      refine ⟨l, e1, a2, (gnone l a3).1, a4, fun j e' h z => ?_⟩
      obtain ⟨d0, l2, _, a, _, _, _, ne⟩ := cel j e' h
      rw [z] at a
      cases a
      exact ne e1 ⟨d, rfl⟩
end
section
variable {X : Cx}
theorem callE_inv {ms : List Bool} {dds : List D} {f : List D → Option (Re × List D)} {args : Fa} {ρ ρ' : EnvD} {r : Re} (h : callE ms dds f args ρ = some (r, ρ')) :
    ∃ as0 ρ1 ds ds', args ρ = some (as0, ρ1) ∧ (as0 ++ dds.map AD.v).map AD.isR = ms ∧ noDup (refsOf (as0 ++ dds.map AD.v)) = true ∧ argD (as0 ++ dds.map AD.v) ρ1 = some ds ∧ f ds = some (r, ds') ∧ ds'.length = ds.length ∧ ρ' = putBack (as0 ++ dds.map AD.v) ds' ρ1 := by
  unfold callE at h
  cases q1 : args ρ with
  | none => rw [q1] at h; cases h
  | some y =>
    obtain ⟨as0, ρ1⟩ := y
    rw [q1] at h
    simp only at h
    split at h
    · rename_i hc
      obtain ⟨c1, c2⟩ := Bool.and_eq_true_iff.mp hc
      split at h
      · rename_i ds q2
        split at h
        · rename_i r2 ds' q3
          split at h
          · rename_i hl
            cases h
            exact ⟨as0, ρ1, ds, ds', rfl, of_decide_eq_true c1, c2, q2, q3, of_decide_eq_true hl, rfl⟩
          · cases h
        · cases h
      · cases h
    · cases h
theorem wk_call {ms : List Bool} {dvs : List V} {dds : List D} {f : List D → Option (Re × List D)} {args : Fa} {E : XK} (hd : ∀ F : Hp, Rs X.K F dvs dds) (σ : L2.St) (H : Hp) (Q : VK) (h : tE X.K (callE ms dds f args) σ H Q) : tCall (spD X.K ms f) dvs E (tA X.K args) σ H Q := by
  obtain ⟨G, B, F, ρ, r, ρ', rp, ef, z⟩ := h
  obtain ⟨as0, ρ1, ds, ds', q1, rfl, c2, q2, q3, hl, rfl⟩ := callE_inv ef
  refine ⟨G, B, F, ρ, as0, ρ1, rp, q1, fun vs F1 H1 e1 rp1 ra => ?_⟩
  have ra2 : ARels X.K F1 σ (vs ++ dvs) (as0 ++ dds.map AD.v) := ra.app (ARels.vals (hd F1))
  refine ⟨_, _, F1, ds, r, ds', ?_, rp1.enter ra2 q2 c2, q3, fun i hi => ?_, fun v F2 H2 e2 rp2 rr => ?_⟩
  · rw [argD_len q2, List.length_map]
  · rcases modes_get hi with ⟨_, j, hj⟩ | ⟨h, _⟩
    · obtain ⟨d, e3, e4⟩ := argD_r q2 hj
      obtain ⟨l, a1, _⟩ := rp1.own j d e4
      obtain ⟨w, b1, b2⟩ := ra2.get hj
      have b2 : σ[j]? = some (some w) := b2
      rw [a1] at b2
      cases b2
      exact ⟨l, borOf_mem.mpr ⟨j, hj, b1⟩⟩
    · cases h
  · obtain ⟨a, b⟩ := rp1.exit ra2 q2 c2 hl e2 rp2 rr
    exact z v F2 H2 (e1.trans e2) a b
end
end Ev
/-! Ev9 -/
namespace Ev
open PySem PySem.Spec PyProof.Rows L2
/-- one operand: a value, or a place that is only looked at -/
abbrev Fo := EnvD → Option (AD × EnvD)
def tO (K : Frag) (f : Fo) : TE := fun σ H Q => ∃ G B F ρ a ρ', Rep K G B F H ρ σ ∧ f ρ = some (a, ρ') ∧ ∀ v F' H', Ex F F' → Rep K G B F' H' ρ' σ → ARel K F' σ v a → Q v H'
def ovF (f : Fv) : Fo := fun ρ => (f ρ).map fun x => (.v x.1, x.2)
def orefF (i : Nat) : Fo := fun ρ => match ρ[i]? with
  | some .none => none
  | none => none
  | some _ => some (.r i, ρ)
section
variable {X : Cx} {a b : Expr} {f1 f2 : Fv} {pos : Pos}
theorem eo_val (h : PE X a (tV X.K f1)) : PE X a (tO X.K (ovF f1)) := PE.weak h fun σ H Q ⟨G, B, F, ρ, x, ρ', rp, ef, z⟩ => by
  unfold ovF at ef
  obtain ⟨y, e1, e2⟩ := Option.map_eq_some_iff.mp ef
  cases e2
  exact ⟨G, B, F, ρ, y.1, y.2, rp, e1, z⟩
theorem eo_var {x : Str} {i : Nat} (hN : X.N[i]? = some x) (hv : Vis X.env.scope x) (hd : (x == ("__debug__" : Str)) = false) (hc : (x == ("__classdict__" : Str)) = false) : PE X (.Name x pos) (tO X.K (orefF i)) :=
  PE.weak (pe_var (i := i) hN hv hd hc) fun σ H Q ⟨G, B, F, ρ, r, ρ', rp, ef, k⟩ => by
    unfold orefF at ef
    cases q : ρ[i]? with
    | none => rw [q] at ef; cases ef
    | some s =>
      rw [q] at ef
      have ef : s ≠ .none ∧ some (AD.r i, ρ) = some (r, ρ') := by
        cases s with
        | none => cases ef
        | val d => exact ⟨(fun h => nomatch h), ef⟩
        | own d => exact ⟨(fun h => nomatch h), ef⟩
        | ref d => exact ⟨(fun h => nomatch h), ef⟩
      obtain ⟨hs, ef⟩ := ef
      cases ef
      obtain ⟨v, hv⟩ := rp.there q hs
      exact ⟨v, hv, k v F H (Ex.refl F) rp hv⟩
/-- operands in a row -/
def aoF (f : Fo) (g : Fa) : Fa := fun ρ => match f ρ with
  | some (d, ρ1) => (match g ρ1 with
    | some (as, ρ2) => some (d :: as, ρ2)
    | none => none)
  | none => none
theorem aa_consO {es : List Expr} {f : Fo} {g : Fa} (ha : PE X a (tO X.K f)) (hb : PA X es (tA X.K g)) (hs : starEach (a :: es) X.env = (false, eval a X.env) :: starEach es X.env) : PA X (a :: es) (tA X.K (aoF f g)) :=
  PA.weak (pa_cons ha hb hs) fun σ H Q ⟨G, B, F, ρ, ds, ρ', rp, ef, z⟩ => by
    unfold aoF at ef
    cases q1 : f ρ with
    | none => rw [q1] at ef; cases ef
    | some x1 =>
      obtain ⟨d, ρ1⟩ := x1
      rw [q1] at ef
      cases q2 : g ρ1 with
      | none => simp only [q2] at ef; cases ef
      | some x2 =>
        obtain ⟨es', ρ2⟩ := x2
        simp only [q2] at ef
        cases ef
        refine ⟨G, B, F, ρ, d, ρ1, rp, q1, fun v F1 H1 e1 rp1 r1 => ?_⟩
        exact ⟨G, B, F1, ρ1, es', ρ', rp1, q2, fun vs F2 H2 e2 rp2 r2 => z (v :: vs) F2 H2 (e1.trans e2) rp2 (.cons (r1.mono e2) r2)⟩
end
/-- what an operand holds -/
def lookA (ρ : EnvD) : AD → Option D
  | .v d => some d
  | .r i => lookOf ρ i
def lookAs (ρ : EnvD) : List AD → Option (List D)
  | [] => some []
  | a :: as => match lookA ρ a, lookAs ρ as with
    | some d, some ds => some (d :: ds)
    | _, _ => none
inductive RLs (K : Frag) (F H : Hp) : List V → List D → Prop
  | nil : RLs K F H [] []
  | cons {v : V} {d : D} {vs : List V} {ds : List D} (h : RL K F H v d) (t : RLs K F H vs ds) : RLs K F H (v :: vs) (d :: ds)
section
variable {K : Frag} {G : Hp} {B : List (Nat × Addr)} {F F' H H' : Hp} {ρ ρ' : EnvD} {σ : L2.St}
theorem look_ok (p : Rep K G B F H ρ σ) {v : V} {a : AD} {d : D} (r : ARel K F σ v a) (h : lookA ρ a = some d) : RL K F H v d := by
  cases a with
  | v d2 => cases h; exact .inl r
  | r i =>
    obtain ⟨u, a1, a2⟩ := p.look h
    have r : σ[i]? = some (some v) := r
    rw [a1] at r
    cases r
    exact a2
theorem looks_ok (p : Rep K G B F H ρ σ) {vs : List V} {as : List AD} (r : ARels K F σ vs as) : ∀ {ds : List D}, lookAs ρ as = some ds → RLs K F H vs ds := by
  induction r with
  | nil => intro ds h; cases h; exact .nil
  | @cons v a vs as h t ih =>
    intro ds e
    unfold lookAs at e
    cases q1 : lookA ρ a with
    | none => rw [q1] at e; cases e
    | some d =>
      cases q2 : lookAs ρ as with
      | none => rw [q1, q2] at e; cases e
      | some l =>
        rw [q1, q2] at e
        cases e
        exact .cons (look_ok p h q1) (ih q2)
end
abbrev OpL := List D → Option Re
/-- what an operation on values does, told of data -/
def CbOk (K : Frag) (r : List V → Hp → VK → Prop) (g : OpL) : Prop := ∀ (G : Hp) (B : List (Nat × Addr)) (F H : Hp) (ρ : EnvD) (σ : L2.St) (vs : List V) (ds : List D) (z : Re) (Q : VK), Rep K G B F H ρ σ → RLs K F H vs ds → g ds = some z →
  (∀ w F' H', Ex F F' → Rep K G B F' H' ρ σ → RRe K G F' H' ρ σ w z → Q w H') → r vs H Q
def opLE (g : OpL) (f : Fa) : Fe := fun ρ => match f ρ with
  | some (as, ρ1) => (match lookAs ρ1 as with
    | some ds => (g ds).map fun r => (r, ρ1)
    | none => none)
  | none => none
theorem opLE_inv {g : OpL} {f : Fa} {ρ ρ' : EnvD} {z : Re} (h : opLE g f ρ = some (z, ρ')) : ∃ as ds, f ρ = some (as, ρ') ∧ lookAs ρ' as = some ds ∧ g ds = some z := by
  unfold opLE at h
  cases q1 : f ρ with
  | none => rw [q1] at h; cases h
  | some x1 =>
    obtain ⟨as, ρ1⟩ := x1
    rw [q1] at h
    have h : (match lookAs ρ1 as with
      | some ds => (g ds).map fun r => (r, ρ1)
      | none => none) = some (z, ρ') := h
    cases q2 : lookAs ρ1 as with
    | none => rw [q2] at h; cases h
    | some ds =>
      rw [q2] at h
      obtain ⟨r, e1, e2⟩ := Option.map_eq_some_iff.mp h
      cases e2
      exact ⟨as, ds, rfl, q2, e1⟩
theorem wk_cb {K : Frag} {r : List V → Hp → VK → Prop} {g : OpL} {f : Fa} (ok : CbOk K r g) (σ : L2.St) (H : Hp) (Q : VK) (h : tE K (opLE g f) σ H Q) : tCB r (tA K f) σ H Q := by
  obtain ⟨G, B, F, ρ, z, ρ', rp, ef, k⟩ := h
  obtain ⟨as, ds, q1, q2, q3⟩ := opLE_inv ef
  exact ⟨G, B, F, ρ, as, ρ', rp, q1, fun vs F1 H1 e1 rp1 ra => ok G B F1 H1 ρ' σ vs ds z Q rp1 (looks_ok rp1 ra q2) q3 fun w F2 H2 e2 rp2 rr => k w F2 H2 (e1.trans e2) rp2 rr⟩
theorem CbOk.or {K : Frag} {r r' : List V → Hp → VK → Prop} {g g' : OpL} (h : CbOk K r g) (h' : CbOk K r' g') : CbOk K (fun vs H Q => r vs H Q ∨ r' vs H Q) (fun ds => (g ds).or (g' ds)) := by
  intro G B F H ρ σ vs ds z Q rp rl e k
  have e : (g ds).or (g' ds) = some z := e
  cases q : g ds with
  | some z2 =>
    rw [q] at e
    cases e
    exact .inl (h G B F H ρ σ vs ds z Q rp rl q k)
  | none =>
    rw [q] at e
    exact .inr (h' G B F H ρ σ vs ds z Q rp rl e k)
theorem CallR.or {X : Cx} {f : Value} {r r' : List V → Hp → VK → Prop} (h : CallR X f r) (h' : CallR X f r') : CallR X f (fun vs H Q => r vs H Q ∨ r' vs H Q) := fun pins s σ H xs us Q I rx q => by
  rcases q with q | q
  · exact h pins s σ H xs us Q I rx q
  · exact h' pins s σ H xs us Q I rx q
theorem PE.cb {X : Cx} {e : Expr} {r : List V → Hp → VK → Prop} {g : OpL} {f : Fa} (h : PE X e (tCB r (tA X.K f))) (ok : CbOk X.K r g) : PE X e (tE X.K (opLE g f)) := PE.weak h fun σ H Q => wk_cb ok σ H Q
def gLen : OpL
  | [d] => match itemsOf d with
    | some l => some (.val (.int (l.length : Nat)))
    | none => none
  | _ => none
theorem gLen_ok {K : Frag} : CbOk K (fun xs H Q => ∃ p ys, xs = [V.ref p] ∧ (SqL K H p ys ∨ SqT K H p ys) ∧ Q (V.int ys.length) H) gLen := by
  intro G B F H ρ σ vs ds z Q rp rl e k
  cases rl with
  | nil => cases e
  | @cons v d vs ds h t =>
    cases t with
    | cons _ _ => cases e
    | nil =>
      have e : (match itemsOf d with
        | some l => some (Re.val (.int (l.length : Nat)))
        | none => none) = some z := e
      cases q : itemsOf d with
      | none => rw [q] at e; cases e
      | some l =>
        rw [q] at e
        cases e
        obtain ⟨p, xs, rfl, hs, rs⟩ := h.items rp.exF q
        refine ⟨p, xs, rfl, hs, k _ F H (Ex.refl F) rp ?_⟩
        rw [rs.len]
        exact .int _
def gLenS : OpL
  | [.str x] => if isLine x.length then some (.val (.int (x.length : Nat))) else none
  | _ => none
theorem RL.str {K : Frag} {F H : Hp} {v : V} {x : Str} (r : RL K F H v (.str x)) : v = .str x := by
  rcases r with r | ⟨l, _, c⟩
  · cases r; rfl
  · exact c.elim
theorem RL.int {K : Frag} {F H : Hp} {v : V} {x : Int} (r : RL K F H v (.int x)) : v = .int x := by
  rcases r with r | ⟨l, _, c⟩
  · cases r; rfl
  · exact c.elim
theorem RL.bl {K : Frag} {F H : Hp} {v : V} {x : Bool} (r : RL K F H v (.bl x)) : v = .bl x := by
  rcases r with r | ⟨l, _, c⟩
  · cases r; rfl
  · exact c.elim
theorem RLs.one {K : Frag} {F H : Hp} {vs : List V} {d : D} (r : RLs K F H vs [d]) : ∃ v, vs = [v] ∧ RL K F H v d := by
  cases r with
  | cons h t =>
    cases t
    exact ⟨_, rfl, h⟩
theorem RLs.two {K : Frag} {F H : Hp} {vs : List V} {d e : D} (r : RLs K F H vs [d, e]) : ∃ v u, vs = [v, u] ∧ RL K F H v d ∧ RL K F H u e := by
  cases r with
  | cons h t =>
    obtain ⟨u, rfl, h2⟩ := t.one
    exact ⟨_, _, rfl, h, h2⟩
theorem gLenS_ok {K : Frag} : CbOk K (fun xs H Q => ∃ z, xs = [V.str z] ∧ z.length ≤ sizeLine ∧ Q (V.int z.length) H) gLenS := by
  intro G B F H ρ σ vs ds z Q rp rl e k
  unfold gLenS at e
  split at e
  · rename_i x
    split at e
    · rename_i hl
      cases e
      obtain ⟨v, rfl, h⟩ := rl.one
      cases h.str
      exact ⟨x, rfl, of_decide_eq_true hl, k _ F H (Ex.refl F) rp (.int _)⟩
    · cases e
  · cases e
def gList : OpL
  | [d] => (itemsOf d).map fun l => .new (.lst l)
  | _ => none
theorem gList_ok {K : Frag} : CbOk K (fun xs H Q => ∃ p ys, xs = [V.ref p] ∧ (SqL K H p ys ∨ SqT K H p ys) ∧ ∀ l, H l = none → Q (V.ref l) (upd H l (.lst ys))) gList := by
  intro G B F H ρ σ vs ds z Q rp rl e k
  unfold gList at e
  split at e
  · rename_i d
    obtain ⟨l, q, rfl⟩ := Option.map_eq_some_iff.mp e
    obtain ⟨v, rfl, h⟩ := rl.one
    obtain ⟨p, xs, rfl, hs, rs⟩ := h.items rp.exF q
    refine ⟨p, xs, rfl, hs, fun l hl => ?_⟩
    obtain ⟨rp2, f, g, ne⟩ := rp.new (o := .lst xs) hl
    exact k _ F _ (Ex.refl F) rp2 ⟨l, rfl, f, g, ⟨_, upd_same, rs⟩, ne⟩
  · cases e
def gTuple : OpL
  | [d] => (itemsOf d).map fun l => .val (.tup l)
  | _ => none
theorem RL.lst {K : Frag} {F H : Hp} (e : Ex F H) {v : V} {l : List D} (r : RL K F H v (.lst l)) : ∃ p xs, v = .ref p ∧ H p = some (.lst xs) ∧ Rs K F xs l := by
  rcases r with r | ⟨p, rfl, c⟩
  · cases r with
    | lst h rs => exact ⟨_, _, rfl, e _ _ h, rs⟩
  · obtain ⟨xs, a, b⟩ := c
    exact ⟨p, xs, rfl, a, b⟩
theorem RL.rol {K : Frag} {F H : Hp} (e : Ex F H) {v : V} {l : List D} (r : RL K F H v (.rol l)) : ∃ p xs, v = .ref p ∧ SqL K H p xs ∧ Rs K F xs l := by
  rcases r with r | ⟨p, rfl, c⟩
  · cases r with
    | rol h rs => exact ⟨_, _, rfl, e.seqL h, rs⟩
  · exact c.elim
theorem RL.tup {K : Frag} {F H : Hp} (e : Ex F H) {v : V} {l : List D} (r : RL K F H v (.tup l)) : ∃ p xs, v = .ref p ∧ SqT K H p xs ∧ Rs K F xs l ∧ R K F v (.tup l) := by
  rcases r with r | ⟨p, rfl, c⟩
  · cases r with
    | tup h rs => exact ⟨_, _, rfl, e.seqT h, rs, .tup h rs⟩
  · exact c.elim
theorem gTuple_ok {K : Frag} : CbOk K (fun xs H Q => ∃ p ys, xs = [V.ref p] ∧ ((SqL K H p ys ∧ ∀ l, H l = none → Q (V.ref l) (upd H l (.tup ys))) ∨ SqT K H p ys ∧ Q (V.ref p) H)) gTuple := by
  intro G B F H ρ σ vs ds z Q rp rl e k
  unfold gTuple at e
  split at e
  · rename_i d
    obtain ⟨l, q, rfl⟩ := Option.map_eq_some_iff.mp e
    obtain ⟨v, rfl, h⟩ := rl.one
    have lst : ∀ p xs, v = .ref p → SqL K H p xs → Rs K F xs l → ∃ p ys, [v] = [V.ref p] ∧ ((SqL K H p ys ∧ ∀ l, H l = none → Q (V.ref l) (upd H l (.tup ys))) ∨ SqT K H p ys ∧ Q (V.ref p) H) := fun p xs hv hs rs => by
      subst hv
      refine ⟨p, xs, rfl, .inl ⟨hs, fun l hl => ?_⟩⟩
      obtain ⟨rp2, ex⟩ := rp.newF (o := .tup xs) hl
      exact k _ _ _ ex rp2 (.tup (SqT.of upd_same) (rs.mono ex))
    cases d with
    | tup l2 =>
      cases q
      obtain ⟨p, xs, rfl, sq, rs, rr⟩ := h.tup rp.exF
      exact ⟨p, xs, rfl, .inr ⟨sq, k _ F H (Ex.refl F) rp rr⟩⟩
    | lst l2 =>
      cases q
      obtain ⟨p, xs, e1, sq, rs⟩ := h.lst rp.exF
      exact lst p xs e1 (SqL.of sq) rs
    | rol l2 =>
      cases q
      obtain ⟨p, xs, e1, sq, rs⟩ := h.rol rp.exF
      exact lst p xs e1 sq rs
    | _ => cases q
  · cases e
def gInt : OpL
  | [.int i] => some (.val (.int i))
  | [.bl b] => some (.val (.int (if b = true then 1 else 0)))
  | _ => none
theorem gInt_ok {K : Frag} : CbOk K (fun xs H Q => (∃ i, xs = [.int i] ∧ Q (.int i) H) ∨ ∃ k, xs = [.bl k] ∧ Q (.int (if k = true then 1 else 0)) H) gInt := by
  intro G B F H ρ σ vs ds z Q rp rl e k
  unfold gInt at e
  split at e
  · rename_i i
    cases e
    obtain ⟨v, rfl, h⟩ := rl.one
    cases h.int
    exact .inl ⟨i, rfl, k _ F H (Ex.refl F) rp (.int _)⟩
  · rename_i b
    cases e
    obtain ⟨v, rfl, h⟩ := rl.one
    cases h.bl
    exact .inr ⟨b, rfl, k _ F H (Ex.refl F) rp (.int _)⟩
  · cases e
section
variable {X : Cx} {a b : Expr} {es : List Expr} {f : Fa} {fo : Fo} {f1 f2 : Fv} {pos p : Pos}
/-- a built-in by its name -/
theorem ev_blt {x : Str} {id : String} {r : List V → Hp → VK → Prop} {g : OpL} (hr : CallR X (.builtin id) r) (ok : CbOk X.K r g) (gl : Gl X x) (hm : X.mg x = none) (hv : bootBuiltins x = some (.builtin id)) (ha : PA X (a :: es) (tA X.K f)) (h1 : x ≠ Str.ofString "__name__") (h2 : (x == Str.ofString "__debug__") = false) (h3 : starEach (a :: es) X.env = (false, eval a X.env) :: starEach es X.env) (h4 : ((backTo pos (starEach es X.env)).any fun x => x.fst) = false) : PE X (.Call (.Name x p) (a :: es) [] pos) (tE X.K (opLE g f)) :=
  PE.cb (pe_callB hr gl hm hv ha h1 h2 h3 h4) ok
theorem ev_bty {x : Str} {T : String} {r : List V → Hp → VK → Prop} {g : OpL} (hr : CallR X (.type T) r) (ok : CbOk X.K r g) (gl : Gl X x) (hm : X.mg x = none) (hv : bootBuiltins x = some (.type T)) (ha : PA X (a :: es) (tA X.K f)) (h1 : x ≠ Str.ofString "__name__") (h2 : (x == Str.ofString "__debug__") = false) (h3 : starEach (a :: es) X.env = (false, eval a X.env) :: starEach es X.env) (h4 : ((backTo pos (starEach es X.env)).any fun x => x.fst) = false) : PE X (.Call (.Name x p) (a :: es) [] pos) (tE X.K (opLE g f)) :=
  PE.cb (pe_callTy hr gl hm hv ha h1 h2 h3 h4) ok
def ixE (g : D → D → Option D) (f1 : Fo) (f2 : Fv) : Fe := fun ρ => match f1 ρ with
  | some (a, ρ1) => (match f2 ρ1 with
    | some (y, ρ2) => (match lookA ρ2 a with
      | some x => (g x y).map fun d => (.val d, ρ2)
      | none => none)
    | none => none)
  | none => none
theorem ixE_inv {g : D → D → Option D} {f1 : Fo} {f2 : Fv} {ρ ρ' : EnvD} {z : Re} (h : ixE g f1 f2 ρ = some (z, ρ')) : ∃ a ρ1 y x d, f1 ρ = some (a, ρ1) ∧ f2 ρ1 = some (y, ρ') ∧ lookA ρ' a = some x ∧ g x y = some d ∧ z = .val d := by
  unfold ixE at h
  cases q1 : f1 ρ with
  | none => rw [q1] at h; cases h
  | some x1 =>
    obtain ⟨a, ρ1⟩ := x1
    rw [q1] at h
    cases q2 : f2 ρ1 with
    | none => simp only [q2] at h; cases h
    | some x2 =>
      obtain ⟨y, ρ2⟩ := x2
      simp only [q2] at h
      cases q3 : lookA ρ2 a with
      | none => rw [q3] at h; cases h
      | some x =>
        rw [q3] at h
        obtain ⟨r, e1, e2⟩ := Option.map_eq_some_iff.mp h
        cases e2
        exact ⟨a, ρ1, y, x, r, rfl, q2, q3, e1, rfl⟩
def gIx (x y : D) : Option D := match y with
  | .int i => (match itemsOf x with
    | some l => atI l i
    | none => (match x with
      | .str s => if isLine s.length then (atI s.cps.toList i).map fun c => .str ⟨#[c]⟩ else none
      | _ => none))
  | _ => none
theorem atI_Rs {K : Frag} {F : Hp} {xs : List V} {l : List D} {i : Int} {d : D} (rs : Rs K F xs l) (h : atI l i = some d) : ∃ v, atI xs i = some v ∧ R K F v d := by
  unfold atI at h ⊢
  rw [rs.len]
  cases q : ixN l.length i with
  | none => rw [q] at h; cases h
  | some j =>
    rw [q] at h
    exact rs.get h
theorem ev_ix (ha : PE X a (tO X.K fo)) (hb : PE X b (tV X.K f2)) (hs : PlainIx b) : PE X (.Subscript a b pos) (tE X.K (ixE gIx fo f2)) :=
  PE.weak (pe_ix ix_seq ha hb hs) fun σ H Q ⟨G, B, F, ρ, z, ρ', rp, ef, k⟩ => by
    obtain ⟨a, ρ1, y, x, d, q1, q2, q3, q4, rfl⟩ := ixE_inv ef
    refine ⟨G, B, F, ρ, a, ρ1, rp, q1, fun v F1 H1 e1 rp1 r1 => ?_⟩
    refine ⟨G, B, F1, ρ1, y, ρ', rp1, q2, fun u F2 H2 e2 rp2 r2 => ?_⟩
    have rl := look_ok rp2 (r1.mono e2) q3
    unfold gIx at q4
    split at q4
    · rename_i i
      cases r2
      split at q4
      · rename_i l hl
        obtain ⟨p, xs, rfl, hq, rs⟩ := rl.items rp2.exF hl
        obtain ⟨w, e3, e4⟩ := atI_Rs rs q4
        have fin := k w F2 H2 (e1.trans e2) rp2 e4
        rcases hq with hq | hq
        · exact .inl ⟨p, xs, i, w, rfl, rfl, hq, e3, fin⟩
        · exact .inr (.inl ⟨p, xs, i, w, rfl, rfl, hq, e3, fin⟩)
      · split at q4
        · split at q4
          · rename_i hl
            obtain ⟨c, e3, e4⟩ := Option.map_eq_some_iff.mp q4
            cases e4
            cases rl.str
            exact .inr (.inr ⟨_, i, c, rfl, rfl, of_decide_eq_true hl, e3, k _ F2 H2 (e1.trans e2) rp2 (.str _)⟩)
          · cases q4
        · cases q4
    · cases q4
def keyOf : D → Option Key
  | .int i => some (.inl i)
  | .str x => some (.inr x)
  | _ => none
def valD {κ : Type} [DecidableEq κ] (kvs : List (κ × D)) (k : κ) : Option D := (kvs.find? fun kv => decide (kv.1 = k)).map (·.2)
theorem keyOf_ok {K : Frag} {F : Hp} {v : V} {d : D} {k : Key} (r : R K F v d) (h : keyOf d = some k) : v = kV k := by
  cases r <;> cases h <;> rfl
theorem RKs.find {K : Frag} {F : Hp} {k : Key} : ∀ {kvs : List (Key × V)} {ds : List (Key × D)}, RKs K F kvs ds → (∀ d, valD ds k = some d → ∃ v, valV kvs k = some v ∧ R K F v d) ∧ (valD ds k = none → valV kvs k = none)
  | _, _, .nil => ⟨(fun d h => by cases h), fun _ => rfl⟩
  | _, _, .cons (k := k1) (v := v) (d := d) (vs := vs) (ds := ds) h r => by
    unfold valD valV
    rw [List.find?_cons, List.find?_cons]
    by_cases z : k1 = k
    · have : decide (k1 = k) = true := decide_eq_true z
      simp only [this]
      exact ⟨(fun d' e => by cases e; exact ⟨v, rfl, h⟩), (fun e => by cases e)⟩
    · have : decide (k1 = k) = false := decide_eq_false z
      simp only [this]
      exact r.find
def gDget (x y : D) : Option D := match x, keyOf y with
  | .dK l, some k => valD l k
  | _, _ => none
theorem RL.dK {K : Frag} {F H : Hp} (e : Ex F H) {v : V} {l : List (Key × D)} (r : RL K F H v (.dK l)) : ∃ p kvs, v = .ref p ∧ Rd H p (.dK kvs) ∧ RKs K F kvs l := by
  rcases r with r | ⟨p, rfl, c⟩
  · cases r with
    | dK h rs => exact ⟨_, _, rfl, e.rd h, rs⟩
  · obtain ⟨xs, a, b⟩ := c
    exact ⟨p, xs, rfl, .inl a, b⟩
theorem ev_dget (hu : X.A.units + 1 < cLine) (ha : PE X a (tO X.K fo)) (hb : PE X b (tV X.K f2)) (hs : NoSl b) : PE X (.Subscript a b pos) (tE X.K (ixE gDget fo f2)) :=
  PE.weak (pe_dget hu ha hb hs) fun σ H Q ⟨G, B, F, ρ, z, ρ', rp, ef, k⟩ => by
    obtain ⟨a, ρ1, y, x, d, q1, q2, q3, q4, rfl⟩ := ixE_inv ef
    refine ⟨G, B, F, ρ, a, ρ1, rp, q1, fun v F1 H1 e1 rp1 r1 => ?_⟩
    refine ⟨G, B, F1, ρ1, y, ρ', rp1, q2, fun u F2 H2 e2 rp2 r2 => ?_⟩
    have rl := look_ok rp2 (r1.mono e2) q3
    unfold gDget at q4
    split at q4
    · rename_i l kk hk
      obtain ⟨p, kvs, rfl, hd, rs⟩ := rl.dK rp2.exF
      cases keyOf_ok r2 hk
      obtain ⟨w, e3, e4⟩ := rs.find.1 d q4
      exact ⟨p, w, rfl, .inl ⟨kvs, kk, hd, rfl, e3.symm⟩, k w F2 H2 (e1.trans e2) rp2 e4⟩
    · cases q4
/-- .. d.get(k, x) -/
def dgetF (fo : Fo) (f1 f2 : Fv) : Fe := fun ρ => match fo ρ with
  | some (a, ρ1) => (match f1 ρ1 with
    | some (y, ρ2) => (match f2 ρ2 with
      | some (z, ρ3) => (match lookA ρ1 a, lookA ρ3 a, keyOf y with
        | some (.dK _), some (.dK l), some k => some (.val ((valD l k).getD z), ρ3)
        | _, _, _ => none)
      | none => none)
    | none => none)
  | none => none
theorem ev_dget2 {c : Expr} {apos : Pos} (hu : X.A.units + 1 < cLine) (ha : PE X a (tO X.K fo)) (hb : PE X b (tV X.K f1)) (hc : PE X c (tV X.K f2)) (m : M2 X a (Str.ofString "get") apos b c pos) : PE X (.Call (.Attribute a (Str.ofString "get") apos) [b, c] [] pos) (tE X.K (dgetF fo f1 f2)) :=
  PE.weak (pe_dget2 hu ha hb hc m) fun σ H Q ⟨G, B, F, ρ, z, ρ', rp, ef, k⟩ => by
    unfold dgetF at ef
    cases q1 : fo ρ with
    | none => rw [q1] at ef; cases ef
    | some x1 =>
      obtain ⟨a, ρ1⟩ := x1
      simp only [q1] at ef
      cases q2 : f1 ρ1 with
      | none => simp only [q2] at ef; cases ef
      | some x2 =>
        obtain ⟨y, ρ2⟩ := x2
        simp only [q2] at ef
        cases q3 : f2 ρ2 with
        | none => simp only [q3] at ef; cases ef
        | some x3 =>
          obtain ⟨dz, ρ3⟩ := x3
          simp only [q3] at ef
          split at ef
          · rename_i l0 l kk h1 h2 h3
            cases ef
            refine ⟨G, B, F, ρ, a, ρ1, rp, q1, fun v F1 H1 e1 rp1 r1 => ?_⟩
            obtain ⟨p, kvs0, rfl, hd0, _⟩ := (look_ok rp1 r1 h1).dK rp1.exF
            refine ⟨p, rfl, .inl ⟨kvs0, hd0⟩, G, B, F1, ρ1, y, ρ2, rp1, q2, fun u F2 H2 e2 rp2 r2 => ?_⟩
            refine ⟨G, B, F2, ρ2, dz, _, rp2, q3, fun w F3 H3 e3 rp3 r3 => ?_⟩
            obtain ⟨p2, kvs, e4, hd, rs⟩ := (look_ok rp3 ((r1.mono e2).mono e3) h2).dK rp3.exF
            cases e4
            cases keyOf_ok (r2.mono e3) h3
            refine ⟨valV kvs kk, .inl ⟨kvs, kk, hd, rfl, rfl⟩, k _ F3 H3 ((e1.trans e2).trans e3) rp3 ?_⟩
            cases q5 : valD l kk with
            | none =>
              rw [rs.find.2 q5]
              exact r3
            | some d =>
              obtain ⟨w2, e6, e7⟩ := rs.find.1 d q5
              rw [e6]
              exact e7
          · cases ef
end
end Ev
/-! Ev10 -/
namespace Ev
open PySem PySem.Spec PyProof.Rows L2
def setC (ρ : EnvD) (k : Nat) (c : D) : EnvD := match ρ[k]? with
  | some (.own _) => ρ.set k (.own c)
  | some (.ref _) => ρ.set k (.ref c)
  | _ => ρ
theorem cell_set_ref {ρ : EnvD} {i j : Nat} {d : D} : cellOf (ρ.set i (.ref d)) j = if i = j ∧ i < ρ.length then some d else cellOf ρ j := by
  unfold cellOf
  rw [List.getElem?_set]
  by_cases h : i = j
  · subst h
    by_cases h2 : i < ρ.length
    · simp [h2]
    · simp [h2]
  · simp [h]
theorem cell_setC {ρ : EnvD} {k j : Nat} {c d : D} (hk : cellOf ρ k = some d) : cellOf (setC ρ k c) j = if k = j then some c else cellOf ρ j := by
  have hl := cell_lt hk
  unfold cellOf at hk
  unfold setC
  cases q : ρ[k]? with
  | none => rw [q] at hk; cases hk
  | some s =>
    rw [q] at hk
    cases s with
    | none => cases hk
    | val _ => cases hk
    | own e =>
      show cellOf (ρ.set k (.own c)) j = _
      rw [cell_set_own]
      by_cases z : k = j
      · rw [if_pos ⟨z, hl⟩, if_pos z]
      · rw [if_neg (fun h => z h.1), if_neg z]
    | ref e =>
      show cellOf (ρ.set k (.ref c)) j = _
      rw [cell_set_ref]
      by_cases z : k = j
      · rw [if_pos ⟨z, hl⟩, if_pos z]
      · rw [if_neg (fun h => z h.1), if_neg z]
theorem setC_length {ρ : EnvD} {k : Nat} {c : D} : (setC ρ k c).length = ρ.length := by
  unfold setC
  split
  · exact List.length_set
  · exact List.length_set
  · rfl
theorem setC_val {ρ : EnvD} {k j : Nat} {c d : D} (h : (setC ρ k c)[j]? = some (.val d)) : ρ[j]? = some (.val d) := by
  unfold setC at h
  split at h
  · by_cases z : k = j
    · subst z
      rw [List.getElem?_set, if_pos rfl] at h
      split at h <;> cases h
    · rw [set_ne z] at h
      exact h
  · by_cases z : k = j
    · subst z
      rw [List.getElem?_set, if_pos rfl] at h
      split at h <;> cases h
    · rw [set_ne z] at h
      exact h
  · exact h
section
variable {K : Frag} {G : Hp} {B : List (Nat × Addr)} {F F' H H' : Hp} {ρ ρ' : EnvD} {σ : L2.St}
theorem Rep.store {k : Nat} {l : Addr} {c c' : D} {o : HO} (p : Rep K G B F H ρ σ) (hc : cellOf ρ k = some c) (hs : σ[k]? = some (some (.ref l))) (hn : Cell K F (upd H l o) l c') : Rep K G B F (upd H l o) (setC ρ k c') σ := by
  obtain ⟨l2, a1, a2, a3, a4⟩ := p.own k c hc
  rw [hs] at a1
  cases a1
  refine ⟨by rw [setC_length]; exact p.len, fun a u q => ?_, fun a u q => ?_, p.dis, fun j d q => p.val j d (setC_val q), fun j d q => ?_, fun i j d e m q1 q2 s1 s2 => ?_, fun j m q => ?_⟩
  · have ne : a ≠ l := fun z => by
      subst z
      rw [a2] at q
      cases q
    rw [upd_ne ne]
    exact p.exF a u q
  · have ne : a ≠ l := fun z => by
      subst z
      rw [a3] at q
      cases q
    rw [upd_ne ne]
    exact p.exG a u q
  · rw [cell_setC hc] at q
    split at q
    · rename_i z
      subst z
      cases q
      exact ⟨l, hs, a2, a3, hn⟩
    · rename_i z
      obtain ⟨m, b1, b2, b3, b4⟩ := p.own j d q
      have ne : m ≠ l := fun y => by
        subst y
        exact z (p.sep k j c d m hc q hs b1)
      exact ⟨m, b1, b2, b3, b4.mono (Ex.refl F) (by rw [upd_ne ne])⟩
  · have f : ∀ (x : Nat) (y : D), cellOf (setC ρ k c') x = some y → ∃ y', cellOf ρ x = some y' := fun x y h => by
      rw [cell_setC hc] at h
      split at h
      · rename_i z
        subst z
        exact ⟨c, hc⟩
      · exact ⟨y, h⟩
    obtain ⟨d', h1⟩ := f i d q1
    obtain ⟨e', h2⟩ := f j e q2
    exact p.sep i j d' e' m h1 h2 s1 s2
  · obtain ⟨⟨d, a⟩, b⟩ := p.bor j m q
    refine ⟨?_, b⟩
    by_cases z : k = j
    · subst z
      refine ⟨c', ?_⟩
      unfold setC
      rw [a]
      exact set_at (List.getElem?_eq_some_iff.mp a).1
    · refine ⟨d, ?_⟩
      unfold setC
      split
      · rw [set_ne z]; exact a
      · rw [set_ne z]; exact a
      · exact a
end
def setItF (g : D → D → D → Option D) (k : Nat) (fe fi : Fv) : Fs := fun ρ => match fe ρ with
  | some (d, ρ1) => (match cellOf ρ1 k, fi ρ1 with
    | some _, some (y, ρ2) => (match cellOf ρ2 k with
      | some c => (g c y d).map fun c' => .nx (setC ρ2 k c')
      | none => none)
    | _, _ => none)
  | none => none
theorem setItF_inv {g : D → D → D → Option D} {k : Nat} {fe fi : Fv} {ρ : EnvD} {o : Out} (h : setItF g k fe fi ρ = some o) : ∃ d ρ1 c0 y ρ2 c c', fe ρ = some (d, ρ1) ∧ cellOf ρ1 k = some c0 ∧ fi ρ1 = some (y, ρ2) ∧ cellOf ρ2 k = some c ∧ g c y d = some c' ∧ o = .nx (setC ρ2 k c') := by
  unfold setItF at h
  cases q1 : fe ρ with
  | none => rw [q1] at h; cases h
  | some x1 =>
    obtain ⟨d, ρ1⟩ := x1
    rw [q1] at h
    cases q2 : cellOf ρ1 k with
    | none => simp only [q2] at h; cases h
    | some c0 =>
      cases q3 : fi ρ1 with
      | none => simp only [q2, q3] at h; cases h
      | some x2 =>
        obtain ⟨y, ρ2⟩ := x2
        simp only [q2, q3] at h
        cases q4 : cellOf ρ2 k with
        | none => simp only [q4] at h; cases h
        | some c =>
          simp only [q4] at h
          obtain ⟨c', e1, e2⟩ := Option.map_eq_some_iff.mp h
          exact ⟨d, ρ1, c0, y, ρ2, c, c', rfl, q2, q3, q4, e1, e2.symm⟩
/-- of a list -/
def gSetL (c y d : D) : Option D := match c, y with
  | .lst l, .int i => (ixN l.length i).map fun j => .lst (l.set j d)
  | _, _ => none
/-- of a dict by whole numbers and texts -/
def putD {κ : Type} [DecidableEq κ] (kvs : List (κ × D)) (k : κ) (v : D) : List (κ × D) :=
  if (kvs.any fun kv => decide (kv.1 = k)) = true then kvs.map (fun kv => if kv.1 = k then (kv.1, v) else kv) else kvs ++ [(k, v)]
def gPutK (c y d : D) : Option D := match c, keyOf y with
  | .dK l, some k => if decide (l.length < sizeLine) then some (.dK (putD l k d)) else none
  | _, _ => none
theorem RKs.any {K : Frag} {F : Hp} {k : Key} : ∀ {kvs : List (Key × V)} {ds : List (Key × D)}, RKs K F kvs ds → (kvs.any fun kv => decide (kv.1 = k)) = (ds.any fun kv => decide (kv.1 = k))
  | _, _, .nil => rfl
  | _, _, .cons h r => by
    rw [List.any_cons, List.any_cons, r.any]
theorem RKs.app {K : Frag} {F : Hp} : ∀ {kvs kvs2 : List (Key × V)} {ds ds2 : List (Key × D)}, RKs K F kvs ds → RKs K F kvs2 ds2 → RKs K F (kvs ++ kvs2) (ds ++ ds2)
  | _, _, _, _, .nil, t => t
  | _, _, _, _, .cons h r, t => .cons h (r.app t)
theorem RKs.map {K : Frag} {F : Hp} {k : Key} {v : V} {d : D} (hv : R K F v d) : ∀ {kvs : List (Key × V)} {ds : List (Key × D)}, RKs K F kvs ds → RKs K F (kvs.map fun kv => if kv.1 = k then (kv.1, v) else kv) (ds.map fun kv => if kv.1 = k then (kv.1, d) else kv)
  | _, _, .nil => .nil
  | _, _, .cons (k := k1) h r => by
    rw [List.map_cons, List.map_cons]
    by_cases z : k1 = k
    · rw [if_pos z, if_pos z]
      exact .cons hv (RKs.map hv r)
    · rw [if_neg z, if_neg z]
      exact .cons h (RKs.map hv r)
theorem RKs.put {K : Frag} {F : Hp} {k : Key} {v : V} {d : D} {kvs : List (Key × V)} {ds : List (Key × D)} (hv : R K F v d) (r : RKs K F kvs ds) : RKs K F (putK kvs k v) (putD ds k d) := by
  unfold putK putD
  rw [r.any]
  split
  · exact r.map hv
  · exact r.app (.cons hv .nil)
section
variable {X : Cx} {a b c e : Expr} {f1 f2 fe fi : Fv} {pos pos' pos2 : Pos} {x : Str} {k : Nat}
theorem Rep.cellAt {K : Frag} {G : Hp} {B : List (Nat × Addr)} {F H : Hp} {ρ : EnvD} {σ : L2.St} (p : Rep K G B F H ρ σ) {i : Nat} {d : D} {l : Addr} (h : cellOf ρ i = some d) (hs : σ[i]? = some (some (.ref l))) : F l = none ∧ G l = none ∧ Cell K F H l d := by
  obtain ⟨m, a, b, c, d2⟩ := p.own i d h
  rw [hs] at a
  cases a
  exact ⟨b, c, d2⟩
theorem es_setL (hN : X.N[k]? = some x) (hv : Vis X.env.scope x) (hd : (x == ("__debug__" : Str)) = false) (hcd : (x == ("__classdict__" : Str)) = false) (he : PE X e (tV X.K fe)) (hi : PE X b (tV X.K fi))
    (ha : ∀ v : Value, assign (Expr.Subscript (.Name x pos') b pos2) X.env v = do
      let ov ← holding [v] (eval (.Name x pos') X.env)
      let iv ← holding [v, ov] (eval b X.env)
      standAt pos2
      holding [v, ov, iv] (setItem ov iv v)
      release [v, ov, iv] [])
    (h1 : swapsWithSole [Expr.Subscript (.Name x pos') b pos2] e pos.line X.env = pure false) (h2 : swappedStores [Expr.Subscript (.Name x pos') b pos2] e X.env = pure none) (h3 : List.map (fun x => x.snd) (assignEach [Expr.Subscript (.Name x pos') b pos2] X.env) = [assign (Expr.Subscript (.Name x pos') b pos2) X.env]) :
    PS X (.Assign [.Subscript (.Name x pos') b pos2] e pos) (tS X.K (setItF gSetL k fe fi)) :=
  PS.weak (ps_asg he (pg_sub (pe_var (i := k) hN hv hd hcd) hi set_list ha) h1 h2 h3) fun D σ H ⟨G, B, F, ρ, o, rp, ef, z⟩ => by
    obtain ⟨d, ρ1, c0, y, ρ2, c, c', q1, q2, q3, q4, q5, rfl⟩ := setItF_inv ef
    refine ⟨G, B, F, ρ, d, ρ1, rp, q1, fun v F1 H1 e1 rp1 r1 => ?_⟩
    obtain ⟨l, a1, a2, a3, a4⟩ := rp1.own k c0 q2
    refine ⟨.ref l, a1, G, B, F1, ρ1, y, ρ2, rp1, q3, fun u F2 H2 e2 rp2 r2 => ?_⟩
    obtain ⟨b2, b3, b4⟩ := rp2.cellAt q4 a1
    unfold gSetL at q5
    split at q5
    · rename_i ls i
      obtain ⟨j, e3, e4⟩ := Option.map_eq_some_iff.mp q5
      subst e4
      cases r2
      obtain ⟨xs, c1, c2⟩ := b4
      refine ⟨l, xs, i, j, rfl, rfl, c1, by rw [c2.len]; exact e3, ?_⟩
      exact z σ F2 _ (e1.trans e2) (rp2.store q4 a1 ⟨_, upd_same, c2.set j (r1.mono e2)⟩)
    · cases q5
theorem es_putK (hu : X.A.units + 1 < cLine) (hN : X.N[k]? = some x) (hv : Vis X.env.scope x) (hd : (x == ("__debug__" : Str)) = false) (hcd : (x == ("__classdict__" : Str)) = false) (he : PE X e (tV X.K fe)) (hi : PE X b (tV X.K fi))
    (h1 : swapsWith e (some (Expr.Subscript (.Name x pos') b pos2)) pos.line X.env = pure false) :
    PS X (.Assign [.Subscript (.Name x pos') b pos2] e pos) (tS X.K (setItF gPutK k fe fi)) :=
  PS.weak (ps_dput hu (pe_var (i := k) hN hv hd hcd) hi he h1) fun D σ H ⟨G, B, F, ρ, o, rp, ef, z⟩ => by
    obtain ⟨d, ρ1, c0, y, ρ2, c, c', q1, q2, q3, q4, q5, rfl⟩ := setItF_inv ef
    refine ⟨G, B, F, ρ, d, ρ1, rp, q1, fun v F1 H1 e1 rp1 r1 => ?_⟩
    obtain ⟨l, a1, a2, a3, a4⟩ := rp1.own k c0 q2
    refine ⟨.ref l, a1, G, B, F1, ρ1, y, ρ2, rp1, q3, fun u F2 H2 e2 rp2 r2 => ?_⟩
    obtain ⟨b2, b3, b4⟩ := rp2.cellAt q4 a1
    unfold gPutK at q5
    split at q5
    · rename_i ls kk hk
      split at q5
      · rename_i hlt
        cases q5
        cases keyOf_ok r2 hk
        obtain ⟨kvs, c1, c2⟩ := b4
        refine ⟨l, _, rfl, .inl ⟨kvs, kk, c1, rfl, by rw [c2.len]; exact of_decide_eq_true hlt, rfl⟩, ?_⟩
        exact z σ F2 _ (e1.trans e2) (rp2.store q4 a1 ⟨_, upd_same, c2.put (r1.mono e2)⟩)
      · cases q5
    · cases q5
end
abbrev MutD := D → List D → Option (D × D)
def MutOk (K : Frag) (r : V → List V → Hp → VK → Prop) (g : MutD) : Prop := ∀ (F H : Hp) (l : Addr) (c : D) (vs : List V) (ds : List D) (res c' : D) (Q : VK), Cell K F H l c → Rs K F vs ds → g c ds = some (res, c') →
  (∀ w o', Cell K F (upd H l o') l c' → R K F w res → Q w (upd H l o')) → r (.ref l) vs H Q
def kindC (T : String) : D → Bool
  | .lst _ => T == "list"
  | .dK _ => T == "dict"
  | .dT _ => T == "dict"
  | _ => false
theorem kindC_ok {K : Frag} {F H : Hp} {T : String} {c : D} {l : Addr} (h : kindC T c = true) (q : Cell K F H l c) : tyV K T (.ref l) H := by
  cases c with
  | lst d => obtain ⟨xs, a, _⟩ := q; exact .inl ⟨eq_of_beq h, xs, SqL.of a⟩
  | dK d => obtain ⟨xs, a, _⟩ := q; exact .inr (.inr (.inl ⟨eq_of_beq h, .inl ⟨xs, a⟩⟩))
  | dT d => obtain ⟨xs, a, _⟩ := q; exact .inr (.inr (.inl ⟨eq_of_beq h, .inr ⟨xs, a⟩⟩))
  | _ => exact q.elim
def mutE (T : String) (g : MutD) (k : Nat) (fl : Fl) : Fe := fun ρ => match cellOf ρ k with
  | some c0 => if kindC T c0 then (match fl ρ with
    | some (ds, ρ1) => (match cellOf ρ1 k with
      | some c => (g c ds).map fun x => (.val x.1, setC ρ1 k x.2)
      | none => none)
    | none => none) else none
  | none => none
theorem mutE_inv {T : String} {g : MutD} {k : Nat} {fl : Fl} {ρ ρ' : EnvD} {z : Re} (h : mutE T g k fl ρ = some (z, ρ')) : ∃ c0 ds ρ1 c res c', cellOf ρ k = some c0 ∧ kindC T c0 = true ∧ fl ρ = some (ds, ρ1) ∧ cellOf ρ1 k = some c ∧ g c ds = some (res, c') ∧ z = .val res ∧ ρ' = setC ρ1 k c' := by
  unfold mutE at h
  cases q1 : cellOf ρ k with
  | none => rw [q1] at h; cases h
  | some c0 =>
    rw [q1] at h
    simp only at h
    split at h
    · rename_i hk
      cases q2 : fl ρ with
      | none => rw [q2] at h; cases h
      | some x1 =>
        obtain ⟨ds, ρ1⟩ := x1
        rw [q2] at h
        simp only at h
        cases q3 : cellOf ρ1 k with
        | none => rw [q3] at h; cases h
        | some c =>
          rw [q3] at h
          obtain ⟨y, e1, e2⟩ := Option.map_eq_some_iff.mp h
          obtain ⟨res, c'⟩ := y
          cases e2
          exact ⟨c0, ds, ρ1, c, res, c', rfl, hk, rfl, q3, e1, rfl, rfl⟩
    · cases h
section
variable {X : Cx} {e : Expr} {es : List Expr} {fl : Fl} {pos apos cpos : Pos} {x name : Str} {k : Nat} {T id : String} {r : V → List V → Hp → VK → Prop} {g : MutD}
theorem ev_mut (hN : X.N[k]? = some x) (hv : Vis X.env.scope x) (hd : (x == ("__debug__" : Str)) = false) (hcd : (x == ("__classdict__" : Str)) = false) (p1 : PlainAttrs T) (p2 : Slot T name id) (p3 : typeOf (.builtin id) = pure (.type "method_descriptor")) (hm : MtR X id r) (ok : MutOk X.K r g) (ha : PA X (e :: es) (tL X.K fl))
    (h1 : attributeBase (.Name x pos) name X.env (eval (.Name x pos) X.env) = eval (.Name x pos) X.env)
    (h2 : (((backTo cpos (starEach (e :: es) X.env)).all fun x => !x.fst) && (backToKw cpos (keywordEach [] X.env)).all fun x => x.fst.isSome) && decide (((e :: es).length + ([] : List Keyword).length + if ([] : List Keyword).isEmpty = true then 0 else 1) < 30))
    (h3 : (apos.endLine == cpos.line) = true) (h4 : starEach (e :: es) X.env = (false, eval e X.env) :: starEach es X.env) (h5 : ((backTo cpos (starEach es X.env)).any fun x => x.fst) = false) :
    PE X (.Call (.Attribute (.Name x pos) name apos) (e :: es) [] cpos) (tE X.K (mutE T g k fl)) :=
  PE.weak (pe_bm p1 p2 p3 hm (pe_var (i := k) hN hv hd hcd) ha h1 h2 h3 h4 h5) fun σ H Q ⟨G, B, F, ρ, z, ρ', rp, ef, kk⟩ => by
    obtain ⟨c0, ds, ρ1, c, res, c', q1, q2, q3, q4, q5, rfl, rfl⟩ := mutE_inv ef
    obtain ⟨l, a1, a2, a3, a4⟩ := rp.own k c0 q1
    refine ⟨.ref l, a1, kindC_ok q2 a4, G, B, F, ρ, ds, ρ1, rp, q3, fun vs F1 H1 e1 rp1 r1 => ?_⟩
    obtain ⟨b2, b3, b4⟩ := rp1.cellAt q4 a1
    exact ok F1 H1 l c vs ds res c' Q b4 r1 q5 fun w o' hc hr => kk w F1 _ e1 (rp1.store q4 a1 hc) hr
theorem ev_mut0 (hN : X.N[k]? = some x) (hv : Vis X.env.scope x) (hd : (x == ("__debug__" : Str)) = false) (hcd : (x == ("__classdict__" : Str)) = false) (p1 : PlainAttrs T) (p2 : Slot T name id) (p3 : typeOf (.builtin id) = pure (.type "method_descriptor")) (hm : MtR X id r) (ok : MutOk X.K r g)
    (h1 : attributeBase (.Name x pos) name X.env (eval (.Name x pos) X.env) = eval (.Name x pos) X.env) (h3 : (apos.endLine == cpos.line) = true) :
    PE X (.Call (.Attribute (.Name x pos) name apos) [] [] cpos) (tE X.K (mutE T g k nilF)) :=
  PE.weak (pe_bm0 p1 p2 p3 hm (pe_var (i := k) hN hv hd hcd) h1 h3) fun σ H Q ⟨G, B, F, ρ, z, ρ', rp, ef, kk⟩ => by
    obtain ⟨c0, ds, ρ1, c, res, c', q1, q2, q3, q4, q5, rfl, rfl⟩ := mutE_inv ef
    cases q3
    obtain ⟨l, a1, a2, a3, a4⟩ := rp.own k c0 q1
    obtain ⟨b2, b3, b4⟩ := rp.cellAt q4 a1
    exact ⟨.ref l, a1, kindC_ok q2 a4, ok F H l c [] [] res c' Q b4 .nil q5 fun w o' hc hr => kk w F _ (Ex.refl F) (rp.store q4 a1 hc) hr⟩
end
def gAppend : MutD
  | .lst l, [d] => if decide (l.length < sizeLine) then some (.non, .lst (l ++ [d])) else none
  | _, _ => none
theorem gAppend_ok {K : Frag} : MutOk K rAppend gAppend := by
  intro F H l c vs ds res c' Q hc hr e k
  unfold gAppend at e
  split at e
  · split at e
    · rename_i hl
      cases e
      obtain ⟨xs, a, b⟩ := hc
      cases hr with
      | cons h1 t =>
        cases t
        exact ⟨l, xs, _, rfl, rfl, a, by rw [b.len]; exact of_decide_eq_true hl, k _ _ ⟨_, upd_same, b.app (Rs.one h1)⟩ .non⟩
    · cases e
  · cases e
def gClear : MutD
  | .lst _, [] => some (.non, .lst [])
  | _, _ => none
theorem gClear_ok {K : Frag} : MutOk K rClear gClear := by
  intro F H l c vs ds res c' Q hc hr e k
  unfold gClear at e
  split at e
  · cases e
    obtain ⟨xs, a, b⟩ := hc
    cases hr
    exact ⟨l, xs, rfl, rfl, a, k _ _ ⟨_, upd_same, .nil⟩ .non⟩
  · cases e
def gPop : MutD
  | .lst l, [] => match l[l.length - 1]? with
    | some d => some (d, .lst l.dropLast)
    | none => none
  | _, _ => none
theorem Rs.dropLast {K : Frag} {F : Hp} {vs : List V} {ds : List D} (r : Rs K F vs ds) : Rs K F vs.dropLast ds.dropLast := by
  rw [List.dropLast_eq_take, List.dropLast_eq_take, r.len]
  exact r.take _
theorem gPop_ok {K : Frag} : MutOk K rPop gPop := by
  intro F H l c vs ds res c' Q hc hr e k
  unfold gPop at e
  split at e
  · split at e
    · rename_i d hd
      cases e
      obtain ⟨xs, a, b⟩ := hc
      cases hr
      obtain ⟨w, e1, e2⟩ := b.get hd
      exact ⟨l, xs, w, rfl, rfl, a, by rw [b.len]; exact e1, k _ _ ⟨_, upd_same, b.dropLast⟩ e2⟩
    · cases e
  · cases e
def tyN : D → String
  | .non => "NoneType"
  | .bl _ => "bool"
  | .int _ => "int"
  | .str _ => "str"
  | .lst _ => "list"
  | .rol _ => "list"
  | .tup _ => "tuple"
  | .dK _ => "dict"
  | .dT _ => "dict"
theorem SqL.ty {K : Frag} {H : Hp} {p : Addr} {xs : List V} (h : SqL K H p xs) : TyX K H (.ref p) (.type "list") := by
  rcases h with (h | ⟨o, h⟩) | ⟨o, its, n, h1, h2, _⟩
  · exact .base (.lst h)
  · exact .base (.frz h)
  · exact .kList h1 h2
theorem SqT.ty {K : Frag} {H : Hp} {p : Addr} {xs : List V} (h : SqT K H p xs) : TyX K H (.ref p) (.type "tuple") := by
  rcases h with (h | ⟨o, h⟩) | ⟨o, its, n, h1, h2, _⟩
  · exact .base (.tup h)
  · exact .fTuple h
  · exact .kTuple h1 h2
theorem tyN_ok {K : Frag} {F H : Hp} (e : Ex F H) {v : V} {d : D} (r : RL K F H v d) : TyX K H v (.type (tyN d)) := by
  rcases r with r | ⟨p, rfl, c⟩
  · cases r with
    | non => exact .base .non
    | bl b => exact .base (.bl b)
    | int i => exact .base (.int i)
    | str x => exact .base (.str x)
    | lst h _ => exact .base (.lst (e _ _ h))
    | rol h _ => exact SqL.ty (e.seqL h)
    | tup h _ => exact SqT.ty (e.seqT h)
    | dK h _ =>
      rcases e.rd h with h | ⟨o, h⟩
      · exact .base (.dK h)
      · exact .fDict h
    | dT h _ => exact .base (.dT (e _ _ h))
  · cases d with
    | lst _ => obtain ⟨xs, a, _⟩ := c; exact .base (.lst a)
    | dK _ => obtain ⟨xs, a, _⟩ := c; exact .base (.dK a)
    | dT _ => obtain ⟨xs, a, _⟩ := c; exact .base (.dT a)
    | _ => exact c.elim
def isiE (T : String) (fo : Fo) : Fe := fun ρ => match fo ρ with
  | some (a, ρ1) => (match lookA ρ1 a with
    | some d => (match kitB (tyN d) T with
      | some b => some (.val (.bl b), ρ1)
      | none => none)
    | none => none)
  | none => none
section
variable {X : Cx} {a : Expr} {fo : Fo} {pos p p2 : Pos} {x : Str}
theorem ev_isi {T : String} (ha : PE X a (tO X.K fo)) (gl : Gl X (Str.ofString "isinstance")) (hm : X.mg (Str.ofString "isinstance") = none) (hv : bootBuiltins (Str.ofString "isinstance") = some (.builtin "isinstance")) (glt : Gl X x) (hmt : X.mg x = none) (hvt : bootBuiltins x = some (.type T)) (hn : x ≠ Str.ofString "__name__") (hdb : (x == Str.ofString "__debug__") = false)
    (h3 : starEach [a, .Name x p2] X.env = (false, eval a X.env) :: starEach [.Name x p2] X.env) (h4 : ((backTo pos (starEach [.Name x p2] X.env)).any fun x => x.fst) = false) (h5 : starEach [Expr.Name x p2] X.env = (false, eval (Expr.Name x p2) X.env) :: starEach [] X.env) :
    PE X (.Call (.Name (Str.ofString "isinstance") p) [a, .Name x p2] [] pos) (tE X.K (isiE T fo)) :=
  PE.weak (pe_callB call_isi gl hm hv (pa_cons ha (pa_cons (pe_bltn (v := .ty T) glt hmt hvt (by exact rfl) hn hdb) pa_nil h5) h3) (by decide) (by decide) h3 h4) fun σ H Q ⟨G, B, F, ρ, z, ρ', rp, ef, k⟩ => by
    unfold isiE at ef
    cases q1 : fo ρ with
    | none => rw [q1] at ef; cases ef
    | some x1 =>
      obtain ⟨a, ρ1⟩ := x1
      rw [q1] at ef
      simp only at ef
      cases q2 : lookA ρ1 a with
      | none => rw [q2] at ef; cases ef
      | some d =>
        rw [q2] at ef
        simp only at ef
        cases q3 : kitB (tyN d) T with
        | none => rw [q3] at ef; cases ef
        | some b =>
          rw [q3] at ef
          cases ef
          refine ⟨G, B, F, ρ, a, _, rp, q1, fun v F1 H1 e1 rp1 r1 => ?_⟩
          exact ⟨v, .ty T, .type (tyN d), .type T, b, rfl, .ty T, tyN_ok rp1.exF (look_ok rp1 r1 q2), kit_ty q3, k _ F1 H1 e1 rp1 (.bl b)⟩
end
end Ev
/-! Ev11 -/
namespace Ev
open PySem PySem.Spec PyProof.Rows L2
def kindT (T : String) : D → Bool
  | .str _ => T == "str"
  | .int _ => T == "int"
  | .lst _ => T == "list"
  | .rol _ => T == "list"
  | _ => false
theorem kindT_ok {K : Frag} {F H : Hp} (e : Ex F H) {T : String} {d : D} {v : V} (h : kindT T d = true) (r : RL K F H v d) : tyV K T v H := by
  cases d with
  | str x => cases r.str; exact eq_of_beq h
  | int x => cases r.int; exact eq_of_beq h
  | lst l => obtain ⟨p, xs, rfl, a, _⟩ := r.lst e; exact .inl ⟨eq_of_beq h, xs, SqL.of a⟩
  | rol l => obtain ⟨p, xs, rfl, a, _⟩ := r.rol e; exact .inl ⟨eq_of_beq h, xs, a⟩
  | _ => cases h
/-- o.m(args), o only looked at -/
def methE (T : String) (g : OpL) (fo : Fo) (fa : Fa) : Fe := fun ρ => match fo ρ with
  | some (a, ρ1) => (match lookA ρ1 a with
    | some d0 => if kindT T d0 then (match fa ρ1 with
      | some (as, ρ2) => (match lookAs ρ2 (a :: as) with
        | some ds => (g ds).map fun r => (r, ρ2)
        | none => none)
      | none => none) else none
    | none => none)
  | none => none
theorem methE_inv {T : String} {g : OpL} {fo : Fo} {fa : Fa} {ρ ρ' : EnvD} {z : Re} (h : methE T g fo fa ρ = some (z, ρ')) : ∃ a ρ1 d0 as ds, fo ρ = some (a, ρ1) ∧ lookA ρ1 a = some d0 ∧ kindT T d0 = true ∧ fa ρ1 = some (as, ρ') ∧ lookAs ρ' (a :: as) = some ds ∧ g ds = some z := by
  unfold methE at h
  cases q1 : fo ρ with
  | none => rw [q1] at h; cases h
  | some x1 =>
    obtain ⟨a, ρ1⟩ := x1
    rw [q1] at h
    simp only at h
    cases q2 : lookA ρ1 a with
    | none => rw [q2] at h; cases h
    | some d0 =>
      rw [q2] at h
      simp only at h
      split at h
      · rename_i hk
        cases q3 : fa ρ1 with
        | none => rw [q3] at h; cases h
        | some x2 =>
          obtain ⟨as, ρ2⟩ := x2
          rw [q3] at h
          simp only at h
          cases q4 : lookAs ρ2 (a :: as) with
          | none => rw [q4] at h; cases h
          | some ds =>
            rw [q4] at h
            obtain ⟨y, e1, e2⟩ := Option.map_eq_some_iff.mp h
            cases e2
            exact ⟨a, ρ1, d0, as, ds, rfl, q2, hk, q3, q4, e1⟩
      · cases h
/-- a method's rule as one of a list of values -/
def asCb (r : V → List V → Hp → VK → Prop) : List V → Hp → VK → Prop
  | [] => fun _ _ => False
  | x :: xs => r x xs
section
variable {X : Cx} {o e : Expr} {es : List Expr} {fo : Fo} {fa : Fa} {pos apos cpos : Pos} {name : Str} {T id : String} {r : V → List V → Hp → VK → Prop} {g : OpL}
theorem ev_meth (ho : PE X o (tO X.K fo)) (p1 : PlainAttrs T) (p2 : Slot T name id) (p3 : typeOf (.builtin id) = pure (.type "method_descriptor")) (hm : MtR X id r) (ok : CbOk X.K (asCb r) g) (ha : PA X (e :: es) (tA X.K fa))
    (h1 : attributeBase o name X.env (eval o X.env) = eval o X.env)
    (h2 : (((backTo cpos (starEach (e :: es) X.env)).all fun x => !x.fst) && (backToKw cpos (keywordEach [] X.env)).all fun x => x.fst.isSome) && decide (((e :: es).length + ([] : List Keyword).length + if ([] : List Keyword).isEmpty = true then 0 else 1) < 30))
    (h3 : (apos.endLine == cpos.line) = true) (h4 : starEach (e :: es) X.env = (false, eval e X.env) :: starEach es X.env) (h5 : ((backTo cpos (starEach es X.env)).any fun x => x.fst) = false) :
    PE X (.Call (.Attribute o name apos) (e :: es) [] cpos) (tE X.K (methE T g fo fa)) :=
  PE.weak (pe_bm p1 p2 p3 hm ho ha h1 h2 h3 h4 h5) fun σ H Q ⟨G, B, F, ρ, z, ρ', rp, ef, kk⟩ => by
    obtain ⟨a, ρ1, d0, as, ds, q1, q2, q3, q4, q5, q6⟩ := methE_inv ef
    refine ⟨G, B, F, ρ, a, ρ1, rp, q1, fun v F1 H1 e1 rp1 r1 => ⟨kindT_ok rp1.exF q3 (look_ok rp1 r1 q2), ?_⟩⟩
    refine ⟨G, B, F1, ρ1, as, ρ', rp1, q4, fun vs F2 H2 e2 rp2 r2 => ?_⟩
    exact ok G B F2 H2 ρ' σ (v :: vs) ds z Q rp2 (looks_ok rp2 (.cons (r1.mono e2) r2) q5) q6 fun w F3 H3 e3 rp3 rr => kk w F3 H3 ((e1.trans e2).trans e3) rp3 rr
end
def gSplit : OpL
  | [.str a, .str b] => if (b.length == 0) = false ∧ a.length + 2 ≤ sizeLine then some (.new (.lst ((Txt.split a b).map D.str))) else none
  | _ => none
theorem gSplit_ok {K : Frag} : CbOk K (asCb fun x xs H Q => ∃ a b, x = .str a ∧ xs = [.str b] ∧ (b.length == 0) = false ∧ a.length + 2 ≤ sizeLine ∧ rNewStrs (Txt.split a b) H Q) gSplit := by
  intro G B F H ρ σ vs ds z Q rp rl e k
  unfold gSplit at e
  split at e
  · rename_i a b
    split at e
    · rename_i hc
      cases e
      obtain ⟨v, u, rfl, h1, h2⟩ := rl.two
      cases h1.str
      cases h2.str
      refine ⟨a, b, rfl, rfl, hc.1, hc.2, fun p hp => ?_⟩
      obtain ⟨rp2, f, g, ne⟩ := rp.new (o := .lst ((Txt.split a b).map V.str)) hp
      exact k _ F _ (Ex.refl F) rp2 ⟨p, rfl, f, g, ⟨_, upd_same, Rs.strs⟩, ne⟩
    · cases e
  · cases e
def strsOf : List D → Option (List Str)
  | [] => some []
  | .str x :: l => (strsOf l).map (x :: ·)
  | _ => none
theorem strsOf_ok : ∀ {l : List D} {ys : List Str}, strsOf l = some ys → l = ys.map D.str
  | [], _, h => by cases h; rfl
  | .str x :: l, ys, h => by
    obtain ⟨zs, a, b⟩ := Option.map_eq_some_iff.mp h
    subst b
    rw [strsOf_ok a]
    rfl
  | .non :: _, _, h => by cases h
  | .bl _ :: _, _, h => by cases h
  | .int _ :: _, _, h => by cases h
  | .lst _ :: _, _, h => by cases h
  | .rol _ :: _, _, h => by cases h
  | .tup _ :: _, _, h => by cases h
  | .dK _ :: _, _, h => by cases h
  | .dT _ :: _, _, h => by cases h
def gJoin : OpL
  | [.str a, d] => match itemsOf d with
    | some l => (match strsOf l with
      | some ys => if (ys.map fun x => x.length).sum + ys.length * a.length ≤ 16777216 then some (.val (.str (Txt.join a ys))) else none
      | none => none)
    | none => none
  | _ => none
theorem gJoin_ok {K : Frag} : CbOk K (asCb fun x xs H Q => ∃ a p ys, x = .str a ∧ xs = [.ref p] ∧ (SqL K H p (ys.map V.str) ∨ SqT K H p (ys.map V.str)) ∧ (ys.map fun x => x.length).sum + ys.length * a.length ≤ 16777216 ∧ Q (.str (Txt.join a ys)) H) gJoin := by
  intro G B F H ρ σ vs ds z Q rp rl e k
  unfold gJoin at e
  split at e
  · rename_i a d
    split at e
    · rename_i l hl
      split at e
      · rename_i ys hy
        split at e
        · rename_i hc
          cases e
          obtain ⟨v, u, rfl, h1, h2⟩ := rl.two
          cases h1.str
          obtain ⟨p, xs, rfl, hs, rs⟩ := h2.items rp.exF hl
          rw [strsOf_ok hy] at rs
          rw [Rs.strs_inv rs] at hs
          exact ⟨a, p, ys, rfl, rfl, hs, hc, k _ F H (Ex.refl F) rp (.str _)⟩
        · cases e
      · cases e
    · cases e
  · cases e
def gIndex : OpL
  | [d, y] => match d with
    | .tup _ => none
    | d => match itemsOf d, toFlat y with
      | some l, some v => (match toFlats l with
        | some us => (us.findIdx? fun u => eqV u v).map fun j => .val (.int (j : Nat))
        | none => none)
      | _, _ => none
  | _ => none
theorem RL.flat {K : Frag} {F H : Hp} {v u : V} {d : D} (r : RL K F H v d) (h : toFlat d = some u) : v = u ∧ flatV v = true := by
  rcases r with r | ⟨l, _, c⟩
  · exact toFlat_ok r h
  · cases d <;> first | exact c.elim | cases h
theorem gIndex_ok {K : Frag} : CbOk K (asCb (rIndex K)) gIndex := by
  intro G B F H ρ σ vs ds z Q rp rl e k
  unfold gIndex at e
  split at e
  · rename_i d y
    split at e
    · cases e
    · rename_i nt
      split at e
      · rename_i l v hl hv
        split at e
        · rename_i us hu
          obtain ⟨j, e1, e2⟩ := Option.map_eq_some_iff.mp e
          subst e2
          obtain ⟨w, u, rfl, h1, h2⟩ := rl.two
          obtain ⟨rfl, hf⟩ := h2.flat hv
          have hq : ∃ p xs, w = .ref p ∧ SqL K H p xs ∧ Rs K F xs l := by
            cases d with
            | tup l2 => exact absurd rfl (nt l2)
            | lst l2 => cases hl; obtain ⟨p, xs, a, b, c⟩ := h1.lst rp.exF; exact ⟨p, xs, a, SqL.of b, c⟩
            | rol l2 => cases hl; exact h1.rol rp.exF
            | _ => cases hl
          obtain ⟨p, xs, rfl, hs, rs⟩ := hq
          obtain ⟨rfl, ha⟩ := toFlats_ok rs hu
          obtain ⟨hj, e4, e5⟩ := List.findIdx?_eq_some_iff_getElem.mp e1
          refine ⟨p, xs, u, j, xs[j], rfl, rfl, hs, hf, ha, List.getElem?_eq_getElem hj, e4, fun m z' hm hz => ?_, k _ F H (Ex.refl F) rp (.int _)⟩
          have := e5 m hm
          obtain ⟨h6, h7⟩ := List.getElem?_eq_some_iff.mp hz
          rw [h7] at this
          simpa using this
        · cases e
      · cases e
  · cases e
abbrev Fp := EnvD → Option (List (Key × D) × EnvD)
def pairF : List (Fv × Fv) → Fp
  | [] => fun ρ => some ([], ρ)
  | (fk, fv) :: r => fun ρ => match fk ρ with
    | some (dk, ρ1) => (match keyOf dk, fv ρ1 with
      | some k, some (d, ρ2) => (match pairF r ρ2 with
        | some (l, ρ3) => some ((k, d) :: l, ρ3)
        | none => none)
      | _, _ => none)
    | none => none
theorem pairs_ok {K : Frag} : ∀ (r : List (Fv × Fv)) (G : Hp) (B : List (Nat × Addr)) (F H : Hp) (ρ ρ' : EnvD) (σ : L2.St) (l : List (Key × D)) (Q : List (V × V) → Hp → Prop), Rep K G B F H ρ σ → pairF r ρ = some (l, ρ') →
    (∀ kvs F' H', Ex F F' → Rep K G B F' H' ρ' σ → RKs K F' kvs l → Q (kvs.map fun kv => (kV kv.1, kv.2)) H') → tPairs (r.map fun p => (tV K p.1, tV K p.2)) σ H Q
  | [], G, B, F, H, ρ, ρ', σ, l, Q, rp, ef, k => by
    cases ef
    exact k [] F H (Ex.refl F) rp .nil
  | (fk, fv) :: r, G, B, F, H, ρ, ρ', σ, l, Q, rp, ef, k => by
    unfold pairF at ef
    cases q1 : fk ρ with
    | none => rw [q1] at ef; cases ef
    | some x1 =>
      obtain ⟨dk, ρ1⟩ := x1
      rw [q1] at ef
      simp only at ef
      cases q2 : keyOf dk with
      | none => rw [q2] at ef; cases ef
      | some kk =>
        cases q3 : fv ρ1 with
        | none => rw [q2, q3] at ef; cases ef
        | some x2 =>
          obtain ⟨d, ρ2⟩ := x2
          rw [q2, q3] at ef
          simp only at ef
          cases q4 : pairF r ρ2 with
          | none => rw [q4] at ef; cases ef
          | some x3 =>
            obtain ⟨l2, ρ3⟩ := x3
            rw [q4] at ef
            cases ef
            refine ⟨G, B, F, ρ, dk, ρ1, rp, q1, fun v F1 H1 e1 rp1 r1 => ?_⟩
            cases keyOf_ok r1 q2
            refine ⟨G, B, F1, ρ1, d, ρ2, rp1, q3, fun u F2 H2 e2 rp2 r2 => ?_⟩
            exact pairs_ok r G B F2 H2 ρ2 ρ' σ l2 _ rp2 q4 fun kvs F3 H3 e3 rp3 r3 => k ((kk, u) :: kvs) F3 H3 ((e1.trans e2).trans e3) rp3 (.cons (r2.mono e3) r3)
def mergeD (l more : List (Key × D)) : List (Key × D) := more.foldl (fun acc kv => putD acc kv.1 kv.2) l
theorem RKs.merge {K : Frag} {F : Hp} {b : List (Key × V)} {e : List (Key × D)} (t : RKs K F b e) : ∀ {a : List (Key × V)} {d : List (Key × D)}, RKs K F a d → RKs K F (mergeK a b) (mergeD d e) := by
  induction b generalizing e with
  | nil =>
    intro a d r
    cases t
    exact r
  | cons kv b ih =>
    intro a d r
    cases t with
    | cons h t => exact ih t (r.put h)
def dispE (r : List (Fv × Fv)) : Fe := fun ρ => match pairF r ρ with
  | some (l, ρ1) => if decide (l.length ≤ 15) then some (.new (.dK (mergeD [] l)), ρ1) else none
  | none => none
section
variable {X : Cx} {pos : Pos}
theorem eps_nil : PPs X pos [] [] (([] : List (Fv × Fv)).map fun p => (tV X.K p.1, tV X.K p.2)) := pps_nil
theorem eps_cons {k v : Expr} {ks : List (Option Expr)} {vs : List Expr} {fk fv : Fv} {r : List (Fv × Fv)} (hk : PE X k (tV X.K fk)) (hv : PE X v (tV X.K fv)) (h : PPs X pos ks vs (r.map fun p => (tV X.K p.1, tV X.K p.2))) : PPs X pos (some k :: ks) (v :: vs) (((fk, fv) :: r).map fun p => (tV X.K p.1, tV X.K p.2)) := pps_cons hk hv h
theorem ev_disp {keys : List (Option Expr)} {vals : List Expr} {r : List (Fv × Fv)} (h : PPs X pos keys vals (r.map fun p => (tV X.K p.1, tV X.K p.2))) (h1 : (keys.all fun x => x.isSome) = true) (h2 : keys.length = vals.length) (h3 : keys ≠ []) (h4 : keys.length ≤ 15) : PE X (.Dict keys vals pos) (tE X.K (dispE r)) :=
  PE.weak (pe_disp h h1 h2 h3 h4) fun σ H Q ⟨G, B, F, ρ, z, ρ', rp, ef, k⟩ => by
    unfold dispE at ef
    cases q : pairF r ρ with
    | none => rw [q] at ef; cases ef
    | some x1 =>
      obtain ⟨l, ρ1⟩ := x1
      rw [q] at ef
      simp only at ef
      split at ef
      · rename_i hl
        cases ef
        intro p hp
        obtain ⟨a, b, g, d⟩ := rp.new (o := .dK []) hp
        refine pairs_ok r _ B F _ ρ ρ' σ l _ (a.inG upd_same b g d) q fun kvs F1 H1 e1 rp1 r1 => ?_
        have ln : kvs.length ≤ 15 := by rw [r1.len]; exact of_decide_eq_true hl
        refine ⟨rp1.exG p _ upd_same, kvs, rfl, ln, ?_⟩
        obtain ⟨a1, b1, c1, d1⟩ := (rp1.chG (o' := .dK (mergeK [] kvs))).outG g
        exact k _ F1 _ e1 a1 ⟨p, rfl, b1, g, ⟨_, upd_same, RKs.merge r1 .nil⟩, d1⟩
      · cases ef
/-- {} -/
theorem ev_dnew : PE X (.Dict [] [] pos) (tE X.K fun ρ => some (.new (.dK []), ρ)) :=
  PE.weak pe_dnewK fun σ H Q ⟨G, B, F, ρ, z, ρ', rp, ef, k⟩ => by
    cases ef
    intro p hp
    obtain ⟨a, b, g, d⟩ := rp.new (o := .dK []) hp
    exact k _ F _ (Ex.refl F) a ⟨p, rfl, b, g, ⟨_, upd_same, .nil⟩, d⟩
def lcRngE (rd : List D → Option (List D)) (vs : List Nat) (t : Tg) (it : Fl) (c : Fb) (e : Fv) : Fe := fun ρ => match it ρ with
  | some (ds, ρ1) => (match rd ds with
    | some l => lcRun vs t c e l ρ1
    | none => none)
  | none => none
theorem wk_lcInts {G : Hp} {B : List (Nat × Addr)} {F H1 : Hp} {ρ1 ρ2 : EnvD} {own : List Nat} {t : Tg} {fc : Fb} {fe : Fv} {σ : L2.St} {lo : Int} {n : Nat} {acc : List D} {D0 : Addr} {Q : VK} (ht : ∀ j, j ∈ t.ix → j ∈ own) (rp1 : Rep X.K G B F H1 ρ1 σ) (hn : noCell ρ1 own = true) (q3 : lcLoop own t fc fe (intsD lo n) [] (clr ρ1 own) = some (acc, ρ2)) (hD : H1 D0 = none)
    (z : ∀ F' H', Ex F F' → Rep X.K G B F' H' (back ρ1 (clr ρ2 own) own) σ → RRe X.K G F' H' (back ρ1 (clr ρ2 own) own) σ (.ref D0) (.new (.lst acc)) → Q (.ref D0) H') :
    ∃ W : Nat → Nat → Hp → Prop, (∃ m, W 0 m (upd H1 D0 (.lst []))) ∧ ∀ (i m : Nat) (H : Hp), W i m H → (Itr lo n).stop i H ∧ Q (.ref D0) H ∨ (Itr lo n).go i H ∧ ∃ Nx : Hp → Prop, (∀ H' : Hp, Nx H' → ∃ m', m' < m ∧ W (i + 1) m' H') ∧ ∀ (x : V) (H' : Hp), (Itr lo n).yld i H x H' → gT X.K t x (L2.wipe σ own) H' fun σ2 H2 => L2.wipe σ2 own = L2.wipe σ own ∧ tT X.K fc σ2 H2 fun b H3 => if b = true then tV X.K fe σ2 H3 fun y H4 => ∃ acc, H4 D0 = some (.lst acc) ∧ acc.length < sizeLine ∧ Nx (upd H4 D0 (.lst (acc ++ [y]))) else Nx H3 := by
  obtain ⟨hG, st⟩ := lturn_start rp1 hn hD q3
  refine lc_range (LTurn X.K G B F own t fc fe (intsD lo n) D0 σ (acc, ρ2)) st (fun i H hi q => lturn_ok (x := .int (lo + (i : Nat))) ints_Rs ht (by rw [List.getElem?_map, List.getElem?_range hi]; rfl) q) (fun H q => ?_)
  obtain ⟨F2, e2, rp2, rr⟩ := lturn_end (r := .val .non) (ints_Rs (K := X.K) (F := F) (lo := lo) (n := n)) rp1 hn hG (by rw [List.length_map, List.length_range]; exact q)
  exact z F2 H e2 rp2 rr
theorem wk_lcR1 {own : List Nat} {t : Tg} {fl : Fl} {fc : Fb} {fe : Fv} (ht : ∀ j, j ∈ t.ix → j ∈ own) (σ : L2.St) (H : Hp) (Q : VK) (h : tE X.K (lcRngE rngD1 own t fl fc fe) σ H Q) :
    tLc (iRng1 (tL X.K fl)) (gT X.K t) (tT X.K fc) (tV X.K fe) own σ H Q := by
  obtain ⟨G, B, F, ρ, r, ρ', rp, ef, z⟩ := h
  unfold lcRngE at ef
  cases q1 : fl ρ with
  | none => rw [q1] at ef; cases ef
  | some y1 =>
    obtain ⟨ds, ρ1⟩ := y1
    rw [q1] at ef
    simp only at ef
    cases q2 : rngD1 ds with
    | none => rw [q2] at ef; cases ef
    | some l =>
      rw [q2] at ef
      obtain ⟨hn, acc, ρ2, q3, rfl, rfl⟩ := lcRun_inv ef
      obtain ⟨j, rfl, hj, rfl⟩ := rngD1_inv q2
      refine ⟨G, B, F, ρ, _, ρ1, rp, q1, fun vs F1 H1 e1 rp1 r1 => ?_⟩
      obtain ⟨a1, a2⟩ := in62_ok hj
      exact ⟨j, Rs.one_inv r1, a1, a2, fun D0 hD => wk_lcInts ht rp1 hn q3 hD fun F2 H2 e2 rp2 rr => z _ F2 H2 (e1.trans e2) rp2 rr⟩
theorem wk_lcR2 {own : List Nat} {t : Tg} {fl : Fl} {fc : Fb} {fe : Fv} (ht : ∀ j, j ∈ t.ix → j ∈ own) (σ : L2.St) (H : Hp) (Q : VK) (h : tE X.K (lcRngE rngD2 own t fl fc fe) σ H Q) :
    tLc (iRng2 (tL X.K fl)) (gT X.K t) (tT X.K fc) (tV X.K fe) own σ H Q := by
  obtain ⟨G, B, F, ρ, r, ρ', rp, ef, z⟩ := h
  unfold lcRngE at ef
  cases q1 : fl ρ with
  | none => rw [q1] at ef; cases ef
  | some y1 =>
    obtain ⟨ds, ρ1⟩ := y1
    rw [q1] at ef
    simp only at ef
    cases q2 : rngD2 ds with
    | none => rw [q2] at ef; cases ef
    | some l =>
      rw [q2] at ef
      obtain ⟨hn, acc, ρ2, q3, rfl, rfl⟩ := lcRun_inv ef
      obtain ⟨i, j, rfl, hi, hj, rfl⟩ := rngD2_inv q2
      refine ⟨G, B, F, ρ, _, ρ1, rp, q1, fun vs F1 H1 e1 rp1 r1 => ?_⟩
      obtain ⟨a1, a2⟩ := in62_ok hi
      obtain ⟨b1, b2⟩ := in62_ok hj
      exact ⟨i, j, Rs.two_inv r1, ⟨a1, a2, b1, b2⟩, fun D0 hD => wk_lcInts ht rp1 hn q3 hD fun F2 H2 e2 rp2 rr => z _ F2 H2 (e1.trans e2) rp2 rr⟩
end
end Ev
/-! Ev12 -/
namespace Ev
open PySem PySem.Spec PyProof.Rows L2
abbrev OpB := D → D → Option Bool
def CmpOk (K : Frag) (r : R2) (g : OpB) : Prop := ∀ (F H : Hp) (v u : V) (x y : D) (b : Bool) (Q : VK), Ex F H → RL K F H v x → RL K F H u y → g x y = some b → Q (.bl b) H → r v u H Q
theorem CmpOk.or {K : Frag} {r r' : R2} {g g' : OpB} (h : CmpOk K r g) (h' : CmpOk K r' g') : CmpOk K (fun x y H Q => r x y H Q ∨ r' x y H Q) (fun x y => (g x y).or (g' x y)) := by
  intro F H v u x y b Q e r1 r2 q k
  have q : (g x y).or (g' x y) = some b := q
  cases z : g x y with
  | some b2 =>
    rw [z] at q
    cases q
    exact .inl (h F H v u x y b Q e r1 r2 z k)
  | none =>
    rw [z] at q
    exact .inr (h' F H v u x y b Q e r1 r2 q k)
def look2 (f1 f2 : Fo) (ρ : EnvD) : Option (D × D × EnvD) := match f1 ρ with
  | some (a, ρ1) => (match f2 ρ1 with
    | some (b, ρ2) => (match lookA ρ2 a, lookA ρ2 b with
      | some x, some y => some (x, y, ρ2)
      | _, _ => none)
    | none => none)
  | none => none
def cmpE (g : OpB) (f1 f2 : Fo) : Fe := fun ρ => match look2 f1 f2 ρ with
  | some (x, y, ρ2) => (g x y).map fun b => (.val (.bl b), ρ2)
  | none => none
def cmpT (g : OpB) (f1 f2 : Fo) : Fb := fun ρ => match look2 f1 f2 ρ with
  | some (x, y, ρ2) => (g x y).map fun b => (b, ρ2)
  | none => none
theorem look2_ok {K : Frag} {r : R2} {g : OpB} (ok : CmpOk K r g) {f1 f2 : Fo} {σ : L2.St} {H : Hp} {Q : VK} {G : Hp} {B : List (Nat × Addr)} {F : Hp} {ρ ρ2 : EnvD} {x y : D} {b : Bool} (rp : Rep K G B F H ρ σ) (e : look2 f1 f2 ρ = some (x, y, ρ2)) (q : g x y = some b) (k : ∀ F' H', Ex F F' → Rep K G B F' H' ρ2 σ → Q (.bl b) H') : tOp r (tO K f1) (tO K f2) σ H Q := by
  unfold look2 at e
  cases q1 : f1 ρ with
  | none => rw [q1] at e; cases e
  | some x1 =>
    obtain ⟨a, ρ1⟩ := x1
    rw [q1] at e
    simp only at e
    cases q2 : f2 ρ1 with
    | none => rw [q2] at e; cases e
    | some x2 =>
      obtain ⟨b', ρ3⟩ := x2
      rw [q2] at e
      simp only at e
      split at e
      · rename_i x3 y3 h1 h2
        cases e
        refine ⟨G, B, F, ρ, a, ρ1, rp, q1, fun v F1 H1 e1 rp1 r1 => ?_⟩
        refine ⟨G, B, F1, ρ1, b', ρ2, rp1, q2, fun u F2 H2 e2 rp2 r2 => ?_⟩
        exact ok F2 H2 v u x y b Q rp2.exF (look_ok rp2 (r1.mono e2) h1) (look_ok rp2 r2 h2) q (k F2 H2 (e1.trans e2) rp2)
      · cases e
section
variable {X : Cx} {a b : Expr} {f1 f2 : Fo} {pos : Pos} {op : CmpOp} {r : R2} {g : OpB}
theorem ec_cmp (ho : OpR X (compareOp op) r) (ok : CmpOk X.K r g) (ha : PE X a (tO X.K f1)) (hb : PE X b (tO X.K f2)) (hm : behindInMarks op b = false) : PE X (.Compare a [op] [b] pos) (tE X.K (cmpE g f1 f2)) :=
  PE.weak (pe_cmpR ho ha hb hm) fun σ H Q ⟨G, B, F, ρ, z, ρ', rp, ef, k⟩ => by
    unfold cmpE at ef
    cases q : look2 f1 f2 ρ with
    | none => rw [q] at ef; cases ef
    | some y =>
      obtain ⟨x, y, ρ2⟩ := y
      rw [q] at ef
      obtain ⟨b, e1, e2⟩ := Option.map_eq_some_iff.mp ef
      cases e2
      exact look2_ok ok rp q e1 fun F' H' e rp' => k _ F' H' e rp' (.bl b)
theorem ec_cmpT (ho : OpR X (compareOp op) r) (ok : CmpOk X.K r g) (ha : PE X a (tO X.K f1)) (hb : PE X b (tO X.K f2)) (hm : behindInMarks op b = false) : PT X (.Compare a [op] [b] pos) (tT X.K (cmpT g f1 f2)) :=
  PT.weak (pt_cmpR ho ha hb hm) fun σ H Q ⟨G, B, F, ρ, z, ρ', rp, ef, k⟩ => by
    unfold cmpT at ef
    cases q : look2 f1 f2 ρ with
    | none => rw [q] at ef; cases ef
    | some y =>
      obtain ⟨x, y, ρ2⟩ := y
      rw [q] at ef
      obtain ⟨b, e1, e2⟩ := Option.map_eq_some_iff.mp ef
      cases e2
      exact look2_ok (Q := fun x H1 => ∃ k, x = .bl k ∧ Q k H1) ok rp q e1 fun F' H' e rp' => ⟨_, rfl, k F' H' e rp'⟩
end
def bInt (g : Int → Int → Bool) : OpB := fun x y => match x, y with
  | .int i, .int j => some (g i j)
  | _, _ => none
theorem bInt_ok {K : Frag} {g : Int → Int → Bool} : CmpOk K (rI0 fun i j => .bl (g i j)) (bInt g) := by
  intro F H v u x y b Q e r1 r2 q k
  unfold bInt at q
  split at q
  · cases q
    cases r1.int
    cases r2.int
    exact ⟨_, _, rfl, rfl, k⟩
  · cases q
def bStr (g : Str → Str → Bool) : OpB := fun x y => match x, y with
  | .str i, .str j => some (g i j)
  | _, _ => none
theorem bStr_ok {K : Frag} {g : Str → Str → Bool} : CmpOk K (fun x y H Q => ∃ i j, x = .str i ∧ y = .str j ∧ Q (.bl (g i j)) H) (bStr g) := by
  intro F H v u x y b Q e r1 r2 q k
  unfold bStr at q
  split at q
  · cases q
    cases r1.str
    cases r2.str
    exact ⟨_, _, rfl, rfl, k⟩
  · cases q
abbrev bLt : OpB := fun x y => (bInt (fun i j => decide (i < j)) x y).or (bStr ltS x y)
abbrev bGt : OpB := fun x y => (bInt (fun i j => decide (j < i)) x y).or (bStr (fun i j => ltS j i) x y)
abbrev bLe : OpB := fun x y => (bInt (fun i j => decide (i ≤ j)) x y).or (bStr (fun i j => !ltS j i) x y)
abbrev bGe : OpB := fun x y => (bInt (fun i j => decide (j ≤ i)) x y).or (bStr (fun i j => !ltS i j) x y)
/-- == of flat values and of data of any depth -/
def bEqF (neg : Bool) : OpB := fun x y => match toFlat x, toFlat y with
  | some v, some u => if scal v u then some (if neg then !decide (v = u) else decide (v = u)) else none
  | _, _ => none
theorem bEqF_ok {K : Frag} : CmpOk K rEq (bEqF false) := by
  intro F H v u x y b Q e r1 r2 q k
  unfold bEqF at q
  split at q
  · rename_i v1 u1 h1 h2
    obtain ⟨rfl, _⟩ := r1.flat h1
    obtain ⟨rfl, _⟩ := r2.flat h2
    split at q
    · rename_i hs
      cases q
      exact ⟨hs, k⟩
    · cases q
  · cases q
theorem bNeF_ok {K : Frag} : CmpOk K rNe (bEqF true) := by
  intro F H v u x y b Q e r1 r2 q k
  unfold bEqF at q
  split at q
  · rename_i v1 u1 h1 h2
    obtain ⟨rfl, _⟩ := r1.flat h1
    obtain ⟨rfl, _⟩ := r2.flat h2
    split at q
    · rename_i hs
      cases q
      exact ⟨hs, k⟩
    · cases q
  · cases q
theorem RL.dp {K : Frag} {F H : Hp} (e : Ex F H) {v : V} {d : D} {p : PyData} (r : RL K F H v d) (h : toPy d = some p) : Dp K H v p := by
  rcases r with r | ⟨l, rfl, c⟩
  · exact toPy_ok e r h
  · cases d with
    | lst ds =>
      obtain ⟨xs, a, b⟩ := c
      unfold toPy at h
      obtain ⟨ps, h1, h2⟩ := Option.map_eq_some_iff.mp h
      subst h2
      exact .lst (SqL.of a) (toPys_ok e b h1)
    | dK _ => cases h
    | dT _ => cases h
    | _ => exact c.elim
def bEqD (neg : Bool) : OpB := fun x y => match toPy x, toPy y with
  | some p, some q => if SeqAt.shaped p && SeqAt.shaped q then some (if neg then !PyData.eqv p q else PyData.eqv p q) else none
  | _, _ => none
theorem bEqD_ok {K : Frag} : CmpOk K (rEqD K) (bEqD false) := by
  intro F H v u x y b Q e r1 r2 q k
  unfold bEqD at q
  split at q
  · rename_i p1 p2 h1 h2
    split at q
    · rename_i hs
      obtain ⟨a1, a2⟩ := Bool.and_eq_true_iff.mp hs
      cases q
      exact ⟨p1, p2, r1.dp e h1, r2.dp e h2, a1, a2, k⟩
    · cases q
  · cases q
theorem bNeD_ok {K : Frag} : CmpOk K (rNeD K) (bEqD true) := by
  intro F H v u x y b Q e r1 r2 q k
  unfold bEqD at q
  split at q
  · rename_i p1 p2 h1 h2
    split at q
    · rename_i hs
      obtain ⟨a1, a2⟩ := Bool.and_eq_true_iff.mp hs
      cases q
      exact ⟨p1, p2, r1.dp e h1, r2.dp e h2, a1, a2, k⟩
    · cases q
  · cases q
abbrev bEq (neg : Bool) : OpB := fun x y => (bEqF neg x y).or (bEqD neg x y)
def bInF (neg : Bool) : OpB := fun x y => match toFlat x, itemsOf y with
  | some v, some l => (match toFlats l with
    | some vs => some (if neg then !inV v vs else inV v vs)
    | none => none)
  | _, _ => none
theorem bInF_ok {K : Frag} {neg : Bool} : CmpOk K (rIn K neg) (bInF neg) := by
  intro F H v u x y b Q e r1 r2 q k
  unfold bInF at q
  split at q
  · rename_i v1 l h1 h2
    split at q
    · rename_i vs h3
      cases q
      obtain ⟨rfl, f1⟩ := r1.flat h1
      obtain ⟨p, xs, rfl, hs, rs⟩ := r2.items e h2
      obtain ⟨rfl, f2⟩ := toFlats_ok rs h3
      exact ⟨p, xs, rfl, hs, f1, f2, k⟩
    · cases q
  · cases q
def bIn1 (neg : Bool) : OpB := fun x y => match x, y with
  | .str i, .str j => (match i.cps.toList with
    | [c] => some (if neg then !decide (c ∈ j.cps.toList) else decide (c ∈ j.cps.toList))
    | _ => none)
  | _, _ => none
theorem bIn1_ok {K : Frag} {neg : Bool} : CmpOk K (rIn1 neg) (bIn1 neg) := by
  intro F H v u x y b Q e r1 r2 q k
  unfold bIn1 at q
  split at q
  · split at q
    · rename_i c hc
      cases q
      cases r1.str
      cases r2.str
      exact ⟨c, _, by rw [one_sign hc], rfl, k⟩
    · cases q
  · cases q
abbrev bIn (neg : Bool) : OpB := fun x y => (bInF neg x y).or (bIn1 neg x y)
def bIsN (neg : Bool) : OpB := fun x y => match y with
  | .non => some (match x with
    | .non => !neg
    | _ => neg)
  | _ => none
theorem isN_RL {K : Frag} {F H : Hp} {v : V} {x : D} (r : RL K F H v x) : decide (v = .non) = (match x with
    | .non => true
    | _ => false) := by
  rcases r with r | ⟨l, rfl, c⟩
  · cases r <;> rfl
  · cases x <;> first | rfl | exact c.elim
theorem RL.non {K : Frag} {F H : Hp} {v : V} (r : RL K F H v .non) : v = .non := by
  rcases r with r | ⟨l, _, c⟩
  · cases r; rfl
  · exact c.elim
section
variable {X : Cx} {a b : Expr} {f1 f2 : Fo} {pos : Pos}
variable (ha : PE X a (tO X.K f1)) (hb : PE X b (tO X.K f2))
include ha hb
theorem ec_lt : PE X (.Compare a [.Lt] [b] pos) (tE X.K (cmpE bLt f1 f2)) := ec_cmp (OpR.or op_lt op_lt_str) (bInt_ok.or bStr_ok) ha hb (nomark _)
theorem ec_gt : PE X (.Compare a [.Gt] [b] pos) (tE X.K (cmpE bGt f1 f2)) := ec_cmp (OpR.or op_gt op_gt_str) (bInt_ok.or bStr_ok) ha hb (nomark _)
theorem ec_le : PE X (.Compare a [.LtE] [b] pos) (tE X.K (cmpE bLe f1 f2)) := ec_cmp (OpR.or op_le op_le_str) (bInt_ok.or bStr_ok) ha hb (nomark _)
theorem ec_ge : PE X (.Compare a [.GtE] [b] pos) (tE X.K (cmpE bGe f1 f2)) := ec_cmp (OpR.or op_ge op_ge_str) (bInt_ok.or bStr_ok) ha hb (nomark _)
theorem ec_eq (hu : X.A.units + 64 < cLine) : PE X (.Compare a [.Eq] [b] pos) (tE X.K (cmpE (bEq false) f1 f2)) := ec_cmp (OpR.or op_eq (op_eqD hu)) (bEqF_ok.or bEqD_ok) ha hb (nomark _)
theorem ec_ne (hu : X.A.units + 64 < cLine) : PE X (.Compare a [.NotEq] [b] pos) (tE X.K (cmpE (bEq true) f1 f2)) := ec_cmp (OpR.or op_ne (op_neD hu)) (bNeF_ok.or bNeD_ok) ha hb (nomark _)
theorem ec_in (hm : behindInMarks .In b = false) : PE X (.Compare a [.In] [b] pos) (tE X.K (cmpE (bIn false) f1 f2)) := ec_cmp (OpR.or op_in_seq op_in_sign) (bInF_ok.or bIn1_ok) ha hb hm
theorem ec_notIn (hm : behindInMarks .NotIn b = false) : PE X (.Compare a [.NotIn] [b] pos) (tE X.K (cmpE (bIn true) f1 f2)) := ec_cmp (OpR.or op_notIn_seq op_notIn_sign) (bInF_ok.or bIn1_ok) ha hb hm
theorem ct_lt : PT X (.Compare a [.Lt] [b] pos) (tT X.K (cmpT bLt f1 f2)) := ec_cmpT (OpR.or op_lt op_lt_str) (bInt_ok.or bStr_ok) ha hb (nomark _)
theorem ct_gt : PT X (.Compare a [.Gt] [b] pos) (tT X.K (cmpT bGt f1 f2)) := ec_cmpT (OpR.or op_gt op_gt_str) (bInt_ok.or bStr_ok) ha hb (nomark _)
theorem ct_le : PT X (.Compare a [.LtE] [b] pos) (tT X.K (cmpT bLe f1 f2)) := ec_cmpT (OpR.or op_le op_le_str) (bInt_ok.or bStr_ok) ha hb (nomark _)
theorem ct_ge : PT X (.Compare a [.GtE] [b] pos) (tT X.K (cmpT bGe f1 f2)) := ec_cmpT (OpR.or op_ge op_ge_str) (bInt_ok.or bStr_ok) ha hb (nomark _)
theorem ct_eq (hu : X.A.units + 64 < cLine) : PT X (.Compare a [.Eq] [b] pos) (tT X.K (cmpT (bEq false) f1 f2)) := ec_cmpT (OpR.or op_eq (op_eqD hu)) (bEqF_ok.or bEqD_ok) ha hb (nomark _)
theorem ct_ne (hu : X.A.units + 64 < cLine) : PT X (.Compare a [.NotEq] [b] pos) (tT X.K (cmpT (bEq true) f1 f2)) := ec_cmpT (OpR.or op_ne (op_neD hu)) (bNeF_ok.or bNeD_ok) ha hb (nomark _)
theorem ct_in (hm : behindInMarks .In b = false) : PT X (.Compare a [.In] [b] pos) (tT X.K (cmpT (bIn false) f1 f2)) := ec_cmpT (OpR.or op_in_seq op_in_sign) (bInF_ok.or bIn1_ok) ha hb hm
theorem ct_notIn (hm : behindInMarks .NotIn b = false) : PT X (.Compare a [.NotIn] [b] pos) (tT X.K (cmpT (bIn true) f1 f2)) := ec_cmpT (OpR.or op_notIn_seq op_notIn_sign) (bInF_ok.or bIn1_ok) ha hb hm
end
theorem isN_ok {K : Frag} : CmpOk K (fun x y H Q => y = .non ∧ Q (.bl (decide (x = .non))) H) (bIsN false) := by
  intro F H v u x y b Q e r1 r2 q k
  unfold bIsN at q
  split at q
  · cases r2.non
    refine ⟨rfl, ?_⟩
    rw [isN_RL r1]
    cases x <;> cases q <;> exact k
  · cases q
theorem notN_ok {K : Frag} : CmpOk K (fun x y H Q => y = .non ∧ Q (.bl (!decide (x = .non))) H) (bIsN true) := by
  intro F H v u x y b Q e r1 r2 q k
  unfold bIsN at q
  split at q
  · cases r2.non
    refine ⟨rfl, ?_⟩
    rw [isN_RL r1]
    cases x <;> cases q <;> exact k
  · cases q
section
variable {X : Cx} {a b : Expr} {f1 f2 : Fo} {pos : Pos}
theorem ec_isN (ha : PE X a (tO X.K f1)) (hb : PE X b (tO X.K f2)) : PE X (.Compare a [.Is] [b] pos) (tE X.K (cmpE (bIsN false) f1 f2)) := ec_cmp op_isN isN_ok ha hb (nomark _)
theorem ec_notN (ha : PE X a (tO X.K f1)) (hb : PE X b (tO X.K f2)) : PE X (.Compare a [.IsNot] [b] pos) (tE X.K (cmpE (bIsN true) f1 f2)) := ec_cmp op_notN notN_ok ha hb (nomark _)
theorem ct_isN (ha : PE X a (tO X.K f1)) (hb : PE X b (tO X.K f2)) : PT X (.Compare a [.Is] [b] pos) (tT X.K (cmpT (bIsN false) f1 f2)) := ec_cmpT op_isN isN_ok ha hb (nomark _)
theorem ct_notN (ha : PE X a (tO X.K f1)) (hb : PE X b (tO X.K f2)) : PT X (.Compare a [.IsNot] [b] pos) (tT X.K (cmpT (bIsN true) f1 f2)) := ec_cmpT op_notN notN_ok ha hb (nomark _)
def truA (ρ : EnvD) : AD → Option Bool
  | .v d => truN d
  | .r i => match ρ[i]? with
    | some (.val d) => truN d
    | some (.own d) => truD d
    | some (.ref d) => truD d
    | _ => none
def truO (f : Fo) : Fb := fun ρ => match f ρ with
  | some (a, ρ1) => (truA ρ1 a).map fun k => (k, ρ1)
  | none => none
theorem cell_tru {K : Frag} {F H : Hp} {l : Addr} {d : D} {k : Bool} (c : Cell K F H l d) (q : truD d = some k) : TruV K (.ref l) H k := by
  cases d with
  | lst l => cases q; obtain ⟨xs, a, b⟩ := c; exact .inl ⟨_, SqL.of a, by rw [isEmpty_len b.len]⟩
  | dK l => cases q; obtain ⟨xs, a, b⟩ := c; exact .inr (.inr ⟨_, a, by rw [isEmpty_len b.len]⟩)
  | dT l => cases q
  | _ => exact c.elim
theorem et_look (h : PE X a (tO X.K f1)) (he : ∀ whole, PySem.isTrue a X.env whole = (do let v ← whole; standAt a.pos; holding [v] (truthy v))) : PT X a (tT X.K (truO f1)) :=
  PT.weak (pt_truth h he) fun σ H Q ⟨G, B, F, ρ, k, ρ', rp, ef, q⟩ => by
    unfold truO at ef
    cases q1 : f1 ρ with
    | none => rw [q1] at ef; cases ef
    | some x1 =>
      obtain ⟨d, ρ1⟩ := x1
      rw [q1] at ef
      obtain ⟨k1, e1, e2⟩ := Option.map_eq_some_iff.mp ef
      cases e2
      refine ⟨G, B, F, ρ, d, _, rp, q1, fun v F1 H1 e1' rp1 r1 => ⟨_, ?_, q F1 H1 e1' rp1⟩⟩
      cases d with
      | v d => exact truN_ok rp1.exF r1 e1
      | r i =>
        have r1 : σ[i]? = some (some v) := r1
        unfold truA at e1
        cases q2 : ρ'[i]? with
        | none => simp only [q2] at e1; cases e1
        | some sl =>
          simp only [q2] at e1
          cases sl with
          | none => cases e1
          | val d =>
            obtain ⟨u, a1, a2⟩ := rp1.val i d q2
            rw [r1] at a1
            cases a1
            exact truN_ok rp1.exF a2 e1
          | own d =>
            obtain ⟨l, a1, a2, a3, a4⟩ := rp1.own i d (cell_own q2)
            rw [r1] at a1
            cases a1
            exact cell_tru a4 e1
          | ref d =>
            obtain ⟨l, a1, a2, a3, a4⟩ := rp1.own i d (cell_ref q2)
            rw [r1] at a1
            cases a1
            exact cell_tru a4 e1
/-- x[i] of lists, tuples, texts, dicts -/
abbrev gSub2 (x y : D) : Option D := (gIx x y).or (gDget x y)
theorem ixE_or {g g' : D → D → Option D} {fo : Fo} {fv : Fv} {ρ ρ' : EnvD} {z : Re} (h : ixE (fun x y => (g x y).or (g' x y)) fo fv ρ = some (z, ρ')) : ixE g fo fv ρ = some (z, ρ') ∨ ixE g' fo fv ρ = some (z, ρ') := by
  obtain ⟨a, ρ1, y, x, d, q1, q2, q3, q4, rfl⟩ := ixE_inv h
  unfold ixE
  rw [q1]
  simp only [q2, q3]
  cases q5 : g x y with
  | some d2 =>
    rw [q5] at q4
    cases q4
    exact .inl rfl
  | none =>
    rw [q5] at q4
    have q4 : g' x y = some d := q4
    rw [q4]
    exact .inr rfl
theorem ev_sub2 {fo : Fo} {f2 : Fv} (hu : X.A.units + 1 < cLine) (ha : PE X a (tO X.K fo)) (hb : PE X b (tV X.K f2)) (hs : PlainIx b) (hs2 : NoSl b) : PE X (.Subscript a b pos) (tE X.K (ixE gSub2 fo f2)) :=
  PE.weak (PE.or (ev_ix (pos := pos) ha hb hs) (ev_dget (pos := pos) hu ha hb hs2)) fun σ H Q ⟨G, B, F, ρ, z, ρ', rp, ef, k⟩ => by
    rcases ixE_or ef with h | h
    · exact .inl ⟨G, B, F, ρ, z, ρ', rp, h, k⟩
    · exact .inr ⟨G, B, F, ρ, z, ρ', rp, h, k⟩
end
section
variable {X : Cx}
theorem ev_call {CX : CXT} {k : Nat} {f : Addr} {fd : FuncData} {ps : List Str} {ms : List Bool} {ff : List D → Option (Re × List D)} {dvs : List V} {ds : List Value} {dds : List D} {E : XK} {x : Str} {p pos : Pos} {e : Expr} {es : List Expr} {fa : Fa}
    (G : FnOk X.prog X.w X.K X.mg X.base CX k f fd ps (spD X.K ms ff)) (hr : Room k X.A) (gl : Gl X x) (hm : X.mg x = some (.ref f)) (kp : W.keepIn X.K (.ref f) = true) (b : Binds X.K fd ps ds) (hv : Vals dvs ds) (hd : ∀ F : Hp, Rs X.K F dvs dds) (pa : Passes CX X E) (ha : PA X (e :: es) (tA X.K fa))
    (h1 : (x == Str.ofString "__debug__") = false) (h2 : starEach (e :: es) X.env = (false, eval e X.env) :: starEach es X.env) (h3 : ((backTo pos (starEach es X.env)).any fun x => x.fst) = false) : PE X (.Call (.Name x p) (e :: es) [] pos) (tE X.K (callE ms dds ff fa)) :=
  PE.weak (pe_call G hr gl hm kp b hv pa ha h1 h2 h3) fun σ H Q => wk_call hd σ H Q
theorem ev_call0 {CX : CXT} {k : Nat} {f : Addr} {fd : FuncData} {ps : List Str} {ms : List Bool} {ff : List D → Option (Re × List D)} {dvs : List V} {ds : List Value} {dds : List D} {E : XK} {x : Str} {p pos : Pos}
    (G : FnOk X.prog X.w X.K X.mg X.base CX k f fd ps (spD X.K ms ff)) (hr : Room k X.A) (gl : Gl X x) (hm : X.mg x = some (.ref f)) (kp : W.keepIn X.K (.ref f) = true) (b : Binds X.K fd ps ds) (hv : Vals dvs ds) (hd : ∀ F : Hp, Rs X.K F dvs dds) (pa : Passes CX X E)
    (h1 : (x == Str.ofString "__debug__") = false) : PE X (.Call (.Name x p) [] [] pos) (tE X.K (callE ms dds ff anilF)) :=
  PE.weak (pe_call0 G hr gl hm kp b hv pa h1) fun σ H Q h => by
    have h2 : tCall (spD X.K ms ff) dvs E (tA X.K anilF) σ H Q := wk_call hd σ H Q h
    obtain ⟨G, B, F, ρ, as, ρ', rp, ef, z⟩ := h2
    cases ef
    exact z [] F H (Ex.refl F) rp .nil
theorem ev_lc {vs : List Nat} {elt tg iter : Expr} {ifs : List Expr} {scope : Scope} {own : List (Str × Nat)} {pos : Pos} {t : Tg} {f1 fe : Fv} {fc : Fb} (hc : X.calm = true) (hN : X.N.Nodup) (hi : PE X iter (tV X.K f1)) (ok : BlkOk X.N X.env.scope scope own)
    (hg : ∀ (s : Shared) (H : Hp) (C : Addr) (cl : List (Str × Addr)) (fp : List Addr), PG (X.blk s H scope (compEnvC scope cl C X.env) fp) tg (gT X.K t))
    (hf : ∀ (s : Shared) (H : Hp) (C : Addr) (cl : List (Str × Addr)) (fp : List Addr), PTs (X.blk s H scope (compEnvC scope cl C X.env) fp) ifs (tT X.K fc))
    (he : ∀ (s : Shared) (H : Hp) (C : Addr) (cl : List (Str × Addr)) (fp : List Addr), PE (X.blk s H scope (compEnvC scope cl C X.env) fp) elt (tV X.K fe))
    (hs : ∀ x : Value, foldedSetIterable iter X.env x = pure x) (ht : ∀ j, j ∈ t.ix → j ∈ vs) (hvs : (own.map fun x => x.snd) = vs) : PE X (elt.ListComp [⟨tg, iter, ifs, 0⟩] scope pos) (tE X.K (lcE vs t f1 fc fe)) := by
  subst hvs
  exact PE.weak (pe_lc hc hN (PI.or (pi_list hi) (pi_tup hi)) ok hg hf he hs) fun σ H Q => wk_lc ht σ H Q
theorem ev_lcR1 {vs : List Nat} {elt tg a : Expr} {p pos2 : Pos} {ifs : List Expr} {scope : Scope} {own : List (Str × Nat)} {pos : Pos} {t : Tg} {fl : Fl} {fe : Fv} {fc : Fb} (hc : X.calm = true) (hN : X.N.Nodup) (gl : Gl X (Str.ofString "range")) (hm : X.mg (Str.ofString "range") = none) (hi : PA X [a] (tL X.K fl)) (hst : starEach [a] X.env = [(false, eval a X.env)]) (ok : BlkOk X.N X.env.scope scope own)
    (hg : ∀ (s : Shared) (H : Hp) (C : Addr) (cl : List (Str × Addr)) (fp : List Addr), PG (X.blk s H scope (compEnvC scope cl C X.env) fp) tg (gT X.K t))
    (hf : ∀ (s : Shared) (H : Hp) (C : Addr) (cl : List (Str × Addr)) (fp : List Addr), PTs (X.blk s H scope (compEnvC scope cl C X.env) fp) ifs (tT X.K fc))
    (he : ∀ (s : Shared) (H : Hp) (C : Addr) (cl : List (Str × Addr)) (fp : List Addr), PE (X.blk s H scope (compEnvC scope cl C X.env) fp) elt (tV X.K fe))
    (hs : ∀ x : Value, foldedSetIterable (Expr.Call (.Name (Str.ofString "range") p) [a] [] pos2) X.env x = pure x) (ht : ∀ j, j ∈ t.ix → j ∈ vs) (hvs : (own.map fun x => x.snd) = vs) : PE X (elt.ListComp [⟨tg, Expr.Call (.Name (Str.ofString "range") p) [a] [] pos2, ifs, 0⟩] scope pos) (tE X.K (lcRngE rngD1 vs t fl fc fe)) := by
  subst hvs
  exact PE.weak (pe_lc hc hN (pi_range1 gl hm hi hst) ok hg hf he hs) fun σ H Q => wk_lcR1 ht σ H Q
/-- y = [..] -/
theorem wk_setLc {t : TE} {i : Nat} {f : Fe} (w : ∀ σ H Q, tE X.K f σ H Q → t σ H Q) (D : Ends) (σ : L2.St) (H : Hp) (h : tS X.K (setF i f) D σ H) : tAsg t (gName i) D σ H := by
  obtain ⟨G, B, F, ρ, o, rp, ef, z⟩ := h
  unfold setF at ef
  cases q : f ρ with
  | none => rw [q] at ef; cases ef
  | some y1 =>
    obtain ⟨r, ρ1⟩ := y1
    rw [q] at ef
    have ef : (if isRef ρ1 i then none else some (Out.nx (ρ1.set i (slOf r)))) = some o := ef
    split at ef
    · cases ef
    · rename_i hr
      cases ef
      exact w σ H _ ⟨G, B, F, ρ, r, ρ1, rp, q, fun v F1 H1 e1 rp1 rr => z _ F1 H1 e1 (rp1.set i rr (by simpa using hr))⟩
theorem es_setLc {vs : List Nat} {i : Nat} {y : Str} {py spos : Pos} {elt tg iter : Expr} {ifs : List Expr} {scope : Scope} {own : List (Str × Nat)} {pos : Pos} {t : Tg} {f1 fe : Fv} {fc : Fb} (hc : X.calm = true) (hN : X.N.Nodup) (hy : X.N[i]? = some y) (hl : List.lookup y X.env.scope.names = some NameKind.local) (hsw : swapsWith (elt.ListComp [⟨tg, iter, ifs, 0⟩] scope pos) (some (.Name y py)) spos.line X.env = pure true) (hi : PE X iter (tV X.K f1)) (ok : BlkOk X.N X.env.scope scope own)
    (hg : ∀ (s : Shared) (H : Hp) (C : Addr) (cl : List (Str × Addr)) (fp : List Addr), PG (X.blk s H scope (compEnvC scope cl C X.env) fp) tg (gT X.K t))
    (hf : ∀ (s : Shared) (H : Hp) (C : Addr) (cl : List (Str × Addr)) (fp : List Addr), PTs (X.blk s H scope (compEnvC scope cl C X.env) fp) ifs (tT X.K fc))
    (he : ∀ (s : Shared) (H : Hp) (C : Addr) (cl : List (Str × Addr)) (fp : List Addr), PE (X.blk s H scope (compEnvC scope cl C X.env) fp) elt (tV X.K fe))
    (hs : ∀ x : Value, foldedSetIterable iter X.env x = pure x) (ht : ∀ j, j ∈ t.ix → j ∈ vs) (hvs : (own.map fun x => x.snd) = vs) : PS X (.Assign [.Name y py] (elt.ListComp [⟨tg, iter, ifs, 0⟩] scope pos) spos) (tS X.K (setF i (lcE vs t f1 fc fe))) := by
  subst hvs
  exact PS.weak (ps_setLc (i := i) hc hN hy hl hsw (PI.or (pi_list hi) (pi_tup hi)) ok hg hf he hs) fun D σ H h => wk_setLc (fun σ H Q => wk_lc ht σ H Q) D σ H h
def augIF (i : Nat) (g : Int → Int → Int) (f : Fv) : Fs := fun ρ => match ρ[i]? with
  | some (.val (.int a)) => (match f ρ with
    | some (.int b, ρ1) => if isRef ρ1 i then none else some (.nx (ρ1.set i (.val (.int (g a b)))))
    | _ => none)
  | _ => none
theorem es_aug {x : Str} {i : Nat} {pos pos' : Pos} {e : Expr} {op : Operator} {g : Int → Int → Int} {f : Fv} (hp : PIp X op (ipI g)) (nd : X.N.Nodup) (hN : X.N[i]? = some x) (hl : L2.Loc X.env.scope x) (h : PE X e (tV X.K f)) (hf : X.fn x = true ∨ List.lookup x X.env.scope.names = some NameKind.local) : PS X (.AugAssign (.Name x pos') op e pos) (tS X.K (augIF i g f)) :=
  PS.weak (ps_aug (i := i) nd hN hl h hp hf) fun D σ H ⟨G, B, F, ρ, o, rp, ef, z⟩ => by
    unfold augIF at ef
    split at ef
    · rename_i a ha
      split at ef
      · rename_i b ρ1 hb
        split at ef
        · cases ef
        · rename_i hr
          cases ef
          obtain ⟨v, a1, a2⟩ := rp.val i _ ha
          cases a2
          refine ⟨_, a1, G, B, F, ρ, _, ρ1, rp, hb, fun u F1 H1 e1 rp1 r1 => ?_⟩
          cases r1
          exact ⟨a, b, rfl, rfl, z _ F1 H1 e1 (rp1.set (r := .val (.int (g a b))) i (.int _) (by simpa using hr))⟩
      · cases ef
    · cases ef
end
end Ev
/-! Ev13 -/
namespace Ev
open PySem PySem.Spec PyProof.Rows L2
/-- the module's name x is a def that keeps the promise ff, at level k -/
def CallD (P : Program) (w : World) (K : Frag) (mg : Str → Option Value) (base : Heap) (k : Nat) (x : Str) (ms : List Bool) (dds : List D) (ff : List D → Option (Re × List D)) : Prop :=
  ∃ (f : Addr) (fd : FuncData) (ps : List Str) (dvs : List V) (ds : List Value), FnOk P w K mg base CX0 k f fd ps (spD K ms ff) ∧ mg x = some (.ref f) ∧ W.keepIn K (.ref f) = true ∧ Binds K fd ps ds ∧ Vals dvs ds ∧ ∀ F : Hp, Rs K F dvs dds
theorem spD_none {K : Frag} {ms : List Bool} {vs : List V} {H : Hp} {Q : VK} {E : XK} : ¬spD K ms (fun _ => none) vs H Q E := fun ⟨G, B, F, ds, r, ds', _, _, h, _⟩ => by cases h
theorem fn_zero {P : Program} {w : World} {K : Frag} {mg : Str → Option Value} {base : Heap} {CX : CXT} {f : Addr} {fd : FuncData} {ps : List Str} {ms : List Bool} {k : Nat} : FnOk P w K mg base CX k f fd ps (spD K ms fun _ => none) :=
  ⟨fun vs H Q E h => absurd h spD_none, fun A outer s H args us vs Q E _ _ _ _ h => absurd h spD_none⟩
section
variable {X : Cx}
theorem ev_c {k : Nat} {ms : List Bool} {ff : List D → Option (Re × List D)} {dds : List D} {x : Str} {p pos : Pos} {e : Expr} {es : List Expr} {fa : Fa}
    (G : CallD X.prog X.w X.K X.mg X.base k x ms dds ff) (hr : Room k X.A) (gl : Gl X x) (ha : PA X (e :: es) (tA X.K fa))
    (h1 : (x == Str.ofString "__debug__") = false) (h2 : starEach (e :: es) X.env = (false, eval e X.env) :: starEach es X.env) (h3 : ((backTo pos (starEach es X.env)).any fun x => x.fst) = false) : PE X (.Call (.Name x p) (e :: es) [] pos) (tE X.K (callE ms dds ff fa)) := by
  obtain ⟨f, fd, ps, dvs, ds, g1, g2, g3, g4, g5, g6⟩ := G
  exact ev_call g1 hr gl g2 g3 g4 g5 g6 pass0 ha h1 h2 h3
theorem ev_c0 {k : Nat} {ms : List Bool} {ff : List D → Option (Re × List D)} {dds : List D} {x : Str} {p pos : Pos}
    (G : CallD X.prog X.w X.K X.mg X.base k x ms dds ff) (hr : Room k X.A) (gl : Gl X x) (h1 : (x == Str.ofString "__debug__") = false) : PE X (.Call (.Name x p) [] [] pos) (tE X.K (callE ms dds ff anilF)) := by
  obtain ⟨f, fd, ps, dvs, ds, g1, g2, g3, g4, g5, g6⟩ := G
  exact ev_call0 g1 hr gl g2 g3 g4 g5 g6 pass0 h1
theorem ev_len {a : Expr} {f : Fa} {p pos : Pos} (gl : Gl X "len") (hm : X.mg "len" = none) (ha : PA X [a] (tA X.K f)) (h3 : starEach [a] X.env = (false, eval a X.env) :: starEach [] X.env) : PE X (.Call (.Name "len" p) [a] [] pos) (tE X.K (opLE (fun ds => (gLen ds).or (gLenS ds)) f)) :=
  ev_blt (CallR.or call_len_seq call_len_str) (gLen_ok.or gLenS_ok) gl hm boot_len ha (by decide) (by decide) h3 rfl
theorem ev_tuple {a : Expr} {f : Fa} {p pos : Pos} (gl : Gl X "tuple") (hm : X.mg "tuple" = none) (ha : PA X [a] (tA X.K f)) (h3 : starEach [a] X.env = (false, eval a X.env) :: starEach [] X.env) : PE X (.Call (.Name "tuple" p) [a] [] pos) (tE X.K (opLE gTuple f)) :=
  ev_bty call_tuple_of gTuple_ok gl hm (by decide +kernel) ha (by decide) (by decide) h3 rfl
theorem ev_list {a : Expr} {f : Fa} {p pos : Pos} (gl : Gl X "list") (hm : X.mg "list" = none) (ha : PA X [a] (tA X.K f)) (h3 : starEach [a] X.env = (false, eval a X.env) :: starEach [] X.env) : PE X (.Call (.Name "list" p) [a] [] pos) (tE X.K (opLE gList f)) :=
  ev_bty call_list_of gList_ok gl hm (by decide +kernel) ha (by decide) (by decide) h3 rfl
theorem ev_int {a : Expr} {f : Fa} {p pos : Pos} (gl : Gl X "int") (hm : X.mg "int" = none) (ha : PA X [a] (tA X.K f)) (h3 : starEach [a] X.env = (false, eval a X.env) :: starEach [] X.env) : PE X (.Call (.Name "int" p) [a] [] pos) (tE X.K (opLE gInt f)) :=
  ev_bty call_int1 gInt_ok gl hm (by decide +kernel) ha (by decide) (by decide) h3 rfl
/-- a name of the module that is a constant -/
theorem ev_glob {x : Str} {v : V} {u : Value} {d : D} {pos : Pos} (gl : Gl X x) (hm : X.mg x = some u) (hv : RelV v u) (hr : ∀ F : Hp, R X.K F v d) (h1 : (x == Str.ofString "__debug__") = false) : PE X (.Name x pos) (tE X.K (conE d)) := ev_con (pe_glob gl hm hv h1) hr
theorem setItF_or {g g' : D → D → D → Option D} {k : Nat} {fe fi : Fv} {ρ : EnvD} {o : Out} (h : setItF (fun c y d => (g c y d).or (g' c y d)) k fe fi ρ = some o) : setItF g k fe fi ρ = some o ∨ setItF g' k fe fi ρ = some o := by
  obtain ⟨d, ρ1, c0, y, ρ2, c, c', q1, q2, q3, q4, q5, rfl⟩ := setItF_inv h
  unfold setItF
  rw [q1]
  simp only [q2, q3, q4]
  cases q6 : g c y d with
  | some d2 =>
    rw [q6] at q5
    cases q5
    exact .inl rfl
  | none =>
    rw [q6] at q5
    have q5 : g' c y d = some c' := q5
    rw [q5]
    exact .inr rfl
abbrev gPut2 (c y d : D) : Option D := (gSetL c y d).or (gPutK c y d)
theorem es_setI {b e : Expr} {fe fi : Fv} {pos pos' pos2 : Pos} {x : Str} {k : Nat} (hu : X.A.units + 1 < cLine) (hN : X.N[k]? = some x) (hv : Vis X.env.scope x) (hd : (x == ("__debug__" : Str)) = false) (hcd : (x == ("__classdict__" : Str)) = false) (he : PE X e (tV X.K fe)) (hi : PE X b (tV X.K fi))
    (ha : ∀ v : Value, assign (Expr.Subscript (.Name x pos') b pos2) X.env v = do
      let ov ← holding [v] (eval (.Name x pos') X.env)
      let iv ← holding [v, ov] (eval b X.env)
      standAt pos2
      holding [v, ov, iv] (setItem ov iv v)
      release [v, ov, iv] [])
    (h1 : swapsWithSole [Expr.Subscript (.Name x pos') b pos2] e pos.line X.env = pure false) (h2 : swappedStores [Expr.Subscript (.Name x pos') b pos2] e X.env = pure none) (h3 : List.map (fun x => x.snd) (assignEach [Expr.Subscript (.Name x pos') b pos2] X.env) = [assign (Expr.Subscript (.Name x pos') b pos2) X.env]) (h4 : swapsWith e (some (Expr.Subscript (.Name x pos') b pos2)) pos.line X.env = pure false) :
    PS X (.Assign [.Subscript (.Name x pos') b pos2] e pos) (tS X.K (setItF gPut2 k fe fi)) :=
  PS.weak (PS.or (es_setL hN hv hd hcd he hi ha h1 h2 h3) (es_putK hu hN hv hd hcd he hi h4)) fun D σ H ⟨G, B, F, ρ, o, rp, ef, z⟩ => by
    rcases setItF_or ef with h | h
    · exact .inl ⟨G, B, F, ρ, o, rp, h, z⟩
    · exact .inr ⟨G, B, F, ρ, o, rp, h, z⟩
end
end Ev
/-! Ev14 -/
namespace Ev
open PySem PySem.Spec PyProof.Rows L2
/-- what a table by texts holds -/
def KTab (K : Frag) (w : World) (p : Addr) (tab : List (Str × D)) : Prop := ∀ z d, tab.lookup z = some d → ∃ v, KDct K w p z v ∧ ∀ F : Hp, R K F v d
def kgetE (tab : List (Str × D)) (f : Fv) : Fe := fun ρ => match f ρ with
  | some (.str z, ρ1) => (tab.lookup z).map fun d => (.val d, ρ1)
  | _ => none
section
variable {X : Cx} {b : Expr} {f2 : Fv} {pos pos' : Pos} {x : Str} {p : Addr}
theorem ev_kget {tab : List (Str × D)} (gl : Gl X x) (hm : X.mg x = some (.ref p)) (ht : KTab X.K X.w p tab) (hb : PE X b (tV X.K f2)) (hs : PlainIx b) (h1 : (x == Str.ofString "__debug__") = false) : PE X (.Subscript (.Name x pos') b pos) (tE X.K (kgetE tab f2)) :=
  PE.weak (pe_ix ix_kdict (pe_glob (v := .ref p) gl hm (by exact rfl) h1) hb hs) fun σ H Q ⟨G, B, F, ρ, z, ρ', rp, ef, k⟩ => by
    unfold kgetE at ef
    cases q1 : f2 ρ with
    | none => rw [q1] at ef; cases ef
    | some y =>
      obtain ⟨d, ρ1⟩ := y
      rw [q1] at ef
      cases d <;> try cases ef
      rename_i z0
      have ef : (tab.lookup z0).map (fun d => (Re.val d, ρ1)) = some (z, ρ') := ef
      obtain ⟨d, e1, e2⟩ := Option.map_eq_some_iff.mp ef
      cases e2
      obtain ⟨v, hv, hr⟩ := ht z0 d e1
      refine ⟨G, B, F, ρ, _, _, rp, q1, fun u F1 H1 e rp1 r1 => ?_⟩
      cases r1
      exact ⟨p, z0, v, rfl, rfl, hv, k v F1 H1 e rp1 (hr F1)⟩
/-- what a table by lists of texts holds -/
structure KLed (P : Program) (w : World) (K : Frag) (p : Addr) (tab : List (List Str × D)) : Prop where
  ex : ∃ (xs : List (List Str × Addr × Value)) (es : Array DictEntry) (n : Nat), K.lookup p = some { cls := .type "dict", data := .dict es n } ∧ (∀ h : Heap, K.In h → Heap.DictOfH (LedRun.knd P w) h p xs) ∧
    ∀ z d, tab.lookup z = some d → ∃ va, (atKey xs z).map (·.2) = some va ∧ ∃ v, RelV v va ∧ ∀ F : Hp, R K F v d
def rLed (P : Program) (w : World) (K : Frag) (p : Addr) (tab : List (List Str × D)) : R2 := fun x y H Q => ∃ a zs d, x = .ref p ∧ y = .ref a ∧ H a = some (.tup (zs.map V.str)) ∧ tab.lookup zs = some d ∧ ∀ v, (∀ F : Hp, R K F v d) → Q v H
theorem items_of {P : Program} {w : World} : ∀ {zs : List Str} {its : List Value}, Vals (zs.map V.str) its → ItemsAre (strKind P w) zs its
  | [], _, h => by
    cases h
    exact .nil
  | z :: zs, _, h => by
    cases h with
    | cons h t =>
      obtain ⟨tk, rfl⟩ := h
      exact .cons (by show (z == z) = true; exact beq_self_eq_true z) (items_of t)
theorem ix_led {tab : List (List Str × D)} (hu : X.A.units + 64 < cLine) (T : KLed X.prog X.w X.K p tab) : IxR X (rLed X.prog X.w X.K p tab) := by
  intro value slice pins s σ H x y v u Q I rx ry h hs
  obtain ⟨a, zs, d, rfl, rfl, ha, hd, hq⟩ := h
  obtain ⟨xs, es, n, hl, hdict, hv⟩ := T.ex
  obtain ⟨va, e1, w1, rw1, hr⟩ := hv zs d hd
  obtain ⟨pr, e2, e3⟩ := Option.map_eq_some_iff.mp e1
  have rx : v = .ref p := rx
  have ry : u = .ref a := ry
  subst rx
  subst ry
  have hdo := hdict s.heap I.kIn
  have hk : (LedRun.knd X.prog X.w).is s.heap zs a := by
    have ho := I.hok a _ ha
    unfold ObjOk at ho
    obtain ⟨_, its, hv2, o, g1, g2, m, g3⟩ := ho
    refine ⟨o, its.toArray, m, g1, g2, g3, ?_⟩
    show ItemsAre (strKind X.prog X.w) zs its
    exact items_of hv2
  have ty : s.TypeIs (.ref p) "dict" := hdo.typeIs
  refine tail_any ty slot_dict_getitem.lookup ?_ hs
  refine wpAny_getItem_heap (knd := LedRun.knd X.prog X.w) (k := zs) (p := pr) ?_ hk hdo e2 ?_
  · show X.A.units + 1 < cLine
    omega
  · refine ⟨w1, H, I.tok _, ?_, hq w1 hr⟩
    rw [e3]
    exact rw1
/-- x[a, b, ..] by texts -/
def ledE (tab : List (List Str × D)) (g : Fl) : Fe := fun ρ => match g ρ with
  | some (ds, ρ1) => (match strsOf ds with
    | some zs => if isLine zs.length then (tab.lookup zs).map fun d => (.val d, ρ1) else none
    | none => none)
  | none => none
theorem ev_led {tab : List (List Str × D)} {es : List Expr} {kk : Nat} {posT : Pos} {g : Fl} (hu : X.A.units + 64 < cLine) (gl : Gl X x) (hm : X.mg x = some (.ref p)) (T : KLed X.prog X.w X.K p tab) (hb : PA X es (tL X.K g)) (hs : PlainIx (.Tuple es kk posT)) (h1 : (x == Str.ofString "__debug__") = false) : PE X (.Subscript (.Name x pos') (.Tuple es kk posT) pos) (tE X.K (ledE tab g)) :=
  PE.weak (pe_ix (ix_led hu T) (pe_glob (v := .ref p) gl hm (by exact rfl) h1) (pe_tup hb) hs) fun σ H Q ⟨G, B, F, ρ, z, ρ', rp, ef, k⟩ => by
    unfold ledE at ef
    cases q1 : g ρ with
    | none => rw [q1] at ef; cases ef
    | some y =>
      obtain ⟨ds, ρ1⟩ := y
      rw [q1] at ef
      simp only at ef
      cases q2 : strsOf ds with
      | none => rw [q2] at ef; cases ef
      | some zs =>
        rw [q2] at ef
        simp only at ef
        split at ef <;> try cases ef
        rename_i hl
        obtain ⟨d, e1, e2⟩ := Option.map_eq_some_iff.mp ef
        cases e2
        refine ⟨G, B, F, ρ, _, _, rp, q1, fun vs F1 H1 e rp1 r1 => ?_⟩
        rw [strsOf_ok q2] at r1
        have ev := Rs.strs_inv r1
        subst ev
        refine ⟨?_, fun a ha => ?_⟩
        · rw [List.length_map]
          exact of_decide_eq_true hl
        · obtain ⟨rp2, ex⟩ := rp1.newF (o := .tup (zs.map V.str)) ha
          exact ⟨a, zs, d, rfl, rfl, upd_same, e1, fun v hr => k v _ _ (e.trans ex) rp2 (hr _)⟩
end
end Ev
/-! CompN -/
namespace Ev
open PySem PySem.Spec PyProof.Rows L2
abbrev NoE : Value → Shared → Prop := fun _ _ => False
abbrev WBody := (Shared → Prop) → Shared → Prop
def turnPre (prog : Program) (w : World) (A : Around) (t : Expr) (ifs : List Expr) (it : Value) (env : Env) (WB : WBody) (Done Again : Shared → Prop) (s : Shared) : Prop :=
  wpAny (model prog w) A (pyNext it) (fun r s1 => match r with
    | none => Done s1
    | some v => wpAny (model prog w) A (letOwnedTupleGo t it v) (fun _ s2 => wpAny (model prog w) A (assign t env v) (fun _ s3 =>
        wpAny (model prog w) A (forIn ifs true fun c r => if r = true then do let ok ← isTrue c env (eval c env); pure (ForInStep.yield ok) else pure (ForInStep.yield r)) (fun ok s4 => if ok = true then WB Again s4 else Again s4) NoE s3) NoE s2) NoE s1) NoE s
def wbIn (prog : Program) (w : World) (A : Around) (e : Expr) (k : Nat) (acc : Value) (i1 : Expr) (env : Env) : WBody := fun Post s =>
  wpAny (model prog w) A (eval i1 env) (fun x s4 => wpAny (model prog w) A (pyIter x) (fun it1 s5 => codeAny (model prog w) A (.compStart e k it1 acc env) (fun r s' => match r with
    | .ok _ => Post s'
    | .error _ => False) s5) NoE s4) NoE s
def wbApp (prog : Program) (w : World) (A : Around) (elt : Expr) (acc : Value) (env : Env) : WBody := fun Post s =>
  wpAny (model prog w) A (eval elt env) (fun x s4 => wpAny (model prog w) A (call (.builtin "list.append") [acc, x]) (fun _ s5 => Post s5) NoE s4) NoE s
/-- a turn of the loop at depth k does what turnPre says, with this body -/
def TurnIs (prog : Program) (w : World) (A : Around) (e : Expr) (k : Nat) (t : Expr) (ifs : List Expr) (acc : Value) (env : Env) (WB : WBody) : Prop :=
  ∀ (it : Value) (s : Shared) (Done Again : Shared → Prop), turnPre prog w A t ifs it env WB Done Again s →
    wpAny (model prog w) A (compTurn e k it acc env) (fun fin s' => match fin with
      | .done f => f = .next ∧ Done s'
      | .again c => c = .compLoop e k it acc env ∧ Again s') NoE s
/-- a comprehension that runs in the frame as it is -/
structure Plain (prog : Program) (w : World) (A : Around) (e : Expr) : Prop where
  u1 : ∀ k it acc env, A.under (.compLoop e k it acc env) = A
  d1 : ∀ k it acc env, (model prog w).den (.compLoop e k it acc env) = (compTurn e k it acc env).onRaise (fun x => do noteFrame x env; theTreesLotGoes x)
  u2 : ∀ k it acc env, A.under (.compStart e k it acc env) = A
  d2 : ∀ k it acc env, (model prog w).den (.compStart e k it acc env) = (compStart e k it acc env).onRaise (fun x => do noteFrame x env; standAt theWindowsPlace)
theorem plain_lc {prog : Program} {w : World} {A : Around} {elt : Expr} {gens : List Comprehension} {scope : Scope} {pos : Pos} : Plain prog w A (.ListComp elt gens scope pos) := ⟨fun _ _ _ _ => rfl, fun _ _ _ _ => rfl, fun _ _ _ _ => rfl, fun _ _ _ _ => rfl⟩
theorem plain_sc {prog : Program} {w : World} {A : Around} {elt : Expr} {gens : List Comprehension} {scope : Scope} {pos : Pos} : Plain prog w A (.SetComp elt gens scope pos) := ⟨fun _ _ _ _ => rfl, fun _ _ _ _ => rfl, fun _ _ _ _ => rfl, fun _ _ _ _ => rfl⟩
theorem plain_dc {prog : Program} {w : World} {A : Around} {a b : Expr} {gens : List Comprehension} {scope : Scope} {pos : Pos} : Plain prog w A (.DictComp a b gens scope pos) := ⟨fun _ _ _ _ => rfl, fun _ _ _ _ => rfl, fun _ _ _ _ => rfl, fun _ _ _ _ => rfl⟩
section
variable {prog : Program} {w : World} {A : Around} {R : Result → Shared → Prop} {s : Shared} {env : Env} {e elt : Expr} {gens : List Comprehension} {scope : Scope} {pos : Pos} {k : Nat} {it acc : Value} {t0 i0 t1 i1 : Expr} {ifs0 ifs1 : List Expr}
theorem lc_out_eq (h0 : gens[k]? = some ⟨t0, i0, ifs0, 0⟩) (h1 : gens[k + 1]? = some ⟨t1, i1, ifs1, 0⟩) : compTurn (.ListComp elt gens scope pos) k it acc env = (do
    standAt i0.pos
    match ← pyNext it with
    | none => pure (.done .next)
    | some v =>
      letOwnedTupleGo t0 it v
      assign t0 env v
      let mut good := true
      for c in ifs0 do
        if good then good ← isTrue c env (eval c env)
      if good then
        let x ← eval i1 env
        standAt i1.pos
        let x ← foldedSetIterable i1 env x
        let _ ← runOwn (.compStart (.ListComp elt gens scope pos) (k + 1) (← holding [x] (pyIter x)) acc env) env
      again (.compLoop (.ListComp elt gens scope pos) k it acc env)) := by
  unfold compTurn
  dsimp only
  rw [h0, h1]
  rfl
theorem lc_in_eq (h0 : gens[k]? = some ⟨t0, i0, ifs0, 0⟩) (h1 : gens[k + 1]? = none) : compTurn (.ListComp elt gens scope pos) k it acc env = (do
    standAt i0.pos
    match ← pyNext it with
    | none => pure (.done .next)
    | some v =>
      letOwnedTupleGo t0 it v
      assign t0 env v
      let mut good := true
      for c in ifs0 do
        if good then good ← isTrue c env (eval c env)
      if good then
        (do let _ ← call (.builtin "list.append") [acc, ← eval elt env])
      again (.compLoop (.ListComp elt gens scope pos) k it acc env)) := by
  unfold compTurn
  dsimp only
  rw [h0, h1]
  rfl
theorem noF {α : Type} {m : Sem α} {Q Q' : α → Shared → Prop} {E : Value → Shared → Prop} {s : Shared} (h : wpAny (model prog w) A m Q NoE s) (k : ∀ a s, Q a s → Q' a s) : wpAny (model prog w) A m Q' E s := wpAny_mono h k fun _ _ z => z.elim
theorem lc_turn_out (h0 : gens[k]? = some ⟨t0, i0, ifs0, 0⟩) (h1 : gens[k + 1]? = some ⟨t1, i1, ifs1, 0⟩) (hs : ∀ x, foldedSetIterable i1 env x = pure x) : TurnIs prog w A (.ListComp elt gens scope pos) k t0 ifs0 acc env (wbIn prog w A (.ListComp elt gens scope pos) (k + 1) acc i1 env) := by
  intro it s Done Again h
  rw [lc_out_eq h0 h1]
  refine wpAny_bind (wpAny_standAt (wpAny_bind (noF h (fun r s1 h1 => ?_))))
  cases r with
  | none => exact wpAny_pure ⟨rfl, h1⟩
  | some v =>
    refine wpAny_bind (noF h1 fun _ s2 h2 => ?_)
    refine wpAny_bind (noF h2 fun _ s3 h3 => wpAny_bind (noF h3 fun ok s4 h4 => ?_))
    cases ok with
    | false => exact wpAny_pure ⟨rfl, h4⟩
    | true =>
      refine wpAny_bind (noF h4 fun x s5 h5 => ?_)
      refine wpAny_bind (wpAny_standAt (wpAny_bind (wpAny_of_eq (hs x) (wpAny_bind (wpAny_holding (noF h5 fun it1 s6 h6 => ?_))))))
      refine wpAny_bind (wpAny_runOwn ?_)
      rw [Around.mark_none]
      refine codeAny_mono h6 fun r s' hr => ?_
      cases r with
      | ok f =>
        first
          | exact wpAny_pure ⟨rfl, hr⟩
          | exact wpAny_bind (wpAny_pure (wpAny_pure ⟨rfl, hr⟩))
      | error e => exact hr.elim
theorem lc_turn_in (h0 : gens[k]? = some ⟨t0, i0, ifs0, 0⟩) (h1 : gens[k + 1]? = none) : TurnIs prog w A (.ListComp elt gens scope pos) k t0 ifs0 acc env (wbApp prog w A elt acc env) := by
  intro it s Done Again h
  rw [lc_in_eq h0 h1]
  refine wpAny_bind (wpAny_standAt (wpAny_bind (noF h (fun r s1 h1 => ?_))))
  cases r with
  | none => exact wpAny_pure ⟨rfl, h1⟩
  | some v =>
    refine wpAny_bind (noF h1 fun _ s2 h2 => ?_)
    refine wpAny_bind (noF h2 fun _ s3 h3 => wpAny_bind (noF h3 fun ok s4 h4 => ?_))
    cases ok with
    | false => exact wpAny_pure ⟨rfl, h4⟩
    | true => exact wpAny_bind (wpAny_bind (noF h4 fun x s5 h5 => wpAny_bind (noF h5 fun _ s6 h6 => wpAny_pure (wpAny_pure ⟨rfl, h6⟩))))
theorem loop_of (hp : Plain prog w A e) {t : Expr} {ifs : List Expr} {WB : WBody} (hT : TurnIs prog w A e k t ifs acc env WB) (I : Nat → Shared → Prop) {Done : Shared → Prop} (hR : ∀ s', Done s' → R (.ok .next) s')
    (turn : ∀ n s, I n s → turnPre prog w A t ifs it env WB Done (fun s' => ∃ m, m < n ∧ I m s') s) (n : Nat) (h : I n s) : codeAny (model prog w) A (.compLoop e k it acc env) R s := by
  refine codeAny_loop rfl I (fun n s hI => ?_) n h
  rw [hp.u1, hp.d1]
  refine wpAny_noted (noF (hT it s _ _ (turn n s hI)) fun fin s' hf => ?_)
  cases fin with
  | done f =>
    obtain ⟨rfl, hd⟩ := hf
    exact hR s' hd
  | again c => exact hf
theorem start_of (hp : Plain prog w A e) {t i : Expr} {ifs : List Expr} (hg : (clausesOf e)[k]? = some ⟨t, i, ifs, 0⟩) (h0 : codeAny (model prog w) A (.compLoop e k it acc env) R s)
    (h : wpAny (model prog w) A (pyIter it) (fun it' s' => codeAny (model prog w) A (.compLoop e k it' acc env) R s') NoE s) : codeAny (model prog w) A (.compStart e k it acc env) R s := by
  refine codeAny_of_tree ?_
  rw [hp.u2, hp.d2]
  refine wpAny_notedAt ?_
  unfold compStart
  rw [hg]
  show wpAny _ _ (ask >>= _) _ _ s
  refine wpAny_bind (wpAny_askSetting (wpAny_ite ?_))
  split
  · first
      | exact wpAny_bind (wpAny_pure (wpAny_pure (And.intro rfl h0)))
      | exact wpAny_pure (And.intro rfl h0)
  · first
      | exact wpAny_bind (wpAny_rule (wpAny_bind (wpAny_standAt (wpAny_bind (noF h (fun it' s' h' => wpAny_pure (And.intro rfl h')))))))
      | (refine wpAny_bind (wpAny_rule ?_); show wpAny _ _ (standAt i.pos >>= _) _ _ s; exact wpAny_bind (wpAny_standAt (wpAny_bind (noF h (fun it' s' h' => wpAny_pure (And.intro rfl h'))))))
end
abbrev TB := L2.St → Hp → (L2.St → Hp → Prop) → Prop
def PB (X : Cx) (WB : WBody) (T : TB) : Prop := ∀ (pins : List (Addr × Obj)) (s : Shared) (σ : L2.St) (H : Hp) (Q : L2.St → Hp → Prop) (Post : Shared → Prop), Inv X pins σ H s → T σ H Q → (∀ σ' H' s', Inv X pins σ' H' s' → Q σ' H' → Post s') → WB Post s
def tEmit (te : TE) (D : Addr) : TB := fun σ H Q => te σ H fun y H7 => ∃ acc, H7 D = some (.lst acc) ∧ acc.length < sizeLine ∧ Q σ (upd H7 D (.lst (acc ++ [y])))
def tLoopN (wi : TI) (g : TG) (tt : TT) (T : TB) (vs : List Nat) : TB := fun σ H Q => wi σ H fun J H1 => ∃ W : Nat → Nat → Hp → Prop, (∃ m, W 0 m H1) ∧ ∀ j k H, W j k H →
  (J.stop j H ∧ Q (wipe σ vs) H) ∨ (J.go j H ∧ ∃ Nx : Hp → Prop, (∀ H', Nx H' → ∃ k', k' < k ∧ W (j + 1) k' H') ∧ ∀ x H', J.yld j H x H' → g x (wipe σ vs) H' fun σ3 H5 => wipe σ3 vs = wipe σ vs ∧ tt σ3 H5 fun b H6 =>
    if b = true then T σ3 H6 (fun σ4 H7 => wipe σ4 vs = wipe σ vs ∧ Nx H7) else Nx H6)
theorem pb_emit {X : Cx} {elt : Expr} {te : TE} {D : Addr} (hx : X.xe = NoE) (he : PE X elt te) : PB X (wbApp X.prog X.w X.A elt (.ref D) X.env) (tEmit te D) := by
  intro pins s σ H Q Post I h k
  have r := he.run pins s σ H _ I h
  rw [hx] at r
  refine thnF r fun z s1 ⟨yv, H1, I1, r1, acc, hD, hz, nx⟩ => ?_
  exact app_ok I1 hD hz r1 fun s2 I2 => k _ _ s2 I2 nx
theorem pb_loop {X : Cx} {e tg iter : Expr} {ifs : List Expr} {k : Nat} {acc : Value} {wi : TI} {g : TG} {tt : TT} {T : TB} {WB : WBody} {vs : List Nat} (hx : X.xe = NoE) (hc : X.calm = true) (hp : Plain X.prog X.w X.A e) (hT : TurnIs X.prog X.w X.A e k tg ifs acc X.env WB) (hcl : (clausesOf e)[k]? = some ⟨tg, iter, ifs, 0⟩)
    (hi : PI X tg iter wi) (hg : PG X tg g) (ht : PTs X ifs tt) (hb : PB X WB T) : PB X (wbIn X.prog X.w X.A e k acc iter X.env) (tLoopN wi g tt T vs) := by
  intro pins s σ H Q Post I h hP
  have r := hi.run pins s σ H _ I h
  rw [hx] at r
  refine thnF r fun xv s1 hx1 => thnF hx1 fun itv s2 h2 => ?_
  obtain ⟨it1, fp, tn, J, H2, e1, I2, T1, st2, f2, W, ⟨m1, w1⟩, turn⟩ := h2
  subst e1
  have stat1 : ∀ {H' : Hp}, (∀ b ∈ fp, H' b = none) → ∀ b ∈ fp, FpOk X pins H' b := fun hn b hb => ⟨hn b hb, (f2 b hb).2⟩
  have loop1 : codeAny (model X.prog X.w) X.A (.compLoop e k (.ref it1) acc X.env) (fun r s' => match r with
      | .ok _ => Post s'
      | .error _ => False) s2 := by
    refine loop_of hp hT (fun n s' => ∃ j H', Inv X pins (wipe σ vs) H' s' ∧ tn j s'.heap ∧ (∀ b ∈ fp, H' b = none) ∧ W j n H') (Done := Post) (fun s' h => h) (fun n s3 hI => ?_) m1 ⟨0, H2, I2.weak (wipe_length _ _) (fun j v e => (wipe_some e).1), st2, fun b hb => (f2 b hb).1, w1⟩
    obtain ⟨j, H3, I3, st3, n3, w3⟩ := hI
    rcases turn j n H3 w3 with ⟨stop, nx⟩ | ⟨go, Nx, hNx, step⟩
    · refine thnF (T1.done X rfl rfl rfl hc j _ s3 (wipe σ vs) H3 (fun _ _ => False) I3 (stat1 n3) st3 stop) fun r s4 ⟨hr, I4⟩ => ?_
      subst hr
      exact hP _ _ _ I4 nx
    · refine thnF (T1.item X rfl rfl rfl hc j _ s3 (wipe σ vs) H3 (fun _ _ => False) I3 (stat1 n3) st3 go) fun r s4 ⟨u, hr, h4⟩ => ?_
      subst hr
      refine thnF h4 fun _ s5 ⟨x, H5, I5, r5, y5, st5, n5⟩ => ?_
      have I5' := I5.pinned (stat1 n5) (T1.obj _ _ st5)
      have rg := hg.run _ s5 (wipe σ vs) H5 x u _ I5' r5 (step x H5 y5)
      rw [hx] at rg
      refine thnF rg fun _ s6 ⟨σ6, H6, I6, hw6, q6⟩ => ?_
      have rt := ht.run _ s6 σ6 H6 _ I6 q6
      rw [hx] at rt
      refine thnF rt fun b s7 ⟨H7, I7, q7⟩ => ?_
      have fin : ∀ {σ' : L2.St} {s' : Shared} {H' : Hp}, Inv X (pins ++ pinsAt fp s5.heap) σ' H' s' → wipe σ' vs = wipe σ vs → Nx H' → ∃ m, m < n ∧ ∃ j H', Inv X pins (wipe σ vs) H' s' ∧ tn j s'.heap ∧ (∀ b ∈ fp, H' b = none) ∧ W j m H' := fun {σ' s' H'} I' hw nx => by
        obtain ⟨m', hm, w'⟩ := hNx H' nx
        have pin' : ∀ b ∈ fp, ∀ o, s5.heap.get? b = some o → s'.heap.get? b = some o ∧ H' b = none := fun b hb o e =>
          let z := I'.pin (b, o) (List.mem_append_right _ (List.mem_append_right _ (mem_pinsAt hb e)))
          ⟨z.1, z.2.1⟩
        refine ⟨m', hm, j + 1, H', I'.unpinned.weak (by rw [← hw, wipe_length]) (fun j v e => by rw [← hw] at e; exact (wipe_some e).1), T1.keep _ _ _ st5 fun b hb o e => (pin' b hb o e).1, fun b hb => ?_, w'⟩
        obtain ⟨o, e, _⟩ := T1.obj _ _ st5 b hb
        exact (pin' b hb o e).2
      cases b with
      | false =>
        simp only [Bool.false_eq_true, if_false] at q7 ⊢
        exact fin I7 hw6 q7
      | true =>
        simp only [if_true] at q7 ⊢
        exact hb _ s7 σ6 H7 _ _ I7 q7 fun σ' H' s' I' ⟨hw, nx⟩ => fin I' hw nx
  exact start_of hp hcl loop1 (T1.self X.A 0 _ _ _ st2 loop1)
end Ev
/-! CompN2 -/
namespace Ev
open PySem PySem.Spec PyProof.Rows L2
section
variable {X : Cx}
/-- [elt for tg in iter if .. ..]: T says what stands behind the first for, of the new list at D -/
def tLcN (wi : TI) (g : TG) (tt : TT) (T : Addr → TB) (vs : List Nat) : TE := fun σ H Q => wi σ H fun J H1 => ∀ D, H1 D = none → ∃ W : Nat → Nat → Hp → Prop, (∃ m, W 0 m (upd H1 D (.lst []))) ∧ ∀ i m H, W i m H →
  (J.stop i H ∧ Q (.ref D) H) ∨ (J.go i H ∧ ∃ Nxt : Hp → Prop, (∀ Hx, Nxt Hx → ∃ mx, mx < m ∧ W (i + 1) mx Hx) ∧ ∀ x Hx, J.yld i H x Hx → g x (wipe σ vs) Hx fun σ2 Ha => wipe σ2 vs = wipe σ vs ∧ tt σ2 Ha fun b Hb =>
    if b = true then T D σ2 Hb (fun σ4 H4 => wipe σ4 vs = wipe σ vs ∧ Nxt H4) else Nxt Hb)
theorem lcN_core {pins : List (Addr × Obj)} {s : Shared} {σ : L2.St} {H : Hp} {Q : VK} {elt tg iter : Expr} {ifs : List Expr} {rest : List Comprehension} {scope : Scope} {own : List (Str × Nat)} {pos posx : Pos} {wi : TI} {g : TG} {tt : TT} {T : Addr → TB} {WB : Env → Addr → WBody} {use : Option (Value → Sem Unit)} {Qa : Value → Shared → Prop}
    (hc : X.calm = true) (hN : X.N.Nodup) (I : Inv X pins σ H s) (hi : PI X tg iter wi) (ok : BlkOk X.N X.env.scope scope own)
    (hg : ∀ (s : Shared) (H : Hp) (C : Addr) (cl : List (Str × Addr)) (cs : List Addr), PG (X.blk s H scope (compEnvC scope cl C X.env) cs) tg g) (ht : ∀ (s : Shared) (H : Hp) (C : Addr) (cl : List (Str × Addr)) (cs : List Addr), PTs (X.blk s H scope (compEnvC scope cl C X.env) cs) ifs tt)
    (hT : ∀ (env : Env) (D : Addr), TurnIs X.prog X.w X.A (.ListComp elt (⟨tg, iter, ifs, 0⟩ :: rest) scope pos) 0 tg ifs (.ref D) env (WB env D))
    (hb : ∀ (D : Addr) (s : Shared) (H : Hp) (C : Addr) (cl : List (Str × Addr)) (cs : List Addr), PB (X.blk s H scope (compEnvC scope cl C X.env) cs) (WB (compEnvC scope cl C X.env) D) (T D)) (hs : ∀ x, foldedSetIterable iter X.env x = pure x)
    (h : tLcN wi g tt T (own.map (·.2)) σ H Q)
    (fin0 : ∀ D C sx m Hx, Inv X pins σ Hx sx → Q (.ref D) Hx → sx.heap.Ns C m → FpOk X pins Hx C → compPost (model X.prog X.w) X.A X.xe use Qa (.ref D) C (.ok .next) sx) :
    wpAny (model X.prog X.w) X.A (comprehension (.ListComp elt (⟨tg, iter, ifs, 0⟩ :: rest) scope pos) scope X.env posx (newList []) false (eval iter X.env) use) Qa X.xe s := by
  have frees : ∀ y ∈ scope.names, y.2 = .free → ∃ c, X.env.cells.lookup y.1 = some c := fun y hy e => by
    rcases ok.free y hy e with k | k
    · exact I.ok.has _ (.inl k)
    · exact I.ok.has _ (.inr k)
  refine wpAny_comprehension_free (use := use) rfl hs (closure_ok frees) ok.kind (fun y hy e => by rw [ok.uniq y hy, e])
    (thn (hi.run pins s σ H _ I h) fun xa ta hx => thn hx fun xi tb ka => ?_)
  obtain ⟨it, cs, stn, J, Ha, e, Ja, Tn, ga, la, q⟩ := ka
  subst e
  refine wpAny_newObj_type (newEnv_comp ?_) (by show 0 ≤ sizeLine; decide)
  generalize hD : tb.heap.objs.size = D
  have newD : Ha D = none := Ja.hok.fresh (Nat.le_of_eq hD)
  obtain ⟨W, ⟨ma0, wa⟩, each⟩ := q D newD
  generalize e3 : ({ tb with heap := tb.heap.push { cls := .type "list", data := .seq ([] : List Value).toArray } } : Shared) = tc
  have Jb : Inv X pins σ (upd Ha D (.lst [])) tc := by
    rw [← e3]
    refine Ja.laid (t' := tb.toks) (fun b o e => Heap.get?_push_of_some _ e) (Nat.le_of_eq hD) ⟨Nat.zero_le _, [], 0, .nil, ?_⟩
    rw [← hD]
    exact Heap.get?_push_size _ rfl
  have kb : tc.heap = tb.heap.push { cls := .type "list", data := .seq ([] : List Value).toArray } := by rw [← e3]
  have below : ∀ b ∈ cs, b < tb.heap.objs.size := fun b hb => by
    obtain ⟨o, e, _⟩ := Tn.obj _ _ ga b hb
    exact Heap.lt_size e
  have lb : ∀ b ∈ cs, FpOk X pins (upd Ha D (.lst [])) b ∧ b < tc.heap.objs.size := fun b hb => by
    have hlt := below b hb
    refine ⟨⟨?_, (la b hb).2⟩, by rw [kb, Heap.size_push]; exact Nat.lt_succ_of_lt hlt⟩
    rw [upd_ne (by rw [← hD]; exact Nat.ne_of_lt hlt)]
    exact (la b hb).1
  have gb : stn 0 tc.heap := Tn.keep _ _ _ ga fun b _ o e => by rw [kb]; exact Heap.get?_push_of_some _ e
  have Jc := block_start Jb ok hN lb
  have pgt := hg tc (upd Ha D (.lst [])) tc.heap.objs.size (cellsFrom (tc.heap.objs.size + 1) scope.names (cloFrom X.env.cells scope.names [])) cs
  have pts := ht tc (upd Ha D (.lst [])) tc.heap.objs.size (cellsFrom (tc.heap.objs.size + 1) scope.names (cloFrom X.env.cells scope.names [])) cs
  have pbd := hb D tc (upd Ha D (.lst [])) tc.heap.objs.size (cellsFrom (tc.heap.objs.size + 1) scope.names (cloFrom X.env.cells scope.names [])) cs
  show codeAny _ _ (.compStart (.ListComp elt (⟨tg, iter, ifs, 0⟩ :: rest) scope pos) 0 (.ref it) (.ref D) (compEnvC scope (cellsFrom (tc.heap.objs.size + 1) scope.names (cloFrom X.env.cells scope.names [])) tc.heap.objs.size X.env)) (compPost (model X.prog X.w) X.A X.xe use Qa (.ref D) tc.heap.objs.size) { tc with heap := pushCells (tc.heap.push { cls := .type "dict", data := .dict #[] }) scope.names }
  have noCs : ∀ b ∈ cs, (upd Ha D (.lst [])) b = none := fun b hb => (lb b hb).1.1
  generalize eCe : compEnvC scope (cellsFrom (tc.heap.objs.size + 1) scope.names (cloFrom X.env.cells scope.names [])) tc.heap.objs.size X.env = cenv at Jc pgt pts pbd ⊢
  have locs : cenv.locals = tc.heap.objs.size := by subst eCe; rfl
  generalize e5 : upd Ha D (.lst []) = Hb at Jb Jc pgt pts pbd wa noCs lb
  generalize e4 : ({ tc with heap := pushCells (tc.heap.push { cls := .type "dict", data := .dict #[] }) scope.names } : Shared) = td at Jc ⊢
  have gc : stn 0 td.heap := Tn.keep _ _ _ gb fun b _ o e => by rw [← e4]; exact pushCells_keeps _ _ _ _ (Heap.get?_push_of_some _ e)
  have stands : ∀ {σx : L2.St} {Hx : Hp} {sx : Shared}, Inv (X.blk tc Hb scope cenv cs) [] σx Hx sx → (∀ b ∈ cs, Hx b = none) → ∀ b ∈ cs, FpOk (X.blk tc Hb scope cenv cs) [] Hx b := fun {σx Hx sx} Jx en b hb =>
    ⟨en b hb, (Jx.ok.exf b hb).1, Jx.ok.exfs b hb, .inl hb, fun x c e => (Jx.ok.exf b hb).2 x c e, fun p hp => absurd (show p ∈ ([] : List (Addr × Obj)) ++ [] from hp) (by simp)⟩
  have lp : codeAny (model X.prog X.w) X.A (.compLoop (.ListComp elt (⟨tg, iter, ifs, 0⟩ :: rest) scope pos) 0 (.ref it) (.ref D) cenv) (compPost (model X.prog X.w) X.A X.xe use Qa (.ref D) tc.heap.objs.size) td := by
    refine loop_of plain_lc (hT cenv D) (fun n sx => ∃ i Hx, Inv (X.blk tc Hb scope cenv cs) [] (wipe σ (own.map (·.2))) Hx sx ∧ stn i sx.heap ∧ (∀ b ∈ cs, Hx b = none) ∧ W i n Hx) (fun sx h => h) (fun n te1 hI => ?_) ma0 ⟨0, Hb, Jc, gc, noCs, wa⟩
    obtain ⟨i, Hd, Jd, gd, ne, we⟩ := hI
    rcases each i n Hd we with ⟨stop, qz⟩ | ⟨go, Nxt, eNx, stp⟩
    · have td := Tn.done (X.blk tc Hb scope cenv cs) rfl rfl rfl hc i [] te1 _ Hd (fun _ _ => False) Jd (stands Jd ne) gd stop
      refine thnF td fun r tf ⟨er, Je⟩ => ?_
      subst er
      have Jf : Inv X pins σ Hd tf := Jb.call' (ch := cs) Je.os Je.base Je.hok Je.bare fun b hb => ⟨(lb b hb).1.2.2.2.1, (lb b hb).1.2.1, (lb b hb).1.2.2.2.2.1, (lb b hb).1.2.2.2.2.2⟩
      have notC : Hd tc.heap.objs.size = none := by
        have z : Hd cenv.locals = none := Je.free
        rw [locs] at z
        exact z
      obtain ⟨m, en, _⟩ := Je.loc
      have en : tf.heap.Ns cenv.locals m := en
      rw [locs] at en
      exact fin0 D tc.heap.objs.size tf m Hd Jf qz en (Jb.fpOk (Nat.le_refl _) notC)
    · have ti := Tn.item (X.blk tc Hb scope cenv cs) rfl rfl rfl hc i [] te1 _ Hd (fun _ _ => False) Jd (stands Jd ne) gd go
      refine thnF ti fun r tf ⟨u, er, kf⟩ => ?_
      subst er
      refine thnF kf fun _ tg1 ⟨x, Hf, Jf, rf, yf, gf, ng⟩ => ?_
      have Jf' := Jf.pinned (stands Jf ng) (Tn.obj _ _ gf)
      refine thnF (pgt.run _ tg1 _ Hf x u _ Jf' rf (stp x Hf yf)) fun _ th ⟨σa, Hg, Jg, ewg, qg⟩ => ?_
      refine thnF (pts.run _ th σa Hg _ Jg qg) fun b ti ⟨Hh, Jh, qh⟩ => ?_
      have fin : ∀ {σb : L2.St} {sx : Shared} {Hx : Hp}, Inv (X.blk tc Hb scope cenv cs) ([] ++ pinsAt cs tg1.heap) σb Hx sx → wipe σb (own.map (·.2)) = wipe σ (own.map (·.2)) → Nxt Hx →
          ∃ m, m < n ∧ ∃ i Hx, Inv (X.blk tc Hb scope cenv cs) [] (wipe σ (own.map (·.2))) Hx sx ∧ stn i sx.heap ∧ (∀ b ∈ cs, Hx b = none) ∧ W i m Hx := fun {σb sx Hx} Jx ew nx => by
        obtain ⟨mx, em, wx⟩ := eNx Hx nx
        have pinx : ∀ b ∈ cs, ∀ o, tg1.heap.get? b = some o → sx.heap.get? b = some o ∧ Hx b = none := fun b hb o e =>
          let z := Jx.pin (b, o) (List.mem_append_right _ (List.mem_append_right _ (mem_pinsAt hb e)))
          ⟨z.1, z.2.1⟩
        refine ⟨mx, em, i + 1, Hx, (Jx.unpinned (pins := [])).weak (by rw [← ew, wipe_length]) (fun j v e => by rw [← ew] at e; exact (wipe_some e).1), Tn.keep _ _ _ gf fun b hb o e => (pinx b hb o e).1, fun b hb => ?_, wx⟩
        obtain ⟨o, e, _⟩ := Tn.obj _ _ gf b hb
        exact (pinx b hb o e).2
      cases b with
      | false =>
        simp only [Bool.false_eq_true, if_false] at qh ⊢
        exact fin Jh ewg qh
      | true =>
        simp only [if_true] at qh ⊢
        exact pbd _ ti σa Hh _ _ Jh qh fun σx Hx sx Jx ⟨ew, nx⟩ => fin Jx ew nx
  exact codeAny_compStart_list lp (Tn.self X.A 0 _ _ _ gc lp)
variable {elt tg iter : Expr} {ifs : List Expr} {rest : List Comprehension} {scope : Scope} {own : List (Str × Nat)} {pos : Pos} {wi : TI} {g : TG} {tt : TT} {T : Addr → TB} {WB : Env → Addr → WBody}
theorem pe_lcN (hc : X.calm = true) (hN : X.N.Nodup) (hi : PI X tg iter wi) (ok : BlkOk X.N X.env.scope scope own)
    (hg : ∀ (s : Shared) (H : Hp) (C : Addr) (cl : List (Str × Addr)) (cs : List Addr), PG (X.blk s H scope (compEnvC scope cl C X.env) cs) tg g) (ht : ∀ (s : Shared) (H : Hp) (C : Addr) (cl : List (Str × Addr)) (cs : List Addr), PTs (X.blk s H scope (compEnvC scope cl C X.env) cs) ifs tt)
    (hT : ∀ (env : Env) (D : Addr), TurnIs X.prog X.w X.A (.ListComp elt (⟨tg, iter, ifs, 0⟩ :: rest) scope pos) 0 tg ifs (.ref D) env (WB env D))
    (hb : ∀ (D : Addr) (s : Shared) (H : Hp) (C : Addr) (cl : List (Str × Addr)) (cs : List Addr), PB (X.blk s H scope (compEnvC scope cl C X.env) cs) (WB (compEnvC scope cl C X.env) D) (T D)) (hs : ∀ x, foldedSetIterable iter X.env x = pure x) :
    PE X (.ListComp elt (⟨tg, iter, ifs, 0⟩ :: rest) scope pos) (tLcN wi g tt T (own.map (·.2))) := by
  refine ⟨fun pins s σ H Q I h => ?_⟩
  rw [eval_ListComp]
  refine lcN_core hc hN I hi ok hg ht hT hb hs h fun D C sx m Hx Jx q en f => ⟨m, en, fun h'' sb => ?_⟩
  obtain ⟨f0, f1, la, lb, f4, f5⟩ := f
  exact ⟨.ref D, Hx, Jx.turned (t' := sx.toks) (fun b o hb e => (sb.2 b hb).trans e) f0 f1 lb f4 f5, rfl, q⟩
theorem ps_setLcN {i : Nat} {y : Str} {py spos : Pos} (hc : X.calm = true) (hN : X.N.Nodup) (hy : X.N[i]? = some y) (hyl : X.env.scope.names.lookup y = some .local)
    (hsw : swapsWith (.ListComp elt (⟨tg, iter, ifs, 0⟩ :: rest) scope pos) (some (.Name y py)) spos.line X.env = pure true) (hi : PI X tg iter wi) (ok : BlkOk X.N X.env.scope scope own)
    (hg : ∀ (s : Shared) (H : Hp) (C : Addr) (cl : List (Str × Addr)) (cs : List Addr), PG (X.blk s H scope (compEnvC scope cl C X.env) cs) tg g) (ht : ∀ (s : Shared) (H : Hp) (C : Addr) (cl : List (Str × Addr)) (cs : List Addr), PTs (X.blk s H scope (compEnvC scope cl C X.env) cs) ifs tt)
    (hT : ∀ (env : Env) (D : Addr), TurnIs X.prog X.w X.A (.ListComp elt (⟨tg, iter, ifs, 0⟩ :: rest) scope pos) 0 tg ifs (.ref D) env (WB env D))
    (hb : ∀ (D : Addr) (s : Shared) (H : Hp) (C : Addr) (cl : List (Str × Addr)) (cs : List Addr), PB (X.blk s H scope (compEnvC scope cl C X.env) cs) (WB (compEnvC scope cl C X.env) D) (T D)) (hs : ∀ x, foldedSetIterable iter X.env x = pure x) :
    PS X (.Assign [.Name y py] (.ListComp elt (⟨tg, iter, ifs, 0⟩ :: rest) scope pos) spos) (tAsg (tLcN wi g tt T (own.map (·.2))) (gName i)) := by
  refine ⟨fun pins s σ H D I h => ?_⟩
  rw [exec_Assign_Name_used _ _ _ _ hsw]
  refine wpAny_bind (wpAny_standAt (wpAny_bind ?_))
  show wpAny _ X.A (do let _ ← comprehension (.ListComp elt (⟨tg, iter, ifs, 0⟩ :: rest) scope pos) scope X.env (firstIterPos (⟨tg, iter, ifs, 0⟩ :: rest) pos) (newList []) false (eval iter X.env) (some (assign (.Name y py) X.env))) _ _ s
  have h : tLcN wi g tt T (own.map (·.2)) σ H (fun x H1 => gName i x σ H1 D.nx) := h
  refine wpAny_bind (thn (lcN_core (Qa := fun _ sx => SP X pins D .next sx) hc hN I hi ok hg ht hT hb hs h fun L C sx m Hx Jx q en f => ?_) fun _ sx hq => wpAny_pure (wpAny_pure hq))
  show wpAny _ _ (assign (.Name y py) X.env (.ref L)) _ _ _
  refine wpAny_assign_Name (store_ok2 (v := V.ref L) Jx hN hy (.inl hyl) rfl (fun tb Ja ⟨a, sb, ha⟩ => ?_) (.inr hyl))
  obtain ⟨f0, f1, la, lb, f4, f5⟩ := f
  have haC : C ≠ a := by
    rcases ha with z | z
    · rw [z]; exact f1
    · exact fun e => f4 y a z e.symm
  refine ⟨m, en.sameBut sb haC, fun kb sb3 => ?_⟩
  exact ⟨_, Hx, Ja.turned (t' := tb.toks) (fun b o hb e => (sb3.2 b hb).trans e) f0 f1 lb f4 f5, q⟩
end
end Ev
/-! Ev15 -/
namespace Ev
open PySem PySem.Spec PyProof.Rows L2
abbrev Fk := EnvD → List D → Option (List D × EnvD)
/-- one for: its names, target, source, test -/
structure DC where
  vs : List Nat
  t : Tg
  it : Fv
  c : Fb
def lcForN (vs : List Nat) (t : Tg) (c : Fb) (k : Fk) : List D → List D → EnvD → Option (List D × EnvD)
  | [], acc, ρ => some (acc, ρ)
  | d :: ds, acc, ρ => match putT t d ρ with
    | none => none
    | some ρ1 => match c ρ1 with
      | none => none
      | some (false, ρ2) => if noCell ρ2 vs then lcForN vs t c k ds acc (clr ρ2 vs) else none
      | some (true, ρ2) => match k ρ2 acc with
        | none => none
        | some (acc2, ρ3) => if noCell ρ3 vs then lcForN vs t c k ds acc2 (clr ρ3 vs) else none
def emitF (e : Fv) : Fk := fun ρ acc => match e ρ with
  | some (y, ρ1) => if decide (acc.length < sizeLine) then some (acc ++ [y], ρ1) else none
  | none => none
def loopF2 (cl : DC) (k : Fk) : Fk := fun ρ acc => match cl.it ρ with
  | some (d, ρ1) => (match itemsOf d with
    | some ds => if noCell ρ1 cl.vs then lcForN cl.vs cl.t cl.c k ds acc (clr ρ1 cl.vs) else none
    | none => none)
  | none => none
def lcNE (cl : DC) (k : Fk) : Fe := fun ρ => match cl.it ρ with
  | some (d, ρ1) => (match itemsOf d with
    | some ds => if noCell ρ1 cl.vs then (match lcForN cl.vs cl.t cl.c k ds [] (clr ρ1 cl.vs) with
      | some (acc, ρ2) => some (.new (.lst acc), back ρ1 (clr ρ2 cl.vs) cl.vs)
      | none => none) else none
    | none => none)
  | none => none
/-- the reading of a body: the list so far stands at D0 -/
def tBD (K : Frag) (D0 : Addr) (k : Fk) (vs : List Nat) : TB := fun σ H Q => ∃ G B F ρ acc as o ρ', G D0 = none ∧ Rep K (upd G D0 (.lst acc)) B F H ρ σ ∧ Rs K F acc as ∧ k ρ as = some (o, ρ') ∧
  ∀ σ' F' H' acc', Ex F F' → Rep K (upd G D0 (.lst acc')) B F' H' ρ' σ' → Rs K F' acc' o → Same vs σ σ' → Q σ' H'
theorem PB.weak {X : Cx} {WB : WBody} {T T' : TB} (h : PB X WB T) (w : ∀ σ H Q, T' σ H Q → T σ H Q) : PB X WB T' := fun pins s σ H Q Post I q k => h pins s σ H Q Post I (w σ H Q q) k
theorem same_refl {vs : List Nat} {σ : L2.St} : Same vs σ σ := ⟨rfl, fun _ _ => rfl⟩
theorem wk_emit {K : Frag} {D0 : Addr} {e : Fv} {vs : List Nat} (σ : L2.St) (H : Hp) (Q : L2.St → Hp → Prop) (h : tBD K D0 (emitF e) vs σ H Q) : tEmit (tV K e) D0 σ H Q := by
  obtain ⟨G, B, F, ρ, acc, as, o, ρ', hG, rp, ra, ek, z⟩ := h
  unfold emitF at ek
  cases q : e ρ with
  | none => rw [q] at ek; cases ek
  | some y =>
    obtain ⟨y, ρ1⟩ := y
    rw [q] at ek
    simp only at ek
    split at ek
    · rename_i hl
      cases ek
      refine ⟨_, B, F, ρ, y, _, rp, q, fun v F1 H1 e1 rp1 r1 => ?_⟩
      refine ⟨acc, rp1.exG D0 _ upd_same, by rw [ra.len]; exact of_decide_eq_true hl, ?_⟩
      exact z σ F1 _ (acc ++ [v]) e1 (rp1.chG (o' := .lst (acc ++ [v]))) ((ra.mono e1).app (Rs.one r1)) same_refl
    · cases ek
/-- a walk by place: what is to be shown of the end and of each place before it -/
theorem by_place {n : Nat} {stop go : Nat → Hp → Prop} {yld : Nat → Hp → V → Hp → Prop} {Body : V → Hp → (Hp → Prop) → Prop} {Fin : Hp → Prop} {H1 : Hp} (Pv : Nat → Hp → Prop) (first : Pv 0 H1) (last : ∀ H, Pv n H → stop n H ∧ Fin H) (mid : ∀ i H, i < n → Pv i H → go i H ∧ ∀ x H', yld i H x H' → Body x H' (Pv (i + 1))) :
    ∃ W : Nat → Nat → Hp → Prop, (∃ m, W 0 m H1) ∧ ∀ i m H, W i m H → (stop i H ∧ Fin H) ∨ (go i H ∧ ∃ Nx : Hp → Prop, (∀ H', Nx H' → ∃ m', m' < m ∧ W (i + 1) m' H') ∧ ∀ x H', yld i H x H' → Body x H' Nx) := by
  exists fun i m H => i + m = n ∧ Pv i H
  constructor
  · exact ⟨n, Nat.zero_add n, first⟩
  intro i m H w
  cases m with
  | zero =>
    have e : i = n := w.1
    exact .inl (e ▸ last H (e ▸ w.2))
  | succ m =>
    have lt : i < n := by have := w.1; omega
    have g := mid i H lt w.2
    exact .inr ⟨g.1, Pv (i + 1), fun H' p => ⟨m, Nat.lt_succ_self m, by have := w.1; omega, p⟩, g.2⟩
/-- a list walked -/
theorem walk_list {K : Frag} {a : Addr} {xs : List V} {H1 : Hp} {Body : V → Hp → (Hp → Prop) → Prop} {Fin : Hp → Prop} (Pv : Nat → Hp → Prop) (h0 : Pv 0 H1) (hl : ∀ i H, i ≤ xs.length → Pv i H → SqL K H a xs) (hs : ∀ (i : Nat) x H, xs[i]? = some x → Pv i H → Body x H (Pv (i + 1))) (hd : ∀ H, Pv xs.length H → Fin H) :
    ∃ W : Nat → Nat → Hp → Prop, (∃ m, W 0 m H1) ∧ ∀ i m H, W i m H → ((Itl K a).stop i H ∧ Fin H) ∨ ((Itl K a).go i H ∧ ∃ Nx : Hp → Prop, (∀ H', Nx H' → ∃ m', m' < m ∧ W (i + 1) m' H') ∧ ∀ x H', (Itl K a).yld i H x H' → Body x H' Nx) :=
  by_place Pv h0 (fun H p => ⟨⟨xs, hl _ H (Nat.le_refl _) p, Nat.le_refl _⟩, hd H p⟩)
    (fun i H lt p => ⟨⟨xs, xs[i], hl i H (Nat.le_of_lt lt) p, List.getElem?_eq_getElem lt⟩, fun x H' y => y.1 ▸ hs i x _ (y.2 xs (hl i H (Nat.le_of_lt lt) p)) p⟩)
theorem walk_tup {K : Frag} {a : Addr} {xs : List V} {H1 : Hp} {Body : V → Hp → (Hp → Prop) → Prop} {Fin : Hp → Prop} (Pv : Nat → Hp → Prop) (h0 : Pv 0 H1) (hl : ∀ i H, i ≤ xs.length → Pv i H → SqT K H a xs) (hs : ∀ (i : Nat) x H, xs[i]? = some x → Pv i H → Body x H (Pv (i + 1))) (hd : ∀ H, Pv xs.length H → Fin H) :
    ∃ W : Nat → Nat → Hp → Prop, (∃ m, W 0 m H1) ∧ ∀ i m H, W i m H → ((Itt K a).stop i H ∧ Fin H) ∨ ((Itt K a).go i H ∧ ∃ Nx : Hp → Prop, (∀ H', Nx H' → ∃ m', m' < m ∧ W (i + 1) m' H') ∧ ∀ x H', (Itt K a).yld i H x H' → Body x H' Nx) :=
  by_place Pv h0 (fun H p => ⟨⟨xs, hl _ H (Nat.le_refl _) p, Nat.le_refl _⟩, hd H p⟩)
    (fun i H lt p => ⟨⟨xs, xs[i], hl i H (Nat.le_of_lt lt) p, List.getElem?_eq_getElem lt⟩, fun x H' y => y.1 ▸ hs i x _ (y.2 xs (hl i H (Nat.le_of_lt lt) p)) p⟩)
def NTurn (K : Frag) (G : Hp) (B : List (Nat × Addr)) (F : Hp) (vs : List Nat) (t : Tg) (c : Fb) (k : Fk) (ds : List D) (D0 : Addr) (σ : L2.St) (o : List D × EnvD) (i : Nat) (H : Hp) : Prop :=
  ∃ F1 ρ1 acc as, Ex F F1 ∧ Rep K (upd G D0 (.lst acc)) B F1 H (clr ρ1 vs) (wipe σ vs) ∧ Rs K F1 acc as ∧ lcForN vs t c k (ds.drop i) as (clr ρ1 vs) = some o
section
variable {K : Frag} {G : Hp} {B : List (Nat × Addr)} {F F' H H' : Hp} {ρ ρ' ρ0 : EnvD} {σ σ' : L2.St} {vs vs' : List Nat} {t : Tg} {c : Fb} {k : Fk} {ds : List D} {D0 : Addr} {o : List D × EnvD} {xs : List V}
theorem nturn_ok {i : Nat} {x : V} (hG : G D0 = none) (rs : Rs K F xs ds) (ht : ∀ j, j ∈ t.ix → j ∈ vs) (hv : ∀ j, j ∈ vs' → j ∈ vs) (hx : xs[i]? = some x) (q : NTurn K G B F vs t c k ds D0 σ o i H) :
    gT K t x (wipe σ vs) H fun σ2 H2 => wipe σ2 vs = wipe σ vs ∧ tT K c σ2 H2 fun b H3 =>
      if b = true then tBD K D0 k vs' σ2 H3 (fun σ4 H4 => wipe σ4 vs = wipe σ vs ∧ NTurn K G B F vs t c k ds D0 σ o (i + 1) H4)
      else NTurn K G B F vs t c k ds D0 σ o (i + 1) H3 := by
  obtain ⟨F1, ρ1, acc, as, e1, rp1, ra, q1⟩ := q
  obtain ⟨d, hd, hr⟩ := rs.getV hx
  obtain ⟨hl, hde⟩ := List.getElem?_eq_some_iff.mp hd
  rw [List.drop_eq_getElem_cons hl, hde] at q1
  unfold lcForN at q1
  cases q2 : putT t d (clr ρ1 vs) with
  | none => rw [q2] at q1; cases q1
  | some ρ2 =>
    simp only [q2] at q1
    refine ⟨_, B, F1, clr ρ1 vs, d, ρ2, rp1, hr.mono e1, q2, fun σ2 s2 rp2 => ?_⟩
    have w2 : wipe σ2 vs = wipe σ vs := by rw [wipe_same s2 ht, wipe_wipe]
    refine ⟨w2, ?_⟩
    cases q3 : c ρ2 with
    | none => simp only [q3] at q1; cases q1
    | some y =>
      obtain ⟨b, ρ3⟩ := y
      simp only [q3] at q1
      refine ⟨_, B, F1, ρ2, b, ρ3, rp2, q3, fun F3 H3 e3 rp3 => ?_⟩
      cases b with
      | false =>
        refine iteF ?_
        have q1 : (if noCell ρ3 vs = true then lcForN vs t c k (ds.drop (i + 1)) as (clr ρ3 vs) else none) = some o := q1
        split at q1
        · rename_i hn
          have rp4 := rp3.wipe hn
          rw [w2] at rp4
          exact ⟨F3, ρ3, acc, as, e1.trans e3, rp4, ra.mono e3, q1⟩
        · cases q1
      | true =>
        refine iteT ?_
        have q1 : (match k ρ3 as with
          | none => none
          | some (acc2, ρ3) => if noCell ρ3 vs = true then lcForN vs t c k (ds.drop (i + 1)) acc2 (clr ρ3 vs) else none) = some o := q1
        cases q4 : k ρ3 as with
        | none => rw [q4] at q1; cases q1
        | some y =>
          obtain ⟨as2, ρ4⟩ := y
          rw [q4] at q1
          have q1 : (if noCell ρ4 vs = true then lcForN vs t c k (ds.drop (i + 1)) as2 (clr ρ4 vs) else none) = some o := q1
          split at q1
          · rename_i hn
            refine ⟨G, B, F3, ρ3, acc, as, as2, ρ4, hG, rp3, ra.mono e3, q4, fun σ4 F4 H4 acc4 e4 rp4 ra4 s4 => ?_⟩
            have w4 : wipe σ4 vs = wipe σ vs := by rw [wipe_same s4 hv, w2]
            refine ⟨w4, ?_⟩
            have rp5 := rp4.wipe hn
            rw [w4] at rp5
            exact ⟨F4, ρ4, acc4, as2, (e1.trans e3).trans e4, rp5, ra4, q1⟩
          · cases q1
theorem nturn_start {ρ1 : EnvD} {D0 : Addr} (rp : Rep K G B F H ρ1 σ) (hn : noCell ρ1 vs = true) (hD : H D0 = none) (q : lcForN vs t c k ds [] (clr ρ1 vs) = some o) : G D0 = none ∧ NTurn K G B F vs t c k ds D0 σ o 0 (upd H D0 (.lst [])) := by
  obtain ⟨a, b, g, d⟩ := rp.new (o := .lst []) hD
  refine ⟨g, F, ρ1, [], [], Ex.refl F, ?_, .nil, q⟩
  have r2 := a.wipe hn
  refine r2.inG upd_same b g fun i e' h z => ?_
  have hi : i ∉ vs := fun hi => by
    have z2 := wipe_in hi z
    cases z2
  rw [wipe_out hi] at z
  refine d i e' ?_ z
  unfold cellOf at h ⊢
  rw [clr_out hi] at h
  exact h
theorem clr_clr {ρ3 : EnvD} : clr (clr ρ3 vs) vs = clr ρ3 vs := by
  apply List.ext_getElem?
  intro i
  by_cases hi : i ∈ vs
  · have l1 : (clr (clr ρ3 vs) vs).length = (clr ρ3 vs).length := clr_length _ _
    cases e1 : (clr (clr ρ3 vs) vs)[i]? with
    | none =>
      rw [List.getElem?_eq_none_iff] at e1
      rw [eq_comm, List.getElem?_eq_none_iff]
      omega
    | some x =>
      cases e2 : (clr ρ3 vs)[i]? with
      | none =>
        rw [List.getElem?_eq_none_iff] at e2
        have := (List.getElem?_eq_some_iff.mp e1).1
        omega
      | some y => rw [clr_in hi e1, clr_in hi e2]
  · rw [clr_out hi]
theorem nturn_end {acc : List D} {ρ1 ρ2 : EnvD} (rs : Rs K F xs ds) (rp : Rep K G B F H ρ1 σ) (hn : noCell ρ1 vs = true) (hG : G D0 = none) (q : NTurn K G B F vs t c k ds D0 σ (acc, ρ2) xs.length H') : ∃ F', Ex F F' ∧ Rep K G B F' H' (back ρ1 (clr ρ2 vs) vs) σ ∧ RRe K G F' H' (back ρ1 (clr ρ2 vs) vs) σ (.ref D0) (.new (.lst acc)) := by
  obtain ⟨F1, ρ3, as, bs, e1, rp1, ra, q1⟩ := q
  rw [rs.len, List.drop_length] at q1
  cases q1
  rw [clr_clr]
  obtain ⟨r1, r2, r3, r4⟩ := rp1.outG hG
  have r5 := Rep.unwipe rp hn e1 r1
  refine ⟨F1, e1, r5, D0, rfl, r2, hG, ⟨as, r3, ra⟩, fun i e' h z => ?_⟩
  by_cases hi : i ∈ vs
  · have hl := cell_lt h
    rw [back_length] at hl
    have zz := noCell_of hn hi
    unfold cellOf at h zz
    rw [back_in hi hl (by rw [rp.len, r1.len, wipe_length])] at h
    rw [zz] at h
    cases h
  · refine r4 i e' ?_ (by rw [wipe_out hi]; exact z)
    unfold cellOf at h ⊢
    rw [back_out hi] at h
    exact h
/-- the source of a for: a list or a tuple -/
abbrev iLT (K : Frag) (f : Fv) : TI := fun σ H R => iList K (tV K f) σ H R ∨ iTup K (tV K f) σ H R
/-- what is to be shown of a source that is walked, of whatever kind -/
theorem wk_source {f : Fv} {d : D} {ρ1 : EnvD} {R : It → Hp → Prop} (rp : Rep K G B F H ρ σ) (q1 : f ρ = some (d, ρ1)) (hi : itemsOf d = some ds)
    (z : ∀ (a : Addr) (xs : List V) (F1 H1 : Hp), Ex F F1 → Rep K G B F1 H1 ρ1 σ → Rs K F1 xs ds → (SqL K F1 a xs → R (Itl K a) H1) ∧ (SqT K F1 a xs → R (Itt K a) H1)) : iLT K f σ H R := by
  cases d with
  | tup l =>
    cases hi
    refine .inr ⟨G, B, F, ρ, _, ρ1, rp, q1, fun v F1 H1 e1 rp1 r1 => ?_⟩
    cases r1 with
    | @tup p xs _ sq rs => exact ⟨p, rfl, ⟨xs, rp1.exF.seqT sq⟩, (z p xs F1 H1 e1 rp1 rs).2 sq⟩
  | lst l =>
    cases hi
    refine .inl ⟨G, B, F, ρ, _, ρ1, rp, q1, fun v F1 H1 e1 rp1 r1 => ?_⟩
    cases r1 with
    | @lst p xs _ sq rs => exact ⟨p, rfl, ⟨xs, SqL.of (rp1.exF _ _ sq)⟩, (z p xs F1 H1 e1 rp1 rs).1 (SqL.of sq)⟩
  | rol l =>
    cases hi
    refine .inl ⟨G, B, F, ρ, _, ρ1, rp, q1, fun v F1 H1 e1 rp1 r1 => ?_⟩
    cases r1 with
    | @rol p xs _ sq rs => exact ⟨p, rfl, ⟨xs, rp1.exF.seqL sq⟩, (z p xs F1 H1 e1 rp1 rs).1 sq⟩
  | _ => cases hi
theorem wk_loopN {cl : DC} {vs0 : List Nat} (ht : ∀ j, j ∈ cl.t.ix → j ∈ cl.vs) (hv : ∀ j, j ∈ vs' → j ∈ cl.vs) (hv0 : ∀ j, j ∈ cl.vs → j ∈ vs0) (σ : L2.St) (H : Hp) (Q : L2.St → Hp → Prop) (h : tBD K D0 (loopF2 cl k) vs0 σ H Q) :
    tLoopN (iLT K cl.it) (gT K cl.t) (tT K cl.c) (tBD K D0 k vs') cl.vs σ H Q := by
  obtain ⟨G, B, F, ρ, acc, as, o, ρ', hG, rp, ra, ek, z⟩ := h
  unfold loopF2 at ek
  cases q1 : cl.it ρ with
  | none => rw [q1] at ek; cases ek
  | some y =>
    obtain ⟨d, ρ1⟩ := y
    rw [q1] at ek
    simp only at ek
    cases q2 : itemsOf d with
    | none => rw [q2] at ek; cases ek
    | some ds =>
      rw [q2] at ek
      simp only at ek
      split at ek
      · rename_i hn
        refine wk_source rp q1 q2 fun a xs F1 H1 e1 rp1 rs => ?_
        have st : NTurn K G B F1 cl.vs cl.t cl.c k ds D0 σ (o, ρ') 0 H1 := ⟨F1, ρ1, acc, as, Ex.refl F1, rp1.wipe hn, ra.mono e1, ek⟩
        have fin : ∀ H', NTurn K G B F1 cl.vs cl.t cl.c k ds D0 σ (o, ρ') xs.length H' → Q (wipe σ cl.vs) H' := fun H' q => by
          obtain ⟨F2, ρ2, acc2, as2, e2, rp2, ra2, q3⟩ := q
          rw [rs.len, List.drop_length] at q3
          cases q3
          exact z _ F2 H' acc2 (e1.trans e2) rp2 ra2 ⟨wipe_length _ _, fun j hj => wipe_out fun h => hj (hv0 j h)⟩
        refine ⟨fun sq => walk_list (xs := xs) (Body := fun x H' Nx => gT K cl.t x (wipe σ cl.vs) H' fun σ3 H5 => wipe σ3 cl.vs = wipe σ cl.vs ∧ tT K cl.c σ3 H5 fun b H6 => if b = true then tBD K D0 k vs' σ3 H6 (fun σ4 H7 => wipe σ4 cl.vs = wipe σ cl.vs ∧ Nx H7) else Nx H6) (NTurn K G B F1 cl.vs cl.t cl.c k ds D0 σ (o, ρ')) st (fun i H _ q => ?_) (fun i x H hx q => nturn_ok hG rs ht hv hx q) fin, fun sq => walk_tup (xs := xs) (Body := fun x H' Nx => gT K cl.t x (wipe σ cl.vs) H' fun σ3 H5 => wipe σ3 cl.vs = wipe σ cl.vs ∧ tT K cl.c σ3 H5 fun b H6 => if b = true then tBD K D0 k vs' σ3 H6 (fun σ4 H7 => wipe σ4 cl.vs = wipe σ cl.vs ∧ Nx H7) else Nx H6) (NTurn K G B F1 cl.vs cl.t cl.c k ds D0 σ (o, ρ')) st (fun i H _ q => ?_) (fun i x H hx q => nturn_ok hG rs ht hv hx q) fin⟩
        · obtain ⟨F2, ρ2, _, _, e2, rp2, _, _⟩ := q
          exact rp2.exF.seqL (e2.seqL sq)
        · obtain ⟨F2, ρ2, _, _, e2, rp2, _, _⟩ := q
          exact rp2.exF.seqT (e2.seqT sq)
      · cases ek
theorem wk_lcN {cl : DC} (ht : ∀ j, j ∈ cl.t.ix → j ∈ cl.vs) (hv : ∀ j, j ∈ vs' → j ∈ cl.vs) (σ : L2.St) (H : Hp) (Q : VK) (h : tE K (lcNE cl k) σ H Q) :
    tLcN (iLT K cl.it) (gT K cl.t) (tT K cl.c) (fun D0 => tBD K D0 k vs') cl.vs σ H Q := by
  obtain ⟨G, B, F, ρ, r, ρ', rp, ef, z⟩ := h
  unfold lcNE at ef
  cases q1 : cl.it ρ with
  | none => rw [q1] at ef; cases ef
  | some y =>
    obtain ⟨d, ρ1⟩ := y
    rw [q1] at ef
    simp only at ef
    cases q2 : itemsOf d with
    | none => rw [q2] at ef; cases ef
    | some ds =>
      rw [q2] at ef
      simp only at ef
      split at ef
      · rename_i hn
        split at ef
        · rename_i acc ρ2 q3
          cases ef
          refine wk_source rp q1 q2 fun a xs F1 H1 e1 rp1 rs => ?_
          have go : ∀ D0, H1 D0 = none → G D0 = none ∧ NTurn K G B F1 cl.vs cl.t cl.c k ds D0 σ (acc, ρ2) 0 (upd H1 D0 (.lst [])) := fun D0 hD => nturn_start rp1 hn hD q3
          have fin : ∀ D0, G D0 = none → ∀ H', NTurn K G B F1 cl.vs cl.t cl.c k ds D0 σ (acc, ρ2) xs.length H' → Q (.ref D0) H' := fun D0 hG H' q => by
            obtain ⟨F2, e2, rp2, rr⟩ := nturn_end rs rp1 hn hG q
            exact z _ F2 H' (e1.trans e2) rp2 rr
          refine ⟨fun sq D0 hD => ?_, fun sq D0 hD => ?_⟩
          · obtain ⟨hG, st⟩ := go D0 hD
            refine walk_list (xs := xs) (Body := fun x H' Nx => gT K cl.t x (wipe σ cl.vs) H' fun σ3 H5 => wipe σ3 cl.vs = wipe σ cl.vs ∧ tT K cl.c σ3 H5 fun b H6 => if b = true then tBD K D0 k vs' σ3 H6 (fun σ4 H7 => wipe σ4 cl.vs = wipe σ cl.vs ∧ Nx H7) else Nx H6) (NTurn K G B F1 cl.vs cl.t cl.c k ds D0 σ (acc, ρ2)) st (fun i H _ q => ?_) (fun i x H hx q => nturn_ok hG rs ht hv hx q) (fin D0 hG)
            obtain ⟨F2, ρ2, _, _, e2, rp2, _, _⟩ := q
            exact rp2.exF.seqL (e2.seqL sq)
          · obtain ⟨hG, st⟩ := go D0 hD
            refine walk_tup (xs := xs) (Body := fun x H' Nx => gT K cl.t x (wipe σ cl.vs) H' fun σ3 H5 => wipe σ3 cl.vs = wipe σ cl.vs ∧ tT K cl.c σ3 H5 fun b H6 => if b = true then tBD K D0 k vs' σ3 H6 (fun σ4 H7 => wipe σ4 cl.vs = wipe σ cl.vs ∧ Nx H7) else Nx H6) (NTurn K G B F1 cl.vs cl.t cl.c k ds D0 σ (acc, ρ2)) st (fun i H _ q => ?_) (fun i x H hx q => nturn_ok hG rs ht hv hx q) (fin D0 hG)
            obtain ⟨F2, ρ2, _, _, e2, rp2, _, _⟩ := q
            exact rp2.exF.seqT (e2.seqT sq)
        · cases ef
      · cases ef
end
section
variable {X : Cx}
/-- a body that stands in each block -/
def BodyD (X : Cx) (scope : Scope) (WB : Env → Addr → WBody) (k : Fk) (vs : List Nat) : Prop := ∀ (D : Addr) (s : Shared) (H : Hp) (C : Addr) (cl : List (Str × Addr)) (fp : List Addr), PB (X.blk s H scope (compEnvC scope cl C X.env) fp) (WB (compEnvC scope cl C X.env) D) (tBD X.K D k vs)
theorem eb_emit {scope : Scope} {elt : Expr} {fe : Fv} {vs : List Nat} (he : ∀ (s : Shared) (H : Hp) (C : Addr) (cl : List (Str × Addr)) (fp : List Addr), PE (X.blk s H scope (compEnvC scope cl C X.env) fp) elt (tV X.K fe)) :
    BodyD X scope (fun env D => wbApp X.prog X.w X.A elt (.ref D) env) (emitF fe) vs := fun D s H C cl fp => PB.weak (pb_emit (X := X.blk s H scope (compEnvC scope cl C X.env) fp) rfl (he s H C cl fp)) fun σ H Q => wk_emit σ H Q
theorem eb_loop {scope : Scope} {e tg iter : Expr} {ifs : List Expr} {k : Nat} {c : DC} {kk : Fk} {WB : Env → Addr → WBody} {vs vs0 : List Nat} (hc : X.calm = true) (hp : ∀ A, Plain X.prog X.w A e) (hT : ∀ (env : Env) (D : Addr), TurnIs X.prog X.w X.A e k tg ifs (.ref D) env (WB env D)) (hcl : (clausesOf e)[k]? = some ⟨tg, iter, ifs, 0⟩)
    (hi : ∀ (s : Shared) (H : Hp) (C : Addr) (cl : List (Str × Addr)) (fp : List Addr), PE (X.blk s H scope (compEnvC scope cl C X.env) fp) iter (tV X.K c.it))
    (hg : ∀ (s : Shared) (H : Hp) (C : Addr) (cl : List (Str × Addr)) (fp : List Addr), PG (X.blk s H scope (compEnvC scope cl C X.env) fp) tg (gT X.K c.t))
    (hf : ∀ (s : Shared) (H : Hp) (C : Addr) (cl : List (Str × Addr)) (fp : List Addr), PTs (X.blk s H scope (compEnvC scope cl C X.env) fp) ifs (tT X.K c.c))
    (hb : BodyD X scope WB kk vs) (ht : ∀ j, j ∈ c.t.ix → j ∈ c.vs) (hv : ∀ j, j ∈ vs → j ∈ c.vs) (hv0 : ∀ j, j ∈ c.vs → j ∈ vs0) :
    BodyD X scope (fun env D => wbIn X.prog X.w X.A e k (.ref D) iter env) (loopF2 c kk) vs0 := fun D s H C cl fp =>
  PB.weak (pb_loop (X := X.blk s H scope (compEnvC scope cl C X.env) fp) (vs := c.vs) rfl hc (hp _) (hT _ D) hcl (PI.or (pi_list (hi s H C cl fp)) (pi_tup (hi s H C cl fp))) (hg s H C cl fp) (hf s H C cl fp) (hb D s H C cl fp)) fun σ H Q h => wk_loopN ht hv hv0 σ H Q h
theorem ev_lcN {elt tg iter : Expr} {ifs : List Expr} {rest : List Comprehension} {scope : Scope} {own : List (Str × Nat)} {pos : Pos} {c : DC} {kk : Fk} {WB : Env → Addr → WBody} {vs : List Nat} (hc : X.calm = true) (hN : X.N.Nodup) (hi : PE X iter (tV X.K c.it)) (ok : BlkOk X.N X.env.scope scope own)
    (hg : ∀ (s : Shared) (H : Hp) (C : Addr) (cl : List (Str × Addr)) (fp : List Addr), PG (X.blk s H scope (compEnvC scope cl C X.env) fp) tg (gT X.K c.t))
    (hf : ∀ (s : Shared) (H : Hp) (C : Addr) (cl : List (Str × Addr)) (fp : List Addr), PTs (X.blk s H scope (compEnvC scope cl C X.env) fp) ifs (tT X.K c.c))
    (hT : ∀ (env : Env) (D : Addr), TurnIs X.prog X.w X.A (.ListComp elt (⟨tg, iter, ifs, 0⟩ :: rest) scope pos) 0 tg ifs (.ref D) env (WB env D))
    (hb : BodyD X scope WB kk vs) (hs : ∀ x : Value, foldedSetIterable iter X.env x = pure x) (ht : ∀ j, j ∈ c.t.ix → j ∈ c.vs) (hv : ∀ j, j ∈ vs → j ∈ c.vs) (hvs : (own.map fun x => x.snd) = c.vs) :
    PE X (.ListComp elt (⟨tg, iter, ifs, 0⟩ :: rest) scope pos) (tE X.K (lcNE c kk)) := by
  have p := pe_lcN (T := fun D => tBD X.K D kk vs) (rest := rest) (elt := elt) (pos := pos) hc hN (PI.or (pi_list hi) (pi_tup hi)) ok hg hf hT hb hs
  rw [hvs] at p
  exact PE.weak p fun σ H Q h => wk_lcN ht hv σ H Q h
theorem es_setLcN {i : Nat} {y : Str} {py spos : Pos} {elt tg iter : Expr} {ifs : List Expr} {rest : List Comprehension} {scope : Scope} {own : List (Str × Nat)} {pos : Pos} {c : DC} {kk : Fk} {WB : Env → Addr → WBody} {vs : List Nat} (hc : X.calm = true) (hN : X.N.Nodup) (hy : X.N[i]? = some y) (hl : List.lookup y X.env.scope.names = some NameKind.local)
    (hsw : swapsWith (.ListComp elt (⟨tg, iter, ifs, 0⟩ :: rest) scope pos) (some (.Name y py)) spos.line X.env = pure true) (hi : PE X iter (tV X.K c.it)) (ok : BlkOk X.N X.env.scope scope own)
    (hg : ∀ (s : Shared) (H : Hp) (C : Addr) (cl : List (Str × Addr)) (fp : List Addr), PG (X.blk s H scope (compEnvC scope cl C X.env) fp) tg (gT X.K c.t))
    (hf : ∀ (s : Shared) (H : Hp) (C : Addr) (cl : List (Str × Addr)) (fp : List Addr), PTs (X.blk s H scope (compEnvC scope cl C X.env) fp) ifs (tT X.K c.c))
    (hT : ∀ (env : Env) (D : Addr), TurnIs X.prog X.w X.A (.ListComp elt (⟨tg, iter, ifs, 0⟩ :: rest) scope pos) 0 tg ifs (.ref D) env (WB env D))
    (hb : BodyD X scope WB kk vs) (hs : ∀ x : Value, foldedSetIterable iter X.env x = pure x) (ht : ∀ j, j ∈ c.t.ix → j ∈ c.vs) (hv : ∀ j, j ∈ vs → j ∈ c.vs) (hvs : (own.map fun x => x.snd) = c.vs) :
    PS X (.Assign [.Name y py] (.ListComp elt (⟨tg, iter, ifs, 0⟩ :: rest) scope pos) spos) (tS X.K (setF i (lcNE c kk))) := by
  have p := ps_setLcN (i := i) (T := fun D => tBD X.K D kk vs) (rest := rest) (elt := elt) (pos := pos) hc hN hy hl hsw (PI.or (pi_list hi) (pi_tup hi)) ok hg hf hT hb hs
  rw [hvs] at p
  exact PS.weak p fun D σ H h => wk_setLc (fun σ H Q h => wk_lcN ht hv σ H Q h) D σ H h
end
end Ev
/-! Lp -/
namespace Ev
open PySem PySem.Spec PyProof.Rows L2
theorem loop_nx {α : Type} {t : Tg} {body : Fs} {f : α → D} (I : List α → EnvD → Prop) : ∀ (xs pre : List α) (ρ : EnvD), I pre ρ → (∀ pr x post ρ, pre ++ xs = pr ++ x :: post → I pr ρ → ∃ ρ1 ρ2, putT t (f x) ρ = some ρ1 ∧ body ρ1 = some (.nx ρ2) ∧ I (pr ++ [x]) ρ2) →
    ∃ ρ', loopF t body (xs.map f) ρ = some (.nx ρ') ∧ I (pre ++ xs) ρ'
  | [], pre, ρ, h, _ => ⟨ρ, rfl, by rw [List.append_nil]; exact h⟩
  | x :: xs, pre, ρ, h, s => by
    obtain ⟨ρ1, ρ2, e1, e2, h2⟩ := s pre x xs ρ rfl h
    obtain ⟨ρ', e, h'⟩ := loop_nx (t := t) (body := body) (f := f) I xs (pre ++ [x]) ρ2 h2 fun p y q r hy => s p y q r (by rw [← hy, List.append_assoc]; rfl)
    refine ⟨ρ', ?_, by rw [List.append_assoc] at h'; exact h'⟩
    rw [List.map_cons, loopF, e1]
    simp only [e2]
    exact e
theorem lcFor_nx {α : Type} {vs : List Nat} {t : Tg} {c : Fb} {k : Fk} {f : α → D} (I : List α → List D → EnvD → Prop) : ∀ (xs pre : List α) (acc : List D) (ρ : EnvD), I pre acc ρ →
    (∀ pr x post acc ρ, pre ++ xs = pr ++ x :: post → I pr acc ρ → ∃ ρ1 b ρ2, putT t (f x) ρ = some ρ1 ∧ c ρ1 = some (b, ρ2) ∧ (b = false → noCell ρ2 vs = true ∧ I (pr ++ [x]) acc (clr ρ2 vs)) ∧ (b = true → ∃ acc2 ρ3, k ρ2 acc = some (acc2, ρ3) ∧ noCell ρ3 vs = true ∧ I (pr ++ [x]) acc2 (clr ρ3 vs))) →
    ∃ acc' ρ', lcForN vs t c k (xs.map f) acc ρ = some (acc', ρ') ∧ I (pre ++ xs) acc' ρ'
  | [], pre, acc, ρ, h, _ => ⟨acc, ρ, rfl, by rw [List.append_nil]; exact h⟩
  | x :: xs, pre, acc, ρ, h, s => by
    obtain ⟨ρ1, b, ρ2, e1, e2, hf, ht⟩ := s pre x xs acc ρ rfl h
    have nxt := fun acc2 ρ3 h2 => lcFor_nx (vs := vs) (t := t) (c := c) (k := k) (f := f) I xs (pre ++ [x]) acc2 ρ3 h2 fun p y q a r hy => s p y q a r (by rw [← hy, List.append_assoc]; rfl)
    rw [List.map_cons, lcForN, e1]
    simp only [e2]
    cases b with
    | false =>
      obtain ⟨n, h2⟩ := hf rfl
      obtain ⟨acc', ρ', e, h'⟩ := nxt _ _ h2
      exact ⟨acc', ρ', by simp only [n, if_true]; exact e, by rw [List.append_assoc] at h'; exact h'⟩
    | true =>
      obtain ⟨acc2, ρ3, e3, n, h2⟩ := ht rfl
      obtain ⟨acc', ρ', e, h'⟩ := nxt _ _ h2
      exact ⟨acc', ρ', by simp only [e3, n, if_true]; exact e, by rw [List.append_assoc] at h'; exact h'⟩
theorem lcLoop_nx {α : Type} {vs : List Nat} {t : Tg} {c : Fb} {e : Fv} {f : α → D} (I : List α → List D → EnvD → Prop) : ∀ (xs pre : List α) (acc : List D) (ρ : EnvD), I pre acc ρ →
    (∀ pr x post acc ρ, pre ++ xs = pr ++ x :: post → I pr acc ρ → ∃ ρ1 b ρ2, putT t (f x) ρ = some ρ1 ∧ c ρ1 = some (b, ρ2) ∧ (b = false → noCell ρ2 vs = true ∧ I (pr ++ [x]) acc (clr ρ2 vs)) ∧ (b = true → ∃ y ρ3, e ρ2 = some (y, ρ3) ∧ noCell ρ3 vs = true ∧ acc.length < sizeLine ∧ I (pr ++ [x]) (acc ++ [y]) (clr ρ3 vs))) →
    ∃ acc' ρ', lcLoop vs t c e (xs.map f) acc ρ = some (acc', ρ') ∧ I (pre ++ xs) acc' ρ'
  | [], pre, acc, ρ, h, _ => ⟨acc, ρ, rfl, by rw [List.append_nil]; exact h⟩
  | x :: xs, pre, acc, ρ, h, s => by
    obtain ⟨ρ1, b, ρ2, e1, e2, hf, ht⟩ := s pre x xs acc ρ rfl h
    have nxt := fun acc2 ρ3 h2 => lcLoop_nx (vs := vs) (t := t) (c := c) (e := e) (f := f) I xs (pre ++ [x]) acc2 ρ3 h2 fun p y q a r hy => s p y q a r (by rw [← hy, List.append_assoc]; rfl)
    rw [List.map_cons, lcLoop, e1]
    simp only [e2]
    cases b with
    | false =>
      obtain ⟨n, h2⟩ := hf rfl
      obtain ⟨acc', ρ', e, h'⟩ := nxt _ _ h2
      exact ⟨acc', ρ', by simp only [n, if_true]; exact e, by rw [List.append_assoc] at h'; exact h'⟩
    | true =>
      obtain ⟨y, ρ3, e3, n, hl, h2⟩ := ht rfl
      obtain ⟨acc', ρ', e, h'⟩ := nxt _ _ h2
      refine ⟨acc', ρ', ?_, by rw [List.append_assoc] at h'; exact h'⟩
      simp only [e3, n, Bool.true_and, decide_eq_true hl, if_true]
      exact e
theorem frz_at {f : Fe} {ρ ρ1 : EnvD} {r : Re} (h : f ρ = some (r, ρ1)) : frzF f ρ = some (r.d, ρ1) := by unfold frzF; rw [h]; rfl
theorem ov_at {f : Fv} {ρ ρ1 : EnvD} {d : D} (h : f ρ = some (d, ρ1)) : ovF f ρ = some (.v d, ρ1) := by unfold ovF; rw [h]; rfl
end Ev
/-! G04 -/
namespace G04
open PySem PySem.Spec PyProof.Rows L2 Ev
abbrev PG : Program := PySem.Challenge.pw_regionsay_k04_choices_led
def ways : D := .tup (["apart", "meets", "over", "same", "inrim", "incore", "hasrim", "hascore"].map fun x => D.str (Str.ofString x))
def turns : List (Str × D) := [("apart", "apart"), ("meets", "meets"), ("over", "over"), ("same", "same"), ("inrim", "hasrim"), ("incore", "hascore"), ("hasrim", "inrim"), ("hascore", "incore")].map fun p => (Str.ofString p.1, D.str (Str.ofString p.2))
def ledT : List (List Str × D) := ([(["apart", "apart"], ["apart", "meets", "over", "same", "inrim", "incore", "hasrim", "hascore"]), (["apart", "meets"], ["apart", "meets", "over", "inrim", "incore"]), (["apart", "over"], ["apart", "meets", "over", "inrim", "incore"]), (["apart", "same"], ["apart"]), (["apart", "inrim"], ["apart", "meets", "over", "inrim", "incore"]), (["apart", "incore"], ["apart", "meets", "over", "inrim", "incore"]), (["apart", "hasrim"], ["apart"]), (["apart", "hascore"], ["apart"]), (["meets", "apart"], ["apart", "meets", "over", "hasrim", "hascore"]), (["meets", "meets"], ["apart", "meets", "over", "same", "inrim", "hasrim"]), (["meets", "over"], ["apart", "meets", "over", "inrim", "incore"]), (["meets", "same"], ["meets"]), (["meets", "inrim"], ["meets", "over", "inrim", "incore"]), (["meets", "incore"], ["over", "inrim", "incore"]), (["meets", "hasrim"], ["apart", "meets"]), (["meets", "hascore"], ["apart"]), (["over", "apart"], ["apart", "meets", "over", "hasrim", "hascore"]), (["over", "meets"], ["apart", "meets", "over", "hasrim", "hascore"]), (["over", "over"], ["apart", "meets", "over", "same", "inrim", "incore", "hasrim", "hascore"]), (["over", "same"], ["over"]), (["over", "inrim"], ["over", "inrim", "incore"]), (["over", "incore"], ["over", "inrim", "incore"]), (["over", "hasrim"], ["apart", "meets", "over", "hasrim", "hascore"]), (["over", "hascore"], ["apart", "meets", "over", "hasrim", "hascore"]), (["same", "apart"], ["apart"]), (["same", "meets"], ["meets"]), (["same", "over"], ["over"]), (["same", "same"], ["same"]), (["same", "inrim"], ["inrim"]), (["same", "incore"], ["incore"]), (["same", "hasrim"], ["hasrim"]), (["same", "hascore"], ["hascore"]), (["inrim", "apart"], ["apart"]), (["inrim", "meets"], ["apart", "meets"]), (["inrim", "over"], ["apart", "meets", "over", "inrim", "incore"]), (["inrim", "same"], ["inrim"]), (["inrim", "inrim"], ["inrim", "incore"]), (["inrim", "incore"], ["incore"]), (["inrim", "hasrim"], ["apart", "meets", "over", "same", "inrim", "hasrim"]), (["inrim", "hascore"], ["apart", "meets", "over", "hasrim", "hascore"]), (["incore", "apart"], ["apart"]), (["incore", "meets"], ["apart"]), (["incore", "over"], ["apart", "meets", "over", "inrim", "incore"]), (["incore", "same"], ["incore"]), (["incore", "inrim"], ["incore"]), (["incore", "incore"], ["incore"]), (["incore", "hasrim"], ["apart", "meets", "over", "inrim", "incore"]), (["incore", "hascore"], ["apart", "meets", "over", "same", "inrim", "incore", "hasrim", "hascore"]), (["hasrim", "apart"], ["apart", "meets", "over", "hasrim", "hascore"]), (["hasrim", "meets"], ["meets", "over", "hasrim", "hascore"]), (["hasrim", "over"], ["over", "hasrim", "hascore"]), (["hasrim", "same"], ["hasrim"]), (["hasrim", "inrim"], ["over", "same", "inrim", "hasrim"]), (["hasrim", "incore"], ["over", "inrim", "incore"]), (["hasrim", "hasrim"], ["hasrim", "hascore"]), (["hasrim", "hascore"], ["hascore"]), (["hascore", "apart"], ["apart", "meets", "over", "hasrim", "hascore"]), (["hascore", "meets"], ["over", "hasrim", "hascore"]), (["hascore", "over"], ["over", "hasrim", "hascore"]), (["hascore", "same"], ["hascore"]), (["hascore", "inrim"], ["over", "hasrim", "hascore"]), (["hascore", "incore"], ["over", "same", "inrim", "incore", "hasrim", "hascore"]), (["hascore", "hasrim"], ["hascore"]), (["hascore", "hascore"], ["hascore"])] : List (List String × List String)).map fun p => (p.1.map Str.ofString, D.tup (p.2.map fun x => D.str (Str.ofString x)))
def top (i : Nat) : Stmt := PG.main.body.getD i (.Pass ⟨0, 0, 0, 0⟩)
theorem units64 {k : Nat} {A : Around} (h : Room k A) : A.units + 64 < cLine := by have := h.un; omega
theorem units1 {k : Nat} {A : Around} (h : Room k A) : A.units + 1 < cLine := by have := h.un; omega
abbrev N__law_dice : List Str := [Str.ofString "_law_script", Str.ofString "_law_mixed", Str.ofString "_law_cell"]
def lb__law_dice_1 : Fs := (setF 1 (op2E gMod (frzF (op2E gAdd (frzF (op2E gAdd (frzF (op2E gMul (frzF (varE 1)) (frzF (conE (.int 48271))))) (frzF (op2E gMul (frzF (op2E gMod (frzF (varE 2)) (frzF (conE (.int 2147483647))))) (frzF (conE (.int 69621))))))) (frzF (conE (.int 11))))) (frzF (conE (.int 2147483647)))))
def fb__law_dice : Fs := (seqF (setF 1 (conE (.int 0))) (seqF (forF (.nm 2) (frzF (varE 0)) lb__law_dice_1) (retF (lstE (consF (frzF (varE 0)) (consF (frzF (conE (.int 0))) (consF (frzF (op2E gMul (frzF (varE 1)) (frzF (opLE gInt (aoF (ovF (frzF (cmpE bGt (ovF (frzF (opLE (fun ds => (gLen ds).or (gLenS ds)) (aoF (orefF 0) anilF)))) (ovF (frzF (conE (.int 2))))))) anilF))))) (consF (frzF (conE (.int 0))) nilF))))))))
def fn__law_dice : List D → Option (Re × List D) := bodyF [false] 2 fb__law_dice
theorem nd__law_dice : (N__law_dice).Nodup := by decide +kernel
theorem bd__law_dice {CX : CXT} {P : Program} {w : World} {K : W.Frag} {mg : Str → Option Value} {base : Heap} {qual : Str} {f : Addr} {cdv : Value} {A : Around} {outer : List Env} {s : Shared} {H : Hp} {E : XK} (hr : Room 0 (A.deeper (PyProof.Rows.envOfC qual (defScope (top 8)) s.heap.objs.size f cdv))) (b_int : mg (Str.ofString "int") = none) (b_len : mg (Str.ofString "len") = none) : PSs (cxOf CX0 P w K mg base N__law_dice qual (defScope (top 8)) f cdv A outer s H E) (defBody (top 8)) (tS K fb__law_dice) :=
  have hu64 := units64 hr
  have hu1 := units1 hr
  have nd := nd__law_dice
  PSs.nox (es_cons (es_set (i := 1) nd rfl (by first | exact Or.inl rfl | exact Or.inr rfl) (ev_con pe_int (fun F => R.int _)) rfl (by first | exact Or.inl rfl | exact Or.inr rfl)) (es_cons (es_for PassesOwn.never rfl (PE.frz (ev_var (i := 0) rfl (by first | exact Or.inl rfl | exact Or.inr (Or.inl rfl) | exact Or.inr (Or.inr rfl)) rfl rfl)) (eg_name (i := 2) nd rfl (by first | exact Or.inl rfl | exact Or.inr rfl) (by first | exact Or.inl rfl | exact Or.inr rfl)) (es_one (es_set (i := 1) nd rfl (by first | exact Or.inl rfl | exact Or.inr rfl) (ev_mod (PE.frz (ev_add (PE.frz (ev_add (PE.frz (ev_mul (PE.frz (ev_var (i := 1) rfl (by first | exact Or.inl rfl | exact Or.inr (Or.inl rfl) | exact Or.inr (Or.inr rfl)) rfl rfl)) (PE.frz (ev_con pe_int (fun F => R.int _))))) (PE.frz (ev_mul (PE.frz (ev_mod (PE.frz (ev_var (i := 2) rfl (by first | exact Or.inl rfl | exact Or.inr (Or.inl rfl) | exact Or.inr (Or.inr rfl)) rfl rfl)) (PE.frz (ev_con pe_int (fun F => R.int _))))) (PE.frz (ev_con pe_int (fun F => R.int _))))))) (PE.frz (ev_con pe_int (fun F => R.int _))))) (PE.frz (ev_con pe_int (fun F => R.int _)))) rfl (by first | exact Or.inl rfl | exact Or.inr rfl))) (fun _ => rfl)) (es_one (es_ret (ev_lst (ea_cons (PE.frz (ev_var (i := 0) rfl (by first | exact Or.inl rfl | exact Or.inr (Or.inl rfl) | exact Or.inr (Or.inr rfl)) rfl rfl)) (ea_cons (PE.frz (ev_con pe_int (fun F => R.int _))) (ea_cons (PE.frz (ev_mul (PE.frz (ev_var (i := 1) rfl (by first | exact Or.inl rfl | exact Or.inr (Or.inl rfl) | exact Or.inr (Or.inr rfl)) rfl rfl)) (PE.frz (ev_int rfl b_int (aa_consO (eo_val (PE.frz (ec_gt (eo_val (PE.frz (ev_len rfl b_len (aa_consO (eo_var (i := 0) rfl (by first | exact Or.inl rfl | exact Or.inr (Or.inl rfl) | exact Or.inr (Or.inr rfl)) rfl rfl) aa_nil rfl) rfl))) (eo_val (PE.frz (ev_con pe_int (fun F => R.int _))))))) aa_nil rfl) rfl)))) (ea_cons (PE.frz (ev_con pe_int (fun F => R.int _))) ea_nil rfl) rfl) rfl) rfl))))))
theorem sc__law_dice : FnScope N__law_dice [Str.ofString "_law_script"] (defScope (top 8)) := ⟨rfl, rfl, rfl, nd__law_dice, rfl, by decide +kernel, by decide +kernel⟩
theorem ok__law_dice {P : Program} {w : World} {K : W.Frag} {mg : Str → Option Value} {base : Heap} {f : Addr} {fd : FuncData} (F : FunD K (Str.ofString "_law_dice") (Str.ofString "_law_dice") (defArgs (top 8)) (defBody (top 8)) (defScope (top 8)) [] [] f fd) (gX : mg (Str.ofString "_law_dice") = some (.ref f)) (b_int : mg (Str.ofString "int") = none) (b_len : mg (Str.ofString "len") = none) : CallD P w K mg base 1 (Str.ofString "_law_dice") [false] [] fn__law_dice :=
  ⟨f, fd, [Str.ofString "_law_script"], [], [], fn_of F sc__law_dice rfl (fun cdv A outer s H E hr => bd__law_dice (CX := CX0) (E := E) hr (b_int := b_int) (b_len := b_len)), gX, F.kp, F.bindsN fun _ _ _ _ _ _ us hl => match us, hl with | [_], _ => rfl, .nil, fun _ => .nil⟩
abbrev N__law_next : List Str := [Str.ofString "_law_dice_here", Str.ofString "_law_many", Str.ofString "_law_found", Str.ofString "_law_cell"]
def fb__law_next : Fs := (seqF (ifF (cmpT bGt (ovF (frzF (ixE gSub2 (orefF 0) (frzF (conE (.int 3)))))) (ovF (frzF (conE (.int 0))))) (seqF (setF 2 (op2E gMod (frzF (ixE gSub2 (orefF 0) (frzF (conE (.int 3))))) (frzF (varE 1)))) (seqF (setItF gPut2 0 (frzF (op2E gFdiv (frzF (ixE gSub2 (orefF 0) (frzF (conE (.int 3))))) (frzF (varE 1)))) (frzF (conE (.int 3)))) (retVarF 2))) nextF) (seqF (setItF gPut2 0 (frzF (op2E gAdd (frzF (ixE gSub2 (orefF 0) (frzF (conE (.int 1))))) (frzF (conE (.int 1))))) (frzF (conE (.int 1)))) (seqF (ifF (cmpT bLe (ovF (frzF (ixE gSub2 (orefF 0) (frzF (conE (.int 1)))))) (ovF (frzF (opLE (fun ds => (gLen ds).or (gLenS ds)) (aoF (ovF (frzF (ixE gSub2 (orefF 0) (frzF (conE (.int 0)))))) anilF))))) (seqF (setF 3 (ixE gSub2 (ovF (frzF (ixE gSub2 (orefF 0) (frzF (conE (.int 0)))))) (frzF (op2E gSub (frzF (ixE gSub2 (orefF 0) (frzF (conE (.int 1))))) (frzF (conE (.int 1))))))) (seqF (setItF gPut2 0 (frzF (iteE (cmpT bGe (orefF 3) (ovF (frzF (op2E gPow (frzF (conE (.int 10))) (frzF (conE (.int 18))))))) (op2E gFdiv (frzF (varE 3)) (frzF (varE 1))) (conE (.int 0)))) (frzF (conE (.int 3)))) (retF (op2E gMod (frzF (varE 3)) (frzF (varE 1)))))) nextF) (seqF (setItF gPut2 0 (frzF (op2E gMod (frzF (op2E gMul (frzF (ixE gSub2 (orefF 0) (frzF (conE (.int 2))))) (frzF (conE (.int 48271))))) (frzF (conE (.int 2147483647))))) (frzF (conE (.int 2)))) (retF (op2E gMod (frzF (op2E gFdiv (frzF (ixE gSub2 (orefF 0) (frzF (conE (.int 2))))) (frzF (conE (.int 7))))) (frzF (varE 1))))))))
def fn__law_next : List D → Option (Re × List D) := bodyF [true, false] 2 fb__law_next
theorem nd__law_next : (N__law_next).Nodup := by decide +kernel
theorem bd__law_next {CX : CXT} {P : Program} {w : World} {K : W.Frag} {mg : Str → Option Value} {base : Heap} {qual : Str} {f : Addr} {cdv : Value} {A : Around} {outer : List Env} {s : Shared} {H : Hp} {E : XK} (hr : Room 0 (A.deeper (PyProof.Rows.envOfC qual (defScope (top 9)) s.heap.objs.size f cdv))) (b_len : mg (Str.ofString "len") = none) : PSs (cxOf CX0 P w K mg base N__law_next qual (defScope (top 9)) f cdv A outer s H E) (defBody (top 9)) (tS K fb__law_next) :=
  have hu64 := units64 hr
  have hu1 := units1 hr
  have nd := nd__law_next
  PSs.nox (es_cons (es_if (ct_gt (eo_val (PE.frz (ev_sub2 hu1 (eo_var (i := 0) rfl (by first | exact Or.inl rfl | exact Or.inr (Or.inl rfl) | exact Or.inr (Or.inr rfl)) rfl rfl) (PE.frz (ev_con pe_int (fun F => R.int _))) (fun _ _ => rfl) (fun _ _ => rfl)))) (eo_val (PE.frz (ev_con pe_int (fun F => R.int _))))) (es_cons (es_set (i := 2) nd rfl (by first | exact Or.inl rfl | exact Or.inr rfl) (ev_mod (PE.frz (ev_sub2 hu1 (eo_var (i := 0) rfl (by first | exact Or.inl rfl | exact Or.inr (Or.inl rfl) | exact Or.inr (Or.inr rfl)) rfl rfl) (PE.frz (ev_con pe_int (fun F => R.int _))) (fun _ _ => rfl) (fun _ _ => rfl))) (PE.frz (ev_var (i := 1) rfl (by first | exact Or.inl rfl | exact Or.inr (Or.inl rfl) | exact Or.inr (Or.inr rfl)) rfl rfl))) rfl (by first | exact Or.inl rfl | exact Or.inr rfl)) (es_cons (es_setI (k := 0) hu1 rfl (by first | exact Or.inl rfl | exact Or.inr (Or.inl rfl) | exact Or.inr (Or.inr rfl)) rfl rfl (PE.frz (ev_fdiv (PE.frz (ev_sub2 hu1 (eo_var (i := 0) rfl (by first | exact Or.inl rfl | exact Or.inr (Or.inl rfl) | exact Or.inr (Or.inr rfl)) rfl rfl) (PE.frz (ev_con pe_int (fun F => R.int _))) (fun _ _ => rfl) (fun _ _ => rfl))) (PE.frz (ev_var (i := 1) rfl (by first | exact Or.inl rfl | exact Or.inr (Or.inl rfl) | exact Or.inr (Or.inr rfl)) rfl rfl)))) (PE.frz (ev_con pe_int (fun F => R.int _))) (fun _ => rfl) rfl rfl rfl rfl) (es_one (es_retVar (i := 2) rfl (by first | exact Or.inl rfl | exact Or.inr (Or.inl rfl) | exact Or.inr (Or.inr rfl)) rfl rfl)))) es_nil) (es_cons (es_setI (k := 0) hu1 rfl (by first | exact Or.inl rfl | exact Or.inr (Or.inl rfl) | exact Or.inr (Or.inr rfl)) rfl rfl (PE.frz (ev_add (PE.frz (ev_sub2 hu1 (eo_var (i := 0) rfl (by first | exact Or.inl rfl | exact Or.inr (Or.inl rfl) | exact Or.inr (Or.inr rfl)) rfl rfl) (PE.frz (ev_con pe_int (fun F => R.int _))) (fun _ _ => rfl) (fun _ _ => rfl))) (PE.frz (ev_con pe_int (fun F => R.int _))))) (PE.frz (ev_con pe_int (fun F => R.int _))) (fun _ => rfl) rfl rfl rfl rfl) (es_cons (es_if (ct_le (eo_val (PE.frz (ev_sub2 hu1 (eo_var (i := 0) rfl (by first | exact Or.inl rfl | exact Or.inr (Or.inl rfl) | exact Or.inr (Or.inr rfl)) rfl rfl) (PE.frz (ev_con pe_int (fun F => R.int _))) (fun _ _ => rfl) (fun _ _ => rfl)))) (eo_val (PE.frz (ev_len rfl b_len (aa_consO (eo_val (PE.frz (ev_sub2 hu1 (eo_var (i := 0) rfl (by first | exact Or.inl rfl | exact Or.inr (Or.inl rfl) | exact Or.inr (Or.inr rfl)) rfl rfl) (PE.frz (ev_con pe_int (fun F => R.int _))) (fun _ _ => rfl) (fun _ _ => rfl)))) aa_nil rfl) rfl)))) (es_cons (es_set (i := 3) nd rfl (by first | exact Or.inl rfl | exact Or.inr rfl) (ev_sub2 hu1 (eo_val (PE.frz (ev_sub2 hu1 (eo_var (i := 0) rfl (by first | exact Or.inl rfl | exact Or.inr (Or.inl rfl) | exact Or.inr (Or.inr rfl)) rfl rfl) (PE.frz (ev_con pe_int (fun F => R.int _))) (fun _ _ => rfl) (fun _ _ => rfl)))) (PE.frz (ev_sub (PE.frz (ev_sub2 hu1 (eo_var (i := 0) rfl (by first | exact Or.inl rfl | exact Or.inr (Or.inl rfl) | exact Or.inr (Or.inr rfl)) rfl rfl) (PE.frz (ev_con pe_int (fun F => R.int _))) (fun _ _ => rfl) (fun _ _ => rfl))) (PE.frz (ev_con pe_int (fun F => R.int _))))) (fun _ _ => rfl) (fun _ _ => rfl)) rfl (by first | exact Or.inl rfl | exact Or.inr rfl)) (es_cons (es_setI (k := 0) hu1 rfl (by first | exact Or.inl rfl | exact Or.inr (Or.inl rfl) | exact Or.inr (Or.inr rfl)) rfl rfl (PE.frz (ev_ite (ct_ge (eo_var (i := 3) rfl (by first | exact Or.inl rfl | exact Or.inr (Or.inl rfl) | exact Or.inr (Or.inr rfl)) rfl rfl) (eo_val (PE.frz (ev_pow (PE.frz (ev_con pe_int (fun F => R.int _))) (PE.frz (ev_con pe_int (fun F => R.int _))))))) (ev_fdiv (PE.frz (ev_var (i := 3) rfl (by first | exact Or.inl rfl | exact Or.inr (Or.inl rfl) | exact Or.inr (Or.inr rfl)) rfl rfl)) (PE.frz (ev_var (i := 1) rfl (by first | exact Or.inl rfl | exact Or.inr (Or.inl rfl) | exact Or.inr (Or.inr rfl)) rfl rfl))) (ev_con pe_int (fun F => R.int _)))) (PE.frz (ev_con pe_int (fun F => R.int _))) (fun _ => rfl) rfl rfl rfl rfl) (es_one (es_ret (ev_mod (PE.frz (ev_var (i := 3) rfl (by first | exact Or.inl rfl | exact Or.inr (Or.inl rfl) | exact Or.inr (Or.inr rfl)) rfl rfl)) (PE.frz (ev_var (i := 1) rfl (by first | exact Or.inl rfl | exact Or.inr (Or.inl rfl) | exact Or.inr (Or.inr rfl)) rfl rfl))))))) es_nil) (es_cons (es_setI (k := 0) hu1 rfl (by first | exact Or.inl rfl | exact Or.inr (Or.inl rfl) | exact Or.inr (Or.inr rfl)) rfl rfl (PE.frz (ev_mod (PE.frz (ev_mul (PE.frz (ev_sub2 hu1 (eo_var (i := 0) rfl (by first | exact Or.inl rfl | exact Or.inr (Or.inl rfl) | exact Or.inr (Or.inr rfl)) rfl rfl) (PE.frz (ev_con pe_int (fun F => R.int _))) (fun _ _ => rfl) (fun _ _ => rfl))) (PE.frz (ev_con pe_int (fun F => R.int _))))) (PE.frz (ev_con pe_int (fun F => R.int _))))) (PE.frz (ev_con pe_int (fun F => R.int _))) (fun _ => rfl) rfl rfl rfl rfl) (es_one (es_ret (ev_mod (PE.frz (ev_fdiv (PE.frz (ev_sub2 hu1 (eo_var (i := 0) rfl (by first | exact Or.inl rfl | exact Or.inr (Or.inl rfl) | exact Or.inr (Or.inr rfl)) rfl rfl) (PE.frz (ev_con pe_int (fun F => R.int _))) (fun _ _ => rfl) (fun _ _ => rfl))) (PE.frz (ev_con pe_int (fun F => R.int _))))) (PE.frz (ev_var (i := 1) rfl (by first | exact Or.inl rfl | exact Or.inr (Or.inl rfl) | exact Or.inr (Or.inr rfl)) rfl rfl)))))))))
theorem sc__law_next : FnScope N__law_next [Str.ofString "_law_dice_here", Str.ofString "_law_many"] (defScope (top 9)) := ⟨rfl, rfl, rfl, nd__law_next, rfl, by decide +kernel, by decide +kernel⟩
theorem ok__law_next {P : Program} {w : World} {K : W.Frag} {mg : Str → Option Value} {base : Heap} {f : Addr} {fd : FuncData} (F : FunD K (Str.ofString "_law_next") (Str.ofString "_law_next") (defArgs (top 9)) (defBody (top 9)) (defScope (top 9)) [] [] f fd) (gX : mg (Str.ofString "_law_next") = some (.ref f)) (b_len : mg (Str.ofString "len") = none) : CallD P w K mg base 1 (Str.ofString "_law_next") [true, false] [] fn__law_next :=
  ⟨f, fd, [Str.ofString "_law_dice_here", Str.ofString "_law_many"], [], [], fn_of F sc__law_next rfl (fun cdv A outer s H E hr => bd__law_next (CX := CX0) (E := E) hr (b_len := b_len)), gX, F.kp, F.bindsN fun _ _ _ _ _ _ us hl => match us, hl with | [_, _], _ => rfl, .nil, fun _ => .nil⟩
abbrev N__law_like : List Str := [Str.ofString "_law_found", Str.ofString "_law_due", Str.ofString "_law_key", Str.ofString "_law_k"]
def lb__law_like_1 (fn_rec : List D → Option (Re × List D)) : Fs := (ifF (notF (truO (ovF (frzF (callE [false, false] [] fn_rec (avF (frzF (ixE gSub2 (orefF 0) (frzF (varE 3)))) (avF (frzF (ixE gSub2 (orefF 1) (frzF (varE 3)))) anilF))))))) (retF (conE (.bl false))) nextF)
def cc__law_like_2 (fn_rec : List D → Option (Re × List D)) : Fb := (orF (cmpT (bIn true) (orefF 2) (orefF 0)) (notF (truO (ovF (frzF (callE [false, false] [] fn_rec (avF (frzF (ixE gSub2 (orefF 0) (frzF (varE 2)))) (avF (frzF (ixE gSub2 (orefF 1) (frzF (varE 2)))) anilF))))))))
def ce__law_like_3 : Fv := (frzF (varE 2))
def fb__law_like (fn_rec : List D → Option (Re × List D)) : Fs := (seqF (ifF (truO (ovF (frzF (isiE "bool" (orefF 1))))) (retF (andE (frzF (isiE "bool" (orefF 0))) (cmpE (bEq false) (orefF 0) (orefF 1)))) nextF) (seqF (ifF (truO (ovF (frzF (isiE "str" (orefF 1))))) (retF (andE (frzF (isiE "str" (orefF 0))) (cmpE (bEq false) (orefF 0) (orefF 1)))) nextF) (seqF (ifF (truO (ovF (frzF (isiE "int" (orefF 1))))) (retF (andE (frzF (isiE "int" (orefF 0))) (andE (frzF (notE (frzF (isiE "bool" (orefF 0))))) (cmpE (bEq false) (orefF 0) (orefF 1))))) nextF) (seqF (ifF (cmpT (bIsN false) (orefF 1) (ovF (frzF (conE .non)))) (retF (cmpE (bIsN false) (orefF 0) (ovF (frzF (conE .non))))) nextF) (seqF (ifF (truO (ovF (frzF (isiE "dict" (orefF 1))))) (seqF (ifF (orF (notF (truO (ovF (frzF (isiE "dict" (orefF 0)))))) (cmpT (bEq true) (ovF (frzF (opLE (fun ds => (gLen ds).or (gLenS ds)) (aoF (orefF 0) anilF)))) (ovF (frzF (opLE (fun ds => (gLen ds).or (gLenS ds)) (aoF (orefF 1) anilF)))))) (retF (conE (.bl false))) nextF) (retF (cmpE (bEq false) (ovF (frzF (lcE [2] (.nm 2) (frzF (varE 1)) (cc__law_like_2 fn_rec) ce__law_like_3))) (ovF (frzF (lstE nilF)))))) nextF) (seqF (ifF (orF (cmpT (bEq true) (ovF (frzF (isiE "tuple" (orefF 1)))) (ovF (frzF (isiE "tuple" (orefF 0))))) (cmpT (bEq true) (ovF (frzF (isiE "list" (orefF 1)))) (ovF (frzF (isiE "list" (orefF 0)))))) (retF (conE (.bl false))) nextF) (seqF (ifF (cmpT (bEq true) (ovF (frzF (opLE (fun ds => (gLen ds).or (gLenS ds)) (aoF (orefF 0) anilF)))) (ovF (frzF (opLE (fun ds => (gLen ds).or (gLenS ds)) (aoF (orefF 1) anilF))))) (retF (conE (.bl false))) nextF) (seqF (rngF rngD1 (.nm 3) (consF (frzF (opLE (fun ds => (gLen ds).or (gLenS ds)) (aoF (orefF 1) anilF))) nilF) (lb__law_like_1 fn_rec)) (retF (conE (.bl true)))))))))))
def fn__law_like : Nat → List D → Option (Re × List D)
  | 0 => fun _ => none
  | n + 1 => bodyF [false, false] 2 (fb__law_like (fn__law_like n))
theorem eq__law_like (n : Nat) : fn__law_like (n + 1) = bodyF [false, false] 2 (fb__law_like (fn__law_like n)) := rfl
theorem nd__law_like : (N__law_like).Nodup := by decide +kernel
theorem bd__law_like {fn_rec : List D → Option (Re × List D)} {lv : Nat} {CX : CXT} {P : Program} {w : World} {K : W.Frag} {mg : Str → Option Value} {base : Heap} {qual : Str} {f : Addr} {cdv : Value} {A : Around} {outer : List Env} {s : Shared} {H : Hp} {E : XK} (hr : Room lv (A.deeper (PyProof.Rows.envOfC qual (defScope (top 10)) s.heap.objs.size f cdv))) (b_bool : mg (Str.ofString "bool") = none) (b_dict : mg (Str.ofString "dict") = none) (b_int : mg (Str.ofString "int") = none) (b_isinstance : mg (Str.ofString "isinstance") = none) (b_len : mg (Str.ofString "len") = none) (b_list : mg (Str.ofString "list") = none) (b_range : mg (Str.ofString "range") = none) (b_str : mg (Str.ofString "str") = none) (b_tuple : mg (Str.ofString "tuple") = none) (d__law_like : CallD P w K mg base lv (Str.ofString "_law_like") [false, false] [] fn_rec) : PSs (cxOf CX0 P w K mg base N__law_like qual (defScope (top 10)) f cdv A outer s H E) (defBody (top 10)) (tS K (fb__law_like fn_rec)) :=
  have hu64 := units64 hr
  have hu1 := units1 hr
  have nd := nd__law_like
  PSs.nox (es_cons (es_if (et_look (eo_val (PE.frz (ev_isi (T := "bool") (eo_var (i := 1) rfl (by first | exact Or.inl rfl | exact Or.inr (Or.inl rfl) | exact Or.inr (Or.inr rfl)) rfl rfl) rfl b_isinstance (by decide +kernel) rfl b_bool (by decide +kernel) (by decide) (by decide) rfl rfl rfl))) (fun _ => rfl)) (es_one (es_ret (ev_and (PE.frz (ev_isi (T := "bool") (eo_var (i := 0) rfl (by first | exact Or.inl rfl | exact Or.inr (Or.inl rfl) | exact Or.inr (Or.inr rfl)) rfl rfl) rfl b_isinstance (by decide +kernel) rfl b_bool (by decide +kernel) (by decide) (by decide) rfl rfl rfl)) (ev_one (ec_eq (eo_var (i := 0) rfl (by first | exact Or.inl rfl | exact Or.inr (Or.inl rfl) | exact Or.inr (Or.inr rfl)) rfl rfl) (eo_var (i := 1) rfl (by first | exact Or.inl rfl | exact Or.inr (Or.inl rfl) | exact Or.inr (Or.inr rfl)) rfl rfl) hu64))))) es_nil) (es_cons (es_if (et_look (eo_val (PE.frz (ev_isi (T := "str") (eo_var (i := 1) rfl (by first | exact Or.inl rfl | exact Or.inr (Or.inl rfl) | exact Or.inr (Or.inr rfl)) rfl rfl) rfl b_isinstance (by decide +kernel) rfl b_str (by decide +kernel) (by decide) (by decide) rfl rfl rfl))) (fun _ => rfl)) (es_one (es_ret (ev_and (PE.frz (ev_isi (T := "str") (eo_var (i := 0) rfl (by first | exact Or.inl rfl | exact Or.inr (Or.inl rfl) | exact Or.inr (Or.inr rfl)) rfl rfl) rfl b_isinstance (by decide +kernel) rfl b_str (by decide +kernel) (by decide) (by decide) rfl rfl rfl)) (ev_one (ec_eq (eo_var (i := 0) rfl (by first | exact Or.inl rfl | exact Or.inr (Or.inl rfl) | exact Or.inr (Or.inr rfl)) rfl rfl) (eo_var (i := 1) rfl (by first | exact Or.inl rfl | exact Or.inr (Or.inl rfl) | exact Or.inr (Or.inr rfl)) rfl rfl) hu64))))) es_nil) (es_cons (es_if (et_look (eo_val (PE.frz (ev_isi (T := "int") (eo_var (i := 1) rfl (by first | exact Or.inl rfl | exact Or.inr (Or.inl rfl) | exact Or.inr (Or.inr rfl)) rfl rfl) rfl b_isinstance (by decide +kernel) rfl b_int (by decide +kernel) (by decide) (by decide) rfl rfl rfl))) (fun _ => rfl)) (es_one (es_ret (ev_and (PE.frz (ev_isi (T := "int") (eo_var (i := 0) rfl (by first | exact Or.inl rfl | exact Or.inr (Or.inl rfl) | exact Or.inr (Or.inr rfl)) rfl rfl) rfl b_isinstance (by decide +kernel) rfl b_int (by decide +kernel) (by decide) (by decide) rfl rfl rfl)) (ev_and (PE.frz (ev_not (PE.frz (ev_isi (T := "bool") (eo_var (i := 0) rfl (by first | exact Or.inl rfl | exact Or.inr (Or.inl rfl) | exact Or.inr (Or.inr rfl)) rfl rfl) rfl b_isinstance (by decide +kernel) rfl b_bool (by decide +kernel) (by decide) (by decide) rfl rfl rfl)))) (ev_one (ec_eq (eo_var (i := 0) rfl (by first | exact Or.inl rfl | exact Or.inr (Or.inl rfl) | exact Or.inr (Or.inr rfl)) rfl rfl) (eo_var (i := 1) rfl (by first | exact Or.inl rfl | exact Or.inr (Or.inl rfl) | exact Or.inr (Or.inr rfl)) rfl rfl) hu64)))))) es_nil) (es_cons (es_if (ct_isN (eo_var (i := 1) rfl (by first | exact Or.inl rfl | exact Or.inr (Or.inl rfl) | exact Or.inr (Or.inr rfl)) rfl rfl) (eo_val (PE.frz (ev_con pe_non (fun F => R.non))))) (es_one (es_ret (ec_isN (eo_var (i := 0) rfl (by first | exact Or.inl rfl | exact Or.inr (Or.inl rfl) | exact Or.inr (Or.inr rfl)) rfl rfl) (eo_val (PE.frz (ev_con pe_non (fun F => R.non))))))) es_nil) (es_cons (es_if (et_look (eo_val (PE.frz (ev_isi (T := "dict") (eo_var (i := 1) rfl (by first | exact Or.inl rfl | exact Or.inr (Or.inl rfl) | exact Or.inr (Or.inr rfl)) rfl rfl) rfl b_isinstance (by decide +kernel) rfl b_dict (by decide +kernel) (by decide) (by decide) rfl rfl rfl))) (fun _ => rfl)) (es_cons (es_if (PW.pt (et_or (et_not (et_look (eo_val (PE.frz (ev_isi (T := "dict") (eo_var (i := 0) rfl (by first | exact Or.inl rfl | exact Or.inr (Or.inl rfl) | exact Or.inr (Or.inr rfl)) rfl rfl) rfl b_isinstance (by decide +kernel) rfl b_dict (by decide +kernel) (by decide) (by decide) rfl rfl rfl))) (fun _ => rfl))) (pw_or1 (ct_ne (eo_val (PE.frz (ev_len rfl b_len (aa_consO (eo_var (i := 0) rfl (by first | exact Or.inl rfl | exact Or.inr (Or.inl rfl) | exact Or.inr (Or.inr rfl)) rfl rfl) aa_nil rfl) rfl))) (eo_val (PE.frz (ev_len rfl b_len (aa_consO (eo_var (i := 1) rfl (by first | exact Or.inl rfl | exact Or.inr (Or.inl rfl) | exact Or.inr (Or.inr rfl)) rfl rfl) aa_nil rfl) rfl))) hu64)))) (es_one (es_ret (ev_con pe_bl (fun F => R.bl _)))) es_nil) (es_one (es_ret (ec_eq (eo_val (PE.frz (ev_lc rfl nd (PE.frz (ev_var (i := 1) rfl (by first | exact Or.inl rfl | exact Or.inr (Or.inl rfl) | exact Or.inr (Or.inr rfl)) rfl rfl)) (blkOk_by (own := [(Str.ofString "_law_key", 2)]) (N := N__law_like) (sc := defScope (top 10)) (by decide +kernel)) (fun _ _ _ _ _ => (eg_name (i := 2) nd rfl (by first | exact Or.inl rfl | exact Or.inr rfl) (by first | exact Or.inl rfl | exact Or.inr rfl))) (fun _ _ _ _ _ => (ets_one (PW.pt (et_or (ct_notIn (eo_var (i := 2) rfl (by first | exact Or.inl rfl | exact Or.inr (Or.inl rfl) | exact Or.inr (Or.inr rfl)) rfl rfl) (eo_var (i := 0) rfl (by first | exact Or.inl rfl | exact Or.inr (Or.inl rfl) | exact Or.inr (Or.inr rfl)) rfl rfl) rfl) (pw_or1 (et_not (et_look (eo_val (PE.frz (ev_c d__law_like (hr.mono (Nat.le_refl _)) rfl (aa_consV (PE.frz (ev_sub2 hu1 (eo_var (i := 0) rfl (by first | exact Or.inl rfl | exact Or.inr (Or.inl rfl) | exact Or.inr (Or.inr rfl)) rfl rfl) (PE.frz (ev_var (i := 2) rfl (by first | exact Or.inl rfl | exact Or.inr (Or.inl rfl) | exact Or.inr (Or.inr rfl)) rfl rfl)) (fun _ _ => rfl) (fun _ _ => rfl))) (aa_consV (PE.frz (ev_sub2 hu1 (eo_var (i := 1) rfl (by first | exact Or.inl rfl | exact Or.inr (Or.inl rfl) | exact Or.inr (Or.inr rfl)) rfl rfl) (PE.frz (ev_var (i := 2) rfl (by first | exact Or.inl rfl | exact Or.inr (Or.inl rfl) | exact Or.inr (Or.inr rfl)) rfl rfl)) (fun _ _ => rfl) (fun _ _ => rfl))) aa_nil rfl) rfl) rfl rfl rfl))) (fun _ => rfl)))))))) (fun _ _ _ _ _ => (PE.frz (ev_var (i := 2) rfl (by first | exact Or.inl rfl | exact Or.inr (Or.inl rfl) | exact Or.inr (Or.inr rfl)) rfl rfl))) (fun _ => rfl) (by decide) rfl))) (eo_val (PE.frz (ev_lst ea_nil))) hu64)))) es_nil) (es_cons (es_if (PW.pt (et_or (ct_ne (eo_val (PE.frz (ev_isi (T := "tuple") (eo_var (i := 1) rfl (by first | exact Or.inl rfl | exact Or.inr (Or.inl rfl) | exact Or.inr (Or.inr rfl)) rfl rfl) rfl b_isinstance (by decide +kernel) rfl b_tuple (by decide +kernel) (by decide) (by decide) rfl rfl rfl))) (eo_val (PE.frz (ev_isi (T := "tuple") (eo_var (i := 0) rfl (by first | exact Or.inl rfl | exact Or.inr (Or.inl rfl) | exact Or.inr (Or.inr rfl)) rfl rfl) rfl b_isinstance (by decide +kernel) rfl b_tuple (by decide +kernel) (by decide) (by decide) rfl rfl rfl))) hu64) (pw_or1 (ct_ne (eo_val (PE.frz (ev_isi (T := "list") (eo_var (i := 1) rfl (by first | exact Or.inl rfl | exact Or.inr (Or.inl rfl) | exact Or.inr (Or.inr rfl)) rfl rfl) rfl b_isinstance (by decide +kernel) rfl b_list (by decide +kernel) (by decide) (by decide) rfl rfl rfl))) (eo_val (PE.frz (ev_isi (T := "list") (eo_var (i := 0) rfl (by first | exact Or.inl rfl | exact Or.inr (Or.inl rfl) | exact Or.inr (Or.inr rfl)) rfl rfl) rfl b_isinstance (by decide +kernel) rfl b_list (by decide +kernel) (by decide) (by decide) rfl rfl rfl))) hu64)))) (es_one (es_ret (ev_con pe_bl (fun F => R.bl _)))) es_nil) (es_cons (es_if (ct_ne (eo_val (PE.frz (ev_len rfl b_len (aa_consO (eo_var (i := 0) rfl (by first | exact Or.inl rfl | exact Or.inr (Or.inl rfl) | exact Or.inr (Or.inr rfl)) rfl rfl) aa_nil rfl) rfl))) (eo_val (PE.frz (ev_len rfl b_len (aa_consO (eo_var (i := 1) rfl (by first | exact Or.inl rfl | exact Or.inr (Or.inl rfl) | exact Or.inr (Or.inr rfl)) rfl rfl) aa_nil rfl) rfl))) hu64) (es_one (es_ret (ev_con pe_bl (fun F => R.bl _)))) es_nil) (es_cons (es_range1 PassesOwn.never rfl rfl b_range (ea_cons (PE.frz (ev_len rfl b_len (aa_consO (eo_var (i := 1) rfl (by first | exact Or.inl rfl | exact Or.inr (Or.inl rfl) | exact Or.inr (Or.inr rfl)) rfl rfl) aa_nil rfl) rfl)) ea_nil rfl) (eg_name (i := 3) nd rfl (by first | exact Or.inl rfl | exact Or.inr rfl) (by first | exact Or.inl rfl | exact Or.inr rfl)) (es_one (es_if (et_not (et_look (eo_val (PE.frz (ev_c d__law_like (hr.mono (Nat.le_refl _)) rfl (aa_consV (PE.frz (ev_sub2 hu1 (eo_var (i := 0) rfl (by first | exact Or.inl rfl | exact Or.inr (Or.inl rfl) | exact Or.inr (Or.inr rfl)) rfl rfl) (PE.frz (ev_var (i := 3) rfl (by first | exact Or.inl rfl | exact Or.inr (Or.inl rfl) | exact Or.inr (Or.inr rfl)) rfl rfl)) (fun _ _ => rfl) (fun _ _ => rfl))) (aa_consV (PE.frz (ev_sub2 hu1 (eo_var (i := 1) rfl (by first | exact Or.inl rfl | exact Or.inr (Or.inl rfl) | exact Or.inr (Or.inr rfl)) rfl rfl) (PE.frz (ev_var (i := 3) rfl (by first | exact Or.inl rfl | exact Or.inr (Or.inl rfl) | exact Or.inr (Or.inr rfl)) rfl rfl)) (fun _ _ => rfl) (fun _ _ => rfl))) aa_nil rfl) rfl) rfl rfl rfl))) (fun _ => rfl))) (es_one (es_ret (ev_con pe_bl (fun F => R.bl _)))) es_nil)) rfl (fun _ => rfl)) (es_one (es_ret (ev_con pe_bl (fun F => R.bl _))))))))))))
theorem sc__law_like : FnScope N__law_like [Str.ofString "_law_found", Str.ofString "_law_due"] (defScope (top 10)) := ⟨rfl, rfl, rfl, nd__law_like, rfl, by decide +kernel, by decide +kernel⟩
theorem ok__law_like {P : Program} {w : World} {K : W.Frag} {mg : Str → Option Value} {base : Heap} {f : Addr} {fd : FuncData} (F : FunD K (Str.ofString "_law_like") (Str.ofString "_law_like") (defArgs (top 10)) (defBody (top 10)) (defScope (top 10)) [] [] f fd) (gX : mg (Str.ofString "_law_like") = some (.ref f)) (b_bool : mg (Str.ofString "bool") = none) (b_dict : mg (Str.ofString "dict") = none) (b_int : mg (Str.ofString "int") = none) (b_isinstance : mg (Str.ofString "isinstance") = none) (b_len : mg (Str.ofString "len") = none) (b_list : mg (Str.ofString "list") = none) (b_range : mg (Str.ofString "range") = none) (b_str : mg (Str.ofString "str") = none) (b_tuple : mg (Str.ofString "tuple") = none) : ∀ n : Nat, CallD P w K mg base n (Str.ofString "_law_like") [false, false] [] (fn__law_like n)
  | 0 => ⟨f, fd, [Str.ofString "_law_found", Str.ofString "_law_due"], [], [], fn_zero, gX, F.kp, F.bindsN fun _ _ _ _ _ _ us hl => match us, hl with | [_, _], _ => rfl, .nil, fun _ => .nil⟩
  | n + 1 => by
    have d__law_like := ok__law_like (P := P) (w := w) (base := base) F gX (b_bool := b_bool) (b_dict := b_dict) (b_int := b_int) (b_isinstance := b_isinstance) (b_len := b_len) (b_list := b_list) (b_range := b_range) (b_str := b_str) (b_tuple := b_tuple) n
    exact ⟨f, fd, [Str.ofString "_law_found", Str.ofString "_law_due"], [], [], fn_of F sc__law_like rfl (fun cdv A outer s H E hr => bd__law_like (CX := CX0) (E := E) hr (b_bool := b_bool) (b_dict := b_dict) (b_int := b_int) (b_isinstance := b_isinstance) (b_len := b_len) (b_list := b_list) (b_range := b_range) (b_str := b_str) (b_tuple := b_tuple) (d__law_like := d__law_like)), gX, F.kp, F.bindsN fun _ _ _ _ _ _ us hl => match us, hl with | [_, _], _ => rfl, .nil, fun _ => .nil⟩
abbrev N__law_ways : List Str := []
def fb__law_ways : Fs := (retF (lstE (consF (frzF (conE (.str (Str.ofString "apart")))) (consF (frzF (conE (.str (Str.ofString "meets")))) (consF (frzF (conE (.str (Str.ofString "over")))) (consF (frzF (conE (.str (Str.ofString "same")))) (consF (frzF (conE (.str (Str.ofString "inrim")))) (consF (frzF (conE (.str (Str.ofString "incore")))) (consF (frzF (conE (.str (Str.ofString "hasrim")))) (consF (frzF (conE (.str (Str.ofString "hascore")))) nilF))))))))))
def fn__law_ways : List D → Option (Re × List D) := bodyF [] 0 fb__law_ways
theorem nd__law_ways : (N__law_ways).Nodup := by decide +kernel
theorem bd__law_ways {CX : CXT} {P : Program} {w : World} {K : W.Frag} {mg : Str → Option Value} {base : Heap} {qual : Str} {f : Addr} {cdv : Value} {A : Around} {outer : List Env} {s : Shared} {H : Hp} {E : XK} (hr : Room 0 (A.deeper (PyProof.Rows.envOfC qual (defScope (top 11)) s.heap.objs.size f cdv)))  : PSs (cxOf CX0 P w K mg base N__law_ways qual (defScope (top 11)) f cdv A outer s H E) (defBody (top 11)) (tS K fb__law_ways) :=
  have hu64 := units64 hr
  have hu1 := units1 hr
  have nd := nd__law_ways
  PSs.nox (es_one (es_ret (ev_lst (ea_cons (PE.frz (ev_con pe_str (fun F => R.str _))) (ea_cons (PE.frz (ev_con pe_str (fun F => R.str _))) (ea_cons (PE.frz (ev_con pe_str (fun F => R.str _))) (ea_cons (PE.frz (ev_con pe_str (fun F => R.str _))) (ea_cons (PE.frz (ev_con pe_str (fun F => R.str _))) (ea_cons (PE.frz (ev_con pe_str (fun F => R.str _))) (ea_cons (PE.frz (ev_con pe_str (fun F => R.str _))) (ea_cons (PE.frz (ev_con pe_str (fun F => R.str _))) ea_nil rfl) rfl) rfl) rfl) rfl) rfl) rfl) rfl))))
theorem sc__law_ways : FnScope N__law_ways [] (defScope (top 11)) := ⟨rfl, rfl, rfl, nd__law_ways, rfl, by decide +kernel, by decide +kernel⟩
theorem ok__law_ways {P : Program} {w : World} {K : W.Frag} {mg : Str → Option Value} {base : Heap} {f : Addr} {fd : FuncData} (F : FunD K (Str.ofString "_law_ways") (Str.ofString "_law_ways") (defArgs (top 11)) (defBody (top 11)) (defScope (top 11)) [] [] f fd) (gX : mg (Str.ofString "_law_ways") = some (.ref f))  : CallD P w K mg base 1 (Str.ofString "_law_ways") [] [] fn__law_ways :=
  ⟨f, fd, [], [], [], fn_of F sc__law_ways rfl (fun cdv A outer s H E hr => bd__law_ways (CX := CX0) (E := E) hr ), gX, F.kp, F.bindsN fun _ _ _ _ _ _ us hl => match us, hl with | [], _ => rfl, .nil, fun _ => .nil⟩
abbrev N__law_turned : List Str := [Str.ofString "_law_choice", Str.ofString "_law_turns", Str.ofString "_law_found", Str.ofString "_law_way"]
def cc__law_turned_1 : Fb := (cmpT (bIn false) (orefF 3) (orefF 2))
def ce__law_turned_2 : Fv := (frzF (varE 3))
def ce__law_turned_3 : Fv := (frzF (dgetF (orefF 1) (frzF (varE 3)) (frzF (varE 3))))
def fb__law_turned : Fs := (seqF (setF 1 (dispE (((frzF (conE (.str (Str.ofString "inrim")))), (frzF (conE (.str (Str.ofString "hasrim"))))) :: (((frzF (conE (.str (Str.ofString "hasrim")))), (frzF (conE (.str (Str.ofString "inrim"))))) :: (((frzF (conE (.str (Str.ofString "incore")))), (frzF (conE (.str (Str.ofString "hascore"))))) :: (((frzF (conE (.str (Str.ofString "hascore")))), (frzF (conE (.str (Str.ofString "incore"))))) :: [])))))) (seqF (setF 2 (lcE [3] (.nm 3) (frzF (varE 0)) yesF ce__law_turned_3)) (retF (opLE gTuple (aoF (ovF (frzF (lcE [3] (.nm 3) (frzF (callE [] [] fn__law_ways anilF)) cc__law_turned_1 ce__law_turned_2))) anilF)))))
def fn__law_turned : List D → Option (Re × List D) := bodyF [false] 3 fb__law_turned
theorem nd__law_turned : (N__law_turned).Nodup := by decide +kernel
theorem bd__law_turned {CX : CXT} {P : Program} {w : World} {K : W.Frag} {mg : Str → Option Value} {base : Heap} {qual : Str} {f : Addr} {cdv : Value} {A : Around} {outer : List Env} {s : Shared} {H : Hp} {E : XK} (hr : Room 1 (A.deeper (PyProof.Rows.envOfC qual (defScope (top 12)) s.heap.objs.size f cdv))) (b_tuple : mg (Str.ofString "tuple") = none) (d__law_ways : CallD P w K mg base 1 (Str.ofString "_law_ways") [] [] fn__law_ways) : PSs (cxOf CX0 P w K mg base N__law_turned qual (defScope (top 12)) f cdv A outer s H E) (defBody (top 12)) (tS K fb__law_turned) :=
  have hu64 := units64 hr
  have hu1 := units1 hr
  have nd := nd__law_turned
  PSs.nox (es_cons (es_set (i := 1) nd rfl (by first | exact Or.inl rfl | exact Or.inr rfl) (ev_disp (eps_cons (PE.frz (ev_con pe_str (fun F => R.str _))) (PE.frz (ev_con pe_str (fun F => R.str _))) (eps_cons (PE.frz (ev_con pe_str (fun F => R.str _))) (PE.frz (ev_con pe_str (fun F => R.str _))) (eps_cons (PE.frz (ev_con pe_str (fun F => R.str _))) (PE.frz (ev_con pe_str (fun F => R.str _))) (eps_cons (PE.frz (ev_con pe_str (fun F => R.str _))) (PE.frz (ev_con pe_str (fun F => R.str _))) eps_nil)))) rfl rfl (fun z => by cases z) (by decide)) rfl (by first | exact Or.inl rfl | exact Or.inr rfl)) (es_cons (es_set (i := 2) nd rfl (by first | exact Or.inl rfl | exact Or.inr rfl) (ev_lc rfl nd (PE.frz (ev_var (i := 0) rfl (by first | exact Or.inl rfl | exact Or.inr (Or.inl rfl) | exact Or.inr (Or.inr rfl)) rfl rfl)) (blkOk_by (own := [(Str.ofString "_law_way", 3)]) (N := N__law_turned) (sc := defScope (top 12)) (by decide +kernel)) (fun _ _ _ _ _ => (eg_name (i := 3) nd rfl (by first | exact Or.inl rfl | exact Or.inr rfl) (by first | exact Or.inl rfl | exact Or.inr rfl))) (fun _ _ _ _ _ => ets_nil) (fun _ _ _ _ _ => (PE.frz (ev_dget2 hu1 (eo_var (i := 1) rfl (by first | exact Or.inl rfl | exact Or.inr (Or.inl rfl) | exact Or.inr (Or.inr rfl)) rfl rfl) (PE.frz (ev_var (i := 3) rfl (by first | exact Or.inl rfl | exact Or.inr (Or.inl rfl) | exact Or.inr (Or.inr rfl)) rfl rfl)) (PE.frz (ev_var (i := 3) rfl (by first | exact Or.inl rfl | exact Or.inr (Or.inl rfl) | exact Or.inr (Or.inr rfl)) rfl rfl)) ⟨rfl, rfl, rfl, rfl⟩))) (fun _ => rfl) (by decide) rfl) rfl (by first | exact Or.inl rfl | exact Or.inr rfl)) (es_one (es_ret (ev_tuple rfl b_tuple (aa_consO (eo_val (PE.frz (ev_lc rfl nd (PE.frz (ev_c0 d__law_ways (hr.mono (by decide)) rfl rfl)) (blkOk_by (own := [(Str.ofString "_law_way", 3)]) (N := N__law_turned) (sc := defScope (top 12)) (by decide +kernel)) (fun _ _ _ _ _ => (eg_name (i := 3) nd rfl (by first | exact Or.inl rfl | exact Or.inr rfl) (by first | exact Or.inl rfl | exact Or.inr rfl))) (fun _ _ _ _ _ => (ets_one (ct_in (eo_var (i := 3) rfl (by first | exact Or.inl rfl | exact Or.inr (Or.inl rfl) | exact Or.inr (Or.inr rfl)) rfl rfl) (eo_var (i := 2) rfl (by first | exact Or.inl rfl | exact Or.inr (Or.inl rfl) | exact Or.inr (Or.inr rfl)) rfl rfl) rfl))) (fun _ _ _ _ _ => (PE.frz (ev_var (i := 3) rfl (by first | exact Or.inl rfl | exact Or.inr (Or.inl rfl) | exact Or.inr (Or.inr rfl)) rfl rfl))) (fun _ => rfl) (by decide) rfl))) aa_nil rfl) rfl)))))
theorem sc__law_turned : FnScope N__law_turned [Str.ofString "_law_choice"] (defScope (top 12)) := ⟨rfl, rfl, rfl, nd__law_turned, rfl, by decide +kernel, by decide +kernel⟩
theorem ok__law_turned {P : Program} {w : World} {K : W.Frag} {mg : Str → Option Value} {base : Heap} {f : Addr} {fd : FuncData} (F : FunD K (Str.ofString "_law_turned") (Str.ofString "_law_turned") (defArgs (top 12)) (defBody (top 12)) (defScope (top 12)) [] [] f fd) (gX : mg (Str.ofString "_law_turned") = some (.ref f)) (b_tuple : mg (Str.ofString "tuple") = none) (d__law_ways : CallD P w K mg base 1 (Str.ofString "_law_ways") [] [] fn__law_ways) : CallD P w K mg base 2 (Str.ofString "_law_turned") [false] [] fn__law_turned :=
  ⟨f, fd, [Str.ofString "_law_choice"], [], [], fn_of F sc__law_turned rfl (fun cdv A outer s H E hr => bd__law_turned (CX := CX0) (E := E) hr (b_tuple := b_tuple) (d__law_ways := d__law_ways)), gX, F.kp, F.bindsN fun _ _ _ _ _ _ us hl => match us, hl with | [_], _ => rfl, .nil, fun _ => .nil⟩
abbrev N__law_led : List Str := [Str.ofString "_law_one", Str.ofString "_law_other", Str.ofString "_law_rows"]
def fb__law_led : Fs := (seqF (setF 2 (dispE (((frzF (conE (.str (Str.ofString "apart")))), (frzF (conE (.str (Str.ofString "amosrcRC amorc amorc a amorc amorc a a"))))) :: (((frzF (conE (.str (Str.ofString "meets")))), (frzF (conE (.str (Str.ofString "amoRC amosrR amorc m morc orc am a"))))) :: [])))) (seqF (setItF gPut2 2 (frzF (conE (.str (Str.ofString "amoRC amoRC amosrcRC o orc orc amoRC amoRC")))) (frzF (conE (.str (Str.ofString "over"))))) (seqF (setItF gPut2 2 (frzF (conE (.str (Str.ofString "a m o s r c R C")))) (frzF (conE (.str (Str.ofString "same"))))) (seqF (setItF gPut2 2 (frzF (conE (.str (Str.ofString "a am amorc r rc c amosrR amoRC")))) (frzF (conE (.str (Str.ofString "inrim"))))) (seqF (setItF gPut2 2 (frzF (conE (.str (Str.ofString "a a amorc c c c amorc amosrcRC")))) (frzF (conE (.str (Str.ofString "incore"))))) (seqF (setItF gPut2 2 (frzF (conE (.str (Str.ofString "amoRC moRC oRC R osrR orc RC C")))) (frzF (conE (.str (Str.ofString "hasrim"))))) (seqF (setItF gPut2 2 (frzF (conE (.str (Str.ofString "amoRC oRC oRC C oRC osrcRC C C")))) (frzF (conE (.str (Str.ofString "hascore"))))) (retF (ixE gSub2 (ovF (frzF (methE "str" gSplit (ovF (frzF (ixE gSub2 (orefF 2) (frzF (varE 0))))) (aoF (ovF (frzF (conE (.str (Str.ofString " "))))) anilF)))) (frzF (methE "list" gIndex (ovF (frzF (callE [] [] fn__law_ways anilF))) (aoF (orefF 1) anilF))))))))))))
def fn__law_led : List D → Option (Re × List D) := bodyF [false, false] 1 fb__law_led
theorem nd__law_led : (N__law_led).Nodup := by decide +kernel
theorem bd__law_led {CX : CXT} {P : Program} {w : World} {K : W.Frag} {mg : Str → Option Value} {base : Heap} {qual : Str} {f : Addr} {cdv : Value} {A : Around} {outer : List Env} {s : Shared} {H : Hp} {E : XK} (hr : Room 1 (A.deeper (PyProof.Rows.envOfC qual (defScope (top 13)) s.heap.objs.size f cdv))) (d__law_ways : CallD P w K mg base 1 (Str.ofString "_law_ways") [] [] fn__law_ways) : PSs (cxOf CX0 P w K mg base N__law_led qual (defScope (top 13)) f cdv A outer s H E) (defBody (top 13)) (tS K fb__law_led) :=
  have hu64 := units64 hr
  have hu1 := units1 hr
  have nd := nd__law_led
  PSs.nox (es_cons (es_set (i := 2) nd rfl (by first | exact Or.inl rfl | exact Or.inr rfl) (ev_disp (eps_cons (PE.frz (ev_con pe_str (fun F => R.str _))) (PE.frz (ev_con pe_str (fun F => R.str _))) (eps_cons (PE.frz (ev_con pe_str (fun F => R.str _))) (PE.frz (ev_con pe_str (fun F => R.str _))) eps_nil)) rfl rfl (fun z => by cases z) (by decide)) rfl (by first | exact Or.inl rfl | exact Or.inr rfl)) (es_cons (es_setI (k := 2) hu1 rfl (by first | exact Or.inl rfl | exact Or.inr (Or.inl rfl) | exact Or.inr (Or.inr rfl)) rfl rfl (PE.frz (ev_con pe_str (fun F => R.str _))) (PE.frz (ev_con pe_str (fun F => R.str _))) (fun _ => rfl) rfl rfl rfl rfl) (es_cons (es_setI (k := 2) hu1 rfl (by first | exact Or.inl rfl | exact Or.inr (Or.inl rfl) | exact Or.inr (Or.inr rfl)) rfl rfl (PE.frz (ev_con pe_str (fun F => R.str _))) (PE.frz (ev_con pe_str (fun F => R.str _))) (fun _ => rfl) rfl rfl rfl rfl) (es_cons (es_setI (k := 2) hu1 rfl (by first | exact Or.inl rfl | exact Or.inr (Or.inl rfl) | exact Or.inr (Or.inr rfl)) rfl rfl (PE.frz (ev_con pe_str (fun F => R.str _))) (PE.frz (ev_con pe_str (fun F => R.str _))) (fun _ => rfl) rfl rfl rfl rfl) (es_cons (es_setI (k := 2) hu1 rfl (by first | exact Or.inl rfl | exact Or.inr (Or.inl rfl) | exact Or.inr (Or.inr rfl)) rfl rfl (PE.frz (ev_con pe_str (fun F => R.str _))) (PE.frz (ev_con pe_str (fun F => R.str _))) (fun _ => rfl) rfl rfl rfl rfl) (es_cons (es_setI (k := 2) hu1 rfl (by first | exact Or.inl rfl | exact Or.inr (Or.inl rfl) | exact Or.inr (Or.inr rfl)) rfl rfl (PE.frz (ev_con pe_str (fun F => R.str _))) (PE.frz (ev_con pe_str (fun F => R.str _))) (fun _ => rfl) rfl rfl rfl rfl) (es_cons (es_setI (k := 2) hu1 rfl (by first | exact Or.inl rfl | exact Or.inr (Or.inl rfl) | exact Or.inr (Or.inr rfl)) rfl rfl (PE.frz (ev_con pe_str (fun F => R.str _))) (PE.frz (ev_con pe_str (fun F => R.str _))) (fun _ => rfl) rfl rfl rfl rfl) (es_one (es_ret (ev_sub2 hu1 (eo_val (PE.frz (ev_meth (eo_val (PE.frz (ev_sub2 hu1 (eo_var (i := 2) rfl (by first | exact Or.inl rfl | exact Or.inr (Or.inl rfl) | exact Or.inr (Or.inr rfl)) rfl rfl) (PE.frz (ev_var (i := 0) rfl (by first | exact Or.inl rfl | exact Or.inr (Or.inl rfl) | exact Or.inr (Or.inr rfl)) rfl rfl)) (fun _ _ => rfl) (fun _ _ => rfl)))) PySem.F.plainAttrs_str PySem.F.slot_str_split PySem.F.type_str_split mt_split gSplit_ok (aa_consO (eo_val (PE.frz (ev_con pe_str (fun F => R.str _)))) aa_nil rfl) rfl rfl rfl rfl rfl))) (PE.frz (ev_meth (eo_val (PE.frz (ev_c0 d__law_ways (hr.mono (by decide)) rfl rfl))) PySem.F.plainAttrs_list PySem.F.slot_list_index PySem.F.type_list_index mt_index gIndex_ok (aa_consO (eo_var (i := 1) rfl (by first | exact Or.inl rfl | exact Or.inr (Or.inl rfl) | exact Or.inr (Or.inr rfl)) rfl rfl) aa_nil rfl) rfl rfl rfl rfl rfl)) (fun _ _ => rfl) (fun _ _ => rfl)))))))))))
theorem sc__law_led : FnScope N__law_led [Str.ofString "_law_one", Str.ofString "_law_other"] (defScope (top 13)) := ⟨rfl, rfl, rfl, nd__law_led, rfl, by decide +kernel, by decide +kernel⟩
theorem ok__law_led {P : Program} {w : World} {K : W.Frag} {mg : Str → Option Value} {base : Heap} {f : Addr} {fd : FuncData} (F : FunD K (Str.ofString "_law_led") (Str.ofString "_law_led") (defArgs (top 13)) (defBody (top 13)) (defScope (top 13)) [] [] f fd) (gX : mg (Str.ofString "_law_led") = some (.ref f)) (d__law_ways : CallD P w K mg base 1 (Str.ofString "_law_ways") [] [] fn__law_ways) : CallD P w K mg base 2 (Str.ofString "_law_led") [false, false] [] fn__law_led :=
  ⟨f, fd, [Str.ofString "_law_one", Str.ofString "_law_other"], [], [], fn_of F sc__law_led rfl (fun cdv A outer s H E hr => bd__law_led (CX := CX0) (E := E) hr (d__law_ways := d__law_ways)), gX, F.kp, F.bindsN fun _ _ _ _ _ _ us hl => match us, hl with | [_, _], _ => rfl, .nil, fun _ => .nil⟩
abbrev N__law_bits : List Str := [Str.ofString "_law_d", Str.ofString "_law_kind", Str.ofString "_law_way"]
def cc__law_bits_1 : Fb := (cmpT (bEq false) (ovF (frzF (callE [true, false] [] fn__law_next (arF 0 (avF (frzF (conE (.int 2))) anilF))))) (ovF (frzF (conE (.int 1)))))
def ce__law_bits_2 : Fv := (frzF (varE 2))
def fb__law_bits : Fs := (seqF (setF 1 (callE [true, false] [] fn__law_next (arF 0 (avF (frzF (conE (.int 4))) anilF)))) (seqF (ifF (cmpT (bEq false) (orefF 1) (ovF (frzF (conE (.int 0))))) (retF (tupE (consF (frzF (ixE gSub2 (ovF (frzF (callE [] [] fn__law_ways anilF))) (frzF (callE [true, false] [] fn__law_next (arF 0 (avF (frzF (conE (.int 8))) anilF)))))) nilF))) nextF) (seqF (ifF (cmpT (bEq false) (orefF 1) (ovF (frzF (conE (.int 1))))) (retF (ixE gSub2 (ovF (frzF (lstE (consF (frzF (tupE nilF)) (consF (frzF (opLE gTuple (aoF (ovF (frzF (callE [] [] fn__law_ways anilF))) anilF))) nilF))))) (frzF (callE [true, false] [] fn__law_next (arF 0 (avF (frzF (conE (.int 2))) anilF)))))) nextF) (retF (opLE gTuple (aoF (ovF (frzF (lcE [2] (.nm 2) (frzF (callE [] [] fn__law_ways anilF)) cc__law_bits_1 ce__law_bits_2))) anilF))))))
def fn__law_bits : List D → Option (Re × List D) := bodyF [true] 2 fb__law_bits
theorem nd__law_bits : (N__law_bits).Nodup := by decide +kernel
theorem bd__law_bits {CX : CXT} {P : Program} {w : World} {K : W.Frag} {mg : Str → Option Value} {base : Heap} {qual : Str} {f : Addr} {cdv : Value} {A : Around} {outer : List Env} {s : Shared} {H : Hp} {E : XK} (hr : Room 1 (A.deeper (PyProof.Rows.envOfC qual (defScope (top 14)) s.heap.objs.size f cdv))) (b_tuple : mg (Str.ofString "tuple") = none) (d__law_next : CallD P w K mg base 1 (Str.ofString "_law_next") [true, false] [] fn__law_next) (d__law_ways : CallD P w K mg base 1 (Str.ofString "_law_ways") [] [] fn__law_ways) : PSs (cxOf CX0 P w K mg base N__law_bits qual (defScope (top 14)) f cdv A outer s H E) (defBody (top 14)) (tS K fb__law_bits) :=
  have hu64 := units64 hr
  have hu1 := units1 hr
  have nd := nd__law_bits
  PSs.nox (es_cons (es_set (i := 1) nd rfl (by first | exact Or.inl rfl | exact Or.inr rfl) (ev_c d__law_next (hr.mono (by decide)) rfl (aa_consR (i := 0) rfl (by first | exact Or.inl rfl | exact Or.inr (Or.inl rfl) | exact Or.inr (Or.inr rfl)) rfl rfl (aa_consV (PE.frz (ev_con pe_int (fun F => R.int _))) aa_nil rfl) rfl) rfl rfl rfl) rfl (by first | exact Or.inl rfl | exact Or.inr rfl)) (es_cons (es_if (ct_eq (eo_var (i := 1) rfl (by first | exact Or.inl rfl | exact Or.inr (Or.inl rfl) | exact Or.inr (Or.inr rfl)) rfl rfl) (eo_val (PE.frz (ev_con pe_int (fun F => R.int _)))) hu64) (es_one (es_ret (ev_tup (ea_cons (PE.frz (ev_sub2 hu1 (eo_val (PE.frz (ev_c0 d__law_ways (hr.mono (by decide)) rfl rfl))) (PE.frz (ev_c d__law_next (hr.mono (by decide)) rfl (aa_consR (i := 0) rfl (by first | exact Or.inl rfl | exact Or.inr (Or.inl rfl) | exact Or.inr (Or.inr rfl)) rfl rfl (aa_consV (PE.frz (ev_con pe_int (fun F => R.int _))) aa_nil rfl) rfl) rfl rfl rfl)) (fun _ _ => rfl) (fun _ _ => rfl))) ea_nil rfl)))) es_nil) (es_cons (es_if (ct_eq (eo_var (i := 1) rfl (by first | exact Or.inl rfl | exact Or.inr (Or.inl rfl) | exact Or.inr (Or.inr rfl)) rfl rfl) (eo_val (PE.frz (ev_con pe_int (fun F => R.int _)))) hu64) (es_one (es_ret (ev_sub2 hu1 (eo_val (PE.frz (ev_lst (ea_cons (PE.frz (ev_tup ea_nil)) (ea_cons (PE.frz (ev_tuple rfl b_tuple (aa_consO (eo_val (PE.frz (ev_c0 d__law_ways (hr.mono (by decide)) rfl rfl))) aa_nil rfl) rfl)) ea_nil rfl) rfl)))) (PE.frz (ev_c d__law_next (hr.mono (by decide)) rfl (aa_consR (i := 0) rfl (by first | exact Or.inl rfl | exact Or.inr (Or.inl rfl) | exact Or.inr (Or.inr rfl)) rfl rfl (aa_consV (PE.frz (ev_con pe_int (fun F => R.int _))) aa_nil rfl) rfl) rfl rfl rfl)) (fun _ _ => rfl) (fun _ _ => rfl)))) es_nil) (es_one (es_ret (ev_tuple rfl b_tuple (aa_consO (eo_val (PE.frz (ev_lc rfl nd (PE.frz (ev_c0 d__law_ways (hr.mono (by decide)) rfl rfl)) (blkOk_by (own := [(Str.ofString "_law_way", 2)]) (N := N__law_bits) (sc := defScope (top 14)) (by decide +kernel)) (fun _ _ _ _ _ => (eg_name (i := 2) nd rfl (by first | exact Or.inl rfl | exact Or.inr rfl) (by first | exact Or.inl rfl | exact Or.inr rfl))) (fun _ _ _ _ _ => (ets_one (ct_eq (eo_val (PE.frz (ev_c d__law_next (hr.mono (by decide)) rfl (aa_consR (i := 0) rfl (by first | exact Or.inl rfl | exact Or.inr (Or.inl rfl) | exact Or.inr (Or.inr rfl)) rfl rfl (aa_consV (PE.frz (ev_con pe_int (fun F => R.int _))) aa_nil rfl) rfl) rfl rfl rfl))) (eo_val (PE.frz (ev_con pe_int (fun F => R.int _)))) hu64))) (fun _ _ _ _ _ => (PE.frz (ev_var (i := 2) rfl (by first | exact Or.inl rfl | exact Or.inr (Or.inl rfl) | exact Or.inr (Or.inr rfl)) rfl rfl))) (fun _ => rfl) (by decide) rfl))) aa_nil rfl) rfl))))))
theorem sc__law_bits : FnScope N__law_bits [Str.ofString "_law_d"] (defScope (top 14)) := ⟨rfl, rfl, rfl, nd__law_bits, rfl, by decide +kernel, by decide +kernel⟩
theorem ok__law_bits {P : Program} {w : World} {K : W.Frag} {mg : Str → Option Value} {base : Heap} {f : Addr} {fd : FuncData} (F : FunD K (Str.ofString "_law_bits") (Str.ofString "_law_bits") (defArgs (top 14)) (defBody (top 14)) (defScope (top 14)) [] [] f fd) (gX : mg (Str.ofString "_law_bits") = some (.ref f)) (b_tuple : mg (Str.ofString "tuple") = none) (d__law_next : CallD P w K mg base 1 (Str.ofString "_law_next") [true, false] [] fn__law_next) (d__law_ways : CallD P w K mg base 1 (Str.ofString "_law_ways") [] [] fn__law_ways) : CallD P w K mg base 2 (Str.ofString "_law_bits") [true] [] fn__law_bits :=
  ⟨f, fd, [Str.ofString "_law_d"], [], [], fn_of F sc__law_bits rfl (fun cdv A outer s H E hr => bd__law_bits (CX := CX0) (E := E) hr (b_tuple := b_tuple) (d__law_next := d__law_next) (d__law_ways := d__law_ways)), gX, F.kp, F.bindsN fun _ _ _ _ _ _ us hl => match us, hl with | [_], _ => rfl, .nil, fun _ => .nil⟩
abbrev N__law_union : List Str := [Str.ofString "_law_ones", Str.ofString "_law_others", Str.ofString "_law_letters", Str.ofString "_law_one", Str.ofString "_law_other", Str.ofString "_law_k"]
def cc__law_union_1 : Fb := (cmpT (bIn false) (ovF (frzF (ixE gSub2 (ovF (frzF (conE (.str (Str.ofString "amosrcRC"))))) (frzF (varE 5))))) (orefF 2))
def ce__law_union_2 : Fv := (frzF (ixE gSub2 (ovF (frzF (callE [] [] fn__law_ways anilF))) (frzF (varE 5))))
def lb__law_union_3 : Fs := (setF 2 (op2E gAdd (frzF (varE 2)) (frzF (callE [false, false] [] fn__law_led (avF (frzF (varE 3)) (avF (frzF (varE 4)) anilF))))))
def lb__law_union_4 : Fs := (forF (.nm 4) (frzF (varE 1)) lb__law_union_3)
def fb__law_union : Fs := (seqF (setF 2 (conE (.str (Str.ofString "")))) (seqF (forF (.nm 3) (frzF (varE 0)) lb__law_union_4) (retF (opLE gTuple (aoF (ovF (frzF (lcRngE rngD1 [5] (.nm 5) (consF (frzF (conE (.int 8))) nilF) cc__law_union_1 ce__law_union_2))) anilF)))))
def fn__law_union : List D → Option (Re × List D) := bodyF [false, false] 4 fb__law_union
theorem nd__law_union : (N__law_union).Nodup := by decide +kernel
theorem bd__law_union {CX : CXT} {P : Program} {w : World} {K : W.Frag} {mg : Str → Option Value} {base : Heap} {qual : Str} {f : Addr} {cdv : Value} {A : Around} {outer : List Env} {s : Shared} {H : Hp} {E : XK} (hr : Room 2 (A.deeper (PyProof.Rows.envOfC qual (defScope (top 15)) s.heap.objs.size f cdv))) (b_range : mg (Str.ofString "range") = none) (b_tuple : mg (Str.ofString "tuple") = none) (d__law_led : CallD P w K mg base 2 (Str.ofString "_law_led") [false, false] [] fn__law_led) (d__law_ways : CallD P w K mg base 1 (Str.ofString "_law_ways") [] [] fn__law_ways) : PSs (cxOf CX0 P w K mg base N__law_union qual (defScope (top 15)) f cdv A outer s H E) (defBody (top 15)) (tS K fb__law_union) :=
  have hu64 := units64 hr
  have hu1 := units1 hr
  have nd := nd__law_union
  PSs.nox (es_cons (es_set (i := 2) nd rfl (by first | exact Or.inl rfl | exact Or.inr rfl) (ev_con pe_str (fun F => R.str _)) rfl (by first | exact Or.inl rfl | exact Or.inr rfl)) (es_cons (es_for PassesOwn.never rfl (PE.frz (ev_var (i := 0) rfl (by first | exact Or.inl rfl | exact Or.inr (Or.inl rfl) | exact Or.inr (Or.inr rfl)) rfl rfl)) (eg_name (i := 3) nd rfl (by first | exact Or.inl rfl | exact Or.inr rfl) (by first | exact Or.inl rfl | exact Or.inr rfl)) (es_one (es_for PassesOwn.never rfl (PE.frz (ev_var (i := 1) rfl (by first | exact Or.inl rfl | exact Or.inr (Or.inl rfl) | exact Or.inr (Or.inr rfl)) rfl rfl)) (eg_name (i := 4) nd rfl (by first | exact Or.inl rfl | exact Or.inr rfl) (by first | exact Or.inl rfl | exact Or.inr rfl)) (es_one (es_set (i := 2) nd rfl (by first | exact Or.inl rfl | exact Or.inr rfl) (ev_add (PE.frz (ev_var (i := 2) rfl (by first | exact Or.inl rfl | exact Or.inr (Or.inl rfl) | exact Or.inr (Or.inr rfl)) rfl rfl)) (PE.frz (ev_c d__law_led (hr.mono (by decide)) rfl (aa_consV (PE.frz (ev_var (i := 3) rfl (by first | exact Or.inl rfl | exact Or.inr (Or.inl rfl) | exact Or.inr (Or.inr rfl)) rfl rfl)) (aa_consV (PE.frz (ev_var (i := 4) rfl (by first | exact Or.inl rfl | exact Or.inr (Or.inl rfl) | exact Or.inr (Or.inr rfl)) rfl rfl)) aa_nil rfl) rfl) rfl rfl rfl))) rfl (by first | exact Or.inl rfl | exact Or.inr rfl))) (fun _ => rfl))) (fun _ => rfl)) (es_one (es_ret (ev_tuple rfl b_tuple (aa_consO (eo_val (PE.frz (ev_lcR1 rfl nd rfl b_range (ea_cons (PE.frz (ev_con pe_int (fun F => R.int _))) ea_nil rfl) rfl (blkOk_by (own := [(Str.ofString "_law_k", 5)]) (N := N__law_union) (sc := defScope (top 15)) (by decide +kernel)) (fun _ _ _ _ _ => (eg_name (i := 5) nd rfl (by first | exact Or.inl rfl | exact Or.inr rfl) (by first | exact Or.inl rfl | exact Or.inr rfl))) (fun _ _ _ _ _ => (ets_one (ct_in (eo_val (PE.frz (ev_sub2 hu1 (eo_val (PE.frz (ev_con pe_str (fun F => R.str _)))) (PE.frz (ev_var (i := 5) rfl (by first | exact Or.inl rfl | exact Or.inr (Or.inl rfl) | exact Or.inr (Or.inr rfl)) rfl rfl)) (fun _ _ => rfl) (fun _ _ => rfl)))) (eo_var (i := 2) rfl (by first | exact Or.inl rfl | exact Or.inr (Or.inl rfl) | exact Or.inr (Or.inr rfl)) rfl rfl) rfl))) (fun _ _ _ _ _ => (PE.frz (ev_sub2 hu1 (eo_val (PE.frz (ev_c0 d__law_ways (hr.mono (by decide)) rfl rfl))) (PE.frz (ev_var (i := 5) rfl (by first | exact Or.inl rfl | exact Or.inr (Or.inl rfl) | exact Or.inr (Or.inr rfl)) rfl rfl)) (fun _ _ => rfl) (fun _ _ => rfl)))) (fun _ => rfl) (by decide) rfl))) aa_nil rfl) rfl)))))
theorem sc__law_union : FnScope N__law_union [Str.ofString "_law_ones", Str.ofString "_law_others"] (defScope (top 15)) := ⟨rfl, rfl, rfl, nd__law_union, rfl, by decide +kernel, by decide +kernel⟩
theorem ok__law_union {P : Program} {w : World} {K : W.Frag} {mg : Str → Option Value} {base : Heap} {f : Addr} {fd : FuncData} (F : FunD K (Str.ofString "_law_union") (Str.ofString "_law_union") (defArgs (top 15)) (defBody (top 15)) (defScope (top 15)) [] [] f fd) (gX : mg (Str.ofString "_law_union") = some (.ref f)) (b_range : mg (Str.ofString "range") = none) (b_tuple : mg (Str.ofString "tuple") = none) (d__law_led : CallD P w K mg base 2 (Str.ofString "_law_led") [false, false] [] fn__law_led) (d__law_ways : CallD P w K mg base 1 (Str.ofString "_law_ways") [] [] fn__law_ways) : CallD P w K mg base 3 (Str.ofString "_law_union") [false, false] [] fn__law_union :=
  ⟨f, fd, [Str.ofString "_law_ones", Str.ofString "_law_others"], [], [], fn_of F sc__law_union rfl (fun cdv A outer s H E hr => bd__law_union (CX := CX0) (E := E) hr (b_range := b_range) (b_tuple := b_tuple) (d__law_led := d__law_led) (d__law_ways := d__law_ways)), gX, F.kp, F.bindsN fun _ _ _ _ _ _ us hl => match us, hl with | [_, _], _ => rfl, .nil, fun _ => .nil⟩
abbrev N_led_choices : List Str := [Str.ofString "ones", Str.ofString "others", Str.ofString "found", Str.ofString "one", Str.ofString "other", Str.ofString "way"]
def cc_led_choices_1 : Fb := (cmpT (bIn false) (orefF 5) (orefF 2))
def ce_led_choices_2 : Fv := (frzF (varE 5))
def ce_led_choices_3 : Fv := (frzF (varE 5))
def ck_led_choices_4 : Fk := (emitF ce_led_choices_3)
def cl_led_choices_5 : DC := ⟨[5], (.nm 5), (frzF (ledE ledT (consF (frzF (varE 3)) (consF (frzF (varE 4)) nilF)))), yesF⟩
def ck_led_choices_6 : Fk := (loopF2 cl_led_choices_5 ck_led_choices_4)
def cl_led_choices_7 : DC := ⟨[4, 5], (.nm 4), (frzF (varE 1)), yesF⟩
def ck_led_choices_8 : Fk := (loopF2 cl_led_choices_7 ck_led_choices_6)
def cl_led_choices_9 : DC := ⟨[3, 4, 5], (.nm 3), (frzF (varE 0)), yesF⟩
def fb_led_choices : Fs := (seqF (setF 2 (lcNE cl_led_choices_9 ck_led_choices_8)) (retF (opLE gTuple (aoF (ovF (frzF (lcE [5] (.nm 5) (frzF (conE ways)) cc_led_choices_1 ce_led_choices_2))) anilF))))
def fn_led_choices : List D → Option (Re × List D) := bodyF [false, false] 4 fb_led_choices
theorem nd_led_choices : (N_led_choices).Nodup := by decide +kernel
theorem bd_led_choices {CX : CXT} {P : Program} {w : World} {K : W.Frag} {mg : Str → Option Value} {base : Heap} {qual : Str} {f : Addr} {cdv : Value} {A : Around} {outer : List Env} {s : Shared} {H : Hp} {E : XK} (hr : Room 0 (A.deeper (PyProof.Rows.envOfC qual (defScope (top 6)) s.heap.objs.size f cdv))) (b_tuple : mg (Str.ofString "tuple") = none) (c_WAYS : ∃ (v : V) (u : Value), mg (Str.ofString "WAYS") = some u ∧ RelV v u ∧ ∀ F : Hp, R K F v ways) {p_LED : Addr} (t_LED : mg (Str.ofString "LED") = some (.ref p_LED)) (k_LED : KLed P w K p_LED ledT) : PSs (cxOf CX0 P w K mg base N_led_choices qual (defScope (top 6)) f cdv A outer s H E) (defBody (top 6)) (tS K fb_led_choices) :=
  have hu64 := units64 hr
  have hu1 := units1 hr
  have nd := nd_led_choices
  PSs.nox (es_cons (es_set (i := 2) nd rfl (by first | exact Or.inl rfl | exact Or.inr rfl) (ev_lcN (c := cl_led_choices_9) rfl nd (PE.frz (ev_var (i := 0) rfl (by first | exact Or.inl rfl | exact Or.inr (Or.inl rfl) | exact Or.inr (Or.inr rfl)) rfl rfl)) (blkOk_by (own := [(Str.ofString "one", 3), (Str.ofString "other", 4), (Str.ofString "way", 5)]) (N := N_led_choices) (sc := defScope (top 6)) (by decide +kernel)) (fun _ _ _ _ _ => (eg_name (i := 3) nd rfl (by first | exact Or.inl rfl | exact Or.inr rfl) (by first | exact Or.inl rfl | exact Or.inr rfl))) (fun _ _ _ _ _ => ets_nil) (fun _ _ => lc_turn_out rfl rfl (fun _ => rfl)) (eb_loop (c := cl_led_choices_7) (vs0 := [4, 5]) rfl (fun _ => plain_lc) (fun _ _ => lc_turn_out rfl rfl (fun _ => rfl)) rfl (fun _ _ _ _ _ => (PE.frz (ev_var (i := 1) rfl (by first | exact Or.inl rfl | exact Or.inr (Or.inl rfl) | exact Or.inr (Or.inr rfl)) rfl rfl))) (fun _ _ _ _ _ => (eg_name (i := 4) nd rfl (by first | exact Or.inl rfl | exact Or.inr rfl) (by first | exact Or.inl rfl | exact Or.inr rfl))) (fun _ _ _ _ _ => ets_nil) (eb_loop (c := cl_led_choices_5) (vs0 := [5]) rfl (fun _ => plain_lc) (fun _ _ => lc_turn_in rfl rfl) rfl (fun _ _ _ _ _ => (PE.frz (ev_led hu64 rfl t_LED k_LED (ea_cons (PE.frz (ev_var (i := 3) rfl (by first | exact Or.inl rfl | exact Or.inr (Or.inl rfl) | exact Or.inr (Or.inr rfl)) rfl rfl)) (ea_cons (PE.frz (ev_var (i := 4) rfl (by first | exact Or.inl rfl | exact Or.inr (Or.inl rfl) | exact Or.inr (Or.inr rfl)) rfl rfl)) ea_nil rfl) rfl) (fun _ _ => rfl) rfl))) (fun _ _ _ _ _ => (eg_name (i := 5) nd rfl (by first | exact Or.inl rfl | exact Or.inr rfl) (by first | exact Or.inl rfl | exact Or.inr rfl))) (fun _ _ _ _ _ => ets_nil) (eb_emit (vs := [5]) (fun _ _ _ _ _ => (PE.frz (ev_var (i := 5) rfl (by first | exact Or.inl rfl | exact Or.inr (Or.inl rfl) | exact Or.inr (Or.inr rfl)) rfl rfl)))) (by decide) (by decide) (by decide)) (by decide) (by decide) (by decide)) (fun _ => rfl) (by decide) (by decide) rfl) rfl (by first | exact Or.inl rfl | exact Or.inr rfl)) (es_one (es_ret (ev_tuple rfl b_tuple (aa_consO (eo_val (PE.frz (ev_lc rfl nd (PE.frz (ev_glob rfl c_WAYS.choose_spec.choose_spec.1 c_WAYS.choose_spec.choose_spec.2.1 c_WAYS.choose_spec.choose_spec.2.2 rfl)) (blkOk_by (own := [(Str.ofString "way", 5)]) (N := N_led_choices) (sc := defScope (top 6)) (by decide +kernel)) (fun _ _ _ _ _ => (eg_name (i := 5) nd rfl (by first | exact Or.inl rfl | exact Or.inr rfl) (by first | exact Or.inl rfl | exact Or.inr rfl))) (fun _ _ _ _ _ => (ets_one (ct_in (eo_var (i := 5) rfl (by first | exact Or.inl rfl | exact Or.inr (Or.inl rfl) | exact Or.inr (Or.inr rfl)) rfl rfl) (eo_var (i := 2) rfl (by first | exact Or.inl rfl | exact Or.inr (Or.inl rfl) | exact Or.inr (Or.inr rfl)) rfl rfl) rfl))) (fun _ _ _ _ _ => (PE.frz (ev_var (i := 5) rfl (by first | exact Or.inl rfl | exact Or.inr (Or.inl rfl) | exact Or.inr (Or.inr rfl)) rfl rfl))) (fun _ => rfl) (by decide) rfl))) aa_nil rfl) rfl))))
theorem sc_led_choices : FnScope N_led_choices [Str.ofString "ones", Str.ofString "others"] (defScope (top 6)) := ⟨rfl, rfl, rfl, nd_led_choices, rfl, by decide +kernel, by decide +kernel⟩
theorem ok_led_choices {P : Program} {w : World} {K : W.Frag} {mg : Str → Option Value} {base : Heap} {f : Addr} {fd : FuncData} (F : FunD K (Str.ofString "led_choices") (Str.ofString "led_choices") (defArgs (top 6)) (defBody (top 6)) (defScope (top 6)) [] [] f fd) (gX : mg (Str.ofString "led_choices") = some (.ref f)) (b_tuple : mg (Str.ofString "tuple") = none) (c_WAYS : ∃ (v : V) (u : Value), mg (Str.ofString "WAYS") = some u ∧ RelV v u ∧ ∀ F : Hp, R K F v ways) {p_LED : Addr} (t_LED : mg (Str.ofString "LED") = some (.ref p_LED)) (k_LED : KLed P w K p_LED ledT) : CallD P w K mg base 1 (Str.ofString "led_choices") [false, false] [] fn_led_choices :=
  ⟨f, fd, [Str.ofString "ones", Str.ofString "others"], [], [], fn_of F sc_led_choices rfl (fun cdv A outer s H E hr => bd_led_choices (CX := CX0) (E := E) hr (b_tuple := b_tuple) (c_WAYS := c_WAYS) (t_LED := t_LED) (k_LED := k_LED)), gX, F.kp, F.bindsN fun _ _ _ _ _ _ us hl => match us, hl with | [_, _], _ => rfl, .nil, fun _ => .nil⟩
abbrev N_turned : List Str := [Str.ofString "way"]
def fb_turned : Fs := (retF (kgetE turns (frzF (varE 0))))
def fn_turned : List D → Option (Re × List D) := bodyF [false] 0 fb_turned
theorem nd_turned : (N_turned).Nodup := by decide +kernel
theorem bd_turned {CX : CXT} {P : Program} {w : World} {K : W.Frag} {mg : Str → Option Value} {base : Heap} {qual : Str} {f : Addr} {cdv : Value} {A : Around} {outer : List Env} {s : Shared} {H : Hp} {E : XK} (hr : Room 0 (A.deeper (PyProof.Rows.envOfC qual (defScope (top 4)) s.heap.objs.size f cdv))) {p_TURNED : Addr} (t_TURNED : mg (Str.ofString "TURNED") = some (.ref p_TURNED)) (k_TURNED : KTab K w p_TURNED turns) : PSs (cxOf CX0 P w K mg base N_turned qual (defScope (top 4)) f cdv A outer s H E) (defBody (top 4)) (tS K fb_turned) :=
  have hu64 := units64 hr
  have hu1 := units1 hr
  have nd := nd_turned
  PSs.nox (es_one (es_ret (ev_kget rfl t_TURNED k_TURNED (PE.frz (ev_var (i := 0) rfl (by first | exact Or.inl rfl | exact Or.inr (Or.inl rfl) | exact Or.inr (Or.inr rfl)) rfl rfl)) (fun _ _ => rfl) rfl)))
theorem sc_turned : FnScope N_turned [Str.ofString "way"] (defScope (top 4)) := ⟨rfl, rfl, rfl, nd_turned, rfl, by decide +kernel, by decide +kernel⟩
theorem ok_turned {P : Program} {w : World} {K : W.Frag} {mg : Str → Option Value} {base : Heap} {f : Addr} {fd : FuncData} (F : FunD K (Str.ofString "turned") (Str.ofString "turned") (defArgs (top 4)) (defBody (top 4)) (defScope (top 4)) [] [] f fd) (gX : mg (Str.ofString "turned") = some (.ref f)) {p_TURNED : Addr} (t_TURNED : mg (Str.ofString "TURNED") = some (.ref p_TURNED)) (k_TURNED : KTab K w p_TURNED turns) : CallD P w K mg base 1 (Str.ofString "turned") [false] [] fn_turned :=
  ⟨f, fd, [Str.ofString "way"], [], [], fn_of F sc_turned rfl (fun cdv A outer s H E hr => bd_turned (CX := CX0) (E := E) hr (t_TURNED := t_TURNED) (k_TURNED := k_TURNED)), gX, F.kp, F.bindsN fun _ _ _ _ _ _ us hl => match us, hl with | [_], _ => rfl, .nil, fun _ => .nil⟩
abbrev N_led : List Str := [Str.ofString "one", Str.ofString "other"]
def fb_led : Fs := (retF (ledE ledT (consF (frzF (varE 0)) (consF (frzF (varE 1)) nilF))))
def fn_led : List D → Option (Re × List D) := bodyF [false, false] 0 fb_led
theorem nd_led : (N_led).Nodup := by decide +kernel
theorem bd_led {CX : CXT} {P : Program} {w : World} {K : W.Frag} {mg : Str → Option Value} {base : Heap} {qual : Str} {f : Addr} {cdv : Value} {A : Around} {outer : List Env} {s : Shared} {H : Hp} {E : XK} (hr : Room 0 (A.deeper (PyProof.Rows.envOfC qual (defScope (top 5)) s.heap.objs.size f cdv))) {p_LED : Addr} (t_LED : mg (Str.ofString "LED") = some (.ref p_LED)) (k_LED : KLed P w K p_LED ledT) : PSs (cxOf CX0 P w K mg base N_led qual (defScope (top 5)) f cdv A outer s H E) (defBody (top 5)) (tS K fb_led) :=
  have hu64 := units64 hr
  have hu1 := units1 hr
  have nd := nd_led
  PSs.nox (es_one (es_ret (ev_led hu64 rfl t_LED k_LED (ea_cons (PE.frz (ev_var (i := 0) rfl (by first | exact Or.inl rfl | exact Or.inr (Or.inl rfl) | exact Or.inr (Or.inr rfl)) rfl rfl)) (ea_cons (PE.frz (ev_var (i := 1) rfl (by first | exact Or.inl rfl | exact Or.inr (Or.inl rfl) | exact Or.inr (Or.inr rfl)) rfl rfl)) ea_nil rfl) rfl) (fun _ _ => rfl) rfl)))
theorem sc_led : FnScope N_led [Str.ofString "one", Str.ofString "other"] (defScope (top 5)) := ⟨rfl, rfl, rfl, nd_led, rfl, by decide +kernel, by decide +kernel⟩
theorem ok_led {P : Program} {w : World} {K : W.Frag} {mg : Str → Option Value} {base : Heap} {f : Addr} {fd : FuncData} (F : FunD K (Str.ofString "led") (Str.ofString "led") (defArgs (top 5)) (defBody (top 5)) (defScope (top 5)) [] [] f fd) (gX : mg (Str.ofString "led") = some (.ref f)) {p_LED : Addr} (t_LED : mg (Str.ofString "LED") = some (.ref p_LED)) (k_LED : KLed P w K p_LED ledT) : CallD P w K mg base 1 (Str.ofString "led") [false, false] [] fn_led :=
  ⟨f, fd, [Str.ofString "one", Str.ofString "other"], [], [], fn_of F sc_led rfl (fun cdv A outer s H E hr => bd_led (CX := CX0) (E := E) hr (t_LED := t_LED) (k_LED := k_LED)), gX, F.kp, F.bindsN fun _ _ _ _ _ _ us hl => match us, hl with | [_, _], _ => rfl, .nil, fun _ => .nil⟩
abbrev N_law : List Str := [Str.ofString "_law_script", Str.ofString "_law_d", Str.ofString "_law_one", Str.ofString "_law_other", Str.ofString "_law_turn", Str.ofString "_law_ones", Str.ofString "_law_others"]
def lb_law_1 : Fs := (seqF (setF 5 (callE [true] [] fn__law_bits (arF 1 anilF))) (seqF (setF 6 (callE [true] [] fn__law_bits (arF 1 anilF))) (ifF (notF (truO (ovF (frzF (callE [false, false] [] (fn__law_like 9) (avF (frzF (callE [false, false] [] fn_led_choices (avF (frzF (varE 5)) (avF (frzF (varE 6)) anilF)))) (avF (frzF (callE [false, false] [] fn__law_union (avF (frzF (varE 5)) (avF (frzF (varE 6)) anilF)))) anilF))))))) (retF (conE (.bl false))) nextF)))
def lb_law_2 : Fs := (ifF (notF (truO (ovF (frzF (callE [false, false] [] (fn__law_like 9) (avF (frzF (callE [false, false] [] fn_led (avF (frzF (varE 2)) (avF (frzF (varE 3)) anilF)))) (avF (frzF (callE [false, false] [] fn__law_union (avF (frzF (tupE (consF (frzF (varE 2)) nilF))) (avF (frzF (tupE (consF (frzF (varE 3)) nilF))) anilF)))) anilF))))))) (retF (conE (.bl false))) nextF)
def lb_law_3 : Fs := (seqF (ifF (notF (truO (ovF (frzF (callE [false, false] [] (fn__law_like 9) (avF (frzF (callE [false] [] fn_turned (avF (frzF (varE 2)) anilF))) (avF (frzF (ixE gSub2 (ovF (frzF (callE [false] [] fn__law_turned (avF (frzF (tupE (consF (frzF (varE 2)) nilF))) anilF)))) (frzF (conE (.int 0))))) anilF))))))) (retF (conE (.bl false))) nextF) (forF (.nm 3) (frzF (callE [] [] fn__law_ways anilF)) lb_law_2))
def fb_law : Fs := (seqF (setF 1 (callE [false] [] fn__law_dice (avF (frzF (varE 0)) anilF))) (seqF (forF (.nm 2) (frzF (callE [] [] fn__law_ways anilF)) lb_law_3) (seqF (rngF rngD1 (.nm 4) (consF (frzF (conE (.int 6))) nilF) lb_law_1) (retF (conE (.bl true))))))
def fn_law : List D → Option (Re × List D) := bodyF [false] 6 fb_law
theorem nd_law : (N_law).Nodup := by decide +kernel
theorem bd_law {CX : CXT} {P : Program} {w : World} {K : W.Frag} {mg : Str → Option Value} {base : Heap} {qual : Str} {f : Addr} {cdv : Value} {A : Around} {outer : List Env} {s : Shared} {H : Hp} {E : XK} (hr : Room 9 (A.deeper (PyProof.Rows.envOfC qual (defScope (top 16)) s.heap.objs.size f cdv))) (b_range : mg (Str.ofString "range") = none) (d__law_bits : CallD P w K mg base 2 (Str.ofString "_law_bits") [true] [] fn__law_bits) (d__law_dice : CallD P w K mg base 1 (Str.ofString "_law_dice") [false] [] fn__law_dice) (d__law_like : CallD P w K mg base 9 (Str.ofString "_law_like") [false, false] [] (fn__law_like 9)) (d__law_turned : CallD P w K mg base 2 (Str.ofString "_law_turned") [false] [] fn__law_turned) (d__law_union : CallD P w K mg base 3 (Str.ofString "_law_union") [false, false] [] fn__law_union) (d__law_ways : CallD P w K mg base 1 (Str.ofString "_law_ways") [] [] fn__law_ways) (d_led : CallD P w K mg base 1 (Str.ofString "led") [false, false] [] fn_led) (d_led_choices : CallD P w K mg base 1 (Str.ofString "led_choices") [false, false] [] fn_led_choices) (d_turned : CallD P w K mg base 1 (Str.ofString "turned") [false] [] fn_turned) : PSs (cxOf CX0 P w K mg base N_law qual (defScope (top 16)) f cdv A outer s H E) (defBody (top 16)) (tS K fb_law) :=
  have hu64 := units64 hr
  have hu1 := units1 hr
  have nd := nd_law
  PSs.nox (es_cons (es_set (i := 1) nd rfl (by first | exact Or.inl rfl | exact Or.inr rfl) (ev_c d__law_dice (hr.mono (by decide)) rfl (aa_consV (PE.frz (ev_var (i := 0) rfl (by first | exact Or.inl rfl | exact Or.inr (Or.inl rfl) | exact Or.inr (Or.inr rfl)) rfl rfl)) aa_nil rfl) rfl rfl rfl) rfl (by first | exact Or.inl rfl | exact Or.inr rfl)) (es_cons (es_for PassesOwn.never rfl (PE.frz (ev_c0 d__law_ways (hr.mono (by decide)) rfl rfl)) (eg_name (i := 2) nd rfl (by first | exact Or.inl rfl | exact Or.inr rfl) (by first | exact Or.inl rfl | exact Or.inr rfl)) (es_cons (es_if (et_not (et_look (eo_val (PE.frz (ev_c d__law_like (hr.mono (by decide)) rfl (aa_consV (PE.frz (ev_c d_turned (hr.mono (by decide)) rfl (aa_consV (PE.frz (ev_var (i := 2) rfl (by first | exact Or.inl rfl | exact Or.inr (Or.inl rfl) | exact Or.inr (Or.inr rfl)) rfl rfl)) aa_nil rfl) rfl rfl rfl)) (aa_consV (PE.frz (ev_sub2 hu1 (eo_val (PE.frz (ev_c d__law_turned (hr.mono (by decide)) rfl (aa_consV (PE.frz (ev_tup (ea_cons (PE.frz (ev_var (i := 2) rfl (by first | exact Or.inl rfl | exact Or.inr (Or.inl rfl) | exact Or.inr (Or.inr rfl)) rfl rfl)) ea_nil rfl))) aa_nil rfl) rfl rfl rfl))) (PE.frz (ev_con pe_int (fun F => R.int _))) (fun _ _ => rfl) (fun _ _ => rfl))) aa_nil rfl) rfl) rfl rfl rfl))) (fun _ => rfl))) (es_one (es_ret (ev_con pe_bl (fun F => R.bl _)))) es_nil) (es_one (es_for PassesOwn.never rfl (PE.frz (ev_c0 d__law_ways (hr.mono (by decide)) rfl rfl)) (eg_name (i := 3) nd rfl (by first | exact Or.inl rfl | exact Or.inr rfl) (by first | exact Or.inl rfl | exact Or.inr rfl)) (es_one (es_if (et_not (et_look (eo_val (PE.frz (ev_c d__law_like (hr.mono (by decide)) rfl (aa_consV (PE.frz (ev_c d_led (hr.mono (by decide)) rfl (aa_consV (PE.frz (ev_var (i := 2) rfl (by first | exact Or.inl rfl | exact Or.inr (Or.inl rfl) | exact Or.inr (Or.inr rfl)) rfl rfl)) (aa_consV (PE.frz (ev_var (i := 3) rfl (by first | exact Or.inl rfl | exact Or.inr (Or.inl rfl) | exact Or.inr (Or.inr rfl)) rfl rfl)) aa_nil rfl) rfl) rfl rfl rfl)) (aa_consV (PE.frz (ev_c d__law_union (hr.mono (by decide)) rfl (aa_consV (PE.frz (ev_tup (ea_cons (PE.frz (ev_var (i := 2) rfl (by first | exact Or.inl rfl | exact Or.inr (Or.inl rfl) | exact Or.inr (Or.inr rfl)) rfl rfl)) ea_nil rfl))) (aa_consV (PE.frz (ev_tup (ea_cons (PE.frz (ev_var (i := 3) rfl (by first | exact Or.inl rfl | exact Or.inr (Or.inl rfl) | exact Or.inr (Or.inr rfl)) rfl rfl)) ea_nil rfl))) aa_nil rfl) rfl) rfl rfl rfl)) aa_nil rfl) rfl) rfl rfl rfl))) (fun _ => rfl))) (es_one (es_ret (ev_con pe_bl (fun F => R.bl _)))) es_nil)) (fun _ => rfl)))) (fun _ => rfl)) (es_cons (es_range1 PassesOwn.never rfl rfl b_range (ea_cons (PE.frz (ev_con pe_int (fun F => R.int _))) ea_nil rfl) (eg_name (i := 4) nd rfl (by first | exact Or.inl rfl | exact Or.inr rfl) (by first | exact Or.inl rfl | exact Or.inr rfl)) (es_cons (es_set (i := 5) nd rfl (by first | exact Or.inl rfl | exact Or.inr rfl) (ev_c d__law_bits (hr.mono (by decide)) rfl (aa_consR (i := 1) rfl (by first | exact Or.inl rfl | exact Or.inr (Or.inl rfl) | exact Or.inr (Or.inr rfl)) rfl rfl aa_nil rfl) rfl rfl rfl) rfl (by first | exact Or.inl rfl | exact Or.inr rfl)) (es_cons (es_set (i := 6) nd rfl (by first | exact Or.inl rfl | exact Or.inr rfl) (ev_c d__law_bits (hr.mono (by decide)) rfl (aa_consR (i := 1) rfl (by first | exact Or.inl rfl | exact Or.inr (Or.inl rfl) | exact Or.inr (Or.inr rfl)) rfl rfl aa_nil rfl) rfl rfl rfl) rfl (by first | exact Or.inl rfl | exact Or.inr rfl)) (es_one (es_if (et_not (et_look (eo_val (PE.frz (ev_c d__law_like (hr.mono (by decide)) rfl (aa_consV (PE.frz (ev_c d_led_choices (hr.mono (by decide)) rfl (aa_consV (PE.frz (ev_var (i := 5) rfl (by first | exact Or.inl rfl | exact Or.inr (Or.inl rfl) | exact Or.inr (Or.inr rfl)) rfl rfl)) (aa_consV (PE.frz (ev_var (i := 6) rfl (by first | exact Or.inl rfl | exact Or.inr (Or.inl rfl) | exact Or.inr (Or.inr rfl)) rfl rfl)) aa_nil rfl) rfl) rfl rfl rfl)) (aa_consV (PE.frz (ev_c d__law_union (hr.mono (by decide)) rfl (aa_consV (PE.frz (ev_var (i := 5) rfl (by first | exact Or.inl rfl | exact Or.inr (Or.inl rfl) | exact Or.inr (Or.inr rfl)) rfl rfl)) (aa_consV (PE.frz (ev_var (i := 6) rfl (by first | exact Or.inl rfl | exact Or.inr (Or.inl rfl) | exact Or.inr (Or.inr rfl)) rfl rfl)) aa_nil rfl) rfl) rfl rfl rfl)) aa_nil rfl) rfl) rfl rfl rfl))) (fun _ => rfl))) (es_one (es_ret (ev_con pe_bl (fun F => R.bl _)))) es_nil)))) rfl (fun _ => rfl)) (es_one (es_ret (ev_con pe_bl (fun F => R.bl _)))))))
theorem sc_law : FnScope N_law [Str.ofString "_law_script"] (defScope (top 16)) := ⟨rfl, rfl, rfl, nd_law, rfl, by decide +kernel, by decide +kernel⟩
theorem ok_law {P : Program} {w : World} {K : W.Frag} {mg : Str → Option Value} {base : Heap} {f : Addr} {fd : FuncData} (F : FunD K (Str.ofString "law") (Str.ofString "law") (defArgs (top 16)) (defBody (top 16)) (defScope (top 16)) [] [] f fd) (gX : mg (Str.ofString "law") = some (.ref f)) (b_range : mg (Str.ofString "range") = none) (d__law_bits : CallD P w K mg base 2 (Str.ofString "_law_bits") [true] [] fn__law_bits) (d__law_dice : CallD P w K mg base 1 (Str.ofString "_law_dice") [false] [] fn__law_dice) (d__law_like : CallD P w K mg base 9 (Str.ofString "_law_like") [false, false] [] (fn__law_like 9)) (d__law_turned : CallD P w K mg base 2 (Str.ofString "_law_turned") [false] [] fn__law_turned) (d__law_union : CallD P w K mg base 3 (Str.ofString "_law_union") [false, false] [] fn__law_union) (d__law_ways : CallD P w K mg base 1 (Str.ofString "_law_ways") [] [] fn__law_ways) (d_led : CallD P w K mg base 1 (Str.ofString "led") [false, false] [] fn_led) (d_led_choices : CallD P w K mg base 1 (Str.ofString "led_choices") [false, false] [] fn_led_choices) (d_turned : CallD P w K mg base 1 (Str.ofString "turned") [false] [] fn_turned) : CallD P w K mg base 10 (Str.ofString "law") [false] [] fn_law :=
  ⟨f, fd, [Str.ofString "_law_script"], [], [], fn_of F sc_law rfl (fun cdv A outer s H E hr => bd_law (CX := CX0) (E := E) hr (b_range := b_range) (d__law_bits := d__law_bits) (d__law_dice := d__law_dice) (d__law_like := d__law_like) (d__law_turned := d__law_turned) (d__law_union := d__law_union) (d__law_ways := d__law_ways) (d_led := d_led) (d_led_choices := d_led_choices) (d_turned := d_turned)), gX, F.kp, F.bindsN fun _ _ _ _ _ _ us hl => match us, hl with | [_], _ => rfl, .nil, fun _ => .nil⟩
end G04
/-! P04 -/
namespace G04
open PySem PySem.Spec PyProof.Rows L2 Ev
def dice (ns : List Int) (b c e : Int) : D := .lst [.rol (ns.map D.int), .int b, .int c, .int e]
/-- what a turn of the dice gives -/
def nextV (ns : List Int) (b c e m : Int) : Option (Int × Int × Int × Int) :=
  if 0 < e then some (e.fmod m, b, c, e.fdiv m)
  else if b + 1 ≤ ns.length then
    match atI ns b with
    | some x => some (x.fmod m, b + 1, c, if (10 : Int) ^ 18 ≤ x then x.fdiv m else 0)
    | none => none
  else some ((((c * 48271).fmod 2147483647).fdiv 7).fmod m, b + 1, (c * 48271).fmod 2147483647, e)
theorem inW_c : inW 48271 = true := by decide
theorem atI_map {α β : Type} (f : α → β) (l : List α) (i : Int) : atI (l.map f) i = (atI l i).map f := by
  unfold atI
  rw [List.length_map]
  cases ixN l.length i with
  | none => rfl
  | some j => simp
theorem pow18 : gPow (.int 10) (.int 18) = some (.val (.int (10 ^ 18))) := by first | rfl | simp [gPow, gI]
theorem next_eq {ns : List Int} {b c e m : Int} (hm : 0 < m) (hm2 : m < 1073741824) (hb : 0 ≤ b) {r b' c' e' : Int} (h : nextV ns b c e m = some (r, b', c', e')) :
    fn__law_next [dice ns b c e, .int m] = some (.val (.int r), [dice ns b' c' e', .int m]) := by
  have hm0 : m ≠ 0 := by omega
  have hmA : m.natAbs < 1073741824 := by omega
  have a0 : ∀ l : List D, l.length = 4 → ixN l.length 0 = some 0 := fun l h => by rw [h]; decide
  have i0 : ixN 4 0 = some 0 := by decide
  have i1 : ixN 4 1 = some 1 := by decide
  have i2 : ixN 4 2 = some 2 := by decide
  have i3 : ixN 4 3 = some 3 := by decide
  unfold nextV at h
  by_cases h1 : 0 < e
  · rw [if_pos h1] at h
    cases h
    simp [fn__law_next, fb__law_next, dice, atI, i0, i1, i2, i3, h1, hm0, hmA, bodyF, seqF, nextF, ifF, cmpT, cmpE, look2, ovF, frzF, ixE, orefF, inE, lookA, lookAs, lookOf, conE, varE, gSub2, gIx, gDget, itemsOf, keyOf, Re.d, bLt, bGt, bLe, bGe, bEq, bEqF, bInt, bStr, setF, op2E, gAdd, gAddI, gAddS, gAddL, gAddT, Ev.gSub, gMul, gMulI, gMulL, gMod, gFdiv, gPow, gI, gS, isRef, slOf, setItF, Ev.cellOf, gPut2, gSetL, gPutK, setC, retVarF, retF, outs, opLE, aoF, anilF, gLen, gLenS, iteE, dropF]
  · rw [if_neg h1] at h
    by_cases h2 : b + 1 ≤ ns.length
    · rw [if_pos h2] at h
      cases q : atI ns b with
      | none => rw [q] at h; cases h
      | some x =>
        rw [q] at h
        cases h
        have q2 : atI (ns.map D.int) b = some (.int x) := by rw [atI_map, q]; rfl
        have k0 : ∀ (x y z t : D), atI [x, y, z, t] 0 = some x := fun x y z t => rfl
        have k1 : ∀ (x y z t : D), atI [x, y, z, t] 1 = some y := fun x y z t => rfl
        have k2 : ∀ (x y z t : D), atI [x, y, z, t] 2 = some z := fun x y z t => rfl
        have k3 : ∀ (x y z t : D), atI [x, y, z, t] 3 = some t := fun x y z t => rfl
        by_cases h3 : (10 : Int) ^ 18 ≤ x
        · have h4 : (1000000000000000000 : Int) ≤ x := by simpa using h3
          simp [fn__law_next, fb__law_next, dice, k0, k1, k2, k3, i0, i1, i2, i3, h1, h2, h4, hm0, hmA, q2, bodyF, seqF, nextF, ifF, cmpT, cmpE, look2, ovF, frzF, ixE, orefF, inE, lookA, lookAs, lookOf, conE, varE, gSub2, gIx, gDget, itemsOf, keyOf, Re.d, bLt, bGt, bLe, bGe, bEq, bEqF, bInt, bStr, setF, op2E, gAdd, gAddI, gAddS, gAddL, gAddT, Ev.gSub, gMul, gMulI, gMulL, gMod, gFdiv, gPow, gI, gS, isRef, slOf, setItF, Ev.cellOf, gPut2, gSetL, gPutK, setC, retVarF, retF, outs, opLE, aoF, anilF, gLen, gLenS, iteE, dropF]
        · have h4 : ¬(1000000000000000000 : Int) ≤ x := by simpa using h3
          simp [fn__law_next, fb__law_next, dice, k0, k1, k2, k3, i0, i1, i2, i3, h1, h2, h4, hm0, hmA, q2, bodyF, seqF, nextF, ifF, cmpT, cmpE, look2, ovF, frzF, ixE, orefF, inE, lookA, lookAs, lookOf, conE, varE, gSub2, gIx, gDget, itemsOf, keyOf, Re.d, bLt, bGt, bLe, bGe, bEq, bEqF, bInt, bStr, setF, op2E, gAdd, gAddI, gAddS, gAddL, gAddT, Ev.gSub, gMul, gMulI, gMulL, gMod, gFdiv, gPow, gI, gS, isRef, slOf, setItF, Ev.cellOf, gPut2, gSetL, gPutK, setC, retVarF, retF, outs, opLE, aoF, anilF, gLen, gLenS, iteE, dropF]
    · rw [if_neg h2] at h
      cases h
      simp [fn__law_next, fb__law_next, dice, atI, i0, i1, i2, i3, h1, h2, hm0, hmA, inW_c, bodyF, seqF, nextF, ifF, cmpT, cmpE, look2, ovF, frzF, ixE, orefF, inE, lookA, lookAs, lookOf, conE, varE, gSub2, gIx, gDget, itemsOf, keyOf, Re.d, bLt, bGt, bLe, bGe, bEq, bEqF, bInt, bStr, setF, op2E, gAdd, gAddI, gAddS, gAddL, gAddT, Ev.gSub, gMul, gMulI, gMulL, gMod, gFdiv, gPow, gI, gS, isRef, slOf, setItF, Ev.cellOf, gPut2, gSetL, gPutK, setC, retVarF, retF, outs, opLE, aoF, anilF, gLen, gLenS, iteE, dropF]
end G04
/-! P04b -/
namespace G04
open PySem PySem.Spec PyProof.Rows L2 Ev
def slV (s : Sl) : Bool := match s with
  | .none => true
  | .val _ => true
  | _ => false
theorem dice_loop (L : D) : ∀ (ns : List Int) (m : Int) (s : Sl), slV s = true → ∃ m' s', slV s' = true ∧ loopF (.nm 2) lb__law_dice_1 (ns.map D.int) [.val L, .val (.int m), s] = some (.nx [.val L, .val (.int m'), s'])
  | [], m, s, h => ⟨m, s, h, rfl⟩
  | n :: ns, m, s, h => by
    have c1 : inW 48271 = true := by decide
    have c2 : inW 69621 = true := by decide
    obtain ⟨m', s', h', e⟩ := dice_loop L ns (((m * 48271 + n.fmod 2147483647 * 69621 + 11)).fmod 2147483647) (.val (.int n)) rfl
    refine ⟨m', s', h', ?_⟩
    rw [← e]
    cases s with
    | none => simp [loopF, lb__law_dice_1, putT, put1, c1, c2, bodyF, seqF, nextF, ifF, cmpT, cmpE, look2, ovF, frzF, ixE, orefF, inE, lookA, lookAs, lookOf, conE, varE, gSub2, gIx, gDget, itemsOf, keyOf, Re.d, bLt, bGt, bLe, bGe, bEq, bEqF, bInt, bStr, setF, op2E, gAdd, gAddI, gAddS, gAddL, gAddT, Ev.gSub, gMul, gMulI, gMulL, gMod, gFdiv, gPow, gI, gS, isRef, slOf, setItF, Ev.cellOf, gPut2, gSetL, gPutK, setC, retVarF, retF, outs, opLE, aoF, anilF, gLen, gLenS, iteE, dropF]
    | val d => simp [loopF, lb__law_dice_1, putT, put1, c1, c2, bodyF, seqF, nextF, ifF, cmpT, cmpE, look2, ovF, frzF, ixE, orefF, inE, lookA, lookAs, lookOf, conE, varE, gSub2, gIx, gDget, itemsOf, keyOf, Re.d, bLt, bGt, bLe, bGe, bEq, bEqF, bInt, bStr, setF, op2E, gAdd, gAddI, gAddS, gAddL, gAddT, Ev.gSub, gMul, gMulI, gMulL, gMod, gFdiv, gPow, gI, gS, isRef, slOf, setItF, Ev.cellOf, gPut2, gSetL, gPutK, setC, retVarF, retF, outs, opLE, aoF, anilF, gLen, gLenS, iteE, dropF]
    | own d => cases h
    | ref d => cases h
theorem dice_eq (ns : List Int) : ∃ c, fn__law_dice [.rol (ns.map D.int)] = some (.new (dice ns 0 c 0), [.rol (ns.map D.int)]) := by
  obtain ⟨m', s', h', e⟩ := dice_loop (.rol (ns.map D.int)) ns 0 .none rfl
  have c1 : inW 1 = true := by decide
  have c0 : inW 0 = true := by decide
  have l4 : isLine 4 = true := by decide
  by_cases h2 : (2 : Int) < ns.length
  · refine ⟨m' * 1, ?_⟩
    cases s' with
    | none => simp [fn__law_dice, fb__law_dice, forF, e, dice, gInt, lstE, consF, nilF, c1, h2, l4, bodyF, seqF, nextF, ifF, cmpT, cmpE, look2, ovF, frzF, ixE, orefF, inE, lookA, lookAs, lookOf, conE, varE, gSub2, gIx, gDget, itemsOf, keyOf, Re.d, bLt, bGt, bLe, bGe, bEq, bEqF, bInt, bStr, setF, op2E, gAdd, gAddI, gAddS, gAddL, gAddT, Ev.gSub, gMul, gMulI, gMulL, gMod, gFdiv, gPow, gI, gS, isRef, slOf, setItF, Ev.cellOf, gPut2, gSetL, gPutK, setC, retVarF, retF, outs, opLE, aoF, anilF, gLen, gLenS, iteE, dropF]
    | val d => simp [fn__law_dice, fb__law_dice, forF, e, dice, gInt, lstE, consF, nilF, c1, h2, l4, bodyF, seqF, nextF, ifF, cmpT, cmpE, look2, ovF, frzF, ixE, orefF, inE, lookA, lookAs, lookOf, conE, varE, gSub2, gIx, gDget, itemsOf, keyOf, Re.d, bLt, bGt, bLe, bGe, bEq, bEqF, bInt, bStr, setF, op2E, gAdd, gAddI, gAddS, gAddL, gAddT, Ev.gSub, gMul, gMulI, gMulL, gMod, gFdiv, gPow, gI, gS, isRef, slOf, setItF, Ev.cellOf, gPut2, gSetL, gPutK, setC, retVarF, retF, outs, opLE, aoF, anilF, gLen, gLenS, iteE, dropF]
    | own d => cases h'
    | ref d => cases h'
  · refine ⟨m' * 0, ?_⟩
    cases s' with
    | none => simp [fn__law_dice, fb__law_dice, forF, e, dice, gInt, lstE, consF, nilF, c0, h2, l4, bodyF, seqF, nextF, ifF, cmpT, cmpE, look2, ovF, frzF, ixE, orefF, inE, lookA, lookAs, lookOf, conE, varE, gSub2, gIx, gDget, itemsOf, keyOf, Re.d, bLt, bGt, bLe, bGe, bEq, bEqF, bInt, bStr, setF, op2E, gAdd, gAddI, gAddS, gAddL, gAddT, Ev.gSub, gMul, gMulI, gMulL, gMod, gFdiv, gPow, gI, gS, isRef, slOf, setItF, Ev.cellOf, gPut2, gSetL, gPutK, setC, retVarF, retF, outs, opLE, aoF, anilF, gLen, gLenS, iteE, dropF]
    | val d => simp [fn__law_dice, fb__law_dice, forF, e, dice, gInt, lstE, consF, nilF, c0, h2, l4, bodyF, seqF, nextF, ifF, cmpT, cmpE, look2, ovF, frzF, ixE, orefF, inE, lookA, lookAs, lookOf, conE, varE, gSub2, gIx, gDget, itemsOf, keyOf, Re.d, bLt, bGt, bLe, bGe, bEq, bEqF, bInt, bStr, setF, op2E, gAdd, gAddI, gAddS, gAddL, gAddT, Ev.gSub, gMul, gMulI, gMulL, gMod, gFdiv, gPow, gI, gS, isRef, slOf, setItF, Ev.cellOf, gPut2, gSetL, gPutK, setC, retVarF, retF, outs, opLE, aoF, anilF, gLen, gLenS, iteE, dropF]
    | own d => cases h'
    | ref d => cases h'
end G04
/-! P04c -/
namespace G04
open PySem PySem.Spec PyProof.Rows L2 Ev
theorem kSB : kitB "str" "bool" = some false := by decide +kernel
theorem kSS : kitB "str" "str" = some true := by decide +kernel
theorem kTB : kitB "tuple" "bool" = some false := by decide +kernel
theorem kTS : kitB "tuple" "str" = some false := by decide +kernel
theorem kTI : kitB "tuple" "int" = some false := by decide +kernel
theorem kTD : kitB "tuple" "dict" = some false := by decide +kernel
theorem kTT : kitB "tuple" "tuple" = some true := by decide +kernel
theorem kTL : kitB "tuple" "list" = some false := by decide +kernel
theorem like_str (n : Nat) (a : Str) : fn__law_like (n + 1) [.str a, .str a] = some (.val (.bl true), [.str a, .str a]) := by
  simp [fn__law_like, fb__law_like, kSB, kSS, bodyF, seqF, nextF, ifF, cmpT, cmpE, look2, ovF, frzF, ixE, orefF, inE, lookA, lookAs, lookOf, conE, varE, gSub2, gIx, gDget, itemsOf, keyOf, Re.d, bLt, bGt, bLe, bGe, bEq, bEqF, bInt, bStr, setF, op2E, gAdd, gAddI, gAddS, gAddL, gAddT, Ev.gSub, gMul, gMulI, gMulL, gMod, gFdiv, gPow, gI, gS, isRef, slOf, setItF, Ev.cellOf, gPut2, gSetL, gPutK, setC, retVarF, retF, outs, opLE, aoF, anilF, gLen, gLenS, iteE, dropF, andE, andF, orF, notF, notE, truO, truA, truN, truD, isiE, tyN, bIsN, callE, avF, argD, putBack, refAt, newSl, refsOf, noDup, AD.isR, toFlat, scal]
def spSs (l : List Str) : D := .tup (l.map D.str)
theorem spSs_len (l : List Str) : itemsOf (spSs l) = some (l.map D.str) := rfl
theorem like_loop (n : Nat) (l : List Str) : ∀ (ks : List Nat) (s : Sl), (∀ k, k ∈ ks → k < l.length) → slV s = true → ∃ s', slV s' = true ∧ loopF (.nm 3) (lb__law_like_1 (fn__law_like (n + 1))) (ks.map fun i => D.int (0 + (i : Nat))) [.val (spSs l), .val (spSs l), .none, s] = some (.nx [.val (spSs l), .val (spSs l), .none, s'])
  | [], s, _, h => ⟨s, h, rfl⟩
  | k :: ks, s, hk, h => by
    obtain ⟨s', h', e⟩ := like_loop n l ks (.val (.int (0 + (k : Nat)))) (fun j hj => hk j (List.mem_cons_of_mem _ hj)) rfl
    refine ⟨s', h', ?_⟩
    have hlt : k < l.length := hk k List.mem_cons_self
    have at1 : atI (l.map D.str) ((k : Nat) : Int) = some (.str l[k]) := by
      unfold atI ixN
      rw [List.length_map, if_pos (by omega), if_pos (by omega)]
      simp [hlt]
    have lk := like_str n l[k]
    rw [List.map_cons, loopF]
    have hp : putT (.nm 3) (.int (0 + (k : Nat))) [.val (spSs l), .val (spSs l), .none, s] = some [.val (spSs l), .val (spSs l), .none, .val (.int (0 + (k : Nat)))] := by
      cases s with
      | none => rfl
      | val d => rfl
      | own d => cases h
      | ref d => cases h
    rw [hp]
    have hb : lb__law_like_1 (fn__law_like (n + 1)) [.val (spSs l), .val (spSs l), .none, .val (.int (0 + (k : Nat)))] = some (.nx [.val (spSs l), .val (spSs l), .none, .val (.int (0 + (k : Nat)))]) := by
      simp only [lb__law_like_1]
      simp [spSs, at1, lk, bodyF, seqF, nextF, ifF, cmpT, cmpE, look2, ovF, frzF, ixE, orefF, inE, lookA, lookAs, lookOf, conE, varE, gSub2, gIx, gDget, itemsOf, keyOf, Re.d, bLt, bGt, bLe, bGe, bEq, bEqF, bInt, bStr, setF, op2E, gAdd, gAddI, gAddS, gAddL, gAddT, Ev.gSub, gMul, gMulI, gMulL, gMod, gFdiv, gPow, gI, gS, isRef, slOf, setItF, Ev.cellOf, gPut2, gSetL, gPutK, setC, retVarF, retF, outs, opLE, aoF, anilF, gLen, gLenS, iteE, dropF, andE, andF, orF, notF, notE, truO, truA, truN, truD, isiE, tyN, bIsN, callE, avF, argD, putBack, refAt, newSl, refsOf, noDup, AD.isR, toFlat, scal]
    simp only [hb]
    exact e
theorem seq_nx {f g : Fs} {ρ ρ1 : EnvD} (h : f ρ = some (.nx ρ1)) : seqF f g ρ = g ρ1 := by
  unfold seqF
  rw [h]
theorem like_tup (n : Nat) (l : List Str) (hl : in62 (l.length : Nat) = true) : fn__law_like (n + 1 + 1) [spSs l, spSs l] = some (.val (.bl true), [spSs l, spSs l]) := by
  obtain ⟨s', h', e⟩ := like_loop n l (List.range l.length) .none (fun k hk => List.mem_range.mp hk) rfl
  have e2 : loopF (.nm 3) (lb__law_like_1 (fn__law_like (n + 1))) (intsD 0 l.length) [.val (spSs l), .val (spSs l), .none, .none] = some (.nx [.val (spSs l), .val (spSs l), .none, s']) := e
  clear e
  rw [eq__law_like (n + 1)]
  generalize fn__law_like (n + 1) = g at e2
  have key : fb__law_like g [.val (spSs l), .val (spSs l), .none, .none] = some (.rt (.val (.bl true)) [.val (spSs l), .val (spSs l), .none, s']) := by
    refine (seq_nx (ρ1 := [.val (spSs l), .val (spSs l), .none, .none]) (by kernel_rfl)).trans ?_
    refine (seq_nx (ρ1 := [.val (spSs l), .val (spSs l), .none, .none]) (by kernel_rfl)).trans ?_
    refine (seq_nx (ρ1 := [.val (spSs l), .val (spSs l), .none, .none]) (by kernel_rfl)).trans ?_
    refine (seq_nx (ρ1 := [.val (spSs l), .val (spSs l), .none, .none]) (by kernel_rfl)).trans ?_
    refine (seq_nx (ρ1 := [.val (spSs l), .val (spSs l), .none, .none]) (by kernel_rfl)).trans ?_
    refine (seq_nx (ρ1 := [.val (spSs l), .val (spSs l), .none, .none]) (by kernel_rfl)).trans ?_
    refine (seq_nx (ρ1 := [.val (spSs l), .val (spSs l), .none, .none]) ?_).trans ?_
    · simp [spSs, toFlat, scal, bodyF, seqF, nextF, ifF, cmpT, cmpE, look2, ovF, frzF, ixE, orefF, inE, lookA, lookAs, lookOf, conE, varE, gSub2, gIx, gDget, itemsOf, keyOf, Re.d, bLt, bGt, bLe, bGe, bEq, bEqF, bInt, bStr, setF, op2E, gAdd, gAddI, gAddS, gAddL, gAddT, Ev.gSub, gMul, gMulI, gMulL, gMod, gFdiv, gPow, gI, gS, isRef, slOf, setItF, Ev.cellOf, gPut2, gSetL, gPutK, setC, retVarF, retF, outs, opLE, aoF, anilF, gLen, gLenS, iteE, dropF]
    refine (seq_nx (ρ1 := [.val (spSs l), .val (spSs l), .none, s']) ?_).trans (by rfl)
    have q1 : rngD1 [.int ((l.length : Nat) : Int)] = some (intsD 0 l.length) := by simp [rngD1, hl]
    unfold spSs at e2 ⊢
    simp [rngF, consF, nilF, q1, e2, bodyF, seqF, nextF, ifF, cmpT, cmpE, look2, ovF, frzF, ixE, orefF, inE, lookA, lookAs, lookOf, conE, varE, gSub2, gIx, gDget, itemsOf, keyOf, Re.d, bLt, bGt, bLe, bGe, bEq, bEqF, bInt, bStr, setF, op2E, gAdd, gAddI, gAddS, gAddL, gAddT, Ev.gSub, gMul, gMulI, gMulL, gMod, gFdiv, gPow, gI, gS, isRef, slOf, setItF, Ev.cellOf, gPut2, gSetL, gPutK, setC, retVarF, retF, outs, opLE, aoF, anilF, gLen, gLenS, iteE, dropF]
  have fin : ∀ fb : Fs, fb [.val (spSs l), .val (spSs l), .none, .none] = some (.rt (.val (.bl true)) [.val (spSs l), .val (spSs l), .none, s']) → bodyF [false, false] 2 fb [spSs l, spSs l] = some (.val (.bl true), [spSs l, spSs l]) := fun fb h => by
    simp [bodyF, inE, h, outs]
  exact fin _ key
end G04
/-! P04e -/
namespace G04
open PySem PySem.Spec PyProof.Rows L2 Ev
def wayS : List Str := ["apart", "meets", "over", "same", "inrim", "incore", "hasrim", "hascore"].map Str.ofString
def ws (i : Nat) : Str := wayS.getD i ⟨#[]⟩
def wd (i : Nat) : D := .str (ws i)
def lc (k : Nat) : Nat := ("amosrcRC".toList.getD k 'a').toNat
def LL (i j : Nat) : Str := match fn__law_led [wd i, wd j] with
  | some (.val (.str s), _) => s
  | _ => ⟨#[]⟩
/-- the table of the program, by numbers -/
def WW (i j : Nat) : List Nat := match ledT.lookup [ws i, ws j] with
  | some (.tup l) => (List.range 8).filter fun k => l.any fun d => match d with
    | .str s => s == ws k
    | _ => false
  | _ => []
def chk1 (i j : Nat) : Bool := match fn__law_led [wd i, wd j] with
  | some (.val (.str s), [.str a, .str b]) => a == ws i && (b == ws j && (Nat.ble s.length 8 && (List.range 8).all (fun k => s.cps.toList.contains (lc k) == (WW i j).contains k)))
  | _ => false
def chk2 (i j : Nat) : Bool := match ledT.lookup [ws i, ws j] with
    | some (.tup l) => (match strsOf l with
      | some ys => ys == (WW i j).map ws && Nat.ble (WW i j).length 8
      | none => false)
    | _ => false
theorem chks : ((List.range 8).all fun i => (List.range 8).all fun j => chk1 i j && chk2 i j) = true := by decide +kernel
theorem chk_at {i j : Nat} (hi : i < 8) (hj : j < 8) : chk1 i j = true ∧ chk2 i j = true := by
  have h := List.all_eq_true.mp chks i (List.mem_range.mpr hi)
  exact Bool.and_eq_true_iff.mp (List.all_eq_true.mp h j (List.mem_range.mpr hj))
theorem led_at {i j : Nat} (hi : i < 8) (hj : j < 8) : fn__law_led [wd i, wd j] = some (.val (.str (LL i j)), [wd i, wd j]) ∧ (LL i j).length ≤ 8 ∧ ∀ k, k < 8 → (lc k ∈ (LL i j).cps.toList ↔ k ∈ WW i j) := by
  have h := (chk_at hi hj).1
  unfold chk1 at h
  split at h
  · rename_i s a b q
    simp only [Bool.and_eq_true, beq_iff_eq] at h
    obtain ⟨h1, h2, h3, h4⟩ := h
    have e : LL i j = s := by unfold LL; rw [q]
    subst h1 h2
    rw [e]
    refine ⟨q, Nat.le_of_ble_eq_true h3, fun k hk => ?_⟩
    have h5 := List.all_eq_true.mp h4 k (List.mem_range.mpr hk)
    have h6 : s.cps.toList.contains (lc k) = (WW i j).contains k := eq_of_beq h5
    rw [← List.contains_iff_mem, h6, List.contains_iff_mem]
  · cases h
theorem tab_at {i j : Nat} (hi : i < 8) (hj : j < 8) : ledT.lookup [ws i, ws j] = some (.tup ((WW i j).map wd)) ∧ (WW i j).length ≤ 8 := by
  have h := (chk_at hi hj).2
  unfold chk2 at h
  split at h
  · rename_i l q
    split at h
    · rename_i ys q2
      obtain ⟨h1, h2⟩ := Bool.and_eq_true_iff.mp h
      have e : ys = (WW i j).map ws := eq_of_beq h1
      refine ⟨?_, Nat.le_of_ble_eq_true h2⟩
      rw [q, strsOf_ok q2, e, List.map_map]
      rfl
    · cases h
  · cases h
theorem app_mem {c : Nat} {x y : Str} : c ∈ (x ++ y).cps.toList ↔ c ∈ x.cps.toList ∨ c ∈ y.cps.toList := by
  show c ∈ (x.cps ++ y.cps).toList ↔ _
  rw [Array.toList_append, List.mem_append]
theorem app_len {x y : Str} : (x ++ y).length = x.length + y.length := by
  show (x.cps ++ y.cps).size = _
  rw [Array.size_append]
  rfl
theorem line_of {n : Nat} (h : n ≤ 10000) : isLine n = true := decide_eq_true (Nat.le_trans h (by rw [sizeLine_eq]; decide))
/-- one pair's letters -/
theorem u3 {A B : D} {x : Str} {i j : Nat} {s5 : Sl} (hi : i < 8) (hj : j < 8) (hx : x.length + 8 ≤ 10000) :
    lb__law_union_3 [.val A, .val B, .val (.str x), .val (wd i), .val (wd j), s5] = some (.nx [.val A, .val B, .val (.str (x ++ LL i j)), .val (wd i), .val (wd j), s5]) := by
  obtain ⟨h1, h2, _⟩ := led_at hi hj
  have h3 := line_of (n := x.length + (LL i j).length) (by omega)
  simp [lb__law_union_3, setF, op2E, frzF, varE, callE, avF, anilF, argD, refsOf, noDup, AD.isR, putBack, refAt, newSl, h1, h3, gAdd, gAddI, gAddS, gS, gI, Re.d, isRef, slOf]
theorem p_nm {t : Nat} {d : D} {ρ : EnvD} (h : isRef ρ t = false) : putT (.nm t) d ρ = some (ρ.set t (.val d)) := by
  show put1 t d ρ = _
  unfold put1
  rw [h]
  rfl
theorem u4 {A : D} {J : List Nat} (hJ : ∀ j, j ∈ J → j < 8) (hl : J.length ≤ 8) {x : Str} {i : Nat} {s4 s5 : Sl} (h4 : slV s4 = true) (hi : i < 8) (hx : x.length + 64 ≤ 10000) :
    ∃ y s4', slV s4' = true ∧ lb__law_union_4 [.val A, .val (.tup (J.map wd)), .val (.str x), .val (wd i), s4, s5] = some (.nx [.val A, .val (.tup (J.map wd)), .val (.str y), .val (wd i), s4', s5]) ∧ y.length ≤ x.length + 64 ∧
      ∀ k, k < 8 → (lc k ∈ y.cps.toList ↔ lc k ∈ x.cps.toList ∨ ∃ j, j ∈ J ∧ k ∈ WW i j) := by
  have step : ∀ (pr : List Nat) (j : Nat) (post : List Nat) (ρ : EnvD), [] ++ J = pr ++ j :: post → (∃ y s4', slV s4' = true ∧ ρ = [.val A, .val (.tup (J.map wd)), .val (.str y), .val (wd i), s4', s5] ∧ y.length ≤ x.length + 8 * pr.length ∧
      ∀ k, k < 8 → (lc k ∈ y.cps.toList ↔ lc k ∈ x.cps.toList ∨ ∃ j, j ∈ pr ∧ k ∈ WW i j)) → ∃ ρ1 ρ2, putT (.nm 4) (wd j) ρ = some ρ1 ∧ lb__law_union_3 ρ1 = some (.nx ρ2) ∧ (∃ y s4', slV s4' = true ∧ ρ2 = [.val A, .val (.tup (J.map wd)), .val (.str y), .val (wd i), s4', s5] ∧ y.length ≤ x.length + 8 * (pr ++ [j]).length ∧
      ∀ k, k < 8 → (lc k ∈ y.cps.toList ↔ lc k ∈ x.cps.toList ∨ ∃ j', j' ∈ pr ++ [j] ∧ k ∈ WW i j')) := by
    rintro pr j post ρ hs ⟨y, s4', h4', rfl, hy, hm⟩
    rw [List.nil_append] at hs
    have hj8 := hJ j (by rw [hs]; simp)
    have hlen : J.length = pr.length + (post.length + 1) := by rw [hs]; simp
    refine ⟨_, _, p_nm (by cases s4' <;> first | rfl | cases h4'), u3 hi hj8 (by omega), y ++ LL i j, .val (wd j), rfl, rfl, ?_, fun k hk => ?_⟩
    · rw [app_len, List.length_append, List.length_singleton]
      have := (led_at hi hj8).2.1
      omega
    · rw [app_mem, hm k hk, (led_at hi hj8).2.2 k hk]
      constructor
      · rintro ((h | ⟨j', h1, h2⟩) | h)
        · exact .inl h
        · exact .inr ⟨j', List.mem_append_left _ h1, h2⟩
        · exact .inr ⟨j, by simp, h⟩
      · rintro (h | ⟨j', h1, h2⟩)
        · exact .inl (.inl h)
        · rcases List.mem_append.mp h1 with h1 | h1
          · exact .inl (.inr ⟨j', h1, h2⟩)
          · rw [List.mem_singleton] at h1
            subst h1
            exact .inr h2
  obtain ⟨ρ', e, y, s4', h4', rfl, hy, hm⟩ := loop_nx (t := .nm 4) (body := lb__law_union_3) (f := wd) _ J [] [.val A, .val (.tup (J.map wd)), .val (.str x), .val (wd i), s4, s5] ⟨x, s4, h4, rfl, by simp, fun k hk => by simp⟩ step
  refine ⟨y, s4', h4', ?_, ?_, ?_⟩
  · unfold lb__law_union_4
    simp [forF, frzF, varE, itemsOf, Re.d, e]
  · rw [List.nil_append] at hy
    omega
  · exact hm
end G04
/-! P04f -/
namespace G04
open PySem PySem.Spec PyProof.Rows L2 Ev
/-- to what two choices lead, by numbers -/
def UU (I J : List Nat) : List Nat := (List.range 8).filter fun k => I.any fun i => J.any fun j => (WW i j).contains k
theorem UU_mem {I J : List Nat} {k : Nat} : (I.any fun i => J.any fun j => (WW i j).contains k) = true ↔ ∃ i, i ∈ I ∧ ∃ j, j ∈ J ∧ k ∈ WW i j := by
  simp [List.any_eq_true]
theorem ways_eq : fn__law_ways [] = some (.new (.lst ((List.range 8).map wd)), []) := by kernel_rfl
theorem at_range {n k : Nat} (h : k < n) : atI (List.range n) (0 + ((k : Nat) : Int)) = some k := by
  unfold atI ixN
  rw [List.length_range, if_pos (by omega), if_pos (by omega)]
  simp [h]
theorem at_ways {k : Nat} (h : k < 8) : atI ((List.range 8).map wd) (0 + ((k : Nat) : Int)) = some (wd k) := by rw [atI_map, at_range h]; rfl
theorem at_let {k : Nat} (h : k < 8) : gSub2 (.str (Str.ofString "amosrcRC")) (.int (0 + ((k : Nat) : Int))) = some (.str ⟨#[lc k]⟩) := by
  have h8 : k = 0 ∨ k = 1 ∨ k = 2 ∨ k = 3 ∨ k = 4 ∨ k = 5 ∨ k = 6 ∨ k = 7 := by omega
  rcases h8 with rfl | rfl | rfl | rfl | rfl | rfl | rfl | rfl <;> kernel_rfl
theorem filt_f {p : Nat → Bool} {pr : List Nat} {k : Nat} (h : p k = false) : (pr ++ [k]).filter p = pr.filter p := by
  rw [List.filter_append, List.filter_cons, h]
  simp
theorem filt_t {p : Nat → Bool} {pr : List Nat} {k : Nat} (h : p k = true) : (pr ++ [k]).filter p = pr.filter p ++ [k] := by
  rw [List.filter_append, List.filter_cons, h]
  simp
theorem bIn_sign (c : Nat) (X : Str) : bIn false (.str ⟨#[c]⟩) (.str X) = some (decide (c ∈ X.cps.toList)) := rfl
theorem u_test {A B : D} {X : Str} {s3 s4 : Sl} {z : Int} {k : Nat} (e : gSub2 (.str (Str.ofString "amosrcRC")) (.int z) = some (.str ⟨#[lc k]⟩)) : cc__law_union_1 [.val A, .val B, .val (.str X), s3, s4, .val (.int z)] = some (decide (lc k ∈ X.cps.toList), [.val A, .val B, .val (.str X), s3, s4, .val (.int z)]) := by
  unfold cc__law_union_1
  simp only [cmpT, look2, ovF, frzF, ixE, conE, varE, orefF, Option.map, lookA, lookOf, Re.d, List.getElem?_cons_succ, List.getElem?_cons_zero, e, bIn_sign]
theorem u_elt {A B : D} {X : Str} {s3 s4 : Sl} {z : Int} {k : Nat} (e : atI ((List.range 8).map wd) z = some (wd k)) : ce__law_union_2 [.val A, .val B, .val (.str X), s3, s4, .val (.int z)] = some (wd k, [.val A, .val B, .val (.str X), s3, s4, .val (.int z)]) := by
  have e2 : gSub2 (.lst ((List.range 8).map wd)) (.int z) = some (wd k) := by
    show (gIx (.lst ((List.range 8).map wd)) (.int z)).or _ = _
    rw [show gIx (.lst ((List.range 8).map wd)) (.int z) = atI ((List.range 8).map wd) z from rfl, e]
    rfl
  unfold ce__law_union_2
  simp [ovF, frzF, ixE, varE, lookA, Re.d, callE, anilF, argD, refsOf, noDup, putBack, refAt, newSl, ways_eq, e2, -gSub2]
theorem union_eq {I J : List Nat} (hI : ∀ i, i ∈ I → i < 8) (hJ : ∀ j, j ∈ J → j < 8) (hl : I.length ≤ 8) (hl2 : J.length ≤ 8) :
    fn__law_union [.tup (I.map wd), .tup (J.map wd)] = some (.val (.tup ((UU I J).map wd)), [.tup (I.map wd), .tup (J.map wd)]) := by
  -- the letters
  have step : ∀ (pr : List Nat) (i : Nat) (post : List Nat) (ρ : EnvD), [] ++ I = pr ++ i :: post → (∃ y s3 s4, slV s3 = true ∧ slV s4 = true ∧ ρ = [.val (.tup (I.map wd)), .val (.tup (J.map wd)), .val (.str y), s3, s4, .none] ∧ y.length ≤ 64 * pr.length ∧
      ∀ k, k < 8 → (lc k ∈ y.cps.toList ↔ ∃ i, i ∈ pr ∧ ∃ j, j ∈ J ∧ k ∈ WW i j)) → ∃ ρ1 ρ2, putT (.nm 3) (wd i) ρ = some ρ1 ∧ lb__law_union_4 ρ1 = some (.nx ρ2) ∧ (∃ y s3 s4, slV s3 = true ∧ slV s4 = true ∧ ρ2 = [.val (.tup (I.map wd)), .val (.tup (J.map wd)), .val (.str y), s3, s4, .none] ∧ y.length ≤ 64 * (pr ++ [i]).length ∧
      ∀ k, k < 8 → (lc k ∈ y.cps.toList ↔ ∃ i', i' ∈ pr ++ [i] ∧ ∃ j, j ∈ J ∧ k ∈ WW i' j)) := by
    rintro pr i post ρ hs ⟨y, s3, s4, h3, h4, rfl, hy, hm⟩
    rw [List.nil_append] at hs
    have hi8 := hI i (by rw [hs]; simp)
    have hlen : I.length = pr.length + (post.length + 1) := by rw [hs]; simp
    obtain ⟨y2, s4', h4', e, hy2, hm2⟩ := u4 (A := .tup (I.map wd)) (s5 := .none) hJ hl2 (x := y) (i := i) h4 hi8 (by omega)
    refine ⟨_, _, p_nm (by cases s3 <;> first | rfl | cases h3), e, y2, .val (wd i), s4', rfl, h4', rfl, ?_, fun k hk => ?_⟩
    · rw [List.length_append, List.length_singleton]
      omega
    · rw [hm2 k hk, hm k hk]
      constructor
      · rintro (⟨i', h1, h2⟩ | h)
        · exact ⟨i', List.mem_append_left _ h1, h2⟩
        · exact ⟨i, by simp, h⟩
      · rintro ⟨i', h1, h2⟩
        rcases List.mem_append.mp h1 with h1 | h1
        · exact .inl ⟨i', h1, h2⟩
        · rw [List.mem_singleton] at h1
          subst h1
          exact .inr h2
  obtain ⟨ρ', e, X, s3, s4, h3, h4, rfl, hy, hm⟩ := loop_nx (t := .nm 3) (body := lb__law_union_4) (f := wd) _ I [] [.val (.tup (I.map wd)), .val (.tup (J.map wd)), .val (.str (Str.ofString "")), .none, .none, .none] ⟨Str.ofString "", .none, .none, rfl, rfl, rfl, by decide, fun k hk => by simp [show (Str.ofString "").cps.toList = [] from by decide]⟩ step
  rw [List.nil_append] at hm
  -- the ways
  have step2 : ∀ (pr : List Nat) (k : Nat) (post : List Nat) (acc : List D) (ρ : EnvD), [] ++ List.range 8 = pr ++ k :: post → (acc = (pr.filter fun k => decide (lc k ∈ X.cps.toList)).map wd ∧ ρ = [.val (.tup (I.map wd)), .val (.tup (J.map wd)), .val (.str X), s3, s4, .none]) →
      ∃ ρ1 b ρ2, putT (.nm 5) (.int (0 + ((k : Nat) : Int))) ρ = some ρ1 ∧ cc__law_union_1 ρ1 = some (b, ρ2) ∧ (b = false → noCell ρ2 [5] = true ∧ (acc = ((pr ++ [k]).filter fun k => decide (lc k ∈ X.cps.toList)).map wd ∧ clr ρ2 [5] = [.val (.tup (I.map wd)), .val (.tup (J.map wd)), .val (.str X), s3, s4, .none])) ∧
        (b = true → ∃ y ρ3, ce__law_union_2 ρ2 = some (y, ρ3) ∧ noCell ρ3 [5] = true ∧ acc.length < sizeLine ∧ (acc ++ [y] = ((pr ++ [k]).filter fun k => decide (lc k ∈ X.cps.toList)).map wd ∧ clr ρ3 [5] = [.val (.tup (I.map wd)), .val (.tup (J.map wd)), .val (.str X), s3, s4, .none])) := by
    rintro pr k post acc ρ hs ⟨rfl, rfl⟩
    rw [List.nil_append] at hs
    have hk : k < 8 := List.mem_range.mp (by rw [hs]; simp)
    have hlen : 8 = pr.length + (post.length + 1) := by
      have := congrArg List.length hs
      simpa using this
    refine ⟨_, _, _, p_nm rfl, u_test (at_let hk), fun hb => ⟨rfl, ?_, rfl⟩, fun hb => ⟨_, _, u_elt (at_ways hk), rfl, ?_, ?_, rfl⟩⟩
    · rw [filt_f hb]
    · rw [List.length_map]
      have := List.length_filter_le (fun k => decide (lc k ∈ X.cps.toList)) pr
      rw [sizeLine_eq]
      omega
    · rw [filt_t hb, List.map_append]
      rfl
  obtain ⟨acc, ρ', e2, rfl, rfl⟩ := lcLoop_nx (vs := [5]) (t := .nm 5) (c := cc__law_union_1) (e := ce__law_union_2) (f := fun k : Nat => D.int (0 + ((k : Nat) : Int))) _ (List.range 8) [] [] [.val (.tup (I.map wd)), .val (.tup (J.map wd)), .val (.str X), s3, s4, .none] ⟨rfl, rfl⟩ step2
  rw [List.nil_append] at e2
  have eU : ((List.range 8).filter fun k => decide (lc k ∈ X.cps.toList)) = UU I J := by
    unfold UU
    refine List.filter_congr fun k hk => ?_
    rw [Bool.eq_iff_iff, decide_eq_true_iff, UU_mem]
    exact hm k (List.mem_range.mp hk)
  rw [eU] at e2
  have e1 : rngD1 [.int 8] = some ((List.range 8).map fun k : Nat => D.int (0 + ((k : Nat) : Int))) := rfl
  have q3 : lcRngE rngD1 [5] (.nm 5) (consF (frzF (conE (.int 8))) nilF) cc__law_union_1 ce__law_union_2 [.val (.tup (I.map wd)), .val (.tup (J.map wd)), .val (.str X), s3, s4, .none] = some (.new (.lst ((UU I J).map wd)), [.val (.tup (I.map wd)), .val (.tup (J.map wd)), .val (.str X), s3, s4, .none]) := by
    unfold lcRngE
    simp only [consF, nilF, frzF, conE, Option.map, Re.d, e1]
    unfold lcRun
    rw [show noCell [.val (.tup (I.map wd)), .val (.tup (J.map wd)), .val (.str X), s3, s4, .none] [5] = true from rfl, if_pos rfl]
    rw [show clr [.val (.tup (I.map wd)), .val (.tup (J.map wd)), .val (.str X), s3, s4, .none] [5] = [.val (.tup (I.map wd)), .val (.tup (J.map wd)), .val (.str X), s3, s4, .none] from rfl, e2]
    rfl
  have q2 : forF (.nm 3) (frzF (varE 0)) lb__law_union_4 [.val (.tup (I.map wd)), .val (.tup (J.map wd)), .val (.str (Str.ofString "")), .none, .none, .none] = some (.nx [.val (.tup (I.map wd)), .val (.tup (J.map wd)), .val (.str X), s3, s4, .none]) := e
  show bodyF [false, false] 4 fb__law_union _ = _
  unfold bodyF
  rw [show fb__law_union (inE [false, false] [D.tup (I.map wd), D.tup (J.map wd)] ++ List.replicate 4 Sl.none) = some (.rt (.val (.tup ((UU I J).map wd))) [.val (.tup (I.map wd)), .val (.tup (J.map wd)), .val (.str X), s3, s4, .none]) from ?_]
  · rfl
  unfold fb__law_union
  refine (seq_nx (ρ1 := [.val (.tup (I.map wd)), .val (.tup (J.map wd)), .val (.str (Str.ofString "")), .none, .none, .none]) rfl).trans ?_
  refine (seq_nx q2).trans ?_
  simp [retF, opLE, aoF, anilF, ovF, frzF, q3, Re.d, lookAs, lookA, gTuple, itemsOf]
end G04
/-! P04g -/
namespace G04
open PySem PySem.Spec PyProof.Rows L2 Ev
theorem WW_lt {i j k : Nat} (h : k ∈ WW i j) : k < 8 := by
  unfold WW at h
  split at h
  · exact List.mem_range.mp (List.mem_filter.mp h).1
  · cases h
theorem ck4 {A B : D} {s3 s4 : Sl} {acc : List D} {d : D} (hl : acc.length ≤ 10000) : ck_led_choices_4 [.val A, .val B, .none, s3, s4, .val d] acc = some (acc ++ [d], [.val A, .val B, .none, s3, s4, .val d]) := by
  have h : decide (acc.length < sizeLine) = true := decide_eq_true (by rw [sizeLine_eq]; omega)
  unfold ck_led_choices_4 emitF ce_led_choices_3
  simp only [frzF, varE, List.getElem?_cons_succ, List.getElem?_cons_zero, Option.map, Re.d, h, if_true]
theorem ck6 {A B : D} {i j : Nat} {acc : List D} (hi : i < 8) (hj : j < 8) (hl : acc.length + 8 ≤ 10000) : ck_led_choices_6 [.val A, .val B, .none, .val (wd i), .val (wd j), .none] acc = some (acc ++ (WW i j).map wd, [.val A, .val B, .none, .val (wd i), .val (wd j), .none]) := by
  obtain ⟨t1, t2⟩ := tab_at hi hj
  have step : ∀ (pr : List Nat) (k : Nat) (post : List Nat) (a : List D) (ρ : EnvD), [] ++ WW i j = pr ++ k :: post → (a = acc ++ pr.map wd ∧ ρ = [.val A, .val B, .none, .val (wd i), .val (wd j), .none]) →
      ∃ ρ1 b ρ2, putT (.nm 5) (wd k) ρ = some ρ1 ∧ yesF ρ1 = some (b, ρ2) ∧ (b = false → noCell ρ2 [5] = true ∧ (a = acc ++ (pr ++ [k]).map wd ∧ clr ρ2 [5] = [.val A, .val B, .none, .val (wd i), .val (wd j), .none])) ∧
        (b = true → ∃ a2 ρ3, ck_led_choices_4 ρ2 a = some (a2, ρ3) ∧ noCell ρ3 [5] = true ∧ (a2 = acc ++ (pr ++ [k]).map wd ∧ clr ρ3 [5] = [.val A, .val B, .none, .val (wd i), .val (wd j), .none])) := by
    rintro pr k post a ρ hs ⟨rfl, rfl⟩
    rw [List.nil_append] at hs
    have hlen : (WW i j).length = pr.length + (post.length + 1) := by rw [hs]; simp
    refine ⟨_, true, _, p_nm rfl, rfl, (fun hb => by cases hb), fun _ => ⟨_, _, ck4 ?_, rfl, ?_, rfl⟩⟩
    · rw [List.length_append, List.length_map]
      omega
    · rw [List.map_append, List.append_assoc]
      rfl
  obtain ⟨a, ρ', e, rfl, rfl⟩ := lcFor_nx (vs := [5]) (t := .nm 5) (c := yesF) (k := ck_led_choices_4) (f := wd) _ (WW i j) [] acc [.val A, .val B, .none, .val (wd i), .val (wd j), .none] ⟨by simp, rfl⟩ step
  rw [List.nil_append] at e
  have hit : cl_led_choices_5.it [.val A, .val B, .none, .val (wd i), .val (wd j), .none] = some (.tup ((WW i j).map wd), [.val A, .val B, .none, .val (wd i), .val (wd j), .none]) := by
    have s2 : strsOf [wd i, wd j] = some [ws i, ws j] := rfl
    have l2 : isLine ([ws i, ws j] : List Str).length = true := line_of (show 2 ≤ 10000 by decide)
    simp only [cl_led_choices_5, frzF, ledE, consF, nilF, varE, List.getElem?_cons_succ, List.getElem?_cons_zero, Option.map, Re.d, s2, l2, if_true, t1]
  unfold ck_led_choices_6 loopF2
  rw [hit]
  show (match itemsOf (.tup ((WW i j).map wd)) with
    | some ds => if noCell [.val A, .val B, .none, .val (wd i), .val (wd j), .none] [5] then lcForN [5] (.nm 5) yesF ck_led_choices_4 ds acc [.val A, .val B, .none, .val (wd i), .val (wd j), .none] else none
    | none => none) = _
  exact e
theorem flat_len {J : List Nat} {i : Nat} (hi : i < 8) (hJ : ∀ j, j ∈ J → j < 8) : (J.flatMap (WW i)).length ≤ 8 * J.length := by
  induction J with
  | nil => simp
  | cons j J ih =>
    rw [List.flatMap_cons, List.length_append, List.length_cons]
    have h1 := (tab_at hi (hJ j List.mem_cons_self)).2
    have h2 := ih fun x hx => hJ x (List.mem_cons_of_mem _ hx)
    omega
theorem ck8 {A : D} {J : List Nat} (hJ : ∀ j, j ∈ J → j < 8) (hl : J.length ≤ 8) {i : Nat} {acc : List D} (hi : i < 8) (ha : acc.length + 64 ≤ 10000) : ck_led_choices_8 [.val A, .val (.tup (J.map wd)), .none, .val (wd i), .none, .none] acc = some (acc ++ (J.flatMap (WW i)).map wd, [.val A, .val (.tup (J.map wd)), .none, .val (wd i), .none, .none]) := by
  have step : ∀ (pr : List Nat) (j : Nat) (post : List Nat) (a : List D) (ρ : EnvD), [] ++ J = pr ++ j :: post → (a = acc ++ (pr.flatMap (WW i)).map wd ∧ ρ = [.val A, .val (.tup (J.map wd)), .none, .val (wd i), .none, .none]) →
      ∃ ρ1 b ρ2, putT (.nm 4) (wd j) ρ = some ρ1 ∧ yesF ρ1 = some (b, ρ2) ∧ (b = false → noCell ρ2 [4, 5] = true ∧ (a = acc ++ ((pr ++ [j]).flatMap (WW i)).map wd ∧ clr ρ2 [4, 5] = [.val A, .val (.tup (J.map wd)), .none, .val (wd i), .none, .none])) ∧
        (b = true → ∃ a2 ρ3, ck_led_choices_6 ρ2 a = some (a2, ρ3) ∧ noCell ρ3 [4, 5] = true ∧ (a2 = acc ++ ((pr ++ [j]).flatMap (WW i)).map wd ∧ clr ρ3 [4, 5] = [.val A, .val (.tup (J.map wd)), .none, .val (wd i), .none, .none])) := by
    rintro pr j post a ρ hs ⟨rfl, rfl⟩
    rw [List.nil_append] at hs
    have hj8 := hJ j (by rw [hs]; simp)
    have hlen : J.length = pr.length + (post.length + 1) := by rw [hs]; simp
    have hf := flat_len (J := pr) hi fun x hx => hJ x (by rw [hs]; exact List.mem_append_left _ hx)
    refine ⟨_, true, _, p_nm rfl, rfl, (fun hb => by cases hb), fun _ => ⟨_, _, ck6 hi hj8 ?_, rfl, ?_, rfl⟩⟩
    · rw [List.length_append, List.length_map]
      omega
    · rw [List.flatMap_append, List.map_append, List.append_assoc]
      simp
  obtain ⟨a, ρ', e, rfl, rfl⟩ := lcFor_nx (vs := [4, 5]) (t := .nm 4) (c := yesF) (k := ck_led_choices_6) (f := wd) _ J [] acc [.val A, .val (.tup (J.map wd)), .none, .val (wd i), .none, .none] ⟨by simp, rfl⟩ step
  exact e
theorem ck9 {I J : List Nat} (hI : ∀ i, i ∈ I → i < 8) (hJ : ∀ j, j ∈ J → j < 8) (hl : I.length ≤ 8) (hl2 : J.length ≤ 8) :
    lcNE cl_led_choices_9 ck_led_choices_8 [.val (.tup (I.map wd)), .val (.tup (J.map wd)), .none, .none, .none, .none] = some (.new (.lst ((I.flatMap fun i => J.flatMap (WW i)).map wd)), [.val (.tup (I.map wd)), .val (.tup (J.map wd)), .none, .none, .none, .none]) := by
  have len1 : ∀ pr : List Nat, (∀ x, x ∈ pr → x < 8) → (pr.flatMap fun i => J.flatMap (WW i)).length ≤ 64 * pr.length := fun pr hp => by
    induction pr with
    | nil => simp
    | cons i pr ih =>
      rw [List.flatMap_cons, List.length_append, List.length_cons]
      have h1 := flat_len (hp i List.mem_cons_self) hJ
      have h2 := ih fun x hx => hp x (List.mem_cons_of_mem _ hx)
      omega
  have step : ∀ (pr : List Nat) (i : Nat) (post : List Nat) (a : List D) (ρ : EnvD), [] ++ I = pr ++ i :: post → (a = (pr.flatMap fun i => J.flatMap (WW i)).map wd ∧ ρ = [.val (.tup (I.map wd)), .val (.tup (J.map wd)), .none, .none, .none, .none]) →
      ∃ ρ1 b ρ2, putT (.nm 3) (wd i) ρ = some ρ1 ∧ yesF ρ1 = some (b, ρ2) ∧ (b = false → noCell ρ2 [3, 4, 5] = true ∧ (a = ((pr ++ [i]).flatMap fun i => J.flatMap (WW i)).map wd ∧ clr ρ2 [3, 4, 5] = [.val (.tup (I.map wd)), .val (.tup (J.map wd)), .none, .none, .none, .none])) ∧
        (b = true → ∃ a2 ρ3, ck_led_choices_8 ρ2 a = some (a2, ρ3) ∧ noCell ρ3 [3, 4, 5] = true ∧ (a2 = ((pr ++ [i]).flatMap fun i => J.flatMap (WW i)).map wd ∧ clr ρ3 [3, 4, 5] = [.val (.tup (I.map wd)), .val (.tup (J.map wd)), .none, .none, .none, .none])) := by
    rintro pr i post a ρ hs ⟨rfl, rfl⟩
    rw [List.nil_append] at hs
    have hi8 := hI i (by rw [hs]; simp)
    have hlen : I.length = pr.length + (post.length + 1) := by rw [hs]; simp
    have hf := len1 pr fun x hx => hI x (by rw [hs]; exact List.mem_append_left _ hx)
    refine ⟨_, true, _, p_nm rfl, rfl, (fun hb => by cases hb), fun _ => ⟨_, _, ck8 hJ hl2 hi8 ?_, rfl, ?_, rfl⟩⟩
    · rw [List.length_map]
      omega
    · rw [List.flatMap_append, List.map_append]
      simp
  obtain ⟨a, ρ', e, rfl, rfl⟩ := lcFor_nx (vs := [3, 4, 5]) (t := .nm 3) (c := yesF) (k := ck_led_choices_8) (f := wd) _ I [] [] [.val (.tup (I.map wd)), .val (.tup (J.map wd)), .none, .none, .none, .none] ⟨rfl, rfl⟩ step
  rw [List.nil_append] at e
  show (if noCell [.val (.tup (I.map wd)), .val (.tup (J.map wd)), .none, .none, .none, .none] [3, 4, 5] then (match lcForN [3, 4, 5] (.nm 3) yesF ck_led_choices_8 (I.map wd) [] [.val (.tup (I.map wd)), .val (.tup (J.map wd)), .none, .none, .none, .none] with
    | some (acc, ρ2) => some (Re.new (.lst acc), back [.val (.tup (I.map wd)), .val (.tup (J.map wd)), .none, .none, .none, .none] (clr ρ2 [3, 4, 5]) [3, 4, 5])
    | none => none) else none) = _
  rw [e]
  rfl
theorem ws_inj : ∀ i, i < 8 → ∀ j, j < 8 → (ws i == ws j) = (i == j) := by
  have h : ((List.range 8).all fun i => (List.range 8).all fun j => (ws i == ws j) == (i == j)) = true := by decide +kernel
  intro i hi j hj
  exact eq_of_beq (List.all_eq_true.mp (List.all_eq_true.mp h i (List.mem_range.mpr hi)) j (List.mem_range.mpr hj))
theorem flats_wd : ∀ L : List Nat, toFlats (L.map wd) = some (L.map fun l => V.str (ws l))
  | [] => rfl
  | l :: L => by
    rw [List.map_cons, toFlats, flats_wd L]
    rfl
theorem in_wd {L : List Nat} (hL : ∀ l, l ∈ L → l < 8) {k : Nat} (hk : k < 8) : bIn false (wd k) (.lst (L.map wd)) = some (L.contains k) := by
  have e : bInF false (wd k) (.lst (L.map wd)) = some (inV (.str (ws k)) (L.map fun l => V.str (ws l))) := by
    unfold bInF
    rw [show toFlat (wd k) = some (.str (ws k)) from rfl, show itemsOf (.lst (L.map wd)) = some (L.map wd) from rfl]
    simp only [flats_wd]
    rfl
  have e2 : inV (.str (ws k)) (L.map fun l => V.str (ws l)) = L.contains k := by
    unfold inV
    rw [List.any_map, Bool.eq_iff_iff, List.any_eq_true, List.contains_iff_mem]
    constructor
    · rintro ⟨l, hl, h⟩
      have h : (ws l == ws k) = true := h
      rw [ws_inj l (hL l hl) k hk] at h
      rw [← eq_of_beq h]
      exact hl
    · intro h
      refine ⟨k, h, ?_⟩
      show (ws k == ws k) = true
      exact beq_self_eq_true _
  show (bInF false (wd k) (.lst (L.map wd))).or _ = _
  rw [e, e2]
  rfl
theorem lch_eq {I J : List Nat} (hI : ∀ i, i ∈ I → i < 8) (hJ : ∀ j, j ∈ J → j < 8) (hl : I.length ≤ 8) (hl2 : J.length ≤ 8) :
    fn_led_choices [.tup (I.map wd), .tup (J.map wd)] = some (.val (.tup ((UU I J).map wd)), [.tup (I.map wd), .tup (J.map wd)]) := by
  generalize hL : (I.flatMap fun i => J.flatMap (WW i)) = L
  have L8 : ∀ l, l ∈ L → l < 8 := fun l h => by
    rw [← hL] at h
    obtain ⟨i, _, h2⟩ := List.mem_flatMap.mp h
    obtain ⟨j, _, h3⟩ := List.mem_flatMap.mp h2
    exact WW_lt h3
  have q1 : setF 2 (lcNE cl_led_choices_9 ck_led_choices_8) [.val (.tup (I.map wd)), .val (.tup (J.map wd)), .none, .none, .none, .none] = some (.nx [.val (.tup (I.map wd)), .val (.tup (J.map wd)), .own (.lst (L.map wd)), .none, .none, .none]) := by
    unfold setF
    rw [ck9 hI hJ hl hl2, hL]
    rfl
  have step2 : ∀ (pr : List Nat) (k : Nat) (post : List Nat) (acc : List D) (ρ : EnvD), [] ++ List.range 8 = pr ++ k :: post → (acc = (pr.filter fun k => L.contains k).map wd ∧ ρ = [.val (.tup (I.map wd)), .val (.tup (J.map wd)), .own (.lst (L.map wd)), .none, .none, .none]) →
      ∃ ρ1 b ρ2, putT (.nm 5) (wd k) ρ = some ρ1 ∧ cc_led_choices_1 ρ1 = some (b, ρ2) ∧ (b = false → noCell ρ2 [5] = true ∧ (acc = ((pr ++ [k]).filter fun k => L.contains k).map wd ∧ clr ρ2 [5] = [.val (.tup (I.map wd)), .val (.tup (J.map wd)), .own (.lst (L.map wd)), .none, .none, .none])) ∧
        (b = true → ∃ y ρ3, ce_led_choices_2 ρ2 = some (y, ρ3) ∧ noCell ρ3 [5] = true ∧ acc.length < sizeLine ∧ (acc ++ [y] = ((pr ++ [k]).filter fun k => L.contains k).map wd ∧ clr ρ3 [5] = [.val (.tup (I.map wd)), .val (.tup (J.map wd)), .own (.lst (L.map wd)), .none, .none, .none])) := by
    rintro pr k post acc ρ hs ⟨rfl, rfl⟩
    rw [List.nil_append] at hs
    have hk : k < 8 := List.mem_range.mp (by rw [hs]; simp)
    have hlen : 8 = pr.length + (post.length + 1) := by
      have := congrArg List.length hs
      simpa using this
    have ht : cc_led_choices_1 [.val (.tup (I.map wd)), .val (.tup (J.map wd)), .own (.lst (L.map wd)), .none, .none, .val (wd k)] = some (L.contains k, [.val (.tup (I.map wd)), .val (.tup (J.map wd)), .own (.lst (L.map wd)), .none, .none, .val (wd k)]) := by
      unfold cc_led_choices_1
      simp only [cmpT, look2, orefF, List.getElem?_cons_succ, List.getElem?_cons_zero, lookA, lookOf, in_wd L8 hk, Option.map]
    refine ⟨_, _, _, p_nm rfl, ht, fun hb => ⟨rfl, ?_, rfl⟩, fun hb => ⟨wd k, _, rfl, rfl, ?_, ?_, rfl⟩⟩
    · rw [filt_f hb]
    · rw [List.length_map]
      have := List.length_filter_le (fun k => L.contains k) pr
      rw [sizeLine_eq]
      omega
    · rw [filt_t hb, List.map_append]
      rfl
  obtain ⟨acc, ρ', e2, rfl, rfl⟩ := lcLoop_nx (vs := [5]) (t := .nm 5) (c := cc_led_choices_1) (e := ce_led_choices_2) (f := wd) _ (List.range 8) [] [] [.val (.tup (I.map wd)), .val (.tup (J.map wd)), .own (.lst (L.map wd)), .none, .none, .none] ⟨rfl, rfl⟩ step2
  rw [List.nil_append] at e2
  have eU : ((List.range 8).filter fun k => L.contains k) = UU I J := by
    unfold UU
    refine List.filter_congr fun k hk => ?_
    rw [Bool.eq_iff_iff, UU_mem, List.contains_iff_mem, ← hL, List.mem_flatMap]
    constructor
    · rintro ⟨i, h1, h2⟩
      obtain ⟨j, h3, h4⟩ := List.mem_flatMap.mp h2
      exact ⟨i, h1, j, h3, h4⟩
    · rintro ⟨i, h1, j, h3, h4⟩
      exact ⟨i, h1, List.mem_flatMap.mpr ⟨j, h3, h4⟩⟩
  rw [eU] at e2
  have ew : itemsOf ways = some ((List.range 8).map wd) := by kernel_rfl
  have q3 : lcE [5] (.nm 5) (frzF (conE ways)) cc_led_choices_1 ce_led_choices_2 [.val (.tup (I.map wd)), .val (.tup (J.map wd)), .own (.lst (L.map wd)), .none, .none, .none] = some (.new (.lst ((UU I J).map wd)), [.val (.tup (I.map wd)), .val (.tup (J.map wd)), .own (.lst (L.map wd)), .none, .none, .none]) := by
    unfold lcE
    simp only [frzF, conE, Option.map, Re.d, ew]
    unfold lcRun
    rw [show noCell [.val (.tup (I.map wd)), .val (.tup (J.map wd)), .own (.lst (L.map wd)), .none, .none, .none] [5] = true from rfl, if_pos rfl]
    rw [show clr [.val (.tup (I.map wd)), .val (.tup (J.map wd)), .own (.lst (L.map wd)), .none, .none, .none] [5] = [.val (.tup (I.map wd)), .val (.tup (J.map wd)), .own (.lst (L.map wd)), .none, .none, .none] from rfl, e2]
    rfl
  show bodyF [false, false] 4 fb_led_choices _ = _
  unfold bodyF
  rw [show fb_led_choices (inE [false, false] [D.tup (I.map wd), D.tup (J.map wd)] ++ List.replicate 4 Sl.none) = some (.rt (.val (.tup ((UU I J).map wd))) [.val (.tup (I.map wd)), .val (.tup (J.map wd)), .own (.lst (L.map wd)), .none, .none, .none]) from ?_]
  · rfl
  unfold fb_led_choices
  refine (seq_nx q1).trans ?_
  simp [retF, opLE, aoF, anilF, ovF, frzF, q3, Re.d, lookAs, lookA, gTuple, itemsOf]
end G04
/-! P04h -/
namespace G04
open PySem PySem.Spec PyProof.Rows L2 Ev
theorem next_ex (ns : List Int) {b c e m : Int} (hb : 0 ≤ b) (hm : 0 < m) (hm2 : m < 1073741824) : ∃ r b' c' e', 0 ≤ r ∧ r < m ∧ 0 ≤ b' ∧ fn__law_next [dice ns b c e, .int m] = some (.val (.int r), [dice ns b' c' e', .int m]) := by
  have key : ∃ r b' c' e', 0 ≤ r ∧ r < m ∧ 0 ≤ b' ∧ nextV ns b c e m = some (r, b', c', e') := by
    unfold nextV
    by_cases h1 : 0 < e
    · rw [if_pos h1]
      exact ⟨_, _, _, _, Int.fmod_nonneg_of_pos _ hm, Int.fmod_lt_of_pos _ hm, hb, rfl⟩
    · rw [if_neg h1]
      by_cases h2 : b + 1 ≤ ns.length
      · rw [if_pos h2]
        have hx : ∃ x, atI ns b = some x := by
          unfold atI ixN
          rw [if_pos hb, if_pos (by omega)]
          exact ⟨ns[b.toNat]'(by omega), by simp⟩
        obtain ⟨x, hx⟩ := hx
        rw [hx]
        exact ⟨_, _, _, _, Int.fmod_nonneg_of_pos _ hm, Int.fmod_lt_of_pos _ hm, by omega, rfl⟩
      · rw [if_neg h2]
        exact ⟨_, _, _, _, Int.fmod_nonneg_of_pos _ hm, Int.fmod_lt_of_pos _ hm, by omega, rfl⟩
  obtain ⟨r, b', c', e', h0, h1, h2, h3⟩ := key
  exact ⟨r, b', c', e', h0, h1, h2, next_eq hm hm2 hb h3⟩
/-- a draw within bits -/
theorem draw {d d' : D} {m r : Int} {s1 s2 : Sl} (h : fn__law_next [d, .int m] = some (.val (.int r), [d', .int m])) :
    callE [true, false] [] fn__law_next (arF 0 (avF (frzF (conE (.int m))) anilF)) [.ref d, s1, s2] = some (.val (.int r), [.ref d', s1, s2]) := by
  simp [callE, arF, avF, anilF, frzF, conE, AD.isR, refsOf, noDup, argD, Re.d, h, putBack, refAt, newSl, Ev.cellOf]
theorem eqI (r j : Int) : bEq false (.int r) (.int j) = some (decide (r = j)) := by
  show (bEqF false (.int r) (.int j)).or _ = _
  have e : bEqF false (.int r) (.int j) = some (decide (r = j)) := by
    unfold bEqF
    simp [toFlat, scal]
  rw [e]
  rfl
theorem all8 : ∀ i, i ∈ List.range 8 → i < 8 := fun _ h => List.mem_range.mp h
theorem bits_ex (ns : List Int) {b c e : Int} (hb : 0 ≤ b) : ∃ (I : List Nat) (b' c' e' : Int), (∀ i, i ∈ I → i < 8) ∧ I.length ≤ 8 ∧ 0 ≤ b' ∧ fn__law_bits [dice ns b c e] = some (.val (.tup (I.map wd)), [dice ns b' c' e']) := by
  obtain ⟨r, b1, c1, e1, r0, r1, hb1, n1⟩ := next_ex ns (c := c) (e := e) hb (m := 4) (by decide) (by decide)
  have d1 := draw (s1 := .none) (s2 := .none) n1
  have key : ∃ (I : List Nat) (b' c' e' : Int), (∀ i, i ∈ I → i < 8) ∧ I.length ≤ 8 ∧ 0 ≤ b' ∧ fb__law_bits [.ref (dice ns b c e), .none, .none] = some (.rt (.val (.tup (I.map wd))) [.ref (dice ns b' c' e'), .val (.int r), .none]) := by
    have s1 : setF 1 (callE [true, false] [] fn__law_next (arF 0 (avF (frzF (conE (.int 4))) anilF))) [.ref (dice ns b c e), .none, .none] = some (.nx [.ref (dice ns b1 c1 e1), .val (.int r), .none]) := by
      unfold setF
      rw [d1]
      rfl
    have t0 : ∀ j : Int, cmpT (bEq false) (orefF 1) (ovF (frzF (conE (.int j)))) [.ref (dice ns b1 c1 e1), .val (.int r), .none] = some (decide (r = j), [.ref (dice ns b1 c1 e1), .val (.int r), .none]) := fun j => by
      simp only [cmpT, look2, orefF, ovF, frzF, conE, Option.map, List.getElem?_cons_succ, List.getElem?_cons_zero, lookA, lookOf, Re.d, eqI]
    have wy : callE [] [] fn__law_ways anilF [.ref (dice ns b1 c1 e1), .val (.int r), .none] = some (.new (.lst ((List.range 8).map wd)), [.ref (dice ns b1 c1 e1), .val (.int r), .none]) := by
      simp [callE, anilF, argD, refsOf, noDup, ways_eq, putBack, refAt, newSl]
    by_cases h0 : r = 0
    · obtain ⟨k, b2, c2, e2, k0, k1, hb2, n2⟩ := next_ex ns (c := c1) (e := e1) hb1 (m := 8) (by decide) (by decide)
      have d2 := draw (s1 := .val (.int r)) (s2 := .none) n2
      refine ⟨[k.toNat], b2, c2, e2, fun i hi => ?_, by simp, hb2, ?_⟩
      · rw [List.mem_singleton] at hi
        omega
      · unfold fb__law_bits
        refine (seq_nx s1).trans ?_
        have tt := t0 0
        rw [decide_eq_true h0] at tt
        have a1 : atI ((List.range 8).map wd) k = some (wd k.toNat) := by
          have := at_ways (k := k.toNat) (by omega)
          rw [show (0 + ((k.toNat : Nat) : Int)) = k by omega] at this
          exact this
        have a2 : gSub2 (.lst ((List.range 8).map wd)) (.int k) = some (wd k.toNat) := by
          show (gIx (.lst ((List.range 8).map wd)) (.int k)).or _ = _
          rw [show gIx (.lst ((List.range 8).map wd)) (.int k) = atI ((List.range 8).map wd) k from rfl, a1]
          rfl
        have l1 : isLine 1 = true := by decide
        unfold seqF ifF
        rw [tt]
        simp only [retF, tupE, consF, nilF, frzF, ixE, ovF, wy, d2, Option.map, Re.d, lookA, a2]
        simp [l1]
    · have tt := t0 0
      rw [decide_eq_false h0] at tt
      have pass1 : ifF (cmpT (bEq false) (orefF 1) (ovF (frzF (conE (.int 0))))) (retF (tupE (consF (frzF (ixE gSub2 (ovF (frzF (callE [] [] fn__law_ways anilF))) (frzF (callE [true, false] [] fn__law_next (arF 0 (avF (frzF (conE (.int 8))) anilF)))))) nilF))) nextF [.ref (dice ns b1 c1 e1), .val (.int r), .none] = some (.nx [.ref (dice ns b1 c1 e1), .val (.int r), .none]) := by
        unfold ifF
        rw [tt]
        rfl
      by_cases h1 : r = 1
      · obtain ⟨k, b2, c2, e2, k0, k1, hb2, n2⟩ := next_ex ns (c := c1) (e := e1) hb1 (m := 2) (by decide) (by decide)
        have d2 := draw (s1 := .val (.int r)) (s2 := .none) n2
        have t1 := t0 1
        rw [decide_eq_true h1] at t1
        have l0 : isLine 0 = true := by decide
        have l2 : isLine 2 = true := by decide
        refine ⟨if k = 0 then [] else List.range 8, b2, c2, e2, fun i hi => ?_, ?_, hb2, ?_⟩
        · split at hi
          · cases hi
          · exact all8 i hi
        · split <;> decide
        · unfold fb__law_bits
          refine (seq_nx s1).trans ?_
          refine (seq_nx pass1).trans ?_
          have a2 : gSub2 (.lst [.tup [], .tup ((List.range 8).map wd)]) (.int k) = some (.tup ((if k = 0 then [] else List.range 8).map wd)) := by
            have hk : k = 0 ∨ k = 1 := by omega
            rcases hk with rfl | rfl <;> rfl
          unfold seqF ifF
          rw [t1]
          have q4 : lstE (consF (frzF (tupE nilF)) (consF (frzF (opLE gTuple (aoF (ovF (frzF (callE [] [] fn__law_ways anilF))) anilF))) nilF)) [.ref (dice ns b1 c1 e1), .val (.int r), .none] = some (.new (.lst [.tup [], .tup ((List.range 8).map wd)]), [.ref (dice ns b1 c1 e1), .val (.int r), .none]) := by
            unfold lstE consF frzF
            rw [show tupE nilF [.ref (dice ns b1 c1 e1), .val (.int r), .none] = some (.val (.tup []), [.ref (dice ns b1 c1 e1), .val (.int r), .none]) by unfold tupE nilF; simp only [List.length_nil, l0, if_true]]
            simp only [Option.map, consF, opLE, aoF, ovF, wy, Re.d, anilF, lookAs, lookA, gTuple, itemsOf, nilF, List.length_cons, List.length_nil, Nat.zero_add, Nat.reduceAdd, l2, if_true]
          have q5 : ixE gSub2 (ovF (frzF (lstE (consF (frzF (tupE nilF)) (consF (frzF (opLE gTuple (aoF (ovF (frzF (callE [] [] fn__law_ways anilF))) anilF))) nilF))))) (frzF (callE [true, false] [] fn__law_next (arF 0 (avF (frzF (conE (.int 2))) anilF)))) [.ref (dice ns b1 c1 e1), .val (.int r), .none] = some (.val (.tup ((if k = 0 then [] else List.range 8).map wd)), [.ref (dice ns b2 c2 e2), .val (.int r), .none]) := by
            unfold ixE
            rw [show ovF (frzF (lstE (consF (frzF (tupE nilF)) (consF (frzF (opLE gTuple (aoF (ovF (frzF (callE [] [] fn__law_ways anilF))) anilF))) nilF)))) [.ref (dice ns b1 c1 e1), .val (.int r), .none] = some (.v (.lst [.tup [], .tup ((List.range 8).map wd)]), [.ref (dice ns b1 c1 e1), .val (.int r), .none]) from ov_at (frz_at q4)]
            simp only [frzF, d2, Option.map, Re.d, lookA, a2]
          simp only [retF, q5, Option.map]
      · have t1 := t0 1
        rw [decide_eq_false h1] at t1
        have step : ∀ (pr : List Nat) (k : Nat) (post : List Nat) (acc : List D) (ρ : EnvD), [] ++ List.range 8 = pr ++ k :: post → (∃ (I : List Nat) (b' c' e' : Int), acc = I.map wd ∧ (∀ i, i ∈ I → i < 8) ∧ I.length ≤ pr.length ∧ 0 ≤ b' ∧ ρ = [.ref (dice ns b' c' e'), .val (.int r), .none]) →
            ∃ ρ1 b ρ2, putT (.nm 2) (wd k) ρ = some ρ1 ∧ cc__law_bits_1 ρ1 = some (b, ρ2) ∧ (b = false → noCell ρ2 [2] = true ∧ (∃ (I : List Nat) (b' c' e' : Int), acc = I.map wd ∧ (∀ i, i ∈ I → i < 8) ∧ I.length ≤ (pr ++ [k]).length ∧ 0 ≤ b' ∧ clr ρ2 [2] = [.ref (dice ns b' c' e'), .val (.int r), .none])) ∧
              (b = true → ∃ y ρ3, ce__law_bits_2 ρ2 = some (y, ρ3) ∧ noCell ρ3 [2] = true ∧ acc.length < sizeLine ∧ (∃ (I : List Nat) (b' c' e' : Int), acc ++ [y] = I.map wd ∧ (∀ i, i ∈ I → i < 8) ∧ I.length ≤ (pr ++ [k]).length ∧ 0 ≤ b' ∧ clr ρ3 [2] = [.ref (dice ns b' c' e'), .val (.int r), .none])) := by
          rintro pr k post acc ρ hs ⟨I, b', c', e', rfl, hI, hl, hb', rfl⟩
          rw [List.nil_append] at hs
          have hk : k < 8 := List.mem_range.mp (by rw [hs]; simp)
          have hlen : 8 = pr.length + (post.length + 1) := by
            have := congrArg List.length hs
            simpa using this
          obtain ⟨z, b2, c2, e2, k0, k1, hb2, n2⟩ := next_ex ns (c := c') (e := e') hb' (m := 2) (by decide) (by decide)
          have d2 := draw (s1 := .val (.int r)) (s2 := .val (wd k)) n2
          have ht : cc__law_bits_1 [.ref (dice ns b' c' e'), .val (.int r), .val (wd k)] = some (decide (z = 1), [.ref (dice ns b2 c2 e2), .val (.int r), .val (wd k)]) := by
            unfold cc__law_bits_1
            simp only [cmpT, look2, ovF, frzF, d2, conE, Option.map, Re.d, lookA, eqI]
          refine ⟨_, _, _, p_nm rfl, ht, fun _ => ⟨rfl, I, b2, c2, e2, rfl, hI, by rw [List.length_append]; omega, hb2, rfl⟩, fun _ => ⟨wd k, _, rfl, rfl, ?_, I ++ [k], b2, c2, e2, by rw [List.map_append]; rfl, fun i hi => ?_, ?_, hb2, rfl⟩⟩
          · rw [List.length_map, sizeLine_eq]
            omega
          · rcases List.mem_append.mp hi with hi | hi
            · exact hI i hi
            · rw [List.mem_singleton] at hi
              omega
          · rw [List.length_append, List.length_append, List.length_singleton]
            omega
        obtain ⟨acc, ρ', e2, I, b2, c2, e2', rfl, hI, hl, hb2, rfl⟩ := lcLoop_nx (vs := [2]) (t := .nm 2) (c := cc__law_bits_1) (e := ce__law_bits_2) (f := wd) _ (List.range 8) [] [] [.ref (dice ns b1 c1 e1), .val (.int r), .none] ⟨[], b1, c1, e1, rfl, by simp, by simp, hb1, rfl⟩ step
        rw [List.nil_append, List.length_range] at hl
        have q3 : lcE [2] (.nm 2) (frzF (callE [] [] fn__law_ways anilF)) cc__law_bits_1 ce__law_bits_2 [.ref (dice ns b1 c1 e1), .val (.int r), .none] = some (.new (.lst (I.map wd)), [.ref (dice ns b2 c2 e2'), .val (.int r), .none]) := by
          unfold lcE
          simp only [frzF, wy, Option.map, Re.d, itemsOf]
          unfold lcRun
          rw [show noCell [.ref (dice ns b1 c1 e1), .val (.int r), .none] [2] = true from rfl, if_pos rfl]
          rw [show clr [.ref (dice ns b1 c1 e1), .val (.int r), .none] [2] = [.ref (dice ns b1 c1 e1), .val (.int r), .none] from rfl, e2]
          rfl
        refine ⟨I, b2, c2, e2', hI, hl, hb2, ?_⟩
        unfold fb__law_bits
        refine (seq_nx s1).trans ?_
        refine (seq_nx pass1).trans ?_
        unfold seqF ifF
        rw [t1]
        simp [nextF, retF, opLE, aoF, anilF, ovF, frzF, q3, Re.d, lookAs, lookA, gTuple, itemsOf]
  obtain ⟨I, b', c', e', h1, h2, h3, h4⟩ := key
  refine ⟨I, b', c', e', h1, h2, h3, ?_⟩
  show bodyF [true] 2 fb__law_bits _ = _
  unfold bodyF
  rw [show inE [true] [dice ns b c e] ++ List.replicate 2 Sl.none = [.ref (dice ns b c e), .none, .none] from rfl, h4]
  rfl
end G04
/-! P04i -/
namespace G04
open PySem PySem.Spec PyProof.Rows L2 Ev
theorem part1 (S X : D) : forF (.nm 2) (frzF (callE [] [] fn__law_ways anilF)) lb_law_3 [.val S, .own X, .none, .none, .none, .none, .none] = some (.nx [.val S, .own X, .val (wd 7), .val (wd 7), .none, .none, .none]) := by kernel_rfl
end G04
/-! P04j -/
namespace G04
open PySem PySem.Spec PyProof.Rows L2 Ev
/-- a drawn choice within the law -/
theorem drawB {S d d' : D} {L : List D} {s2 s3 s4 s5 s6 : Sl} (h : fn__law_bits [d] = some (.val (.tup L), [d'])) :
    callE [true] [] fn__law_bits (arF 1 anilF) [.val S, .own d, s2, s3, s4, s5, s6] = some (.val (.tup L), [.val S, .own d', s2, s3, s4, s5, s6]) := by
  simp [callE, arF, anilF, AD.isR, refsOf, noDup, argD, h, putBack, refAt, newSl, Ev.cellOf]
theorem callv2 {ff : List D → Option (Re × List D)} {f g : Fv} {ρ ρ1 ρ2 : EnvD} {a b : D} {r : Re} (h1 : f ρ = some (a, ρ1)) (h2 : g ρ1 = some (b, ρ2)) (h : ff [a, b] = some (r, [a, b])) : callE [false, false] [] ff (avF f (avF g anilF)) ρ = some (r, putBack [.v a, .v b] [a, b] ρ2) := by
  simp [callE, avF, anilF, h1, h2, AD.isR, refsOf, noDup, argD, h]
theorem put_v {a b : D} {ρ : EnvD} : putBack [.v a, .v b] [a, b] ρ = ρ := by
  unfold putBack
  apply List.ext_getElem?
  intro i
  rw [List.getElem?_mapIdx]
  cases ρ[i]? with
  | none => rfl
  | some s => rfl
theorem like_wd (I : List Nat) (hl : I.length ≤ 8) : fn__law_like 9 [.tup (I.map wd), .tup (I.map wd)] = some (.val (.bl true), [.tup (I.map wd), .tup (I.map wd)]) := by
  have e : D.tup (I.map wd) = spSs (I.map ws) := by
    unfold spSs
    rw [List.map_map]
    rfl
  rw [e]
  refine like_tup 7 (I.map ws) ?_
  rw [List.length_map]
  have h : I.length = 0 ∨ I.length = 1 ∨ I.length = 2 ∨ I.length = 3 ∨ I.length = 4 ∨ I.length = 5 ∨ I.length = 6 ∨ I.length = 7 ∨ I.length = 8 := by omega
  rcases h with h | h | h | h | h | h | h | h | h <;> rw [h] <;> decide
theorem UU_len (I J : List Nat) : (UU I J).length ≤ 8 := by
  unfold UU
  have := List.length_filter_le (fun k => I.any fun i => J.any fun j => (WW i j).contains k) (List.range 8)
  simpa using this
theorem turn1 (ns : List Int) {S : D} {b c e : Int} {s2 s3 s4 s5 s6 : Sl} (h5 : slV s5 = true) (h6 : slV s6 = true) (hb : 0 ≤ b) : ∃ b' c' e' s5' s6', 0 ≤ b' ∧ slV s5' = true ∧ slV s6' = true ∧
    lb_law_1 [.val S, .own (dice ns b c e), s2, s3, s4, s5, s6] = some (.nx [.val S, .own (dice ns b' c' e'), s2, s3, s4, s5', s6']) := by
  obtain ⟨I, b1, c1, e1, hI, lI, hb1, n1⟩ := bits_ex ns (c := c) (e := e) hb
  obtain ⟨J, b2, c2, e2, hJ, lJ, hb2, n2⟩ := bits_ex ns (c := c1) (e := e1) hb1
  refine ⟨b2, c2, e2, .val (.tup (I.map wd)), .val (.tup (J.map wd)), hb2, rfl, rfl, ?_⟩
  have q1 : setF 5 (callE [true] [] fn__law_bits (arF 1 anilF)) [.val S, .own (dice ns b c e), s2, s3, s4, s5, s6] = some (.nx [.val S, .own (dice ns b1 c1 e1), s2, s3, s4, .val (.tup (I.map wd)), s6]) := by
    unfold setF
    rw [drawB n1]
    cases s5 <;> first | rfl | cases h5
  have q2 : setF 6 (callE [true] [] fn__law_bits (arF 1 anilF)) [.val S, .own (dice ns b1 c1 e1), s2, s3, s4, .val (.tup (I.map wd)), s6] = some (.nx [.val S, .own (dice ns b2 c2 e2), s2, s3, s4, .val (.tup (I.map wd)), .val (.tup (J.map wd))]) := by
    unfold setF
    rw [drawB n2]
    cases s6 <;> first | rfl | cases h6
  generalize hρ : ([.val S, .own (dice ns b2 c2 e2), s2, s3, s4, .val (.tup (I.map wd)), .val (.tup (J.map wd))] : EnvD) = ρ at q2 ⊢
  have v5 : frzF (varE 5) ρ = some (.tup (I.map wd), ρ) := by rw [← hρ]; rfl
  have v6 : frzF (varE 6) ρ = some (.tup (J.map wd), ρ) := by rw [← hρ]; rfl
  have k1 : frzF (callE [false, false] [] fn_led_choices (avF (frzF (varE 5)) (avF (frzF (varE 6)) anilF))) ρ = some (.tup ((UU I J).map wd), ρ) := by
    have h := callv2 v5 v6 (lch_eq hI hJ lI lJ)
    rw [put_v] at h
    exact frz_at h
  have k2 : frzF (callE [false, false] [] fn__law_union (avF (frzF (varE 5)) (avF (frzF (varE 6)) anilF))) ρ = some (.tup ((UU I J).map wd), ρ) := by
    have h := callv2 v5 v6 (union_eq hI hJ lI lJ)
    rw [put_v] at h
    exact frz_at h
  have k3 := callv2 k1 k2 (like_wd (UU I J) (UU_len I J))
  rw [put_v] at k3
  have k4 := ov_at (frz_at k3)
  unfold lb_law_1
  refine (seq_nx q1).trans ?_
  refine (seq_nx q2).trans ?_
  unfold ifF notF truO
  rw [k4]
  rfl
theorem law_eq (ns : List Int) : fn_law [.rol (ns.map D.int)] = some (.val (.bl true), [.rol (ns.map D.int)]) := by
  obtain ⟨c, hd⟩ := dice_eq ns
  have q1 : setF 1 (callE [false] [] fn__law_dice (avF (frzF (varE 0)) anilF)) [.val (.rol (ns.map D.int)), .none, .none, .none, .none, .none, .none] = some (.nx [.val (.rol (ns.map D.int)), .own (dice ns 0 c 0), .none, .none, .none, .none, .none]) := by
    unfold setF
    have h : callE [false] [] fn__law_dice (avF (frzF (varE 0)) anilF) [.val (.rol (ns.map D.int)), .none, .none, .none, .none, .none, .none] = some (.new (dice ns 0 c 0), [.val (.rol (ns.map D.int)), .none, .none, .none, .none, .none, .none]) := by
      simp [callE, avF, anilF, frzF, varE, AD.isR, refsOf, noDup, argD, Re.d, hd, putBack, refAt, newSl]
    rw [h]
    rfl
  have step : ∀ (pr : List Nat) (k : Nat) (post : List Nat) (ρ : EnvD), [] ++ List.range 6 = pr ++ k :: post → (∃ b c e s4 s5 s6, 0 ≤ b ∧ slV s4 = true ∧ slV s5 = true ∧ slV s6 = true ∧ ρ = [.val (.rol (ns.map D.int)), .own (dice ns b c e), .val (wd 7), .val (wd 7), s4, s5, s6]) →
      ∃ ρ1 ρ2, putT (.nm 4) (.int (0 + ((k : Nat) : Int))) ρ = some ρ1 ∧ lb_law_1 ρ1 = some (.nx ρ2) ∧ (∃ b c e s4 s5 s6, 0 ≤ b ∧ slV s4 = true ∧ slV s5 = true ∧ slV s6 = true ∧ ρ2 = [.val (.rol (ns.map D.int)), .own (dice ns b c e), .val (wd 7), .val (wd 7), s4, s5, s6]) := by
    rintro pr k post ρ hs ⟨b, c, e, s4, s5, s6, hb, h4, h5, h6, rfl⟩
    obtain ⟨b', c', e', s5', s6', hb', h5', h6', q⟩ := turn1 ns (S := .rol (ns.map D.int)) (c := c) (e := e) (s2 := .val (wd 7)) (s3 := .val (wd 7)) (s4 := .val (.int (0 + ((k : Nat) : Int)))) h5 h6 hb
    exact ⟨_, _, p_nm (by cases s4 <;> first | rfl | cases h4), q, b', c', e', _, s5', s6', hb', rfl, h5', h6', rfl⟩
  obtain ⟨ρ', e, b, c', e', s4, s5, s6, _, _, _, _, rfl⟩ := loop_nx (t := .nm 4) (body := lb_law_1) (f := fun k : Nat => D.int (0 + ((k : Nat) : Int))) _ (List.range 6) [] [.val (.rol (ns.map D.int)), .own (dice ns 0 c 0), .val (wd 7), .val (wd 7), .none, .none, .none] ⟨0, c, 0, .none, .none, .none, by decide, rfl, rfl, rfl, rfl⟩ step
  have q3 : rngF rngD1 (.nm 4) (consF (frzF (conE (.int 6))) nilF) lb_law_1 [.val (.rol (ns.map D.int)), .own (dice ns 0 c 0), .val (wd 7), .val (wd 7), .none, .none, .none] = some (.nx [.val (.rol (ns.map D.int)), .own (dice ns b c' e'), .val (wd 7), .val (wd 7), s4, s5, s6]) := e
  show bodyF [false] 6 fb_law _ = _
  unfold bodyF
  rw [show fb_law (inE [false] [D.rol (ns.map D.int)] ++ List.replicate 6 Sl.none) = some (.rt (.val (.bl true)) [.val (.rol (ns.map D.int)), .own (dice ns b c' e'), .val (wd 7), .val (wd 7), s4, s5, s6]) from ?_]
  · rfl
  unfold fb_law
  refine (seq_nx q1).trans ?_
  refine (seq_nx (part1 _ _)).trans ?_
  refine (seq_nx q3).trans ?_
  rfl
end G04
/-! LedHook -/
namespace LedHook
open PySem PySem.Spec PyProof.Rows L2 He Ev LedRun
def strsV : List Value → Option (List Str)
  | [] => some []
  | .str x _ :: l => (strsV l).map (x :: ·)
  | _ => none
def tupS (K : PySem.W.Frag) (a : Addr) : Option (List Str) := match K.lookup a with
  | some ⟨.type c, _, .seq its _, _⟩ => (match decide (c = "tuple") && decide (its.size ≤ sizeLine) with
    | true => strsV its.toList
    | false => none)
  | _ => none
def entW (K : PySem.W.Frag) (e : DictEntry) : Option (Int × List Str × List Str) := match e.key, e.val with
  | .ref ka, .ref va => (match tupS K ka, tupS K va with
    | some ks, some vs => some (e.hash, ks, vs)
    | _, _ => none)
  | _, _ => none
def ledW (K : PySem.W.Frag) (a : Addr) : Option (List (Option (Int × List Str × List Str))) := match K.lookup a with
  | some ⟨.type c, none, .dict es _, sl⟩ => (match decide (c = "dict") && sl.isEmpty with
    | true => some (es.toList.map (entW K))
    | false => none)
  | _ => none
def ledIn (w : World) (P : Program) (tab : List P2) : List (Option (Int × List Str × List Str)) := tab.map fun p => some (hsh w P p.1, p.1, p.2)
section
variable {P : Program} {w : World} {K : PySem.W.Frag}
theorem strsV_ok (P : Program) (w : World) : ∀ {l : List Value} {ks : List Str}, strsV l = some ks → ItemsAre (PySem.strKind P w) ks l ∧ Vals (ks.map V.str) l
  | [], ks, h => by cases h; exact ⟨.nil, .nil⟩
  | v :: l, ks, h => by
    cases v <;> try cases h
    rename_i x t
    obtain ⟨zs, a, b⟩ := Option.map_eq_some_iff.mp (show (strsV l).map (x :: ·) = some ks from h)
    subst b
    obtain ⟨i, v⟩ := strsV_ok P w a
    exact ⟨.cons (strKind_is P w x t) i, .cons ⟨t, rfl⟩ v⟩
theorem tupS_ok {a : Addr} {ks : List Str} (h : tupS K a = some ks) : (∀ hp : Heap, K.In hp → (knd P w).is hp ks a) ∧ ∀ F : Hp, R K F (.ref a) (.tup (ks.map D.str)) := by
  unfold tupS at h
  cases q : K.lookup a with
  | none => rw [q] at h; cases h
  | some o =>
    obtain ⟨oc, od, dt, osl⟩ := o
    rw [q] at h
    cases oc with
    | type c =>
      cases dt with
      | seq its n =>
        have h' : (match decide (c = "tuple") && decide (its.size ≤ sizeLine) with
          | true => strsV its.toList
          | false => none) = some ks := h
        clear h; have h := h'
        cases z : decide (c = "tuple") && decide (its.size ≤ sizeLine) with
        | false => rw [z] at h; cases h
        | true =>
          rw [z] at h
          obtain ⟨z1, z2⟩ := ba z
          have e1 : c = "tuple" := of_decide_eq_true z1
          subst e1
          have h : strsV its.toList = some ks := h
          obtain ⟨i, v⟩ := strsV_ok P w h
          exact ⟨fun hp X => ⟨_, its, n, X _ _ q, rfl, rfl, i⟩, fun F => .tup (.inr ⟨_, its, n, q, rfl, rfl, of_decide_eq_true z2, v⟩) Rs.strs⟩
      | _ => cases h
    | _ => cases dt <;> cases h
theorem entW_ok {e : DictEntry} {i : Int} {ks vs : List Str} (h : entW K e = some (i, ks, vs)) : ∃ ka va, e = ⟨i, .ref ka, .ref va⟩ ∧ tupS K ka = some ks ∧ tupS K va = some vs := by
  obtain ⟨eh, ek, ev⟩ := e
  unfold entW at h
  cases ek <;> try cases h
  cases ev <;> try cases h
  rename_i ka va
  have h : (match tupS K ka, tupS K va with
    | some ks, some vs => some (eh, ks, vs)
    | _, _ => none) = some (i, ks, vs) := h
  cases q1 : tupS K ka with
  | none => rw [q1] at h; cases h
  | some ks1 =>
    cases q2 : tupS K va with
    | none => rw [q1, q2] at h; cases h
    | some vs1 =>
      rw [q1, q2] at h
      cases h
      exact ⟨ka, va, rfl, q1, q2⟩
def dTab (tab : List P2) : List (List Str × D) := tab.map fun p => (p.1, D.tup (p.2.map D.str))
theorem ents_of : ∀ (l : List DictEntry) (tab : List P2), l.map (entW K) = ledIn w P tab → ∃ xs : List (List Str × Addr × Value), l = xs.map (entryOfKey (knd P w)) ∧ xs.map (·.1) = tab.map (·.1) ∧ (∀ x ∈ xs, ∀ h : Heap, K.In h → (knd P w).is h x.1 x.2.1) ∧
    ∀ z d, (dTab tab).lookup z = some d → ∃ va, (atKey xs z).map (·.2) = some va ∧ ∃ v, RelV v va ∧ ∀ F : Hp, R K F v d
  | [], [], _ => ⟨[], rfl, rfl, fun x hx => absurd hx (by simp), fun z d e => by cases e⟩
  | [], _ :: _, h => by cases h
  | _ :: _, [], h => by cases h
  | e :: l, p :: tab, h => by
    have h : entW K e :: l.map (entW K) = some (hsh w P p.1, p.1, p.2) :: ledIn w P tab := h
    injection h with h1 h2
    obtain ⟨ka, va, rfl, k1, k2⟩ := entW_ok h1
    obtain ⟨xs, a1, a2, a3, a4⟩ := ents_of l tab h2
    refine ⟨(p.1, ka, .ref va) :: xs, by rw [a1]; rfl, by rw [List.map_cons, List.map_cons, a2], fun x hx => ?_, fun z d e => ?_⟩
    · rcases List.mem_cons.mp hx with hx | hx
      · subst hx
        exact (tupS_ok k1).1
      · exact a3 x hx
    · have e : List.lookup z ((p.1, D.tup (p.2.map D.str)) :: dTab tab) = some d := e
      rw [List.lookup_cons] at e
      unfold atKey
      rw [List.find?_cons]
      by_cases hz : p.1 = z
      · subst hz
        rw [beq_self_eq_true] at e
        have e : D.tup (p.2.map D.str) = d := Option.some.inj e
        subst e
        rw [show (decide ((p.1, ka, Value.ref va).1 = p.1)) = true from decide_eq_true rfl]
        exact ⟨.ref va, rfl, .ref va, rfl, (tupS_ok (P := P) (w := w) k2).2⟩
      · have hb : (z == p.1) = false := beq_eq_false_iff_ne.mpr fun y => hz y.symm
        rw [hb] at e
        rw [show (decide ((p.1, ka, Value.ref va).1 = z)) = false from decide_eq_false hz]
        exact a4 z d e
theorem ledW_ok {a : Addr} {tab : List P2} (hn : (tab.map (·.1)).Nodup) (h : ledW K a = some (ledIn w P tab)) : KLed P w K a (dTab tab) := by
  unfold ledW at h
  cases q : K.lookup a with
  | none => rw [q] at h; cases h
  | some o =>
    obtain ⟨oc, od, dt, osl⟩ := o
    rw [q] at h
    cases oc with
    | type c =>
      cases od with
      | none =>
        cases dt with
        | dict es n =>
          have h : (match decide (c = "dict") && osl.isEmpty with
            | true => some (es.toList.map (entW K))
            | false => none) = some (ledIn w P tab) := h
          cases z : decide (c = "dict") && osl.isEmpty with
          | false => rw [z] at h; cases h
          | true =>
            rw [z] at h
            obtain ⟨z1, z2⟩ := ba z
            have e1 : c = "dict" := of_decide_eq_true z1
            have e2 : osl = #[] := Array.isEmpty_iff.mp z2
            subst e1 e2
            obtain ⟨xs, a1, a2, a3, a4⟩ := ents_of _ _ (Option.some.inj h)
            exact ⟨xs, es, n, q, fun hp X => ⟨_, es, n, X _ _ q, ⟨rfl, rfl, rfl⟩, rfl, a1, fun x hx => a3 x hx hp X, by rw [a2]; exact hn⟩, a4⟩
        | _ => cases h
      | some b => cases dt <;> cases h
    | _ => cases od <;> cases dt <;> cases h
/-- a table by texts -/
theorem ktab_of {a : Addr} {es : Array DictEntry} {n : Nat} {kvs : List (Str × Str)} (k : KDict K w a es n) (h : valsB K a (kvs.map fun p => (p.1, Dv.str p.2)) = true) : KTab K w a (kvs.map fun p => (p.1, D.str p.2)) := by
  intro z d e
  have hm : ∀ {l : List (Str × Str)}, (l.map fun p => (p.1, D.str p.2)).lookup z = some d → ∃ y, (z, y) ∈ l ∧ d = .str y := by
    intro l
    induction l with
    | nil => intro e; cases e
    | cons p l ih =>
      intro e
      rw [List.map_cons, List.lookup_cons] at e
      by_cases hz : z = p.1
      · subst hz
        rw [beq_self_eq_true] at e
        cases e
        exact ⟨p.2, List.mem_cons_self, rfl⟩
      · rw [beq_eq_false_iff_ne.mpr hz] at e
        obtain ⟨y, a, b⟩ := ih e
        exact ⟨y, List.mem_cons_of_mem _ a, b⟩
  obtain ⟨y, hy, rfl⟩ := hm e
  obtain ⟨u, a1, a2⟩ := valsB_ok h (List.mem_map.mpr ⟨(z, y), hy, rfl⟩)
  exact ⟨.str y, ⟨es, n, u, k.at_, k.lit, a1, a2⟩, fun F => .str y⟩
theorem tup_of {h : Heap} {mg : Str → Option Value} (X : K.In h) (G : h.Ns mainGlobals mg) {x : Str} {l : List Str} (g : (Fa.glo x).ok K = true) (t : tupB K x (l.map Dv.str) = true) : ∃ (v : V) (u : Value), mg x = some u ∧ RelV v u ∧ ∀ F : Hp, R K F v (.tup (l.map D.str)) := by
  refine ⟨.ref (ga K x), .ref (ga K x), glo_ok X G g, rfl, fun F => .tup (tupB_ok t F) ?_⟩
  rw [List.map_map]
  exact Rs.strs
end
abbrev AlL : Type := AlT × Bool × Option (List (Option (Int × List Str × List Str)))
def obsL (fa : List He.Fa) (fn : List DefD) (ts : List Tab) (bb : PySem.W.Frag → Bool) (x : Str) (K : PySem.W.Frag) : AlL := (obsT fa fn ts K, bb K, ledW K (ga K x))
def valL (P : Program) (fn : List DefD) (ts : List Tab) (tab : List P2) (w : World) : AlL := (valT fn ts w, true, some (ledIn w P tab))
def SaysL (P : Program) (fa : List He.Fa) (fn : List DefD) (ts : List Tab) (bb : PySem.W.Frag → Bool) (x : Str) (tab : List P2) (w : World) (K : PySem.W.Frag) : Prop := obsL fa fn ts bb x K = valL P fn ts tab w
def asL (n : Nat) (x : Str) (g : Addr → Option Obj) : List Addr := asD g n ++ match g (ga (frG g [mainGlobals]) x) with
  | some o => (match o.data with
    | .dict es _ => es.toList.flatMap fun e => refV e.key
    | _ => [])
  | none => []
def obsLG (n : Nat) (fa : List He.Fa) (fn : List DefD) (ts : List Tab) (bb : PySem.W.Frag → Bool) (x : Str) (g : Addr → Option Obj) : AlL := obsL fa fn ts bb x (frG g (asL n x g))
def YL (P : Program) (fa : List He.Fa) (fn : List DefD) (ts : List Tab) (bb : PySem.W.Frag → Bool) (x : Str) (tab : List P2) (w : World) (h : Heap) : Prop := ∃ K : PySem.W.Frag, K.In h ∧ SaysL P fa fn ts bb x tab w K
theorem yl_keep {P : Program} {fa : List He.Fa} {fn : List DefD} {ts : List Tab} {bb : PySem.W.Frag → Bool} {x : Str} {tab : List P2} : ∀ w h h', YL P fa fn ts bb x tab w h → (∀ b o, h.get? b = some o → h'.get? b = some o) → YL P fa fn ts bb x tab w h' := fun _ _ _ ⟨K, hK, c⟩ k => ⟨K, PySem.W.Frag.In.keeps hK k, c⟩
theorem obsLG_eq {n : Nat} {fa : List He.Fa} {fn : List DefD} {ts : List Tab} {bb : PySem.W.Frag → Bool} {x : Str} {g : Addr → Option Obj} {s : Shared} (h : ∀ a, g a = s.heap.get? a) : obsLG n fa fn ts bb x g = obsLG n fa fn ts bb x s.heap.get? := by
  have e : g = s.heap.get? := funext h
  rw [e]
/-- the keys and values of a display, written out -/
def okAll : List (Option Expr) → List Expr → List P2 → Bool
  | [], [], [] => true
  | some k :: ks, v :: vs, p :: l => isTup k p.1 && (isTup v p.2 && okAll ks vs l)
  | _, _, _ => false
theorem mkAll {prog : Program} {w : World} {env : Env} {dpos : Pos} : ∀ (keys : List (Option Expr)) (values : List Expr) (l : List P2), okAll keys values l = true →
    ∃ ts : List (Sem Value × Sem Value), ((evalEachOpt keys env).zip ((evalEach values env).map fun v => do let x ← v; standAt dpos; pure x)) = (ts.map fun p => (some p.1, p.2)) ∧ MkP prog w ts l
  | [], [], [], _ => ⟨[], rfl, trivial⟩
  | some k :: ks, v :: vs, p :: l, h => by
    obtain ⟨h1, h2⟩ := ba (show (isTup k p.1 && (isTup v p.2 && okAll ks vs l)) = true from h)
    obtain ⟨h2, h3⟩ := ba h2
    obtain ⟨ts, e, m⟩ := mkAll (prog := prog) (w := w) (env := env) (dpos := dpos) ks vs l h3
    refine ⟨(eval k env, do let x ← eval v env; standAt dpos; pure x) :: ts, ?_, mk_tup h1, mk_then (mk_tup h2), m⟩
    rw [List.map_cons, ← e]
    rfl
  | none :: _, _, _, h => by cases h
  | some _ :: _, [], _, h => by cases h
  | some _ :: _, _ :: _, [], h => by cases h
  | [], _ :: _, _, h => by cases h
  | [], [], _ :: _, h => by cases h
end LedHook
/-! Head04 -/
namespace Hd04
open PySem PySem.W PySem.Calls PySem.Spec PyProof.Rows L2 HandSHeadRun LedRun LedHook
abbrev PG : Program := PySem.Challenge.pw_regionsay_k04_choices_led
def top (i : Nat) : Stmt := PG.main.body.getD i (.Pass ⟨0, 0, 0, 0⟩)
def dd (i : Nat) (x : Str) : He.DefD := ⟨(x, none), x, x, defArgs (top i), defBody (top i), defScope (top i), [], []⟩
def fn : List He.DefD := [dd 4 "turned", dd 5 "led", dd 6 "led_choices", dd 8 "_law_dice", dd 9 "_law_next", dd 10 "_law_like", dd 11 "_law_ways", dd 12 "_law_turned", dd 13 "_law_led", dd 14 "_law_bits", dd 15 "_law_union", dd 16 "law"]
def fa : List He.Fa := (fn.map fun d => .glo d.name) ++ [.glo "WAYS", .glo "TURNED", .glo "LED"] ++ [.free "bool", .free "dict", .free "int", .free "isinstance", .free "len", .free "list", .free "range", .free "str", .free "tuple"]
abbrev R : PySem.W.OpenRow := PySem.W.OpenLaw.row PySem.Challenge.rw_regionsay_k04_choices_led
def S2 (a : String) (b : String) : Str × Str := (Str.ofString a, Str.ofString b)
def kv_TURNED : List (Str × Str) := [S2 "apart" "apart", S2 "meets" "meets", S2 "over" "over", S2 "same" "same", S2 "inrim" "hasrim", S2 "incore" "hascore", S2 "hasrim" "inrim", S2 "hascore" "incore"]
def tu_WAYS : List Str := ["apart", "meets", "over", "same", "inrim", "incore", "hasrim", "hascore"].map Str.ofString
def ts : List He.Tab := [((fun K => He.ga K "TURNED"), kv_TURNED.map (·.1))]
def bb (K : PySem.W.Frag) : Bool := He.tupB K "WAYS" (tu_WAYS.map He.Dv.str) && He.valsB K (He.ga K "TURNED") (kv_TURNED.map fun p => (p.1, He.Dv.str p.2))
def tabP : List P2 := ([(["apart", "apart"], ["apart", "meets", "over", "same", "inrim", "incore", "hasrim", "hascore"]), (["apart", "meets"], ["apart", "meets", "over", "inrim", "incore"]), (["apart", "over"], ["apart", "meets", "over", "inrim", "incore"]), (["apart", "same"], ["apart"]), (["apart", "inrim"], ["apart", "meets", "over", "inrim", "incore"]), (["apart", "incore"], ["apart", "meets", "over", "inrim", "incore"]), (["apart", "hasrim"], ["apart"]), (["apart", "hascore"], ["apart"]), (["meets", "apart"], ["apart", "meets", "over", "hasrim", "hascore"]), (["meets", "meets"], ["apart", "meets", "over", "same", "inrim", "hasrim"]), (["meets", "over"], ["apart", "meets", "over", "inrim", "incore"]), (["meets", "same"], ["meets"]), (["meets", "inrim"], ["meets", "over", "inrim", "incore"]), (["meets", "incore"], ["over", "inrim", "incore"]), (["meets", "hasrim"], ["apart", "meets"]), (["meets", "hascore"], ["apart"]), (["over", "apart"], ["apart", "meets", "over", "hasrim", "hascore"]), (["over", "meets"], ["apart", "meets", "over", "hasrim", "hascore"]), (["over", "over"], ["apart", "meets", "over", "same", "inrim", "incore", "hasrim", "hascore"]), (["over", "same"], ["over"]), (["over", "inrim"], ["over", "inrim", "incore"]), (["over", "incore"], ["over", "inrim", "incore"]), (["over", "hasrim"], ["apart", "meets", "over", "hasrim", "hascore"]), (["over", "hascore"], ["apart", "meets", "over", "hasrim", "hascore"]), (["same", "apart"], ["apart"]), (["same", "meets"], ["meets"]), (["same", "over"], ["over"]), (["same", "same"], ["same"]), (["same", "inrim"], ["inrim"]), (["same", "incore"], ["incore"]), (["same", "hasrim"], ["hasrim"]), (["same", "hascore"], ["hascore"]), (["inrim", "apart"], ["apart"]), (["inrim", "meets"], ["apart", "meets"]), (["inrim", "over"], ["apart", "meets", "over", "inrim", "incore"]), (["inrim", "same"], ["inrim"]), (["inrim", "inrim"], ["inrim", "incore"]), (["inrim", "incore"], ["incore"]), (["inrim", "hasrim"], ["apart", "meets", "over", "same", "inrim", "hasrim"]), (["inrim", "hascore"], ["apart", "meets", "over", "hasrim", "hascore"]), (["incore", "apart"], ["apart"]), (["incore", "meets"], ["apart"]), (["incore", "over"], ["apart", "meets", "over", "inrim", "incore"]), (["incore", "same"], ["incore"]), (["incore", "inrim"], ["incore"]), (["incore", "incore"], ["incore"]), (["incore", "hasrim"], ["apart", "meets", "over", "inrim", "incore"]), (["incore", "hascore"], ["apart", "meets", "over", "same", "inrim", "incore", "hasrim", "hascore"]), (["hasrim", "apart"], ["apart", "meets", "over", "hasrim", "hascore"]), (["hasrim", "meets"], ["meets", "over", "hasrim", "hascore"]), (["hasrim", "over"], ["over", "hasrim", "hascore"]), (["hasrim", "same"], ["hasrim"]), (["hasrim", "inrim"], ["over", "same", "inrim", "hasrim"]), (["hasrim", "incore"], ["over", "inrim", "incore"]), (["hasrim", "hasrim"], ["hasrim", "hascore"]), (["hasrim", "hascore"], ["hascore"]), (["hascore", "apart"], ["apart", "meets", "over", "hasrim", "hascore"]), (["hascore", "meets"], ["over", "hasrim", "hascore"]), (["hascore", "over"], ["over", "hasrim", "hascore"]), (["hascore", "same"], ["hascore"]), (["hascore", "inrim"], ["over", "hasrim", "hascore"]), (["hascore", "incore"], ["over", "same", "inrim", "incore", "hasrim", "hascore"]), (["hascore", "hasrim"], ["hascore"]), (["hascore", "hascore"], ["hascore"])] : List (List String × List String)).map fun p => (p.1.map Str.ofString, p.2.map Str.ofString)
def parts (k : Nat) (b : List Stmt) : Parts := match b.drop k with
  | .Assign [.Name x px] (.Dict keys values dpos) spos :: rest => ⟨b.take k, x, px, keys, values, dpos, spos, rest⟩
  | _ => ⟨[], "", ⟨0,0,0,0⟩, [], [], ⟨0,0,0,0⟩, ⟨0,0,0,0⟩, []⟩
def dP : Parts := parts 3 PG.main.body
def envX : Env := mainEnv PG 13 14
def loose : List Str := ["WAYS", "TURNED", "LED", "turned", "led", "led_choices", "_law_dice", "_law_next", "_law_like", "_law_ways", "_law_turned", "_law_led", "_law_bits", "_law_union"]
abbrev q := PySem.W.view PG [16]
def Xt (s : Shared) : Bool := PySem.W.xlAt q [] s && PySem.W.recOk R.toRowW.records s
def A0Eq (w : World) : Prop := ∀ os, (runA (stepQ (denQ tabQ) PG w) w os PG 12).map (·.2) = some ⟨denQ tabQ (.body dP.body envX), .body dP.body envX, default, [PySem.W.topFrame default]⟩
theorem a0 (w : World) : A0Eq w := by
  refine PySem.W.byRow2 "special-get-raises" (P := A0Eq) (fun w os => ?_) (fun w os => ?_) w
  · kernel_rfl
  · kernel_rfl
def A1Eq (w : World) : Prop := ∀ os P, (runAll (stepQ (denQ tabQ) PG w) w os PG 12 dP tabP envX default default P 2000).map (fun r => (r.c2, r.c3, r.low, looksF PG (PySem.W.boot_heap w.params) r.fin.abs, seenQ q loose (importedModules PG.main.body) Xt r.fin.abs, obsLG 4 fa fn ts bb "LED" (getT r.fin))) =
  some (.body dP.body envX, .body dP.body envX, true, true, PySem.W.openGood q loose, valL PG fn ts tabP w)
theorem a1 (w : World) : A1Eq w := by
  refine PySem.W.byRow2 "special-get-raises" (P := A1Eq) (fun w os P => ?_) (fun w os P => ?_) w
  · kernel_rfl
  · kernel_rfl
theorem c1 : okAll dP.keys dP.values tabP = true := by decide +kernel
theorem c2 : opening PG = plainProg PG.main.scope.names := by kernel_rfl
theorem c3 : ∀ s, fenceModules? PG s = some s := fun s => by kernel_rfl
theorem c4 : chainsOk q = true := by decide +kernel
theorem c5 : swapsWithSole [.Name dP.x dP.px] (.Dict dP.keys dP.values dP.dpos) dP.spos.line envX = pure false := by kernel_rfl
theorem c6 : (tabP.map (·.1)).Nodup := by decide +kernel
theorem c7 : tabP.length ≤ 1000 := by decide +kernel
theorem c8 : ∀ s, Xt s = true → (fun mg h => XL q [] mg h ∧ RecFacts R.toRowW.records h) (s.heap.nsMap mainGlobals) s.heap := fun s z => ⟨xl_of s (Bool.and_eq_true_iff.mp z).1, recFacts_of (Bool.and_eq_true_iff.mp z).2⟩
def Yf (s : Shared) : AlL := obsLG 4 fa fn ts bb "LED" s.heap.get?
theorem c9 : ∀ w s, Yf s = valL PG fn ts tabP w → YL PG fa fn ts bb "LED" tabP w s.heap := fun w s h => ⟨_, He.frG_in, h⟩
theorem a1' (w : World) : ∀ os P, (runAll (stepQ (denQ tabQ) PG w) w os PG 12 dP tabP envX default default P 2000).map (fun r => (r.c2, r.c3, r.low, looksF PG (boot_heap w.params) r.fin.abs, seenQ q loose (importedModules PG.main.body) Xt r.fin.abs, Yf r.fin.abs)) =
  some (.body dP.body envX, .body dP.body envX, true, true, openGood q loose, valL PG fn ts tabP w) := by
  intro os P
  have z := a1 w os P
  have eo : (fun r : Res => (r.c2, r.c3, r.low, looksF PG (boot_heap w.params) r.fin.abs, seenQ q loose (importedModules PG.main.body) Xt r.fin.abs, obsLG 4 fa fn ts bb "LED" (getT r.fin))) = fun r : Res => (r.c2, r.c3, r.low, looksF PG (boot_heap w.params) r.fin.abs, seenQ q loose (importedModules PG.main.body) Xt r.fin.abs, Yf r.fin.abs) := funext fun r => by rw [obsLG_eq (getT_eq r.fin)]; rfl
  rw [eo] at z
  exact z
theorem leftAll (w : World) : Left1 PG q loose (fun mg h => XL q [] mg h ∧ RecFacts R.toRowW.records h) (YL PG fa fn ts bb "LED" tabP) w := by
  obtain ⟨ts', e, m⟩ := mkAll (prog := PG) (w := w) (env := envX) (dpos := dP.dpos) dP.keys dP.values tabP c1
  exact left1_of (p := PG) (q := q) (loose := loose) (Xt := Xt) (Yf := Yf) (Ya := fun w => valL PG fn ts tabP w) (YP := YL PG fa fn ts bb "LED" tabP) (w := w) (d := dP) (l := tabP) (env := envX) (p1 := default) (qq := default) (m0 := 12) (M := 2000) (ts := ts') c2 c3 c8 c4 c9 c5 e m c6 c7 (a0 w) (a1' w)
end Hd04
/-! Fin04 -/
namespace G04
open PySem PySem.Spec PyProof.Rows L2 Ev He LedHook
theorem facts {w : World} {K : PySem.W.Frag} {h : Heap} {mg : Str → Option Value} {f : Addr} (X : K.In h) (G : h.Ns mainGlobals mg) (hfa : mg ("law" : Str) = some (.ref f)) (c : SaysL Hd04.PG Hd04.fa Hd04.fn Hd04.ts Hd04.bb "LED" Hd04.tabP w K) :
    ∃ fd : FuncData, (∀ (s : Shared) (v : Value), BindsTo s fd ⟨[v], []⟩ [("_law_script", v)]) ∧ ∀ base : Heap, K.In base → base.Ns mainGlobals mg → FnOk Hd04.PG w K mg base CX0 10 f fd ["_law_script"] (spD K [false] fn_law) := by
  have ct : SaysT Hd04.fa Hd04.fn Hd04.ts w K := congrArg (fun z : AlL => z.1) c
  have cb : Hd04.bb K = true := congrArg (fun z : AlL => z.2.1) c
  have cl : ledW K (ga K "LED") = some (ledIn w Hd04.PG Hd04.tabP) := congrArg (fun z : AlL => z.2.2) c
  have cd := ct.d
  have g_WAYS : (He.Fa.glo "WAYS").ok K = true := cd.fact 12 rfl
  have g_TURNED : (He.Fa.glo "TURNED").ok K = true := cd.fact 13 rfl
  have g_LED : (He.Fa.glo "LED").ok K = true := cd.fact 14 rfl
  have b_bool := He.free_ok X G (cd.fact 15 (f := .free "bool") rfl)
  have b_dict := He.free_ok X G (cd.fact 16 (f := .free "dict") rfl)
  have b_int := He.free_ok X G (cd.fact 17 (f := .free "int") rfl)
  have b_isinstance := He.free_ok X G (cd.fact 18 (f := .free "isinstance") rfl)
  have b_len := He.free_ok X G (cd.fact 19 (f := .free "len") rfl)
  have b_list := He.free_ok X G (cd.fact 20 (f := .free "list") rfl)
  have b_range := He.free_ok X G (cd.fact 21 (f := .free "range") rfl)
  have b_str := He.free_ok X G (cd.fact 22 (f := .free "str") rfl)
  have b_tuple := He.free_ok X G (cd.fact 23 (f := .free "tuple") rfl)
  obtain ⟨cb1, cb2⟩ := ba cb
  have c_WAYS : ∃ (v : V) (u : Value), mg (Str.ofString "WAYS") = some u ∧ RelV v u ∧ ∀ F : Hp, R K F v ways := tup_of X G g_WAYS cb1
  obtain ⟨es, n, kd⟩ := ct.tab 0 rfl
  have k_TURNED : KTab K w (ga K "TURNED") turns := ktab_of kd cb2
  have t_TURNED := glo_ok X G g_TURNED
  have k_LED : KLed Hd04.PG w K (ga K "LED") ledT := ledW_ok Hd04.c6 cl
  have t_LED := glo_ok X G g_LED
  obtain ⟨fd__law_dice, F__law_dice⟩ := cd.def_ 3 rfl
  have g__law_dice := He.glo_ok X G (cd.fact 3 (f := .glo "_law_dice") rfl)
  obtain ⟨fd__law_next, F__law_next⟩ := cd.def_ 4 rfl
  have g__law_next := He.glo_ok X G (cd.fact 4 (f := .glo "_law_next") rfl)
  obtain ⟨fd__law_like, F__law_like⟩ := cd.def_ 5 rfl
  have g__law_like := He.glo_ok X G (cd.fact 5 (f := .glo "_law_like") rfl)
  obtain ⟨fd__law_ways, F__law_ways⟩ := cd.def_ 6 rfl
  have g__law_ways := He.glo_ok X G (cd.fact 6 (f := .glo "_law_ways") rfl)
  obtain ⟨fd__law_turned, F__law_turned⟩ := cd.def_ 7 rfl
  have g__law_turned := He.glo_ok X G (cd.fact 7 (f := .glo "_law_turned") rfl)
  obtain ⟨fd__law_led, F__law_led⟩ := cd.def_ 8 rfl
  have g__law_led := He.glo_ok X G (cd.fact 8 (f := .glo "_law_led") rfl)
  obtain ⟨fd__law_bits, F__law_bits⟩ := cd.def_ 9 rfl
  have g__law_bits := He.glo_ok X G (cd.fact 9 (f := .glo "_law_bits") rfl)
  obtain ⟨fd__law_union, F__law_union⟩ := cd.def_ 10 rfl
  have g__law_union := He.glo_ok X G (cd.fact 10 (f := .glo "_law_union") rfl)
  obtain ⟨fd_led_choices, F_led_choices⟩ := cd.def_ 2 rfl
  have g_led_choices := He.glo_ok X G (cd.fact 2 (f := .glo "led_choices") rfl)
  obtain ⟨fd_turned, F_turned⟩ := cd.def_ 0 rfl
  have g_turned := He.glo_ok X G (cd.fact 0 (f := .glo "turned") rfl)
  obtain ⟨fd_led, F_led⟩ := cd.def_ 1 rfl
  have g_led := He.glo_ok X G (cd.fact 1 (f := .glo "led") rfl)
  obtain ⟨fd, F⟩ := cd.def_ 11 rfl
  have e := hfa.symm.trans (He.glo_ok X G (cd.fact 11 (f := .glo "law") rfl))
  cases e
  refine ⟨fd, fun s v => (FunD.bindsA (ps := ["_law_script"]) F fun _ _ _ _ _ _ us hl => match us, hl with | [_], _ => rfl) s [v] rfl, fun base _ _ => ?_⟩
  have d__law_dice := ok__law_dice (P := Hd04.PG) (w := w) (base := base) F__law_dice g__law_dice (b_int := b_int) (b_len := b_len)
  have d__law_next := ok__law_next (P := Hd04.PG) (w := w) (base := base) F__law_next g__law_next (b_len := b_len)
  have d__law_like := ok__law_like (P := Hd04.PG) (w := w) (base := base) F__law_like g__law_like (b_bool := b_bool) (b_dict := b_dict) (b_int := b_int) (b_isinstance := b_isinstance) (b_len := b_len) (b_list := b_list) (b_range := b_range) (b_str := b_str) (b_tuple := b_tuple) 9
  have d__law_ways := ok__law_ways (P := Hd04.PG) (w := w) (base := base) F__law_ways g__law_ways 
  have d__law_turned := ok__law_turned (P := Hd04.PG) (w := w) (base := base) F__law_turned g__law_turned (b_tuple := b_tuple) (d__law_ways := d__law_ways)
  have d__law_led := ok__law_led (P := Hd04.PG) (w := w) (base := base) F__law_led g__law_led (d__law_ways := d__law_ways)
  have d__law_bits := ok__law_bits (P := Hd04.PG) (w := w) (base := base) F__law_bits g__law_bits (b_tuple := b_tuple) (d__law_next := d__law_next) (d__law_ways := d__law_ways)
  have d__law_union := ok__law_union (P := Hd04.PG) (w := w) (base := base) F__law_union g__law_union (b_range := b_range) (b_tuple := b_tuple) (d__law_led := d__law_led) (d__law_ways := d__law_ways)
  have d_led_choices := ok_led_choices (P := Hd04.PG) (w := w) (base := base) F_led_choices g_led_choices (b_tuple := b_tuple) (c_WAYS := c_WAYS) (t_LED := t_LED) (k_LED := k_LED)
  have d_turned := ok_turned (P := Hd04.PG) (w := w) (base := base) F_turned g_turned (t_TURNED := t_TURNED) (k_TURNED := k_TURNED)
  have d_led := ok_led (P := Hd04.PG) (w := w) (base := base) F_led g_led (t_LED := t_LED) (k_LED := k_LED)
  exact fn_of F sc_law rfl (fun cdv A outer s H E hr => bd_law (CX := CX0) (E := E) hr (b_range := b_range) (d__law_bits := d__law_bits) (d__law_dice := d__law_dice) (d__law_like := d__law_like) (d__law_turned := d__law_turned) (d__law_union := d__law_union) (d__law_ways := d__law_ways) (d_led := d_led) (d_led_choices := d_led_choices) (d_turned := d_turned))
theorem start_rep {K : Frag} {H : Hp} {a : Addr} {ns : List Int} (hS : SqL K H a (ns.map V.int)) : Rep K (fun _ => none) [] H H (inE [false] [.rol (ns.map D.int)]) ([.ref a].map some) := by
  have hc : ∀ i d, cellOf (inE [false] [D.rol (ns.map D.int)]) i = some d → False := fun i d h => by
    match i with
    | 0 => cases h
    | i + 1 => cases h
  refine { len := rfl, exF := Ex.refl H, exG := (fun a o h => nomatch h), dis := (fun a o h => rfl), val := (fun i d h => ?_), own := (fun i d h => (hc i d h).elim), sep := (fun i j d e l h _ _ _ => (hc i d h).elim), bor := (fun i l h => nomatch h) }
  match i with
  | 0 =>
    cases h
    exact ⟨.ref a, rfl, .rol hS Rs.ints⟩
  | i + 1 => cases h
end G04
open PySem PySem.W PySem.Calls PyProof.Rows
set_option maxRecDepth 100000 in
set_option maxHeartbeats 0 in
theorem PySem.Challenge.cw_regionsay_k04_choices_led_holds : PySem.Challenge.rw_regionsay_k04_choices_led.Holds := by
  w_on; o_law
  refine LedRun.hold_left (r := OpenLaw.row PySem.Challenge.rw_regionsay_k04_choices_led) (q := Hd04.q) (loose := Hd04.loose) (YP := LedHook.YL Hd04.PG Hd04.fa Hd04.fn Hd04.ts Hd04.bb "LED" Hd04.tabP) (d := HandSHeadRun.topDef (OpenLaw.row PySem.Challenge.rw_regionsay_k04_choices_led).prog 16) (kwd := []) Hd04.leftAll LedHook.yl_keep
    (by kernel_rfl) (by kernel_rfl) (by kernel_rfl) (by rfl) (by first | assumption | decide +kernel) (by decide +kernel) ⟨rfl, rfl, rfl, rfl, rfl, by decide +kernel⟩ ?hw ?hc
  case hw => w_witness2
  case hc =>
    refine L2.walk_ofE (l := PySem.Challenge.rw_regionsay_k04_choices_led) (n := 63) (k := 10) (x := "_law_script") (CX := L2.CX0) rfl (by decide) (by kernel_rfl) ⟨rfl, by decide, by decide⟩ ?F (fun _ _ _ _ z => z)
    intro w mg fa h Y G hmg0
    obtain ⟨K, KX, c⟩ := Y
    have hmg : mg ("law" : PySem.Str) = some (.ref fa) := by
      have e : (HandSHeadRun.topDef (OpenLaw.row PySem.Challenge.rw_regionsay_k04_choices_led).prog 16).name = ("law" : PySem.Str) := by kernel_rfl
      rw [← e]
      exact hmg0
    obtain ⟨fd, hb, hF⟩ := G04.facts KX G hmg c
    refine ⟨K, fd, Ev.spD K [false] G04.fn_law, KX, hb, fun H a ns hl _ hS => ?_, hF⟩
    refine ⟨fun _ => none, [], H, [.rol (ns.map Ev.D.int)], _, _, rfl, G04.start_rep hS, G04.law_eq ns, fun i hi => ?_, fun v F' H' _ _ rr => ?_⟩
    · match i with
      | 0 => cases hi
      | i + 1 => cases hi
    · cases rr
      rfl
