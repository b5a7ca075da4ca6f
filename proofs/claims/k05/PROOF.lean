import PyProof.Rows.All
import Wide.All
import OpenK.AllK
import Wide.FinOn
import HandS.ForMost
import HandS.Exc
import HandS.GenList
import HandS.AnyAll
import HandS.IsInst
import HandS.StrMore
import HandS.Flow
import HandS.TupAny
import HandS.EndTab
import HandS.Walk
import HandS.Lambda
import HandS.Codes
import KE.KIntText
import KE.KxText
import KE.KStateDown
import HandS.Head0
import HandS.Head1
import HandS.Head2
import HandS.HeadEnd
import HandS.HeadHook1
import HandS.HeadHook2
import HandS.HeadHook3
import HandS.HeadHook4
import HandS.HeadWalk
import PyProof.WalkInts
import PySem.Challenge.RW_tabgrow_k05_whole_lined_up_and_no_wider
set_option Elab.async false
set_option linter.all false
set_option maxRecDepth 1000000
set_option maxHeartbeats 20000000
/-! Generator expressions whose elements are any expression of the layer, handed to all and max. -/
namespace Gx
open PySem PySem.Spec PyProof.Rows L2 GenW

abbrev gE (X : Cx) (sc : Scope) (C : Addr) (code : Value) : Env :=
  genEnv sc (cloFrom X.env.cells sc.names []) C code builtinsNs X.env

/-- the context of the element -/
def gCx (X : Cx) (A : Around) (sc : Scope) (x : Str) (code : Value) (s4 : Shared) (H4 : Hp) (fp : List Addr) : Cx where
  prog := X.prog
  w := X.w
  K := X.K
  mg := X.mg
  base := X.base
  A := A.deeper (gE X sc s4.heap.objs.size code)
  N := [x]
  s_0 := s4
  H_0 := H4
  env := gE X sc s4.heap.objs.size code
  outer := X.stack
  stack := gE X sc s4.heap.objs.size code :: X.stack
  ex := fp
  fn := fun _ => false
  calm := true
  pn := []
  xe := fun _ _ => False

/-- the scope of a generator expression that captures nothing -/
structure GSc (sc : Scope) (x : Str) : Prop where
  kind : sc.kind = .function
  co : sc.isCoroutine = false
  cell : ∀ y ∈ sc.names, y.2 ≠ .cell
  free : ∀ y ∈ sc.names, y.2 ≠ .free
  dot : sc.names.lookup (".0" : Str) = some NameKind.local
  loc : sc.names.lookup x = some .local

section
variable {X : Cx} {pins : List (Addr × Obj)} {σ : L2.St} {H : Hp} {s : Shared} {A : Around} {sc : Scope} {x : Str} {code : Value} {fp : List Addr}

theorem no_cells (S : GSc sc x) (cells : List (Str × Addr)) {y : Str} {c : Addr} (h : (cloFrom cells sc.names []).lookup y = some c) : False := by
  rcases cloFrom_mem (PySem.mem_of_lookup h) with z | ⟨z, _⟩
  · cases z
  · exact S.free _ z rfl

theorem gx_inv (I : Inv X pins σ H s) (S : GSc sc x) (hd : A.handled = none) (hfr : A.frames = some X.stack) (hf : ∀ b ∈ fp, FpOk X pins H b)
    (hlt : ∀ b ∈ fp, b < s.heap.objs.size) {s5 : Shared} {m : Str → Option Value} (os : s5.os = s.os) (bare : AllBare s5.gens)
    (keep : ∀ b o, s.heap.get? b = some o → s5.heap.get? b = some o) (hns : s5.heap.Ns s.heap.objs.size m) :
    Inv (gCx X A sc x code s H fp) [] [none] H s5 := by
  have nc : ∀ {y : Str} {c : Addr}, (gCx X A sc x code s H fp).env.cells.lookup y = some c → False := fun {y c} h => no_cells S _ h
  refine ⟨⟨I.ok.mod, S.kind, I.ok.glob, rfl, Nat.le_refl _, fun y z c e _ => (nc e).elim, fun y hy => ?_, fun y c _ e => (nc e).elim, fun _ => hd,
      Around.frames_deeper hfr, .inr ⟨rfl, rfl⟩, fun b hb => ⟨Nat.ne_of_lt (hlt b hb), fun y c e => (nc e).elim⟩, I.bs, Nat.le_trans I.ok.bsz I.sz,
      fun b o e hb => ?_, fun b hb z => ?_, I.stack, I.stkFree⟩,
    os, bare, Un.kept keep, ⟨m, hns, fun i y v _ e2 _ => ?_⟩, fun y c e => (nc e).elim, I.hok.fresh (Nat.le_refl _), fun y c e => (nc e).elim,
    fun p hp => ?_, I.hok.kept keep, rfl⟩
  · rcases hy with z | z
    · exact absurd rfl (S.cell _ (PySem.mem_of_lookup (show sc.names.lookup y = some .cell from z)))
    · exact absurd rfl (S.free _ (PySem.mem_of_lookup (show sc.names.lookup y = some .free from z)))
  · rcases (hf b hb).2.2.2.1 with z | z
    · exact I.ok.noex b o e z
    · exact absurd (Nat.lt_of_lt_of_le (Heap.lt_size e) (Nat.le_trans I.ok.bsz z)) (Nat.lt_irrefl _)
  · rcases List.mem_cons.mp (I.stkSub b z) with q | q
    · exact (hf b hb).2.1 q
    · exact (hf b hb).2.2.1 q
  · match i, e2 with
    | 0, e2 => cases e2
    | i + 1, e2 => simp at e2
  · exact absurd (show p ∈ ([] : List (Addr × Obj)) from hp) (by simp)

/-- only the generators' states differ -/
theorem regens {s' : Shared} (I : Inv X pins σ H s) (os : s'.os = s.os) (hh : ∀ b o, s.heap.get? b = some o → s'.heap.get? b = some o) (hb : AllBare s'.gens) : Inv X pins σ H s' :=
  I.call' (ch := []) os (Un.kept hh) (I.hok.kept hh) hb fun b z => by simp at z

/-- the consumer's own list, if it has one -/
def Held (So : Option Addr) (Rel : Array Value → Prop) (ps : List (Addr × Obj)) : Prop :=
  match So with
  | none => ps = []
  | some S => ∃ acc c, ps = [(S, lstObj acc c)] ∧ Rel acc
structure Woke (So : Option Addr) (Rel : Array Value → Prop) (s s' : Shared) : Prop where
  os : s'.os = s.os
  bare : AllBare s'.gens
  keep : ∀ b o, So ≠ some b → s.heap.get? b = some o → s'.heap.get? b = some o
  own : ∀ S, So = some S → ∃ acc' c', s'.heap.get? S = some (lstObj acc' c') ∧ Rel acc'

theorem woken {Z : Cx} {q ps : List (Addr × Obj)} {So : Option Addr} {Rel Rel' : Array Value → Prop} {s' : Shared} (I : Inv Z (q ++ ps) σ H s) (hps : Held So Rel ps) (hq : ∀ p ∈ Z.pn ++ q, So ≠ some p.1)
    (hS : ∀ S, So = some S → Z.s_0.heap.objs.size ≤ S ∧ S ≠ Z.env.locals ∧ ∀ y c, Z.env.cells.lookup y = some c → c ≠ S) (k : Woke So Rel' s s') :
    ∃ ps', Held So Rel' ps' ∧ Inv Z (q ++ ps') σ H s' ∧ ∀ p ∈ ps', s'.heap.get? p.1 = some p.2 := by
  cases So with
  | none =>
    have e : ps = [] := hps
    subst e
    exact ⟨[], rfl, regens I k.os (fun b o e => k.keep b o (by simp) e) k.bare, fun p hp => by simp at hp⟩
  | some S =>
    obtain ⟨acc, c, e, _⟩ := hps
    subst e
    obtain ⟨h1, h2, h3, h4, _⟩ := I.pin (S, lstObj acc c) (List.mem_append_right _ (List.mem_append_right _ (List.mem_singleton.mpr rfl)))
    obtain ⟨acc', c', e', hR⟩ := k.own S rfl
    obtain ⟨g1, g2, g3⟩ := hS S rfl
    have I0 : Inv Z q σ H s := I.pins_of fun p hp => I.pin p (List.mem_append_right _ (List.mem_append_left _ hp))
    have nS : ∀ b u, H b = some u → b ≠ S := fun b u e z => by rw [z, h2] at e; cases e
    have kp : ∀ b o, b ≠ S → s.heap.get? b = some o → s'.heap.get? b = some o := fun b o hb e => k.keep b o (fun z => hb (Option.some.inj z).symm) e
    have ni : ∀ b : Addr, b ∉ [S] → b ≠ S := fun b hb e => hb (by rw [e]; exact List.mem_singleton.mpr rfl)
    have J : Inv Z q σ H s' := by
      refine I0.call' (ch := [S]) k.os ⟨fun b o e _ _ hx => kp b o (ni b hx) e, fun b o e _ _ hx => ⟨o.slots, kp b o (ni b hx) e⟩, fun _ _ _ n _ => n, fun b o e hx => ⟨o, kp b o (ni b hx) e⟩,
        fun _ _ e => e, fun _ _ _ e => e, fun _ _ e => ⟨#[], by rw [e]; simp⟩⟩ (fun b u e => ?_) k.bare fun b hb => ?_
      · refine (I0.hok b u e).stay (fun d v hd z => kp d v ?_ z) (fun _ z => z) fun _ _ z => z
        rcases hd with z | z
        · rw [z]; exact nS b u e
        · exact nS d _ z
      · have eb : b = S := List.mem_singleton.mp hb
        subst eb
        exact ⟨.inr g1, g2, g3, fun p hp z => hq p hp (by rw [z])⟩
    refine ⟨[(S, lstObj acc' c')], ⟨acc', c', rfl, hR⟩, J.pins_of fun p hp => ?_, fun p hp => by rw [List.mem_singleton.mp hp]; exact e'⟩
    rcases List.mem_append.mp hp with z | z
    · exact J.pin p (List.mem_append_right _ z)
    · rw [List.mem_singleton.mp z]
      exact ⟨e', h2, h3, h4, fun v z => by cases z⟩

abbrev WT := Nat → List V → Hp → Prop
/-- an item is handed out -/
def GYx (Z : Cx) (q : List (Addr × Obj)) (So : Option Addr) (Rel : List V → Array Value → Prop) (W : WT) (Ny : Nat → List V → V → Hp → Prop) : Protocol := fun n s₀ v s1 kap =>
  ∃ m ys y σ H ps, m < n + 1 ∧ RelV y v ∧ Held So (Rel ys) ps ∧ (∀ p ∈ ps, s₀.heap.get? p.1 = some p.2) ∧ Inv Z (q ++ ps) σ H s1 ∧ Ny m ys y H ∧ ∀ s', Woke So (Rel (ys ++ [y])) s1 s' → ∀ m', m' < m → W m' (ys ++ [y]) H → kap (.send .none) s'
def GFx (Z : Cx) (q : List (Addr × Obj)) (So : Option Addr) (Rel : List V → Array Value → Prop) (Ns : List V → Hp → Prop) (s₀ s1 : Shared) : Prop :=
  ∃ ys σ H ps, Held So (Rel ys) ps ∧ (∀ p ∈ ps, s₀.heap.get? p.1 = some p.2) ∧ Inv Z (q ++ ps) σ H s1 ∧ Ns ys H
abbrev GRx (Z : Cx) (q : List (Addr × Obj)) (So : Option Addr) (Rel : List V → Array Value → Prop) (Ns : List V → Hp → Prop) : GenEnd := fun n s₀ r s₁ =>
  ((r = .ok (.ret .none) ∨ r = .ok .next) ∧ (fun (_ : Nat) (t : Shared) s => GFx Z q So Rel Ns t s) n s₀ s₁) ∨ ∃ e, r = .error e ∧ (fun (_ : Value) (_ : Shared) => False) e s₁

theorem seg_turns {elt iter : Expr} {px : Pos} {pos : Pos} {it : Addr} {J : It} {tn : Nat → Heap → Prop} {te : TE} {W : WT} {Ny : Nat → List V → V → Hp → Prop} {Ns : List V → Hp → Prop} {s4 : Shared} {H4 : Hp}
    {q : List (Addr × Obj)} {So : Option Addr} {Rel : List V → Array Value → Prop}
    (S : GSc sc x) (T : Turn X.prog X.w X.K (.Name x px) J fp it tn)
    (stat : ∀ b ∈ fp, b ≠ s4.heap.objs.size ∧ b ∉ frs X.stack ∧ (∀ p ∈ q, p.1 ≠ b) ∧ So ≠ some b)
    (hq : ∀ p ∈ q, So ≠ some p.1) (hS : ∀ S', So = some S' → s4.heap.objs.size < S')
    (he : PE (gCx X A sc x code s4 H4 fp) elt te)
    (step : ∀ m ys H, W m ys H → (J.stop ys.length H ∧ Ns ys H) ∨ (J.go ys.length H ∧ ∀ v H', J.yld ys.length H v H' → te [some v] H' (Ny m ys))) :
    ∀ (n m : Nat) (ys : List V) (s₀ s : Shared) (σ : L2.St) (H : Hp) (ps : List (Addr × Obj)), m < n → Held So (Rel ys) ps → (∀ p ∈ ps, s₀.heap.get? p.1 = some p.2) → W m ys H → Inv (gCx X A sc x code s4 H4 fp) (q ++ ps) σ H s → tn ys.length s.heap → (∀ b ∈ fp, H b = none) →
      Seg (model X.prog X.w) A (GRx (gCx X A sc x code s4 H4 fp) q So Rel Ns) (GYx (gCx X A sc x code s4 H4 fp) q So Rel W Ny) n s₀
        (.compLoop (.GeneratorExp elt [⟨.Name x px, iter, [], 0⟩] sc pos) 0 (.ref it) .none (gE X sc s4.heap.objs.size code))
        ((model X.prog X.w).den (.compLoop (.GeneratorExp elt [⟨.Name x px, iter, [], 0⟩] sc pos) 0 (.ref it) .none (gE X sc s4.heap.objs.size code))) [] s := by
  have nc : ∀ {y : Str} {c : Addr}, (gCx X A sc x code s4 H4 fp).env.cells.lookup y = some c → False := fun {y c} h => no_cells S _ h
  intro n
  induction n with
  | zero => intro m _ _ _ _ _ _ hm; exact absurd hm (Nat.not_lt_zero _)
  | succ n ih =>
    intro m ys s₀ s σ H ps hm hps hs0 hW I htn hfn
    have fok : ∀ {H' : Hp}, (∀ b ∈ fp, H' b = none) → ∀ b ∈ fp, FpOk (gCx X A sc x code s4 H4 fp) (q ++ ps) H' b := fun {H'} hn b hb => by
      obtain ⟨a1, a2, a3, a4⟩ := stat b hb
      refine ⟨hn b hb, a1, a2, .inl hb, fun y c e => (nc e).elim, fun p hp => ?_⟩
      rcases List.mem_append.mp (show p ∈ q ++ ps from hp) with z | z
      · exact a3 p z
      · cases So with
        | none =>
          have e : ps = [] := hps
          rw [e] at z
          simp at z
        | some S' =>
          obtain ⟨acc, c, e, _⟩ := hps
          rw [e] at z
          rw [List.mem_singleton.mp z]
          exact fun w => a4 (by rw [← w])
    show Seg _ A _ _ _ s₀ _ ((compTurn (.GeneratorExp elt [⟨.Name x px, iter, [], 0⟩] sc pos) 0 (.ref it) .none (gE X sc s4.heap.objs.size code)).onRaise (leaving (gE X sc s4.heap.objs.size code))) [] s
    rw [compTurn_gen, Sem.onRaise_eq_wrap]
    refine seg_bind_wrap (wpAny_standAt ?_)
    rcases step m ys H hW with ⟨stop, qn⟩ | ⟨go, st⟩
    · refine seg_bind_wrap (thn (T.done (gCx X A sc x code s4 H4 fp) rfl rfl rfl rfl ys.length (q ++ ps) s σ H _ I (fok hfn) htn stop) fun r s5 ⟨hr, I5⟩ => ?_)
      subst hr
      exact seg_end (.ok .next) (.inl ⟨.inr rfl, ys, σ, H, ps, hps, hs0, I5, qn⟩)
    · refine seg_bind_wrap (thn (T.item (gCx X A sc x code s4 H4 fp) rfl rfl rfl rfl ys.length (q ++ ps) s σ H _ I (fok hfn) htn go) fun r s5 ⟨u, hr, h5⟩ => ?_)
      subst hr
      refine seg_bind_wrap (thn h5 fun _ s6 ⟨v, H6, I6, r6, y6, tn6, fn6⟩ => ?_)
      have I6' := I6.pinned (fok fn6) (T.obj _ _ tn6)
      have pg : PG (gCx X A sc x code s4 H4 fp) (.Name x px) (gName 0) := pg_name (i := 0) (List.nodup_cons.mpr ⟨by simp, List.nodup_nil⟩) rfl (.inl S.loc) (.inr S.loc)
      have eσ : σ.set 0 (some v) = [some v] := by
        have hl : σ.length = 1 := I.len
        match σ, hl with
        | [_], _ => rfl
      refine seg_bind_wrap (wpAny_mono (pg.run _ s6 σ H6 v u (fun σ' H' => σ' = [some v] ∧ H' = H6) I6' r6 ⟨eσ, rfl⟩) (fun _ s7 h7 => ?_) fun _ _ z => z.elim)
      obtain ⟨σ7, H7, I7, eσ7, eH7⟩ := h7
      subst eσ7 eH7
      simp only [List.forIn_nil]
      refine seg_bind_wrap (wpAny_pure ?_)
      simp only [if_true]
      have hy : ∀ v, yieldOut (gE X sc s4.heap.objs.size code) v = yieldValue v := fun v => by
        simp only [yieldOut, show (gE X sc s4.heap.objs.size code).scope.isCoroutine = false from S.co, Bool.false_eq_true, if_false]
      simp only [hy]
      rw [Sem.bind_eq_wrap', Sem.bind_eq_wrap', Sem.wrap_wrap, Sem.wrap_wrap]
      refine seg_wrap (wpAny_mono (he.run _ s7 [some v] H7 _ I7 (st v H7 y6)) (fun w s8 h8 => ?_) fun _ _ z => z.elim)
      obtain ⟨y, H8, I8, r8, ny⟩ := h8
      have fn8 : ∀ b ∈ fp, H8 b = none := fun b hb => by
        obtain ⟨o, e, d⟩ := T.obj _ _ tn6 b hb
        exact (I8.pin (b, o) (List.mem_append_right _ (List.mem_append_right _ (mem_pinsAt hb e)))).2.1
      have tn8 : tn (ys.length + 1) s8.heap := T.keep _ _ _ tn6 fun b hb o e => (I8.pin (b, o) (List.mem_append_right _ (List.mem_append_right _ (mem_pinsAt hb e)))).1
      refine seg_at (seg_yield rfl rfl rfl ⟨m, ys, y, [some v], H8, ps, hm, r8, hps, hs0, I8.unpinned, ny, fun s9 wk m' hm' w' => ?_⟩)
      obtain ⟨ps', hps', I9, e9⟩ := woken I8.unpinned hps (fun p hp => hq p hp) (fun S' e => ⟨Nat.le_of_lt (hS S' e), Nat.ne_of_gt (hS S' e), fun y c e => (nc e).elim⟩) wk
      refine seg_again rfl (ih m' (ys ++ [y]) s9 s9 [some v] H8 ps' (by omega) hps' e9 w' I9 ?_ fn8)
      rw [List.length_append, List.length_singleton]
      exact T.keep _ _ _ tn8 fun b hb o e => wk.keep b o (stat b hb).2.2.2 e
end
end Gx

namespace Gx
open PySem PySem.Spec PyProof.Rows L2 GenW
section
variable {X : Cx} {pins : List (Addr × Obj)} {σ : L2.St} {H : Hp} {s : Shared} {sc : Scope} {x : Str}

theorem seg_begin {A : Around} {elt iter : Expr} {px pos : Pos} {it : Addr} {J : It} {fp : List Addr} {tn : Nat → Heap → Prop} {cenv : Env} {R : GenEnd} {Y : Protocol} {n : Nat} {s₀ : Shared}
    (T : Turn X.prog X.w X.K (.Name x px) J fp it tn) (ht : tn 0 s.heap)
    (loop : Seg (model X.prog X.w) A R Y n s₀ (.compLoop (.GeneratorExp elt [⟨.Name x px, iter, [], 0⟩] sc pos) 0 (.ref it) .none cenv) ((model X.prog X.w).den (.compLoop (.GeneratorExp elt [⟨.Name x px, iter, [], 0⟩] sc pos) 0 (.ref it) .none cenv)) [] s) :
    Seg (model X.prog X.w) A R Y n s₀ (.compStart (.GeneratorExp elt [⟨.Name x px, iter, [], 0⟩] sc pos) 0 (.ref it) .none cenv) ((model X.prog X.w).den (.compStart (.GeneratorExp elt [⟨.Name x px, iter, [], 0⟩] sc pos) 0 (.ref it) .none cenv)) [] s := by
  show Seg _ A R Y n s₀ _ ((compStart (.GeneratorExp elt [⟨.Name x px, iter, [], 0⟩] sc pos) 0 (.ref it) .none cenv).onRaise (leaving cenv)) [] s
  unfold compStart
  rw [Sem.onRaise_eq_wrap]
  show Seg _ A R Y n s₀ _ ((ask >>= _).wrap _ _ _ _) [] s
  refine seg_bind_wrap (wpAny_askSetting ?_)
  split
  · exact seg_again rfl loop
  · first
      | exact seg_bind_wrap (wpAny_rule (seg_bind_wrap (wpAny_standAt (seg_bind_wrap (T.self _ 0 s _ _ ht (seg_again rfl loop))))))
      | (refine seg_bind_wrap (wpAny_rule ?_); show Seg _ A R Y n s₀ _ ((standAt iter.pos >>= _).wrap _ _ _ _) [] s; exact seg_bind_wrap (wpAny_standAt (seg_bind_wrap (T.self _ 0 s _ _ ht (seg_again rfl loop)))))

/-- the reading of a generator expression: W the state between two turns, by a measure, what was handed out, the heap -/
def tGen (P : Addr) (wi : TI) (te : TE) (NyOf : WT → Nat → List V → V → Hp → Prop) (Ns : List V → Hp → Prop) : L2.St → Hp → Prop := fun σ H =>
  wi σ H fun J H1 => GxR.TabG H1 P ∧ ∀ H2, GxR.Tabbed P H1 H2 → ∃ W : WT, (∃ m, W m [] H2) ∧ ∀ m ys H, W m ys H →
    (J.stop ys.length H ∧ Ns ys H) ∨ (J.go ys.length H ∧ ∀ v H', J.yld ys.length H v H' → te [some v] H' (NyOf W m ys))

theorem code_step {A : Around} {E : Value → Shared → Prop} {Q : Value → Shared → Prop} {c P : Addr} {gpos : Pos} (I : Inv X pins σ H s) (TB : GxR.TabB X.base X.mg c P) (hcode : X.env.code = .ref c) (hT : GxR.TabG H P)
    (h : ∀ (code : Value) (H3 : Hp) (s3 : Shared), GxR.Tabbed P H H3 → Inv X pins σ H3 s3 → (∀ b o, b ≠ P → s.heap.get? b = some o → s3.heap.get? b = some o) → Q code s3) :
    wpAny (model X.prog X.w) A (genexprCode X.env gpos (X.env.qual ++ "<genexpr>") sc) Q E s := by
  obtain ⟨ps, hP, ht⟩ := id hT
  have hPs : s.heap.get? P = some { cls := .none, data := .fields ps } := I.hok P _ hP
  have cd : PySem.W.CodeHd s.heap c P := TB.code.keeps I.bk
  cases hf : codeAmong gpos ps.toList with
  | none =>
    refine wpAny_genexprCodeX hcode (cd.code hPs ht) (cd.tab hPs) hf fun c' h' tk hx hge hlt hco' _ htab' _ => ?_
    obtain ⟨o1, vs, f1, tf, fl, tg, inF, tx, tt, op, _, _, _, _, _, _, _, _, _, htr, _⟩ := hco'
    have J := GxR.inv_tab (t' := tk) (g' := s.gens) (d' := s.drawn) I hP (fun b o hb e => hx b o hb e) htab'.2 I.bare
    exact h _ _ _ ⟨⟨_, upd_same, htr⟩, fun b hb => upd_ne hb⟩ J fun b o hb e => hx b o hb e
  | some cv =>
    refine wpAny_genexprCode_hit hcode (cd.code hPs ht) hf ?_
    exact h _ H s ⟨hT, fun _ _ => rfl⟩ I fun _ _ _ e => e
end
end Gx

namespace Gx
open PySem PySem.Spec PyProof.Rows L2 GenW
section
variable {X : Cx} {pins : List (Addr × Obj)} {σ : L2.St} {H : Hp} {s : Shared} {sc : Scope} {x : Str}

/-- a generator that has not begun, at a in s5 -/
def Begun1 (X : Cx) (pins : List (Addr × Obj)) (σ : L2.St) (k : Nat) (Rel : List V → Array Value → Prop) (NyOf : WT → Nat → List V → V → Hp → Prop) (Ns : List V → Hp → Prop) (a : Addr) (s5 : Shared) : Prop :=
  ∃ (g : Nat) (c : Code) (H4 : Hp), s5.heap.IsGen a g ∧ s5.gens[g]? = some (.fresh c) ∧ Inv X pins σ H4 s5 ∧ a < s5.heap.objs.size ∧
    ∀ (A : Around) (So : Option Addr) (s6 : Shared), Room (k + 1) A → A.frames = some X.stack → (∀ S, So = some S → s5.heap.objs.size ≤ S ∧ ∃ acc c, s6.heap.get? S = some (lstObj acc c) ∧ Rel [] acc) →
      (∀ b o, s5.heap.get? b = some o → s6.heap.get? b = some o) → s6.os = s5.os → AllBare s6.gens →
      ∃ (Z : Cx) (q : List (Addr × Obj)) (W : WT) (m0 : Nat),
        (∀ ps σz Hz s7, Inv Z (q ++ ps) σz Hz s7 → Inv X pins σ Hz s7 ∧ s7.heap.IsGen a g) ∧
        Seg (model X.prog X.w) A (GRx Z q So Rel Ns) (GYx Z q So Rel W (NyOf W)) (m0 + 1) s6 c ((model X.prog X.w).den c) [] s6

theorem gx_make {elt iter : Expr} {px gpos : Pos} {c P : Addr} {wi : TI} {te : TE} {k j : Nat} {Rel : List V → Array Value → Prop} {NyOf : WT → Nat → List V → V → Hp → Prop} {Ns : List V → Hp → Prop} {Q' : Value → Shared → Prop}
    (hr : Room j X.A) (TB : GxR.TabB X.base X.mg c P) (hcode : X.env.code = .ref c) (S : GSc sc x) (hi : PI X (.Name x px) iter wi)
    (he : ∀ (A : Around) (code : Value) (s4 : Shared) (H4 : Hp) (fp : List Addr), Room k (A.deeper (gE X sc s4.heap.objs.size code)) → PE (gCx X A sc x code s4 H4 fp) elt te)
    (hs : ∀ v, genFold iter X.env v = pure v) (I : Inv X pins σ H s) (h : tGen P wi te NyOf Ns σ H)
    (hQ : ∀ a s5, Begun1 X pins σ k Rel NyOf Ns a s5 → Q' (.ref a) s5) :
    wpAny (model X.prog X.w) X.A (eval (.GeneratorExp elt [⟨.Name x px, iter, [], 0⟩] sc gpos) X.env) Q' X.xe s := by
  refine wpAny_GeneratorExp_make S.co (closure_ok fun y hy z => absurd z (S.free y hy)) S.cell S.dot S.kind hr.depth ?_ hs
  refine thn (hi.run pins s σ H _ I h) fun xv s1 h1 => thn h1 fun itv s2 h2 => ?_
  obtain ⟨it, fp, tn, J, H2, e, I2, T, st2, f2, hT, hW⟩ := h2
  subst e
  refine ⟨I2.nolimit, code_step I2 TB hcode hT fun code H3 s3 hTb I3 kp3 => ?_⟩
  obtain ⟨bm, ob, e1, e2, e3, e4, e5, e6, e7, e8⟩ := TB.bm
  refine wpAny_builtinsFor (m := X.mg) (by rw [I3.ok.glob]; exact I3.mod.glob.keeps I3.bk) e1 e2 (I3.bk _ _ e5) e6 e7 e8 fun h' hn' hs' => ?_
  obtain ⟨W, ⟨m0, w0⟩, step⟩ := hW H3 hTb
  have hTP : H2 P ≠ none := by
    obtain ⟨ps, z, _⟩ := hT
    rw [z]; exact fun q => nomatch q
  have nP : ∀ b ∈ fp, b ≠ P := fun b hb z => hTP (by rw [← z]; exact (f2 b hb).1)
  have f3 : ∀ b ∈ fp, FpOk X pins H3 b := fun b hb => ⟨(hTb.2 b (nP b hb)).trans (f2 b hb).1, (f2 b hb).2⟩
  have tn3 : tn 0 s3.heap := T.keep _ _ _ st2 fun b hb o q => kp3 b o (nP b hb) q
  have lt3 : ∀ b ∈ fp, b < s3.heap.objs.size := fun b hb => by
    obtain ⟨o, q, _⟩ := T.obj _ _ tn3 b hb
    exact Heap.lt_size q
  have hsz : h'.objs.size = s3.heap.objs.size + 1 := by rw [hs'.1, Heap.size_push]
  have kp' : ∀ b o, s3.heap.get? b = some o → h'.get? b = some o := fun b o q => hs'.extBut b o (Nat.ne_of_lt (Heap.lt_size q)) (Heap.get?_push_of_some _ q)
  refine hQ _ _ ⟨s3.gens.size, _, H3, ⟨_, _, _, Heap.get?_push_size _ rfl, rfl, rfl, rfl⟩, Array.getElem?_push_size .., ?_, ?_, fun A So s6 hrA hfr hSo kp6 os6 b6 => ?_⟩
  · exact regens I3 rfl (fun b o q => Heap.get?_push_of_some _ (kp' b o q)) (AllBare.push I3.bare rfl)
  · show h'.objs.size < (h'.push _).objs.size
    rw [Heap.size_push]; exact Nat.lt_succ_self _
  · have kp36 : ∀ b o, s3.heap.get? b = some o → s6.heap.get? b = some o := fun b o q => kp6 b o (Heap.get?_push_of_some _ (kp' b o q))
    have hns6 : s6.heap.Ns s3.heap.objs.size (fun y => if y = ".0" then some (.ref it) else none) := by
      obtain ⟨o, es, ep, ho, r⟩ := hn'
      exact ⟨o, es, ep, kp6 _ _ (Heap.get?_push_of_some _ ho), r⟩
    have IZ := gx_inv (code := code) (A := A) I3 S hrA.hd hfr f3 lt3 (s5 := s6) os6 b6 kp36 hns6
    have big : ∀ b, s3.heap.objs.size < b → H3 b = none ∧ b ≠ s3.heap.objs.size ∧ b ∉ frs X.stack := fun b hb => by
      refine ⟨I3.hok.fresh (Nat.le_of_lt hb), Nat.ne_of_gt hb, fun z => ?_⟩
      rcases List.mem_cons.mp (I3.stkSub b z) with w | w
      · exact absurd (Nat.lt_trans (by rw [w]; exact I3.lt) hb) (Nat.lt_irrefl _)
      · exact I3.nofs (Nat.le_of_lt hb) w
    have ha : s3.heap.objs.size < h'.objs.size := by rw [hsz]; exact Nat.lt_succ_self _
    have hga := kp6 h'.objs.size _ (Heap.get?_push_size _ rfl)
    have hSb : ∀ S', So = some S' → h'.objs.size < S' := fun S' z => by
      have q := (hSo S' z).1
      have q' : (h'.push _).objs.size ≤ S' := q
      rw [Heap.size_push] at q'
      exact q'
    obtain ⟨ps, hps, IZ2⟩ : ∃ ps, Held So (Rel []) ps ∧ Inv (gCx X A sc x code s3 H3 fp) ([(h'.objs.size, _)] ++ ps) [none] H3 s6 := by
      cases So with
      | none =>
        refine ⟨[], rfl, IZ.pins_of fun p hp => ?_⟩
        rw [List.append_nil] at hp
        rw [List.mem_singleton.mp hp]
        obtain ⟨b1, b2, b3⟩ := big _ ha
        exact ⟨hga, b1, b2, b3, fun v z => by cases z⟩
      | some S' =>
        obtain ⟨_, acc, cc, q2, hR⟩ := hSo S' rfl
        refine ⟨[(S', lstObj acc cc)], ⟨acc, cc, rfl, hR⟩, IZ.pins_of fun p hp => ?_⟩
        rcases List.mem_append.mp hp with z | z
        · rw [List.mem_singleton.mp z]
          obtain ⟨b1, b2, b3⟩ := big _ ha
          exact ⟨hga, b1, b2, b3, fun v z => by cases z⟩
        · rw [List.mem_singleton.mp z]
          obtain ⟨b1, b2, b3⟩ := big _ (Nat.lt_trans ha (hSb S' rfl))
          exact ⟨q2, b1, b2, b3, fun v z => by cases z⟩
    have hSne : ∀ b, b ≤ h'.objs.size → So ≠ some b := fun b hb z => absurd (Nat.lt_of_lt_of_le (hSb b z) hb) (Nat.lt_irrefl _)
    refine ⟨gCx X A sc x code s3 H3 fp, [(h'.objs.size, { cls := .type "generator", data := .fields #[.int s3.gens.size 0, .str "<genexpr>" (s3.toks + 1), .str (X.env.qual ++ "<genexpr>") (s3.toks + 1 + 1)] })], W, m0, fun ps σz Hz s7 J7 => ⟨?_, ?_⟩, ?_⟩
    · refine I3.call' (ch := fp) J7.os J7.base J7.hok J7.bare fun b hb => ?_
      obtain ⟨_, a2, _, a4, a5, a6⟩ := f3 b hb
      exact ⟨a4, a2, a5, a6⟩
    · exact ⟨_, _, _, (J7.pin _ (List.mem_append_right _ (List.mem_append_left _ (List.mem_singleton.mpr rfl)))).1, rfl, rfl, rfl⟩
    · refine seg_begin T (T.keep _ _ _ tn3 fun b hb o q => kp36 b o q) ?_
      refine seg_turns S T (fun b hb => ⟨Nat.ne_of_lt (lt3 b hb), fun z => ?_, fun p hp z => ?_, hSne b (Nat.le_of_lt (Nat.lt_trans (lt3 b hb) ha))⟩) (fun p hp => ?_) (fun S' z => Nat.lt_trans ha (hSb S' z)) (he A code s3 H3 fp (hrA.deeper _)) step
        (m0 + 1) m0 [] s6 s6 [none] H3 ps (Nat.lt_succ_self _) hps (fun p hp => (IZ2.pin p (List.mem_append_right _ (List.mem_append_right _ hp))).1) w0 IZ2 (T.keep _ _ _ tn3 fun b hb o q => kp36 b o q) fun b hb => (f3 b hb).1
      · rcases List.mem_cons.mp (I3.stkSub b z) with w | w
        · exact (f3 b hb).2.1 w
        · exact (f3 b hb).2.2.1 w
      · rw [List.mem_singleton.mp hp] at z
        have q : h'.objs.size = b := z
        exact absurd (Nat.lt_trans (lt3 b hb) ha) (by rw [q]; exact Nat.lt_irrefl _)
      · rw [List.mem_singleton.mp hp]
        exact hSne _ (Nat.le_refl _)
end
end Gx

namespace Gx
open PySem PySem.Spec PyProof.Rows L2 GenW
section
variable {X : Cx} {pins : List (Addr × Obj)} {σ : L2.St} {H : Hp} {s : Shared} {sc : Scope} {x : Str}

def NyAll (Qb : Bool → Hp → Prop) (W : WT) : Nat → List V → V → Hp → Prop := fun m ys y H => ∃ b : Bool, y = .bl b ∧ if b = true then ∃ m', m' < m ∧ W m' (ys ++ [y]) H else Qb false H
abbrev noRel : List V → Array Value → Prop := fun _ _ => True

theorem all_turns {Z : Cx} {q : List (Addr × Obj)} {W : WT} {Qb : Bool → Hp → Prop} {A : Around} {a : Addr} {g : Nat} {Rr : Result → Shared → Prop} (hh : A.handled = none) (hd : A.depth < recursionLimit)
    (fin : ∀ ps σz Hz s7, Inv Z (q ++ ps) σz Hz s7 → Inv X pins σ Hz s7 ∧ s7.heap.IsGen a g)
    (hdone : ∀ b H' s', Inv X pins σ H' s' → Qb b H' → Rr (.ok (.ret (.bool b))) s') :
    ∀ (n : Nat) (s : Shared), s.heap.IsGen a g → s.heap.NoLimit →
      (∃ gs, s.gens[g]? = some gs ∧ gs.Goes (model X.prog X.w) A.in1.in1 (GRx Z q none noRel fun _ => Qb true) (GYx Z q none noRel W (NyAll Qb W)) n (.send .none) (s.setGen g .running)) →
      codeAny (model X.prog X.w) A (.builtin "all.loop" ⟨[.ref a], []⟩) Rr s := by
  intro n
  induction n using Nat.strongRecOn with
  | ind n ih =>
    intro s hg hl ⟨gs, hgs, hgo⟩
    have hgl : g < s.gens.size := (Array.getElem?_eq_some_iff.mp hgs).1
    refine codeAny_builtin F.entry_all_loop ?_; rw [Around.under_plainId F.plain_all_loop _]
    show wpAny _ A.in1 (pyNext (.ref a) >>= _) _ _ s
    refine wpAny_bind (wpAny_gsz (n := g + 1) hgl (next_genG (A := A.in1) hh hl hd hg hgs hgo (fun v s₁ gs' hbare hv => ?_) (fun s₁ hp h' hk => ?_) fun e s₁ he => he.elim))
    · intro hsz
      obtain ⟨m, ys, y, σz, Hz, ps, hm, rv, hps, _, J, ⟨b, eb, hb⟩, hkap⟩ := hv
      subst eb
      have eps : ps = [] := hps
      subst eps
      have ev : v = Value.bool b := rv
      subst ev
      obtain ⟨I1, g1⟩ := fin _ _ _ _ J
      have hsz1 : g < s₁.gens.size := by
        have q1 : (s₁.setGen g gs').gens.size = s₁.gens.size := setGen_size _ _ _
        have q2 : g + 1 ≤ (s₁.setGen g gs').gens.size := hsz
        omega
      have bare2 : AllBare (s₁.setGen g gs').gens := allBare_setGen I1.bare hbare
      refine wpAny_bind (wpAny_holding (wpAny_truthy_bool ?_))
      refine wpAny_bind (wpAny_letGo ?_)
      cases b with
      | true =>
        obtain ⟨m', hm', hw⟩ : ∃ m', m' < m ∧ W m' (ys ++ [V.bl true]) Hz := by simpa using hb
        simp only [if_true]
        cases n with
        | zero => omega
        | succ n =>
          refine wpAny_pure ⟨plainId_quiet F.plain_all_loop _, ih n (Nat.lt_succ_self n) (s₁.setGen g gs') g1 I1.nolimit ⟨gs', setGen_at hsz1, ?_⟩⟩
          exact hkap ((s₁.setGen g gs').setGen g .running) ⟨rfl, allBare_setGen bare2 rfl, fun b o _ e => e, fun S z => by cases z⟩ m' hm' hw
      | false =>
        have hq : Qb false Hz := by simpa using hb
        simp only [Bool.false_eq_true, if_false]
        exact wpAny_bind (wpAny_rule (wpAny_pure (hdone false Hz _ (regens I1 rfl (fun _ _ e => e) bare2) hq)))
    · intro hsz
      obtain ⟨ys, σz, Hz, ps, hps, _, J, hq⟩ := hp
      have eps : ps = [] := hps
      subst eps
      obtain ⟨I1, g1⟩ := fin _ _ _ _ J
      exact wpAny_bind (wpAny_rule (wpAny_pure (hdone true Hz _ (regens I1 rfl (fun b o e => hk b o e) (allBare_setGen I1.bare rfl)) hq)))

/-- all(elt for x in iter) -/
def tAllG (P : Addr) (wi : TI) (te : TE) : TE := fun σ H Q => tGen P wi te (NyAll fun b H => Q (.bl b) H) (fun _ H => Q (.bl true) H) σ H
theorem pe_allG {elt iter : Expr} {px p pos gpos : Pos} {c P : Addr} {wi : TI} {te : TE} {k : Nat}
    (hr : Room (k + 3) X.A) (hg : Gl X "all") (hm : X.mg "all" = none) (TB : GxR.TabB X.base X.mg c P) (hcode : X.env.code = .ref c) (S : GSc sc x) (hi : PI X (.Name x px) iter wi)
    (he : ∀ (A : Around) (code : Value) (s4 : Shared) (H4 : Hp) (fp : List Addr), Room k (A.deeper (gE X sc s4.heap.objs.size code)) → PE (gCx X A sc x code s4 H4 fp) elt te)
    (hs : ∀ v, genFold iter X.env v = pure v)
    (hst : starEach [.GeneratorExp elt [⟨.Name x px, iter, [], 0⟩] sc gpos] X.env = (false, eval (.GeneratorExp elt [⟨.Name x px, iter, [], 0⟩] sc gpos) X.env) :: starEach [] X.env := by rfl) :
    PE X (.Call (.Name "all" p) [.GeneratorExp elt [⟨.Name x px, iter, [], 0⟩] sc gpos] [] pos) (tAllG P wi te) := by
  refine ⟨fun pins s σ H Q I h => ?_⟩
  have hb : bootBuiltins "all" = some (.builtin "all") := by decide +kernel
  refine wpAny_Call_Name_kw (ld_blt I hg hm hb (PyProof.Rows.callWith_builtin1 ?_ hst (by rfl)))
  rw [hst]
  show wpAny _ _ (spliced ((false, eval (.GeneratorExp elt [⟨.Name x px, iter, [], 0⟩] sc gpos) X.env) :: backTo pos (starEach [] X.env))) _ _ s
  refine Calls.spliced_cons (gx_make (k := k) (Rel := noRel) hr TB hcode S hi he hs I h fun a s5 hB => Calls.spliced_nil ?_)
  obtain ⟨g, cd, H4, hgen, hfresh, I5, ha, wake⟩ := hB
  refine call_function_tree F.kind_all F.plain_all F.entry_all (F.args_all1 _) ?_
  unfold Builtin.«all»
  refine wpAny_bind (m := oneArg "all" _) (wpAny_pure (wpAny_bind (wpAny_pyIter_gen hgen ?_)))
  obtain ⟨Z, q, W, m0, fin, seg⟩ := wake X.A.in1.in1 none (s5.setGen g .running) ((hr.mono (by omega : k + 1 + 1 + 1 ≤ k + 3)).in1.in1) I.ok.frames (fun S z => by cases z) (fun _ _ e => e) rfl (allBare_setGen I5.bare rfl)
  refine wpAny_pure ⟨plainId_quiet F.plain_all_loop _, all_turns (Qb := fun b H => Q (.bl b) H) hr.hd hr.depth fin (fun b H' s' I' hq => ?_) (m0 + 1) s5 hgen I5.nolimit ⟨_, hfresh, rfl, seg⟩⟩
  exact ⟨.bl b, H', I', rfl, hq⟩
end
end Gx

namespace Gx
open PySem PySem.Spec PyProof.Rows L2 GenW
section
variable {X : Cx} {pins : List (Addr × Obj)} {σ : L2.St} {H : Hp} {s : Shared} {sc : Scope} {x : Str}

theorem cmp_gt {prog : Program} {w : World} {A : Around} {E : Value → Shared → Prop} {i j : Int} {t u : Tok} {Q : Value → Shared → Prop} (h : Q (.bool (decide (i > j))) s) :
    wpAny (model prog w) A (richCompare .Gt (.int i t) (.int j u)) Q E s :=
  CmpOf.ints_gt (P := fun n v => ∃ t, v = .int (if n = 0 then i else j) t) (fun n => if n = 0 then i else j) (fun _ _ h => h) 0 1 _ _ s Q E ⟨t, rfl⟩ ⟨u, rfl⟩ h

def MaxRel (ys : List V) (acc : Array Value) : Prop :=
  ∃ ns : List Int, ys = ns.map V.int ∧ ((ns = [] ∧ acc = #[]) ∨ ∃ b t, acc = #[.int b t, .int b t] ∧ b ∈ ns ∧ ∀ z ∈ ns, z ≤ b)
def NyMax (W : WT) : Nat → List V → V → Hp → Prop := fun m ys y H => ∃ i : Int, y = .int i ∧ ∃ m', m' < m ∧ W m' (ys ++ [y]) H
def NsMax (Qm : Int → Hp → Prop) : List V → Hp → Prop := fun ys H => ∃ ns : List Int, ys = ns.map V.int ∧ ns ≠ [] ∧ ∀ b, b ∈ ns → (∀ z ∈ ns, z ≤ b) → Qm b H

theorem map_int_inj {a b : List Int} (h : a.map V.int = b.map V.int) : a = b := by
  induction a generalizing b with
  | nil => cases b with
    | nil => rfl
    | cons _ _ => cases h
  | cons x a ih => cases b with
    | nil => cases h
    | cons y b =>
      rw [List.map_cons, List.map_cons] at h
      injection h with h1 h2
      injection h1 with h1
      rw [h1, ih h2]

theorem MaxRel.first {i : Int} {t : Tok} {ys : List V} (h : MaxRel ys #[]) : MaxRel (ys ++ [.int i]) #[.int i t, .int i t] := by
  obtain ⟨ns, rfl, h | ⟨b, u, e, _⟩⟩ := h
  · rw [h.1]
    exact ⟨[i], rfl, .inr ⟨i, t, rfl, by simp, by simp⟩⟩
  · have := congrArg Array.size e
    simp at this
theorem MaxRel.more {i b : Int} {t u : Tok} {ys : List V} (h : MaxRel ys #[.int b u, .int b u]) : MaxRel (ys ++ [.int i]) (if decide (i > b) = true then #[.int i t, .int i t] else #[.int b u, .int b u]) := by
  obtain ⟨ns, rfl, h | ⟨b', u', e, hb, hm⟩⟩ := h
  · have := congrArg Array.size h.2
    simp at this
  · have e' : b = b' := by
      have := congrArg (fun a : Array Value => a[0]?) e
      simp at this
      exact this.1
    subst e'
    refine ⟨ns ++ [i], by simp, .inr ?_⟩
    by_cases hi : i > b
    · rw [if_pos (decide_eq_true hi)]
      refine ⟨i, t, rfl, by simp, fun z hz => ?_⟩
      rcases List.mem_append.mp hz with q | q
      · exact Int.le_of_lt (Int.lt_of_le_of_lt (hm z q) hi)
      · rw [List.mem_singleton.mp q]; exact Int.le_refl _
    · rw [if_neg (by rw [decide_eq_false hi]; exact Bool.false_ne_true)]
      refine ⟨b, u, rfl, List.mem_append_left _ hb, fun z hz => ?_⟩
      rcases List.mem_append.mp hz with q | q
      · exact hm z q
      · rw [List.mem_singleton.mp q]; omega
theorem MaxRel.last {b : Int} {u : Tok} {ys : List V} {Qm : Int → Hp → Prop} (h : MaxRel ys #[.int b u, .int b u]) (q : NsMax Qm ys H) : Qm b H := by
  obtain ⟨ns, rfl, h | ⟨b', u', e, hb, hm⟩⟩ := h
  · have := congrArg Array.size h.2
    simp at this
  · have e' : b = b' := by
      have := congrArg (fun a : Array Value => a[0]?) e
      simp at this
      exact this.1
    subst e'
    obtain ⟨ms, e1, _, hq⟩ := q
    rw [map_int_inj e1] at hb hm
    exact hq b hb hm
theorem MaxRel.none {ys : List V} {Qm : Int → Hp → Prop} (h : MaxRel ys #[]) (q : NsMax Qm ys H) : False := by
  obtain ⟨ns, rfl, h | ⟨b', u', e, hb, hm⟩⟩ := h
  · obtain ⟨ms, e1, h2, _⟩ := q
    rw [h.1] at e1
    exact h2 (map_int_inj e1).symm
  · have := congrArg Array.size e
    simp at this

/-- what stands at the consumer's list is what it read -/
theorem held_eq {S : Addr} {Rel : Array Value → Prop} {ps : List (Addr × Obj)} {s₀ : Shared} {acc : Array Value} {c : Nat} (hps : Held (some S) Rel ps) (h0 : ∀ p ∈ ps, s₀.heap.get? p.1 = some p.2) (hS : s₀.heap.get? S = some (lstObj acc c)) :
    ps = [(S, lstObj acc c)] ∧ Rel acc := by
  obtain ⟨acc', c', e, hR⟩ := hps
  subst e
  have q := h0 _ (List.mem_singleton.mpr rfl)
  rw [hS] at q
  injection q with q
  have q1 : (Data.seq acc c : Data) = Data.seq acc' c' := congrArg Obj.data q
  injection q1 with q1 q2
  subst q1 q2
  exact ⟨rfl, hR⟩

theorem max_turns {Z : Cx} {q : List (Addr × Obj)} {W : WT} {Qm : Int → Hp → Prop} {A : Around} {a S : Addr} {g : Nat} {Rr : Result → Shared → Prop} (hh : A.handled = none) (hd : A.depth < recursionLimit) (hSa : S ≠ a) (hSc : S ≠ cStatics)
    (fin : ∀ ps σz Hz s7, Inv Z (q ++ ps) σz Hz s7 → Inv X pins σ Hz s7 ∧ s7.heap.IsGen a g)
    (hin : ∀ (ps : List (Addr × Obj)) σz Hz s7 acc c s8, Inv Z (q ++ ps) σz Hz s7 → ps = [(S, lstObj acc c)] → (∀ b o, b ≠ S → s7.heap.get? b = some o → s8.heap.get? b = some o) → s8.os = s7.os → AllBare s8.gens → Inv X pins σ Hz s8)
    (hdone : ∀ b t H' s', Inv X pins σ H' s' → Qm b H' → Rr (.ok (.ret (.int b t))) s') :
    ∀ (n : Nat) (s : Shared) (acc : Array Value) (c : Nat), (acc = #[] ∨ ∃ b t, acc = #[.int b t, .int b t]) → s.heap.get? S = some (lstObj acc c) → s.heap.IsGen a g → s.heap.NoLimit →
      (∃ gs, s.gens[g]? = some gs ∧ gs.Goes (model X.prog X.w) A.in1.in1 (GRx Z q (some S) MaxRel (NsMax Qm)) (GYx Z q (some S) MaxRel W (NyMax W)) n (.send .none) (s.setGen g .running)) →
      codeAny (model X.prog X.w) A (.builtin "max.loop" ⟨[.ref a, .none, .ref S], []⟩) Rr s := by
  have hname : (toString "max" ++ toString ".loop" : String) = "max.loop" := by decide
  intro n
  induction n using Nat.strongRecOn with
  | ind n ih =>
    intro s acc c hacc hS hg hl ⟨gs, hgs, hgo⟩
    have hgl : g < s.gens.size := (Array.getElem?_eq_some_iff.mp hgs).1
    refine codeAny_builtin F.entry_max_loop ?_; rw [Around.under_plainId F.plain_max_loop _]
    show wpAny _ A.in1 (seqItems? (.ref S) >>= _) _ _ s
    refine wpAny_bind (wpAny_seqItems hS rfl ?_)
    have turn : ∀ (v : Value) (s₁ : Shared) (gs' : GenState) (m : Nat) (ys : List V) (i : Int) (t : Tok) (Hz : Hp) (σz : L2.St) (ps : List (Addr × Obj)) (acc2 : Array Value), g < s₁.gens.size → gs'.bare = true → v = .int i t → m < n + 1 → ps = [(S, lstObj acc c)] → Inv Z (q ++ ps) σz Hz s₁ →
        (∃ m', m' < m ∧ W m' (ys ++ [.int i]) Hz) → MaxRel (ys ++ [.int i]) acc2 → (∃ b t, acc2 = #[.int b t, .int b t]) →
        (∀ s', Woke (some S) (MaxRel (ys ++ [.int i])) s₁ s' → ∀ m', m' < m → W m' (ys ++ [.int i]) Hz → (match (generalizing := false) n with | 0 => False | k + 1 => gs'.Goes (model X.prog X.w) A.in1.in1 (GRx Z q (some S) MaxRel (NsMax Qm)) (GYx Z q (some S) MaxRel W (NyMax W)) k (.send .none) s')) →
        ∀ (s2 : Shared) (c2 : Nat), s2.heap.get? S = some (lstObj acc2 c2) → (∀ b o, b ≠ S → s₁.heap.get? b = some o → s2.heap.get? b = some o) → s2.os = s₁.os → s2.gens = (s₁.setGen g gs').gens →
          codeAny (model X.prog X.w) A (.builtin "max.loop" ⟨[.ref a, .none, .ref S], []⟩) Rr s2 := by
      intro v s₁ gs' m ys i t Hz σz ps acc2 hsz hbare _ hm hps J ⟨m', hm', hw⟩ hR hacc2 hkap s2 c2 hS2 k2 os2 gens2
      cases n with
      | zero => omega
      | succ n =>
        obtain ⟨I1, g1⟩ := fin _ _ _ _ J
        have bare2 : AllBare (s₁.setGen g gs').gens := allBare_setGen I1.bare hbare
        have I2 := hin _ _ _ _ _ _ s2 J hps k2 os2 (by rw [gens2]; exact bare2)
        have size2 : g < s2.gens.size := by
          rw [gens2, setGen_size]; exact hsz
        refine ih n (Nat.lt_succ_self n) s2 acc2 c2 (.inr hacc2) hS2 ?_ I2.nolimit ⟨gs', ?_, ?_⟩
        · obtain ⟨o, nm, qn, ho, r⟩ := g1
          exact ⟨o, nm, qn, k2 a o (Ne.symm hSa) ho, r⟩
        · rw [gens2]; exact setGen_at hsz
        · refine hkap (s2.setGen g .running) ⟨os2, allBare_setGen I2.bare rfl, fun b o hb e => k2 b o (fun z => hb (by rw [z])) e, fun S' z => ?_⟩ m' hm' hw
          cases z
          exact ⟨acc2, c2, hS2, hR⟩
    have nx : ∀ (Q : Option Value → Shared → Prop) (E : Value → Shared → Prop),
        (∀ (v : Value) (s₁ : Shared) (gs' : GenState), gs'.bare = true → g < s₁.gens.size → GYx Z q (some S) MaxRel W (NyMax W) (n - 1) (s.setGen g .running) v s₁ (fun r' s'' => match (generalizing := false) n with
            | 0 => False
            | m + 1 => gs'.Goes (model X.prog X.w) A.in1.in1 (GRx Z q (some S) MaxRel (NsMax Qm)) (GYx Z q (some S) MaxRel W (NyMax W)) m r' s'') → Q (some v) (s₁.setGen g gs')) →
        (∀ s₁, GFx Z q (some S) MaxRel (NsMax Qm) (s.setGen g .running) s₁ → ∀ h', (∀ b o, s₁.heap.get? b = some o → h'.get? b = some o) → Q none { s₁.setGen g .finished with heap := h' }) →
        wpAny (model X.prog X.w) A.in1 (pyNext (.ref a)) Q E s := fun Q E hY hP =>
      wpAny_gsz (n := g + 1) hgl (next_genG (A := A.in1) hh hl hd hg hgs hgo (fun v s₁ gs' hbare hv hsz => hY v s₁ gs' hbare (by
        have q1 : (s₁.setGen g gs').gens.size = s₁.gens.size := setGen_size _ _ _
        have q2 : g + 1 ≤ (s₁.setGen g gs').gens.size := hsz
        omega) hv) (fun s₁ hp h' hk _ => hP s₁ hp h' hk) fun e s₁ he => he.elim)
    rcases hacc with rfl | ⟨b, tb, rfl⟩
    · show wpAny _ A.in1 (tryCatch (pyNext (.ref a)) _ >>= _) _ _ s
      refine wpAny_bind (wpAny_tryCatch (nx _ _ (fun v s₁ gs' hbare hsz hv => ?_) fun s₁ hp h' hk => ?_))
      · obtain ⟨m, ys, y, σz, Hz, ps, hm, rv, hps, h0, J, ⟨i, ey, hw⟩, hkap⟩ := hv
        subst ey
        obtain ⟨t, rfl⟩ := rv
        obtain ⟨eps, hR⟩ := held_eq hps h0 hS
        have hS1 : s₁.heap.get? S = some (lstObj #[] c) := (J.pin (S, lstObj #[] c) (List.mem_append_right _ (List.mem_append_right _ (by rw [eps]; exact List.mem_singleton.mpr rfl)))).1
        show wpAny _ A.in1 (updateSeq S (fun _ => #[.int i t, .int i t]) >>= _) _ _ _
        refine wpAny_bind (wpAny_updateSeq hS1 rfl ?_)
        rw [hname]
        refine wpAny_pure ⟨plainId_quiet F.plain_max_loop _, turn _ s₁ gs' m ys i t Hz σz ps #[.int i t, .int i t] hsz hbare rfl (by omega) eps J hw hR.first ⟨i, t, rfl⟩ hkap _ _ (Heap.get?_update_self _ hS1 rfl) (fun b o hb e => (Heap.get?_update_other _ _ (Ne.symm hb)).trans e) rfl rfl⟩
      · obtain ⟨ys, σz, Hz, ps, hps, h0, J, hq⟩ := hp
        obtain ⟨eps, hR⟩ := held_eq hps h0 hS
        exact (hR.none hq).elim
    · show wpAny _ A.in1 (tryCatch (pyNext (.ref a)) _ >>= _) _ _ s
      refine wpAny_bind (wpAny_tryCatch (nx _ _ (fun v s₁ gs' hbare hsz hv => ?_) fun s₁ hp h' hk => ?_))
      · obtain ⟨m, ys, y, σz, Hz, ps, hm, rv, hps, h0, J, ⟨i, ey, hw⟩, hkap⟩ := hv
        subst ey
        obtain ⟨t, rfl⟩ := rv
        obtain ⟨eps, hR⟩ := held_eq hps h0 hS
        have hS1 : s₁.heap.get? S = some (lstObj #[.int b tb, .int b tb] c) := (J.pin (S, lstObj _ c) (List.mem_append_right _ (List.mem_append_right _ (by rw [eps]; exact List.mem_singleton.mpr rfl)))).1
        have hR2 := hR.more (i := i) (t := t)
        show wpAny _ A.in1 (tryCatch (holding [.int i t, .int i t] (richCompare .Gt (.int i t) (.int b tb) >>= _)) _ >>= _) _ _ _
        refine wpAny_bind (wpAny_tryCatch (wpAny_holding (wpAny_bind (cmp_gt ?_))))
        refine wpAny_bind (wpAny_holding (wpAny_truthy_bool ?_))
        refine wpAny_bind (wpAny_letGo (wpAny_pure ?_))
        cases hb : decide (i > b) with
        | true =>
          rw [if_pos hb] at hR2
          simp only [if_true]
          refine wpAny_bind (wpAny_updateSeq hS1 rfl (wpAny_bind (wpAny_letGo ?_)))
          rw [hname]
          refine wpAny_pure ⟨plainId_quiet F.plain_max_loop _, turn _ s₁ gs' m ys i t Hz σz ps #[.int i t, .int i t] hsz hbare rfl (by omega) eps J hw hR2 ⟨i, t, rfl⟩ hkap _ _ (Heap.get?_update_self _ hS1 rfl) (fun b o hb e => (Heap.get?_update_other _ _ (Ne.symm hb)).trans e) rfl rfl⟩
        | false =>
          rw [if_neg (by rw [hb]; exact Bool.false_ne_true)] at hR2
          simp only [Bool.false_eq_true, if_false]
          refine wpAny_bind (wpAny_letGo ?_)
          rw [hname]
          exact wpAny_pure ⟨plainId_quiet F.plain_max_loop _, turn _ s₁ gs' m ys i t Hz σz ps #[.int b tb, .int b tb] hsz hbare rfl (by omega) eps J hw hR2 ⟨b, tb, rfl⟩ hkap _ c hS1 (fun _ _ _ e => e) rfl rfl⟩
      · obtain ⟨ys, σz, Hz, ps, hps, h0, J, hq⟩ := hp
        obtain ⟨eps, hR⟩ := held_eq hps h0 hS
        have hS1 : s₁.heap.get? S = some (lstObj #[.int b tb, .int b tb] c) := (J.pin (S, lstObj _ c) (List.mem_append_right _ (List.mem_append_right _ (by rw [eps]; exact List.mem_singleton.mpr rfl)))).1
        obtain ⟨I1, g1⟩ := fin _ _ _ _ J
        show wpAny _ A.in1 (updateSeq S (fun _ => #[]) >>= _) _ _ _
        refine wpAny_bind (wpAny_updateSeq (hk _ _ hS1) rfl (wpAny_bind (wpAny_letGo (wpAny_pure ?_))))
        refine hdone b tb Hz _ (hin _ _ _ _ _ _ _ J eps (fun d o hd' e => (Heap.get?_update_other _ _ (Ne.symm hd')).trans (hk d o e)) rfl (allBare_setGen I1.bare rfl)) (hR.last hq)

/-- max(elt for x in iter), whole numbers -/
def tMaxG (P : Addr) (wi : TI) (te : TE) : TE := fun σ H Q => tGen P wi te NyMax (NsMax fun b H => Q (.int b) H) σ H
theorem pe_maxG {elt iter : Expr} {px p pos gpos : Pos} {c P : Addr} {wi : TI} {te : TE} {k : Nat}
    (hr : Room (k + 3) X.A) (hg : Gl X "max") (hm : X.mg "max" = none) (TB : GxR.TabB X.base X.mg c P) (hcode : X.env.code = .ref c) (Sc : GSc sc x) (hi : PI X (.Name x px) iter wi)
    (he : ∀ (A : Around) (code : Value) (s4 : Shared) (H4 : Hp) (fp : List Addr), Room k (A.deeper (gE X sc s4.heap.objs.size code)) → PE (gCx X A sc x code s4 H4 fp) elt te)
    (hs : ∀ v, genFold iter X.env v = pure v)
    (hst : starEach [.GeneratorExp elt [⟨.Name x px, iter, [], 0⟩] sc gpos] X.env = (false, eval (.GeneratorExp elt [⟨.Name x px, iter, [], 0⟩] sc gpos) X.env) :: starEach [] X.env := by rfl) :
    PE X (.Call (.Name "max" p) [.GeneratorExp elt [⟨.Name x px, iter, [], 0⟩] sc gpos] [] pos) (tMaxG P wi te) := by
  have hname : (toString "max" ++ toString ".loop" : String) = "max.loop" := by decide
  refine ⟨fun pins s σ H Q I h => ?_⟩
  have hb : bootBuiltins "max" = some (.builtin "max") := by decide +kernel
  refine wpAny_Call_Name_kw (ld_blt I hg hm hb (PyProof.Rows.callWith_builtin1 ?_ hst (by rfl)))
  rw [hst]
  show wpAny _ _ (spliced ((false, eval (.GeneratorExp elt [⟨.Name x px, iter, [], 0⟩] sc gpos) X.env) :: backTo pos (starEach [] X.env))) _ _ s
  refine Calls.spliced_cons (gx_make (k := k) (Rel := MaxRel) hr TB hcode Sc hi he hs I h fun a s5 hB => Calls.spliced_nil ?_)
  obtain ⟨g, cd, H4, hgen, hfresh, I5, ha, wake⟩ := hB
  refine call_function_tree F.kind_max F.plain_max F.entry_max (F.args_max1 _) ?_
  show wpAny _ X.A.in1 (Builtin.Builtins.bindParams "max" ["key", "default"] 0 ⟨[], []⟩ >>= _) _ _ s5
  refine wpAny_bind (wpAny_of_eq (show Builtin.Builtins.bindParams "max" ["key", "default"] 0 ⟨[], []⟩ = pure [none, none] from rfl) ?_)
  refine wpAny_bind (wpAny_pure (wpAny_bind (wpAny_pyIter_gen hgen ?_)))
  refine wpAny_bind (wpAny_newObj_type ?_)
  rw [hname]
  have hS5 : (s5.heap.push { cls := .type "list", data := .seq #[] }).get? s5.heap.objs.size = some (lstObj #[] 0) := Heap.get?_push_size _ rfl
  have kp5 : ∀ b o, s5.heap.get? b = some o → (s5.heap.push { cls := .type "list", data := .seq #[] }).get? b = some o := fun b o e => Heap.get?_push_of_some _ e
  have I6 : Inv X pins σ H4 { s5 with heap := s5.heap.push { cls := .type "list", data := .seq #[] } } := regens I5 rfl kp5 I5.bare
  obtain ⟨Z, q, W, m0, fin, seg⟩ := wake X.A.in1.in1 (some s5.heap.objs.size) (({ s5 with heap := s5.heap.push { cls := .type "list", data := .seq #[] } } : Shared).setGen g .running) ((hr.mono (by omega : k + 1 + 1 + 1 ≤ k + 3)).in1.in1) I.ok.frames
    (fun S z => by cases z; exact ⟨Nat.le_refl _, #[], 0, hS5, [], rfl, .inl ⟨rfl, rfl⟩⟩) kp5 rfl (allBare_setGen I6.bare rfl)
  have hcl : cStatics < s5.heap.objs.size := let ⟨_, hn, _⟩ := I5.nolimit; hn.lt
  refine wpAny_pure ⟨plainId_quiet F.plain_max_loop _, max_turns (Qm := fun b H => Q (.int b) H) hr.hd hr.depth (Nat.ne_of_gt ha) (Nat.ne_of_gt hcl) fin (fun ps σz Hz s7 acc c' s8 J eps k8 o8 b8 => ?_) (fun b t H' s' I' hq => ?_) (m0 + 1) _ #[] 0 (.inl rfl) hS5 (hgen.keeps kp5) I6.nolimit ⟨_, hfresh, rfl, seg⟩⟩
  · subst eps
    obtain ⟨h1, h2, h3, h4, _⟩ := J.pin (s5.heap.objs.size, lstObj acc c') (List.mem_append_right _ (List.mem_append_right _ (List.mem_singleton.mpr rfl)))
    obtain ⟨I7, _⟩ := fin _ _ _ _ J
    have ni : ∀ b : Addr, b ∉ [s5.heap.objs.size] → b ≠ s5.heap.objs.size := fun b hb e => hb (by rw [e]; exact List.mem_singleton.mpr rfl)
    have nS : ∀ b u, Hz b = some u → b ≠ s5.heap.objs.size := fun b u e z => by rw [z, h2] at e; cases e
    have kp8 : ∀ b o, b ∉ [s5.heap.objs.size] → s7.heap.get? b = some o → s8.heap.get? b = some o := fun b o hb e => k8 b o (ni b hb) e
    refine I7.call' (ch := [s5.heap.objs.size]) o8 ⟨fun b o e _ _ hx => kp8 b o hx e, fun b o e _ _ hx => ⟨o.slots, kp8 b o hx e⟩, fun _ _ _ n _ => n, fun b o e hx => ⟨o, kp8 b o hx e⟩,
      fun _ _ e => e, fun _ _ _ e => e, fun _ _ e => ⟨#[], by rw [e]; simp⟩⟩ (fun b u e => ?_) b8 fun b hb => ?_
    · refine (I7.hok b u e).stay (fun d v hd z => k8 d v ?_ z) (fun _ z => z) fun _ _ z => z
      rcases hd with z | z
      · rw [z]; exact nS b u e
      · exact nS d _ z
    · rw [List.mem_singleton.mp hb]
      obtain ⟨_, a2, _, a4, a5, a6⟩ := I5.fpOk (Nat.le_refl _) h2
      exact ⟨a4, a2, a5, a6⟩
  · exact ⟨.int b, H', I', ⟨t, rfl⟩, hq⟩
end
end Gx

namespace TG
open PySem L2
def top (i : Nat) : Stmt := PySem.Challenge.pw_tabgrow_k05_whole_lined_up_and_no_wider.main.body.getD i (.Pass ⟨0, 0, 0, 0⟩)
abbrev s_is_whole : Stmt := top 13
abbrev s_is_sign : Stmt := top 14
abbrev s_is_text : Stmt := top 15
abbrev s_is_row : Stmt := top 16
abbrev s_misfit : Stmt := top 17
abbrev s_check_page : Stmt := top 18
abbrev s_check_style : Stmt := top 19
abbrev s_stretches : Stmt := top 21
abbrev s_closed_runs : Stmt := top 22
abbrev s_is_closed : Stmt := top 23
abbrev s_described : Stmt := top 24
abbrev s_stands_right : Stmt := top 25
abbrev s_is_figures : Stmt := top 26
abbrev s_stops : Stmt := top 28
abbrev s_laid : Stmt := top 29
abbrev s_closed_cells : Stmt := top 30
abbrev s_left_ends : Stmt := top 31
abbrev s_begins_of : Stmt := top 32
abbrev s_begun : Stmt := top 34
abbrev s_take : Stmt := top 35
abbrev s_alike : Stmt := top 36
abbrev s_sign : Stmt := top 37
abbrev s_cell : Stmt := top 38
abbrev s_row : Stmt := top 39
abbrev s_page : Stmt := top 40
abbrev s_style : Stmt := top 41
abbrev s_mates : Stmt := top 42
abbrev s_others : Stmt := top 43
abbrev s_law : Stmt := top 44
/-- the built-ins that the text calls are the built-ins still -/
structure Txt (mg : Str → Option Value) : Prop where
  isin : mg "isinstance" = none
  len : mg "len" = none
  range : mg "range" = none
  max : mg "max" = none
  min : mg "min" = none
  all : mg "all" = none
  str : mg "str" = none
  int : mg "int" = none
  bool : mg "bool" = none
  list : mg "list" = none
  tuple : mg "tuple" = none
  enum : mg "enumerate" = none
  ord : mg "ord" = none
/-! ### the box of draws -/
def BoxAt (H : Hp) (b l : Addr) : Prop := ∃ (ns : List Int) (st : Int), H b = some (.lst [.ref l, .int st]) ∧ H l = some (.lst (ns.map V.int)) ∧ ns.length ≤ 63
/-- all but the box stays -/
def KB (b l : Addr) (H H' : Hp) : Prop := ∀ c o, H c = some o → c ≠ b → c ≠ l → H' c = some o
theorem KB.refl {b l : Addr} {H : Hp} : KB b l H H := fun _ _ h _ _ => h
theorem KB.trans {b l : Addr} {H H1 H2 : Hp} (x : KB b l H H1) (y : KB b l H1 H2) : KB b l H H2 := fun c o h n m => y c o (x c o h n m) n m
theorem box_ne {H : Hp} {b l : Addr} (x : BoxAt H b l) : b ≠ l := by
  obtain ⟨ns, st, h1, h2, _⟩ := x
  refine ne_of h1 h2 fun z => ?_
  injection z with z
  cases ns with
  | nil => cases z
  | cons n ns =>
    rw [List.map_cons] at z
    injection z with z _
    cases z
theorem nz {i : Int} (h : i ≠ 0) : i ≠ 0 := h
theorem at0 {α : Type} {v : α} {xs : List α} : atI (v :: xs) 0 = some v := atI_nat (j := 0) rfl
theorem ix0 {n : Nat} : ixN (n + 1) 0 = some 0 := by
  unfold ixN
  rw [if_pos (by decide), if_pos (by omega)]
  rfl
theorem small0 : ([] : List V).length ≤ sizeLine := Nat.zero_le _
theorem dp_ints {K : PySem.W.Frag} {H : Hp} : ∀ ns : List Int, DpAll K H (ns.map V.int) (ns.map PyData.int)
  | [] => .nil
  | n :: ns => .cons (.int n) (dp_ints ns)
theorem canAll_ints : ∀ ns : List Int, PyData.canLayAll0 (ns.map PyData.int) = true
  | [] => rfl
  | _ :: r => by simp [PyData.canLayAll0, PyData.canLay0, canAll_ints r]
theorem depthAll_ints : ∀ ns : List Int, PyData.depthAll (ns.map PyData.int) = 0
  | [] => rfl
  | _ :: r => by simp [PyData.depthAll, PyData.depth, depthAll_ints r]
theorem shaped_of_ints (ns : List Int) : SeqAt.shaped (.list (ns.map PyData.int)) = true := by
  simp [SeqAt.shaped, PyData.canLay0, PyData.depth, canAll_ints, depthAll_ints]
def spTake : Sp := fun vs H Q _ => ∃ (b l : Addr) (many : Int), vs = [.ref b, .int many] ∧ BoxAt H b l ∧ 0 < many ∧ many < 1073741824 ∧
  ∀ (r : Int) (H' : Hp), 0 ≤ r → r < many → BoxAt H' b l → KB b l H H' → Q (.int r) H'
section
variable {P : Program} {w : World} {K : PySem.W.Frag} {mg : Str → Option Value} {base : Heap}
theorem sc_take : FnScope ["_law_box", "_law_many", "_law_number"] ["_law_box", "_law_many"] (defScope s_take) := ⟨rfl, rfl, rfl, by decide +kernel, rfl, by decide +kernel, by decide +kernel⟩
theorem ok_take {f : Addr} {fd : FuncData} (F : Fun K "_law_take" "_law_take" s_take f fd) : FnOk P w K mg base CX0 1 f fd ["_law_box", "_law_many"] spTake := by
  refine F.ok sc_take (fun vs H Q E h => ?_) (fun cdv A outer s H vs Q E hr h => ?_)
  · obtain ⟨b, l, many, rfl, _⟩ := h
    rfl
  · obtain ⟨b, l, many, rfl, hB, m0, m1, k⟩ := h
    have nd := sc_take.nd
    have hu := hr.units
    refine ⟨_, pss_cons (ps_if (pt_cmpR (op_eqD hu) (pe_ix ix_list (pv 0) pe_int (fun _ _ => rfl)) (pe_lst pa_nil) (nomark _))
        (pss_cons (ps_asg (pe_op op_modN (pe_op op_mul (pe_ix ix_list (pv 0) pe_int (fun _ _ => rfl)) pe_int) pe_int) (pg_sub (pv 0) pe_int set_list))
          (pss_one (ps_ret (pe_op op_modN (pe_op op_fdivN (pe_ix ix_list (pv 0) pe_int (fun _ _ => rfl)) pe_int) (pv 1))))) pss_nil)
      (pss_cons (ps_set (i := 2) nd rfl (.inl rfl) (pe_ix ix_list (pe_ix ix_list (pv 0) pe_int (fun _ _ => rfl)) pe_int (fun _ _ => rfl)))
      (pss_cons (ps_asg (pe_op op_fdivN (pv 2) (pv 1)) (pg_sub (pe_ix ix_list (pv 0) pe_int (fun _ _ => rfl)) pe_int set_list))
      (pss_cons (ps_if (PW.pt (pw_or (pt_cmpR op_eq (pe_ix ix_list (pe_ix ix_list (pv 0) pe_int (fun _ _ => rfl)) pe_int (fun _ _ => rfl)) pe_int (nomark _)) (pw_or1 (pt_cmpR op_eq (pe_ix ix_list (pe_ix ix_list (pv 0) pe_int (fun _ _ => rfl)) pe_int (fun _ _ => rfl)) (pe_un un_neg pe_int) (nomark _)))))
          (pss_one (ps_expr (pe_bm PySem.F.plainAttrs_list PySem.F.slot_list_pop PySem.F.type_list_pop mt_popAt (pe_ix ix_list (pv 0) pe_int (fun _ _ => rfl)) (pa_cons pe_int pa_nil)))) pss_nil)
      (pss_one (ps_ret (pe_op op_modN (pv 2) (pv 1))))))), ?_⟩
    obtain ⟨ns, st, h1, h2, h3⟩ := id hB
    have nbl := box_ne hB
    have len2 : ∀ o, (upd H b o) l = some (.lst (ns.map V.int)) := fun o => by rw [upd_ne nbl.symm]; exact h2
    -- _law_box[0] == []
    refine ⟨_, rfl, b, _, 0, .ref l, rfl, rfl, SqL.of h1, rfl, small0, fun p np => ?_⟩
    have npb : b ≠ p := ne_of_none h1 np
    have npl : l ≠ p := ne_of_none h2 np
    have g1 : (upd H p (.lst [])) b = some (.lst [.ref l, .int st]) := by rw [upd_ne npb]; exact h1
    have g2 : (upd H p (.lst [])) l = some (.lst (ns.map V.int)) := by rw [upd_ne npl]; exact h2
    have kp : KB b l H (upd H p (.lst [])) := fun c o e _ _ => by rw [upd_ne (ne_of_none e np)]; exact e
    refine ⟨.list (ns.map PyData.int), .list [], .lst (SqL.of g2) (dp_ints ns), .lst (SqL.of upd_same) .nil, shaped_of_ints ns, rfl, _, rfl, ?_⟩
    cases ns with
    | nil =>
      refine iteT ?_
      refine ⟨_, rfl, b, _, 1, .int st, rfl, rfl, SqL.of g1, rfl, st, 48271, rfl, rfl, .inr (by decide), _, _, rfl, rfl, nz (by decide), _, rfl, b, _, 1, 1, rfl, rfl, g1, rfl, ?_⟩
      refine ⟨_, rfl, b, _, 1, _, rfl, rfl, SqL.of upd_same, rfl, _, _, rfl, rfl, ⟨by decide, by decide⟩, _, rfl, _, _, rfl, rfl, nz (by omega), ?_⟩
      refine k _ _ (Int.fmod_nonneg_of_pos _ m0) (Int.fmod_lt_of_pos _ m0) ⟨[], _, upd_same, by rw [upd_ne nbl.symm]; exact g2, h3⟩ fun c o e hc hl => ?_
      rw [upd_ne hc]
      exact kp c o e hc hl
    | cons n ns =>
      refine iteF ?_
      refine ⟨_, rfl, b, _, 0, .ref l, rfl, rfl, SqL.of g1, rfl, l, _, 0, .int n, rfl, rfl, SqL.of g2, at0, ?_⟩
      refine ⟨_, rfl, _, rfl, n, many, rfl, rfl, ⟨by omega, by omega⟩, _, rfl, b, _, 0, .ref l, rfl, rfl, SqL.of g1, rfl, l, _, 0, 0, rfl, rfl, g2, ix0, ?_⟩
      have j1 : ∀ o, (upd (upd H p (.lst [])) l o) b = some (.lst [.ref l, .int st]) := fun o => by rw [upd_ne nbl]; exact g1
      have kl : ∀ o, KB b l H (upd (upd H p (.lst [])) l o) := fun o c u e hc hl => by rw [upd_ne hl]; exact kp c u e hc hl
      have fin : ∀ ms : List Int, ms.length ≤ 63 → Q (.int (n.fmod many)) (upd (upd H p (.lst [])) l (.lst (ms.map V.int))) := fun ms hm =>
        k _ _ (Int.fmod_nonneg_of_pos _ m0) (Int.fmod_lt_of_pos _ m0) ⟨ms, st, j1 _, upd_same, hm⟩ (kl _)
      have e0 : (List.map V.int (n :: ns)).set 0 (V.int (n.fdiv many)) = List.map V.int (n.fdiv many :: ns) := rfl
      rw [e0]
      -- == 0 or == -1
      refine ⟨_, rfl, b, _, 0, .ref l, rfl, rfl, SqL.of (j1 _), rfl, l, _, 0, .int (n.fdiv many), rfl, rfl, SqL.of upd_same, at0, rfl, _, rfl, ?_⟩
      have done : ∀ H', (∃ ms : List Int, ms.length ≤ 63 ∧ H' = upd (upd H p (.lst [])) l (.lst (ms.map V.int))) → ∃ v, ([some (V.ref b), some (V.int many), some (V.int n)] : L2.St)[2]? = some (some v) ∧ ∃ v_1, ([some (V.ref b), some (V.int many), some (V.int n)] : L2.St)[1]? = some (some v_1) ∧ ∃ i j, v = V.int i ∧ v_1 = V.int j ∧ j ≠ 0 ∧ Q (V.int (i.fmod j)) H' := fun H' ⟨ms, hm, e⟩ => by
        subst e
        exact ⟨_, rfl, _, rfl, n, many, rfl, rfl, nz (by omega), fin ms hm⟩
      have pop : ∀ Z : VK, (∀ y H', H' = upd (upd H p (.lst [])) l (.lst (ns.map V.int)) → Z y H') → rPopAt (.ref l) [.int 0] (upd (upd H p (.lst [])) l (.lst (List.map V.int (n.fdiv many :: ns)))) Z := fun Z hZ =>
        ⟨l, _, 0, 0, _, rfl, rfl, upd_same, by decide, by decide, by simp [seqIndex?], rfl, hZ _ _ (by rw [upd_upd]; rfl)⟩
      have h3' : ns.length ≤ 63 := by simp at h3; omega
      by_cases hz : n.fdiv many = 0
      · rw [decide_eq_true (show V.int (n.fdiv many) = V.int 0 by rw [hz])]
        refine iteT (iteT ⟨_, rfl, b, _, 0, .ref l, rfl, rfl, SqL.of (j1 _), rfl, .inl ⟨rfl, _, SqL.of upd_same⟩, pop _ fun y H' e => done H' ⟨ns, h3', e⟩⟩)
      · rw [decide_eq_false (show ¬ V.int (n.fdiv many) = V.int 0 from fun z => hz (by injection z))]
        refine iteF ⟨_, rfl, b, _, 0, .ref l, rfl, rfl, SqL.of (j1 _), rfl, l, _, 0, .int (n.fdiv many), rfl, rfl, SqL.of upd_same, at0, 1, rfl, rfl, _, rfl, ?_⟩
        refine ite2 (fun _ => ⟨_, rfl, b, _, 0, .ref l, rfl, rfl, SqL.of (j1 _), rfl, .inl ⟨rfl, _, SqL.of upd_same⟩, pop _ fun y H' e => done H' ⟨ns, h3', e⟩⟩) fun _ => ?_
        exact done _ ⟨n.fdiv many :: ns, h3, rfl⟩
end
end TG

namespace TG
open PySem L2
section
variable {P : Program} {w : World} {K : PySem.W.Frag} {mg : Str → Option Value} {base : Heap}
/-! ### _law_begun -/
def spBegun (K : PySem.W.Frag) : Sp := fun vs H Q _ => ∃ (a : Addr) (ns : List Int), vs = [.ref a] ∧ SqL K H a (ns.map V.int) ∧ ns.length ≤ 63 ∧
  ∀ (b l : Addr) (H' : Hp), BoxAt H' b l → Same H H' → H b = none → H l = none → Q (.ref b) H'
theorem sc_begun : FnScope ["_law_script", "_law_stirred", "_law_cell_here"] ["_law_script"] (defScope s_begun) := ⟨rfl, rfl, rfl, by decide +kernel, rfl, by decide +kernel, by decide +kernel⟩
theorem ok_begun {f : Addr} {fd : FuncData} (T : Txt mg) (F : Fun K "_law_begun" "_law_begun" s_begun f fd) : FnOk P w K mg base CX0 1 f fd ["_law_script"] (spBegun K) := by
  refine F.ok sc_begun (fun vs H Q E h => ?_) (fun cdv A outer s H vs Q E hr h => ?_)
  · obtain ⟨a, ns, rfl, _⟩ := h
    rfl
  · obtain ⟨a, ns, rfl, hS, hl, k⟩ := h
    have nd := sc_begun.nd
    refine ⟨_, pss_cons (ps_set (i := 1) nd rfl (.inl rfl) pe_int) (pss_cons (ps_for PassesOwn.never rfl (pi_list (pv 0)) (pg_name (i := 2) nd rfl (.inl rfl))
        (pss_one (ps_set (i := 1) nd rfl (.inl rfl) (pe_op op_modN (pe_op op_add (pe_op op_add (pe_op op_mul (pv 1) pe_int) (pe_op op_mul (pv 2) pe_int)) pe_int) pe_int))))
      (pss_one (ps_ret (pe_lst (pa_cons (pe_callTy call_list_of (by rfl) T.list (by decide +kernel) (pa_cons (pv 0) pa_nil))
        (pa_cons (pe_op op_mul (pv 1) (pe_callTy call_int1 (by rfl) T.int (by decide +kernel) (pa_cons (pe_cmpR op_gt (pe_callB call_len_seq (by rfl) T.len PySem.boot_len (pa_cons (pv 0) pa_nil)) pe_int (nomark _)) pa_nil))) pa_nil)))))), ?_⟩
    refine ⟨_, rfl, a, rfl, ⟨_, hS⟩, for_list (xs := ns.map V.int) (fun _ σ H1 => H1 = H ∧ ∃ st c, σ = [some (.ref a), some (.int st), c]) ⟨rfl, 0, _, rfl⟩ (fun i σ H1 _ p => by rw [p.1]; exact hS) ?_ ?_⟩
    · rintro i x σ H1 hx ⟨rfl, st, c, rfl⟩
      obtain ⟨n, rfl⟩ : ∃ n, x = V.int n := by
        rw [List.getElem?_map] at hx
        cases e : ns[i]? with
        | none => rw [e] at hx; cases hx
        | some n => rw [e] at hx; cases hx; exact ⟨n, rfl⟩
      exact ⟨_, rfl, st, 48271, rfl, rfl, .inr (by decide), _, rfl, n, 69621, rfl, rfl, .inr (by decide), _, _, rfl, rfl, _, 11, rfl, rfl, _, 2147483647, rfl, rfl, nz (by decide), rfl, _, _, rfl⟩
    · rintro σ H1 ⟨rfl, st, c, rfl⟩
      refine ⟨_, rfl, a, _, rfl, .inl hS, fun l nl => ?_⟩
      have hS2 : SqL K (upd H1 l (.lst (ns.map V.int))) a (ns.map V.int) := by
        rcases hS with (z | ⟨o, z⟩) | z
        · exact .inl (.inl (by rw [upd_ne (ne_of_none z nl)]; exact z))
        · exact .inl (.inr ⟨o, by rw [upd_ne (ne_of_none z nl)]; exact z⟩)
        · exact .inr z
      refine ⟨_, rfl, _, rfl, a, _, rfl, .inl hS2, _, 2, rfl, rfl, .inr ⟨_, rfl, st, _, rfl, rfl, .inr (by split <;> decide), (by show 2 ≤ sizeLine; decide), fun b nb => ?_⟩⟩
      have nb1 : H1 b = none := by
        by_cases e : b = l
        · rw [e, upd_same] at nb; cases nb
        · rw [upd_ne e] at nb; exact nb
      have nlb : l ≠ b := fun z => by rw [← z, upd_same] at nb; cases nb
      refine k b l _ ⟨ns, _, upd_same, by rw [upd_ne nlb, upd_same], hl⟩ (fun c o e => ?_) nb1 nl
      rw [upd_ne (ne_of_none e nb1), upd_ne (ne_of_none e nl)]
      exact e
/-! ### _law_alike -/
mutual
def dok : PyData → Bool
  | .list xs | .tuple xs => decide (xs.length ≤ 1000) && dokAll xs
  | .dict _ => false
  | .none | .bool _ | .int _ | .str _ => true
def dokAll : List PyData → Bool
  | [] => true
  | x :: xs => dok x && dokAll xs
end
theorem dokAll_get : ∀ {ds : List PyData} {i : Nat} {d : PyData}, dokAll ds = true → ds[i]? = some d → dok d = true
  | [], _, _, _, h => by simp at h
  | x :: xs, 0, d, h, e => by
    simp only [dokAll, Bool.and_eq_true] at h
    cases e
    exact h.1
  | x :: xs, i + 1, d, h, e => by
    simp only [dokAll, Bool.and_eq_true] at h
    exact dokAll_get h.2 (by simpa using e)
theorem depthAll_get : ∀ {ds : List PyData} {i : Nat} {d : PyData}, ds[i]? = some d → d.depth ≤ PyData.depthAll ds
  | [], _, _, h => by simp at h
  | x :: xs, 0, d, e => by
    cases e
    simp only [PyData.depthAll]
    exact Nat.le_max_left _ _
  | x :: xs, i + 1, d, e => by
    simp only [PyData.depthAll]
    exact Nat.le_trans (depthAll_get (i := i) (by simpa using e)) (Nat.le_max_right _ _)
theorem dp_len {H : Hp} : ∀ {vs : List V} {ds : List PyData}, DpAll K H vs ds → vs.length = ds.length
  | [], [], _ => rfl
  | _ :: _, _ :: _, h => by
    cases h with
    | cons _ t => rw [List.length_cons, List.length_cons, dp_len t]
theorem dp_get {H : Hp} : ∀ {vs : List V} {ds : List PyData} {i : Nat} {v : V}, DpAll K H vs ds → vs[i]? = some v → ∃ d, ds[i]? = some d ∧ Dp K H v d
  | [], [], _, _, _, h => by simp at h
  | x :: vs, y :: ds, 0, v, h, e => by
    cases h with
    | cons h1 _ =>
      cases e
      exact ⟨y, rfl, h1⟩
  | x :: vs, y :: ds, i + 1, v, h, e => by
    cases h with
    | cons _ h2 => simpa using dp_get (i := i) h2 (by simpa using e)
theorem ty_list {H : Hp} {a : Addr} {xs : List V} (h : SqL K H a xs) : TyX K H (.ref a) (.type "list") := by
  rcases h with (z | ⟨o, z⟩) | ⟨o, its, n, z, c, _⟩
  · exact .base (.lst z)
  · exact .base (.frz z)
  · exact .kList z c
theorem ty_tup {H : Hp} {a : Addr} {xs : List V} (h : SqT K H a xs) : TyX K H (.ref a) (.type "tuple") := by
  rcases h with (z | ⟨o, z⟩) | ⟨o, its, n, z, c, _⟩
  · exact .base (.tup z)
  · exact .fTuple z
  · exact .kTuple z c
def spAlike (K : PySem.W.Frag) (n : Nat) : Sp := fun vs H Q _ => ∃ (x y : V) (d : PyData), vs = [x, y] ∧ Dp K H x d ∧ Dp K H y d ∧ d.depth < n ∧ dok d = true ∧ Q (.bl true) H
theorem sc_alike : FnScope ["_law_found", "_law_due", "_law_k"] ["_law_found", "_law_due"] (defScope s_alike) := ⟨rfl, rfl, rfl, by decide +kernel, rfl, by decide +kernel, by decide +kernel⟩
theorem ok_alike {f : Addr} {fd : FuncData} (T : Txt mg) (F : Fun K "_law_alike" "_law_alike" s_alike f fd) (b : Binds K fd ["_law_found", "_law_due"] []) (mgf : mg "_law_alike" = some (.ref f)) : ∀ n, FnOk P w K mg base CX0 (n + 1) f fd ["_law_found", "_law_due"] (spAlike K n) := by
  intro n
  induction n with
  | zero =>
    refine F.ok sc_alike (fun vs H Q E h => ?_) (fun cdv A outer s H vs Q E hr h => ?_)
    · obtain ⟨x, y, d, rfl, _⟩ := h
      rfl
    · obtain ⟨x, y, d, rfl, _, _, h, _⟩ := h
      exact absurd h (Nat.not_lt_zero _)
  | succ n G =>
    refine F.ok sc_alike (fun vs H Q E h => ?_) (fun cdv A outer s H vs Q E hr h => ?_)
    · obtain ⟨x, y, d, rfl, _⟩ := h
      rfl
    · obtain ⟨x, y, d, rfl, hx, hy, hd, hk, k⟩ := h
      have nd := sc_alike.nd
      refine ⟨_, pss_cons (ps_if (pt_cmpR op_isN (pv 1) pe_non (nomark _)) (pss_one (ps_ret (pe_cmpR op_isN (pv 0) pe_non (nomark _)))) pss_nil)
        (pss_cons (ps_if (pt_val (pe_callB call_isi (by rfl) T.isin (by decide +kernel) (pa_cons (pv 1) (pa_cons (pe_bltn (v := .ty "bool") (by rfl) T.bool (by decide +kernel) rfl) pa_nil)))) (pss_one (ps_ret (pe_and (pe_callB call_isi (by rfl) T.isin (by decide +kernel) (pa_cons (pv 0) (pa_cons (pe_bltn (v := .ty "bool") (by rfl) T.bool (by decide +kernel) rfl) pa_nil))) (pe_one (pe_cmpR op_eq (pv 0) (pv 1) (nomark _)))))) pss_nil)
        (pss_cons (ps_if (pt_val (pe_callB call_isi (by rfl) T.isin (by decide +kernel) (pa_cons (pv 1) (pa_cons (pe_bltn (v := .ty "int") (by rfl) T.int (by decide +kernel) rfl) pa_nil)))) (pss_one (ps_ret (pe_and (pe_callB call_isi (by rfl) T.isin (by decide +kernel) (pa_cons (pv 0) (pa_cons (pe_bltn (v := .ty "int") (by rfl) T.int (by decide +kernel) rfl) pa_nil))) (pe_and (pe_not (pe_callB call_isi (by rfl) T.isin (by decide +kernel) (pa_cons (pv 0) (pa_cons (pe_bltn (v := .ty "bool") (by rfl) T.bool (by decide +kernel) rfl) pa_nil)))) (pe_one (pe_cmpR op_eq (pv 0) (pv 1) (nomark _))))))) pss_nil)
        (pss_cons (ps_if (pt_val (pe_callB call_isi (by rfl) T.isin (by decide +kernel) (pa_cons (pv 1) (pa_cons (pe_bltn (v := .ty "str") (by rfl) T.str (by decide +kernel) rfl) pa_nil)))) (pss_one (ps_ret (pe_and (pe_callB call_isi (by rfl) T.isin (by decide +kernel) (pa_cons (pv 0) (pa_cons (pe_bltn (v := .ty "str") (by rfl) T.str (by decide +kernel) rfl) pa_nil))) (pe_one (pe_cmpR op_eq (pv 0) (pv 1) (nomark _)))))) pss_nil)
        (pss_cons (ps_if (PW.pt (pw_or (pt_cmpR op_ne (pe_callB call_isi (by rfl) T.isin (by decide +kernel) (pa_cons (pv 1) (pa_cons (pe_bltn (v := .ty "tuple") (by rfl) T.tuple (by decide +kernel) rfl) pa_nil))) (pe_callB call_isi (by rfl) T.isin (by decide +kernel) (pa_cons (pv 0) (pa_cons (pe_bltn (v := .ty "tuple") (by rfl) T.tuple (by decide +kernel) rfl) pa_nil))) (nomark _))
            (pw_or1 (pt_cmpR op_ne (pe_callB call_isi (by rfl) T.isin (by decide +kernel) (pa_cons (pv 1) (pa_cons (pe_bltn (v := .ty "list") (by rfl) T.list (by decide +kernel) rfl) pa_nil))) (pe_callB call_isi (by rfl) T.isin (by decide +kernel) (pa_cons (pv 0) (pa_cons (pe_bltn (v := .ty "list") (by rfl) T.list (by decide +kernel) rfl) pa_nil))) (nomark _))))) (pss_one (ps_ret pe_bl)) pss_nil)
        (pss_cons (ps_if (pt_cmpR op_ne (pe_callB call_len_seq (by rfl) T.len PySem.boot_len (pa_cons (pv 0) pa_nil)) (pe_callB call_len_seq (by rfl) T.len PySem.boot_len (pa_cons (pv 1) pa_nil)) (nomark _)) (pss_one (ps_ret pe_bl)) pss_nil)
        (pss_cons (ps_for PassesOwn.never rfl (pi_range1 (by rfl) T.range (pa_cons (pe_callB call_len_seq (by rfl) T.len PySem.boot_len (pa_cons (pv 1) pa_nil)) pa_nil)) (pg_name (i := 2) nd rfl (.inl rfl))
          (pss_one (ps_if (pt_not (pt_val (pe_call G hr (by rfl) mgf F.kp b .nil pass0 (pa_cons (pe_ix ix_seq (pv 0) (pv 2) (fun _ _ => rfl)) (pa_cons (pe_ix ix_seq (pv 1) (pv 2) (fun _ _ => rfl)) pa_nil))))) (pss_one (ps_ret pe_bl)) pss_nil)))
        (pss_one (ps_ret pe_bl)))))))), ?_⟩
      cases hx with
      | non =>
        cases hy
        exact ⟨_, rfl, rfl, true, rfl, iteT ⟨_, rfl, rfl, k⟩⟩
      | bl c =>
        cases hy
        exact ⟨_, rfl, rfl, false, rfl, iteF ⟨_, rfl, _, _, _, _, true, rfl, .ty _, (.base (.bl c)), kit_ty (by decide +kernel), true, rfl, iteT ⟨_, rfl, _, _, _, _, true, rfl, .ty _, (.base (.bl c)), kit_ty (by decide +kernel), true, rfl, iteT ⟨_, rfl, _, rfl, rfl, by simpa using k⟩⟩⟩⟩
      | int i =>
        cases hy
        exact ⟨_, rfl, rfl, false, rfl, iteF ⟨_, rfl, _, _, _, _, false, rfl, .ty _, (.base (.int i)), kit_ty (by decide +kernel), false, rfl, iteF ⟨_, rfl, _, _, _, _, true, rfl, .ty _, (.base (.int i)), kit_ty (by decide +kernel), true, rfl, iteT ⟨_, rfl, _, _, _, _, true, rfl, .ty _, (.base (.int i)), kit_ty (by decide +kernel), true, rfl, iteT
          ⟨_, rfl, _, _, _, _, false, rfl, .ty _, (.base (.int i)), kit_ty (by decide +kernel), false, rfl, true, rfl, iteT ⟨_, rfl, _, rfl, rfl, by simpa using k⟩⟩⟩⟩⟩⟩
      | str z =>
        cases hy
        exact ⟨_, rfl, rfl, false, rfl, iteF ⟨_, rfl, _, _, _, _, false, rfl, .ty _, (.base (.str z)), kit_ty (by decide +kernel), false, rfl, iteF ⟨_, rfl, _, _, _, _, false, rfl, .ty _, (.base (.str z)), kit_ty (by decide +kernel), false, rfl, iteF ⟨_, rfl, _, _, _, _, true, rfl, .ty _, (.base (.str z)), kit_ty (by decide +kernel), true, rfl, iteT
          ⟨_, rfl, _, _, _, _, true, rfl, .ty _, (.base (.str z)), kit_ty (by decide +kernel), true, rfl, iteT ⟨_, rfl, _, rfl, rfl, by simpa using k⟩⟩⟩⟩⟩⟩
      | @lst p xs ds sx ax =>
        cases hy with
        | @lst q ys _ sy ay =>
          refine ⟨_, rfl, rfl, false, rfl, iteF ⟨_, rfl, _, _, _, _, false, rfl, .ty _, (ty_list sy), kit_ty (by decide +kernel), false, rfl, iteF ⟨_, rfl, _, _, _, _, false, rfl, .ty _, (ty_list sy), kit_ty (by decide +kernel), false, rfl, iteF ⟨_, rfl, _, _, _, _, false, rfl, .ty _, (ty_list sy), kit_ty (by decide +kernel), false, rfl, iteF
            ⟨_, rfl, _, _, _, _, false, rfl, .ty _, (ty_list sy), kit_ty (by decide +kernel), _, rfl, _, _, _, _, false, rfl, .ty _, (ty_list sx), kit_ty (by decide +kernel), rfl, false, rfl, iteF ⟨_, rfl, _, _, _, _, true, rfl, .ty _, (ty_list sy), kit_ty (by decide +kernel), _, rfl, _, _, _, _, true, rfl, .ty _, (ty_list sx), kit_ty (by decide +kernel), rfl, false, rfl, iteF ?_⟩⟩⟩⟩⟩⟩
          simp only [dok, Bool.and_eq_true, decide_eq_true_eq] at hk
          simp only [PyData.depth] at hd
          have lx := dp_len ax
          have ly := dp_len ay
          refine ⟨_, rfl, p, xs, rfl, .inl sx, _, rfl, q, ys, rfl, .inl sy, rfl, false, by rw [lx, ly]; simp, iteF ?_⟩
          refine ⟨_, rfl, q, ys, rfl, .inl sy, _, rfl, by omega, by omega, for_range (n := (ys.length : Int).toNat) (fun _ σ H' => H' = H ∧ ∃ c, σ = [some (.ref p), some (.ref q), c]) ⟨rfl, _, rfl⟩ ?_ ?_⟩
          · rintro i σ H' hi ⟨rfl, c, rfl⟩
            have hi1 : i < xs.length := by omega
            have hi2 : i < ys.length := by omega
            obtain ⟨d1, e1, dx⟩ := dp_get ax (List.getElem?_eq_getElem hi1)
            obtain ⟨d2, e2, dy⟩ := dp_get ay (List.getElem?_eq_getElem hi2)
            rw [e1] at e2
            cases e2
            refine ⟨_, rfl, _, rfl, .inl ⟨p, xs, _, _, rfl, rfl, sx, by rw [Int.zero_add]; exact atI_nat (List.getElem?_eq_getElem hi1), ⟨_, rfl, _, rfl, .inl ⟨q, ys, _, _, rfl, rfl, sy, by rw [Int.zero_add]; exact atI_nat (List.getElem?_eq_getElem hi2), ?_⟩⟩⟩⟩
            exact ⟨_, _, d1, rfl, dx, dy, by have := depthAll_get e1; omega, dokAll_get hk.2 e1, true, rfl, iteF ⟨rfl, _, rfl⟩⟩
          · rintro σ H' ⟨rfl, c, rfl⟩
            exact k
      | @tup p xs ds sx ax =>
        cases hy with
        | @tup q ys _ sy ay =>
          refine ⟨_, rfl, rfl, false, rfl, iteF ⟨_, rfl, _, _, _, _, false, rfl, .ty _, (ty_tup sy), kit_ty (by decide +kernel), false, rfl, iteF ⟨_, rfl, _, _, _, _, false, rfl, .ty _, (ty_tup sy), kit_ty (by decide +kernel), false, rfl, iteF ⟨_, rfl, _, _, _, _, false, rfl, .ty _, (ty_tup sy), kit_ty (by decide +kernel), false, rfl, iteF
            ⟨_, rfl, _, _, _, _, true, rfl, .ty _, (ty_tup sy), kit_ty (by decide +kernel), _, rfl, _, _, _, _, true, rfl, .ty _, (ty_tup sx), kit_ty (by decide +kernel), rfl, false, rfl, iteF ⟨_, rfl, _, _, _, _, false, rfl, .ty _, (ty_tup sy), kit_ty (by decide +kernel), _, rfl, _, _, _, _, false, rfl, .ty _, (ty_tup sx), kit_ty (by decide +kernel), rfl, false, rfl, iteF ?_⟩⟩⟩⟩⟩⟩
          simp only [dok, Bool.and_eq_true, decide_eq_true_eq] at hk
          simp only [PyData.depth] at hd
          have lx := dp_len ax
          have ly := dp_len ay
          refine ⟨_, rfl, p, xs, rfl, .inr sx, _, rfl, q, ys, rfl, .inr sy, rfl, false, by rw [lx, ly]; simp, iteF ?_⟩
          refine ⟨_, rfl, q, ys, rfl, .inr sy, _, rfl, by omega, by omega, for_range (n := (ys.length : Int).toNat) (fun _ σ H' => H' = H ∧ ∃ c, σ = [some (.ref p), some (.ref q), c]) ⟨rfl, _, rfl⟩ ?_ ?_⟩
          · rintro i σ H' hi ⟨rfl, c, rfl⟩
            have hi1 : i < xs.length := by omega
            have hi2 : i < ys.length := by omega
            obtain ⟨d1, e1, dx⟩ := dp_get ax (List.getElem?_eq_getElem hi1)
            obtain ⟨d2, e2, dy⟩ := dp_get ay (List.getElem?_eq_getElem hi2)
            rw [e1] at e2
            cases e2
            refine ⟨_, rfl, _, rfl, .inr (.inl ⟨p, xs, _, _, rfl, rfl, sx, by rw [Int.zero_add]; exact atI_nat (List.getElem?_eq_getElem hi1), ⟨_, rfl, _, rfl, .inr (.inl ⟨q, ys, _, _, rfl, rfl, sy, by rw [Int.zero_add]; exact atI_nat (List.getElem?_eq_getElem hi2), ?_⟩)⟩⟩)⟩
            exact ⟨_, _, d1, rfl, dx, dy, by have := depthAll_get e1; omega, dokAll_get hk.2 e1, true, rfl, iteF ⟨rfl, _, rfl⟩⟩
          · rintro σ H' ⟨rfl, c, rfl⟩
            exact k
end
end TG

namespace Gx
open PySem PySem.Spec PyProof.Rows L2 GenW
section
variable {J : It} {n : Nat} {G : Hp → Prop} {Y : Nat → Hp → V → Hp → Prop}
/-- all over a walk whose i-th element is f i -/
theorem all_by (w : Walk J n G Y) {te : TE} {Q : VK} {H2 : Hp} (f : Nat → Bool) (Pv : Nat → Hp → Prop) (h0 : Pv 0 H2) (hG : ∀ i H, i ≤ n → Pv i H → G H)
    (hs : ∀ i v H H', i < n → Pv i H → Y i H v H' → ∀ Z : VK, (∀ H3, Pv (i + 1) H3 → Z (.bl (f i)) H3) → te [some v] H' Z)
    (hT : ∀ H, Pv n H → (∀ i, i < n → f i = true) → Q (.bl true) H) (hF : ∀ i H, i < n → f i = false → Pv (i + 1) H → Q (.bl false) H) :
    ∃ W : WT, (∃ m, W m [] H2) ∧ ∀ m ys H, W m ys H → (J.stop ys.length H ∧ (fun (_ : List V) H => Q (.bl true) H) ys H) ∨
      (J.go ys.length H ∧ ∀ v H', J.yld ys.length H v H' → te [some v] H' (NyAll (fun b H => Q (.bl b) H) W m ys)) := by
  refine ⟨fun m ys H => m = n - ys.length ∧ ys.length ≤ n ∧ Pv ys.length H ∧ ∀ i, i < ys.length → f i = true, ⟨n, by simp, Nat.zero_le _, h0, fun i hi => absurd hi (Nat.not_lt_zero _)⟩, ?_⟩
  rintro m ys H ⟨rfl, hl, hp, ht⟩
  have q := hG _ H hl hp
  by_cases hlt : ys.length < n
  · refine .inr ⟨w.goes _ H hlt q, fun v H' y => hs _ v H H' hlt hp (w.yields _ H v H' hlt q y) _ fun H3 p3 => ⟨f ys.length, rfl, ?_⟩⟩
    cases hf : f ys.length with
    | true =>
      refine iteT ⟨n - (ys.length + 1), by omega, by rw [List.length_append, List.length_singleton], by rw [List.length_append, List.length_singleton]; exact hlt, by rw [List.length_append, List.length_singleton]; exact p3, fun i hi => ?_⟩
      rw [List.length_append, List.length_singleton] at hi
      by_cases e : i = ys.length
      · rw [e]; exact hf
      · exact ht i (by omega)
    | false => exact iteF (hF _ H3 hlt hf p3)
  · have e : ys.length = n := by omega
    exact .inl ⟨by rw [e]; exact w.stops H q, hT H (e ▸ hp) fun i hi => ht i (by omega)⟩
/-- max over a walk whose i-th element is g i -/
theorem max_by (w : Walk J n G Y) {te : TE} {Qm : Int → Hp → Prop} {H2 : Hp} (g : Nat → Int) (hn : 0 < n) (Pv : Nat → Hp → Prop) (h0 : Pv 0 H2) (hG : ∀ i H, i ≤ n → Pv i H → G H)
    (hs : ∀ i v H H', i < n → Pv i H → Y i H v H' → ∀ Z : VK, (∀ H3, Pv (i + 1) H3 → Z (.int (g i)) H3) → te [some v] H' Z)
    (hd : ∀ b H, Pv n H → (∃ i, i < n ∧ g i = b) → (∀ i, i < n → g i ≤ b) → Qm b H) :
    ∃ W : WT, (∃ m, W m [] H2) ∧ ∀ m ys H, W m ys H → (J.stop ys.length H ∧ NsMax Qm ys H) ∨
      (J.go ys.length H ∧ ∀ v H', J.yld ys.length H v H' → te [some v] H' (NyMax W m ys)) := by
  refine ⟨fun m ys H => m = n - ys.length ∧ ys.length ≤ n ∧ Pv ys.length H ∧ ys = ((List.range ys.length).map g).map V.int, ⟨n, by simp, Nat.zero_le _, h0, rfl⟩, ?_⟩
  rintro m ys H ⟨rfl, hl, hp, ht⟩
  have q := hG _ H hl hp
  by_cases hlt : ys.length < n
  · refine .inr ⟨w.goes _ H hlt q, fun v H' y => hs _ v H H' hlt hp (w.yields _ H v H' hlt q y) _ fun H3 p3 => ⟨g ys.length, rfl, n - (ys.length + 1), by omega, by rw [List.length_append, List.length_singleton], by rw [List.length_append, List.length_singleton]; exact hlt, by rw [List.length_append, List.length_singleton]; exact p3, ?_⟩⟩
    rw [List.length_append, List.length_singleton, List.range_succ, List.map_append, List.map_append, ← ht]
    rfl
  · have e : ys.length = n := by omega
    refine .inl ⟨by rw [e]; exact w.stops H q, (List.range ys.length).map g, ht, fun z => ?_, fun b hb hm => hd b H (e ▸ hp) ?_ fun i hi => hm _ (List.mem_map.mpr ⟨i, List.mem_range.mpr (by omega), rfl⟩)⟩
    · have := congrArg List.length z
      rw [List.length_map, List.length_range, List.length_nil] at this
      omega
    · obtain ⟨i, hi, e2⟩ := List.mem_map.mp hb
      exact ⟨i, by have := List.mem_range.mp hi; omega, e2⟩
end
/-! ### tables -/
def Tabs (cs : List (Addr × Addr)) (H : Hp) : Prop := ∀ p ∈ cs, GxR.TabG H p.2
theorem tab_ext {P : Addr} {H H' : Hp} (t : GxR.TabG H P) (x : GxR.Tabbed P H H') : LamX.ExtN H H' := fun b o e n => by
  by_cases hb : b = P
  · obtain ⟨ps, h1, _⟩ := t
    rw [hb, h1] at e
    cases e
    exact absurd rfl (n ps)
  · rw [x.2 b hb]; exact e
theorem tabs_tab {cs : List (Addr × Addr)} {P : Addr} {H H' : Hp} (t : Tabs cs H) (x : GxR.Tabbed P H H') : Tabs cs H' := fun p hp => by
  by_cases hb : p.2 = P
  · rw [hb]; exact x.1
  · obtain ⟨ps, h1, h2⟩ := t p hp
    exact ⟨ps, by rw [x.2 _ hb]; exact h1, h2⟩
/-- all but tables stays, the tables are tables -/
structure Ex (cs : List (Addr × Addr)) (H H' : Hp) : Prop where
  ext : LamX.ExtN H H'
  tab : Tabs cs H'
  old : ∀ b, H' b = none → H b = none
theorem Ex.refl {cs : List (Addr × Addr)} {H : Hp} (t : Tabs cs H) : Ex cs H H := ⟨LamX.ExtN.refl H, t, fun _ h => h⟩
theorem Ex.trans {cs : List (Addr × Addr)} {H H1 H2 : Hp} (a : Ex cs H H1) (b : Ex cs H1 H2) : Ex cs H H2 := ⟨a.ext.trans b.ext, b.tab, fun c h => a.old c (b.old c h)⟩
theorem Ex.tabbed {cs : List (Addr × Addr)} {P : Addr} {H H' : Hp} (t : Tabs cs H) (p : GxR.TabG H P) (x : GxR.Tabbed P H H') : Ex cs H H' := ⟨tab_ext p x, tabs_tab t x, fun b h => by
  by_cases hb : b = P
  · obtain ⟨ps, h1, _⟩ := x.1
    rw [hb, h1] at h
    cases h
  · rw [x.2 b hb] at h; exact h⟩
theorem upd_none {H : Hp} {a b : Addr} {o : HO} (h : upd H a o b = none) : H b = none ∧ b ≠ a := by
  by_cases hb : b = a
  · rw [hb, upd_same] at h; cases h
  · rw [upd_ne hb] at h; exact ⟨h, hb⟩
theorem Ex.laid {cs : List (Addr × Addr)} {H : Hp} {a : Addr} {o : HO} (t : Tabs cs H) (n : H a = none) : Ex cs H (upd H a o) :=
  ⟨fun b u e _ => by rw [upd_ne (ne_of_none e n)]; exact e, fun p hp => by
    obtain ⟨ps, h1, h2⟩ := t p hp
    exact ⟨ps, by rw [upd_ne (ne_of_none h1 n)]; exact h1, h2⟩, fun b h => (upd_none h).1⟩
/-- a new object, written again -/
theorem ex_new {cs : List (Addr × Addr)} {H H' : Hp} {D : Addr} {o : HO} (t : Tabs cs H) (e : Ex cs H H') (n : H D = none) : Ex cs H (upd H' D o) :=
  ⟨fun b u h m => by rw [upd_ne (ne_of_none h n)]; exact e.ext b u h m, fun p hp => by
    obtain ⟨ps, h1, _⟩ := t p hp
    obtain ⟨ps', h3, h4⟩ := e.tab p hp
    exact ⟨ps', by rw [upd_ne (ne_of_none h1 n)]; exact h3, h4⟩, fun b h => e.old b (upd_none h).1⟩
theorem Ex.lst {cs : List (Addr × Addr)} {H H' : Hp} {a : Addr} {xs : List V} (e : Ex cs H H') (h : H a = some (.lst xs)) : H' a = some (.lst xs) := e.ext _ _ h fun ps q => by cases q
theorem Ex.tup {cs : List (Addr × Addr)} {H H' : Hp} {a : Addr} {xs : List V} (e : Ex cs H H') (h : H a = some (.tup xs)) : H' a = some (.tup xs) := e.ext _ _ h fun ps q => by cases q
theorem Ex.sqL {cs : List (Addr × Addr)} {K : PySem.W.Frag} {H H' : Hp} {a : Addr} {xs : List V} (e : Ex cs H H') (h : SqL K H a xs) : SqL K H' a xs := by
  rcases h with (z | ⟨o, z⟩) | z
  · exact .inl (.inl (e.ext _ _ z fun ps q => by cases q))
  · exact .inl (.inr ⟨o, e.ext _ _ z fun ps q => by cases q⟩)
  · exact .inr z
theorem Ex.sqT {cs : List (Addr × Addr)} {K : PySem.W.Frag} {H H' : Hp} {a : Addr} {xs : List V} (e : Ex cs H H') (h : SqT K H a xs) : SqT K H' a xs := by
  rcases h with (z | ⟨o, z⟩) | z
  · exact .inl (.inl (e.ext _ _ z fun ps q => by cases q))
  · exact .inl (.inr ⟨o, e.ext _ _ z fun ps q => by cases q⟩)
  · exact .inr z
/-- a def whose code object is known -/
theorem fun_okT {P : Program} {w : World} {K : PySem.W.Frag} {mg : Str → Option Value} {base : Heap} {x qual : Str} {st : Stmt} {f c : Addr} {fd : FuncData} {N ps : List Str} {k : Nat} {sp : Sp} (F : Fun K x qual st f fd) (hc : fd.code = .ref c) (S : FnScope N ps (defScope st)) (len : ∀ vs H Q E, sp vs H Q E → vs.length = ps.length)
    (hbody : ∀ (A : Around) (outer : List Env) (s : Shared) (H : Hp) (vs : List V) (Q : VK) (E : XK), Room k (A.deeper (envOfC qual (defScope st) s.heap.objs.size f (.ref c))) → sp vs H Q E →
      ∃ t, PSs (cxOf CX0 P w K mg base N qual (defScope st) f (.ref c) A outer s H E).nox (defBody st) t ∧ t { nx := fun _ H' => Q .non H', rt := Q } (start N vs) H) : FnOk P w K mg base CX0 (k + 1) f fd ps sp := by
  obtain ⟨oc, od, kV, doc, pm, an, cdv, ct, osl, rfl, lk, hcd⟩ := F.ex
  have e : cdv = .ref c := hc
  subst e
  refine fn_of lk hcd S len fun A outer s H vs Q E hr hsp => ?_
  obtain ⟨t, h, q⟩ := hbody A outer s H vs Q E hr hsp
  exact ⟨t, h.nox, q⟩
end Gx

namespace TG
open PySem L2 Gx
/-! ### signs, texts, rows, pages, styles -/
def SgOk (c : Nat) : Prop := 32 ≤ c ∧ c ≤ 126 ∧ c ≠ 37
structure CellOk (z : Str) : Prop where
  len : z.length ≤ 10
  sg : ∀ c ∈ z.cps.toList, SgOk c
structure RowOk (r : List Str) : Prop where
  pos : 1 ≤ r.length
  len : r.length ≤ 6
  cells : ∀ z ∈ r, CellOk z
abbrev sV (r : List Str) : List V := r.map V.str
theorem line10 {n : Nat} (h : n ≤ 1000) : n ≤ sizeLine := Nat.le_trans h (by decide)
theorem dT {c : Prop} [Decidable c] (h : c) : V.bl (decide c) = V.bl true := by rw [decide_eq_true h]
theorem dF {c : Prop} [Decidable c] (h : ¬ c) : V.bl (decide c) = V.bl false := by rw [decide_eq_false h]
theorem qT {c : Prop} [Decidable c] {Q : VK} {H : Hp} (h : c) (k : Q (.bl true) H) : Q (.bl (decide c)) H := by rw [decide_eq_true h]; exact k
theorem qF {c : Prop} [Decidable c] {Q : VK} {H : Hp} (h : ¬ c) (k : Q (.bl false) H) : Q (.bl (decide c)) H := by rw [decide_eq_false h]; exact k
theorem qN {c : Prop} [Decidable c] {Q : VK} {H : Hp} (h : ¬ c) (k : Q (.bl true) H) : Q (.bl (!decide c)) H := by rw [decide_eq_false h]; exact k
structure Consts (mg : Str → Option Value) : Prop where
  blank : ∃ t, mg "BLANK" = some (.int 32 t)
  tilde : ∃ t, mg "TILDE" = some (.int 126 t)
  percent : ∃ t, mg "PERCENT" = some (.int 37 t)
  rows : ∃ t, mg "MOST_ROWS" = some (.int 30 t)
  cells : ∃ t, mg "MOST_CELLS" = some (.int 6 t)
  signs : ∃ t, mg "MOST_SIGNS" = some (.int 10 t)
  gap : ∃ t, mg "MOST_GAP" = some (.int 4 t)
  least : ∃ t, mg "MOST_LEAST" = some (.int 12 t)
section
variable {P : Program} {w : World} {K : PySem.W.Frag} {mg : Str → Option Value} {base : Heap}
def spWhole : Sp := fun vs H Q _ => ∃ (i lo hi : Int), vs = [.int i, .int lo, .int hi] ∧ lo ≤ i ∧ i ≤ hi ∧ Q (.bl true) H
theorem sc_whole : FnScope ["value", "low", "high"] ["value", "low", "high"] (defScope s_is_whole) := ⟨rfl, rfl, rfl, by decide +kernel, rfl, by decide +kernel, by decide +kernel⟩
theorem ok_whole {f : Addr} {fd : FuncData} (T : Txt mg) (F : Fun K "is_whole" "is_whole" s_is_whole f fd) : FnOk P w K mg base CX0 1 f fd ["value", "low", "high"] spWhole := by
  refine F.ok sc_whole (fun vs H Q E h => ?_) (fun cdv A outer s H vs Q E hr h => ?_)
  · obtain ⟨i, lo, hi, rfl, _⟩ := h
    rfl
  · obtain ⟨i, lo, hi, rfl, h1, h2, k⟩ := h
    refine ⟨_, pss_one (ps_ret (pe_and (pe_callB call_isi (by rfl) T.isin (by decide +kernel) (pa_cons (pv 0) (pa_cons (pe_bltn (v := .ty "int") (by rfl) T.int (by decide +kernel) rfl) pa_nil)))
      (pe_and (pe_not (pe_callB call_isi (by rfl) T.isin (by decide +kernel) (pa_cons (pv 0) (pa_cons (pe_bltn (v := .ty "bool") (by rfl) T.bool (by decide +kernel) rfl) pa_nil)))) (pe_one (pe_chain op_le op_le (pv 1) (pv 0) (pv 2)))))), ?_⟩
    exact ⟨_, rfl, _, _, _, _, true, rfl, .ty _, .base (.int i), kit_ty (by decide +kernel), true, rfl, iteT ⟨_, rfl, _, _, _, _, false, rfl, .ty _, .base (.int i), kit_ty (by decide +kernel), false, rfl, true, rfl, iteT
      ⟨_, rfl, _, rfl, lo, i, rfl, rfl, true, dT h1, iteT ⟨_, rfl, i, hi, rfl, rfl, qT h2 k⟩⟩⟩⟩
def spSg : Sp := fun vs H Q _ => ∃ c : Nat, vs = [.str ⟨#[c]⟩] ∧ SgOk c ∧ Q (.bl true) H
theorem sc_sg : FnScope ["sign"] ["sign"] (defScope s_is_sign) := ⟨rfl, rfl, rfl, by decide +kernel, rfl, by decide +kernel, by decide +kernel⟩
theorem ok_sg {f : Addr} {fd : FuncData} (T : Txt mg) (N : Consts mg) (F : Fun K "is_sign" "is_sign" s_is_sign f fd) : FnOk P w K mg base CX0 1 f fd ["sign"] spSg := by
  refine F.ok sc_sg (fun vs H Q E h => ?_) (fun cdv A outer s H vs Q E hr h => ?_)
  · obtain ⟨c, rfl, _⟩ := h
    rfl
  · obtain ⟨c, rfl, ⟨h1, h2, h3⟩, k⟩ := h
    obtain ⟨t1, e1⟩ := N.blank
    obtain ⟨t2, e2⟩ := N.tilde
    obtain ⟨t3, e3⟩ := N.percent
    refine ⟨_, pss_one (ps_ret (pe_and (pe_chain op_le op_le (pe_glob (v := .int 32) rfl e1 ⟨_, rfl⟩) (pe_callB call_ord (by rfl) T.ord (by decide +kernel) (pa_cons (pv 0) pa_nil)) (pe_glob (v := .int 126) rfl e2 ⟨_, rfl⟩))
      (pe_one (pe_cmpR op_ne (pe_callB call_ord (by rfl) T.ord (by decide +kernel) (pa_cons (pv 0) pa_nil)) (pe_glob (v := .int 37) rfl e3 ⟨_, rfl⟩) (nomark _))))), ?_⟩
    refine ⟨_, rfl, _, rfl, rfl, 32, (c : Int), rfl, rfl, true, dT (show (32 : Int) ≤ c by omega), iteT ⟨(c : Int), 126, rfl, rfl, ?_⟩⟩
    have e4 : V.bl (decide ((c : Int) ≤ 126)) = V.bl true := dT (by omega)
    refine ⟨true, e4, iteT ⟨_, rfl, _, rfl, rfl, rfl, qN (fun z => ?_) k⟩⟩
    injection z with z
    exact h3 (Int.ofNat.inj z)
def spText (cs : List (Addr × Addr)) : Sp := fun vs H Q _ => ∃ (z : Str) (m : Int), vs = [.str z, .int m] ∧ Tabs cs H ∧ (z.length : Int) ≤ m ∧ z.length ≤ 1000 ∧ (∀ c ∈ z.cps.toList, SgOk c) ∧ ∀ H', Ex cs H H' → Q (.bl true) H'
theorem sc_text : FnScope ["value", "most"] ["value", "most"] (defScope s_is_text) := ⟨rfl, rfl, rfl, by decide +kernel, rfl, by decide +kernel, by decide +kernel⟩
theorem ok_text {f c Pt g : Addr} {fd fdg : FuncData} {cs : List (Addr × Addr)} (T : Txt mg) (F : Fun K "is_text_of_signs" "is_text_of_signs" s_is_text f fd) (hc : fd.code = .ref c) (TB : GxR.TabB base mg c Pt) (hm : (c, Pt) ∈ cs)
    (G : FnOk P w K mg base CX0 1 g fdg ["sign"] spSg) (kp : PySem.W.keepIn K (.ref g) = true) (bd : Binds K fdg ["sign"] []) (mgg : mg "is_sign" = some (.ref g)) : FnOk P w K mg base CX0 5 f fd ["value", "most"] (spText cs) := by
  refine fun_okT F hc sc_text (fun vs H Q E h => ?_) (fun A outer s H vs Q E hr h => ?_)
  · obtain ⟨z, m, rfl, _⟩ := h
    rfl
  · obtain ⟨z, m, rfl, hT, h1, h2, h3, k⟩ := h
    refine ⟨_, pss_one (ps_ret (pe_and (pe_callB call_isi (by rfl) T.isin (by decide +kernel) (pa_cons (pv 0) (pa_cons (pe_bltn (v := .ty "str") (by rfl) T.str (by decide +kernel) rfl) pa_nil)))
      (pe_and (pe_cmpR op_le (pe_callB call_len_str (by rfl) T.len PySem.boot_len (pa_cons (pv 0) pa_nil)) (pv 1) (nomark _))
        (pe_one (pe_allG (k := 1) (P := Pt) hr (by rfl) T.all TB rfl ⟨rfl, rfl, by decide +kernel, by decide +kernel, rfl, rfl⟩ (pi_str (pv 0)) (fun A' code s4 H4 fp hr' => pe_call G hr' (by rfl) mgg kp bd .nil pass0 (pa_cons (pv 0) pa_nil)) (fun _ => rfl)))))), ?_⟩
    refine ⟨_, rfl, _, _, _, _, true, rfl, .ty _, .base (.str z), kit_ty (by decide +kernel), true, rfl, iteT ⟨_, rfl, z, rfl, line10 h2, _, rfl, _, _, rfl, rfl, true, dT h1, iteT ⟨_, rfl, z, rfl, hT _ hm, fun H2 hH2 => ?_⟩⟩⟩
    refine all_by (w := walk_str (z := z)) (fun _ => true) (fun _ H' => H' = H2) rfl (fun _ _ _ _ => trivial) (fun i v H3 H4 hi e y Z hZ => ?_) (fun H3 e _ => ?_) (fun i H3 _ e _ => by cases e)
    · obtain ⟨rfl, c, hc, rfl⟩ := y
      subst e
      refine ⟨_, rfl, c, rfl, h3 c ?_, hZ _ rfl⟩
      exact List.mem_of_getElem? (by rw [Array.getElem?_toList]; exact hc)
    · subst e
      exact k _ (Ex.tabbed hT (hT _ hm) hH2)
end
end TG

namespace TG
open PySem L2 Gx
/-- a page: its rows' tuples at as -/
structure PageAt (K : PySem.W.Frag) (H : Hp) (a : Addr) (as : List Addr) (rows : List (List Str)) : Prop where
  lst : SqL K H a (as.map V.ref)
  len : as.length = rows.length
  row : ∀ (i : Nat) (p : Addr) (r : List Str), as[i]? = some p → rows[i]? = some r → SqT K H p (sV r)
structure PgOk (rows : List (List Str)) : Prop where
  pos : 1 ≤ rows.length
  len : rows.length ≤ 30
  rows : ∀ r ∈ rows, RowOk r
theorem PageAt.ex {K : PySem.W.Frag} {cs : List (Addr × Addr)} {H H' : Hp} {a : Addr} {as : List Addr} {rows : List (List Str)} (p : PageAt K H a as rows) (e : Ex cs H H') : PageAt K H' a as rows :=
  ⟨e.sqL p.lst, p.len, fun i q r h1 h2 => e.sqT (p.row i q r h1 h2)⟩
theorem get_map {α β : Type} {f : α → β} {xs : List α} {i : Nat} {y : β} (h : (xs.map f)[i]? = some y) : ∃ x, xs[i]? = some x ∧ y = f x := by
  rw [List.getElem?_map] at h
  cases e : xs[i]? with
  | none => rw [e] at h; cases h
  | some x => rw [e] at h; cases h; exact ⟨x, rfl, rfl⟩
theorem getP {α : Type} {xs : List α} {i : Nat} (h : i < xs.length) : ∃ x, xs[i]? = some x := ⟨xs[i], List.getElem?_eq_getElem h⟩
section
variable {P : Program} {w : World} {K : PySem.W.Frag} {mg : Str → Option Value} {base : Heap} {cs : List (Addr × Addr)}
def spRow (K : PySem.W.Frag) (cs : List (Addr × Addr)) : Sp := fun vs H Q _ => ∃ (a : Addr) (r : List Str), vs = [.ref a] ∧ Tabs cs H ∧ SqT K H a (sV r) ∧ RowOk r ∧ ∀ H', Ex cs H H' → Q (.bl true) H'
theorem sc_row : FnScope ["value"] ["value"] (defScope s_is_row) := ⟨rfl, rfl, rfl, by decide +kernel, rfl, by decide +kernel, by decide +kernel⟩
theorem ok_isrow {f c Pt g : Addr} {fd fdg : FuncData} (T : Txt mg) (N : Consts mg) (F : Fun K "is_row" "is_row" s_is_row f fd) (hc : fd.code = .ref c) (TB : GxR.TabB base mg c Pt) (hm : (c, Pt) ∈ cs)
    (G : FnOk P w K mg base CX0 5 g fdg ["value", "most"] (spText cs)) (kp : PySem.W.keepIn K (.ref g) = true) (bd : Binds K fdg ["value", "most"] []) (mgg : mg "is_text_of_signs" = some (.ref g)) : FnOk P w K mg base CX0 9 f fd ["value"] (spRow K cs) := by
  refine fun_okT F hc sc_row (fun vs H Q E h => ?_) (fun A outer s H vs Q E hr h => ?_)
  · obtain ⟨a, r, rfl, _⟩ := h
    rfl
  · obtain ⟨a, r, rfl, hT, hS, ⟨p1, p2, p3⟩, k⟩ := h
    obtain ⟨t1, e1⟩ := N.cells
    obtain ⟨t2, e2⟩ := N.signs
    refine ⟨_, pss_cons (ps_if (PW.pt (pw_or (pt_not (pt_val (pe_callB call_isi (by rfl) T.isin (by decide +kernel) (pa_cons (pv 0) (pa_cons (pe_bltn (v := .ty "tuple") (by rfl) T.tuple (by decide +kernel) rfl) pa_nil)))))
        (pw_or1 (pt_not (pt_chain op_le op_le pe_int (pe_callB call_len_seq (by rfl) T.len PySem.boot_len (pa_cons (pv 0) pa_nil)) (pe_glob (v := .int 6) rfl e1 ⟨_, rfl⟩)))))) (pss_one (ps_ret pe_bl)) pss_nil)
      (pss_one (ps_ret (pe_allG (k := 5) (P := Pt) hr (by rfl) T.all TB rfl ⟨rfl, rfl, by decide +kernel, by decide +kernel, rfl, rfl⟩ (pi_tup (pv 0))
        (fun A' code s4 H4 fp hr' => pe_call G hr' (by rfl) mgg kp bd .nil pass0 (pa_cons (pv 0) (pa_cons (pe_glob (v := .int 10) rfl e2 ⟨_, rfl⟩) pa_nil))) (fun _ => rfl)))), ?_⟩
    have hl : (sV r).length = r.length := List.length_map ..
    refine ⟨_, rfl, _, _, _, _, true, rfl, .ty _, ty_tup hS, kit_ty (by decide +kernel), true, rfl, iteF ⟨_, rfl, a, _, rfl, .inr hS, 1, _, rfl, rfl, true, dT (by omega), iteT ⟨_, 6, rfl, rfl, true, dT (by omega), iteF ?_⟩⟩⟩
    refine ⟨_, rfl, a, rfl, ⟨_, hS⟩, hT _ hm, fun H2 hH2 => ?_⟩
    have x2 := Ex.tabbed hT (hT _ hm) hH2
    refine all_by (w := walk_tup (a := a) (xs := sV r)) (fun _ => true) (fun _ H' => Ex cs H H') x2 (fun i H' _ x => x.sqT hS) (fun i v H3 H4 hi x y Z hZ => ?_) (fun H3 x _ => k _ x) (fun i H3 _ e _ => by cases e)
    obtain ⟨rfl, hv⟩ := y
    obtain ⟨z, hz, rfl⟩ := get_map hv
    obtain ⟨c1, c2⟩ := p3 z (List.mem_of_getElem? hz)
    exact ⟨_, rfl, z, 10, rfl, x.tab, by omega, by omega, c2, fun H5 x5 => hZ _ (x.trans x5)⟩
def spCheck (K : PySem.W.Frag) (cs : List (Addr × Addr)) : Sp := fun vs H Q _ => ∃ (a : Addr) (as : List Addr) (rows : List (List Str)), vs = [.ref a] ∧ Tabs cs H ∧ PageAt K H a as rows ∧ PgOk rows ∧ ∀ H', Ex cs H H' → Q .non H'
theorem sc_misfit : FnScope ["rows", "number", "row"] ["rows"] (defScope s_misfit) := ⟨rfl, rfl, rfl, by decide +kernel, rfl, by decide +kernel, by decide +kernel⟩
theorem ok_misfit {f g : Addr} {fd fdg : FuncData} (T : Txt mg) (N : Consts mg) (F : Fun K "first_misfit" "first_misfit" s_misfit f fd)
    (G : FnOk P w K mg base CX0 9 g fdg ["value"] (spRow K cs)) (kp : PySem.W.keepIn K (.ref g) = true) (bd : Binds K fdg ["value"] []) (mgg : mg "is_row" = some (.ref g)) : FnOk P w K mg base CX0 10 f fd ["rows"] (spCheck K cs) := by
  refine F.ok sc_misfit (fun vs H Q E h => ?_) (fun cdv A outer s H vs Q E hr h => ?_)
  · obtain ⟨a, as, rows, rfl, _⟩ := h
    rfl
  · obtain ⟨a, as, rows, rfl, hT, hP, hO, k⟩ := h
    have nd := sc_misfit.nd
    obtain ⟨t1, e1⟩ := N.rows
    refine ⟨_, pss_cons (ps_for PassesOwn.never rfl (pi_enum (by rfl) T.enum (pa_cons (pv 0) pa_nil)) (pg_tup rfl (pgs_cons (pg_name (i := 1) nd rfl (.inl rfl)) (pgs_cons (pg_name (i := 2) nd rfl (.inl rfl)) pgs_nil)))
        (pss_one (ps_if (PW.pt (pw_or (pt_cmpR op_eq (pv 1) (pe_glob (v := .int 30) rfl e1 ⟨_, rfl⟩) (nomark _)) (pw_or1 (pt_not (pt_val (pe_call G hr (by rfl) mgg kp bd .nil pass0 (pa_cons (pv 2) pa_nil))))))) (pss_one ps_never) pss_nil)))
      (pss_one (ps_ret pe_non)), ?_⟩
    have hl : (as.map V.ref).length = rows.length := by rw [List.length_map]; exact hP.len
    have := hO.pos
    have := hO.len
    refine ⟨_, rfl, a, _, rfl, hP.lst, for_it (walk_enum (xs := as.map V.ref)) (fun _ σ H' => Ex cs H H' ∧ σ[0]? = some (some (.ref a)) ∧ σ.length = 3) ⟨Ex.refl hT, rfl, rfl⟩ (fun i σ H' _ x => x.1.sqL hP.lst) ?_ ?_⟩
    · rintro i x σ H3 H4 hi ⟨x3, s0, sl⟩ ⟨Tp, v, u, rfl, hn, rfl, hv, hu⟩
      cases hv
      obtain ⟨p, hp, rfl⟩ := get_map hu
      have hi2 : i < rows.length := by omega
      obtain ⟨r, hr2⟩ := getP hi2
      have xl := Ex.laid (o := .tup [.int (i : Nat), .ref p]) x3.tab hn
      refine ⟨Tp, _, rfl, .inl (.inl upd_same), rfl, _, _, rfl, _, _, rfl, rfl, ?_⟩
      have g1 : ((σ.set 1 (some (V.int (i : Nat)))).set 2 (some (V.ref p)))[1]? = some (some (V.int (i : Nat))) := by
        rw [List.getElem?_set_ne (by decide)]
        exact List.getElem?_set_self (by omega)
      have g2 : ((σ.set 1 (some (V.int (i : Nat)))).set 2 (some (V.ref p)))[2]? = some (some (V.ref p)) := List.getElem?_set_self (by rw [List.length_set]; omega)
      refine ⟨_, g1, rfl, false, dF (fun z => by injection z with z; omega), iteF ⟨_, g2, p, r, rfl, xl.tab, (x3.trans xl).sqT (hP.row i p r hp hr2), hO.rows r (List.mem_of_getElem? hr2), fun H5 x5 => ⟨true, rfl, iteF ⟨(x3.trans xl).trans x5, ?_, ?_⟩⟩⟩⟩
      · rw [List.getElem?_set_ne (by decide), List.getElem?_set_ne (by decide)]; exact s0
      · rw [List.length_set, List.length_set]; exact sl
    · rintro σ H' ⟨x, _⟩
      exact k H' x
theorem sc_check : FnScope ["page", "number"] ["page"] (defScope s_check_page) := ⟨rfl, rfl, rfl, by decide +kernel, rfl, by decide +kernel, by decide +kernel⟩
theorem ok_check {f g : Addr} {fd fdg : FuncData} (T : Txt mg) (F : Fun K "check_page" "check_page" s_check_page f fd)
    (G : FnOk P w K mg base CX0 10 g fdg ["rows"] (spCheck K cs)) (kp : PySem.W.keepIn K (.ref g) = true) (bd : Binds K fdg ["rows"] []) (mgg : mg "first_misfit" = some (.ref g)) : FnOk P w K mg base CX0 11 f fd ["page"] (spCheck K cs) := by
  refine F.ok sc_check (fun vs H Q E h => ?_) (fun cdv A outer s H vs Q E hr h => ?_)
  · obtain ⟨a, as, rows, rfl, _⟩ := h
    rfl
  · obtain ⟨a, as, rows, rfl, hT, hP, hO, k⟩ := h
    have nd := sc_check.nd
    refine ⟨_, pss_cons (ps_if (PW.pt (pw_or (pt_not (pt_val (pe_callB call_isi (by rfl) T.isin (by decide +kernel) (pa_cons (pv 0) (pa_cons (pe_bltn (v := .ty "list") (by rfl) T.list (by decide +kernel) rfl) pa_nil)))))
        (pw_or1 (pt_cmpR op_eq (pe_callB call_len_seq (by rfl) T.len PySem.boot_len (pa_cons (pv 0) pa_nil)) pe_int (nomark _))))) (pss_one ps_never) pss_nil)
      (pss_cons (ps_set (i := 1) nd rfl (.inl rfl) (pe_call G hr (by rfl) mgg kp bd .nil pass0 (pa_cons (pv 0) pa_nil)))
      (pss_one (ps_if (pt_cmpR op_notN (pv 1) pe_non (nomark _)) (pss_one ps_never) pss_nil))), ?_⟩
    have hl : (as.map V.ref).length = rows.length := by rw [List.length_map]; exact hP.len
    have := hO.pos
    have := hO.len
    refine ⟨_, rfl, _, _, _, _, true, rfl, .ty _, ty_list hP.lst, kit_ty (by decide +kernel), true, rfl, iteF ⟨_, rfl, a, _, rfl, .inl hP.lst, rfl, false, dF (fun z => by injection z with z; omega), iteF ?_⟩⟩
    exact ⟨_, rfl, a, as, rows, rfl, hT, hP, hO, fun H' x => ⟨_, rfl, rfl, false, rfl, iteF (k H' x)⟩⟩
structure StyleAt (K : PySem.W.Frag) (H : Hp) (a : Addr) (gap least : Int) : Prop where
  tup : SqT K H a [.int gap, .int least]
  g0 : 0 ≤ gap
  g1 : gap ≤ 4
  l0 : 0 ≤ least
  l1 : least ≤ 12
def spStyle (K : PySem.W.Frag) : Sp := fun vs H Q _ => ∃ (a : Addr) (gap least : Int), vs = [.ref a] ∧ StyleAt K H a gap least ∧ Q .non H
theorem sc_style : FnScope ["style", "gap", "least"] ["style"] (defScope s_check_style) := ⟨rfl, rfl, rfl, by decide +kernel, rfl, by decide +kernel, by decide +kernel⟩
theorem ok_cstyle {f g : Addr} {fd fdg : FuncData} (T : Txt mg) (N : Consts mg) (F : Fun K "check_style" "check_style" s_check_style f fd)
    (G : FnOk P w K mg base CX0 1 g fdg ["value", "low", "high"] spWhole) (kp : PySem.W.keepIn K (.ref g) = true) (bd : Binds K fdg ["value", "low", "high"] []) (mgg : mg "is_whole" = some (.ref g)) : FnOk P w K mg base CX0 2 f fd ["style"] (spStyle K) := by
  refine F.ok sc_style (fun vs H Q E h => ?_) (fun cdv A outer s H vs Q E hr h => ?_)
  · obtain ⟨a, gap, least, rfl, _⟩ := h
    rfl
  · obtain ⟨a, gap, least, rfl, ⟨hS, g0, g1, l0, l1⟩, k⟩ := h
    have nd := sc_style.nd
    obtain ⟨t1, e1⟩ := N.gap
    obtain ⟨t2, e2⟩ := N.least
    refine ⟨_, pss_cons (ps_if (PW.pt (pw_or (pt_not (pt_val (pe_callB call_isi (by rfl) T.isin (by decide +kernel) (pa_cons (pv 0) (pa_cons (pe_bltn (v := .ty "tuple") (by rfl) T.tuple (by decide +kernel) rfl) pa_nil)))))
        (pw_or1 (pt_cmpR op_ne (pe_callB call_len_seq (by rfl) T.len PySem.boot_len (pa_cons (pv 0) pa_nil)) pe_int (nomark _))))) (pss_one ps_never) pss_nil)
      (pss_cons (ps_asg (pv 0) (pg_tup rfl (pgs_cons (pg_name (i := 1) nd rfl (.inl rfl)) (pgs_cons (pg_name (i := 2) nd rfl (.inl rfl)) pgs_nil))))
      (pss_one (ps_if (PW.pt (pw_or (pt_not (pt_val (pe_call G hr (by rfl) mgg kp bd .nil pass0 (pa_cons (pv 1) (pa_cons pe_int (pa_cons (pe_glob (v := .int 4) rfl e1 ⟨_, rfl⟩) pa_nil))))))
        (pw_or1 (pt_not (pt_val (pe_call G hr (by rfl) mgg kp bd .nil pass0 (pa_cons (pv 2) (pa_cons pe_int (pa_cons (pe_glob (v := .int 12) rfl e2 ⟨_, rfl⟩) pa_nil))))))))) (pss_one ps_never) pss_nil))), ?_⟩
    refine ⟨_, rfl, _, _, _, _, true, rfl, .ty _, ty_tup hS, kit_ty (by decide +kernel), true, rfl, iteF ⟨_, rfl, a, _, rfl, .inr hS, rfl, false, rfl, iteF ?_⟩⟩
    exact ⟨_, rfl, a, _, rfl, hS, rfl, _, _, rfl, _, _, rfl, rfl, _, rfl, gap, 0, 4, rfl, g0, g1, true, rfl, iteF ⟨_, rfl, least, 0, 12, rfl, l0, l1, true, rfl, iteF k⟩⟩
end
end TG

namespace TG
open PySem L2 Gx
/-! ### figures -/
abbrev cl (z : Str) : List Nat := z.cps.toList
def restL (l : List Nat) : List Nat := if l.head? = some 45 then l.tail else l
def figB (z : Str) : Bool := decide (restL (cl z) ≠ []) && (restL (cl z)).all fun c => decide (48 ≤ c ∧ c ≤ 57)
theorem digit_lt : ∀ c < 127, Unicode.isDigit c = decide (48 ≤ c ∧ c ≤ 57) := by decide +kernel
theorem isdigit_eq {z : Str} (h : ∀ c ∈ cl z, c < 127) : Txt.isdigit z = (decide (cl z ≠ []) && (cl z).all fun c => decide (48 ≤ c ∧ c ≤ 57)) := by
  obtain ⟨⟨l⟩⟩ := z
  unfold Txt.isdigit
  simp only [Str.length, cl] at h ⊢
  congr 1
  · cases l <;> simp
  · rw [Bool.eq_iff_iff]
    simp only [List.all_eq_true, List.all_toArray]
    constructor
    · intro q c hc
      rw [← digit_lt c (h c hc)]; exact q c hc
    · intro q c hc
      rw [digit_lt c (h c hc)]; exact q c hc
theorem cut1 (z : Str) : cl (cutS z (some 1) none) = (cl z).tail := by
  obtain ⟨⟨l⟩⟩ := z
  unfold cutS
  simp only [cl, Str.length]
  rw [HT.sIx_none, show (some (1 : Int)) = some ((1 : Nat) : Int) from rfl, HT.sIx_nat]
  cases l with
  | nil => simp
  | cons a l => simp
theorem cut01 (z : Str) : cl (cutS z none (some 1)) = (cl z).take 1 := by
  obtain ⟨⟨l⟩⟩ := z
  unfold cutS
  simp only [cl, Str.length]
  rw [HT.sIx_none, show (some (1 : Int)) = some ((1 : Nat) : Int) from rfl, HT.sIx_nat]
  cases l with
  | nil => simp
  | cons a l => simp
theorem starts_dash (z : Str) : Txt.startswith z "-" = decide ((cl z).head? = some 45) := by
  obtain ⟨⟨l⟩⟩ := z
  have e : ("-" : Str) = ⟨#[45]⟩ := by decide +kernel
  rw [e]
  unfold Txt.startswith Builtin.Str.subAt
  cases l with
  | nil => simp [Str.length, cl]
  | cons a l =>
    simp only [Str.length, cl, List.head?_cons]
    by_cases h : a = 45
    · subst h
      simp
    · simp [h]
theorem str_ext {a b : Str} (h : cl a = cl b) : a = b := by
  obtain ⟨⟨a⟩⟩ := a
  obtain ⟨⟨b⟩⟩ := b
  have h : a = b := h
  rw [h]
section
variable {P : Program} {w : World} {K : PySem.W.Frag} {mg : Str → Option Value} {base : Heap} {cs : List (Addr × Addr)}
def spFig : Sp := fun vs H Q _ => ∃ z : Str, vs = [.str z] ∧ CellOk z ∧ Q (.bl (figB z)) H
theorem sc_isfig : FnScope ["cell"] ["cell"] (defScope s_is_figures) := ⟨rfl, rfl, rfl, by decide +kernel, rfl, by decide +kernel, by decide +kernel⟩
theorem ok_isfig {f : Addr} {fd : FuncData} (F : Fun K "is_figures" "is_figures" s_is_figures f fd) : FnOk P w K mg base CX0 1 f fd ["cell"] spFig := by
  refine F.ok sc_isfig (fun vs H Q E h => ?_) (fun cdv A outer s H vs Q E hr h => ?_)
  · obtain ⟨z, rfl, _⟩ := h
    rfl
  · obtain ⟨z, rfl, ⟨h1, h2⟩, k⟩ := h
    refine ⟨_, pss_cons (ps_if (pt_val (pe_m1 PySem.F.slot_str_startswith PySem.F.type_str_startswith mt_startswith (pv 0) pe_str)) (pss_one (ps_ret (pe_m0 PySem.F.slot_str_isdigit PySem.F.type_str_isdigit mt_isdigit (pe_slice sl_str (pv 0) (po_some pe_int) po_none)))) pss_nil)
      (pss_one (ps_ret (pe_m0 PySem.F.slot_str_isdigit PySem.F.type_str_isdigit mt_isdigit (pv 0)))), ?_⟩
    have lt : ∀ c ∈ cl z, c < 127 := fun c hc => by have := h2 c hc; unfold SgOk at this; omega
    refine ⟨_, rfl, ⟨_, rfl⟩, z, _, rfl, rfl, _, rfl, ?_⟩
    rw [starts_dash]
    by_cases hd : (cl z).head? = some 45
    · rw [decide_eq_true hd]
      refine iteT ⟨_, rfl, 1, rfl, z, rfl, line10 (by omega), ⟨_, rfl⟩, _, rfl, rfl, trivial, ?_⟩
      have e : Txt.isdigit (cutS z (some 1) none) = figB z := by
        rw [isdigit_eq (fun c hc => lt c (by rw [cut1] at hc; exact List.mem_of_mem_tail hc)), cut1]
        unfold figB restL
        rw [if_pos hd]
      rw [e]
      exact k
    · rw [decide_eq_false hd]
      refine iteF ⟨_, rfl, ⟨_, rfl⟩, _, rfl, rfl, trivial, ?_⟩
      have e : Txt.isdigit z = figB z := by
        rw [isdigit_eq lt]
        unfold figB restL
        rw [if_neg hd]
      rw [e]
      exact k
end
end TG

namespace TG
open PySem L2 Gx
def fillB (zs : List Str) : List Str := zs.filter fun z => decide (cl z ≠ [])
def rightB (zs : List Str) : Bool := decide (fillB zs ≠ []) && (fillB zs).all figB
theorem ne_empty (z : Str) : (!decide (V.str z = V.str "")) = decide (cl z ≠ []) := by
  have e : ("" : Str) = ⟨#[]⟩ := by decide +kernel
  by_cases h : cl z = []
  · have q : z = "" := str_ext (by rw [h, e])
    rw [decide_eq_true (show V.str z = V.str "" by rw [q]), decide_eq_false (fun n => n h)]
    rfl
  · rw [decide_eq_false (show ¬ V.str z = V.str "" from fun q => h (by injection q with q; rw [q, e])), decide_eq_true h]
    rfl
theorem filter_take {α : Type} {p : α → Bool} {xs : List α} {i : Nat} {x : α} (h : xs[i]? = some x) : (xs.take (i + 1)).filter p = (xs.take i).filter p ++ (if p x = true then [x] else []) := by
  rw [List.take_add_one, h, List.filter_append]
  congr 1
  by_cases hp : p x = true
  · rw [if_pos hp]
    simp [hp]
  · rw [if_neg hp]
    simp [hp]
section
variable {P : Program} {w : World} {K : PySem.W.Frag} {mg : Str → Option Value} {base : Heap} {cs : List (Addr × Addr)}
def spRight (K : PySem.W.Frag) (cs : List (Addr × Addr)) : Sp := fun vs H Q _ => ∃ (a : Addr) (zs : List Str), vs = [.ref a] ∧ Tabs cs H ∧ SqL K H a (sV zs) ∧ zs.length ≤ 1000 ∧ (∀ z ∈ zs, CellOk z) ∧ ∀ H', Ex cs H H' → Q (.bl (rightB zs)) H'
theorem sc_right : FnScope ["cells", "filled", "cell"] ["cells"] (defScope s_stands_right) := ⟨rfl, rfl, rfl, by decide +kernel, rfl, by decide +kernel, by decide +kernel⟩
theorem ok_right {f c Pt g : Addr} {fd fdg : FuncData} (T : Txt mg) (F : Fun K "stands_right" "stands_right" s_stands_right f fd) (hc : fd.code = .ref c) (TB : GxR.TabB base mg c Pt) (hm : (c, Pt) ∈ cs)
    (G : FnOk P w K mg base CX0 1 g fdg ["cell"] spFig) (kp : PySem.W.keepIn K (.ref g) = true) (bd : Binds K fdg ["cell"] []) (mgg : mg "is_figures" = some (.ref g)) : FnOk P w K mg base CX0 5 f fd ["cells"] (spRight K cs) := by
  refine fun_okT F hc sc_right (fun vs H Q E h => ?_) (fun A outer s H vs Q E hr h => ?_)
  · obtain ⟨a, zs, rfl, _⟩ := h
    rfl
  · obtain ⟨a, zs, rfl, hT, hS, hl, hz, k⟩ := h
    have nd := sc_right.nd
    refine ⟨_, pss_cons (ps_setLc (i := 1) (own := [("cell", 2)]) (g := gName 2) rfl nd rfl rfl (sw_true rfl rfl rfl (by decide +kernel)) (pi_list (pv 0)) (blkOk_by (own := [("cell", 2)]) (N := ["cells", "filled", "cell"]) (sc := defScope s_stands_right) (by decide +kernel))
        (fun _ _ _ _ _ => pg_name (i := 2) nd rfl (Or.inl rfl)) (fun _ _ _ _ _ => pts_one (pt_cmpR op_ne (pv 2) pe_str (nomark _))) (fun _ _ _ _ _ => pv 2))
      (pss_one (ps_ret (pe_and (pe_cmpR op_gt (pe_callB call_len_seq (by rfl) T.len PySem.boot_len (pa_cons (pv 1) pa_nil)) pe_int (nomark _))
        (pe_one (pe_allG (k := 1) (P := Pt) hr (by rfl) T.all TB rfl ⟨rfl, rfl, by decide +kernel, by decide +kernel, rfl, rfl⟩ (pi_list (pv 1)) (fun A' code s4 H4 fp hr' => pe_call G hr' (by rfl) mgg kp bd .nil pass0 (pa_cons (pv 0) pa_nil)) (fun _ => rfl)))))), ?_⟩
    have ls : (sV zs).length = zs.length := List.length_map ..
    refine ⟨_, rfl, a, rfl, ⟨_, hS⟩, fun D nD => lc_list (xs := sV zs) (fun i H' => Ex cs H H' ∧ H' D = some (.lst (sV (fillB (zs.take i))))) ⟨Ex.laid hT nD, upd_same⟩ (fun i H' _ p => p.1.sqL hS) ?_ ?_⟩
    · rintro i x H1 hx ⟨x1, hD⟩
      obtain ⟨z, hz1, rfl⟩ := get_map hx
      have hi : i < zs.length := (List.getElem?_eq_some_iff.mp hz1).1
      have hf := filter_take (p := fun z => decide (cl z ≠ [])) hz1
      refine ⟨rfl, _, rfl, rfl, _, rfl, ?_⟩
      rw [ne_empty]
      by_cases hc : cl z ≠ []
      · rw [decide_eq_true hc]
        rw [if_pos (decide_eq_true hc)] at hf
        refine iteT ⟨_, rfl, _, hD, ?_, ex_new hT x1 nD, ?_⟩
        · have q : (fillB (zs.take i)).length ≤ (zs.take i).length := List.length_filter_le ..
          have q2 : (sV (fillB (zs.take i))).length = (fillB (zs.take i)).length := List.length_map ..
          rw [List.length_take] at q
          have : (1000 : Nat) < sizeLine := by decide
          omega
        · rw [upd_same]
          unfold fillB
          rw [hf]
          simp [sV]
      · rw [decide_eq_false hc]
        rw [if_neg (by rw [decide_eq_false hc]; exact Bool.false_ne_true), List.append_nil] at hf
        refine iteF ⟨x1, ?_⟩
        unfold fillB
        rw [hf]
        exact hD
    · rintro H1 ⟨x1, hD⟩
      rw [ls, List.take_of_length_le (Nat.le_refl _)] at hD
      have hf : ∀ z ∈ fillB zs, CellOk z := fun z h => hz z (List.mem_filter.mp h).1
      refine ⟨_, rfl, D, _, rfl, .inl (SqL.of hD), _, 0, rfl, rfl, _, rfl, ?_⟩
      have lf : (sV (fillB zs)).length = (fillB zs).length := List.length_map ..
      by_cases hn : fillB zs = []
      · have e0 : decide (((sV (fillB zs)).length : Int) > 0) = false := decide_eq_false (by rw [hn]; simp)
        rw [e0]
        refine iteF ?_
        have e : rightB zs = false := by
          unfold rightB
          rw [decide_eq_false (fun q => q hn)]
          rfl
        rw [← e]
        exact k _ x1
      · have hp : 0 < (fillB zs).length := List.length_pos_iff.mpr hn
        have e0 : decide (((sV (fillB zs)).length : Int) > 0) = true := decide_eq_true (by omega)
        rw [e0]
        refine iteT ⟨_, rfl, D, rfl, ⟨_, SqL.of hD⟩, x1.tab _ hm, fun H2 hH2 => ?_⟩
        have x2 := Ex.tabbed x1.tab (x1.tab _ hm) hH2
        have hR : rightB zs = (fillB zs).all figB := by
          unfold rightB
          rw [decide_eq_true hn, Bool.true_and]
        refine all_by (w := walk_list (a := D) (xs := sV (fillB zs))) (fun i => match (fillB zs)[i]? with | some z => figB z | none => true) (fun _ H' => Ex cs H H' ∧ H' D = some (.lst (sV (fillB zs)))) ⟨x1.trans x2, x2.ext _ _ hD fun ps q => by cases q⟩ (fun i H' _ x => SqL.of x.2) (fun i v H3 H4 hi x y Z hZ => ?_) (fun H3 x hall => ?_) (fun i H3 hi hff x => ?_)
        · obtain ⟨rfl, hv⟩ := y
          obtain ⟨z, hz2, rfl⟩ := get_map hv
          refine ⟨_, rfl, z, rfl, hf z (List.mem_of_getElem? hz2), ?_⟩
          have := hZ _ x
          rw [hz2] at this
          exact this
        · have e : rightB zs = true := by
            rw [hR, List.all_eq_true]
            intro z hzm
            obtain ⟨i, hi, e⟩ := List.getElem_of_mem hzm
            have q := hall i (by omega)
            rw [List.getElem?_eq_getElem hi, e] at q
            exact q
          rw [← e]
          exact k _ x.1
        · have e : rightB zs = false := by
            rw [hR, Bool.eq_false_iff]
            intro q
            rw [List.all_eq_true] at q
            have hi2 : i < (fillB zs).length := by omega
            rw [List.getElem?_eq_getElem hi2] at hff
            have := q _ (List.getElem_mem hi2)
            rw [show figB (fillB zs)[i] = false from hff] at this
            cases this
          rw [← e]
          exact k _ x.1
end
end TG

namespace TG
open PySem L2 Gx
/-! ### runs of rows that are closed in a column -/
def clB (rows : List (List Str)) (c i : Nat) : Bool := match rows[i]? with
  | some r => decide (c + 1 < r.length)
  | none => false
def hiB (rows : List (List Str)) (c i : Nat) : Nat := i + ((rows.drop i).takeWhile fun r => decide (c + 1 < r.length)).length
def stB (rows : List (List Str)) (c i : Nat) : Bool := clB rows c i && (decide (i = 0) || !clB rows c (i - 1))
def runsB (rows : List (List Str)) (c : Nat) : List (Nat × Nat) := ((List.range rows.length).filter (stB rows c)).map fun i => (i, hiB rows c i)
theorem hi_yes {rows : List (List Str)} {c i : Nat} (h : clB rows c i = true) : hiB rows c i = hiB rows c (i + 1) := by
  unfold clB at h
  cases e : rows[i]? with
  | none => rw [e] at h; cases h
  | some r =>
    rw [e] at h
    obtain ⟨hi, e2⟩ := List.getElem?_eq_some_iff.mp e
    have h' : decide (c + 1 < r.length) = true := h
    unfold hiB
    rw [List.drop_eq_getElem_cons hi, e2, List.takeWhile_cons, h', if_pos rfl, List.length_cons]
    omega
theorem hi_no {rows : List (List Str)} {c i : Nat} (h : clB rows c i = false) : hiB rows c i = i := by
  unfold clB at h
  unfold hiB
  cases e : rows[i]? with
  | none =>
    have hl : rows.length ≤ i := List.getElem?_eq_none_iff.mp e
    rw [List.drop_of_length_le hl]
    rfl
  | some r =>
    rw [e] at h
    obtain ⟨hi, e2⟩ := List.getElem?_eq_some_iff.mp e
    have h' : decide (c + 1 < r.length) = false := h
    rw [List.drop_eq_getElem_cons hi, e2, List.takeWhile_cons, h', if_neg Bool.false_ne_true]
    rfl
theorem hi_ge (rows : List (List Str)) (c i : Nat) : i ≤ hiB rows c i := Nat.le_add_right ..
theorem cl_lt {rows : List (List Str)} {c i : Nat} (h : clB rows c i = true) : i < rows.length := by
  unfold clB at h
  cases e : rows[i]? with
  | none => rw [e] at h; cases h
  | some r => exact (List.getElem?_eq_some_iff.mp e).1
theorem hi_le {rows : List (List Str)} {c i : Nat} (h : i ≤ rows.length) : hiB rows c i ≤ rows.length := by
  unfold hiB
  have := (List.takeWhile_prefix (l := rows.drop i) (fun r : List Str => decide (c + 1 < r.length))).length_le
  rw [List.length_drop] at this
  omega
theorem hi_in {rows : List (List Str)} {c : Nat} : ∀ (d i j : Nat), j = i + d → j < hiB rows c i → clB rows c j = true := by
  intro d
  induction d with
  | zero =>
    intro i j e h
    have e' : j = i := by omega
    subst e'
    cases hc : clB rows c j with
    | true => rfl
    | false =>
      rw [hi_no hc] at h
      omega
  | succ d ih =>
    intro i j e h
    cases hc : clB rows c i with
    | true =>
      rw [hi_yes hc] at h
      exact ih (i + 1) j (by omega) h
    | false =>
      rw [hi_no hc] at h
      omega
theorem hi_at {rows : List (List Str)} {c : Nat} (i : Nat) : clB rows c (hiB rows c i) = false := by
  generalize hd : rows.length - i = d
  induction d generalizing i with
  | zero =>
    cases hc : clB rows c i with
    | true => have := cl_lt hc; omega
    | false => rw [hi_no hc]; exact hc
  | succ d ih =>
    cases hc : clB rows c i with
    | true => rw [hi_yes hc]; exact ih (i + 1) (by omega)
    | false => rw [hi_no hc]; exact hc
/-- one turn of the outer loop -/
theorem starts_turn {rows : List (List Str)} {c k : Nat} (hk : k = 0 ∨ clB rows c (k - 1) = false) :
    (List.range (hiB rows c k + 1)).filter (stB rows c) = (List.range k).filter (stB rows c) ++ (if clB rows c k = true then [k] else []) := by
  have key : ∀ d, k + d ≤ hiB rows c k → (List.range (k + d + 1)).filter (stB rows c) = (List.range k).filter (stB rows c) ++ (if clB rows c k = true then [k] else []) := by
    intro d
    induction d with
    | zero =>
      intro _
      rw [Nat.add_zero, List.range_succ, List.filter_append]
      congr 1
      have e : stB rows c k = clB rows c k := by
        unfold stB
        rcases hk with h | h
        · rw [decide_eq_true h]; simp
        · rw [h]; simp
      by_cases hc : clB rows c k = true
      · rw [if_pos hc]
        simp [e, hc]
      · rw [if_neg hc]
        simp [e, hc]
    | succ d ih =>
      intro hle
      rw [← Nat.add_assoc, List.range_succ, List.filter_append, ih (by omega)]
      have h1 : clB rows c (k + d) = true := hi_in d k (k + d) rfl (by omega)
      have e : stB rows c (k + d + 1) = false := by
        unfold stB
        rw [Nat.add_sub_cancel, h1, decide_eq_false (by omega)]
        simp
      simp [e]
  have h0 := hi_ge rows c k
  have := key (hiB rows c k - k) (by omega)
  rw [show k + (hiB rows c k - k) + 1 = hiB rows c k + 1 by omega] at this
  exact this
theorem starts_end {rows : List (List Str)} {c k : Nat} (h1 : rows.length ≤ k) : (List.range k).filter (stB rows c) = (List.range rows.length).filter (stB rows c) := by
  obtain ⟨d, rfl⟩ : ∃ d, k = rows.length + d := ⟨k - rows.length, by omega⟩
  clear h1
  induction d with
  | zero => rfl
  | succ d ih =>
    rw [← Nat.add_assoc, List.range_succ, List.filter_append, ih]
    have e : stB rows c (rows.length + d) = false := by
      unfold stB
      cases hc : clB rows c (rows.length + d) with
      | true => have := cl_lt hc; omega
      | false => rfl
    simp [e]
/-- pairs of numbers at ts -/
structure PairsAt (H : Hp) (ts : List Addr) (ps : List (Nat × Nat)) : Prop where
  len : ts.length = ps.length
  at_ : ∀ (i : Nat) (t : Addr) (p : Nat × Nat), ts[i]? = some t → ps[i]? = some p → H t = some (.tup [.int (p.1 : Nat), .int (p.2 : Nat)])
theorem PairsAt.snoc {H : Hp} {ts : List Addr} {ps : List (Nat × Nat)} {t : Addr} {p : Nat × Nat} (h : PairsAt H ts ps) (e : H t = some (.tup [.int (p.1 : Nat), .int (p.2 : Nat)])) : PairsAt H (ts ++ [t]) (ps ++ [p]) := by
  refine ⟨by rw [List.length_append, List.length_append, h.len]; rfl, fun i u q h1 h2 => ?_⟩
  by_cases hi : i < ts.length
  · rw [List.getElem?_append_left hi] at h1
    rw [List.getElem?_append_left (by rw [← h.len]; exact hi)] at h2
    exact h.at_ i u q h1 h2
  · have hl := (List.getElem?_eq_some_iff.mp h1).1
    rw [List.length_append, List.length_singleton] at hl
    have e1 : i = ts.length := by omega
    subst e1
    rw [List.getElem?_append_right (Nat.le_refl _), Nat.sub_self] at h1
    rw [h.len, List.getElem?_append_right (Nat.le_refl _), Nat.sub_self] at h2
    cases h1
    cases h2
    exact e
theorem PairsAt.keep {H H' : Hp} {ts : List Addr} {ps : List (Nat × Nat)} (h : PairsAt H ts ps) (k : ∀ b xs, H b = some (.tup xs) → H' b = some (.tup xs)) : PairsAt H' ts ps := ⟨h.len, fun i t p h1 h2 => k _ _ (h.at_ i t p h1 h2)⟩
section
variable {P : Program} {w : World} {K : PySem.W.Frag} {mg : Str → Option Value} {base : Heap} {cs : List (Addr × Addr)}
def spClosed (K : PySem.W.Frag) : Sp := fun vs H Q _ => ∃ (p : Addr) (r : List Str) (c : Nat), vs = [.ref p, .int (c : Nat)] ∧ SqT K H p (sV r) ∧ Q (.bl (decide (c + 1 < r.length))) H
theorem sc_closed : FnScope ["row", "column"] ["row", "column"] (defScope s_is_closed) := ⟨rfl, rfl, rfl, by decide +kernel, rfl, by decide +kernel, by decide +kernel⟩
theorem ok_closed {f : Addr} {fd : FuncData} (T : Txt mg) (F : Fun K "is_closed" "is_closed" s_is_closed f fd) : FnOk P w K mg base CX0 1 f fd ["row", "column"] (spClosed K) := by
  refine F.ok sc_closed (fun vs H Q E h => ?_) (fun cdv A outer s H vs Q E hr h => ?_)
  · obtain ⟨p, r, c, rfl, _⟩ := h
    rfl
  · obtain ⟨p, r, c, rfl, hS, k⟩ := h
    refine ⟨_, pss_one (ps_ret (pe_cmpR op_lt (pe_op op_add (pv 1) pe_int) (pe_callB call_len_seq (by rfl) T.len PySem.boot_len (pa_cons (pv 0) pa_nil)) (nomark _))), ?_⟩
    refine ⟨_, rfl, c, 1, rfl, rfl, _, rfl, p, _, rfl, .inr hS, _, _, rfl, rfl, ?_⟩
    have ls : (sV r).length = r.length := List.length_map ..
    have e : decide ((c : Int) + 1 < ((sV r).length : Int)) = decide (c + 1 < r.length) := by
      rw [ls]
      by_cases h : c + 1 < r.length
      · rw [decide_eq_true h, decide_eq_true (by omega)]
      · rw [decide_eq_false h, decide_eq_false (by omega)]
    show Q (.bl (decide ((c : Int) + 1 < ((sV r).length : Int)))) H
    rw [e]
    exact k
def spRuns (K : PySem.W.Frag) (cs : List (Addr × Addr)) : Sp := fun vs H Q _ => ∃ (a : Addr) (as : List Addr) (rows : List (List Str)) (c : Nat), vs = [.ref a, .int (c : Nat)] ∧ Tabs cs H ∧ PageAt K H a as rows ∧ rows.length ≤ 30 ∧
  ∀ (r : Addr) (ts : List Addr) (H' : Hp), Ex cs H H' → H r = none → H' r = some (.lst (ts.map V.ref)) → PairsAt H' ts (runsB rows c) → Q (.ref r) H'
theorem sc_runs : FnScope ["page", "column", "runs", "begin", "end"] ["page", "column"] (defScope s_closed_runs) := ⟨rfl, rfl, rfl, by decide +kernel, rfl, by decide +kernel, by decide +kernel⟩
theorem ok_runs {f g : Addr} {fd fdg : FuncData} (T : Txt mg) (F : Fun K "closed_runs" "closed_runs" s_closed_runs f fd)
    (G : FnOk P w K mg base CX0 1 g fdg ["row", "column"] (spClosed K)) (kp : PySem.W.keepIn K (.ref g) = true) (bd : Binds K fdg ["row", "column"] []) (mgg : mg "is_closed" = some (.ref g)) : FnOk P w K mg base CX0 2 f fd ["page", "column"] (spRuns K cs) := by
  refine F.ok sc_runs (fun vs H Q E h => ?_) (fun cdv A outer s H vs Q E hr h => ?_)
  · obtain ⟨a, as, rows, c, rfl, _⟩ := h
    rfl
  · obtain ⟨a, as, rows, c, rfl, hT, hP, hn, k⟩ := h
    have nd := sc_runs.nd
    refine ⟨_, pss_cons (ps_set (i := 2) nd rfl (.inl rfl) (pe_lst pa_nil)) (pss_cons (ps_set (i := 3) nd rfl (.inl rfl) pe_int)
      (pss_cons (ps_while PassesOwn.never (pt_cmpR op_lt (pv 3) (pe_callB call_len_seq (by rfl) T.len PySem.boot_len (pa_cons (pv 0) pa_nil)) (nomark _))
        (pss_cons (ps_set (i := 4) nd rfl (.inl rfl) (pv 3))
        (pss_cons (ps_while PassesOwn.never (PW.pt (pw_and (pt_cmpR op_lt (pv 4) (pe_callB call_len_seq (by rfl) T.len PySem.boot_len (pa_cons (pv 0) pa_nil)) (nomark _)) (pw_and1 (pt_val (pe_call G hr (by rfl) mgg kp bd .nil pass0 (pa_cons (pe_ix ix_list (pv 0) (pv 4) (fun _ _ => rfl)) (pa_cons (pv 1) pa_nil)))))))
            (pss_one (ps_aug (i := 4) nd rfl (.inl rfl) pe_int ip_add)))
        (pss_cons (ps_if (pt_cmpR op_gt (pv 4) (pv 3) (nomark _)) (pss_one (ps_expr (pe_bm PySem.F.plainAttrs_list PySem.F.slot_list_append PySem.F.type_list_append mt_append (pv 2) (pa_cons (pe_tup (pa_cons (pv 3) (pa_cons (pv 4) pa_nil))) pa_nil)))) pss_nil)
        (pss_one (ps_set (i := 3) nd rfl (.inl rfl) (pe_op op_add (pv 4) pe_int)))))))
      (pss_one (ps_ret (pv 2))))), ?_⟩
    refine ⟨small0, fun p np => ?_⟩
    -- the outer loop
    let runsAt : Nat → List (Nat × Nat) := fun k => ((List.range k).filter (stB rows c)).map fun i => (i, hiB rows c i)
    let Out : Nat → L2.St → Hp → Prop := fun m σ H1 => ∃ (b : Nat) (ts : List Addr) (e : Option V), σ = [some (.ref a), some (.int (c : Nat)), some (.ref p), some (.int (b : Nat)), e] ∧ m = rows.length + 1 - b ∧ b ≤ rows.length + 1 ∧ (b = 0 ∨ clB rows c (b - 1) = false) ∧ Ex cs H H1 ∧ H1 p = some (.lst (ts.map V.ref)) ∧ PairsAt H1 ts (runsAt b)
    refine ⟨Out, ⟨_, 0, [], none, rfl, rfl, Nat.zero_le _, .inl rfl, Ex.laid hT np, upd_same, rfl, fun i t q h => by simp at h⟩, ?_⟩
    rintro m σ H1 ⟨b, ts, e, rfl, rfl, hb, hst, x1, hp1, pr⟩
    have hl : (as.map V.ref).length = rows.length := by rw [List.length_map]; exact hP.len
    refine ⟨_, rfl, _, rfl, a, _, rfl, .inl (x1.sqL hP.lst), _, _, rfl, rfl, _, rfl, ?_⟩
    by_cases hlt : b < rows.length
    · rw [decide_eq_true (show (b : Int) < ((as.map V.ref).length : Int) by omega)]
      refine iteT ⟨Out (rows.length + 1 - (hiB rows c b + 1)), fun σ' H' o => ⟨_, by have := hi_ge rows c b; omega, o⟩, ?_⟩
      refine ⟨_, rfl, ?_⟩
      let Inn : Nat → L2.St → Hp → Prop := fun m σ H2 => ∃ e : Nat, σ = [some (.ref a), some (.int (c : Nat)), some (.ref p), some (.int (b : Nat)), some (.int (e : Nat))] ∧ m = rows.length - e ∧ b ≤ e ∧ e ≤ rows.length ∧ hiB rows c e = hiB rows c b ∧ H2 = H1
      refine ⟨Inn, ⟨_, b, rfl, rfl, Nat.le_refl _, Nat.le_of_lt hlt, rfl, rfl⟩, ?_⟩
      rintro m2 σ2 H2 ⟨e2, rfl, rfl, h1, h2, h3, rfl⟩
      refine ⟨_, rfl, _, rfl, a, _, rfl, .inl (x1.sqL hP.lst), _, _, rfl, rfl, _, rfl, ?_⟩
      have hsz : (ts.map V.ref).length < sizeLine := by
        have q1 : (runsAt b).length ≤ (List.range b).length := by
          show (((List.range b).filter (stB rows c)).map _).length ≤ _
          rw [List.length_map]
          exact List.length_filter_le ..
        rw [List.length_range] at q1
        rw [List.length_map, pr.len]
        have : (1000 : Nat) < sizeLine := by decide
        omega
      cases hcl : clB rows c e2 with
      | true =>
        have hlt2 := cl_lt hcl
        obtain ⟨q, hq⟩ := getP (xs := as) (i := e2) (by rw [hP.len]; exact hlt2)
        obtain ⟨r, hr2⟩ := getP hlt2
        have hcr : decide (c + 1 < r.length) = true := by
          unfold clB at hcl
          rw [hr2] at hcl
          exact hcl
        rw [decide_eq_true (show (e2 : Int) < ((as.map V.ref).length : Int) by omega)]
        refine iteT ⟨_, rfl, _, rfl, a, _, e2, .ref q, rfl, rfl, x1.sqL hP.lst, atI_nat (by rw [List.getElem?_map, hq]; rfl), _, rfl, q, r, c, rfl, x1.sqT (hP.row e2 q r hq hr2), true, by rw [hcr], iteT ?_⟩
        refine ⟨Inn (rows.length - (e2 + 1)), fun σ' H' o => ⟨_, by omega, o⟩, _, rfl, e2, 1, rfl, rfl, e2 + 1, rfl, rfl, by omega, by omega, by rw [← hi_yes hcl]; exact h3, rfl⟩
      | false =>
        have hnc := hcl
        have he : hiB rows c b = e2 := h3.symm.trans (hi_no hnc)
        by_cases hlt2 : e2 < rows.length
        · obtain ⟨q, hq⟩ := getP (xs := as) (i := e2) (by rw [hP.len]; exact hlt2)
          obtain ⟨r, hr2⟩ := getP hlt2
          have hcr : decide (c + 1 < r.length) = false := by
            unfold clB at hcl
            rw [hr2] at hcl
            exact hcl
          rw [decide_eq_true (show (e2 : Int) < ((as.map V.ref).length : Int) by omega)]
          refine iteT ⟨_, rfl, _, rfl, a, _, e2, .ref q, rfl, rfl, x1.sqL hP.lst, atI_nat (by rw [List.getElem?_map, hq]; rfl), _, rfl, q, r, c, rfl, x1.sqT (hP.row e2 q r hq hr2), false, by rw [hcr], iteF ?_⟩
          refine ⟨_, rfl, _, rfl, _, _, rfl, rfl, _, rfl, ?_⟩
          by_cases hgt : b < e2
          · rw [decide_eq_true (show (b : Int) < (e2 : Int) by omega)]
            refine iteT ⟨_, rfl, .inl ⟨rfl, _, SqL.of hp1⟩, _, rfl, _, rfl, (by show 2 ≤ sizeLine; decide), fun t nt => ⟨p, ts.map V.ref, .ref t, rfl, rfl, (by rw [upd_ne (ne_of_none hp1 nt)]; exact hp1), hsz, ?_⟩⟩
            refine ⟨_, rfl, e2, 1, rfl, rfl, ?_⟩
            have ntp : t ≠ p := fun z => by rw [z, hp1] at nt; cases nt
            have eR : runsAt (e2 + 1) = runsAt b ++ [(b, e2)] := by
              show ((List.range (e2 + 1)).filter (stB rows c)).map _ = _
              rw [← he, starts_turn hst, if_pos (hi_in 0 b b rfl (by omega)), List.map_append]
              rfl
            refine ⟨e2 + 1, ts ++ [t], some (.int (e2 : Nat)), rfl, by omega, by omega, .inr (by rw [Nat.add_sub_cancel]; exact hnc), ex_new hT (x1.trans (Ex.laid x1.tab nt)) np, ?_, ?_⟩
            · rw [upd_same, List.map_append]; rfl
            · rw [eR]
              refine (pr.keep fun q xs h => ?_).snoc ?_
              · rw [upd_ne (fun z => by rw [z, hp1] at h; cases h), upd_ne (ne_of_none h nt)]; exact h
              · rw [upd_ne ntp, upd_same]
          · rw [decide_eq_false (show ¬ (b : Int) < (e2 : Int) by omega)]
            refine iteF ⟨_, rfl, e2, 1, rfl, rfl, ?_⟩
            have eR : runsAt (e2 + 1) = runsAt b := by
              show ((List.range (e2 + 1)).filter (stB rows c)).map _ = _
              rw [← he, starts_turn hst, if_neg (fun z => by rw [hi_yes z] at he; have := hi_ge rows c (b + 1); omega), List.append_nil]
            refine ⟨e2 + 1, ts, some (.int (e2 : Nat)), rfl, by omega, by omega, .inr (by rw [Nat.add_sub_cancel]; exact hnc), x1, hp1, ?_⟩
            rw [eR]
            exact pr

        · rw [decide_eq_false (show ¬ (e2 : Int) < ((as.map V.ref).length : Int) by omega)]
          refine iteF (iteF ?_)
          refine ⟨_, rfl, _, rfl, _, _, rfl, rfl, _, rfl, ?_⟩
          by_cases hgt : b < e2
          · rw [decide_eq_true (show (b : Int) < (e2 : Int) by omega)]
            refine iteT ⟨_, rfl, .inl ⟨rfl, _, SqL.of hp1⟩, _, rfl, _, rfl, (by show 2 ≤ sizeLine; decide), fun t nt => ⟨p, ts.map V.ref, .ref t, rfl, rfl, (by rw [upd_ne (ne_of_none hp1 nt)]; exact hp1), hsz, ?_⟩⟩
            refine ⟨_, rfl, e2, 1, rfl, rfl, ?_⟩
            have ntp : t ≠ p := fun z => by rw [z, hp1] at nt; cases nt
            have eR : runsAt (e2 + 1) = runsAt b ++ [(b, e2)] := by
              show ((List.range (e2 + 1)).filter (stB rows c)).map _ = _
              rw [← he, starts_turn hst, if_pos (hi_in 0 b b rfl (by omega)), List.map_append]
              rfl
            refine ⟨e2 + 1, ts ++ [t], some (.int (e2 : Nat)), rfl, by omega, by omega, .inr (by rw [Nat.add_sub_cancel]; exact hnc), ex_new hT (x1.trans (Ex.laid x1.tab nt)) np, ?_, ?_⟩
            · rw [upd_same, List.map_append]; rfl
            · rw [eR]
              refine (pr.keep fun q xs h => ?_).snoc ?_
              · rw [upd_ne (fun z => by rw [z, hp1] at h; cases h), upd_ne (ne_of_none h nt)]; exact h
              · rw [upd_ne ntp, upd_same]
          · rw [decide_eq_false (show ¬ (b : Int) < (e2 : Int) by omega)]
            refine iteF ⟨_, rfl, e2, 1, rfl, rfl, ?_⟩
            have eR : runsAt (e2 + 1) = runsAt b := by
              show ((List.range (e2 + 1)).filter (stB rows c)).map _ = _
              rw [← he, starts_turn hst, if_neg (fun z => by rw [hi_yes z] at he; have := hi_ge rows c (b + 1); omega), List.append_nil]
            refine ⟨e2 + 1, ts, some (.int (e2 : Nat)), rfl, by omega, by omega, .inr (by rw [Nat.add_sub_cancel]; exact hnc), x1, hp1, ?_⟩
            rw [eR]
            exact pr
    · rw [decide_eq_false (show ¬ (b : Int) < ((as.map V.ref).length : Int) by omega)]
      refine iteF ⟨_, rfl, ?_⟩
      refine k p ts H1 x1 np hp1 ?_
      have e1 : runsAt b = runsB rows c := by
        show ((List.range b).filter (stB rows c)).map _ = _
        rw [starts_end (by omega)]
        rfl
      rw [← e1]
      exact pr
end
end TG

namespace TG
open PySem L2 Gx
/-! ### what is told of a stretch -/
abbrev nilS : Str := ⟨#[]⟩
def cellsB (rows : List (List Str)) (c b e : Nat) : List Str := ((rows.drop b).take (e - b)).map fun r => r.getD c nilS
def longB : List Str → Nat
  | [] => 0
  | z :: zs => max z.length (longB zs)
def widthB (zs : List Str) (gap least : Int) : Int := if least > (longB zs : Int) + gap then least else (longB zs : Int) + gap
def holdB (zs : List Str) (b : Nat) (gap least : Int) : List Int := if least < (longB zs : Int) + gap then ((List.range zs.length).filter fun i => decide ((zs.getD i nilS).length = longB zs)).map fun i => ((b + i : Nat) : Int) else []
theorem long_ge : ∀ {zs : List Str} {z : Str}, z ∈ zs → z.length ≤ longB zs
  | y :: zs, z, h => by
    rcases List.mem_cons.mp h with e | e
    · subst e; exact Nat.le_max_left _ _
    · exact Nat.le_trans (long_ge e) (Nat.le_max_right _ _)
theorem long_in : ∀ {zs : List Str}, zs ≠ [] → ∃ z ∈ zs, z.length = longB zs
  | [z], _ => ⟨z, List.mem_singleton.mpr rfl, by simp [longB]⟩
  | z :: y :: zs, _ => by
    obtain ⟨x, hx, e⟩ := long_in (zs := y :: zs) (by simp)
    by_cases h : longB (y :: zs) ≤ z.length
    · exact ⟨z, List.mem_cons_self, (Nat.max_eq_left h).symm⟩
    · exact ⟨x, List.mem_cons_of_mem _ hx, by rw [e]; exact (Nat.max_eq_right (by omega)).symm⟩
theorem cells_len {rows : List (List Str)} {c b e : Nat} (h : e ≤ rows.length) : (cellsB rows c b e).length = e - b := by
  unfold cellsB
  rw [List.length_map, List.length_take, List.length_drop]
  omega
theorem cells_get {rows : List (List Str)} {c b e i : Nat} (h : b + i < e) {r : List Str} (hr : rows[b + i]? = some r) : (cellsB rows c b e)[i]? = some (r.getD c nilS) := by
  unfold cellsB
  rw [List.getElem?_map, List.getElem?_take_of_lt (by omega), List.getElem?_drop, hr]
  rfl
theorem cells_mem {rows : List (List Str)} {c b e : Nat} (hO : PgOk rows) (hc : ∀ i, b ≤ i → i < e → clB rows c i = true) (he : e ≤ rows.length) {z : Str} (h : z ∈ cellsB rows c b e) : CellOk z := by
  obtain ⟨i, hi, e1⟩ := List.getElem_of_mem h
  rw [cells_len he] at hi
  obtain ⟨r, hr⟩ := getP (xs := rows) (i := b + i) (by omega)
  have q := cells_get (c := c) (b := b) (e := e) (i := i) (by omega) hr
  have hcl := hc (b + i) (by omega) (by omega)
  unfold clB at hcl
  rw [hr] at hcl
  have hcr : c + 1 < r.length := of_decide_eq_true hcl
  rw [List.getElem?_eq_getElem (by rw [cells_len he]; exact hi), e1] at q
  cases q
  have := (hO.rows r (List.mem_of_getElem? hr)).cells (r[c]'(by omega)) (List.getElem_mem _)
  rw [List.getD_eq_getElem?_getD, List.getElem?_eq_getElem (by omega)]
  exact this
theorem cut_mid {xs : List V} {b e : Nat} (h1 : b ≤ e) (h2 : e ≤ xs.length) : cutV xs (some (b : Int)) (some (e : Int)) = (xs.drop b).take (e - b) := by
  unfold cutV
  rw [HT.sIx_nat, HT.sIx_nat, Nat.min_eq_left h2, Nat.min_eq_left (Nat.le_trans h1 h2)]
section
variable {P : Program} {w : World} {K : PySem.W.Frag} {mg : Str → Option Value} {base : Heap} {cs : List (Addr × Addr)}
/-- the told tuple at t, its holders at h -/
def DescAt (H : Hp) (t h : Addr) (c b e : Nat) (zs : List Str) (gap least : Int) : Prop :=
  H t = some (.tup [.int (c : Nat), .int (b : Nat), .int (e : Nat), .int (widthB zs gap least), .bl (rightB zs), .ref h]) ∧ H h = some (.lst ((holdB zs b gap least).map V.int))
def spDesc (K : PySem.W.Frag) (cs : List (Addr × Addr)) : Sp := fun vs H Q _ => ∃ (a st : Addr) (as : List Addr) (rows : List (List Str)) (gap least : Int) (c b e : Nat), vs = [.ref a, .ref st, .int (c : Nat), .int (b : Nat), .int (e : Nat)] ∧ Tabs cs H ∧ PageAt K H a as rows ∧ PgOk rows ∧ StyleAt K H st gap least ∧
  b < e ∧ e ≤ rows.length ∧ (∀ i, b ≤ i → i < e → clB rows c i = true) ∧ ∀ (t h : Addr) (H' : Hp), Ex cs H H' → H t = none → H h = none → DescAt H' t h c b e (cellsB rows c b e) gap least → Q (.ref t) H'
theorem sc_desc : FnScope ["page", "style", "column", "begin", "end", "gap", "least", "cells", "longest", "holders", "row", "at", "cell"] ["page", "style", "column", "begin", "end"] (defScope s_described) := ⟨rfl, rfl, rfl, by decide +kernel, rfl, by decide +kernel, by decide +kernel⟩
theorem ok_desc {f c Pt g : Addr} {fd fdg : FuncData} (T : Txt mg) (F : Fun K "described" "described" s_described f fd) (hc : fd.code = .ref c) (TB : GxR.TabB base mg c Pt) (hm : (c, Pt) ∈ cs)
    (G : FnOk P w K mg base CX0 5 g fdg ["cells"] (spRight K cs)) (kp : PySem.W.keepIn K (.ref g) = true) (bd : Binds K fdg ["cells"] []) (mgg : mg "stands_right" = some (.ref g)) : FnOk P w K mg base CX0 6 f fd ["page", "style", "column", "begin", "end"] (spDesc K cs) := by
  refine fun_okT F hc sc_desc (fun vs H Q E h => ?_) (fun A outer s H vs Q E hr h => ?_)
  · obtain ⟨a, st, as, rows, gap, least, cc, b, e, rfl, _⟩ := h
    rfl
  · obtain ⟨a, st, as, rows, gap, least, cc, b, e, rfl, hT, hP, hO, ⟨hS, _⟩, hbe, hen, hcl, k⟩ := h
    have nd := sc_desc.nd
    refine ⟨_, pss_cons (ps_asg (pv 1) (pg_tup rfl (pgs_cons (pg_name (i := 5) nd rfl (.inl rfl)) (pgs_cons (pg_name (i := 6) nd rfl (.inl rfl)) pgs_nil))))
      (pss_cons (ps_setLc (i := 7) (own := [("row", 10)]) (g := gName 10) rfl nd rfl rfl (sw_true rfl rfl rfl (by decide +kernel)) (pi_list (pe_slice sl_list (pv 0) (po_some (pv 3)) (po_some (pv 4)))) (blkOk_by (own := [("row", 10)]) (N := ["page", "style", "column", "begin", "end", "gap", "least", "cells", "longest", "holders", "row", "at", "cell"]) (sc := defScope s_described) (by decide +kernel))
        (fun _ _ _ _ _ => pg_name (i := 10) nd rfl (Or.inl rfl)) (fun _ _ _ _ _ => pts_nil) (fun _ _ _ _ _ => pe_ix (r := rIxT K) ix_tup (pv 10) (pv 2) (fun _ _ => rfl)))
      (pss_cons (ps_set (i := 8) nd rfl (.inr rfl) (pe_maxG (k := 0) (P := Pt) (hr.mono (by decide)) (by rfl) T.max TB rfl ⟨rfl, rfl, by decide +kernel, by decide +kernel, rfl, rfl⟩ (pi_list (pv 7)) (fun A' code s4 H4 fp hr' => pe_callB call_len_str (by rfl) T.len PySem.boot_len (pa_cons (pv 0) pa_nil)) (fun _ => rfl)))
      (pss_cons (ps_set (i := 9) nd rfl (.inl rfl) (pe_lst pa_nil))
      (pss_cons (ps_if (pt_cmpR op_gt (pe_op op_add (pv 8) (pv 5)) (pv 6) (nomark _))
        (pss_one (ps_setLc (i := 9) (own := [("at", 11), ("cell", 12)]) (g := gTup K 2 (gCons (gName 11) (gCons (gName 12) gNil))) rfl nd rfl rfl (sw_true rfl rfl rfl (by decide +kernel)) (pi_enum (by rfl) T.enum (pa_cons (pv 7) pa_nil)) (blkOk_by (own := [("at", 11), ("cell", 12)]) (N := ["page", "style", "column", "begin", "end", "gap", "least", "cells", "longest", "holders", "row", "at", "cell"]) (sc := defScope s_described) (by decide +kernel))
          (fun _ _ _ _ _ => pg_tup rfl (pgs_cons (pg_name (i := 11) nd rfl (.inl rfl) (.inr rfl)) (pgs_cons (pg_name (i := 12) nd rfl (.inl rfl) (.inr rfl)) pgs_nil))) (fun _ _ _ _ _ => pts_one (pt_cmpR op_eq (pe_callB call_len_str (by rfl) T.len PySem.boot_len (pa_cons (pv 12) pa_nil)) (pv 8) (nomark _))) (fun _ _ _ _ _ => pe_op op_add (pv 3) (pv 11)))) pss_nil)
      (pss_one (ps_ret (pe_tup (pa_cons (pv 2) (pa_cons (pv 3) (pa_cons (pv 4) (pa_cons (pe_callB (call_max2 rfl) (by rfl) T.max (by decide +kernel) (pa_cons (pe_op op_add (pv 8) (pv 5)) (pa_cons (pv 6) pa_nil))) (pa_cons (pe_call G hr (by rfl) mgg kp bd .nil pass0 (pa_cons (pv 7) pa_nil)) (pa_cons (pv 9) pa_nil))))))))))))), ?_⟩
    have hL : cutV (as.map V.ref) (some (b : Int)) (some (e : Int)) = ((as.drop b).take (e - b)).map V.ref := by
      rw [cut_mid (by omega) (by rw [List.length_map, hP.len]; exact hen), ← List.map_drop, ← List.map_take]
    have lc := cells_len (c := cc) (b := b) hen
    have ll := hO.len
    have lsz : (1000 : Nat) < sizeLine := by decide
    have lsV : (sV (cellsB rows cc b e)).length = e - b := by rw [List.length_map, lc]
    have sll : ((as.drop b).take (e - b)).length = e - b := by rw [List.length_take, List.length_drop, hP.len]; omega
    refine ⟨_, rfl, st, _, rfl, hS, rfl, _, _, rfl, _, _, rfl, rfl, ?_⟩
    refine ⟨_, rfl, _, rfl, (b : Int), rfl, _, rfl, (e : Int), rfl, a, _, rfl, hP.lst, fun p np => ?_⟩
    rw [hL]
    refine ⟨p, rfl, ⟨_, SqL.of upd_same⟩, fun D nD => lc_list (xs := ((as.drop b).take (e - b)).map V.ref) (fun i H' => Ex cs H H' ∧ H' p = some (.lst (((as.drop b).take (e - b)).map V.ref)) ∧ H' D = some (.lst (sV ((cellsB rows cc b e).take i)))) ?_ (fun i H' _ x => SqL.of x.2.1) ?_ ?_⟩
    · have x1 := Ex.laid (o := .lst (((as.drop b).take (e - b)).map V.ref)) hT np
      exact ⟨x1.trans (Ex.laid x1.tab nD), by rw [upd_ne (fun z => by rw [← z, upd_same] at nD; cases nD), upd_same], upd_same⟩
    · rintro i v H1 hv ⟨x1, hp, hD⟩
      obtain ⟨q, hq, rfl⟩ := get_map hv
      have hi : i < e - b := by have := (List.getElem?_eq_some_iff.mp hq).1; omega
      rw [List.getElem?_take_of_lt hi, List.getElem?_drop] at hq
      obtain ⟨r, hr2⟩ := getP (xs := rows) (i := b + i) (by omega)
      have hc1 := hcl (b + i) (by omega) (by omega)
      unfold clB at hc1
      rw [hr2] at hc1
      have hcr : cc + 1 < r.length := of_decide_eq_true hc1
      have hz : (sV r)[cc]? = some (V.str (r.getD cc nilS)) := by
        rw [List.getElem?_map, List.getD_eq_getElem?_getD, List.getElem?_eq_getElem (by omega)]; rfl
      have nD0 : H D = none := (Ex.laid (o := .lst (((as.drop b).take (e - b)).map V.ref)) hT np).old _ nD
      refine ⟨rfl, _, rfl, _, rfl, q, sV r, cc, _, rfl, rfl, x1.sqT (hP.row _ q r hq hr2), atI_nat hz, _, hD, ?_, ex_new hT x1 nD0, ?_, ?_⟩
      · rw [List.length_map, List.length_take]; omega
      · rw [upd_ne (fun z => by rw [← z, upd_same] at nD; cases nD)]; exact hp
      · rw [upd_same, List.take_add_one, cells_get (by omega) hr2]
        simp [sV]
    · rintro H1 ⟨x1, hp, hD⟩
      rw [List.length_map, sll, ← lc, List.take_of_length_le (Nat.le_refl _)] at hD
      -- longest
      refine ⟨_, rfl, D, rfl, ⟨_, SqL.of hD⟩, x1.tab _ hm, fun H2 hH2 => ?_⟩
      have x2 := x1.trans (Ex.tabbed x1.tab (x1.tab _ hm) hH2)
      have hD2 := (Ex.tabbed x1.tab (x1.tab _ hm) hH2).lst hD
      refine max_by (w := walk_list (a := D) (xs := sV (cellsB rows cc b e))) (fun i => ((((cellsB rows cc b e).getD i nilS).length : Nat) : Int)) (by omega) (fun _ H' => Ex cs H H' ∧ H' D = some (.lst (sV (cellsB rows cc b e)))) ⟨x2, hD2⟩ (fun i H' _ x => SqL.of x.2) (fun i v H3 H4 hi x y Z hZ => ?_) (fun m H3 x3 hex hall => ?_)
      · obtain ⟨rfl, hv⟩ := y
        obtain ⟨z, hz, rfl⟩ := get_map hv
        refine ⟨_, rfl, z, rfl, line10 (by have := (cells_mem hO hcl hen (List.mem_of_getElem? hz)).len; omega), ?_⟩
        have q := hZ _ x
        have ez : (cellsB rows cc b e).getD i nilS = z := by rw [List.getD_eq_getElem?_getD, hz]; rfl
        rw [ez] at q
        exact q
      · obtain ⟨x3, hD3⟩ := x3
        have em : m = ((longB (cellsB rows cc b e) : Nat) : Int) := by
          obtain ⟨i, hi, e1⟩ := hex
          obtain ⟨z, hz, e2⟩ := long_in (zs := cellsB rows cc b e) (fun q => by rw [q] at lc; simp at lc; omega)
          obtain ⟨j, hj, e3⟩ := List.getElem_of_mem hz
          have h1 := hall j (by omega)
          rw [List.getD_eq_getElem?_getD, List.getElem?_eq_getElem hj, e3] at h1
          have h1' : ((z.length : Nat) : Int) ≤ m := h1
          rw [List.getD_eq_getElem?_getD, List.getElem?_eq_getElem (by omega)] at e1
          have h2 := long_ge (List.getElem_mem (l := cellsB rows cc b e) (show i < _ by omega))
          have e1' : (((cellsB rows cc b e)[i]'(by omega)).length : Int) = m := e1
          omega
        subst em
        refine ⟨small0, fun h0 nh0 => ?_⟩
        have x4 := x3.trans (Ex.laid (o := .lst []) x3.tab nh0)
        have hD4 := (Ex.laid (o := .lst []) x3.tab nh0).lst hD3
        refine ⟨_, rfl, _, rfl, _, _, rfl, rfl, _, rfl, _, _, rfl, rfl, _, rfl, ?_⟩
        by_cases hg : least < ((longB (cellsB rows cc b e) : Nat) : Int) + gap
        · rw [decide_eq_true hg]
          refine iteT ⟨_, rfl, D, _, rfl, SqL.of hD4, fun D2 nD2 => lc_it (walk_enum (xs := sV (cellsB rows cc b e))) (fun i H' => Ex cs H H' ∧ H' D = some (.lst (sV (cellsB rows cc b e))) ∧ H' D2 = some (.lst (((List.range i).filter fun j => decide (((cellsB rows cc b e).getD j nilS).length = longB (cellsB rows cc b e))).map fun j => V.int ((b + j : Nat) : Int)))) ?_ (fun i H' _ x => SqL.of x.2.1) ?_ ?_⟩
          · exact ⟨x4.trans (Ex.laid x4.tab nD2), (Ex.laid x4.tab nD2).lst hD4, upd_same⟩
          · rintro i v H5 H6 hi ⟨x5, hD5, hh⟩ ⟨Tp, v1, u, rfl, hn, rfl, hv, hu⟩
            cases hv
            obtain ⟨z, hz, rfl⟩ := get_map hu
            have xl := Ex.laid (o := .tup [.int (i : Nat), .str z]) x5.tab hn
            have ez : (cellsB rows cc b e).getD i nilS = z := by rw [List.getD_eq_getElem?_getD, hz]; rfl
            have zl := (cells_mem hO hcl hen (List.mem_of_getElem? hz)).len
            refine ⟨Tp, _, rfl, .inl (.inl upd_same), rfl, _, _, rfl, _, _, rfl, rfl, rfl, _, rfl, z, rfl, line10 (by omega), _, rfl, rfl, _, rfl, ?_⟩
            have nD20 := x4.old _ nD2
            by_cases hzl : z.length = longB (cellsB rows cc b e)
            · rw [decide_eq_true (show V.int ((z.length : Nat) : Int) = V.int ((longB (cellsB rows cc b e) : Nat) : Int) by rw [hzl])]
              refine iteT ⟨_, rfl, _, rfl, _, _, rfl, rfl, _, xl.lst hh, ?_, ex_new hT (x5.trans xl) nD20, ?_, ?_⟩
              · have q : ((List.range i).filter fun j => decide (((cellsB rows cc b e).getD j nilS).length = longB (cellsB rows cc b e))).length ≤ (List.range i).length := List.length_filter_le ..
                rw [List.length_range] at q
                rw [List.length_map]
                omega
              · rw [upd_ne (fun z => by rw [← z] at nD2; rw [nD2] at hD4; cases hD4)]
                exact xl.lst hD5
              · have ef : [i].filter (fun j => decide (((cellsB rows cc b e).getD j nilS).length = longB (cellsB rows cc b e))) = [i] := by
                  simp only [List.filter_cons, List.filter_nil, ez, decide_eq_true hzl, if_true]
                rw [upd_same, List.range_succ, List.filter_append, List.map_append, ef, List.map_cons, List.map_nil, Int.natCast_add]
            · rw [decide_eq_false (show ¬ V.int ((z.length : Nat) : Int) = V.int ((longB (cellsB rows cc b e) : Nat) : Int) from fun q => hzl (by injection q with q; exact Int.ofNat.inj q))]
              refine iteF ⟨x5.trans xl, xl.lst hD5, ?_⟩
              rw [List.range_succ, List.filter_append, List.map_append]
              simp only [List.filter_cons, List.filter_nil, ez, decide_eq_false hzl]
              simpa using xl.lst hh
          · rintro H5 ⟨x5, hD5, hh⟩
            have h5 : H5 D2 = some (.lst ((holdB (cellsB rows cc b e) b gap least).map V.int)) := by
              rw [hh]
              unfold holdB
              rw [if_pos hg, List.map_map, lsV, lc]
              rfl
            have nHH := x4.old _ nD2
            refine ⟨_, rfl, _, rfl, _, rfl, _, rfl, _, rfl, _, _, rfl, rfl, _, rfl, _, _, rfl, _, rfl, D, cellsB rows cc b e, rfl, x5.tab, SqL.of hD5, by omega, fun z hz => cells_mem hO hcl hen hz, fun H6 x6 => ⟨_, rfl, (by show 6 ≤ sizeLine; decide), fun t nt => ?_⟩⟩
            have x7 := Ex.laid (o := .tup [.int (cc : Nat), .int (b : Nat), .int (e : Nat), .int (widthB (cellsB rows cc b e) gap least), .bl (rightB (cellsB rows cc b e)), .ref D2]) x6.tab nt
            exact k t D2 _ ((x5.trans x6).trans x7) ((x5.trans x6).old _ nt) nHH ⟨upd_same, (x6.trans x7).lst h5⟩
        · rw [decide_eq_false hg]
          have x5 := x4
          have hD5 := hD4
          have h5 : (upd H3 h0 (.lst [])) h0 = some (.lst ((holdB (cellsB rows cc b e) b gap least).map V.int)) := by
            rw [upd_same]
            unfold holdB
            rw [if_neg hg]
            rfl
          have nHH := x3.old _ nh0
          refine iteF ?_
          refine ⟨_, rfl, _, rfl, _, rfl, _, rfl, _, rfl, _, _, rfl, rfl, _, rfl, _, _, rfl, _, rfl, D, cellsB rows cc b e, rfl, x5.tab, SqL.of hD5, by omega, fun z hz => cells_mem hO hcl hen hz, fun H6 x6 => ⟨_, rfl, (by show 6 ≤ sizeLine; decide), fun t nt => ?_⟩⟩
          have x7 := Ex.laid (o := .tup [.int (cc : Nat), .int (b : Nat), .int (e : Nat), .int (widthB (cellsB rows cc b e) gap least), .bl (rightB (cellsB rows cc b e)), .ref h0]) x6.tab nt
          exact k t h0 _ ((x5.trans x6).trans x7) ((x5.trans x6).old _ nt) nHH ⟨upd_same, (x6.trans x7).lst h5⟩
end
end TG

namespace TG
open PySem L2 Gx
/-! ### all stretches -/
def ofCol (rows : List (List Str)) (c : Nat) : List (Nat × Nat × Nat) := (runsB rows c).map fun p => (c, p.1, p.2)
def entB (rows : List (List Str)) : List (Nat × Nat × Nat) := (List.range 5).flatMap (ofCol rows)
theorem flat_short {α : Type} {F : Nat → List α} {k : Nat} (h : ∀ c, k ≤ c → F c = []) : ∀ d, (List.range (k + d)).flatMap F = (List.range k).flatMap F := by
  intro d
  induction d with
  | zero => rfl
  | succ d ih =>
    rw [← Nat.add_assoc, List.range_succ, List.flatMap_append, ih, List.flatMap_cons, h (k + d) (by omega)]
    simp
theorem col_nil {rows : List (List Str)} {c m : Nat} (h : ∀ r ∈ rows, r.length ≤ m) (hc : m ≤ c + 1) : ofCol rows c = [] := by
  have e : ∀ i, stB rows c i = false := fun i => by
    unfold stB
    have : clB rows c i = false := by
      unfold clB
      cases q : rows[i]? with
      | none => rfl
      | some r => exact decide_eq_false (by have := h r (List.mem_of_getElem? q); omega)
    rw [this]
    rfl
  unfold ofCol runsB
  have : (List.range rows.length).filter (stB rows c) = [] := List.filter_eq_nil_iff.mpr fun i _ => by rw [e i]; exact Bool.false_ne_true
  rw [this]
  rfl
theorem cols_eq {rows : List (List Str)} {m : Nat} (h : ∀ r ∈ rows, r.length ≤ m) (h6 : m ≤ 6) : (List.range m).flatMap (ofCol rows) = entB rows := by
  have e := flat_short (F := ofCol rows) (k := m - 1) fun c hc => col_nil h (by omega)
  have e1 := e (m - (m - 1))
  have e2 := e (5 - (m - 1))
  rw [show m - 1 + (m - (m - 1)) = m by omega] at e1
  rw [show m - 1 + (5 - (m - 1)) = 5 by omega] at e2
  unfold entB
  rw [e1, e2]
theorem run_facts {rows : List (List Str)} {c i : Nat} {p : Nat × Nat} (h : (runsB rows c)[i]? = some p) : p.1 < p.2 ∧ p.2 ≤ rows.length ∧ ∀ j, p.1 ≤ j → j < p.2 → clB rows c j = true := by
  obtain ⟨x, hx, rfl⟩ := get_map h
  have hm := List.mem_filter.mp (List.mem_of_getElem? hx)
  have hst := hm.2
  have hc : clB rows c x = true := by
    unfold stB at hst
    exact (Bool.and_eq_true_iff.mp hst).1
  refine ⟨?_, hi_le (Nat.le_of_lt (cl_lt hc)), fun j h1 h2 => hi_in (j - x) x j (by omega) h2⟩
  show x < hiB rows c x
  rw [hi_yes hc]
  exact hi_ge rows c (x + 1)
/-- the told tuples at ts, their holders at hs -/
structure DescsAt (H : Hp) (ts hs : List Addr) (es : List (Nat × Nat × Nat)) (rows : List (List Str)) (gap least : Int) : Prop where
  len : ts.length = es.length
  len2 : hs.length = es.length
  at_ : ∀ (i : Nat) (t h : Addr) (q : Nat × Nat × Nat), ts[i]? = some t → hs[i]? = some h → es[i]? = some q → DescAt H t h q.1 q.2.1 q.2.2 (cellsB rows q.1 q.2.1 q.2.2) gap least
theorem DescsAt.snoc {H : Hp} {ts hs : List Addr} {es : List (Nat × Nat × Nat)} {rows : List (List Str)} {gap least : Int} {t h : Addr} {q : Nat × Nat × Nat} (x : DescsAt H ts hs es rows gap least) (e : DescAt H t h q.1 q.2.1 q.2.2 (cellsB rows q.1 q.2.1 q.2.2) gap least) : DescsAt H (ts ++ [t]) (hs ++ [h]) (es ++ [q]) rows gap least := by
  refine ⟨by rw [List.length_append, List.length_append, x.len]; rfl, by rw [List.length_append, List.length_append, x.len2]; rfl, fun i u v p h1 h2 h3 => ?_⟩
  by_cases hi : i < ts.length
  · rw [List.getElem?_append_left hi] at h1
    rw [List.getElem?_append_left (by rw [x.len2, ← x.len]; exact hi)] at h2
    rw [List.getElem?_append_left (by rw [← x.len]; exact hi)] at h3
    exact x.at_ i u v p h1 h2 h3
  · have hl := (List.getElem?_eq_some_iff.mp h1).1
    rw [List.length_append, List.length_singleton] at hl
    have e1 : i = ts.length := by omega
    subst e1
    rw [List.getElem?_append_right (Nat.le_refl _), Nat.sub_self] at h1
    rw [x.len, ← x.len2, List.getElem?_append_right (Nat.le_refl _), Nat.sub_self] at h2
    rw [x.len, List.getElem?_append_right (Nat.le_refl _), Nat.sub_self] at h3
    cases h1
    cases h2
    cases h3
    exact e
theorem DescsAt.keep {H H' : Hp} {ts hs : List Addr} {es : List (Nat × Nat × Nat)} {rows : List (List Str)} {gap least : Int} (x : DescsAt H ts hs es rows gap least) (k : ∀ b o, H b = some o → (b ∈ ts ∨ b ∈ hs) → (∀ ps, o ≠ .tbl ps) → H' b = some o) : DescsAt H' ts hs es rows gap least :=
  ⟨x.len, x.len2, fun i t h q h1 h2 h3 => ⟨k _ _ (x.at_ i t h q h1 h2 h3).1 (.inl (List.mem_of_getElem? h1)) (fun ps z => by cases z), k _ _ (x.at_ i t h q h1 h2 h3).2 (.inr (List.mem_of_getElem? h2)) (fun ps z => by cases z)⟩⟩
theorem StyleAt.ex {K : PySem.W.Frag} {cs : List (Addr × Addr)} {H H' : Hp} {a : Addr} {gap least : Int} (p : StyleAt K H a gap least) (e : Ex cs H H') : StyleAt K H' a gap least := ⟨e.sqT p.tup, p.g0, p.g1, p.l0, p.l1⟩
theorem flat_len {α : Type} {F : Nat → List α} {b : Nat} (h : ∀ c, (F c).length ≤ b) : ∀ n, ((List.range n).flatMap F).length ≤ n * b := by
  intro n
  induction n with
  | zero => simp
  | succ n ih =>
    rw [List.range_succ, List.flatMap_append, List.length_append, List.flatMap_cons, List.flatMap_nil, List.append_nil, Nat.succ_mul]
    have := h n
    omega
theorem col_len (rows : List (List Str)) (c : Nat) : (ofCol rows c).length ≤ rows.length := by
  unfold ofCol runsB
  rw [List.length_map, List.length_map]
  have : ((List.range rows.length).filter (stB rows c)).length ≤ (List.range rows.length).length := List.length_filter_le ..
  rw [List.length_range] at this
  exact this
def rLenSeq (K : PySem.W.Frag) : List V → Hp → VK → Prop := fun xs H Q => ∃ p ys, xs = [V.ref p] ∧ (SqL K H p ys ∨ SqT K H p ys) ∧ Q (.int (ys.length : Nat)) H
section
variable {P : Program} {w : World} {K : PySem.W.Frag} {mg : Str → Option Value} {base : Heap} {cs : List (Addr × Addr)}
def spStr (K : PySem.W.Frag) (cs : List (Addr × Addr)) : Sp := fun vs H Q _ => ∃ (a st : Addr) (as : List Addr) (rows : List (List Str)) (gap least : Int), vs = [.ref a, .ref st] ∧ Tabs cs H ∧ PageAt K H a as rows ∧ PgOk rows ∧ StyleAt K H st gap least ∧
  ∀ (r : Addr) (ts hs : List Addr) (H' : Hp), Ex cs H H' → H r = none → (∀ t ∈ ts, H t = none) → (∀ h ∈ hs, H h = none) → H' r = some (.lst (ts.map V.ref)) → DescsAt H' ts hs (entB rows) rows gap least → Q (.ref r) H'
theorem sc_str : FnScope ["page", "style", "told", "column", "begin", "end"] ["page", "style"] (defScope s_stretches) := ⟨rfl, rfl, rfl, by decide +kernel, rfl, by decide +kernel, by decide +kernel⟩
theorem ok_str {f c Pt g1 g2 g3 g4 : Addr} {fd fd1 fd2 fd3 fd4 : FuncData} (T : Txt mg) (F : Fun K "stretches" "stretches" s_stretches f fd) (hc : fd.code = .ref c) (TB : GxR.TabB base mg c Pt) (hm : (c, Pt) ∈ cs)
    (G1 : FnOk P w K mg base CX0 11 g1 fd1 ["page"] (spCheck K cs)) (k1 : PySem.W.keepIn K (.ref g1) = true) (b1 : Binds K fd1 ["page"] []) (m1 : mg "check_page" = some (.ref g1))
    (G2 : FnOk P w K mg base CX0 2 g2 fd2 ["style"] (spStyle K)) (k2 : PySem.W.keepIn K (.ref g2) = true) (b2 : Binds K fd2 ["style"] []) (m2 : mg "check_style" = some (.ref g2))
    (G3 : FnOk P w K mg base CX0 2 g3 fd3 ["page", "column"] (spRuns K cs)) (k3 : PySem.W.keepIn K (.ref g3) = true) (b3 : Binds K fd3 ["page", "column"] []) (m3 : mg "closed_runs" = some (.ref g3))
    (G4 : FnOk P w K mg base CX0 6 g4 fd4 ["page", "style", "column", "begin", "end"] (spDesc K cs)) (k4 : PySem.W.keepIn K (.ref g4) = true) (b4 : Binds K fd4 ["page", "style", "column", "begin", "end"] []) (m4 : mg "described" = some (.ref g4)) :
    FnOk P w K mg base CX0 12 f fd ["page", "style"] (spStr K cs) := by
  refine fun_okT F hc sc_str (fun vs H Q E h => ?_) (fun A outer s H vs Q E hr h => ?_)
  · obtain ⟨a, st, as, rows, gap, least, rfl, _⟩ := h
    rfl
  · obtain ⟨a, st, as, rows, gap, least, rfl, hT, hP, hO, hS, k⟩ := h
    have nd := sc_str.nd
    refine ⟨_, pss_cons (ps_expr (pe_call G1 hr (by rfl) m1 k1 b1 .nil pass0 (pa_cons (pv 0) pa_nil))) (pss_cons (ps_expr (pe_call G2 (hr.mono (by decide)) (by rfl) m2 k2 b2 .nil pass0 (pa_cons (pv 1) pa_nil)))
      (pss_cons (ps_set (i := 2) nd rfl (.inl rfl) (pe_lst pa_nil))
      (pss_cons (ps_for PassesOwn.never rfl (pi_range1 (by rfl) T.range (pa_cons (pe_maxG (k := 0) (P := Pt) (hr.mono (by decide)) (by rfl) T.max TB rfl ⟨rfl, rfl, by decide +kernel, by decide +kernel, rfl, rfl⟩ (pi_list (pv 0)) (fun A' code s4 H4 fp hr' => pe_callB (r := rLenSeq K) call_len_seq (by rfl) T.len PySem.boot_len (pa_cons (pv 0) pa_nil)) (fun _ => rfl)) pa_nil)) (pg_name (i := 3) nd rfl (.inl rfl))
        (pss_one (ps_for PassesOwn.never rfl (pi_list (pe_call G3 (hr.mono (by decide)) (by rfl) m3 k3 b3 .nil pass0 (pa_cons (pv 0) (pa_cons (pv 3) pa_nil)))) (pg_tup rfl (pgs_cons (pg_name (i := 4) nd rfl (.inl rfl)) (pgs_cons (pg_name (i := 5) nd rfl (.inl rfl)) pgs_nil)))
          (pss_one (ps_expr (pe_bm PySem.F.plainAttrs_list PySem.F.slot_list_append PySem.F.type_list_append mt_append (pv 2) (pa_cons (pe_call G4 (hr.mono (by decide)) (by rfl) m4 k4 b4 .nil pass0 (pa_cons (pv 0) (pa_cons (pv 1) (pa_cons (pv 3) (pa_cons (pv 4) (pa_cons (pv 5) pa_nil)))))) pa_nil)))))))
      (pss_one (ps_ret (pv 2)))))), ?_⟩
    have ll := hO.len
    have lp := hO.pos
    have lsz : (1000 : Nat) < sizeLine := by decide
    have las : (as.map V.ref).length = rows.length := by rw [List.length_map, hP.len]
    refine ⟨_, rfl, a, as, rows, rfl, hT, hP, hO, fun H1 x1 => ⟨_, rfl, st, gap, least, rfl, hS.ex x1, small0, fun p np => ?_⟩⟩
    have x2 := x1.trans (Ex.laid (o := .lst []) x1.tab np)
    have np0 := x1.old _ np
    refine ⟨_, rfl, a, rfl, ⟨_, x2.sqL hP.lst⟩, x2.tab _ hm, fun H2 hH2 => ?_⟩
    have xt := Ex.tabbed x2.tab (x2.tab _ hm) hH2
    have x3 := x2.trans xt
    have hp3 : H2 p = some (.lst []) := xt.lst upd_same
    refine max_by (w := walk_list (a := a) (xs := as.map V.ref)) (fun i => (((rows.getD i []).length : Nat) : Int)) (by omega) (fun _ H' => Ex cs H H' ∧ H' p = some (.lst [])) ⟨x3, hp3⟩ (fun i H' _ x => x.1.sqL hP.lst) (fun i v H3 H4 hi x y Z hZ => ?_) (fun m H3 x4 hex hall => ?_)
    · obtain ⟨rfl, hv⟩ := y
      obtain ⟨q, hq, rfl⟩ := get_map hv
      obtain ⟨r, hr2⟩ := getP (xs := rows) (i := i) (by omega)
      refine ⟨_, rfl, q, _, rfl, .inr (x.1.sqT (hP.row i q r hq hr2)), ?_⟩
      have z := hZ _ x
      have er : rows.getD i [] = r := by rw [List.getD_eq_getElem?_getD, hr2]; rfl
      rw [er] at z
      rw [List.length_map]
      exact z
    · obtain ⟨x4, hp4⟩ := x4
      have hmax : ∀ r ∈ rows, r.length ≤ m.toNat := fun r hr2 => by
        obtain ⟨j, hj, e⟩ := List.getElem_of_mem hr2
        have h1 := hall j (by omega)
        rw [List.getD_eq_getElem?_getD, List.getElem?_eq_getElem hj, e] at h1
        have h1' : ((r.length : Nat) : Int) ≤ m := h1
        omega
      have hm6 : m.toNat ≤ 6 := by
        obtain ⟨i, hi, e1⟩ := hex
        rw [List.getD_eq_getElem?_getD, List.getElem?_eq_getElem (by omega)] at e1
        have h2 := (hO.rows _ (List.getElem_mem (l := rows) (show i < _ by omega))).len
        have e1' : ((rows[i]'(by omega)).length : Int) = m := e1
        omega
      have hm0 : 0 ≤ m := by
        obtain ⟨i, hi, e1⟩ := hex
        rw [← e1]
        exact Int.natCast_nonneg _
      refine ⟨m, rfl, by omega, by omega, for_range (n := m.toNat) (fun i σ H' => ∃ (ts hs : List Addr) (c3 c4 c5 : Option V), σ = [some (.ref a), some (.ref st), some (.ref p), c3, c4, c5] ∧ Ex cs H H' ∧ H' p = some (.lst (ts.map V.ref)) ∧ (∀ t ∈ ts, H t = none ∧ t ≠ p) ∧ (∀ h ∈ hs, H h = none ∧ h ≠ p) ∧ DescsAt H' ts hs ((List.range i).flatMap (ofCol rows)) rows gap least)
        ⟨[], [], none, none, none, rfl, x4, hp4, fun t h => by simp at h, fun t h => by simp at h, rfl, rfl, fun i t h q h1 => by simp at h1⟩ ?_ ?_⟩
      · rintro i σ H5 hi ⟨ts, hs, c3, c4, c5, rfl, x5, hp5, ft, fh, ds⟩
        refine ⟨_, rfl, _, rfl, a, as, rows, i, by rw [Int.zero_add]; rfl, x5.tab, hP.ex x5, ll, fun r1 ts1 H6 x6 nr1 hr1 pr1 => ⟨r1, rfl, ⟨_, SqL.of hr1⟩, ?_⟩⟩
        have r1p : r1 ≠ p := fun z => by rw [z, hp5] at nr1; cases nr1
        have hl1 : (ts1.map V.ref).length = (ofCol rows i).length := by unfold ofCol; rw [List.length_map, List.length_map, pr1.len]
        refine for_list (xs := ts1.map V.ref) (fun j σ H' => ∃ (ts hs : List Addr) (c4 c5 : Option V), σ = [some (.ref a), some (.ref st), some (.ref p), some (.int (0 + (i : Nat))), c4, c5] ∧ Ex cs H H' ∧ H' r1 = some (.lst (ts1.map V.ref)) ∧ PairsAt H' ts1 (runsB rows i) ∧ H' p = some (.lst (ts.map V.ref)) ∧ (∀ t ∈ ts, H t = none ∧ t ≠ p) ∧ (∀ h ∈ hs, H h = none ∧ h ≠ p) ∧ DescsAt H' ts hs ((List.range i).flatMap (ofCol rows) ++ (ofCol rows i).take j) rows gap least)
          ⟨ts, hs, c4, c5, rfl, x5.trans x6, hr1, pr1, x6.lst hp5, ft, fh, by rw [List.take_zero, List.append_nil]; exact ds.keep fun b o e _ n => x6.ext b o e n⟩ (fun j σ H' _ ⟨_, _, _, _, _, _, q, _⟩ => SqL.of q) ?_ ?_
        · rintro j v σ H7 hv ⟨ts, hs, c4, c5, rfl, x7, hr7, pr7, hp7, ft, fh, ds⟩
          obtain ⟨t1, ht1, rfl⟩ := get_map hv
          obtain ⟨q, hq⟩ := getP (xs := runsB rows i) (i := j) (by rw [← pr7.len]; exact (List.getElem?_eq_some_iff.mp ht1).1)
          obtain ⟨f1, f2, f3⟩ := run_facts hq
          have hsz : (ts.map V.ref).length < sizeLine := by
            rw [List.length_map, ds.len, List.length_append, List.length_take]
            have q1 := flat_len (F := ofCol rows) (b := 30) (fun c => Nat.le_trans (col_len rows c) ll) i
            have q2 := col_len rows i
            have q3 : min j (ofCol rows i).length ≤ (ofCol rows i).length := Nat.min_le_right _ _
            omega
          refine ⟨t1, _, rfl, .inl (.inl (pr7.at_ j t1 q ht1 hq)), rfl, _, _, rfl, _, _, rfl, rfl, ?_⟩
          refine ⟨_, rfl, .inl ⟨rfl, _, SqL.of hp7⟩, _, rfl, _, rfl, _, rfl, _, rfl, _, rfl, a, st, as, rows, gap, least, i, q.1, q.2, by rw [Int.zero_add]; rfl, x7.tab, hP.ex x7, hO, hS.ex x7, f1, f2, f3, fun t h H8 x8 nt nh hd => ⟨p, _, .ref t, rfl, rfl, x8.lst hp7, hsz, ?_⟩⟩
          have tp : t ≠ p := fun z => by rw [z, hp7] at nt; cases nt
          have hp' : h ≠ p := fun z => by rw [z, hp7] at nh; cases nh
          have x9 := ex_new (o := .lst (ts.map V.ref ++ [.ref t])) hT (x7.trans x8) np0
          refine ⟨ts ++ [t], hs ++ [h], _, _, rfl, x9, by rw [upd_ne r1p]; exact x8.lst hr7, pr7.keep fun b xs e => ?_, by rw [upd_same, List.map_append]; rfl, fun u hu => ?_, fun u hu => ?_, ?_⟩
          · rw [upd_ne (fun z => by rw [z, hp7] at e; cases e)]; exact x8.tup e
          · rcases List.mem_append.mp hu with z | z
            · exact ft u z
            · rw [List.mem_singleton.mp z]; exact ⟨x7.old _ nt, tp⟩
          · rcases List.mem_append.mp hu with z | z
            · exact fh u z
            · rw [List.mem_singleton.mp z]; exact ⟨x7.old _ nh, hp'⟩
          · have ej : (ofCol rows i)[j]? = some (i, q.1, q.2) := by unfold ofCol; rw [List.getElem?_map, hq]; rfl
            rw [List.take_add_one, ej, ← List.append_assoc]
            refine (ds.keep fun b o e m n => ?_).snoc (q := (i, q.1, q.2)) ⟨by rw [upd_ne tp]; exact hd.1, by rw [upd_ne hp']; exact hd.2⟩
            have nb : b ≠ p := by
              rcases m with m | m
              · exact (ft b m).2
              · exact (fh b m).2
            rw [upd_ne nb]; exact x8.ext b o e n
        · rintro σ H7 ⟨ts, hs, c4, c5, rfl, x7, hr7, pr7, hp7, ft, fh, ds⟩
          refine ⟨ts, hs, _, _, _, rfl, x7, hp7, ft, fh, ?_⟩
          rw [hl1, List.take_of_length_le (Nat.le_refl _)] at ds
          rw [List.range_succ, List.flatMap_append, List.flatMap_cons, List.flatMap_nil, List.append_nil]
          exact ds
      · rintro σ H5 ⟨ts, hs, c3, c4, c5, rfl, x5, hp5, ft, fh, ds⟩
        refine ⟨_, rfl, k p ts hs H5 x5 np0 (fun t h => (ft t h).1) (fun t h => (fh t h).1) hp5 ?_⟩
        rw [cols_eq hmax hm6] at ds
        exact ds
end
end TG

namespace TG
open PySem L2 Gx
/-! ### texts joined, numbers written -/
theorem cl_app (x y : Str) : cl (x ++ y) = cl x ++ cl y := TL.tl_append x y
theorem joinL_nil : ∀ l : List (List Nat), TL.joinL [] l = l.flatten
  | [] => rfl
  | [p] => by simp [TL.joinL]
  | p :: q :: r => by
    show p ++ ([] ++ TL.joinL [] (q :: r)) = _
    rw [joinL_nil (q :: r)]
    rfl
theorem cl_join (ys : List Str) : cl (Txt.join "" ys) = (ys.map cl).flatten := by
  have e : ("" : Str) = SX.S [] := by decide +kernel
  have e2 : ys = (ys.map cl).map SX.S := by
    rw [List.map_map]
    conv => lhs; rw [← List.map_id ys]
    exact List.map_congr_left fun y _ => (SX.S_tl y).symm
  rw [e]
  conv => lhs; rw [e2]
  rw [SX.join_S, joinL_nil]
theorem num_ok {n : Int} (h0 : 0 ≤ n) (h1 : n < 10 ^ 9) : (Str.ofString (toString n)).length ≤ 9 ∧ ∀ c ∈ cl (Str.ofString (toString n)), 48 ≤ c ∧ c ≤ 57 := by
  refine ⟨PyProof.Rows.toString_length_le h0 (by decide) h1, fun c hc => ?_⟩
  obtain ⟨m, rfl⟩ := Int.eq_ofNat_of_zero_le h0
  have hc' : c ∈ (Str.ofString (toString ((m : Nat) : Int))).cps.toList := hc
  rw [PySem.W.KIN.signs_num] at hc'
  obtain ⟨ch, hch, e⟩ := List.mem_map.mp hc'
  have r := PyProof.Rows.digit_range (Nat.isDigit_of_mem_toDigits (by decide) (by decide) hch)
  rw [← e]
  exact r
instance (c : Nat) : Decidable (SgOk c) := inferInstanceAs (Decidable (32 ≤ c ∧ c ≤ 126 ∧ c ≠ 37))
theorem sg_of {z : Str} (h : (z.cps.toList.all fun c => decide (SgOk c)) = true) : ∀ c ∈ cl z, SgOk c := fun c hc => of_decide_eq_true (List.all_eq_true.mp h c hc)
end TG

namespace TG
open PySem L2 Gx
abbrev everyS : Str := " !\"#$&'()*+,-./0123456789:;<=>?@ABCDEFGHIJKLMNOPQRSTUVWXYZ[\\]^_`abcdefghijklmnopqrstuvwxyz{|}~"
theorem every_ok : ∀ c ∈ cl everyS, SgOk c := sg_of (by decide +kernel)
theorem abc_len : (cl "abcdefghij").length = 10 := by decide +kernel
theorem emp_len : (Str.ofString "").length = 0 := by decide +kernel
theorem every_len : (cl everyS).length = 94 := by decide +kernel
theorem cells_ok {l : List Str} (h : (l.all fun z => decide (z.length ≤ 10) && z.cps.toList.all fun c => decide (SgOk c)) = true) : ∀ z ∈ l, CellOk z := fun z hz => by
  have q := Bool.and_eq_true_iff.mp (List.all_eq_true.mp h z hz)
  exact ⟨of_decide_eq_true q.1, sg_of q.2⟩
/-- one of a written list -/
theorem pick {α : Type} {xs : List α} {i : Int} (h0 : 0 ≤ i) (h1 : i < xs.length) : ∃ x, x ∈ xs ∧ atI xs i = some x := by
  obtain ⟨n, rfl⟩ := Int.eq_ofNat_of_zero_le h0
  have hn : n < xs.length := by have : ((n : Nat) : Int) < xs.length := h1; omega
  exact ⟨xs[n], List.getElem_mem hn, atI_nat (List.getElem?_eq_getElem hn)⟩
theorem iteB {c A B : Prop} [Decidable c] (h1 : A) (h2 : B) : if c then A else B := ite2 (fun _ => h1) fun _ => h2
theorem len_cl (z : Str) : z.length = (cl z).length := by simp [Str.length, cl]
theorem box_new {H : Hp} {b l p : Addr} {o : HO} (x : BoxAt H b l) (n : H p = none) : BoxAt (upd H p o) b l := by
  obtain ⟨ns, st, h1, h2, h3⟩ := x
  exact ⟨ns, st, by rw [upd_ne (ne_of_none h1 n)]; exact h1, by rw [upd_ne (ne_of_none h2 n)]; exact h2, h3⟩
theorem new_ne {H : Hp} {b l p : Addr} (x : BoxAt H b l) (n : H p = none) : p ≠ b ∧ p ≠ l := by
  obtain ⟨ns, st, h1, h2, h3⟩ := x
  exact ⟨(ne_of_none h1 n).symm, (ne_of_none h2 n).symm⟩
theorem box_upd {H : Hp} {b l p : Addr} {o : HO} (x : BoxAt H b l) (h1 : p ≠ b) (h2 : p ≠ l) : BoxAt (upd H p o) b l := by
  obtain ⟨ns, st, g1, g2, g3⟩ := x
  exact ⟨ns, st, by rw [upd_ne h1.symm]; exact g1, by rw [upd_ne h2.symm]; exact g2, g3⟩
theorem kb_new {H : Hp} {b l p : Addr} {o : HO} (n : H p = none) : KB b l H (upd H p o) := fun c u e _ _ => by rw [upd_ne (ne_of_none e n)]; exact e
theorem kb_upd {H H' : Hp} {b l p : Addr} {o : HO} (x : KB b l H H') (n : H p = none) : KB b l H (upd H' p o) := fun c u e h1 h2 => by rw [upd_ne (ne_of_none e n)]; exact x c u e h1 h2
theorem atI_map {α β : Type} {f : α → β} {xs : List α} {i : Int} {x : α} (h : atI xs i = some x) : atI (xs.map f) i = some (f x) := by
  unfold atI at h ⊢
  rw [List.length_map]
  cases e : ixN xs.length i with
  | none => rw [e] at h; cases h
  | some j =>
    rw [e] at h
    have h' : xs[j]? = some x := h
    show (xs.map f)[j]? = some (f x)
    rw [List.getElem?_map, h']
    rfl
/-- a list of single signs at D -/
structure OnesAt (b l : Addr) (H : Hp) (D : Addr) (i : Nat) (H' : Hp) : Prop where
  box : BoxAt H' b l
  keep : KB b l H H'
  nD : H D = none
  db : D ≠ b
  dl : D ≠ l
  ones : ∃ cs : List Nat, cs.length = i ∧ (∀ c ∈ cs, SgOk c) ∧ H' D = some (.lst (sV (cs.map fun c => ⟨#[c]⟩)))
theorem OnesAt.start {b l : Addr} {H H1 : Hp} {D : Addr} (hB : BoxAt H1 b l) (x : KB b l H H1) (n : H1 D = none) (nb : BoxAt H b l) : OnesAt b l H D 0 (upd H1 D (.lst [])) := by
  obtain ⟨d1, d2⟩ := new_ne hB n
  have nD : H D = none := by
    cases e : H D with
    | none => rfl
    | some o => rw [x D o e d1 d2] at n; cases n
  exact ⟨box_new hB n, kb_upd x nD, nD, d1, d2, [], rfl, fun c h => by simp at h, upd_same⟩
theorem OnesAt.more {b l : Addr} {H H1 H2 : Hp} {D : Addr} {i c : Nat} (o : OnesAt b l H D i H1) (hc : SgOk c) (hB : BoxAt H2 b l) (x : KB b l H1 H2) :
    ∃ acc, H2 D = some (.lst acc) ∧ acc.length = i ∧ OnesAt b l H D (i + 1) (upd H2 D (.lst (acc ++ [.str ⟨#[c]⟩]))) := by
  obtain ⟨cs, h1, h2, h3⟩ := o.ones
  refine ⟨_, x D _ h3 o.db o.dl, by rw [List.length_map, List.length_map, h1], box_upd hB o.db o.dl, kb_upd (o.keep.trans x) o.nD, o.nD, o.db, o.dl, cs ++ [c], by rw [List.length_append, h1]; rfl, fun d hd => ?_, ?_⟩
  · rcases List.mem_append.mp hd with h | h
    · exact h2 d h
    · rw [List.mem_singleton.mp h]; exact hc
  · rw [upd_same]
    simp [sV]
theorem OnesAt.done {b l : Addr} {H H1 : Hp} {D : Addr} {i : Nat} (o : OnesAt b l H D i H1) : ∃ ys : List Str, H1 D = some (.lst (ys.map V.str)) ∧ ys.length = i ∧ (ys.map fun y => y.length).sum = i ∧ (i ≤ 10 → CellOk (Txt.join "" ys)) := by
  obtain ⟨cs, h1, h2, h3⟩ := o.ones
  refine ⟨_, h3, by rw [List.length_map, h1], ?_, fun hi => ?_⟩
  · rw [← h1]
    clear h1 h2 h3
    induction cs with
    | nil => rfl
    | cons c cs ih =>
      rw [List.map_cons, List.map_cons, List.sum_cons, ih, List.length_cons]
      show 1 + cs.length = cs.length + 1
      omega
  · have e : cl (Txt.join "" (cs.map fun c => (⟨#[c]⟩ : Str))) = cs := by
      rw [cl_join, List.map_map]
      clear h1 h2 h3
      induction cs with
      | nil => rfl
      | cons c cs ih =>
        rw [List.map_cons, List.flatten_cons, ih]
        rfl
    exact ⟨by rw [len_cl, e, h1]; exact hi, fun c hc => h2 c (by have hc : c ∈ cl _ := hc; rw [e] at hc; exact hc)⟩
abbrev oddL : List Str := ["-", "--1", "1-", "0x", " 1", "1 ", "-0", "007", " ", "   ", "1234567x", "12345678-", "-0000000 1"]
theorem odd_ok : ∀ z ∈ oddL, CellOk z := cells_ok (by decide +kernel)
section
variable {P : Program} {w : World} {K : PySem.W.Frag} {mg : Str → Option Value} {base : Heap} {cs : List (Addr × Addr)}
def spSign : Sp := fun vs H Q _ => ∃ (b l : Addr), vs = [.ref b] ∧ BoxAt H b l ∧ ∀ (c : Nat) (H' : Hp), SgOk c → BoxAt H' b l → KB b l H H' → Q (.str ⟨#[c]⟩) H'
theorem sc_sign : FnScope ["_law_box", "_law_every"] ["_law_box"] (defScope s_sign) := ⟨rfl, rfl, rfl, by decide +kernel, rfl, by decide +kernel, by decide +kernel⟩
theorem ok_sign {f g : Addr} {fd fdg : FuncData} (F : Fun K "_law_sign" "_law_sign" s_sign f fd)
    (G : FnOk P w K mg base CX0 1 g fdg ["_law_box", "_law_many"] spTake) (kp : PySem.W.keepIn K (.ref g) = true) (bd : Binds K fdg ["_law_box", "_law_many"] []) (mgg : mg "_law_take" = some (.ref g)) : FnOk P w K mg base CX0 2 f fd ["_law_box"] spSign := by
  refine F.ok sc_sign (fun vs H Q E h => ?_) (fun cdv A outer s H vs Q E hr h => ?_)
  · obtain ⟨b, l, rfl, _⟩ := h
    rfl
  · obtain ⟨b, l, rfl, hB, k⟩ := h
    have nd := sc_sign.nd
    refine ⟨_, pss_cons (ps_set (i := 1) nd rfl (.inl rfl) pe_str) (pss_one (ps_ret (pe_ix ix_str (pv 1) (pe_call G hr (by rfl) mgg kp bd .nil pass0 (pa_cons (pv 0) (pa_cons pe_int pa_nil))) (fun _ _ => rfl)))), ?_⟩
    refine ⟨_, rfl, _, rfl, b, l, 94, rfl, hB, by decide, by decide, fun r H1 r0 r1 hB1 x1 => ?_⟩
    obtain ⟨c, hc, e⟩ := pick (xs := cl everyS) r0 (by rw [every_len]; exact r1)
    exact ⟨everyS, r, c, rfl, rfl, line10 (by decide +kernel), e, k c H1 (every_ok c hc) hB1 x1⟩
def spCell : Sp := fun vs H Q _ => ∃ (b l : Addr) (sort : Int), vs = [.ref b, .int sort] ∧ BoxAt H b l ∧ ∀ (z : Str) (H' : Hp), CellOk z → BoxAt H' b l → KB b l H H' → Q (.str z) H'
theorem sc_cell : FnScope ["_law_box", "_law_sort", "_law_way", "_law_odd", "_law_many", "_law_k"] ["_law_box", "_law_sort"] (defScope s_cell) := ⟨rfl, rfl, rfl, by decide +kernel, rfl, by decide +kernel, by decide +kernel⟩
abbrev nmCell : List Str := ["_law_box", "_law_sort", "_law_way", "_law_odd", "_law_many", "_law_k"]
theorem ok_cell {f g g2 : Addr} {fd fdg fd2 : FuncData} (T : Txt mg) (F : Fun K "_law_cell" "_law_cell" s_cell f fd)
    (G : FnOk P w K mg base CX0 1 g fdg ["_law_box", "_law_many"] spTake) (kp : PySem.W.keepIn K (.ref g) = true) (bd : Binds K fdg ["_law_box", "_law_many"] []) (mgg : mg "_law_take" = some (.ref g))
    (G2 : FnOk P w K mg base CX0 2 g2 fd2 ["_law_box"] spSign) (kp2 : PySem.W.keepIn K (.ref g2) = true) (bd2 : Binds K fd2 ["_law_box"] []) (mg2 : mg "_law_sign" = some (.ref g2)) : FnOk P w K mg base CX0 3 f fd ["_law_box", "_law_sort"] spCell := by
  refine F.ok sc_cell (fun vs H Q E h => ?_) (fun cdv A outer s H vs Q E hr h => ?_)
  · obtain ⟨b, l, sort, rfl, _⟩ := h
    rfl
  · obtain ⟨b, l, sort, rfl, hB, k⟩ := h
    have nd := sc_cell.nd
    have hr1 : Room 1 _ := hr.mono (by decide)
    refine ⟨_, pss_cons (ps_set (i := 2) nd rfl (.inl rfl) (pe_call G hr1 (by rfl) mgg kp bd .nil pass0 (pa_cons (pv 0) (pa_cons pe_int pa_nil))))
      (pss_cons (ps_if (pt_cmpR op_eq (pv 2) pe_int (nomark _)) (pss_one (ps_ret pe_str)) pss_nil)
      (pss_cons (ps_if (PW.pt (pw_or (pt_cmpR op_eq (pv 2) pe_int (nomark _)) (pw_or1 (PW.pt (pw_and (pt_cmpR op_eq (pv 1) pe_int (nomark _)) (pw_and1 (pt_cmpR op_lt (pv 2) pe_int (nomark _)))))))) (pss_one (ps_ret (pe_op op_add_str (pe_ix ix_list (pe_lst (pa_cons pe_str (pa_cons pe_str pa_nil))) (pe_op op_fdivN (pe_call G hr1 (by rfl) mgg kp bd .nil pass0 (pa_cons (pv 0) (pa_cons pe_int pa_nil))) pe_int) (fun _ _ => rfl)) (pe_callTy call_str_int (by rfl) T.str (by decide +kernel) (pa_cons (pe_call G hr1 (by rfl) mgg kp bd .nil pass0 (pa_cons (pv 0) (pa_cons (pe_ix ix_list (pe_lst (pa_cons pe_int (pa_cons pe_int (pa_cons (pe_op op_pow pe_int pe_int) pa_nil)))) (pe_call G hr1 (by rfl) mgg kp bd .nil pass0 (pa_cons (pv 0) (pa_cons pe_int pa_nil))) (fun _ _ => rfl)) pa_nil))) pa_nil))))) pss_nil)
      (pss_cons (ps_if (pt_cmpR op_eq (pv 2) pe_int (nomark _)) (pss_cons (ps_set (i := 3) nd rfl (.inl rfl) (pe_lst (pa_cons pe_str (pa_cons pe_str (pa_cons pe_str (pa_cons pe_str (pa_cons pe_str (pa_cons pe_str (pa_cons pe_str (pa_cons pe_str (pa_cons pe_str (pa_cons pe_str (pa_cons pe_str (pa_cons pe_str (pa_cons pe_str pa_nil))))))))))))))) (pss_one (ps_ret (pe_ix ix_list (pv 3) (pe_call G hr1 (by rfl) mgg kp bd .nil pass0 (pa_cons (pv 0) (pa_cons pe_int pa_nil))) (fun _ _ => rfl))))) pss_nil)
      (pss_cons (ps_set (i := 4) nd rfl (.inl rfl) (pe_op op_add pe_int (pe_call G hr1 (by rfl) mgg kp bd .nil pass0 (pa_cons (pv 0) (pa_cons (pe_ix ix_list (pe_lst (pa_cons pe_int (pa_cons pe_int pa_nil))) (pe_call G hr1 (by rfl) mgg kp bd .nil pass0 (pa_cons (pv 0) (pa_cons pe_int pa_nil))) (fun _ _ => rfl)) pa_nil)))))
      (pss_cons (ps_if (pt_cmpR op_lt (pv 2) pe_int (nomark _)) (pss_one (ps_ret (pe_join pe_str (pe_lc (own := [("_law_k", 5)]) (g := gName 5) (tt := tYes) rfl nd (pi_range1 (by rfl) T.range (pa_cons (pv 4) pa_nil)) (blkOk_by (own := [("_law_k", 5)]) (N := nmCell) (sc := defScope s_cell) (by decide +kernel)) (fun _ _ _ _ _ => pg_name (i := 5) nd rfl (Or.inl rfl)) (fun _ _ _ _ _ => pts_nil) (fun s1 H1 C1 cl1 fp1 => pe_ix ix_str pe_str (pe_call G hr1 (by rfl) mgg kp bd .nil pass0 (pa_cons (pv 0) (pa_cons pe_int pa_nil))) (fun _ _ => rfl)))))) pss_nil)
      (pss_one (ps_ret (pe_join pe_str (pe_lc (own := [("_law_k", 5)]) (g := gName 5) (tt := tYes) rfl nd (pi_range1 (by rfl) T.range (pa_cons (pv 4) pa_nil)) (blkOk_by (own := [("_law_k", 5)]) (N := nmCell) (sc := defScope s_cell) (by decide +kernel)) (fun _ _ _ _ _ => pg_name (i := 5) nd rfl (Or.inl rfl)) (fun _ _ _ _ _ => pts_nil) (fun s1 H1 C1 cl1 fp1 => pe_call G2 hr (by rfl) mg2 kp2 bd2 .nil pass0 (pa_cons (pv 0) pa_nil))))))))))), ?_⟩
    have szl : (1000 : Nat) < sizeLine := by decide
    refine ⟨_, rfl, b, l, 9, rfl, hB, by decide, by decide, fun way H1 w0 w1 hB1 x1 => ⟨_, rfl, rfl, _, rfl, iteB ?_ ?_⟩⟩
    · exact k _ H1 ⟨by decide +kernel, sg_of (by decide +kernel)⟩ hB1 x1
    refine ⟨_, rfl, rfl, _, rfl, iteB (iteT ?body) ⟨_, rfl, rfl, _, rfl, iteB ⟨_, rfl, _, _, rfl, rfl, _, rfl, iteB ?body ?rest⟩ (iteF ?rest)⟩⟩
    case body =>
      refine ⟨line10 (by decide), fun p np => ⟨_, rfl, b, l, 3, rfl, box_new hB1 np, by decide, by decide, fun r H2 r0 r1 hB2 x2 => ⟨r, 2, rfl, rfl, ⟨by decide, by decide⟩, ?_⟩⟩⟩
      have y2 := (x1.trans (kb_new np)).trans x2
      have e2 : r.fdiv 2 = r / 2 := Int.fdiv_eq_ediv_of_nonneg r (by decide)
      obtain ⟨v, hv, ev⟩ := pick (xs := [(⟨#[]⟩ : Str), ⟨#[45]⟩]) (i := r.fdiv 2) (by omega) (by show r.fdiv 2 < 2; omega)
      obtain ⟨nb, nl⟩ := new_ne hB1 np
      have l1 : ([("" : Str), "-"] : List Str) = [⟨#[]⟩, ⟨#[45]⟩] := by decide +kernel
      have hp2 : H2 p = some (.lst (sV [("" : Str), "-"])) := x2 p _ upd_same nb nl
      refine ⟨p, _, _, .str v, rfl, rfl, SqL.of hp2, by rw [l1]; exact atI_map ev, ?_⟩
      refine ⟨_, rfl, 10, 9, rfl, rfl, ⟨by decide, by decide, by decide⟩, line10 (by decide), fun p2 np2 => ⟨_, rfl, b, l, 3, rfl, box_new hB2 np2, by decide, by decide, fun r2 H4 s0 s1 hB4 x4 => ?_⟩⟩
      obtain ⟨nb2, nl2⟩ := new_ne hB2 np2
      have y4 := (y2.trans (kb_new np2)).trans x4
      have hp4 := x4 p2 _ upd_same nb2 nl2
      obtain ⟨m, hm, em⟩ := pick (xs := [(10 : Int), 1000, 1000000000]) (i := r2) s0 s1
      have hm2 : 0 < m ∧ m ≤ 1000000000 := by
        simp only [List.mem_cons, List.not_mem_nil, or_false] at hm
        omega
      refine ⟨p2, _, _, .int m, rfl, rfl, SqL.of hp4, atI_map (f := V.int) em, b, l, m, rfl, hB4, hm2.1, by omega, fun n H5 n0 n1 hB5 x5 => ⟨n, rfl, ?_, v, _, rfl, rfl, ?_, ?_⟩⟩
      · by_cases hz : n.natAbs = 0
        · rw [hz]; decide
        · refine Nat.lt_of_lt_of_le ((Nat.log2_lt hz).mpr (show n.natAbs < 2 ^ 30 by omega)) (by decide)
      · have h9 := (num_ok n0 (by omega)).1
        have hv1 : v.length ≤ 1 := by
          simp only [List.mem_cons, List.not_mem_nil, or_false] at hv
          rcases hv with rfl | rfl <;> decide
        omega
      · obtain ⟨h9, hd9⟩ := num_ok n0 (by omega)
        have hv1 : v.length ≤ 1 ∧ ∀ c ∈ cl v, SgOk c := by
          simp only [List.mem_cons, List.not_mem_nil, or_false] at hv
          rcases hv with rfl | rfl <;> exact ⟨by decide, sg_of (by decide)⟩
        refine k _ H5 ⟨?_, fun c hc => ?_⟩ hB5 (y4.trans x5)
        · rw [len_cl, cl_app, List.length_append, ← len_cl, ← len_cl]; omega
        · have hc : c ∈ cl (v ++ _) := hc
          rw [cl_app] at hc
          rcases List.mem_append.mp hc with h | h
          · exact hv1.2 c h
          · have := hd9 c h
            unfold SgOk
            omega
    case rest =>
    refine ⟨_, rfl, rfl, _, rfl, iteB ?_ ?_⟩
    · refine ⟨line10 (by decide), fun p np => ⟨_, rfl, _, rfl, b, l, 13, rfl, box_new hB1 np, by decide, by decide, fun r H2 r0 r1 hB2 x2 => ?_⟩⟩
      obtain ⟨nb, nl⟩ := new_ne hB1 np
      have hp2 : H2 p = some (.lst (sV oddL)) := x2 p _ upd_same nb nl
      obtain ⟨v, hv, ev⟩ := pick (xs := oddL) (i := r) r0 r1
      exact ⟨p, _, _, .str v, rfl, rfl, SqL.of hp2, atI_map ev, k v H2 (odd_ok v hv) hB2 ((x1.trans (kb_new np)).trans x2)⟩
    refine ⟨_, rfl, line10 (by decide), fun p np => ⟨_, rfl, b, l, 2, rfl, box_new hB1 np, by decide, by decide, fun r H2 r0 r1 hB2 x2 => ?_⟩⟩
    obtain ⟨nb, nl⟩ := new_ne hB1 np
    have hp2 := x2 p _ upd_same nb nl
    have y2 := (x1.trans (kb_new np)).trans x2
    obtain ⟨m, hm, em⟩ := pick (xs := [(3 : Int), 10]) (i := r) r0 r1
    have hm2 : 0 < m ∧ m ≤ 10 := by
      simp only [List.mem_cons, List.not_mem_nil, or_false] at hm
      omega
    refine ⟨p, _, _, .int m, rfl, rfl, SqL.of hp2, atI_map (f := V.int) em, b, l, m, rfl, hB2, hm2.1, by omega, fun n H3 n0 n1 hB3 x3 => ⟨1, n, rfl, rfl, ?_⟩⟩
    have y3 := y2.trans x3
    refine ⟨_, rfl, _, _, rfl, rfl, _, rfl, iteB ?_ ?_⟩
    · refine ⟨⟨_, rfl⟩, _, rfl, 1 + n, rfl, by omega, by omega, fun D nD => lc_range (n := (1 + n).toNat) (fun i H' => OnesAt b l H D i H') ?_ ?_ ?_⟩
      · exact OnesAt.start hB3 y3 nD hB
      · rintro i H4 hi o
        refine ⟨rfl, _, rfl, b, l, 10, rfl, o.box, by decide, by decide, fun r4 H5 a0 a1 hB5 x5 => ?_⟩
        obtain ⟨c, hc, ec⟩ := pick (xs := cl "abcdefghij") (i := r4) a0 (by rw [abc_len]; exact a1)
        obtain ⟨acc, hacc, hl, o2⟩ := o.more (c := c) (sg_of (z := "abcdefghij") (by decide +kernel) c hc) hB5 x5
        exact ⟨_, r4, c, rfl, rfl, line10 (by decide +kernel), ec, acc, hacc, by omega, o2⟩
      · rintro H4 o
        obtain ⟨ys, hD, h1, h2, h3⟩ := o.done
        exact ⟨_, D, ys, rfl, rfl, .inl (SqL.of hD), by rw [h2, emp_len]; omega, k _ H4 (h3 (by omega)) o.box o.keep⟩
    · refine ⟨⟨_, rfl⟩, _, rfl, 1 + n, rfl, by omega, by omega, fun D nD => lc_range (n := (1 + n).toNat) (fun i H' => OnesAt b l H D i H') ?_ ?_ ?_⟩
      · exact OnesAt.start hB3 y3 nD hB
      · rintro i H4 hi o
        refine ⟨rfl, _, rfl, b, l, rfl, o.box, fun c H5 hc hB5 x5 => ?_⟩
        obtain ⟨acc, hacc, hl, o2⟩ := o.more (c := c) hc hB5 x5
        exact ⟨acc, hacc, by omega, o2⟩
      · rintro H4 o
        obtain ⟨ys, hD, h1, h2, h3⟩ := o.done
        exact ⟨_, D, ys, rfl, rfl, .inl (SqL.of hD), by rw [h2, emp_len]; omega, k _ H4 (h3 (by omega)) o.box o.keep⟩
end
end TG

namespace TG
open PySem L2 Gx
theorem new_old {b l p : Addr} {H H1 : Hp} (x : KB b l H H1) (hB : BoxAt H1 b l) (n : H1 p = none) : H p = none := by
  obtain ⟨d1, d2⟩ := new_ne hB n
  cases e : H p with
  | none => rfl
  | some o => rw [x p o e d1 d2] at n; cases n
/-- a list of cells at D -/
structure StrsAt (b l : Addr) (H : Hp) (D : Addr) (i : Nat) (H' : Hp) : Prop where
  box : BoxAt H' b l
  keep : KB b l H H'
  nD : H D = none
  db : D ≠ b
  dl : D ≠ l
  zsat : ∃ zs : List Str, zs.length = i ∧ (∀ z ∈ zs, CellOk z) ∧ H' D = some (.lst (sV zs))
theorem StrsAt.start {b l : Addr} {H H1 : Hp} {D : Addr} (hB : BoxAt H1 b l) (x : KB b l H H1) (n : H1 D = none) : StrsAt b l H D 0 (upd H1 D (.lst [])) := by
  obtain ⟨d1, d2⟩ := new_ne hB n
  have nD := new_old x hB n
  exact ⟨box_new hB n, kb_upd x nD, nD, d1, d2, [], rfl, fun c h => by simp at h, upd_same⟩
theorem StrsAt.more {b l : Addr} {H H1 H2 : Hp} {D : Addr} {i : Nat} {z : Str} (o : StrsAt b l H D i H1) (hc : CellOk z) (hB : BoxAt H2 b l) (x : KB b l H1 H2) :
    ∃ acc, H2 D = some (.lst acc) ∧ acc.length = i ∧ StrsAt b l H D (i + 1) (upd H2 D (.lst (acc ++ [.str z]))) := by
  obtain ⟨zs, h1, h2, h3⟩ := o.zsat
  refine ⟨_, x D _ h3 o.db o.dl, by rw [List.length_map, h1], box_upd hB o.db o.dl, kb_upd (o.keep.trans x) o.nD, o.nD, o.db, o.dl, zs ++ [z], by rw [List.length_append, h1]; rfl, fun d hd => ?_, ?_⟩
  · rcases List.mem_append.mp hd with h | h
    · exact h2 d h
    · rw [List.mem_singleton.mp h]; exact hc
  · rw [upd_same]
    simp [sV]
/-- a list of numbers at D, below m -/
structure IntsAt (b l : Addr) (H : Hp) (D : Addr) (i : Nat) (H' : Hp) : Prop where
  box : BoxAt H' b l
  keep : KB b l H H'
  nD : H D = none
  db : D ≠ b
  dl : D ≠ l
  isat : ∃ zs : List Int, zs.length = i ∧ H' D = some (.lst (zs.map V.int))
theorem IntsAt.start {b l : Addr} {H H1 : Hp} {D : Addr} (hB : BoxAt H1 b l) (x : KB b l H H1) (n : H1 D = none) : IntsAt b l H D 0 (upd H1 D (.lst [])) := by
  obtain ⟨d1, d2⟩ := new_ne hB n
  have nD := new_old x hB n
  exact ⟨box_new hB n, kb_upd x nD, nD, d1, d2, [], rfl, upd_same⟩
theorem IntsAt.more {b l : Addr} {H H1 H2 : Hp} {D : Addr} {i : Nat} {z : Int} (o : IntsAt b l H D i H1) (hB : BoxAt H2 b l) (x : KB b l H1 H2) :
    ∃ acc, H2 D = some (.lst acc) ∧ acc.length = i ∧ IntsAt b l H D (i + 1) (upd H2 D (.lst (acc ++ [.int z]))) := by
  obtain ⟨zs, h1, h3⟩ := o.isat
  refine ⟨_, x D _ h3 o.db o.dl, by rw [List.length_map, h1], box_upd hB o.db o.dl, kb_upd (o.keep.trans x) o.nD, o.nD, o.db, o.dl, zs ++ [z], by rw [List.length_append, h1]; rfl, ?_⟩
  rw [upd_same]
  simp
theorem ixm1 {n : Nat} : ixN (n + 1) (-1) = some n := by
  unfold ixN
  rw [if_neg (by decide), if_pos (by omega)]
  congr 1
  omega
theorem atm1 {α : Type} {xs : List α} {n : Nat} {v : α} (hl : xs.length = n + 1) (h : xs[n]? = some v) : atI xs (-1) = some v := by
  unfold atI
  rw [hl, ixm1]
  exact h
/-- rows' tuples -/
def RowsP (H : Hp) (as : List Addr) : Prop := ∀ p ∈ as, ∃ r, H p = some (.tup (sV r)) ∧ RowOk r
theorem RowsP.keep {H H' : Hp} {as : List Addr} (x : RowsP H as) (k : ∀ p xs, H p = some (.tup xs) → H' p = some (.tup xs)) : RowsP H' as := fun p hp => by
  obtain ⟨r, h1, h2⟩ := x p hp
  exact ⟨r, k _ _ h1, h2⟩
theorem RowsP.page {H : Hp} : ∀ {as : List Addr}, RowsP H as → ∃ rows : List (List Str), as.length = rows.length ∧ (∀ (i : Nat) (p : Addr) (r : List Str), as[i]? = some p → rows[i]? = some r → H p = some (.tup (sV r))) ∧ ∀ r ∈ rows, RowOk r
  | [], _ => ⟨[], rfl, fun i p r h => by simp at h, fun r h => by simp at h⟩
  | a :: as, x => by
    obtain ⟨rows, h1, h2, h3⟩ := RowsP.page (as := as) fun p hp => x p (List.mem_cons_of_mem _ hp)
    obtain ⟨r, g1, g2⟩ := x a List.mem_cons_self
    refine ⟨r :: rows, by rw [List.length_cons, List.length_cons, h1], fun i p q e1 e2 => ?_, fun q hq => ?_⟩
    · cases i with
      | zero => cases e1; cases e2; exact g1
      | succ i => exact h2 i p q (by simpa using e1) (by simpa using e2)
    · rcases List.mem_cons.mp hq with z | z
      · rw [z]; exact g2
      · exact h3 q z
theorem kb_tup {b l : Addr} {H H' : Hp} (x : KB b l H H') (hB : BoxAt H b l) : ∀ p xs, H p = some (.tup xs) → H' p = some (.tup xs) := fun p xs h => by
  obtain ⟨ns, st, h1, h2, _⟩ := hB
  exact x p _ h (ne_of h h1 fun z => by cases z) (ne_of h h2 fun z => by cases z)
section
variable {P : Program} {w : World} {K : PySem.W.Frag} {mg : Str → Option Value} {base : Heap} {cs : List (Addr × Addr)}
def spRowD : Sp := fun vs H Q _ => ∃ (b l sr : Addr) (ss : List Int) (m : Int), vs = [.ref b, .ref sr, .int m] ∧ BoxAt H b l ∧ H sr = some (.lst (ss.map V.int)) ∧ ss.length = 6 ∧ sr ≠ b ∧ sr ≠ l ∧ 1 ≤ m ∧ m ≤ 6 ∧
  ∀ (p : Addr) (r : List Str) (H' : Hp), BoxAt H' b l → KB b l H H' → H p = none → H' p = some (.tup (sV r)) → RowOk r → Q (.ref p) H'
abbrev nmRow : List Str := ["_law_box", "_law_sorts", "_law_many", "_law_k"]
theorem sc_lrow : FnScope nmRow ["_law_box", "_law_sorts", "_law_many"] (defScope s_row) := ⟨rfl, rfl, rfl, by decide +kernel, rfl, by decide +kernel, by decide +kernel⟩
theorem ok_lrow {f g : Addr} {fd fdg : FuncData} (T : Txt mg) (F : Fun K "_law_row" "_law_row" s_row f fd)
    (G : FnOk P w K mg base CX0 3 g fdg ["_law_box", "_law_sort"] spCell) (kp : PySem.W.keepIn K (.ref g) = true) (bd : Binds K fdg ["_law_box", "_law_sort"] []) (mgg : mg "_law_cell" = some (.ref g)) : FnOk P w K mg base CX0 4 f fd ["_law_box", "_law_sorts", "_law_many"] spRowD := by
  refine F.ok sc_lrow (fun vs H Q E h => ?_) (fun cdv A outer s H vs Q E hr h => ?_)
  · obtain ⟨b, l, sr, ss, m, rfl, _⟩ := h
    rfl
  · obtain ⟨b, l, sr, ss, m, rfl, hB, hs, h6, sb, sl, m1, m6, k⟩ := h
    have nd := sc_lrow.nd
    have szl : (1000 : Nat) < sizeLine := by decide
    refine ⟨_, pss_one (ps_ret (pe_callTy call_tuple_of (by rfl) T.tuple (by decide +kernel) (pa_cons (pe_lc (own := [("_law_k", 3)]) (g := gName 3) (tt := tYes) rfl nd (pi_range1 (by rfl) T.range (pa_cons (pv 2) pa_nil)) (blkOk_by (own := [("_law_k", 3)]) (N := nmRow) (sc := defScope s_row) (by decide +kernel))
          (fun _ _ _ _ _ => pg_name (i := 3) nd rfl (Or.inl rfl)) (fun _ _ _ _ _ => pts_nil) (fun s1 H1 C1 cl1 fp1 => pe_call G hr (by rfl) mgg kp bd .nil pass0 (pa_cons (pv 0) (pa_cons (pe_ix (r := rIxL K) ix_list (pv 1) (pv 3) (fun _ _ => rfl)) pa_nil)))) pa_nil))), ?_⟩
    refine ⟨_, rfl, m, rfl, by omega, by omega, fun D nD => lc_range (n := m.toNat) (fun i H' => StrsAt b l H D i H') (StrsAt.start hB KB.refl nD) ?_ ?_⟩
    · rintro i H1 hi o
      obtain ⟨sv, hsv⟩ := getP (xs := ss) (i := i) (by omega)
      have hs1 := o.keep sr _ hs sb sl
      refine ⟨rfl, _, rfl, _, rfl, _, rfl, sr, _, _, .int sv, rfl, rfl, SqL.of hs1, by rw [Int.zero_add]; exact atI_nat (by rw [List.getElem?_map, hsv]; rfl), b, l, sv, rfl, o.box, fun z H2 hz hB2 x2 => ?_⟩
      obtain ⟨acc, hacc, hl, o2⟩ := o.more hz hB2 x2
      exact ⟨acc, hacc, by omega, o2⟩
    · rintro H1 o
      obtain ⟨zs, h1, h2, h3⟩ := o.zsat
      refine ⟨D, _, rfl, .inl ⟨SqL.of h3, fun p np => k p zs _ (box_new o.box np) (o.keep.trans (kb_new np)) (new_old o.keep o.box np) upd_same ⟨by omega, by omega, h2⟩⟩⟩
def spPageD : Sp := fun vs H Q _ => ∃ (b l : Addr) (m : Int), vs = [.ref b, .int m] ∧ BoxAt H b l ∧ 1 ≤ m ∧ m ≤ 30 ∧
  ∀ (p : Addr) (as : List Addr) (rows : List (List Str)) (H' : Hp), BoxAt H' b l → KB b l H H' → H p = none → p ≠ b → p ≠ l → H' p = some (.lst (as.map V.ref)) → as.length = rows.length → (∀ (i : Nat) (q : Addr) (r : List Str), as[i]? = some q → rows[i]? = some r → H' q = some (.tup (sV r))) → PgOk rows → Q (.ref p) H'
abbrev nmPage : List Str := ["_law_box", "_law_most", "_law_sorts", "_law_many", "_law_rows", "_law_turn", "_law_way", "_law_k"]
theorem sc_lpage : FnScope nmPage ["_law_box", "_law_most"] (defScope s_page) := ⟨rfl, rfl, rfl, by decide +kernel, rfl, by decide +kernel, by decide +kernel⟩
theorem ok_lpage {f g g2 : Addr} {fd fdg fd2 : FuncData} (T : Txt mg) (F : Fun K "_law_page" "_law_page" s_page f fd)
    (G : FnOk P w K mg base CX0 1 g fdg ["_law_box", "_law_many"] spTake) (kp : PySem.W.keepIn K (.ref g) = true) (bd : Binds K fdg ["_law_box", "_law_many"] []) (mgg : mg "_law_take" = some (.ref g))
    (G2 : FnOk P w K mg base CX0 4 g2 fd2 ["_law_box", "_law_sorts", "_law_many"] spRowD) (kp2 : PySem.W.keepIn K (.ref g2) = true) (bd2 : Binds K fd2 ["_law_box", "_law_sorts", "_law_many"] []) (mg2 : mg "_law_row" = some (.ref g2)) : FnOk P w K mg base CX0 5 f fd ["_law_box", "_law_most"] spPageD := by
  refine F.ok sc_lpage (fun vs H Q E h => ?_) (fun cdv A outer s H vs Q E hr h => ?_)
  · obtain ⟨b, l, m, rfl, _⟩ := h
    rfl
  · obtain ⟨b, l, m, rfl, hB, m1, m30, k⟩ := h
    have nd := sc_lpage.nd
    have szl : (1000 : Nat) < sizeLine := by decide
    have hr1 : Room 1 _ := hr.mono (by decide)
    refine ⟨_, pss_cons (ps_setLc (i := 2) (own := [("_law_k", 7)]) (g := gName 7) rfl nd rfl rfl (sw_true rfl rfl rfl (by decide +kernel)) (pi_range1 (by rfl) T.range (pa_cons pe_int pa_nil)) (blkOk_by (own := [("_law_k", 7)]) (N := nmPage) (sc := defScope s_page) (by decide +kernel))
          (fun _ _ _ _ _ => pg_name (i := 7) nd rfl (Or.inl rfl)) (fun _ _ _ _ _ => pts_nil) (fun s1 H1 C1 cl1 fp1 => pe_call G hr1 (by rfl) mgg kp bd .nil pass0 (pa_cons (pv 0) (pa_cons pe_int pa_nil))))
      (pss_cons (ps_par (i := 3) (j := 4) rfl nd rfl rfl (by decide) rfl rfl (pa_cons (pe_op op_add pe_int (pe_call G hr1 (by rfl) mgg kp bd .nil pass0 (pa_cons (pv 0) (pa_cons pe_int pa_nil)))) (pa_cons (pe_lst pa_nil) pa_nil)) (by rfl))
      (pss_cons (ps_for PassesOwn.never rfl (pi_range1 (by rfl) T.range (pa_cons (pe_op op_add pe_int (pe_call G hr1 (by rfl) mgg kp bd .nil pass0 (pa_cons (pv 0) (pa_cons (pv 1) pa_nil)))) pa_nil)) (pg_name (i := 5) nd rfl (.inl rfl))
        (pss_cons (ps_set (i := 6) nd rfl (.inl rfl) (pe_call G hr1 (by rfl) mgg kp bd .nil pass0 (pa_cons (pv 0) (pa_cons pe_int pa_nil))))
        (pss_cons (ps_set (i := 3) nd rfl (.inl rfl) (pe_ix ix_list (pe_lst (pa_cons (pe_op op_add pe_int (pe_call G hr1 (by rfl) mgg kp bd .nil pass0 (pa_cons (pv 0) (pa_cons pe_int pa_nil)))) (pa_cons (pe_callB (call_max2 rfl) (by rfl) T.max (by decide +kernel) (pa_cons pe_int (pa_cons (pe_op op_sub (pv 3) pe_int) pa_nil)))
            (pa_cons (pe_callB (call_min2 rfl) (by rfl) T.min (by decide +kernel) (pa_cons pe_int (pa_cons (pe_op op_add (pv 3) pe_int) pa_nil))) (pa_cons (pv 3) pa_nil))))) (pe_callB (call_min2 rfl) (by rfl) T.min (by decide +kernel) (pa_cons (pv 6) (pa_cons pe_int pa_nil))) (fun _ _ => rfl)))
        (pss_cons (ps_expr (pe_bm PySem.F.plainAttrs_list PySem.F.slot_list_append PySem.F.type_list_append mt_append (pv 4) (pa_cons (pe_call G2 hr (by rfl) mg2 kp2 bd2 .nil pass0 (pa_cons (pv 0) (pa_cons (pv 2) (pa_cons (pv 3) pa_nil)))) pa_nil)))
        (pss_one (ps_if (pt_cmpR op_eq (pv 6) pe_int (nomark _))
          (pss_cons (ps_asg (pe_ix ix_list (pv 4) (pe_call G hr1 (by rfl) mgg kp bd .nil pass0 (pa_cons (pv 0) (pa_cons (pe_callB call_len_seq (by rfl) T.len PySem.boot_len (pa_cons (pv 4) pa_nil)) pa_nil))) (fun _ _ => rfl)) (pg_sub (pv 4) (pe_un un_neg pe_int) set_list))
          (pss_one (ps_set (i := 3) nd rfl (.inl rfl) (pe_callB call_len_seq (by rfl) T.len PySem.boot_len (pa_cons (pe_ix ix_list (pv 4) (pe_un un_neg pe_int) (fun _ _ => rfl)) pa_nil))))) pss_nil))))))
      (pss_one (ps_ret (pv 4))))), ?_⟩
    refine ⟨6, rfl, by decide, by decide, fun sr nsr => lc_range (n := 6) (fun i H' => IntsAt b l H sr i H') (IntsAt.start hB KB.refl nsr) ?_ ?_⟩
    · rintro i H1 hi o
      refine ⟨rfl, _, rfl, b, l, 2, rfl, o.box, by decide, by decide, fun r H2 r0 r1 hB2 x2 => ?_⟩
      obtain ⟨acc, hacc, hl, o2⟩ := o.more (z := r) hB2 x2
      exact ⟨acc, hacc, by omega, o2⟩
    rintro H1 ⟨hB1, x1, nsr, sb, sl, ss, h6, hs1⟩
    refine ⟨_, rfl, b, l, 6, rfl, hB1, by decide, by decide, fun m0 H2 a0 a1 hB2 x2 => ⟨1, m0, rfl, rfl, small0, fun lr nlr => ⟨_, _, rfl, ?_⟩⟩⟩
    have hs2 := x2 sr _ hs1 sb sl
    have y2 := x1.trans x2
    obtain ⟨lb, ll⟩ := new_ne hB2 nlr
    have lrs : lr ≠ sr := fun z => by rw [z, hs2] at nlr; cases nlr
    have nlr0 := new_old y2 hB2 nlr
    refine ⟨_, rfl, _, rfl, b, l, m, rfl, box_new hB2 nlr, by omega, by omega, fun tt H4 t0 t1 hB4 x4 => ⟨1, tt, rfl, rfl, 1 + tt, rfl, by omega, by omega, ?_⟩⟩
    have hs4 : H4 sr = some (.lst (ss.map V.int)) := x4 sr _ (by rw [upd_ne lrs.symm]; exact hs2) sb sl
    have y4 := (y2.trans (kb_new nlr)).trans x4
    have hl4 : H4 lr = some (.lst []) := x4 lr _ upd_same lb ll
    refine for_range (n := (1 + tt).toNat) (fun i σ H' => ∃ (mm : Int) (as : List Addr) (c5 c6 : Option V), σ = [some (.ref b), some (.int m), some (.ref sr), some (.int mm), some (.ref lr), c5, c6, none] ∧ 1 ≤ mm ∧ mm ≤ 6 ∧ BoxAt H' b l ∧ KB b l H H' ∧ H' sr = some (.lst (ss.map V.int)) ∧ H' lr = some (.lst (as.map V.ref)) ∧ as.length = i ∧ RowsP H' as)
      ⟨1 + m0, [], none, none, rfl, by omega, by omega, hB4, y4, hs4, hl4, rfl, fun p h => by simp at h⟩ ?_ ?_
    · rintro i σ H5 hi ⟨mm, as, c5, c6, rfl, mm1, mm6, hB5, y5, hs5, hl5, hlen, hR5⟩
      refine ⟨_, rfl, b, l, 8, rfl, hB5, by decide, by decide, fun way H6 w0 w1 hB6 x6 => ?_⟩
      refine ⟨_, rfl, b, l, 6, rfl, hB6, by decide, by decide, fun n6 H7 n0 n1 hB7 x7 => ⟨1, n6, rfl, rfl, _, rfl, mm, 1, rfl, rfl, 1, mm - 1, rfl, _, rfl, mm, 1, rfl, rfl, 6, mm + 1, rfl, _, rfl, line10 (by show 4 ≤ 1000; decide), fun q nq => ?_⟩⟩
      obtain ⟨mv, hmv, emv⟩ := pick (xs := [1 + n6, (if mm - 1 > 1 then mm - 1 else 1), (if mm + 1 < 6 then mm + 1 else 6), mm]) (i := if 3 < way then 3 else way) (by split <;> omega) (by show _ < (4 : Int); split <;> omega)
      have hmv2 : 1 ≤ mv ∧ mv ≤ 6 := by
        simp only [List.mem_cons, List.not_mem_nil, or_false] at hmv
        rcases hmv with h | h | h | h
        · omega
        · split at h <;> omega
        · split at h <;> omega
        · omega
      refine ⟨_, rfl, way, 3, rfl, q, _, _, .int mv, rfl, rfl, SqL.of upd_same, atI_map (f := V.int) emv, ?_⟩
      have y7 : KB b l H5 (upd H7 q (.lst (List.map V.int [1 + n6, (if mm - 1 > 1 then mm - 1 else 1), (if mm + 1 < 6 then mm + 1 else 6), mm]))) := (x6.trans x7).trans (kb_new nq)
      have hB8 := box_new (o := .lst (List.map V.int [1 + n6, (if mm - 1 > 1 then mm - 1 else 1), (if mm + 1 < 6 then mm + 1 else 6), mm])) hB7 nq
      have hl8 := y7 lr _ hl5 lb ll
      have hs8 := y7 sr _ hs5 sb sl
      refine ⟨_, rfl, .inl ⟨rfl, _, SqL.of hl8⟩, _, rfl, _, rfl, _, rfl, b, l, sr, ss, mv, rfl, hB8, hs8, h6, sb, sl, hmv2.1, hmv2.2, fun p r H9 hB9 x9 np hp hro => ?_⟩
      have hl9 := x9 lr _ hl8 lb ll
      have hs9 := x9 sr _ hs8 sb sl
      have plr : p ≠ lr := fun z => by rw [z, hl9] at hp; cases hp
      refine ⟨lr, _, .ref p, rfl, rfl, hl9, by rw [List.length_map]; omega, ?_⟩
      have el : as.map V.ref ++ [V.ref p] = (as ++ [p]).map V.ref := by simp
      rw [el]
      have y9 := kb_upd (o := .lst ((as ++ [p]).map V.ref)) (y5.trans (y7.trans x9)) nlr0
      have hB10 := box_upd (o := .lst ((as ++ [p]).map V.ref)) hB9 lb ll
      have hl10 : (upd H9 lr (.lst ((as ++ [p]).map V.ref))) lr = some (.lst ((as ++ [p]).map V.ref)) := upd_same
      have hs10 : (upd H9 lr (.lst ((as ++ [p]).map V.ref))) sr = some (.lst (ss.map V.int)) := by rw [upd_ne lrs.symm]; exact hs9
      have hR10 : RowsP (upd H9 lr (.lst ((as ++ [p]).map V.ref))) (as ++ [p]) := fun u hu => by
        rcases List.mem_append.mp hu with h | h
        · obtain ⟨r2, e1, e2⟩ := hR5 u h
          have e3 := kb_tup (y7.trans x9) hB5 u _ e1
          exact ⟨r2, by rw [upd_ne (fun z => by rw [z, hl9] at e3; cases e3)]; exact e3, e2⟩
        · rw [List.mem_singleton.mp h]
          exact ⟨r, by rw [upd_ne plr]; exact hp, hro⟩
      have hlen2 : (as ++ [p]).length = i + 1 := by rw [List.length_append, hlen]; rfl
      generalize (upd H9 lr (.lst ((as ++ [p]).map V.ref))) = H10 at y9 hB10 hl10 hs10 hR10 ⊢
      generalize as ++ [p] = as2 at hl10 hR10 hlen2 ⊢
      refine ⟨_, rfl, rfl, _, rfl, iteB ?_ ?_⟩
      · have ln : ((as2.map V.ref).length : Int) = ((i + 1 : Nat) : Int) := by rw [List.length_map, hlen2]
        refine ⟨_, rfl, _, rfl, _, rfl, lr, _, rfl, .inl (SqL.of hl10), b, l, _, rfl, hB10, by omega, by omega, fun j H11 j0 j1 hB11 x11 => ?_⟩
        have hl11 := x11 lr _ hl10 lb ll
        obtain ⟨u, hu, eu⟩ := pick (xs := as2) (i := j) j0 (by rw [hlen2]; omega)
        obtain ⟨r2, e1, e2⟩ := hR10 u hu
        have e3 := kb_tup x11 hB10 u _ e1
        have ulr : u ≠ lr := fun z => by rw [z, hl11] at e3; cases e3
        have ix : ixN (as2.map V.ref).length (-1) = some i := by rw [List.length_map, hlen2]; exact ixm1
        refine ⟨lr, _, j, .ref u, rfl, rfl, SqL.of hl11, atI_map eu, _, rfl, 1, rfl, lr, _, -1, i, rfl, rfl, hl11, ix, ?_⟩
        have es : (as2.map V.ref).set i (V.ref u) = (as2.set i u).map V.ref := by rw [List.map_set]
        rw [es]
        have gu : (as2.set i u)[i]? = some u := List.getElem?_set_self (by omega)
        have hs11 := x11 sr _ hs10 sb sl
        refine ⟨_, rfl, 1, rfl, lr, _, -1, .ref u, rfl, rfl, SqL.of upd_same, atm1 (n := i) (by rw [List.length_map, List.length_set, hlen2]) (by rw [List.getElem?_map, gu]; rfl), u, _, rfl, .inr (SqT.of (by rw [upd_ne ulr]; exact e3)), ?_⟩
        have l1 := e2.pos
        have l2 := e2.len
        have lr2 : (sV r2).length = r2.length := List.length_map ..
        refine ⟨_, as2.set i u, _, _, rfl, by omega, by omega, box_upd hB11 lb ll, kb_upd (y9.trans x11) nlr0, by rw [upd_ne lrs.symm]; exact hs11, upd_same, by rw [List.length_set, hlen2], fun v hv => ?_⟩
        rcases List.mem_or_eq_of_mem_set hv with h | h
        · obtain ⟨r3, f1, f2⟩ := hR10 v h
          have f3 := kb_tup x11 hB10 v _ f1
          exact ⟨r3, by rw [upd_ne (fun z => by rw [z, hl11] at f3; cases f3)]; exact f3, f2⟩
        · rw [h]
          exact ⟨r2, by rw [upd_ne ulr]; exact e3, e2⟩
      · exact ⟨_, as2, _, _, rfl, hmv2.1, hmv2.2, hB10, y9, hs10, hl10, hlen2, hR10⟩
    · rintro σ H5 ⟨mm, as, c5, c6, rfl, mm1, mm6, hB5, y5, hs5, hl5, hlen, hR5⟩
      obtain ⟨rows, g1, g2, g3⟩ := hR5.page
      exact ⟨_, rfl, k lr as rows H5 hB5 y5 nlr0 lb ll hl5 g1 g2 ⟨by omega, by omega, g3⟩⟩
def spStyleD : Sp := fun vs H Q _ => ∃ (b l : Addr), vs = [.ref b] ∧ BoxAt H b l ∧
  ∀ (p : Addr) (gap least : Int) (H' : Hp), BoxAt H' b l → KB b l H H' → H p = none → H' p = some (.tup [.int gap, .int least]) → 0 ≤ gap → gap ≤ 4 → 0 ≤ least → least ≤ 12 → Q (.ref p) H'
theorem sc_lstyle : FnScope ["_law_box", "_law_gap"] ["_law_box"] (defScope s_style) := ⟨rfl, rfl, rfl, by decide +kernel, rfl, by decide +kernel, by decide +kernel⟩
theorem ok_lstyle {f g : Addr} {fd fdg : FuncData} (F : Fun K "_law_style" "_law_style" s_style f fd)
    (G : FnOk P w K mg base CX0 1 g fdg ["_law_box", "_law_many"] spTake) (kp : PySem.W.keepIn K (.ref g) = true) (bd : Binds K fdg ["_law_box", "_law_many"] []) (mgg : mg "_law_take" = some (.ref g)) : FnOk P w K mg base CX0 2 f fd ["_law_box"] spStyleD := by
  refine F.ok sc_lstyle (fun vs H Q E h => ?_) (fun cdv A outer s H vs Q E hr h => ?_)
  · obtain ⟨b, l, rfl, _⟩ := h
    rfl
  · obtain ⟨b, l, rfl, hB, k⟩ := h
    have nd := sc_lstyle.nd
    refine ⟨_, pss_cons (ps_set (i := 1) nd rfl (.inl rfl) (pe_ix ix_list (pe_lst (pa_cons (pe_call G hr (by rfl) mgg kp bd .nil pass0 (pa_cons (pv 0) (pa_cons pe_int pa_nil))) (pa_cons pe_int (pa_cons pe_int pa_nil)))) (pe_call G hr (by rfl) mgg kp bd .nil pass0 (pa_cons (pv 0) (pa_cons pe_int pa_nil))) (fun _ _ => rfl)))
      (pss_one (ps_ret (pe_tup (pa_cons (pv 1) (pa_cons (pe_ix ix_list (pe_lst (pa_cons pe_int (pa_cons (pe_call G hr (by rfl) mgg kp bd .nil pass0 (pa_cons (pv 0) (pa_cons pe_int pa_nil))) (pa_cons (pe_call G hr (by rfl) mgg kp bd .nil pass0 (pa_cons (pv 0) (pa_cons pe_int pa_nil))) pa_nil))))
        (pe_call G hr (by rfl) mgg kp bd .nil pass0 (pa_cons (pv 0) (pa_cons pe_int pa_nil))) (fun _ _ => rfl)) pa_nil))))), ?_⟩
    refine ⟨_, rfl, b, l, 5, rfl, hB, by decide, by decide, fun g0 H1 a0 a1 hB1 x1 => ⟨line10 (by show 3 ≤ 1000; decide), fun p np => ⟨_, rfl, b, l, 3, rfl, box_new hB1 np, by decide, by decide, fun r H2 r0 r1 hB2 x2 => ?_⟩⟩⟩
    obtain ⟨nb, nl⟩ := new_ne hB1 np
    have hp := x2 p _ upd_same nb nl
    obtain ⟨gap, hg, eg⟩ := pick (xs := [g0, 1, 2]) (i := r) r0 r1
    have hg2 : 0 ≤ gap ∧ gap ≤ 4 := by
      simp only [List.mem_cons, List.not_mem_nil, or_false] at hg
      omega
    have y2 := (x1.trans (kb_new np)).trans x2
    refine ⟨p, _, _, .int gap, rfl, rfl, SqL.of hp, atI_map (f := V.int) eg, ?_⟩
    refine ⟨_, rfl, _, rfl, b, l, 13, rfl, hB2, by decide, by decide, fun l1 H3 b0 b1 hB3 x3 => ⟨_, rfl, b, l, 13, rfl, hB3, by decide, by decide, fun l2 H4 c0 c1 hB4 x4 => ⟨line10 (by show 3 ≤ 1000; decide), fun q nq => ⟨_, rfl, b, l, 3, rfl, box_new hB4 nq, by decide, by decide, fun r2 H5 s0 s1 hB5 x5 => ?_⟩⟩⟩⟩
    obtain ⟨nb2, nl2⟩ := new_ne hB4 nq
    have hq := x5 q _ upd_same nb2 nl2
    obtain ⟨least, hl, el⟩ := pick (xs := [0, l1, l2]) (i := r2) s0 s1
    have hl2 : 0 ≤ least ∧ least ≤ 12 := by
      simp only [List.mem_cons, List.not_mem_nil, or_false] at hl
      omega
    have y5 := (((y2.trans x3).trans x4).trans (kb_new nq)).trans x5
    exact ⟨q, _, _, .int least, rfl, rfl, SqL.of hq, atI_map (f := V.int) el, line10 (by show 2 ≤ 1000; decide), fun t nt => k t gap least _ (box_new hB5 nt) (y5.trans (kb_new nt)) (new_old y5 hB5 nt) upd_same hg2.1 hg2.2 hl2.1 hl2.2⟩
end
end TG

namespace TG
open PySem L2 Gx
theorem same_refl {H : Hp} : Same H H := fun _ _ h => h
theorem same_trans {H H1 H2 : Hp} (a : Same H H1) (b : Same H1 H2) : Same H H2 := fun c o h => b c o (a c o h)
theorem same_new {H : Hp} {p : Addr} {o : HO} (n : H p = none) : Same H (upd H p o) := fun c u h => by rw [upd_ne (ne_of_none h n)]; exact h
theorem same_upd {H H' : Hp} {p : Addr} {o : HO} (x : Same H H') (n : H p = none) : Same H (upd H' p o) := fun c u h => by rw [upd_ne (ne_of_none h n)]; exact x c u h
theorem same_sqL {K : PySem.W.Frag} {H H' : Hp} {a : Addr} {xs : List V} (e : Same H H') (h : SqL K H a xs) : SqL K H' a xs := by
  rcases h with (z | ⟨o, z⟩) | z
  · exact .inl (.inl (e _ _ z))
  · exact .inl (.inr ⟨o, e _ _ z⟩)
  · exact .inr z
theorem same_sqT {K : PySem.W.Frag} {H H' : Hp} {a : Addr} {xs : List V} (e : Same H H') (h : SqT K H a xs) : SqT K H' a xs := by
  rcases h with (z | ⟨o, z⟩) | z
  · exact .inl (.inl (e _ _ z))
  · exact .inl (.inr ⟨o, e _ _ z⟩)
  · exact .inr z
theorem PageAt.same {K : PySem.W.Frag} {H H' : Hp} {a : Addr} {as : List Addr} {rows : List (List Str)} (p : PageAt K H a as rows) (e : Same H H') : PageAt K H' a as rows :=
  ⟨same_sqL e p.lst, p.len, fun i q r h1 h2 => same_sqT e (p.row i q r h1 h2)⟩
theorem same_old {H H' : Hp} {p : Addr} (e : Same H H') (n : H' p = none) : H p = none := by
  cases q : H p with
  | none => rfl
  | some o => rw [e _ _ q] at n; cases n
theorem canAll_strs : ∀ {zs : List Str}, (∀ z ∈ zs, ∀ c ∈ cl z, SgOk c) → PyData.canLayAll0 (zs.map PyData.str) = true
  | [], _ => rfl
  | z :: zs, h => by
    rw [List.map_cons]
    simp only [PyData.canLayAll0, PyData.canLay0, Bool.and_eq_true]
    refine ⟨?_, canAll_strs fun y hy => h y (List.mem_cons_of_mem _ hy)⟩
    unfold PyData.strOk
    rw [← Array.all_toList, List.all_eq_true]
    intro c hc
    have := h z List.mem_cons_self c hc
    unfold SgOk at this
    exact decide_eq_true (by omega)
theorem depthAll_strs : ∀ zs : List Str, PyData.depthAll (zs.map PyData.str) = 0
  | [] => rfl
  | _ :: r => by simp [PyData.depthAll, PyData.depth, depthAll_strs r]
theorem shaped_strs {zs : List Str} (h : ∀ z ∈ zs, ∀ c ∈ cl z, SgOk c) : SeqAt.shaped (.list (zs.map PyData.str)) = true := by
  simp [SeqAt.shaped, PyData.canLay0, PyData.depth, canAll_strs h, depthAll_strs]
theorem dp_strs {K : PySem.W.Frag} {H : Hp} : ∀ zs : List Str, DpAll K H (sV zs) (zs.map PyData.str)
  | [] => .nil
  | z :: zs => .cons (.str z) (dp_strs zs)
theorem eqv_nil {ds : List PyData} : PyData.eqv (.list ds) (.list []) = decide (ds = []) := by
  cases ds with
  | nil => rfl
  | cons d ds => rfl
theorem cl_one (c : Nat) : cl ⟨#[c]⟩ = [c] := rfl
theorem ten_ok : cl "0123456789" = [48, 49, 50, 51, 52, 53, 54, 55, 56, 57] := by decide +kernel
def digB (c : Nat) : Bool := decide (48 ≤ c ∧ c ≤ 57)
theorem dig_mem (c : Nat) : c ∈ (Str.ofString "0123456789").cps.toList ↔ 48 ≤ c ∧ c ≤ 57 := by
  have e : (Str.ofString "0123456789").cps.toList = [48, 49, 50, 51, 52, 53, 54, 55, 56, 57] := ten_ok
  rw [e]
  simp only [List.mem_cons, List.not_mem_nil, or_false]
  omega
end TG

namespace TG
open PySem L2 Gx
/-! ### the neighbours of a cell -/
def loB (rows : List (List Str)) (c : Nat) : Nat → Nat
  | 0 => 0
  | i + 1 => if clB rows c i = true then loB rows c i else i + 1
theorem lo_eq {rows : List (List Str)} {c i : Nat} : (loB rows c i = i) ↔ (i = 0 ∨ clB rows c (i - 1) = false) := by
  have le : ∀ j, loB rows c j ≤ j := by
    intro j
    induction j with
    | zero => exact Nat.le_refl _
    | succ j ih =>
      show (if clB rows c j = true then loB rows c j else j + 1) ≤ j + 1
      split
      · omega
      · omega
  cases i with
  | zero => exact ⟨fun _ => .inl rfl, fun _ => rfl⟩
  | succ i =>
    rw [Nat.add_sub_cancel]
    show (if clB rows c i = true then loB rows c i else i + 1) = i + 1 ↔ _
    have := le i
    by_cases h : clB rows c i = true
    · rw [if_pos h, h]
      constructor
      · intro q; omega
      · intro q
        rcases q with q | q
        · omega
        · cases q
    · rw [if_neg h]
      constructor
      · intro _; exact .inr (by cases q : clB rows c i with
          | true => exact absurd q h
          | false => rfl)
      · intro _; rfl
section
variable {P : Program} {w : World} {K : PySem.W.Frag} {mg : Str → Option Value} {base : Heap} {cs : List (Addr × Addr)}
def spMates (K : PySem.W.Frag) : Sp := fun vs H Q _ => ∃ (a : Addr) (as : List Addr) (rows : List (List Str)) (i c : Nat), vs = [.ref a, .int (i : Nat), .int (c : Nat)] ∧ PageAt K H a as rows ∧ i < rows.length ∧ rows.length ≤ 30 ∧
  ∀ p, H p = none → Q (.ref p) (upd H p (.tup [.int (loB rows c i : Nat), .int (hiB rows c (i + 1) : Nat)]))
abbrev nmMates : List Str := ["_law_page_here", "_law_number", "_law_column", "_law_begin", "_law_end"]
theorem sc_mates : FnScope nmMates ["_law_page_here", "_law_number", "_law_column"] (defScope s_mates) := ⟨rfl, rfl, rfl, by decide +kernel, rfl, by decide +kernel, by decide +kernel⟩
theorem ok_mates {f : Addr} {fd : FuncData} (T : Txt mg) (F : Fun K "_law_mates" "_law_mates" s_mates f fd) : FnOk P w K mg base CX0 1 f fd ["_law_page_here", "_law_number", "_law_column"] (spMates K) := by
  refine F.ok sc_mates (fun vs H Q E h => ?_) (fun cdv A outer s H vs Q E hr h => ?_)
  · obtain ⟨a, as, rows, i, c, rfl, _⟩ := h
    rfl
  · obtain ⟨a, as, rows, i, c, rfl, hP, hi, hn, k⟩ := h
    have nd := sc_mates.nd
    refine ⟨_, pss_cons (ps_par (i := 3) (j := 4) rfl nd rfl rfl (by decide) rfl rfl (pa_cons (pv 1) (pa_cons (pe_op op_add (pv 1) pe_int) pa_nil)) (by rfl))
      (pss_cons (ps_while PassesOwn.never (PW.pt (pw_and (pt_cmpR op_gt (pv 3) pe_int (nomark _)) (pw_and1 (pt_cmpR op_gt (pe_callB call_len_seq (by rfl) T.len PySem.boot_len (pa_cons (pe_ix ix_list (pv 0) (pe_op op_sub (pv 3) pe_int) (fun _ _ => rfl)) pa_nil)) (pe_op op_add (pv 2) pe_int) (nomark _)))))
        (pss_one (ps_set (i := 3) nd rfl (.inl rfl) (pe_op op_sub (pv 3) pe_int))))
      (pss_cons (ps_while PassesOwn.never (PW.pt (pw_and (pt_cmpR op_lt (pv 4) (pe_callB call_len_seq (by rfl) T.len PySem.boot_len (pa_cons (pv 0) pa_nil)) (nomark _)) (pw_and1 (pt_cmpR op_gt (pe_callB call_len_seq (by rfl) T.len PySem.boot_len (pa_cons (pe_ix ix_list (pv 0) (pv 4) (fun _ _ => rfl)) pa_nil)) (pe_op op_add (pv 2) pe_int) (nomark _)))))
        (pss_one (ps_set (i := 4) nd rfl (.inl rfl) (pe_op op_add (pv 4) pe_int))))
      (pss_one (ps_ret (pe_tup (pa_cons (pv 3) (pa_cons (pv 4) pa_nil))))))), ?_⟩
    have las : (as.map V.ref).length = rows.length := by rw [List.length_map, hP.len]
    have rowAt : ∀ j, j < rows.length → ∃ q r, as[j]? = some q ∧ rows[j]? = some r ∧ SqT K H q (sV r) ∧ clB rows c j = decide (c + 1 < r.length) := fun j hj => by
      obtain ⟨q, hq⟩ := getP (xs := as) (i := j) (by rw [hP.len]; exact hj)
      obtain ⟨r, hr2⟩ := getP hj
      exact ⟨q, r, hq, hr2, hP.row j q r hq hr2, by unfold clB; rw [hr2]⟩
    have gt1 : ∀ r : List Str, decide (((c : Nat) : Int) + 1 < (((sV r).length : Nat) : Int)) = decide (c + 1 < r.length) := fun r => by
      rw [List.length_map]
      by_cases h : c + 1 < r.length
      · rw [decide_eq_true h, decide_eq_true (by omega)]
      · rw [decide_eq_false h, decide_eq_false (by omega)]
    refine ⟨_, rfl, _, rfl, i, 1, rfl, rfl, _, _, rfl, ?_⟩
    let Down : Nat → L2.St → Hp → Prop := fun m σ H1 => ∃ b : Nat, σ = [some (.ref a), some (.int (i : Nat)), some (.int (c : Nat)), some (.int (b : Nat)), some (.int ((i : Nat) + 1))] ∧ m = b ∧ b ≤ i ∧ loB rows c b = loB rows c i ∧ H1 = H
    refine ⟨Down, ⟨_, i, rfl, rfl, Nat.le_refl _, rfl, rfl⟩, ?_⟩
    rintro m σ H1 ⟨b, rfl, rfl, hb, hlo, rfl⟩
    refine ⟨_, rfl, m, 0, rfl, rfl, _, rfl, ?_⟩
    cases m with
    | zero =>
      rw [decide_eq_false (show ¬ (0 : Int) < ((0 : Nat) : Int) by omega)]
      refine iteF (iteF ?_)
      have hm : loB rows c i = 0 := hlo.symm
      let Up : Nat → L2.St → Hp → Prop := fun n σ H2 => ∃ e : Nat, σ = [some (.ref a), some (.int (i : Nat)), some (.int (c : Nat)), some (.int ((0 : Nat) : Int)), some (.int (e : Nat))] ∧ n = rows.length - e ∧ e ≤ rows.length ∧ hiB rows c e = hiB rows c (i + 1) ∧ H2 = H1
      refine ⟨Up, ⟨_, i + 1, rfl, rfl, by omega, rfl, rfl⟩, ?_⟩
      rintro n σ H2 ⟨e, rfl, rfl, he, hhi, rfl⟩
      refine ⟨_, rfl, _, rfl, a, _, rfl, .inl hP.lst, _, _, rfl, rfl, _, rfl, ?_⟩
      by_cases hlt : e < rows.length
      · obtain ⟨q, r, hq, hr2, hS, hc⟩ := rowAt e hlt
        rw [decide_eq_true (show (e : Int) < ((as.map V.ref).length : Int) by omega)]
        refine iteT ⟨_, rfl, _, rfl, a, _, e, .ref q, rfl, rfl, hP.lst, atI_nat (by rw [List.getElem?_map, hq]; rfl), q, _, rfl, .inr hS, _, rfl, c, 1, rfl, rfl, _, _, rfl, rfl, _, rfl, ?_⟩
        rw [gt1, ← hc]
        cases hcl : clB rows c e with
        | true => exact iteT ⟨Up (rows.length - (e + 1)), fun σ' H' o => ⟨_, by omega, o⟩, _, rfl, e, 1, rfl, rfl, e + 1, rfl, rfl, by omega, by rw [← hi_yes hcl]; exact hhi, rfl⟩
        | false =>
          refine iteF ⟨_, rfl, _, rfl, line10 (by show 2 ≤ 1000; decide), fun p np => ?_⟩
          have := k p np
          rw [hm, ← hhi, hi_no hcl] at this
          exact this
      · rw [decide_eq_false (show ¬ (e : Int) < ((as.map V.ref).length : Int) by omega)]
        refine iteF (iteF ⟨_, rfl, _, rfl, line10 (by show 2 ≤ 1000; decide), fun p np => ?_⟩)
        have hcl : clB rows c e = false := by
          cases q : clB rows c e with
          | true => exact absurd (cl_lt q) hlt
          | false => rfl
        have := k p np
        rw [hm, ← hhi, hi_no hcl] at this
        exact this
    | succ m0 =>
      have e0 : (((m0 + 1 : Nat) : Nat) : Int) - 1 = (m0 : Int) := by omega
      obtain ⟨q0, r0, hq0, hr0, hS0, hc0⟩ := rowAt m0 (by omega)
      rw [decide_eq_true (show (0 : Int) < ((m0 + 1 : Nat) : Int) by omega)]
      refine iteT ⟨_, rfl, _, rfl, _, 1, rfl, rfl, a, _, _, .ref q0, rfl, rfl, hP.lst, by rw [e0]; exact atI_nat (by rw [List.getElem?_map, hq0]; rfl), q0, _, rfl, .inr hS0, _, rfl, c, 1, rfl, rfl, _, _, rfl, rfl, _, rfl, ?_⟩
      rw [gt1, ← hc0]
      cases hcl0 : clB rows c m0 with
      | true =>
        refine iteT ⟨Down m0, fun σ' H' o => ⟨_, Nat.lt_succ_self m0, o⟩, _, rfl, _, 1, rfl, rfl, m0, by show [some (V.ref a), some (V.int (i : Nat)), some (V.int (c : Nat)), some (V.int (((m0 + 1 : Nat) : Int) - 1)), some (V.int ((i : Nat) + 1))] = _; rw [e0], rfl, by omega, ?_, rfl⟩
        have : loB rows c (m0 + 1) = loB rows c m0 := if_pos hcl0
        rw [← this]; exact hlo
      | false =>
        refine iteF ?_
        have hm : loB rows c i = m0 + 1 := by
          rw [← hlo]
          exact if_neg (by rw [hcl0]; exact Bool.false_ne_true)
        let Up : Nat → L2.St → Hp → Prop := fun n σ H2 => ∃ e : Nat, σ = [some (.ref a), some (.int (i : Nat)), some (.int (c : Nat)), some (.int ((m0 + 1 : Nat) : Int)), some (.int (e : Nat))] ∧ n = rows.length - e ∧ e ≤ rows.length ∧ hiB rows c e = hiB rows c (i + 1) ∧ H2 = H1
        refine ⟨Up, ⟨_, i + 1, rfl, rfl, by omega, rfl, rfl⟩, ?_⟩
        rintro n σ H2 ⟨e, rfl, rfl, he, hhi, rfl⟩
        refine ⟨_, rfl, _, rfl, a, _, rfl, .inl hP.lst, _, _, rfl, rfl, _, rfl, ?_⟩
        by_cases hlt : e < rows.length
        · obtain ⟨q, r, hq, hr2, hS, hc⟩ := rowAt e hlt
          rw [decide_eq_true (show (e : Int) < ((as.map V.ref).length : Int) by omega)]
          refine iteT ⟨_, rfl, _, rfl, a, _, e, .ref q, rfl, rfl, hP.lst, atI_nat (by rw [List.getElem?_map, hq]; rfl), q, _, rfl, .inr hS, _, rfl, c, 1, rfl, rfl, _, _, rfl, rfl, _, rfl, ?_⟩
          rw [gt1, ← hc]
          cases hcl : clB rows c e with
          | true => exact iteT ⟨Up (rows.length - (e + 1)), fun σ' H' o => ⟨_, by omega, o⟩, _, rfl, e, 1, rfl, rfl, e + 1, rfl, rfl, by omega, by rw [← hi_yes hcl]; exact hhi, rfl⟩
          | false =>
            refine iteF ⟨_, rfl, _, rfl, line10 (by show 2 ≤ 1000; decide), fun p np => ?_⟩
            have := k p np
            rw [hm, ← hhi, hi_no hcl] at this
            exact this
        · rw [decide_eq_false (show ¬ (e : Int) < ((as.map V.ref).length : Int) by omega)]
          refine iteF (iteF ⟨_, rfl, _, rfl, line10 (by show 2 ≤ 1000; decide), fun p np => ?_⟩)
          have hcl : clB rows c e = false := by
            cases q : clB rows c e with
            | true => exact absurd (cl_lt q) hlt
            | false => rfl
          have := k p np
          rw [hm, ← hhi, hi_no hcl] at this
          exact this
end
end TG

namespace TG
open PySem L2 Gx
theorem at1 {α : Type} {v u : α} {xs : List α} : atI (v :: u :: xs) 1 = some u := atI_nat (j := 1) rfl
/-- a cell of a row that is closed there -/
theorem cell_at {rows : List (List Str)} {c j : Nat} {r : List Str} (hr : rows[j]? = some r) (h : clB rows c j = true) : (sV r)[c]? = some (V.str (r.getD c nilS)) := by
  unfold clB at h
  rw [hr] at h
  have : c + 1 < r.length := of_decide_eq_true h
  rw [List.getElem?_map, List.getD_eq_getElem?_getD, List.getElem?_eq_getElem (by omega)]
  rfl
theorem st_cl {rows : List (List Str)} {c i : Nat} (h : stB rows c i = true) : clB rows c i = true ∧ loB rows c i = i ∧ hiB rows c (i + 1) = hiB rows c i ∧ i < hiB rows c i ∧ hiB rows c i ≤ rows.length ∧ ∀ j, i ≤ j → j < hiB rows c i → clB rows c j = true := by
  unfold stB at h
  obtain ⟨h1, h2⟩ := Bool.and_eq_true_iff.mp h
  refine ⟨h1, lo_eq.mpr ?_, (hi_yes h1).symm, ?_, hi_le (Nat.le_of_lt (cl_lt h1)), fun j h3 h4 => hi_in (j - i) i j (by omega) h4⟩
  · rcases Bool.or_eq_true_iff.mp h2 with q | q
    · exact .inl (of_decide_eq_true q)
    · exact .inr (by simpa using q)
  · rw [hi_yes h1]; exact hi_ge rows c (i + 1)
theorem widthB_of {zs : List Str} {gap least m : Int} (hm : m ∈ least :: zs.map fun z => ((z.length : Nat) : Int) + gap) (hle : ∀ x ∈ least :: zs.map (fun z => ((z.length : Nat) : Int) + gap), x ≤ m) (hz : zs ≠ []) : m = widthB zs gap least := by
  have h1 := hle least List.mem_cons_self
  obtain ⟨z, hz1, hz2⟩ := long_in hz
  have h2 := hle (((z.length : Nat) : Int) + gap) (List.mem_cons_of_mem _ (List.mem_map.mpr ⟨z, hz1, rfl⟩))
  unfold widthB
  rcases List.mem_cons.mp hm with e | e
  · subst e
    split <;> omega
  · obtain ⟨y, hy, e⟩ := List.mem_map.mp e
    have h3 := long_ge hy
    split <;> omega
end TG

namespace TG
open PySem L2 Gx
/-! ### the stretch of a closed cell -/
theorem lo_le (rows : List (List Str)) (c : Nat) : ∀ i, loB rows c i ≤ i
  | 0 => Nat.le_refl _
  | i + 1 => by
    show (if clB rows c i = true then loB rows c i else i + 1) ≤ i + 1
    have := lo_le rows c i
    split <;> omega
theorem lo_in {rows : List (List Str)} {c : Nat} : ∀ {i j : Nat}, loB rows c i ≤ j → j < i → clB rows c j = true
  | 0, j, _, h => absurd h (Nat.not_lt_zero _)
  | i + 1, j, h1, h2 => by
    have h1 : (if clB rows c i = true then loB rows c i else i + 1) ≤ j := h1
    split at h1
    · rename_i q
      by_cases e : j = i
      · rw [e]; exact q
      · exact lo_in h1 (by omega)
    · omega
theorem st_lo {rows : List (List Str)} {c i : Nat} (h : clB rows c i = true) : stB rows c (loB rows c i) = true := by
  have h1 := lo_le rows c i
  have h2 : clB rows c (loB rows c i) = true := by
    by_cases e : loB rows c i = i
    · rw [e]; exact h
    · exact lo_in (Nat.le_refl _) (by omega)
  unfold stB
  rw [h2, Bool.true_and]
  have h3 : loB rows c i = 0 ∨ clB rows c (loB rows c i - 1) = false := by
    clear h h2 h1
    induction i with
    | zero => exact .inl rfl
    | succ i ih =>
      show (if clB rows c i = true then loB rows c i else i + 1) = 0 ∨ clB rows c ((if clB rows c i = true then loB rows c i else i + 1) - 1) = false
      by_cases q : clB rows c i = true
      · rw [if_pos q]; exact ih
      · rw [if_neg q, Nat.add_sub_cancel]
        exact .inr (by simpa using q)
  rcases h3 with q | q
  · rw [decide_eq_true q, Bool.true_or]
  · rw [q, Bool.not_false, Bool.or_true]
theorem hi_down {rows : List (List Str)} {c x : Nat} : ∀ {d : Nat}, (∀ j, x ≤ j → j < x + d → clB rows c j = true) → hiB rows c x = hiB rows c (x + d)
  | 0, _ => rfl
  | d + 1, h => by
    rw [hi_down (d := d) fun j h1 h2 => h j h1 (by omega), hi_yes (h (x + d) (by omega) (by omega)), Nat.add_assoc]
theorem hi_lo (rows : List (List Str)) (c i : Nat) : hiB rows c (loB rows c i) = hiB rows c i := by
  have h := lo_le rows c i
  obtain ⟨d, hd⟩ := Nat.exists_eq_add_of_le h
  have := hi_down (rows := rows) (c := c) (x := loB rows c i) (d := d) fun j h1 h2 => lo_in h1 (by omega)
  rw [this, ← hd]
theorem lo_same {rows : List (List Str)} {c x : Nat} (h : stB rows c x = true) : ∀ {d : Nat}, x + d < hiB rows c x → loB rows c (x + d) = x
  | 0, _ => (st_cl h).2.1
  | d + 1, hd => by
    show (if clB rows c (x + d) = true then loB rows c (x + d) else x + d + 1) = x
    rw [if_pos ((st_cl h).2.2.2.2.2 (x + d) (by omega) (by omega))]
    exact lo_same h (by omega)
/-- a closed cell's stretch -/
theorem cl_run {rows : List (List Str)} {c i : Nat} (h : clB rows c i = true) : loB rows c i ≤ i ∧ i < hiB rows c i ∧ hiB rows c (i + 1) = hiB rows c i ∧ hiB rows c i ≤ rows.length ∧ ∀ j, loB rows c i ≤ j → j < hiB rows c i → clB rows c j = true := by
  obtain ⟨_, _, _, _, h2, h3⟩ := st_cl (st_lo h)
  rw [hi_lo] at h2 h3
  refine ⟨lo_le rows c i, ?_, (hi_yes h).symm, h2, h3⟩
  rw [hi_yes h]
  exact hi_ge rows c (i + 1)
abbrev covB (i : Nat) (q : Nat × Nat × Nat) : Bool := decide (q.2.1 ≤ i ∧ i < q.2.2)
theorem filter_one {p : Nat → Bool} {a : Nat} (h : ∀ x, p x = decide (x = a)) : ∀ n, (List.range n).filter p = if a < n then [a] else [] := by
  intro n
  induction n with
  | zero => simp
  | succ n ih =>
    rw [List.range_succ, List.filter_append, ih]
    by_cases e : n = a
    · subst e
      rw [if_neg (Nat.lt_irrefl _), if_pos (Nat.lt_succ_self _), List.filter_cons_of_pos (by rw [h]; exact decide_eq_true rfl)]
      rfl
    · rw [List.filter_cons_of_neg (by rw [h, decide_eq_false e]; exact Bool.false_ne_true), List.filter_nil, List.append_nil]
      by_cases q : a < n
      · rw [if_pos q, if_pos (by omega)]
      · rw [if_neg q, if_neg (by omega)]
theorem col_cov (rows : List (List Str)) (c i : Nat) : (ofCol rows c).filter (covB i) = if clB rows c i = true then [(c, loB rows c i, hiB rows c i)] else [] := by
  unfold ofCol runsB
  rw [List.map_map, List.filter_map]
  rw [List.filter_filter]
  by_cases h : clB rows c i = true
  · rw [if_pos h]
    have hp : ∀ x, (((covB i) ∘ ((fun p : Nat × Nat => (c, p.1, p.2)) ∘ fun i => (i, hiB rows c i))) x && stB rows c x) = decide (x = loB rows c i) := fun x => by
      rw [Bool.eq_iff_iff, Bool.and_eq_true, decide_eq_true_eq]
      constructor
      · rintro ⟨h1, h2⟩
        obtain ⟨h3, h4⟩ := of_decide_eq_true h1
        have h3 : x ≤ i := h3
        have h4 : i < hiB rows c x := h4
        obtain ⟨d, hd⟩ := Nat.exists_eq_add_of_le h3
        rw [hd]
        exact (lo_same h2 (by omega)).symm
      · intro e
        subst e
        obtain ⟨h1, h2, _⟩ := cl_run h
        refine ⟨decide_eq_true ⟨h1, ?_⟩, st_lo h⟩
        show i < hiB rows c (loB rows c i)
        rw [hi_lo]; exact h2
    rw [filter_one hp, if_pos (Nat.lt_of_le_of_lt (lo_le rows c i) (cl_lt h))]
    show [(c, loB rows c i, hiB rows c (loB rows c i))] = _
    rw [hi_lo]
  · rw [if_neg h]
    have : List.filter (fun x => ((covB i) ∘ ((fun p : Nat × Nat => (c, p.1, p.2)) ∘ fun i => (i, hiB rows c i))) x && stB rows c x) (List.range rows.length) = [] := by
      refine List.filter_eq_nil_iff.mpr fun x _ q => ?_
      obtain ⟨h1, h2⟩ := Bool.and_eq_true_iff.mp q
      obtain ⟨h3, h4⟩ := of_decide_eq_true h1
      have h3 : x ≤ i := h3
      have h4 : i < hiB rows c x := h4
      exact h ((st_cl h2).2.2.2.2.2 i h3 h4)
    rw [this]
    rfl
/-- how many cells of row i are closed -/
def ncl (rows : List (List Str)) (i : Nat) : Nat := match rows[i]? with
  | some r => r.length - 1
  | none => 0
theorem cl_ncl (rows : List (List Str)) (c i : Nat) : clB rows c i = decide (c < ncl rows i) := by
  unfold clB ncl
  cases rows[i]? with
  | none => exact (decide_eq_false (Nat.not_lt_zero _)).symm
  | some r =>
    show decide (c + 1 < r.length) = decide (c < r.length - 1)
    exact decide_eq_decide.mpr (by omega)
def entOf (rows : List (List Str)) (i c : Nat) : Nat × Nat × Nat := (c, loB rows c i, hiB rows c i)
theorem flat_if {α : Type} {f : Nat → α} {m : Nat} : ∀ d, (List.range d).flatMap (fun c => if c < m then [f c] else []) = (List.range (min d m)).map f := by
  intro d
  induction d with
  | zero => simp
  | succ d ih =>
    rw [List.range_succ, List.flatMap_append, ih, List.flatMap_cons, List.flatMap_nil, List.append_nil]
    by_cases h : d < m
    · rw [if_pos h, Nat.min_eq_left (by omega), Nat.min_eq_left (by omega), List.range_succ, List.map_append]
      rfl
    · rw [if_neg h, List.append_nil, Nat.min_eq_right (by omega), Nat.min_eq_right (by omega)]
theorem ncl_le {rows : List (List Str)} (hO : PgOk rows) (i : Nat) : ncl rows i ≤ 5 := by
  unfold ncl
  cases q : rows[i]? with
  | none => exact Nat.zero_le _
  | some r =>
    have := (hO.rows r (List.mem_of_getElem? q)).len
    show r.length - 1 ≤ 5
    omega
/-- the entries that hold row i, in turn -/
theorem ent_cov {rows : List (List Str)} (hO : PgOk rows) (i : Nat) : (entB rows).filter (covB i) = (List.range (ncl rows i)).map (entOf rows i) := by
  unfold entB
  rw [List.filter_flatMap]
  have e : (fun c => (ofCol rows c).filter (covB i)) = fun c => if c < ncl rows i then [entOf rows i c] else [] := by
    funext c
    rw [col_cov, cl_ncl]
    by_cases h : c < ncl rows i
    · rw [if_pos (decide_eq_true h), if_pos h]; rfl
    · rw [if_neg (by rw [decide_eq_false h]; exact Bool.false_ne_true), if_neg h]
  rw [e, flat_if, Nat.min_eq_right (ncl_le hO i)]
def cntB (rows : List (List Str)) (j i : Nat) : Nat := (((entB rows).take j).filter (covB i)).length
theorem cnt_zero (rows : List (List Str)) (i : Nat) : cntB rows 0 i = 0 := rfl
theorem cnt_all {rows : List (List Str)} (hO : PgOk rows) (i : Nat) : cntB rows (entB rows).length i = ncl rows i := by
  unfold cntB
  rw [List.take_of_length_le (Nat.le_refl _), ent_cov hO, List.length_map, List.length_range]
theorem cnt_no {rows : List (List Str)} {j i : Nat} {q : Nat × Nat × Nat} (hq : (entB rows)[j]? = some q) (h : covB i q = false) : cntB rows (j + 1) i = cntB rows j i := by
  unfold cntB
  rw [List.take_add_one, hq, List.filter_append]
  have : List.filter (covB i) (some q).toList = [] := by
    show List.filter (covB i) [q] = []
    rw [List.filter_cons_of_neg (by rw [h]; exact Bool.false_ne_true)]
    rfl
  rw [this, List.append_nil]
theorem cnt_yes {rows : List (List Str)} (hO : PgOk rows) {j i : Nat} {q : Nat × Nat × Nat} (hq : (entB rows)[j]? = some q) (h : covB i q = true) : cntB rows (j + 1) i = cntB rows j i + 1 ∧ q = entOf rows i (cntB rows j i) ∧ cntB rows j i < ncl rows i := by
  have e1 : ((entB rows).take (j + 1)).filter (covB i) = ((entB rows).take j).filter (covB i) ++ [q] := by
    rw [List.take_add_one, hq, List.filter_append]
    congr 1
    show List.filter (covB i) [q] = [q]
    rw [List.filter_cons_of_pos h]
    rfl
  have e2 : (entB rows).filter (covB i) = (((entB rows).take j).filter (covB i) ++ [q]) ++ ((entB rows).drop (j + 1)).filter (covB i) := by
    rw [← e1, ← List.filter_append, List.take_append_drop]
  have e3 : ((entB rows).filter (covB i))[cntB rows j i]? = some q := by
    rw [e2, List.append_assoc]
    have e4 : cntB rows j i = (List.filter (covB i) (List.take j (entB rows))).length := rfl
    rw [e4, List.getElem?_append_right (Nat.le_refl _), Nat.sub_self]
    rfl
  rw [ent_cov hO, List.getElem?_map] at e3
  refine ⟨by unfold cntB; rw [e1, List.length_append]; rfl, ?_⟩
  by_cases hl : cntB rows j i < ncl rows i
  · rw [List.getElem?_eq_getElem (by rw [List.length_range]; exact hl), List.getElem_range] at e3
    exact ⟨(Option.some.inj e3).symm, hl⟩
  · rw [List.getElem?_eq_none (by rw [List.length_range]; omega)] at e3
    cases e3
def wB (rows : List (List Str)) (gap least : Int) (i c : Nat) : Int := widthB (cellsB rows c (loB rows c i) (hiB rows c i)) gap least
def rB (rows : List (List Str)) (i c : Nat) : Bool := rightB (cellsB rows c (loB rows c i) (hiB rows c i))
def leftB (rows : List (List Str)) (gap least : Int) (i : Nat) : Nat → Int
  | 0 => 0
  | c + 1 => leftB rows gap least i c + wB rows gap least i c
def leftsB (rows : List (List Str)) (gap least : Int) (i n : Nat) : List Int := (List.range (n + 1)).map (leftB rows gap least i)
theorem lefts_snoc (rows : List (List Str)) (gap least : Int) (i n : Nat) : leftsB rows gap least i (n + 1) = leftsB rows gap least i n ++ [leftB rows gap least i n + wB rows gap least i n] := by
  unfold leftsB
  rw [List.range_succ (n := n + 1), List.map_append]
  rfl
theorem lefts_len (rows : List (List Str)) (gap least : Int) (i n : Nat) : (leftsB rows gap least i n).length = n + 1 := by
  unfold leftsB
  rw [List.length_map, List.length_range]
theorem lefts_get {rows : List (List Str)} {gap least : Int} {i n c : Nat} (h : c ≤ n) : (leftsB rows gap least i n)[c]? = some (leftB rows gap least i c) := by
  unfold leftsB
  rw [List.getElem?_map, List.getElem?_range (by omega)]
  rfl
/-- where the cell c of row i begins -/
def begB (rows : List (List Str)) (gap least : Int) (i c : Nat) : Int := match rows[i]? with
  | some r => if c + 1 < r.length ∧ rB rows i c = true then leftB rows gap least i (c + 1) - gap - ((r.getD c nilS).length : Int) else leftB rows gap least i c
  | none => 0
end TG

namespace TG
open PySem L2 Gx
/-- the list at l holds what is told of the first n closed cells of row i -/
def CellsAt (H : Hp) (rows : List (List Str)) (gap least : Int) (i n : Nat) (l : Addr) : Prop :=
  ∃ ts : List Addr, H l = some (.lst (ts.map V.ref)) ∧ ts.length = n ∧ ∀ (c : Nat) (t : Addr), ts[c]? = some t → H t = some (.tup [.int (wB rows gap least i c), .bl (rB rows i c)])
theorem CellsAt.ext {H H' : Hp} {rows : List (List Str)} {gap least : Int} {i n : Nat} {l : Addr} (x : CellsAt H rows gap least i n l) (e : LamX.ExtN H H') : CellsAt H' rows gap least i n l :=
  let ⟨ts, h1, h2, h3⟩ := x
  ⟨ts, e _ _ h1 (by intro ps z; cases z), h2, fun c t h => e _ _ (h3 c t h) (by intro ps z; cases z)⟩
theorem CellsAt.upd {H : Hp} {rows : List (List Str)} {gap least : Int} {i n : Nat} {l p : Addr} {xs : List V} {o : HO} (x : CellsAt H rows gap least i n l) (hp : H p = some (.lst xs)) (ne : l ≠ p) : CellsAt (upd H p o) rows gap least i n l :=
  let ⟨ts, h1, h2, h3⟩ := x
  ⟨ts, by rw [upd_ne ne]; exact h1, h2, fun c t h => by rw [upd_ne (ne_of (h3 c t h) hp (by intro z; cases z))]; exact h3 c t h⟩
theorem ent_le {rows : List (List Str)} {j : Nat} {q : Nat × Nat × Nat} (h : (entB rows)[j]? = some q) : q.2.1 < q.2.2 ∧ q.2.2 ≤ rows.length := by
  obtain ⟨c, _, h2⟩ := List.mem_flatMap.mp (show q ∈ (List.range 5).flatMap (ofCol rows) from List.mem_of_getElem? h)
  obtain ⟨p, h3, rfl⟩ := List.mem_map.mp h2
  obtain ⟨i, hi, e⟩ := List.getElem_of_mem h3
  obtain ⟨f1, f2, _⟩ := run_facts (i := i) (by rw [List.getElem?_eq_getElem hi, e])
  exact ⟨f1, f2⟩
section
variable {P : Program} {w : World} {K : PySem.W.Frag} {mg : Str → Option Value} {base : Heap} {cs : List (Addr × Addr)}
def spCC (K : PySem.W.Frag) (cs : List (Addr × Addr)) : Sp := fun vs H Q _ => ∃ (a st : Addr) (as : List Addr) (rows : List (List Str)) (gap least : Int), vs = [.ref a, .ref st] ∧ Tabs cs H ∧ PageAt K H a as rows ∧ PgOk rows ∧ StyleAt K H st gap least ∧
  ∀ (r : Addr) (ls : List Addr) (H' : Hp), Ex cs H H' → H r = none → (∀ l ∈ ls, H l = none) → H' r = some (.lst (ls.map V.ref)) → ls.length = rows.length → (∀ (i : Nat) (l : Addr), ls[i]? = some l → CellsAt H' rows gap least i (ncl rows i) l) → Q (.ref r) H'
abbrev nmCC : List Str := ["page", "style", "found", "rows", "column", "begin", "end", "width", "right", "holders", "number", "row"]
theorem sc_cc : FnScope nmCC ["page", "style"] (defScope s_closed_cells) := ⟨rfl, rfl, rfl, by decide +kernel, rfl, by decide +kernel, by decide +kernel⟩
theorem ok_cc {f g : Addr} {fd fdg : FuncData} (T : Txt mg) (F : Fun K "closed_cells" "closed_cells" s_closed_cells f fd)
    (G : FnOk P w K mg base CX0 12 g fdg ["page", "style"] (spStr K cs)) (kp : PySem.W.keepIn K (.ref g) = true) (bd : Binds K fdg ["page", "style"] []) (mgg : mg "stretches" = some (.ref g)) : FnOk P w K mg base CX0 13 f fd ["page", "style"] (spCC K cs) := by
  refine F.ok sc_cc (fun vs H Q E h => ?_) (fun cdv A outer s H vs Q E hr h => ?_)
  · obtain ⟨a, st, as, rows, gap, least, rfl, _⟩ := h
    rfl
  · obtain ⟨a, st, as, rows, gap, least, rfl, hT, hP, hO, hS, k⟩ := h
    have nd := sc_cc.nd
    refine ⟨_, pss_cons (ps_set (i := 2) nd rfl (.inl rfl) (pe_call G hr (by rfl) mgg kp bd .nil pass0 (pa_cons (pv 0) (pa_cons (pv 1) pa_nil))))
      (pss_cons (ps_setLc (i := 3) (own := [("row", 11)]) (g := gName 11) rfl nd rfl rfl (sw_true rfl rfl rfl (by decide +kernel)) (pi_list (pv 0)) (blkOk_by (own := [("row", 11)]) (N := nmCC) (sc := defScope s_closed_cells) (by decide +kernel))
        (fun _ _ _ _ _ => pg_name (i := 11) nd rfl (Or.inl rfl)) (fun _ _ _ _ _ => pts_nil) (fun _ _ _ _ _ => pe_lst pa_nil))
      (pss_cons (ps_for PassesOwn.never rfl (pi_list (pv 2)) (pg_tup rfl (pgs_cons (pg_name (i := 4) nd rfl (.inl rfl)) (pgs_cons (pg_name (i := 5) nd rfl (.inl rfl)) (pgs_cons (pg_name (i := 6) nd rfl (.inl rfl)) (pgs_cons (pg_name (i := 7) nd rfl (.inl rfl)) (pgs_cons (pg_name (i := 8) nd rfl (.inl rfl)) (pgs_cons (pg_name (i := 9) nd rfl (.inl rfl)) pgs_nil)))))))
        (pss_one (ps_for PassesOwn.never rfl (pi_range2 (by rfl) T.range (pa_cons (pv 5) (pa_cons (pv 6) pa_nil))) (pg_name (i := 10) nd rfl (.inl rfl))
          (pss_one (ps_expr (pe_bm PySem.F.plainAttrs_list PySem.F.slot_list_append PySem.F.type_list_append mt_append (pe_ix ix_list (pv 3) (pv 10) (fun _ _ => rfl)) (pa_cons (pe_tup (pa_cons (pv 7) (pa_cons (pv 8) pa_nil))) pa_nil)))))))
      (pss_one (ps_ret (pv 3))))), ?_⟩
    have ll := hO.len
    have szl : (1000 : Nat) < sizeLine := by decide
    have las : (as.map V.ref).length = rows.length := by rw [List.length_map, hP.len]
    refine ⟨_, rfl, _, rfl, a, st, as, rows, gap, least, rfl, hT, hP, hO, hS, fun r ts hs H1 x1 nr nts nhs hr1 ds => ?_⟩
    have hT1 := x1.tab
    refine ⟨_, rfl, a, rfl, ⟨_, x1.sqL hP.lst⟩, fun D nD => lc_list (xs := as.map V.ref) (fun i H' => ∃ ls : List Addr, Ex cs H1 H' ∧ H' D = some (.lst (ls.map V.ref)) ∧ ls.length = i ∧ ls.Nodup ∧ ∀ l ∈ ls, H1 l = none ∧ l ≠ D ∧ H' l = some (.lst []))
      ⟨[], Ex.laid hT1 nD, upd_same, rfl, List.nodup_nil, fun l h => by simp at h⟩ (fun i H' _ ⟨ls, x, _⟩ => x.sqL (x1.sqL hP.lst)) ?_ ?_⟩
    · rintro i v H2 hv ⟨ls, x2, hD, hl, hn, hf⟩
      have hil : i < as.length := by
        have := (List.getElem?_eq_some_iff.mp hv).1
        rw [List.length_map] at this
        exact this
      refine ⟨rfl, small0, fun p np => ⟨_, by rw [upd_ne (ne_of_none hD np)]; exact hD, by rw [List.length_map, hl]; have := hP.len; omega, ls ++ [p], ?_, by rw [upd_same, List.map_append]; rfl, by rw [List.length_append, hl]; rfl, ?_, fun l h => ?_⟩⟩
      · exact ex_new hT1 (x2.trans (Ex.laid x2.tab np)) nD
      · refine List.nodup_append.mpr ⟨hn, by simp, fun u hu v hv e => ?_⟩
        rw [List.mem_singleton.mp hv] at e
        have := (hf u hu).2.2
        rw [e, np] at this
        cases this
      · have pD : p ≠ D := fun z => by rw [z, hD] at np; cases np
        rcases List.mem_append.mp h with z | z
        · obtain ⟨h1, h2, h3⟩ := hf l z
          exact ⟨h1, h2, by rw [upd_ne h2, upd_ne (ne_of_none h3 np)]; exact h3⟩
        · rw [List.mem_singleton.mp z]
          exact ⟨x2.old _ np, pD, by rw [upd_ne pD, upd_same]⟩
    · rintro H2 ⟨ls, x2, hD, hl, hn, hf⟩
      rw [las] at hl
      have hnd : ∀ (i j : Nat) (l m : Addr), ls[i]? = some l → ls[j]? = some m → i ≠ j → l ≠ m := fun i j l m h1 h2 h3 e => by
        subst e
        exact h3 (nd_ix hn h1 h2)
      refine ⟨_, rfl, r, rfl, ⟨_, SqL.of (x2.lst hr1)⟩, for_list (xs := ts.map V.ref) (fun j σ H' => ∃ c4 c5 c6 c7 c8 c9 c10 : Option V, σ = [some (.ref a), some (.ref st), some (.ref r), some (.ref D), c4, c5, c6, c7, c8, c9, c10, none] ∧ Ex cs H1 H' ∧ H' D = some (.lst (ls.map V.ref)) ∧ ∀ (i : Nat) (l : Addr), ls[i]? = some l → CellsAt H' rows gap least i (cntB rows j i) l)
        ⟨_, _, _, _, _, _, _, rfl, x2, hD, fun i l h => ⟨[], (hf l (List.mem_of_getElem? h)).2.2, rfl, fun c t h => by simp at h⟩⟩ (fun j σ H' _ ⟨_, _, _, _, _, _, _, _, x, _⟩ => SqL.of (x.lst hr1)) ?_ ?_⟩
      · rintro j v σ H3 hv ⟨c4, c5, c6, c7, c8, c9, c10, rfl, x3, hD3, hC⟩
        obtain ⟨t, ht, rfl⟩ := get_map hv
        have hjt := (List.getElem?_eq_some_iff.mp ht).1
        obtain ⟨q, hq⟩ := getP (xs := entB rows) (i := j) (by rw [← ds.len]; exact hjt)
        obtain ⟨hh, hhh⟩ := getP (xs := hs) (i := j) (by rw [ds.len2, ← ds.len]; exact hjt)
        have dt := x3.tup (ds.at_ j t hh q ht hhh hq).1
        refine ⟨t, _, rfl, .inl (.inl dt), rfl, _, _, rfl, _, _, rfl, _, _, rfl, _, _, rfl, _, _, rfl, _, _, rfl, rfl, ?_⟩
        refine ⟨_, rfl, _, rfl, (q.2.1 : Int), (q.2.2 : Int), rfl, ?_⟩
        obtain ⟨q1, q2⟩ := ent_le hq
        refine ⟨by omega, for_range (lo := (q.2.1 : Int)) (n := ((q.2.2 : Int) - (q.2.1 : Int)).toNat) (fun k σ H' => ∃ c10 : Option V, σ = [some (.ref a), some (.ref st), some (.ref r), some (.ref D), some (.int (q.1 : Nat)), some (.int (q.2.1 : Nat)), some (.int (q.2.2 : Nat)), some (.int (widthB (cellsB rows q.1 q.2.1 q.2.2) gap least)), some (.bl (rightB (cellsB rows q.1 q.2.1 q.2.2))), some (.ref hh), c10, none] ∧ Ex cs H1 H' ∧ H' D = some (.lst (ls.map V.ref)) ∧
          ∀ (i : Nat) (l : Addr), ls[i]? = some l → CellsAt H' rows gap least i (cntB rows j i + if q.2.1 ≤ i ∧ i < q.2.1 + k then 1 else 0) l)
          ⟨_, rfl, x3, hD3, fun i l h => by rw [if_neg (by omega)]; exact hC i l h⟩ ?_ ?_⟩
        · rintro k σ H4 hk ⟨c10, rfl, x4, hD4, hC4⟩
          have hx : q.2.1 + k < q.2.2 := by omega
          obtain ⟨l, hl1⟩ := getP (xs := ls) (i := q.2.1 + k) (by omega)
          obtain ⟨hln, hlD, _⟩ := hf l (List.mem_of_getElem? hl1)
          have hcl := hC4 _ l hl1
          rw [if_neg (by omega), Nat.add_zero] at hcl
          obtain ⟨us, u1, u2, u3⟩ := hcl
          have hcov : covB (q.2.1 + k) q = true := decide_eq_true ⟨by omega, hx⟩
          obtain ⟨v1, v2, v3⟩ := cnt_yes hO hq hcov
          have v4 := ncl_le hO (q.2.1 + k)
          refine ⟨_, rfl, _, rfl, D, _, ((q.2.1 + k : Nat) : Int), .ref l, rfl, rfl, SqL.of hD4, atI_nat (by rw [List.getElem?_map, hl1]; rfl), .inl ⟨rfl, _, SqL.of u1⟩, _, rfl, _, rfl, line10 (by show 2 ≤ 1000; decide), fun t0 nt0 => ⟨l, us.map V.ref, .ref t0, rfl, rfl, by rw [upd_ne (ne_of_none u1 nt0)]; exact u1, by rw [List.length_map, u2]; omega, ?_⟩⟩
          have x5 := Ex.laid (o := .tup [.int (widthB (cellsB rows q.1 q.2.1 q.2.2) gap least), .bl (rightB (cellsB rows q.1 q.2.1 q.2.2))]) x4.tab nt0
          have lt0 : l ≠ t0 := ne_of_none u1 nt0
          have u1' := x5.lst u1
          refine ⟨_, rfl, ex_new hT1 (x4.trans x5) hln, by rw [upd_ne hlD.symm]; exact x5.lst hD4, fun i m h => ?_⟩
          by_cases e : i = q.2.1 + k
          · subst e
            rw [hl1] at h
            cases h
            rw [if_pos (by omega)]
            refine ⟨us ++ [t0], by rw [upd_same, List.map_append]; rfl, by rw [List.length_append, u2]; rfl, fun c t h => ?_⟩
            by_cases hc : c < us.length
            · rw [List.getElem?_append_left hc] at h
              have := x5.tup (u3 c t h)
              rw [upd_ne (ne_of this u1' (by intro z; cases z))]
              exact this
            · have hl := (List.getElem?_eq_some_iff.mp h).1
              rw [List.length_append, List.length_singleton] at hl
              have ec : c = us.length := by omega
              subst ec
              rw [List.getElem?_append_right (Nat.le_refl _), Nat.sub_self] at h
              cases h
              rw [upd_ne lt0.symm, upd_same, u2]
              have e1 : q.1 = cntB rows j (q.2.1 + k) := congrArg (fun z : Nat × Nat × Nat => z.1) v2
              have e2 : q.2.1 = loB rows (cntB rows j (q.2.1 + k)) (q.2.1 + k) := congrArg (fun z : Nat × Nat × Nat => z.2.1) v2
              have e3 : q.2.2 = hiB rows (cntB rows j (q.2.1 + k)) (q.2.1 + k) := congrArg (fun z : Nat × Nat × Nat => z.2.2) v2
              unfold wB rB
              rw [← e2, ← e3, ← e1]
          · have hne := hnd _ _ _ _ h hl1 e
            have hm := (hC4 i m h).ext x5.ext
            have ee : (if q.2.1 ≤ i ∧ i < q.2.1 + (k + 1) then 1 else 0) = (if q.2.1 ≤ i ∧ i < q.2.1 + k then 1 else 0) := by
              by_cases z : q.2.1 ≤ i ∧ i < q.2.1 + k
              · rw [if_pos z, if_pos (by omega)]
              · rw [if_neg z, if_neg (by omega)]
            rw [ee]
            exact hm.upd u1' hne
        · rintro σ H4 ⟨c10, rfl, x4, hD4, hC4⟩
          refine ⟨_, _, _, _, _, _, _, rfl, x4, hD4, fun i l h => ?_⟩
          have := hC4 i l h
          by_cases z : q.2.1 ≤ i ∧ i < q.2.2
          · rw [if_pos (by omega)] at this
            rw [(cnt_yes hO hq (decide_eq_true z)).1]
            exact this
          · rw [if_neg (by omega)] at this
            rw [cnt_no hq (decide_eq_false z)]
            exact this
      · rintro σ H3 ⟨c4, c5, c6, c7, c8, c9, c10, rfl, x3, hD3, hC⟩
        refine ⟨_, rfl, k D ls H3 (x1.trans x3) (x1.old _ nD) (fun l h => x1.old _ (hf l h).1) hD3 hl fun i l h => ?_⟩
        have := hC i l h
        rw [List.length_map, ds.len, cnt_all hO] at this
        exact this
end
end TG

namespace TG
open PySem L2 Gx
theorem at_last {α : Type} {xs : List α} {x : α} : atI (xs ++ [x]) (-1) = some x := by
  unfold atI ixN
  rw [if_neg (by omega), List.length_append, List.length_singleton, if_pos (by omega)]
  show (xs ++ [x])[((-1 : Int) + ((xs.length + 1 : Nat) : Int)).toNat]? = some x
  rw [show ((-1 : Int) + ((xs.length + 1 : Nat) : Int)).toNat = xs.length by omega, List.getElem?_append_right (Nat.le_refl _), Nat.sub_self]
  rfl
theorem lefts_last (rows : List (List Str)) (gap least : Int) (i : Nat) : ∀ n, ∃ xs, leftsB rows gap least i n = xs ++ [leftB rows gap least i n]
  | 0 => ⟨[], rfl⟩
  | n + 1 => ⟨leftsB rows gap least i n, lefts_snoc rows gap least i n⟩
theorem lefts_at (rows : List (List Str)) (gap least : Int) (i n : Nat) : atI ((leftsB rows gap least i n).map V.int) (-1) = some (V.int (leftB rows gap least i n)) := by
  obtain ⟨xs, e⟩ := lefts_last rows gap least i n
  rw [e, List.map_append]
  exact at_last
/-- the list at r holds lists of numbers, f tells them -/
structure ToldAt (H : Hp) (r : Addr) (es : List Addr) (f : Nat → List Int) (n : Nat) : Prop where
  lst : H r = some (.lst (es.map V.ref))
  len : es.length = n
  nd : es.Nodup
  at_ : ∀ (i : Nat) (e : Addr), es[i]? = some e → H e = some (.lst ((f i).map V.int))
theorem ToldAt.ext {H H' : Hp} {r : Addr} {es : List Addr} {f : Nat → List Int} {n : Nat} (t : ToldAt H r es f n) (x : LamX.ExtN H H') : ToldAt H' r es f n :=
  ⟨x _ _ t.lst (by intro ps z; cases z), t.len, t.nd, fun i e h => x _ _ (t.at_ i e h) (by intro ps z; cases z)⟩
theorem tabs_ext {cs : List (Addr × Addr)} {H H' : Hp} (t : Tabs cs H) (x : Same H H') : Tabs cs H' := fun p hp => let ⟨ps, h1, h2⟩ := t p hp; ⟨ps, x _ _ h1, h2⟩
theorem same_ext {H H' : Hp} (x : Same H H') : LamX.ExtN H H' := fun b o e _ => x b o e
theorem ex_same {cs : List (Addr × Addr)} {H H' : Hp} (t : Tabs cs H) (x : Same H H') : Ex cs H H' := ⟨same_ext x, tabs_ext t x, fun _ n => same_old x n⟩
theorem ToldAt.add {H H' : Hp} {r : Addr} {es : List Addr} {f : Nat → List Int} {n : Nat} {e : Addr} (t : ToldAt H r es f n) (x : LamX.ExtN H H') (he : H e = none) (h' : H' e = some (.lst ((f n).map V.int))) (hr : r ∉ es) :
    ToldAt (upd H' r (.lst (es.map V.ref ++ [.ref e]))) r (es ++ [e]) f (n + 1) := by
  refine ⟨by rw [upd_same, List.map_append]; rfl, by rw [List.length_append, t.len]; rfl, ?_, fun i u h => ?_⟩
  · refine List.nodup_append.mpr ⟨t.nd, by simp, fun u hu v hv q => ?_⟩
    rw [List.mem_singleton.mp hv] at q
    obtain ⟨i, hi, e1⟩ := List.getElem_of_mem hu
    have := t.at_ i u (by rw [List.getElem?_eq_getElem hi, e1])
    rw [q, he] at this
    cases this
  · have re : e ≠ r := fun z => by rw [z, t.lst] at he; cases he
    by_cases hi : i < es.length
    · rw [List.getElem?_append_left hi] at h
      rw [upd_ne (fun z => hr (by rw [← z]; exact List.mem_of_getElem? h))]
      exact x _ _ (t.at_ i u h) (by intro ps z; cases z)
    · have hl := (List.getElem?_eq_some_iff.mp h).1
      rw [List.length_append, List.length_singleton] at hl
      have e1 : i = es.length := by omega
      subst e1
      rw [List.getElem?_append_right (Nat.le_refl _), Nat.sub_self] at h
      cases h
      rw [upd_ne re, h', t.len]
section
variable {P : Program} {w : World} {K : PySem.W.Frag} {mg : Str → Option Value} {base : Heap} {cs : List (Addr × Addr)}
def spLE : Sp := fun vs H Q _ => ∃ (l : Addr) (rows : List (List Str)) (gap least : Int) (i n : Nat), vs = [.ref l] ∧ CellsAt H rows gap least i n l ∧ n ≤ 5 ∧
  ∀ (p : Addr) (H' : Hp), Same H H' → H p = none → H' p = some (.lst ((leftsB rows gap least i n).map V.int)) → Q (.ref p) H'
abbrev nmLE : List Str := ["closed", "ends", "width", "right"]
theorem sc_le : FnScope nmLE ["closed"] (defScope s_left_ends) := ⟨rfl, rfl, rfl, by decide +kernel, rfl, by decide +kernel, by decide +kernel⟩
theorem ok_le {f : Addr} {fd : FuncData} (F : Fun K "left_ends" "left_ends" s_left_ends f fd) : FnOk P w K mg base CX0 1 f fd ["closed"] spLE := by
  refine F.ok sc_le (fun vs H Q E h => ?_) (fun cdv A outer s H vs Q E hr h => ?_)
  · obtain ⟨l, rows, gap, least, i, n, rfl, _⟩ := h
    rfl
  · obtain ⟨l, rows, gap, least, i, n, rfl, ⟨ts, h1, h2, h3⟩, n5, k⟩ := h
    have nd := sc_le.nd
    refine ⟨_, pss_cons (ps_set (i := 1) nd rfl (.inl rfl) (pe_lst (pa_cons pe_int pa_nil)))
      (pss_cons (ps_for PassesOwn.never rfl (pi_list (pv 0)) (pg_tup rfl (pgs_cons (pg_name (i := 2) nd rfl (.inl rfl)) (pgs_cons (pg_name (i := 3) nd rfl (.inl rfl)) pgs_nil)))
        (pss_one (ps_expr (pe_bm PySem.F.plainAttrs_list PySem.F.slot_list_append PySem.F.type_list_append mt_append (pv 1) (pa_cons (pe_op op_add (pe_ix ix_list (pv 1) (pe_un un_neg pe_int) (fun _ _ => rfl)) (pv 2)) pa_nil)))))
      (pss_one (ps_ret (pv 1)))), ?_⟩
    have szl : (1000 : Nat) < sizeLine := by decide
    refine ⟨line10 (by show 1 ≤ 1000; decide), fun p np => ⟨_, rfl, l, rfl, ⟨_, SqL.of (by rw [upd_ne (ne_of_none h1 np)]; exact h1)⟩, for_list (xs := ts.map V.ref) (fun j σ H' => ∃ c2 c3 : Option V, σ = [some (.ref l), some (.ref p), c2, c3] ∧ Same H H' ∧ H' p = some (.lst ((leftsB rows gap least i j).map V.int)))
      ⟨_, _, rfl, same_new np, upd_same⟩ (fun j σ H' _ ⟨_, _, _, x, _⟩ => SqL.of (x _ _ h1)) ?_ ?_⟩⟩
    · rintro j v σ H1 hv ⟨c2, c3, rfl, x1, hp⟩
      obtain ⟨t, ht, rfl⟩ := get_map hv
      have hj := (List.getElem?_eq_some_iff.mp ht).1
      refine ⟨t, _, rfl, .inl (.inl (x1 _ _ (h3 j t ht))), rfl, _, _, rfl, _, _, rfl, rfl, ?_⟩
      refine ⟨_, rfl, .inl ⟨rfl, _, SqL.of hp⟩, _, rfl, 1, rfl, p, _, -1, _, rfl, rfl, SqL.of hp, lefts_at .., _, rfl, _, _, rfl, rfl, p, _, _, rfl, rfl, hp, by rw [List.length_map, lefts_len]; omega, ⟨_, _, rfl, same_upd x1 np, ?_⟩⟩
      rw [upd_same, lefts_snoc, List.map_append]
      rfl
    · rintro σ H1 ⟨c2, c3, rfl, x1, hp⟩
      rw [List.length_map, h2] at hp
      exact ⟨_, rfl, k p H1 x1 np hp⟩
/-- a list of lists of numbers, a row each -/
def spTold (K : PySem.W.Frag) (cs : List (Addr × Addr)) (f : List (List Str) → Int → Int → Nat → List Int) : Sp := fun vs H Q _ => ∃ (a st : Addr) (as : List Addr) (rows : List (List Str)) (gap least : Int), vs = [.ref a, .ref st] ∧ Tabs cs H ∧ PageAt K H a as rows ∧ PgOk rows ∧ StyleAt K H st gap least ∧
  ∀ (r : Addr) (es : List Addr) (H' : Hp), Ex cs H H' → H r = none → (∀ e ∈ es, H e = none ∧ e ≠ r) → ToldAt H' r es (f rows gap least) rows.length → Q (.ref r) H'
def leftsR (rows : List (List Str)) (gap least : Int) (i : Nat) : List Int := leftsB rows gap least i (ncl rows i)
abbrev nmStops : List Str := ["page", "style", "closed"]
theorem sc_stops : FnScope nmStops ["page", "style"] (defScope s_stops) := ⟨rfl, rfl, rfl, by decide +kernel, rfl, by decide +kernel, by decide +kernel⟩
theorem ok_stops {f g g2 : Addr} {fd fdg fd2 : FuncData} (F : Fun K "stops" "stops" s_stops f fd)
    (G : FnOk P w K mg base CX0 13 g fdg ["page", "style"] (spCC K cs)) (kp : PySem.W.keepIn K (.ref g) = true) (bd : Binds K fdg ["page", "style"] []) (mgg : mg "closed_cells" = some (.ref g))
    (G2 : FnOk P w K mg base CX0 1 g2 fd2 ["closed"] spLE) (kp2 : PySem.W.keepIn K (.ref g2) = true) (bd2 : Binds K fd2 ["closed"] []) (mg2 : mg "left_ends" = some (.ref g2)) : FnOk P w K mg base CX0 14 f fd ["page", "style"] (spTold K cs leftsR) := by
  refine F.ok sc_stops (fun vs H Q E h => ?_) (fun cdv A outer s H vs Q E hr h => ?_)
  · obtain ⟨a, st, as, rows, gap, least, rfl, _⟩ := h
    rfl
  · obtain ⟨a, st, as, rows, gap, least, rfl, hT, hP, hO, hS, k⟩ := h
    have nd := sc_stops.nd
    have hr1 : Room 1 _ := hr.mono (by decide)
    refine ⟨_, pss_one (ps_ret (pe_lc (own := [("closed", 2)]) (g := gName 2) (tt := tYes) rfl nd (pi_list (pe_call G hr (by rfl) mgg kp bd .nil pass0 (pa_cons (pv 0) (pa_cons (pv 1) pa_nil)))) (blkOk_by (own := [("closed", 2)]) (N := nmStops) (sc := defScope s_stops) (by decide +kernel))
        (fun _ _ _ _ _ => pg_name (i := 2) nd rfl (Or.inl rfl)) (fun _ _ _ _ _ => pts_nil) (fun s1 H1 C1 cl1 fp1 => pe_call G2 hr1 (by rfl) mg2 kp2 bd2 .nil pass0 (pa_cons (pv 2) pa_nil)))), ?_⟩
    have ll := hO.len
    have szl : (1000 : Nat) < sizeLine := by decide
    refine ⟨_, rfl, _, rfl, a, st, as, rows, gap, least, rfl, hT, hP, hO, hS, fun r ls H1 x1 nr nls hr1 hll hC => ⟨r, rfl, ⟨_, SqL.of hr1⟩, fun D nD => lc_list (xs := ls.map V.ref) (fun i H' => ∃ es : List Addr, Ex cs H1 H' ∧ ToldAt H' D es (leftsR rows gap least) i ∧ ∀ e ∈ es, H1 e = none ∧ e ≠ D)
      ⟨[], Ex.laid x1.tab nD, ⟨upd_same, rfl, List.nodup_nil, fun i e h => by simp at h⟩, fun e h => by simp at h⟩ (fun i H' _ ⟨es, x, _⟩ => SqL.of (x.lst hr1)) ?_ ?_⟩⟩
    · rintro i v H2 hv ⟨es, x2, t2, f2⟩
      obtain ⟨l, hl, rfl⟩ := get_map hv
      have hi := (List.getElem?_eq_some_iff.mp hl).1
      refine ⟨rfl, _, rfl, l, rows, gap, least, i, ncl rows i, rfl, (hC i l hl).ext x2.ext, ncl_le hO i, fun p H3 x3 np hp => ?_⟩
      have pD : p ≠ D := fun z => by rw [z, t2.lst] at np; cases np
      refine ⟨_, x3 _ _ t2.lst, by rw [List.length_map, t2.len]; omega, es ++ [p], ex_new x1.tab (x2.trans (ex_same x2.tab x3)) nD, t2.add (same_ext x3) np hp (fun z => (f2 D z).2 rfl), fun e h => ?_⟩
      rcases List.mem_append.mp h with z | z
      · exact f2 e z
      · rw [List.mem_singleton.mp z]
        exact ⟨x2.old _ np, pD⟩
    · rintro H2 ⟨es, x2, t2, f2⟩
      rw [List.length_map, hll] at t2
      exact k D es H2 (x1.trans x2) (x1.old _ nD) (fun e h => ⟨x1.old _ (f2 e h).1, (f2 e h).2⟩) t2
end
end TG

namespace TG
open PySem L2 Gx
def lenC (rows : List (List Str)) (i c : Nat) : Int := (((rows.getD i []).getD c nilS).length : Nat)
/-- the begins of row i when the first j closed cells have been looked at -/
def begC (rows : List (List Str)) (gap least : Int) (i j c : Nat) : Int := if c < j ∧ rB rows i c = true then leftB rows gap least i (c + 1) - gap - lenC rows i c else leftB rows gap least i c
def begsTo (rows : List (List Str)) (gap least : Int) (i j : Nat) : List Int := (List.range (ncl rows i + 1)).map (begC rows gap least i j)
def begsR (rows : List (List Str)) (gap least : Int) (i : Nat) : List Int := begsTo rows gap least i (ncl rows i)
theorem begs_zero (rows : List (List Str)) (gap least : Int) (i : Nat) : begsTo rows gap least i 0 = leftsB rows gap least i (ncl rows i) := by
  unfold begsTo leftsB
  refine List.map_congr_left fun c _ => ?_
  unfold begC
  rw [if_neg (by omega)]
theorem begs_len (rows : List (List Str)) (gap least : Int) (i j : Nat) : (begsTo rows gap least i j).length = ncl rows i + 1 := by
  unfold begsTo
  rw [List.length_map, List.length_range]
theorem begs_no {rows : List (List Str)} {gap least : Int} {i j : Nat} (h : rB rows i j = false) : begsTo rows gap least i (j + 1) = begsTo rows gap least i j := by
  unfold begsTo
  refine List.map_congr_left fun c _ => ?_
  unfold begC
  by_cases e : c = j
  · subst e
    rw [if_neg (fun z => by rw [h] at z; cases z.2), if_neg (by omega)]
  · by_cases q : c < j ∧ rB rows i c = true
    · rw [if_pos q, if_pos ⟨by omega, q.2⟩]
    · rw [if_neg q, if_neg (fun z => q ⟨by omega, z.2⟩)]
theorem begs_yes {rows : List (List Str)} {gap least : Int} {i j : Nat} (hj : j < ncl rows i) (h : rB rows i j = true) : (begsTo rows gap least i j).set j (leftB rows gap least i (j + 1) - gap - lenC rows i j) = begsTo rows gap least i (j + 1) := by
  apply List.ext_getElem?
  intro c
  rw [List.getElem?_set]
  have e1 : ∀ j, (begsTo rows gap least i j)[c]? = if c < ncl rows i + 1 then some (begC rows gap least i j c) else none := fun j => by
    unfold begsTo
    rw [List.getElem?_map]
    by_cases q : c < ncl rows i + 1
    · rw [List.getElem?_range q, if_pos q]; rfl
    · rw [List.getElem?_eq_none (by rw [List.length_range]; omega), if_neg q]; rfl
  by_cases e : j = c
  · subst e
    rw [if_pos rfl, if_pos (by rw [begs_len]; omega), e1, if_pos (by omega)]
    unfold begC
    rw [if_pos ⟨Nat.lt_succ_self _, h⟩]
  · rw [if_neg e, e1, e1]
    have : begC rows gap least i (j + 1) c = begC rows gap least i j c := by
      unfold begC
      by_cases q : c < j ∧ rB rows i c = true
      · rw [if_pos q, if_pos ⟨by omega, q.2⟩]
      · rw [if_neg q, if_neg (fun z => q ⟨by omega, z.2⟩)]
    rw [this]
theorem set_map {α β : Type} {f : α → β} {xs : List α} {i : Nat} {x : α} : (xs.map f).set i (f x) = (xs.set i x).map f := by
  rw [List.map_set]
section
variable {P : Program} {w : World} {K : PySem.W.Frag} {mg : Str → Option Value} {base : Heap} {cs : List (Addr × Addr)}
def spBO (K : PySem.W.Frag) : Sp := fun vs H Q _ => ∃ (a l : Addr) (rows : List (List Str)) (gap least : Int) (i : Nat) (r : List Str), vs = [.ref a, .ref l, .int gap] ∧ rows[i]? = some r ∧ PgOk rows ∧ SqT K H a (sV r) ∧ CellsAt H rows gap least i (ncl rows i) l ∧
  ∀ (p : Addr) (H' : Hp), Same H H' → H p = none → H' p = some (.lst ((begsR rows gap least i).map V.int)) → Q (.ref p) H'
abbrev nmBO : List Str := ["row", "closed", "gap", "ends", "begins", "number", "width", "right"]
theorem sc_bo : FnScope nmBO ["row", "closed", "gap"] (defScope s_begins_of) := ⟨rfl, rfl, rfl, by decide +kernel, rfl, by decide +kernel, by decide +kernel⟩
theorem ok_bo {f g : Addr} {fd fdg : FuncData} (T : Txt mg) (F : Fun K "begins_of" "begins_of" s_begins_of f fd)
    (G : FnOk P w K mg base CX0 1 g fdg ["closed"] spLE) (kp : PySem.W.keepIn K (.ref g) = true) (bd : Binds K fdg ["closed"] []) (mgg : mg "left_ends" = some (.ref g)) : FnOk P w K mg base CX0 2 f fd ["row", "closed", "gap"] (spBO K) := by
  refine F.ok sc_bo (fun vs H Q E h => ?_) (fun cdv A outer s H vs Q E hr h => ?_)
  · obtain ⟨a, l, rows, gap, least, i, r, rfl, _⟩ := h
    rfl
  · obtain ⟨a, l, rows, gap, least, i, r, rfl, hr2, hO, hA, hC, k⟩ := h
    have nd := sc_bo.nd
    refine ⟨_, pss_cons (ps_set (i := 3) nd rfl (.inl rfl) (pe_call G hr (by rfl) mgg kp bd .nil pass0 (pa_cons (pv 1) pa_nil)))
      (pss_cons (ps_set (i := 4) nd rfl (.inl rfl) (pe_callTy call_list_of (by rfl) T.list (by decide +kernel) (pa_cons (pv 3) pa_nil)))
      (pss_cons (ps_for PassesOwn.never rfl (pi_enum (by rfl) T.enum (pa_cons (pv 1) pa_nil)) (pg_tup rfl (pgs_cons (pg_name (i := 5) nd rfl (.inl rfl)) (pgs_cons (pg_tup rfl (pgs_cons (pg_name (i := 6) nd rfl (.inl rfl)) (pgs_cons (pg_name (i := 7) nd rfl (.inl rfl)) pgs_nil))) pgs_nil)))
        (pss_one (ps_if (pt_val (pv 7)) (pss_one (ps_asg (pe_op op_sub (pe_op op_sub (pe_ix ix_list (pv 3) (pe_op op_add (pv 5) pe_int) (fun _ _ => rfl)) (pv 2)) (pe_callB call_len_str (by rfl) T.len PySem.boot_len (pa_cons (pe_ix ix_tup (pv 0) (pv 5) (fun _ _ => rfl)) pa_nil))) (pg_sub (pv 4) (pv 5) set_list))) pss_nil)))
      (pss_one (ps_ret (pv 4))))), ?_⟩
    have szl : (1000 : Nat) < sizeLine := by decide
    have n5 := ncl_le hO i
    have hrO := hO.rows r (List.mem_of_getElem? hr2)
    have hnc : ncl rows i = r.length - 1 := by unfold ncl; rw [hr2]
    refine ⟨_, rfl, l, rows, gap, least, i, ncl rows i, rfl, hC, n5, fun e H1 x1 ne he => ⟨_, rfl, e, _, rfl, .inl (SqL.of he), fun b nb => ?_⟩⟩
    obtain ⟨ts, h1, h2, h3⟩ := hC
    have x2 : Same H (upd H1 b (.lst ((leftsB rows gap least i (ncl rows i)).map V.int))) := same_trans x1 (same_new nb)
    have eb : e ≠ b := ne_of_none he nb
    have nb0 := same_old x1 nb
    refine ⟨_, rfl, l, _, rfl, SqL.of (x2 _ _ h1), for_it (walk_enum (xs := ts.map V.ref)) (fun j σ H' => ∃ c5 c6 c7 : Option V, σ = [some (.ref a), some (.ref l), some (.int gap), some (.ref e), some (.ref b), c5, c6, c7] ∧ Same H H' ∧ H' e = some (.lst ((leftsB rows gap least i (ncl rows i)).map V.int)) ∧ H' b = some (.lst ((begsTo rows gap least i j).map V.int)))
      ⟨_, _, _, rfl, x2, by rw [upd_ne eb]; exact he, by rw [upd_same, begs_zero]⟩ (fun j σ H' _ ⟨_, _, _, _, x, _⟩ => SqL.of (x _ _ h1)) ?_ ?_⟩
    · rintro j x σ H3 H4 hi ⟨c5, c6, c7, rfl, x3, he3, hb3⟩ ⟨Tp, v, u, rfl, hn, rfl, hv, hu⟩
      cases hv
      obtain ⟨t, ht, rfl⟩ := get_map hu
      have hj := (List.getElem?_eq_some_iff.mp ht).1
      have x4 : Same H3 (upd H3 Tp (.tup [.int (j : Nat), .ref t])) := same_new hn
      generalize hH4 : upd H3 Tp (.tup [.int (j : Nat), .ref t]) = H4 at x4 ⊢
      have hTp : H4 Tp = some (.tup [.int (j : Nat), .ref t]) := by rw [← hH4, upd_same]
      have x34 := same_trans x3 x4
      have he4 := x4 _ _ he3
      have hb4 := x4 _ _ hb3
      refine ⟨Tp, _, rfl, .inl (.inl hTp), rfl, _, _, rfl, _, _, rfl, t, _, rfl, .inl (.inl (x34 _ _ (h3 j t ht))), rfl, _, _, rfl, _, _, rfl, rfl, rfl, ?_⟩
      refine ⟨_, rfl, rB rows i j, rfl, ?_⟩
      cases hrb : rB rows i j with
      | false => exact iteF ⟨_, _, _, rfl, x34, he4, by rw [begs_no hrb]; exact hb4⟩
      | true =>
        have hjr : j < r.length := by omega
        have ec : lenC rows i j = (((r[j]'hjr).length : Nat) : Int) := by
          unfold lenC
          rw [show rows.getD i [] = r by rw [List.getD_eq_getElem?_getD, hr2]; rfl, List.getD_eq_getElem?_getD, List.getElem?_eq_getElem hjr]
          rfl
        have zl := (hrO.cells _ (List.getElem_mem hjr)).len
        refine iteT ⟨_, rfl, _, rfl, j, 1, rfl, rfl, e, _, ((j + 1 : Nat) : Int), _, rfl, rfl, SqL.of he4, atI_nat (by rw [List.getElem?_map, lefts_get (by omega)]; rfl), _, rfl, _, _, rfl, rfl, _, rfl, _, rfl, a, _, j, _, rfl, rfl, same_sqT x34 hA, atI_nat (by rw [List.getElem?_map, List.getElem?_eq_getElem hjr]; rfl), _, rfl, line10 (by omega), _, _, rfl, rfl, _, rfl, _, rfl, b, _, j, j, rfl, rfl, hb4, ?_, ⟨_, _, _, rfl, same_upd x34 nb0, by rw [upd_ne eb]; exact he4, ?_⟩⟩
        · rw [List.length_map, begs_len]
          unfold ixN
          rw [if_pos (by omega), if_pos (by omega)]
          rfl
        · rw [upd_same, set_map, ← ec, begs_yes (by omega) hrb]
    · rintro σ H3 ⟨c5, c6, c7, rfl, x3, he3, hb3⟩
      rw [List.length_map, h2] at hb3
      exact ⟨_, rfl, k b H3 x3 nb0 hb3⟩
end
end TG

namespace TG
open PySem L2 Gx
section
variable {P : Program} {w : World} {K : PySem.W.Frag} {mg : Str → Option Value} {base : Heap} {cs : List (Addr × Addr)}
abbrev nmLaid : List Str := ["page", "style", "rows", "gap", "row", "closed"]
theorem sc_laid : FnScope nmLaid ["page", "style"] (defScope s_laid) := ⟨rfl, rfl, rfl, by decide +kernel, rfl, by decide +kernel, by decide +kernel⟩
theorem ok_laid {f g g2 : Addr} {fd fdg fd2 : FuncData} (hz : mg "zip" = none) (F : Fun K "laid" "laid" s_laid f fd)
    (G : FnOk P w K mg base CX0 13 g fdg ["page", "style"] (spCC K cs)) (kp : PySem.W.keepIn K (.ref g) = true) (bd : Binds K fdg ["page", "style"] []) (mgg : mg "closed_cells" = some (.ref g))
    (G2 : FnOk P w K mg base CX0 2 g2 fd2 ["row", "closed", "gap"] (spBO K)) (kp2 : PySem.W.keepIn K (.ref g2) = true) (bd2 : Binds K fd2 ["row", "closed", "gap"] []) (mg2 : mg "begins_of" = some (.ref g2)) : FnOk P w K mg base CX0 14 f fd ["page", "style"] (spTold K cs begsR) := by
  refine F.ok sc_laid (fun vs H Q E h => ?_) (fun cdv A outer s H vs Q E hr h => ?_)
  · obtain ⟨a, st, as, rows, gap, least, rfl, _⟩ := h
    rfl
  · obtain ⟨a, st, as, rows, gap, least, rfl, hT, hP, hO, hS, k⟩ := h
    have nd := sc_laid.nd
    have hr2 : Room 2 _ := hr.mono (by decide)
    refine ⟨_, pss_cons (ps_set (i := 2) nd rfl (.inl rfl) (pe_call G hr (by rfl) mgg kp bd .nil pass0 (pa_cons (pv 0) (pa_cons (pv 1) pa_nil))))
      (pss_cons (ps_set (i := 3) nd rfl (.inr rfl) (pe_ix ix_tup (pv 1) pe_int (fun _ _ => rfl)))
      (pss_one (ps_ret (pe_lc (own := [("row", 4), ("closed", 5)]) (g := gTup K 2 (gCons (gName 4) (gCons (gName 5) gNil))) (tt := tYes) rfl nd (pi_zip (by rfl) hz (pa_cons (pv 0) (pa_cons (pv 2) pa_nil))) (blkOk_by (own := [("row", 4), ("closed", 5)]) (N := nmLaid) (sc := defScope s_laid) (by decide +kernel))
        (fun _ _ _ _ _ => pg_tup rfl (pgs_cons (pg_name (i := 4) nd rfl (.inl rfl) (.inr rfl)) (pgs_cons (pg_name (i := 5) nd rfl (.inl rfl) (.inr rfl)) pgs_nil))) (fun _ _ _ _ _ => pts_nil) (fun s1 H1 C1 cl1 fp1 => pe_call G2 hr2 (by rfl) mg2 kp2 bd2 .nil pass0 (pa_cons (pv 4) (pa_cons (pv 5) (pa_cons (pv 3) pa_nil)))))))), ?_⟩
    have ll := hO.len
    have szl : (1000 : Nat) < sizeLine := by decide
    refine ⟨_, rfl, _, rfl, a, st, as, rows, gap, least, rfl, hT, hP, hO, hS, fun r ls H1 x1 nr nls hr1 hll hC => ⟨_, rfl, st, _, 0, .int gap, rfl, rfl, x1.sqT hS.tup, at0, _, rfl, _, rfl, a, r, _, _, rfl, x1.sqL hP.lst, SqL.of hr1, fun D nD => lc_it (walk_zip (xs := as.map V.ref) (ys := ls.map V.ref) (n := rows.length) (by rw [List.length_map, List.length_map, hP.len, hll, Nat.min_self])) (fun i H' => ∃ es : List Addr, Ex cs H1 H' ∧ ToldAt H' D es (begsR rows gap least) i ∧ ∀ e ∈ es, H1 e = none ∧ e ≠ D)
      ⟨[], Ex.laid x1.tab nD, ⟨upd_same, rfl, List.nodup_nil, fun i e h => by simp at h⟩, fun e h => by simp at h⟩ (fun i H' _ ⟨es, x, _⟩ => ⟨x.sqL (x1.sqL hP.lst), SqL.of (x.lst hr1)⟩) ?_ ?_⟩⟩
    · rintro i v H2 H3 hi ⟨es, x2, t2, f2⟩ ⟨Tp, v1, u, rfl, hn, rfl, hv, hu⟩
      obtain ⟨p, hp, rfl⟩ := get_map hv
      obtain ⟨l, hl, rfl⟩ := get_map hu
      obtain ⟨z, hz2⟩ := getP (xs := rows) (i := i) hi
      have x3 := Ex.laid (o := .tup [.ref p, .ref l]) x2.tab hn
      generalize hH : upd H2 Tp (.tup [.ref p, .ref l]) = H3 at x3 ⊢
      have hTp : H3 Tp = some (.tup [.ref p, .ref l]) := by rw [← hH, upd_same]
      have x23 := x2.trans x3
      refine ⟨Tp, _, rfl, .inl (.inl hTp), rfl, _, _, rfl, _, _, rfl, rfl, rfl, _, rfl, _, rfl, _, rfl, p, l, rows, gap, least, i, z, rfl, hz2, hO, (x1.trans x23).sqT (hP.row i p z hp hz2), (hC i l hl).ext x23.ext, fun q H4 x4 nq hq => ?_⟩
      have t3 := t2.ext x3.ext
      have qD : q ≠ D := fun z => by rw [z, x4 _ _ t3.lst] at hq; have := x4 _ _ t3.lst; rw [← z] at this; rw [z, t3.lst] at nq; cases nq
      refine ⟨_, x4 _ _ t3.lst, by rw [List.length_map, t3.len]; omega, es ++ [q], ex_new x1.tab (x23.trans (ex_same x3.tab x4)) nD, t3.add (same_ext x4) nq hq (fun z => (f2 D z).2 rfl), fun e h => ?_⟩
      rcases List.mem_append.mp h with z | z
      · exact f2 e z
      · rw [List.mem_singleton.mp z]
        exact ⟨x23.old _ nq, qD⟩
    · rintro H2 ⟨es, x2, t2, f2⟩
      exact k D es H2 (x1.trans x2) (x1.old _ nD) (fun e h => ⟨x1.old _ (f2 e h).1, (f2 e h).2⟩) t2
end
end TG

namespace TG
open PySem L2 Gx
theorem ToldAt.go {H H' : Hp} {r : Addr} {es : List Addr} {f : Nat → List Int} {n : Nat} (t : ToldAt H r es f n) (x : Same H H') : ToldAt H' r es f n := t.ext (same_ext x)
theorem StyleAt.same {H H' : Hp} {a : Addr} {gap least : Int} (p : StyleAt K H a gap least) (e : Same H H') : StyleAt K H' a gap least := ⟨same_sqT e p.tup, p.g0, p.g1, p.l0, p.l1⟩
end TG

namespace TG
open PySem L2 Gx
/-! ### data of what is told -/
def rowsD (rows : List (List Str)) : List PyData := rows.map fun r => .tuple (r.map .str)
theorem dpAll_of {K : PySem.W.Frag} {H : Hp} : ∀ {vs : List V} {ds : List PyData}, vs.length = ds.length → (∀ (i : Nat) (v : V) (d : PyData), vs[i]? = some v → ds[i]? = some d → Dp K H v d) → DpAll K H vs ds
  | [], [], _, _ => .nil
  | [], _ :: _, h, _ => by simp at h
  | _ :: _, [], h, _ => by simp at h
  | v :: vs, d :: ds, h, k => .cons (k 0 v d rfl rfl) (dpAll_of (by simpa using h) fun i v' d' h1 h2 => k (i + 1) v' d' (by simpa using h1) (by simpa using h2))
theorem dokAll_of : ∀ {ds : List PyData}, (∀ d ∈ ds, dok d = true) → dokAll ds = true
  | [], _ => rfl
  | d :: ds, h => by
    simp only [dokAll, Bool.and_eq_true]
    exact ⟨h d List.mem_cons_self, dokAll_of fun e he => h e (List.mem_cons_of_mem _ he)⟩
theorem depthAll_of {m : Nat} : ∀ {ds : List PyData}, (∀ d ∈ ds, d.depth ≤ m) → PyData.depthAll ds ≤ m
  | [], _ => Nat.zero_le _
  | d :: ds, h => by
    simp only [PyData.depthAll]
    have h1 := h d List.mem_cons_self
    have h2 := depthAll_of (m := m) fun e he => h e (List.mem_cons_of_mem _ he)
    omega
theorem dp_rows {K : PySem.W.Frag} {H : Hp} : ∀ {as : List Addr} {rows : List (List Str)}, as.length = rows.length → (∀ (i : Nat) (q : Addr) (r : List Str), as[i]? = some q → rows[i]? = some r → SqT K H q (sV r)) → DpAll K H (as.map V.ref) (rowsD rows)
  | [], [], _, _ => .nil
  | [], _ :: _, h, _ => by simp at h
  | _ :: _, [], h, _ => by simp at h
  | a :: as, r :: rows, h, k => .cons (.tup (k 0 a r rfl rfl) (dp_strs r)) (dp_rows (by simpa using h) fun i q r' h1 h2 => k (i + 1) q r' (by simpa using h1) (by simpa using h2))
theorem canAll_rows : ∀ {rows : List (List Str)}, (∀ r ∈ rows, ∀ z ∈ r, CellOk z) → PyData.canLayAll0 (rowsD rows) = true
  | [], _ => rfl
  | r :: rows, h => by
    show PyData.canLayAll0 (.tuple (r.map .str) :: rowsD rows) = true
    simp only [PyData.canLayAll0, PyData.canLay0, Bool.and_eq_true]
    exact ⟨canAll_strs fun z hz => (h r List.mem_cons_self z hz).sg, canAll_rows fun r' hr => h r' (List.mem_cons_of_mem _ hr)⟩
theorem depthAll_rows : ∀ rows : List (List Str), PyData.depthAll (rowsD rows) ≤ 1
  | [] => Nat.zero_le _
  | r :: rows => by
    show PyData.depthAll (.tuple (r.map .str) :: rowsD rows) ≤ 1
    simp only [PyData.depthAll, PyData.depth, depthAll_strs]
    have := depthAll_rows rows
    omega
theorem can_rows {rows : List (List Str)} (h : PgOk rows) : PyData.canLay0 (.list (rowsD rows)) = true := by
  simp only [PyData.canLay0]
  exact canAll_rows fun r hr z hz => (h.rows r hr).cells z hz
theorem shaped_rows {rows : List (List Str)} (h : PgOk rows) : SeqAt.shaped (.list (rowsD rows)) = true := by
  have := depthAll_rows rows
  unfold SeqAt.shaped
  rw [can_rows h, Bool.true_and]
  exact decide_eq_true (by simp only [PyData.depth]; omega)
theorem dok_ints : ∀ ns : List Int, dokAll (ns.map PyData.int) = true
  | [] => rfl
  | _ :: r => by simp [dokAll, dok, dok_ints r]
theorem tabs_kb {cs : List (Addr × Addr)} {b l : Addr} {H H' : Hp} (t : Tabs cs H) (B : BoxAt H b l) (x : KB b l H H') : Tabs cs H' := fun p hp => by
  obtain ⟨ps, h1, h2⟩ := t p hp
  obtain ⟨ns, st, e1, e2, _⟩ := B
  exact ⟨ps, x _ _ h1 (ne_of h1 e1 (by intro z; cases z)) (ne_of h1 e2 (by intro z; cases z)), h2⟩
theorem box_same {b l : Addr} {H H' : Hp} (B : BoxAt H b l) (x : Same H H') : BoxAt H' b l := let ⟨ns, st, h1, h2, h3⟩ := B; ⟨ns, st, x _ _ h1, x _ _ h2, h3⟩
theorem box_ext {b l : Addr} {H H' : Hp} (B : BoxAt H b l) (x : LamX.ExtN H H') : BoxAt H' b l := let ⟨ns, st, h1, h2, h3⟩ := B; ⟨ns, st, x _ _ h1 (by intro ps z; cases z), x _ _ h2 (by intro ps z; cases z), h3⟩
/-- what stands in a turn of the law: the box, the tables, the page and its copy, the style -/
structure PageT (cs : List (Addr × Addr)) (b l p q h : Addr) (as : List Addr) (rows : List (List Str)) (gap least : Int) (H : Hp) : Prop where
  box : BoxAt H b l
  tab : Tabs cs H
  pg : H p = some (.lst (as.map V.ref))
  hd : H h = some (.lst (as.map V.ref))
  al : as.length = rows.length
  row : ∀ (i : Nat) (a : Addr) (z : List Str), as[i]? = some a → rows[i]? = some z → H a = some (.tup (sV z))
  sty : H q = some (.tup [.int gap, .int least])
  g0 : 0 ≤ gap
  g1 : gap ≤ 4
  l0 : 0 ≤ least
  l1 : least ≤ 12
  ok : PgOk rows
theorem PageT.ext {cs : List (Addr × Addr)} {b l p q h : Addr} {as : List Addr} {rows : List (List Str)} {gap least : Int} {H H' : Hp} (t : PageT cs b l p q h as rows gap least H) (x : LamX.ExtN H H') (y : Tabs cs H') : PageT cs b l p q h as rows gap least H' :=
  ⟨box_ext t.box x, y, x _ _ t.pg (by intro ps z; cases z), x _ _ t.hd (by intro ps z; cases z), t.al, fun i a z h1 h2 => x _ _ (t.row i a z h1 h2) (by intro ps z; cases z), x _ _ t.sty (by intro ps z; cases z), t.g0, t.g1, t.l0, t.l1, t.ok⟩
theorem PageT.pageAt {K : PySem.W.Frag} {cs : List (Addr × Addr)} {b l p q h : Addr} {as : List Addr} {rows : List (List Str)} {gap least : Int} {H : Hp} (t : PageT cs b l p q h as rows gap least H) : PageAt K H p as rows := ⟨SqL.of t.pg, t.al, fun i q r h1 h2 => .inl (.inl (t.row i q r h1 h2))⟩
theorem PageT.handAt {K : PySem.W.Frag} {cs : List (Addr × Addr)} {b l p q h : Addr} {as : List Addr} {rows : List (List Str)} {gap least : Int} {H : Hp} (t : PageT cs b l p q h as rows gap least H) : PageAt K H h as rows := ⟨SqL.of t.hd, t.al, fun i q r h1 h2 => .inl (.inl (t.row i q r h1 h2))⟩
theorem PageT.styAt {K : PySem.W.Frag} {cs : List (Addr × Addr)} {b l p q h : Addr} {as : List Addr} {rows : List (List Str)} {gap least : Int} {H : Hp} (t : PageT cs b l p q h as rows gap least H) : StyleAt K H q gap least := ⟨.inl (.inl t.sty), t.g0, t.g1, t.l0, t.l1⟩
theorem PageT.dpg {K : PySem.W.Frag} {cs : List (Addr × Addr)} {b l p q h : Addr} {as : List Addr} {rows : List (List Str)} {gap least : Int} {H : Hp} (t : PageT cs b l p q h as rows gap least H) : Dp K H (.ref p) (.list (rowsD rows)) := .lst (SqL.of t.pg) (dp_rows t.al fun i q r h1 h2 => .inl (.inl (t.row i q r h1 h2)))
theorem PageT.dhd {K : PySem.W.Frag} {cs : List (Addr × Addr)} {b l p q h : Addr} {as : List Addr} {rows : List (List Str)} {gap least : Int} {H : Hp} (t : PageT cs b l p q h as rows gap least H) : Dp K H (.ref h) (.list (rowsD rows)) := .lst (SqL.of t.hd) (dp_rows t.al fun i q r h1 h2 => .inl (.inl (t.row i q r h1 h2)))
theorem tabs_new {cs : List (Addr × Addr)} {H H' : Hp} {a : Addr} {o : HO} (t : Tabs cs H) (t' : Tabs cs H') (n : H a = none) : Tabs cs (upd H' a o) := fun p hp => by
  obtain ⟨ps, e1, _⟩ := t p hp
  obtain ⟨ps', e2, e3⟩ := t' p hp
  exact ⟨ps', by rw [upd_ne (ne_of_none e1 n)]; exact e2, e3⟩
theorem extN_new {H H' : Hp} {a : Addr} {o : HO} (x : LamX.ExtN H H') (n : H a = none) : LamX.ExtN H (upd H' a o) := fun c u e m => by rw [upd_ne (ne_of_none e n)]; exact x c u e m
/-! ### lists of lists of numbers as data -/
def toldD (f : Nat → List Int) (n : Nat) : PyData := .list ((List.range n).map fun i => .list ((f i).map .int))
theorem dp_told {K : PySem.W.Frag} {H : Hp} {r : Addr} {es : List Addr} {f : Nat → List Int} {n : Nat} (t : ToldAt H r es f n) : Dp K H (.ref r) (toldD f n) := by
  refine .lst (SqL.of t.lst) (dpAll_of (by rw [List.length_map, List.length_map, List.length_range, t.len]) fun i v d h1 h2 => ?_)
  obtain ⟨e, he, rfl⟩ := get_map h1
  obtain ⟨k, hk, rfl⟩ := get_map h2
  have hi : i < n := by
    have := (List.getElem?_eq_some_iff.mp hk).1
    rwa [List.length_range] at this
  rw [List.getElem?_range hi] at hk
  cases hk
  exact .lst (SqL.of (t.at_ i e he)) (dp_ints _)
theorem dok_told {f : Nat → List Int} {n : Nat} (hn : n ≤ 1000) (hf : ∀ i, (f i).length ≤ 1000) : dok (toldD f n) = true := by
  unfold toldD
  simp only [dok, Bool.and_eq_true]
  refine ⟨decide_eq_true (by rw [List.length_map, List.length_range]; exact hn), dokAll_of fun d hd => ?_⟩
  obtain ⟨i, _, rfl⟩ := List.mem_map.mp hd
  simp only [dok, Bool.and_eq_true]
  exact ⟨decide_eq_true (by rw [List.length_map]; exact hf i), dok_ints _⟩
theorem depth_told (f : Nat → List Int) (n : Nat) : (toldD f n).depth ≤ 2 := by
  unfold toldD
  simp only [PyData.depth]
  refine Nat.succ_le_succ (depthAll_of fun d hd => ?_)
  obtain ⟨i, _, rfl⟩ := List.mem_map.mp hd
  simp only [PyData.depth, depthAll_ints]
  omega
theorem leftsR_len {rows : List (List Str)} (hO : PgOk rows) (gap least : Int) (i : Nat) : (leftsR rows gap least i).length ≤ 1000 := by
  have := ncl_le hO i
  unfold leftsR
  rw [lefts_len]
  omega
theorem begsR_len {rows : List (List Str)} (hO : PgOk rows) (gap least : Int) (i : Nat) : (begsR rows gap least i).length ≤ 1000 := by
  have := ncl_le hO i
  unfold begsR
  rw [begs_len]
  omega
end TG

namespace TG
open PySem L2 Gx
/-! ### other widths -/
theorem widthB_ge {zs : List Str} {gap least : Int} : least ≤ widthB zs gap least ∧ ∀ z ∈ zs, ((z.length : Nat) : Int) + gap ≤ widthB zs gap least := by
  unfold widthB
  refine ⟨by split <;> omega, fun z hz => ?_⟩
  have := long_ge hz
  split <;> omega
theorem PageT.kb {cs : List (Addr × Addr)} {b l p q h : Addr} {as : List Addr} {rows : List (List Str)} {gap least : Int} {H H' : Hp} (t : PageT cs b l p q h as rows gap least H) (B : BoxAt H' b l) (x : KB b l H H') : PageT cs b l p q h as rows gap least H' := by
  obtain ⟨ns, st, e1, e2, _⟩ := id t.box
  have hn : ∀ a, H a = some (.lst (as.map V.ref)) → a ≠ b ∧ a ≠ l := fun a ha => by
    refine ⟨fun z => ?_, fun z => ?_⟩
    · rw [z, e1] at ha
      injection ha with ha
      injection ha with ha
      match as, ha with
      | [], ha => cases ha
      | [_], ha => cases ha
      | _ :: _ :: _, ha => rw [List.map_cons, List.map_cons] at ha; injection ha with _ ha; injection ha with ha _; cases ha
    · rw [z, e2] at ha
      injection ha with ha
      injection ha with ha
      have := t.al
      have lp := t.ok.pos
      match as, ns, ha, this with
      | [], _, _, this => simp at this; omega
      | _ :: _, [], ha, _ => cases ha
      | _ :: _, _ :: _, ha, _ => rw [List.map_cons, List.map_cons] at ha; injection ha with ha _; cases ha
  have ht : ∀ a vs, H a = some (.tup vs) → a ≠ b ∧ a ≠ l := fun a vs ha => ⟨ne_of ha e1 (by intro z; cases z), ne_of ha e2 (by intro z; cases z)⟩
  exact ⟨B, tabs_kb t.tab t.box x, x _ _ t.pg (hn _ t.pg).1 (hn _ t.pg).2, x _ _ t.hd (hn _ t.hd).1 (hn _ t.hd).2, t.al, fun i a z h1 h2 => x _ _ (t.row i a z h1 h2) (ht _ _ (t.row i a z h1 h2)).1 (ht _ _ (t.row i a z h1 h2)).2, x _ _ t.sty (ht _ _ t.sty).1 (ht _ _ t.sty).2, t.g0, t.g1, t.l0, t.l1, t.ok⟩
theorem ToldAt.keep {H H' : Hp} {r : Addr} {es : List Addr} {f : Nat → List Int} {n : Nat} (t : ToldAt H r es f n) (x : ∀ a o, H a = some o → (a = r ∨ a ∈ es) → H' a = some o) : ToldAt H' r es f n :=
  ⟨x _ _ t.lst (.inl rfl), t.len, t.nd, fun i e h => x _ _ (t.at_ i e h) (.inr (List.mem_of_getElem? h))⟩
theorem ToldAt.congr {H : Hp} {r : Addr} {es : List Addr} {f g : Nat → List Int} {n : Nat} (t : ToldAt H r es f n) (e : ∀ i, i < n → f i = g i) : ToldAt H r es g n :=
  ⟨t.lst, t.len, t.nd, fun i u h => by rw [← e i (by rw [← t.len]; exact (List.getElem?_eq_some_iff.mp h).1)]; exact t.at_ i u h⟩
abbrev keyW (c b : Nat) : List Key := [Sum.inl ((c : Nat) : Int), Sum.inl ((b : Nat) : Int)]
/-- the widths of the dict are wide enough -/
def OthOk (rows : List (List Str)) (gap least : Int) (kvs : List (List Key × V)) : Prop := ∀ (c b : Nat) (v : V), valV kvs (keyW c b) = some v → ∃ n : Int, v = .int n ∧ widthB (cellsB rows c b (hiB rows c b)) gap least ≤ n
theorem keyW_inj {c b c' b' : Nat} (h : keyW c b = keyW c' b') : c = c' ∧ b = b' := by
  injection h with h1 h2
  injection h2 with h2 _
  injection h1 with h1
  injection h2 with h2
  exact ⟨by omega, by omega⟩
theorem OthOk.put {rows : List (List Str)} {gap least n : Int} {kvs : List (List Key × V)} {c b : Nat} (o : OthOk rows gap least kvs) (h : widthB (cellsB rows c b (hiB rows c b)) gap least ≤ n) : OthOk rows gap least (putK kvs (keyW c b) (.int n)) := fun c' b' v e => by
  rw [valV_put] at e
  by_cases q : keyW c' b' = keyW c b
  · obtain ⟨rfl, rfl⟩ := keyW_inj q
    rw [if_pos rfl] at e
    exact ⟨n, (Option.some.inj e).symm, h⟩
  · rw [if_neg q] at e
    exact o c' b' v e
/-- lefts of other widths: none is less -/
def OthRow (rows : List (List Str)) (gap least : Int) (i n : Nat) (L : List Int) : Prop := L.length = n + 1 ∧ ∀ k, k ≤ n → ∃ x, L[k]? = some x ∧ leftB rows gap least i k ≤ x
theorem OthRow.more {rows : List (List Str)} {gap least : Int} {i n : Nat} {L : List Int} {v : Int} (h : OthRow rows gap least i n L) (hv : wB rows gap least i n ≤ v) : ∃ x, atI (L.map V.int) (-1) = some (.int x) ∧ OthRow rows gap least i (n + 1) (L ++ [x + v]) := by
  obtain ⟨h1, h2⟩ := h
  obtain ⟨x, hx, hle⟩ := h2 n (Nat.le_refl _)
  have e : L = L.take n ++ [x] := by
    conv => lhs; rw [← List.take_append_drop n L]
    congr 1
    rw [List.drop_eq_getElem_cons (by omega)]
    rw [List.getElem?_eq_getElem (by omega)] at hx
    rw [Option.some.inj hx, List.drop_of_length_le (by omega)]
  refine ⟨x, ?_, by rw [List.length_append, h1]; rfl, fun k hk => ?_⟩
  · rw [e, List.map_append]
    exact at_last
  · by_cases q : k ≤ n
    · obtain ⟨y, hy, hl⟩ := h2 k q
      exact ⟨y, by rw [List.getElem?_append_left (by omega)]; exact hy, hl⟩
    · have ek : k = n + 1 := by omega
      subst ek
      refine ⟨x + v, by rw [List.getElem?_append_right (by omega), h1, Nat.sub_self]; rfl, ?_⟩
      show leftB rows gap least i n + wB rows gap least i n ≤ x + v
      omega
/-- all but the box and the object at d stays -/
def KD (b l d : Addr) (H H' : Hp) : Prop := ∀ c o, H c = some o → c ≠ b → c ≠ l → c ≠ d → H' c = some o
theorem KD.of_kb {b l d : Addr} {H H' : Hp} (x : KB b l H H') : KD b l d H H' := fun c o e h1 h2 _ => x c o e h1 h2
theorem KD.kb {b l d : Addr} {H H1 H2 : Hp} (x : KD b l d H H1) (y : KB b l H1 H2) : KD b l d H H2 := fun c o e h1 h2 h3 => y c o (x c o e h1 h2 h3) h1 h2
theorem KD.new {b l d p : Addr} {H H1 : Hp} {o : HO} (x : KD b l d H H1) (n : H1 p = none) : KD b l d H (upd H1 p o) := x.kb (kb_new n)
theorem KD.own {b l d : Addr} {H H1 : Hp} {o : HO} (x : KD b l d H H1) : KD b l d H (upd H1 d o) := fun c u e h1 h2 h3 => by rw [upd_ne h3]; exact x c u e h1 h2 h3
theorem KD.upd {b l d p : Addr} {H H1 : Hp} {o : HO} (x : KD b l d H H1) (n : H p = none) : KD b l d H (upd H1 p o) := fun c u e h1 h2 h3 => by rw [upd_ne (ne_of_none e n)]; exact x c u e h1 h2 h3
theorem KD.base {b l d : Addr} {H H1 H2 : Hp} (x : KB b l H H1) (n : H d = none) (y : KD b l d H1 H2) : KB b l H H2 := fun c o e h1 h2 => y c o (x c o e h1 h2) h1 h2 (ne_of_none e n)
theorem KD.same {b l d : Addr} {H H1 H2 : Hp} (x : KD b l d H H1) (y : Same H1 H2) : KD b l d H H2 := fun c o e h1 h2 h3 => y c o (x c o e h1 h2 h3)
section
variable {P : Program} {w : World} {K : PySem.W.Frag} {mg : Str → Option Value} {base : Heap} {cs : List (Addr × Addr)}
def spOthers (K : PySem.W.Frag) (cs : List (Addr × Addr)) : Sp := fun vs H Q _ => ∃ (b l p q h : Addr) (as : List Addr) (rows : List (List Str)) (gap least : Int), vs = [.ref b, .ref p, .ref q] ∧ PageT cs b l p q h as rows gap least H ∧
  ∀ (r : Addr) (es : List Addr) (f : Nat → List Int) (H' : Hp), BoxAt H' b l → KB b l H H' → ToldAt H' r es f rows.length → (∀ i, i < rows.length → OthRow rows gap least i (ncl rows i) (f i)) → Q (.ref r) H'
abbrev nmOthers : List Str := ["_law_box", "_law_page_here", "_law_style_here", "_law_widths", "_law_found", "_law_number", "_law_lefts", "_law_column", "_law_begin", "_law_end", "_law_need", "_law_k"]
theorem sc_others : FnScope nmOthers ["_law_box", "_law_page_here", "_law_style_here"] (defScope s_others) := ⟨rfl, rfl, rfl, by decide +kernel, rfl, by decide +kernel, by decide +kernel⟩
theorem ok_others {f g g2 : Addr} {fd fdg fd2 : FuncData} (T : Txt mg) (F : Fun K "_law_others" "_law_others" s_others f fd)
    (G : FnOk P w K mg base CX0 1 g fdg ["_law_page_here", "_law_number", "_law_column"] (spMates K)) (kp : PySem.W.keepIn K (.ref g) = true) (bd : Binds K fdg ["_law_page_here", "_law_number", "_law_column"] []) (mgg : mg "_law_mates" = some (.ref g))
    (G2 : FnOk P w K mg base CX0 1 g2 fd2 ["_law_box", "_law_many"] spTake) (kp2 : PySem.W.keepIn K (.ref g2) = true) (bd2 : Binds K fd2 ["_law_box", "_law_many"] []) (mg2 : mg "_law_take" = some (.ref g2)) :
    FnOk P w K mg base CX0 2 f fd ["_law_box", "_law_page_here", "_law_style_here"] (spOthers K cs) := by
  refine F.ok sc_others (fun vs H Q E h => ?_) (fun cdv A outer s H vs Q E hr h => ?_)
  · obtain ⟨b, l, p, q, h, as, rows, gap, least, rfl, _⟩ := h
    rfl
  · obtain ⟨b, l, a, st, h, as, rows, gap, least, rfl, hT, k⟩ := h
    have nd := sc_others.nd
    have hu := hu_of hr
    refine ⟨_, pss_cons (ps_par (i := 3) (j := 4) rfl nd rfl rfl (by decide) rfl rfl (pa_cons pe_dnewT (pa_cons (pe_lst pa_nil) pa_nil)) (by rfl))
      (pss_cons (ps_for PassesOwn.never rfl (pi_range1 (by rfl) T.range (pa_cons (pe_callB call_len_seq (by rfl) T.len PySem.boot_len (pa_cons (pv 1) pa_nil)) pa_nil)) (pg_name (i := 5) nd rfl (.inl rfl))
        (pss_cons (ps_set (i := 6) nd rfl (.inl rfl) (pe_lst (pa_cons pe_int pa_nil)))
        (pss_cons (ps_for PassesOwn.never rfl (pi_range1 (by rfl) T.range (pa_cons (pe_op op_sub (pe_callB call_len_seq (by rfl) T.len PySem.boot_len (pa_cons (pe_ix ix_list (pv 1) (pv 5) (fun _ _ => rfl)) pa_nil)) pe_int) pa_nil)) (pg_name (i := 7) nd rfl (.inr rfl))
          (pss_cons (ps_asg (pe_call G hr (by rfl) mgg kp bd .nil pass0 (pa_cons (pv 1) (pa_cons (pv 5) (pa_cons (pv 7) pa_nil)))) (pg_tup rfl (pgs_cons (pg_name (i := 8) nd rfl (.inl rfl)) (pgs_cons (pg_name (i := 9) nd rfl (.inl rfl)) pgs_nil))))
          (pss_cons (ps_if (pt_cmp (pc_dnotin hu (pe_tup (pa_cons (pv 7) (pa_cons (pv 8) pa_nil))) (pv 3)))
            (pss_cons (ps_set (i := 10) nd rfl (.inl rfl) (pe_callB (cr_max rfl) (by rfl) T.max (by decide +kernel) (pa_cons (pe_op op_cat (pe_lst (pa_cons (pe_ix ix_tup (pv 2) pe_int (fun _ _ => rfl)) pa_nil))
              (pe_lc (own := [("_law_k", 11)]) (g := gName 11) (tt := tYes) rfl nd (pi_range2 (by rfl) T.range (pa_cons (pv 8) (pa_cons (pv 9) pa_nil))) (blkOk_by (own := [("_law_k", 11)]) (N := nmOthers) (sc := defScope s_others) (by decide +kernel))
                (fun _ _ _ _ _ => pg_name (i := 11) nd rfl (Or.inl rfl)) (fun _ _ _ _ _ => pts_nil) (fun s1 H1 C1 cl1 fp1 => pe_op op_add (pe_callB call_len_str (by rfl) T.len PySem.boot_len (pa_cons (pe_ix (r := rIxT K) ix_tup (pe_ix (r := rIxL K) ix_list (pv 1) (pv 11) (fun _ _ => rfl)) (pv 7) (fun _ _ => rfl)) pa_nil)) (pe_ix (r := rIxT K) ix_tup (pv 2) pe_int (fun _ _ => rfl))))) pa_nil)))
            (pss_one (ps_dput hu (pv 3) (pe_tup (pa_cons (pv 7) (pa_cons (pv 8) pa_nil))) (pe_op op_add (pv 10) (pe_ix ix_list (pe_lst (pa_cons pe_int (pa_cons pe_int (pa_cons (pe_call G2 hr (by rfl) mg2 kp2 bd2 .nil pass0 (pa_cons (pv 0) (pa_cons pe_int pa_nil))) pa_nil)))) (pe_call G2 hr (by rfl) mg2 kp2 bd2 .nil pass0 (pa_cons (pv 0) (pa_cons pe_int pa_nil))) (fun _ _ => rfl))) rfl))) pss_nil)
          (pss_one (ps_expr (pe_bm PySem.F.plainAttrs_list PySem.F.slot_list_append PySem.F.type_list_append mt_append (pv 6) (pa_cons (pe_op op_add (pe_ix ix_list (pv 6) (pe_un un_neg pe_int) (fun _ _ => rfl)) (pe_dget hu (pv 3) (pe_tup (pa_cons (pv 7) (pa_cons (pv 8) pa_nil))) (fun _ _ => rfl))) pa_nil)))))))
        (pss_one (ps_expr (pe_bm PySem.F.plainAttrs_list PySem.F.slot_list_append PySem.F.type_list_append mt_append (pv 4) (pa_cons (pv 6) pa_nil)))))))
      (pss_one (ps_ret (pv 4)))), ?_⟩
    have szl : (1000 : Nat) < sizeLine := by decide
    have hO := hT.ok
    have ll := hO.len
    have las : (as.map V.ref).length = rows.length := by rw [List.length_map, hT.al]
    intro d nd0
    have nd1 : H d = none := nd0
    refine ⟨small0, fun D0 nD0 => ⟨_, _, rfl, _, rfl, a, as.map V.ref, rfl, .inl (SqL.of ?_), ?_⟩⟩
    · rw [upd_ne (ne_of_none (show upd H d (.dT []) a = some (.lst (as.map V.ref)) by rw [upd_ne (ne_of_none hT.pg nd1)]; exact hT.pg) nD0), upd_ne (ne_of_none hT.pg nd1)]
      exact hT.pg
    rw [las]
    have nD1 : H D0 = none := (upd_none nD0).1
    have dD : d ≠ D0 := (upd_none nD0).2.symm
    have hdb := new_ne hT.box nd1
    have hDb := new_ne hT.box nD1
    refine ⟨_, rfl, by omega, by omega, for_range (n := rows.length) (fun i σ H' => ∃ (kvs : List (List Key × V)) (es : List Addr) (f : Nat → List Int) (c5 c6 c7 c8 c9 c10 : Option V), σ = [some (.ref b), some (.ref a), some (.ref st), some (.ref d), some (.ref D0), c5, c6, c7, c8, c9, c10, none] ∧ BoxAt H' b l ∧ KB b l H H' ∧ H' d = some (.dT kvs) ∧ OthOk rows gap least kvs ∧ kvs.length ≤ 5 * i ∧ ToldAt H' D0 es f i ∧ (∀ e ∈ es, H e = none ∧ e ≠ D0) ∧ ∀ k, k < i → OthRow rows gap least k (ncl rows k) (f k))
      ⟨[], [], fun _ => [], _, _, _, _, _, _, rfl, box_upd (box_new hT.box nd1) hDb.1 hDb.2, kb_upd (kb_new nd1) nD1, by rw [upd_ne dD, upd_same], fun c b v e => (by cases e), Nat.zero_le _, ⟨upd_same, rfl, List.nodup_nil, fun i e h => by simp at h⟩, fun e h => by simp at h, fun k h => absurd h (Nat.not_lt_zero _)⟩ ?_ ?_⟩
    · rintro i σ H1 hi ⟨kvs, es, f, c5, c6, c7, c8, c9, c10, rfl, hB1, x1, hd1, ho1, hk1, t1, f1, g1⟩
      rw [Int.zero_add]
      have P1 := hT.kb hB1 x1
      obtain ⟨q, hq⟩ := getP (xs := as) (i := i) (by rw [hT.al]; exact hi)
      obtain ⟨r, hr2⟩ := getP hi
      have hrO := hO.rows r (List.mem_of_getElem? hr2)
      have hnc : ncl rows i = r.length - 1 := by unfold ncl; rw [hr2]
      have n5 := ncl_le hO i
      have en : (((sV r).length : Nat) : Int) - 1 = (ncl rows i : Int) := by
        have := hrO.pos
        rw [List.length_map, hnc]
        omega
      refine ⟨line10 (by show 1 ≤ 1000; decide), fun p np => ⟨_, rfl, _, rfl, a, _, i, .ref q, rfl, rfl, SqL.of (by rw [upd_ne (ne_of_none P1.pg np)]; exact P1.pg), atI_nat (by rw [List.getElem?_map, hq]; rfl), q, _, rfl, .inr (.inl (.inl (by rw [upd_ne (ne_of_none (P1.row i q r hq hr2) np)]; exact P1.row i q r hq hr2))), _, 1, rfl, rfl, ?_⟩⟩
      have pD : p ≠ D0 := fun z => by rw [z, t1.lst] at np; cases np
      have pd : p ≠ d := fun z => by rw [z, hd1] at np; cases np
      have hpb := new_ne hB1 np
      have np0 : H p = none := by
        cases z : H p with
        | none => rfl
        | some o => have := x1 p o z hpb.1 hpb.2; rw [np] at this; cases this
      refine ⟨(ncl rows i : Int), congrArg (fun z => [V.int z]) en, by omega, by omega, for_range (n := ncl rows i) (fun j σ H' => ∃ (kvs : List (List Key × V)) (L : List Int) (c7 c8 c9 c10 : Option V), σ = [some (.ref b), some (.ref a), some (.ref st), some (.ref d), some (.ref D0), some (.int (i : Nat)), some (.ref p), c7, c8, c9, c10, none] ∧ BoxAt H' b l ∧ KD b l d H1 H' ∧ H' d = some (.dT kvs) ∧ OthOk rows gap least kvs ∧ kvs.length ≤ 5 * i + j ∧ H' p = some (.lst (L.map V.int)) ∧ OthRow rows gap least i j L)
        ⟨kvs, [0], _, _, _, _, rfl, box_new hB1 np, KD.of_kb (kb_new np), by rw [upd_ne pd.symm]; exact hd1, ho1, hk1, upd_same, rfl, fun k hk => ⟨0, by rw [show k = 0 by omega]; rfl, by rw [show k = 0 by omega]; exact Int.le_refl _⟩⟩ ?_ ?_⟩
      · rintro j σ H2 hj ⟨kvs2, L, c7, c8, c9, c10, rfl, hB2, x2, hd2, ho2, hk2, hp2, hL⟩
        rw [Int.zero_add]
        have hcl : clB rows j i = true := by rw [cl_ncl]; exact decide_eq_true hj
        obtain ⟨v1, v2, hhi, hle, hin⟩ := cl_run hcl
        have hw : wB rows gap least i j = widthB (cellsB rows j (loB rows j i) (hiB rows j (loB rows j i))) gap least := by rw [hi_lo]; rfl
        have P2 := hT.kb hB2 (KD.base x1 nd1 x2)
        refine ⟨_, rfl, _, rfl, _, rfl, a, as, rows, i, j, rfl, P2.pageAt, hi, ll, fun pm npm => ⟨pm, _, rfl, .inl (.inl upd_same), rfl, _, _, rfl, _, _, rfl, rfl, ?_⟩⟩
        rw [hhi]
        have hB3 : BoxAt (upd H2 pm (.tup [.int (loB rows j i : Nat), .int (hiB rows j i : Nat)])) b l := box_new hB2 npm
        have x3 : KD b l d H1 (upd H2 pm (.tup [.int (loB rows j i : Nat), .int (hiB rows j i : Nat)])) := x2.new npm
        have hd3 : (upd H2 pm (.tup [.int (loB rows j i : Nat), .int (hiB rows j i : Nat)])) d = some (.dT kvs2) := by rw [upd_ne (ne_of_none hd2 npm)]; exact hd2
        have hp3 : (upd H2 pm (.tup [.int (loB rows j i : Nat), .int (hiB rows j i : Nat)])) p = some (.lst (L.map V.int)) := by rw [upd_ne (ne_of_none hp2 npm)]; exact hp2
        generalize upd H2 pm (.tup [.int (loB rows j i : Nat), .int (hiB rows j i : Nat)]) = H3 at hB3 x3 hd3 hp3 ⊢
        have P3 := hT.kb hB3 (KD.base x1 nd1 x3)
        refine ⟨_, rfl, _, rfl, line10 (by show 2 ≤ 1000; decide), fun pt npt => ⟨_, rfl, d, _, rfl, DGet.t (k := keyW j (loB rows j i)) (by rw [upd_ne (ne_of_none hd3 npt)]; exact hd3) upd_same, _, rfl, ?_⟩⟩
        have hB4 : BoxAt (upd H3 pt (.tup [.int (j : Nat), .int (loB rows j i : Nat)])) b l := box_new hB3 npt
        have x4 : KD b l d H1 (upd H3 pt (.tup [.int (j : Nat), .int (loB rows j i : Nat)])) := x3.new npt
        have hd4 : (upd H3 pt (.tup [.int (j : Nat), .int (loB rows j i : Nat)])) d = some (.dT kvs2) := by rw [upd_ne (ne_of_none hd3 npt)]; exact hd3
        have hp4 : (upd H3 pt (.tup [.int (j : Nat), .int (loB rows j i : Nat)])) p = some (.lst (L.map V.int)) := by rw [upd_ne (ne_of_none hp3 npt)]; exact hp3
        show if (!(valV kvs2 (keyW j (loB rows j i))).isSome) = true then _ else _
        generalize hH4 : upd H3 pt (.tup [.int (j : Nat), .int (loB rows j i : Nat)]) = H4
        have eH4 : upd H3 pt (.tup ((keyW j (loB rows j i)).map kV)) = H4 := hH4
        rw [hH4] at hB4 x4 hd4 hp4
        try rw [eH4]
        have P4 := hT.kb hB4 (KD.base x1 nd1 x4)
        cases ev : valV kvs2 (keyW j (loB rows j i)) with
        | some v =>
          obtain ⟨vv, rfl, hvv⟩ := ho2 j (loB rows j i) v ev
          refine iteF ?_
          obtain ⟨x, hxa, hL2⟩ := hL.more (v := vv) (by rw [hw]; exact hvv)
          have hpZ := hp4
          have hdZ := hd4
          have hvZ := ev
          have hBZ := hB4
          have xZ := x4
          have hoZ := ho2
          have hkZ : kvs2.length ≤ 5 * i + (j + 1) := by omega
          generalize kvs2 = kvZ at hdZ hvZ hoZ hkZ
          refine ⟨_, rfl, .inl ⟨rfl, _, SqL.of hpZ⟩, _, rfl, 1, rfl, p, _, -1, _, rfl, rfl, SqL.of hpZ, hxa, _, rfl, _, rfl, _, rfl, line10 (by show 2 ≤ 1000; decide), fun pk npk => ⟨d, .int vv, rfl, hvZ ▸ DGet.t (k := keyW j (loB rows j i)) (by rw [upd_ne (ne_of_none hdZ npk)]; exact hdZ) upd_same, _, _, rfl, rfl, p, _, _, rfl, rfl, by rw [upd_ne (ne_of_none hpZ npk)]; exact hpZ, by rw [List.length_map, hL.1]; omega, ?_⟩⟩
          have npkb := new_ne hBZ npk
          exact ⟨kvZ, L ++ [x + vv], _, _, _, _, rfl, box_upd (box_new hBZ npk) hpb.1 hpb.2, (xZ.new npk).upd np, by rw [upd_ne pd.symm, upd_ne (ne_of_none hdZ npk)]; exact hdZ, hoZ, hkZ, by rw [upd_same, List.map_append]; rfl, hL2⟩
        | none =>
          refine iteT ?_
          have lcs := cells_len (c := j) (b := loB rows j i) hle
          have hbe : loB rows j i < hiB rows j i := by omega
          have hhl := hi_lo rows j i
          generalize hbb : loB rows j i = bb at *
          generalize hee : hiB rows j i = ee at *
          have cell : ∀ k, bb + k < ee → ∃ q r, as[bb + k]? = some q ∧ rows[bb + k]? = some r ∧ H4 q = some (.tup (sV r)) ∧ (sV r)[j]? = some (V.str (r.getD j nilS)) ∧ (cellsB rows j bb ee)[k]? = some (r.getD j nilS) ∧ (r.getD j nilS).length ≤ 10 := fun k hk => by
            obtain ⟨q, hq⟩ := getP (xs := as) (i := bb + k) (by rw [hT.al]; omega)
            obtain ⟨r, hr2⟩ := getP (xs := rows) (i := bb + k) (by omega)
            have hcg := cells_get (c := j) (b := bb) (i := k) hk hr2
            exact ⟨q, r, hq, hr2, P4.row _ q r hq hr2, cell_at hr2 (hin (bb + k) (by omega) hk), hcg, (cells_mem hO hin hle (List.mem_of_getElem? hcg)).len⟩
          refine ⟨_, rfl, st, _, 1, .int least, rfl, rfl, .inl (.inl P4.sty), at1, line10 (by show 1 ≤ 1000; decide), fun p1 np1 => ⟨_, rfl, _, rfl, (bb : Int), (ee : Int), rfl, by omega, fun D2 nD2 => lc_range (lo := (bb : Int)) (n := ((ee : Int) - (bb : Int)).toNat) (fun k H' => Same H4 H' ∧ H' p1 = some (.lst [.int least]) ∧ H' D2 = some (.lst ((((cellsB rows j bb ee).take k).map fun z => ((z.length : Nat) : Int) + gap).map V.int))) ?_ ?_ ?_⟩⟩
          · exact ⟨same_trans (same_new np1) (same_new nD2), by rw [upd_ne (fun z => by rw [← z, upd_same] at nD2; cases nD2), upd_same], upd_same⟩
          · rintro k H5 hk ⟨x5, hp5, hD5⟩
            obtain ⟨q, r, hq, hr2, hT5, hz, hcg, zl⟩ := cell k (by omega)
            have nD20 := same_old (same_new np1) nD2
            refine ⟨rfl, _, rfl, _, rfl, a, _, ((bb + k : Nat) : Int), .ref q, rfl, rfl, SqL.of (x5 _ _ P4.pg), atI_nat (by rw [List.getElem?_map, hq]; rfl), _, rfl, q, _, j, _, rfl, rfl, .inl (.inl (x5 _ _ hT5)), atI_nat hz, _, rfl, line10 (by omega), _, rfl, st, _, 0, .int gap, rfl, rfl, .inl (.inl (x5 _ _ P4.sty)), at0, _, _, rfl, rfl, _, hD5, ?_, same_upd x5 nD20, ?_, ?_⟩
            · rw [List.length_map, List.length_map, List.length_take]; omega
            · rw [upd_ne (fun z => by rw [← z, upd_same] at nD2; cases nD2)]; exact hp5
            · rw [upd_same, List.take_add_one, hcg]
              simp
          · rintro H5 ⟨x5, hp5, hD5⟩
            have en2 : ((ee : Int) - (bb : Int)).toNat = (cellsB rows j bb ee).length := by omega
            rw [en2, List.take_of_length_le (Nat.le_refl _)] at hD5
            have ne : cellsB rows j bb ee ≠ [] := fun z => by rw [z] at lcs; simp at lcs; omega
            refine ⟨p1, D2, _, _, rfl, rfl, hp5, hD5, ?_, fun p2 np2 => ⟨p2, least :: (cellsB rows j bb ee).map (fun z => ((z.length : Nat) : Int) + gap), rfl, SqL.of upd_same, Nat.succ_pos _, fun m hm hx => ?_⟩⟩
            · rw [List.length_map, List.length_map, List.length_singleton]; omega
            · rw [widthB_of hm hx ne]
              generalize hH6 : upd H5 p2 _ = H6
              have x6 : Same H4 H6 := by rw [← hH6]; exact same_trans x5 (same_new np2)
              have hB6 := box_same hB4 x6
              have y6 := x4.same x6
              refine ⟨_, rfl, _, rfl, b, l, 9, rfl, hB6, by decide, by decide, fun z1 H7 a0 a1 hB7 x7 => ⟨line10 (by show 3 ≤ 1000; decide), fun pl npl => ⟨_, rfl, b, l, 3, rfl, box_new hB7 npl, by decide, by decide, fun z2 H8 s0 s1 hB8 x8 => ?_⟩⟩⟩
              obtain ⟨nlb, nll⟩ := new_ne hB7 npl
              have hpl := x8 pl _ upd_same nlb nll
              have x78 : KB b l H6 H8 := (x7.trans (kb_new npl)).trans x8
              have hd8 := x78 d _ (x6 _ _ hd4) hdb.1 hdb.2
              have hp8 := x78 p _ (x6 _ _ hp4) hpb.1 hpb.2
              obtain ⟨mm, hm2, em⟩ := pick (xs := [(0 : Int), 0, z1]) (i := z2) s0 s1
              have mm0 : 0 ≤ mm := by
                simp only [List.mem_cons, List.not_mem_nil, or_false] at hm2
                omega
              refine ⟨pl, _, _, .int mm, rfl, rfl, SqL.of hpl, atI_map (f := V.int) em, _, _, rfl, rfl, _, rfl, _, rfl, _, rfl, line10 (by show 2 ≤ 1000; decide), fun pk2 npk2 => ⟨d, _, rfl, DPut.t (k := keyW j bb) (by rw [upd_ne (ne_of_none hd8 npk2)]; exact hd8) upd_same (by omega), ?_⟩⟩
              have hBZ : BoxAt (upd (upd H8 pk2 (.tup [.int (j : Nat), .int (bb : Nat)])) d (.dT (putK kvs2 (keyW j bb) (.int (widthB (cellsB rows j bb ee) gap least + mm))))) b l := box_upd (box_new hB8 npk2) hdb.1 hdb.2
              have xZ : KD b l d H1 (upd (upd H8 pk2 (.tup [.int (j : Nat), .int (bb : Nat)])) d (.dT (putK kvs2 (keyW j bb) (.int (widthB (cellsB rows j bb ee) gap least + mm))))) := ((y6.kb x78).new npk2).own
              have hdZ : (upd (upd H8 pk2 (.tup [.int (j : Nat), .int (bb : Nat)])) d (.dT (putK kvs2 (keyW j bb) (.int (widthB (cellsB rows j bb ee) gap least + mm))))) d = some (.dT (putK kvs2 (keyW j bb) (.int (widthB (cellsB rows j bb ee) gap least + mm)))) := upd_same
              have hpZ : (upd (upd H8 pk2 (.tup [.int (j : Nat), .int (bb : Nat)])) d (.dT (putK kvs2 (keyW j bb) (.int (widthB (cellsB rows j bb ee) gap least + mm))))) p = some (.lst (L.map V.int)) := by rw [upd_ne pd, upd_ne (ne_of_none hp8 npk2)]; exact hp8
              have hvZ : valV (putK kvs2 (keyW j bb) (.int (widthB (cellsB rows j bb ee) gap least + mm))) (keyW j bb) = some (.int (widthB (cellsB rows j bb ee) gap least + mm)) := by rw [valV_put, if_pos rfl]
              have hoZ : OthOk rows gap least (putK kvs2 (keyW j bb) (.int (widthB (cellsB rows j bb ee) gap least + mm))) := ho2.put (by rw [hhl]; omega)
              have hkZ : (putK kvs2 (keyW j bb) (V.int (widthB (cellsB rows j bb ee) gap least + mm))).length ≤ 5 * i + (j + 1) := by
                rw [putK_new _ ev, List.length_append, List.length_singleton]
                omega
              obtain ⟨x, hxa, hL2⟩ := hL.more (v := widthB (cellsB rows j bb ee) gap least + mm) (by rw [hw, hhl]; omega)
              generalize hHZ : upd (upd H8 pk2 (.tup [.int (j : Nat), .int (bb : Nat)])) d (.dT (putK kvs2 (keyW j bb) (.int (widthB (cellsB rows j bb ee) gap least + mm)))) = HZ at hBZ xZ hdZ hpZ
              have eHZ : upd (upd H8 pk2 (.tup ((keyW j bb).map kV))) d (.dT (putK kvs2 (keyW j bb) (.int (widthB (cellsB rows j bb ee) gap least + mm)))) = HZ := hHZ
              try rw [hHZ]
              generalize putK kvs2 (keyW j bb) (V.int (widthB (cellsB rows j bb ee) gap least + mm)) = kvZ at hdZ hvZ hoZ hkZ
              generalize widthB (cellsB rows j bb ee) gap least + mm = vv at hvZ hL2
              refine ⟨_, rfl, .inl ⟨rfl, _, SqL.of hpZ⟩, _, rfl, 1, rfl, p, _, -1, _, rfl, rfl, SqL.of hpZ, hxa, _, rfl, _, rfl, _, rfl, line10 (by show 2 ≤ 1000; decide), fun pk npk => ⟨d, .int vv, rfl, hvZ ▸ DGet.t (k := keyW j bb) (by rw [upd_ne (ne_of_none hdZ npk)]; exact hdZ) upd_same, _, _, rfl, rfl, p, _, _, rfl, rfl, by rw [upd_ne (ne_of_none hpZ npk)]; exact hpZ, by rw [List.length_map, hL.1]; omega, ?_⟩⟩
              have npkb := new_ne hBZ npk
              exact ⟨kvZ, L ++ [x + vv], _, _, _, _, rfl, box_upd (box_new hBZ npk) hpb.1 hpb.2, (xZ.new npk).upd np, by rw [upd_ne pd.symm, upd_ne (ne_of_none hdZ npk)]; exact hdZ, hoZ, hkZ, by rw [upd_same, List.map_append]; rfl, hL2⟩
      · rintro σ H2 ⟨kvs2, L, c7, c8, c9, c10, rfl, hB2, x2, hd2, ho2, hk2, hp2, hL⟩
        have t2 : ToldAt H2 D0 es f i := t1.keep fun a o e m => by
          have na : H a = none := by
            rcases m with m | m
            · rw [m]; exact nD1
            · exact (f1 a m).1
          obtain ⟨ns, st', e1, e2, _⟩ := id hT.box
          have nad : a ≠ d := by
            rcases m with m | m
            · rw [m]; exact dD.symm
            · obtain ⟨k, hk, e3⟩ := List.getElem_of_mem m
              exact ne_of (t1.at_ k a (by rw [List.getElem?_eq_getElem hk, e3])) hd1 (by intro z; cases z)
          exact x2 a o e (fun z => by rw [z, e1] at na; cases na) (fun z => by rw [z, e2] at na; cases na) nad
        have t3 : ToldAt H2 D0 es (fun k => if k = i then L else f k) i := t2.congr fun k hk => by rw [if_neg (by omega)]
        refine ⟨_, rfl, .inl ⟨rfl, _, SqL.of t2.lst⟩, _, rfl, D0, _, .ref p, rfl, rfl, t2.lst, by rw [List.length_map, t2.len]; omega, ?_⟩
        have pes : p ∉ es := fun z => by
          obtain ⟨k, hk, e1⟩ := List.getElem_of_mem z
          have := t1.at_ k p (by rw [List.getElem?_eq_getElem hk, e1])
          rw [np] at this; cases this
        refine ⟨kvs2, es ++ [p], fun k => if k = i then L else f k, _, _, _, _, _, _, rfl, box_upd hB2 hDb.1 hDb.2, kb_upd (KD.base x1 nd1 x2) nD1, by rw [upd_ne dD]; exact hd2, ho2, by omega, ?_, fun e he => ?_, fun k hk => ?_⟩
        · refine ⟨by rw [upd_same, List.map_append]; rfl, by rw [List.length_append, t3.len]; rfl, List.nodup_append.mpr ⟨t3.nd, by simp, fun u hu v hv z => pes (by rw [← List.mem_singleton.mp hv, ← z]; exact hu)⟩, fun k u hu => ?_⟩
          by_cases z : k < es.length
          · rw [List.getElem?_append_left z] at hu
            rw [upd_ne (f1 u (List.mem_of_getElem? hu)).2]
            exact t3.at_ k u hu
          · have hl := (List.getElem?_eq_some_iff.mp hu).1
            rw [List.length_append, List.length_singleton] at hl
            have ek : k = es.length := by omega
            subst ek
            rw [List.getElem?_append_right (Nat.le_refl _), Nat.sub_self] at hu
            cases hu
            rw [upd_ne pD, if_pos t3.len]
            exact hp2
        · rcases List.mem_append.mp he with z | z
          · exact f1 e z
          · rw [List.mem_singleton.mp z]; exact ⟨np0, pD⟩
        · by_cases z : k = i
          · subst z; simp only [if_true]; exact hL
          · show OthRow rows gap least k (ncl rows k) (if k = i then L else f k)
            rw [if_neg z]; exact g1 k (by omega)
    · rintro σ H1 ⟨kvs, es, f, c5, c6, c7, c8, c9, c10, rfl, hB1, x1, hd1, ho1, hk1, t1, f1, g1⟩
      exact ⟨_, rfl, k D0 es f H1 hB1 x1 t1 g1⟩
end
end TG

namespace TG
open PySem L2 Gx
theorem begs_get {rows : List (List Str)} {gap least : Int} {i c : Nat} (h : c ≤ ncl rows i) : (begsR rows gap least i)[c]? = some (begC rows gap least i (ncl rows i) c) := by
  unfold begsR begsTo
  rw [List.getElem?_map, List.getElem?_range (by omega)]
  rfl
theorem at_neg {α : Type} {xs : List α} {v : α} {n : Nat} (hl : xs.length = n + 1) (h : xs[n]? = some v) : atI xs (-1) = some v := by
  unfold atI ixN
  rw [if_neg (by omega), hl, if_pos (by omega)]
  show xs[((-1 : Int) + ((n + 1 : Nat) : Int)).toNat]? = some v
  rw [show ((-1 : Int) + ((n + 1 : Nat) : Int)).toNat = n by omega, h]
theorem len_of {rows : List (List Str)} {i : Nat} {r : List Str} (h : rows[i]? = some r) (c : Nat) : lenC rows i c = (((r.getD c nilS).length : Nat) : Int) := by
  unfold lenC
  rw [show rows.getD i [] = r by rw [List.getD_eq_getElem?_getD, h]; rfl]
theorem w_ge {rows : List (List Str)} {gap least : Int} {i c : Nat} (h : c < ncl rows i) : lenC rows i c + gap ≤ wB rows gap least i c := by
  have hcl : clB rows c i = true := by rw [cl_ncl]; exact decide_eq_true h
  obtain ⟨v1, v2, _, hle, _⟩ := cl_run hcl
  obtain ⟨r, hr⟩ := getP (xs := rows) (i := i) (by omega)
  obtain ⟨d, hd⟩ := Nat.exists_eq_add_of_le v1
  have hg := cells_get (c := c) (b := loB rows c i) (e := hiB rows c i) (i := d) (by omega) (by rw [← hd]; exact hr)
  rw [len_of hr]
  exact widthB_ge.2 _ (List.mem_of_getElem? hg)
theorem beg_lo {rows : List (List Str)} {gap least : Int} {i c : Nat} (h : c < ncl rows i) : leftB rows gap least i c ≤ begC rows gap least i (ncl rows i) c := by
  have h1 := w_ge (gap := gap) (least := least) h
  have h2 : leftB rows gap least i (c + 1) = leftB rows gap least i c + wB rows gap least i c := rfl
  unfold begC
  split <;> omega
theorem beg_hi {rows : List (List Str)} {gap least : Int} {i c : Nat} (h : c < ncl rows i) : begC rows gap least i (ncl rows i) c + lenC rows i c + gap ≤ leftB rows gap least i (c + 1) := by
  have h1 := w_ge (gap := gap) (least := least) h
  have h2 : leftB rows gap least i (c + 1) = leftB rows gap least i c + wB rows gap least i c := rfl
  unfold begC
  split <;> omega
section
variable {P : Program} {w : World} {K : PySem.W.Frag} {mg : Str → Option Value} {base : Heap} {cs : List (Addr × Addr)}
def spLaw (K : PySem.W.Frag) (cs : List (Addr × Addr)) : Sp := fun vs H Q _ => ∃ (a : Addr) (ns : List Int), vs = [.ref a] ∧ Tabs cs H ∧ SqL K H a (ns.map V.int) ∧ ns.length ≤ 63 ∧ ∀ H', Q (.bl true) H'
abbrev nmLaw : List Str := ["_law_script", "_law_box", "_law_turn", "_law_page_here", "_law_style_here", "_law_ends", "_law_begins", "_law_column", "_law_begin", "_law_end", "_law_wide", "_law_is_right", "_law_holders", "_law_number", "_law_there", "_law_row_here", "_law_other", "_law_k"]
theorem sc_law : FnScope nmLaw ["_law_script"] (defScope s_law) := ⟨rfl, rfl, rfl, by decide +kernel, rfl, by decide +kernel, by decide +kernel⟩
theorem ok_law {f g1 g2 g3 g4 g5 g6 g7 g8 : Addr} {fd fd1 fd2 fd3 fd4 fd5 fd6 fd7 fd8 : FuncData} (T : Txt mg) (F : Fun K "law" "law" s_law f fd)
    (G1 : FnOk P w K mg base CX0 1 g1 fd1 ["_law_script"] (spBegun K)) (k1 : PySem.W.keepIn K (.ref g1) = true) (b1 : Binds K fd1 ["_law_script"] []) (m1 : mg "_law_begun" = some (.ref g1))
    (G2 : FnOk P w K mg base CX0 1 g2 fd2 ["_law_box", "_law_many"] spTake) (k2 : PySem.W.keepIn K (.ref g2) = true) (b2 : Binds K fd2 ["_law_box", "_law_many"] []) (m2 : mg "_law_take" = some (.ref g2))
    (G3 : FnOk P w K mg base CX0 5 g3 fd3 ["_law_box", "_law_most"] spPageD) (k3 : PySem.W.keepIn K (.ref g3) = true) (b3 : Binds K fd3 ["_law_box", "_law_most"] []) (m3 : mg "_law_page" = some (.ref g3))
    (G4 : FnOk P w K mg base CX0 2 g4 fd4 ["_law_box"] spStyleD) (k4 : PySem.W.keepIn K (.ref g4) = true) (b4 : Binds K fd4 ["_law_box"] []) (m4 : mg "_law_style" = some (.ref g4))
    (G5 : FnOk P w K mg base CX0 2 g5 fd5 ["_law_box", "_law_page_here", "_law_style_here"] (spOthers K cs)) (k5 : PySem.W.keepIn K (.ref g5) = true) (b5 : Binds K fd5 ["_law_box", "_law_page_here", "_law_style_here"] []) (m5 : mg "_law_others" = some (.ref g5))
    (G6 : FnOk P w K mg base CX0 12 g6 fd6 ["page", "style"] (spStr K cs)) (k6 : PySem.W.keepIn K (.ref g6) = true) (b6 : Binds K fd6 ["page", "style"] []) (m6 : mg "stretches" = some (.ref g6))
    (G7 : FnOk P w K mg base CX0 14 g7 fd7 ["page", "style"] (spTold K cs leftsR)) (k7 : PySem.W.keepIn K (.ref g7) = true) (b7 : Binds K fd7 ["page", "style"] []) (m7 : mg "stops" = some (.ref g7))
    (G8 : FnOk P w K mg base CX0 14 g8 fd8 ["page", "style"] (spTold K cs begsR)) (k8 : PySem.W.keepIn K (.ref g8) = true) (b8 : Binds K fd8 ["page", "style"] []) (m8 : mg "laid" = some (.ref g8)) :
    FnOk P w K mg base CX0 15 f fd ["_law_script"] (spLaw K cs) := by
  refine F.ok sc_law (fun vs H Q E h => ?_) (fun cdv A outer s H vs Q E hr h => ?_)
  · obtain ⟨a, ns, rfl, _⟩ := h
    rfl
  · obtain ⟨a, ns, rfl, hT, hS, hl, k⟩ := h
    have nd := sc_law.nd
    have hu := hr.units
    have r1 : Room 1 _ := hr.mono (by decide)
    have r5 : Room 5 _ := hr.mono (by decide)
    have r2 : Room 2 _ := hr.mono (by decide)
    have r11 : Room 12 _ := hr.mono (by decide)
    refine ⟨_, pss_cons (ps_set (i := 1) nd rfl (.inl rfl) (pe_call G1 r1 (by rfl) m1 k1 b1 .nil pass0 (pa_cons (pv 0) pa_nil)))
      (pss_cons (ps_for PassesOwn.never rfl (pi_range1 (by rfl) T.range (pa_cons pe_int pa_nil)) (pg_name (i := 2) nd rfl (.inl rfl))
        (pss_cons (ps_par (i := 3) (j := 4) rfl nd rfl rfl (by decide) rfl rfl (pa_cons (pe_call G3 r5 (by rfl) m3 k3 b3 .nil pass0 (pa_cons (pv 1) (pa_cons (pe_ix ix_list (pe_lst (pa_cons pe_int (pa_cons pe_int pa_nil))) (pe_call G2 r1 (by rfl) m2 k2 b2 .nil pass0 (pa_cons (pv 1) (pa_cons pe_int pa_nil))) (fun _ _ => rfl)) pa_nil))) (pa_cons (pe_call G4 r2 (by rfl) m4 k4 b4 .nil pass0 (pa_cons (pv 1) pa_nil)) pa_nil)) (by rfl))
        (pss_cons (ps_asg (pe_tup (pa_cons (pe_call G7 hr (by rfl) m7 k7 b7 .nil pass0 (pa_cons (pv 3) (pa_cons (pv 4) pa_nil))) (pa_cons (pe_call G8 hr (by rfl) m8 k8 b8 .nil pass0 (pa_cons (pv 3) (pa_cons (pv 4) pa_nil))) pa_nil))) (pg_tup rfl (pgs_cons (pg_name (i := 5) nd rfl (.inr rfl)) (pgs_cons (pg_name (i := 6) nd rfl (.inl rfl)) pgs_nil))))
        (pss_cons (ps_for PassesOwn.never rfl (pi_list (pe_call G6 r11 (by rfl) m6 k6 b6 .nil pass0 (pa_cons (pv 3) (pa_cons (pv 4) pa_nil)))) (pg_tup rfl (pgs_cons (pg_name (i := 7) nd rfl (.inl rfl)) (pgs_cons (pg_name (i := 8) nd rfl (.inl rfl)) (pgs_cons (pg_name (i := 9) nd rfl (.inl rfl)) (pgs_cons (pg_name (i := 10) nd rfl (.inl rfl)) (pgs_cons (pg_name (i := 11) nd rfl (.inl rfl)) (pgs_cons (pg_name (i := 12) nd rfl (.inl rfl)) pgs_nil)))))))
          (pss_one (ps_for PassesOwn.never rfl (pi_range2 (by rfl) T.range (pa_cons (pv 8) (pa_cons (pv 9) pa_nil))) (pg_name (i := 13) nd rfl (.inr rfl))
            (pss_cons (ps_if (pt_cmpR op_ne (pe_op op_sub (pe_ix ix_list (pe_ix ix_list (pv 5) (pv 13) (fun _ _ => rfl)) (pe_op op_add (pv 7) pe_int) (fun _ _ => rfl)) (pe_ix ix_list (pe_ix ix_list (pv 5) (pv 13) (fun _ _ => rfl)) (pv 7) (fun _ _ => rfl))) (pv 10) (nomark _)) (pss_one (ps_ret pe_bl)) pss_nil)
            (pss_cons (ps_set (i := 14) nd rfl (.inl rfl) (pe_op op_add (pe_ix ix_list (pe_ix ix_list (pv 6) (pv 13) (fun _ _ => rfl)) (pv 7) (fun _ _ => rfl)) (pe_callB call_len_str (by rfl) T.len PySem.boot_len (pa_cons (pe_ix ix_tup (pe_ix ix_list (pv 3) (pv 13) (fun _ _ => rfl)) (pv 7) (fun _ _ => rfl)) pa_nil))))
            (pss_cons (ps_if (PW.pt (pw_and (pt_val (pv 11)) (pw_and1 (pt_cmpR op_ne (pe_op op_add (pv 14) (pe_ix ix_tup (pv 4) pe_int (fun _ _ => rfl))) (pe_ix ix_list (pe_ix ix_list (pv 5) (pv 13) (fun _ _ => rfl)) (pe_op op_add (pv 7) pe_int) (fun _ _ => rfl)) (nomark _))))) (pss_one (ps_ret pe_bl)) pss_nil)
            (pss_one (ps_if (PW.pt (pw_and (pt_not (pt_val (pv 11))) (pw_and1 (pt_cmpR op_ne (pe_ix ix_list (pe_ix ix_list (pv 6) (pv 13) (fun _ _ => rfl)) (pv 7) (fun _ _ => rfl)) (pe_ix ix_list (pe_ix ix_list (pv 5) (pv 13) (fun _ _ => rfl)) (pv 7) (fun _ _ => rfl)) (nomark _))))) (pss_one (ps_ret pe_bl)) pss_nil))))))))
        (pss_cons (ps_for PassesOwn.never rfl (pi_range1 (by rfl) T.range (pa_cons (pe_callB call_len_seq (by rfl) T.len PySem.boot_len (pa_cons (pv 3) pa_nil)) pa_nil)) (pg_name (i := 13) nd rfl (.inr rfl))
          (pss_cons (ps_set (i := 15) nd rfl (.inl rfl) (pe_ix ix_list (pv 3) (pv 13) (fun _ _ => rfl)))
          (pss_cons (ps_if (PW.pt (pw_or (pt_cmpR op_ne (pe_ix ix_list (pe_ix ix_list (pv 5) (pv 13) (fun _ _ => rfl)) pe_int (fun _ _ => rfl)) pe_int (nomark _)) (pw_or1 (pt_cmpR op_ne (pe_ix ix_list (pe_ix ix_list (pv 6) (pv 13) (fun _ _ => rfl)) (pe_un un_neg pe_int) (fun _ _ => rfl)) (pe_ix ix_list (pe_ix ix_list (pv 5) (pv 13) (fun _ _ => rfl)) (pe_un un_neg pe_int) (fun _ _ => rfl)) (nomark _))))) (pss_one (ps_ret pe_bl)) pss_nil)
          (pss_one (ps_for PassesOwn.never rfl (pi_range1 (by rfl) T.range (pa_cons (pe_op op_sub (pe_callB call_len_seq (by rfl) T.len PySem.boot_len (pa_cons (pv 15) pa_nil)) pe_int) pa_nil)) (pg_name (i := 7) nd rfl (.inl rfl))
            (pss_cons (ps_if (pt_not (pt_cmpR op_le (pe_ix ix_list (pe_ix ix_list (pv 5) (pv 13) (fun _ _ => rfl)) (pv 7) (fun _ _ => rfl)) (pe_ix ix_list (pe_ix ix_list (pv 6) (pv 13) (fun _ _ => rfl)) (pv 7) (fun _ _ => rfl)) (nomark _))) (pss_one (ps_ret pe_bl)) pss_nil)
            (pss_cons (ps_set (i := 14) nd rfl (.inl rfl) (pe_op op_add (pe_ix ix_list (pe_ix ix_list (pv 6) (pv 13) (fun _ _ => rfl)) (pv 7) (fun _ _ => rfl)) (pe_callB call_len_str (by rfl) T.len PySem.boot_len (pa_cons (pe_ix ix_tup (pv 15) (pv 7) (fun _ _ => rfl)) pa_nil))))
            (pss_one (ps_if (pt_cmpR op_gt (pe_op op_add (pv 14) (pe_ix ix_tup (pv 4) pe_int (fun _ _ => rfl))) (pe_ix ix_list (pe_ix ix_list (pv 5) (pv 13) (fun _ _ => rfl)) (pe_op op_add (pv 7) pe_int) (fun _ _ => rfl)) (nomark _)) (pss_one (ps_ret pe_bl)) pss_nil)))))))))
        (pss_cons (ps_set (i := 16) nd rfl (.inr rfl) (pe_call G5 r2 (by rfl) m5 k5 b5 .nil pass0 (pa_cons (pv 1) (pa_cons (pv 3) (pa_cons (pv 4) pa_nil)))))
        (pss_one (ps_for PassesOwn.never rfl (pi_range1 (by rfl) T.range (pa_cons (pe_callB call_len_seq (by rfl) T.len PySem.boot_len (pa_cons (pv 3) pa_nil)) pa_nil)) (pg_name (i := 13) nd rfl (.inr rfl))
          (pss_one (ps_if (pt_cmpR (op_neD hu) (pe_lc (own := [("_law_k", 17)]) (g := gName 17) rfl nd (pi_range1 (by rfl) T.range (pa_cons (pe_callB call_len_seq (by rfl) T.len PySem.boot_len (pa_cons (pe_ix ix_list (pv 3) (pv 13) (fun _ _ => rfl)) pa_nil)) pa_nil)) (blkOk_by (own := [("_law_k", 17)]) (N := nmLaw) (sc := defScope s_law) (by decide +kernel))
            (fun _ _ _ _ _ => pg_name (i := 17) nd rfl (Or.inl rfl)) (fun _ _ _ _ _ => pts_one (pt_cmpR op_lt (pe_ix (r := rIxL K) ix_list (pe_ix (r := rIxL K) ix_list (pv 16) (pv 13) (fun _ _ => rfl)) (pv 17) (fun _ _ => rfl)) (pe_ix (r := rIxL K) ix_list (pe_ix (r := rIxL K) ix_list (pv 5) (pv 13) (fun _ _ => rfl)) (pv 17) (fun _ _ => rfl)) (nomark _))) (fun _ _ _ _ _ => pv 17)) (pe_lst pa_nil) (nomark _)) (pss_one (ps_ret pe_bl)) pss_nil))))))))))
      (pss_one (ps_ret pe_bl))), ?_⟩
    have szl : (1000 : Nat) < sizeLine := by decide
    refine ⟨_, rfl, a, ns, rfl, hS, hl, fun b l H1 hB x1 nb nl => ⟨_, rfl, by decide, by decide, for_range (n := 3) (fun _ σ H' => ∃ (c2 c3 c4 c5 c6 c7 c8 c9 c10 c11 c12 c13 c14 c15 c16 : Option V), σ = [some (.ref a), some (.ref b), c2, c3, c4, c5, c6, c7, c8, c9, c10, c11, c12, c13, c14, c15, c16, none] ∧ BoxAt H' b l ∧ Tabs cs H')
      ⟨none, none, none, none, none, none, none, none, none, none, none, none, none, none, none, rfl, hB, tabs_ext hT x1⟩ ?_ ?_⟩⟩
    · clear hB x1 nb nl
      rintro i σ H1 hi ⟨c2, c3, c4, c5, c6, c7, c8, c9, c10, c11, c12, c13, c14, c15, c16, rfl, hB1, hT1⟩
      refine ⟨_, rfl, line10 (by decide), fun p0 np0 => ⟨_, rfl, b, l, 2, rfl, box_new hB1 np0, by decide, by decide, fun z H2 z0 z1 hB2 x2 => ?_⟩⟩
      obtain ⟨nb, nl⟩ := new_ne hB1 np0
      have hp2 := x2 p0 _ upd_same nb nl
      have hT2 := tabs_kb (tabs_ext hT1 (same_new np0)) (box_new hB1 np0) x2
      obtain ⟨m, hm, em⟩ := pick (xs := [(6 : Int), 30]) (i := z) z0 z1
      have hm2 : 1 ≤ m ∧ m ≤ 30 := by
        simp only [List.mem_cons, List.not_mem_nil, or_false] at hm
        omega
      refine ⟨p0, _, _, .int m, rfl, rfl, SqL.of hp2, atI_map (f := V.int) em, b, l, m, rfl, hB2, hm2.1, hm2.2, fun p as rows H3 hB3 x3 np pb pl hp hal hrow hO => ⟨_, rfl, b, l, rfl, hB3, fun q gap least H4 hB4 x4 nq hq g0 g1 l0 l1 => ⟨_, _, rfl, ?_⟩⟩⟩
      have hT4 := tabs_kb (tabs_kb hT2 hB2 x3) hB3 x4
      have hp4 := x4 p _ hp pb pl
      have hrow4 : ∀ (i : Nat) (q : Addr) (r : List Str), as[i]? = some q → rows[i]? = some r → H4 q = some (.tup (sV r)) := fun i q r h1 h2 => by
        obtain ⟨ns', st', e1, e2, _⟩ := id hB3
        have e := hrow i q r h1 h2
        exact x4 q _ e (ne_of e e1 (by intro z; cases z)) (ne_of e e2 (by intro z; cases z))
      clear hp hrow x2 x3 x4 hB2 hB3 hT2 hp2
      have P4 : PageT cs b l p q p as rows gap least H4 := ⟨hB4, hT4, hp4, hp4, hal, hrow4, hq, g0, g1, l0, l1, hO⟩
      have ll := hO.len
      have las : (as.map V.ref).length = rows.length := by rw [List.length_map, hal]
      refine ⟨_, rfl, _, rfl, p, q, as, rows, gap, least, rfl, hT4, P4.pageAt, hO, P4.styAt, fun e1 es1 H5 x5 ne1 nes1 t1 => ?_⟩
      have P5 := P4.ext x5.ext x5.tab
      refine ⟨_, rfl, _, rfl, p, q, as, rows, gap, least, rfl, P5.tab, P5.pageAt, hO, P5.styAt, fun e2 es2 H6 x6 ne2 nes2 t2 => ?_⟩
      have P6 := P5.ext x6.ext x6.tab
      have u1 := t1.ext x6.ext
      refine ⟨line10 (by show 2 ≤ 1000; decide), fun tp ntp => ⟨tp, _, rfl, .inl (.inl upd_same), rfl, _, _, rfl, _, _, rfl, rfl, ?_⟩⟩
      have x7 := Ex.laid (o := .tup [.ref e1, .ref e2]) x6.tab ntp
      generalize upd H6 tp (.tup [.ref e1, .ref e2]) = H7 at x7 ⊢
      have P7 := P6.ext x7.ext x7.tab
      have u1 := u1.ext x7.ext
      have u2 := t2.ext x7.ext
      refine ⟨_, rfl, _, rfl, p, q, as, rows, gap, least, rfl, P7.tab, P7.pageAt, hO, P7.styAt, fun sr ts hs H8 x8 nsr _ _ hsr ds => ?_⟩
      have P8 := P7.ext x8.ext x8.tab
      have u1 := u1.ext x8.ext
      have u2 := u2.ext x8.ext
      have eb1 : e1 ≠ b ∧ e1 ≠ l ∧ ∀ e ∈ es1, e ≠ b ∧ e ≠ l := by
        obtain ⟨ns', st', f1, f2, _⟩ := id P4.box
        exact ⟨fun z => (by rw [z, f1] at ne1; cases ne1), fun z => (by rw [z, f2] at ne1; cases ne1), fun e he => ⟨fun z => (by have := (nes1 e he).1; rw [z, f1] at this; cases this), fun z => (by have := (nes1 e he).1; rw [z, f2] at this; cases this)⟩⟩
      clear x5 x6 x7 t1 t2 P5 P6 P7 nes1 nes2 ne1 ne2
      -- the rows of ends, of begins, of the page
      have rowE : ∀ {H : Hp} {x : Nat}, ToldAt H e1 es1 (leftsR rows gap least) rows.length → x < rows.length → ∃ e, es1[x]? = some e ∧ H e = some (.lst ((leftsR rows gap least x).map V.int)) := fun t hx => by
        obtain ⟨e, he⟩ := getP (xs := es1) (i := _) (by rw [t.len]; exact hx)
        exact ⟨e, he, t.at_ _ e he⟩
      have rowB : ∀ {H : Hp} {x : Nat}, ToldAt H e2 es2 (begsR rows gap least) rows.length → x < rows.length → ∃ e, es2[x]? = some e ∧ H e = some (.lst ((begsR rows gap least x).map V.int)) := fun t hx => by
        obtain ⟨e, he⟩ := getP (xs := es2) (i := _) (by rw [t.len]; exact hx)
        exact ⟨e, he, t.at_ _ e he⟩
      have atE : ∀ {x c : Nat}, c ≤ ncl rows x → atI ((leftsR rows gap least x).map V.int) ((c : Nat) : Int) = some (.int (leftB rows gap least x c)) := fun hc => atI_nat (by rw [List.getElem?_map]; unfold leftsR; rw [lefts_get hc]; rfl)
      have atB : ∀ {x c : Nat}, c ≤ ncl rows x → atI ((begsR rows gap least x).map V.int) ((c : Nat) : Int) = some (.int (begC rows gap least x (ncl rows x) c)) := fun hc => atI_nat (by rw [List.getElem?_map, begs_get hc]; rfl)
      refine ⟨sr, rfl, ⟨_, SqL.of hsr⟩, for_list (xs := ts.map V.ref) (fun _ σ H' => ∃ (c7 c8 c9 c10 c11 c12 c13 c14 : Option V), σ = [some (.ref a), some (.ref b), some (.int (0 + (i : Nat))), some (.ref p), some (.ref q), some (.ref e1), some (.ref e2), c7, c8, c9, c10, c11, c12, c13, c14, c15, c16, none] ∧ H' = H8)
        ⟨_, _, _, _, _, _, _, _, rfl, rfl⟩ (fun _ σ H' _ ⟨_, _, _, _, _, _, _, _, _, z⟩ => by rw [z]; exact SqL.of hsr) ?_ ?_⟩
      · rintro j v σ H' hv ⟨c7, c8, c9, c10, c11, c12, c13, c14, rfl, rfl⟩
        obtain ⟨t, ht, rfl⟩ := get_map hv
        have hjt := (List.getElem?_eq_some_iff.mp ht).1
        obtain ⟨en, hq2⟩ := getP (xs := entB rows) (i := j) (by rw [← ds.len]; exact hjt)
        obtain ⟨hh, hhh⟩ := getP (xs := hs) (i := j) (by rw [ds.len2, ← ds.len]; exact hjt)
        have dt := (ds.at_ j t hh en ht hhh hq2).1
        obtain ⟨q1, q2⟩ := ent_le hq2
        refine ⟨t, _, rfl, .inl (.inl dt), rfl, _, _, rfl, _, _, rfl, _, _, rfl, _, _, rfl, _, _, rfl, _, _, rfl, rfl, ?_⟩
        refine ⟨_, rfl, _, rfl, (en.2.1 : Int), (en.2.2 : Int), rfl, by omega, for_range (lo := (en.2.1 : Int)) (n := ((en.2.2 : Int) - (en.2.1 : Int)).toNat) (fun _ σ H'' => ∃ (c13 c14 : Option V), σ = [some (.ref a), some (.ref b), some (.int (0 + (i : Nat))), some (.ref p), some (.ref q), some (.ref e1), some (.ref e2), some (.int (en.1 : Nat)), some (.int (en.2.1 : Nat)), some (.int (en.2.2 : Nat)), some (.int (widthB (cellsB rows en.1 en.2.1 en.2.2) gap least)), some (.bl (rightB (cellsB rows en.1 en.2.1 en.2.2))), some (.ref hh), c13, c14, c15, c16, none] ∧ H'' = H')
          ⟨_, _, rfl, rfl⟩ ?_ ?_⟩
        · rintro kk σ H'' hkk ⟨c13, c14, rfl, rfl⟩
          have hx : en.2.1 + kk < en.2.2 := by omega
          obtain ⟨_, v2, v3⟩ := cnt_yes hO hq2 (show covB (en.2.1 + kk) en = true from decide_eq_true ⟨by omega, hx⟩)
          obtain ⟨x, hxe⟩ : ∃ x, x = en.2.1 + kk := ⟨_, rfl⟩
          have hxi : (en.2.1 : Int) + (kk : Int) = ((x : Nat) : Int) := by omega
          rw [hxi]
          rw [← hxe] at v2 v3 hx
          have hxn : x < rows.length := by omega
          have e1' : en.1 = cntB rows j x := congrArg (fun z : Nat × Nat × Nat => z.1) v2
          have hc : en.1 < ncl rows x := by rw [e1']; exact v3
          have hwid : widthB (cellsB rows en.1 en.2.1 en.2.2) gap least = wB rows gap least x en.1 := by rw [v2]; rfl
          have hrig : rightB (cellsB rows en.1 en.2.1 en.2.2) = rB rows x en.1 := by rw [v2]; rfl
          obtain ⟨ea, hea1, hea2⟩ := rowE u1 hxn
          obtain ⟨ba, hba1, hba2⟩ := rowB u2 hxn
          obtain ⟨pa, hpa⟩ := getP (xs := as) (i := x) (by rw [hal]; exact hxn)
          obtain ⟨r, hr2⟩ := getP hxn
          have hnc : ncl rows x = r.length - 1 := by unfold ncl; rw [hr2]
          have hcr : en.1 < r.length := by omega
          have zl := ((hO.rows r (List.mem_of_getElem? hr2)).cells _ (List.getElem_mem hcr)).len
          have hlc := len_of hr2 en.1
          rw [List.getD_eq_getElem?_getD, List.getElem?_eq_getElem hcr] at hlc
          have hlc : lenC rows x en.1 = (((r[en.1]'hcr).length : Nat) : Int) := hlc
          have hl1 : leftB rows gap least x (en.1 + 1) = leftB rows gap least x en.1 + wB rows gap least x en.1 := rfl
          rw [hwid, hrig]
          have asE : atI (es1.map V.ref) ((x : Nat) : Int) = some (.ref ea) := atI_nat (by rw [List.getElem?_map, hea1]; rfl)
          have asB : atI (es2.map V.ref) ((x : Nat) : Int) = some (.ref ba) := atI_nat (by rw [List.getElem?_map, hba1]; rfl)
          have asP : atI (as.map V.ref) ((x : Nat) : Int) = some (.ref pa) := atI_nat (by rw [List.getElem?_map, hpa]; rfl)
          have asC : atI (sV r) ((en.1 : Nat) : Int) = some (.str (r[en.1]'hcr)) := atI_nat (by rw [List.getElem?_map, List.getElem?_eq_getElem hcr]; rfl)
          refine ⟨_, rfl, _, rfl, e1, _, _, .ref ea, rfl, rfl, SqL.of u1.lst, asE, _, rfl, _, 1, rfl, rfl, ea, _, ((en.1 + 1 : Nat) : Int), _, rfl, rfl, SqL.of hea2, atE (by omega), ?_⟩
          refine ⟨_, rfl, _, rfl, e1, _, _, .ref ea, rfl, rfl, SqL.of u1.lst, asE, _, rfl, ea, _, _, _, rfl, rfl, SqL.of hea2, atE (by omega), _, _, rfl, rfl, _, rfl, rfl, _, rfl, iteNS (congrArg V.int (by rw [hl1]; omega)) ?_⟩
          refine ⟨_, rfl, _, rfl, e2, _, _, .ref ba, rfl, rfl, SqL.of u2.lst, asB, _, rfl, ba, _, _, _, rfl, rfl, SqL.of hba2, atB (by omega), _, rfl, _, rfl, p, _, _, .ref pa, rfl, rfl, SqL.of P8.pg, asP, _, rfl, pa, _, _, _, rfl, rfl, .inl (.inl (P8.row x pa r hpa hr2)), asC, _, rfl, line10 (Nat.le_trans zl (by decide)), _, _, rfl, rfl, ?_⟩
          refine ⟨_, rfl, _, rfl, ?_⟩
          cases hrb : rB rows x en.1 with
          | true =>
            have hbc : begC rows gap least x (ncl rows x) en.1 = leftB rows gap least x (en.1 + 1) - gap - lenC rows x en.1 := by unfold begC; rw [if_pos ⟨hc, hrb⟩]
            refine iteT ⟨_, rfl, _, rfl, q, _, 0, .int gap, rfl, rfl, .inl (.inl P8.sty), at0, _, _, rfl, rfl, _, rfl, _, rfl, e1, _, _, .ref ea, rfl, rfl, SqL.of u1.lst, asE, _, rfl, _, 1, rfl, rfl, ea, _, ((en.1 + 1 : Nat) : Int), _, rfl, rfl, SqL.of hea2, atE (by omega), rfl, _, rfl, iteNS (congrArg V.int (by rw [hbc, hlc]; omega)) ?_⟩
            exact ⟨_, rfl, _, rfl, iteF (iteF ⟨_, _, rfl, rfl⟩)⟩
          | false =>
            have hbc : begC rows gap least x (ncl rows x) en.1 = leftB rows gap least x en.1 := by unfold begC; rw [if_neg (fun z => by rw [hrb] at z; cases z.2)]
            refine iteF (iteF ⟨_, rfl, _, rfl, iteT ⟨_, rfl, _, rfl, e2, _, _, .ref ba, rfl, rfl, SqL.of u2.lst, asB, _, rfl, ba, _, _, _, rfl, rfl, SqL.of hba2, atB (by omega), _, rfl, _, rfl, e1, _, _, .ref ea, rfl, rfl, SqL.of u1.lst, asE, _, rfl, ea, _, _, _, rfl, rfl, SqL.of hea2, atE (by omega), rfl, _, rfl, iteNS (by rw [hbc]) ⟨_, _, rfl, rfl⟩⟩⟩)
        · rintro σ H'' ⟨c13, c14, rfl, rfl⟩
          exact ⟨_, _, _, _, _, _, _, _, rfl, rfl⟩
      · rintro σ H' ⟨c7, c8, c9, c10, c11, c12, c13, c14, rfl, rfl⟩
        clear ds hsr nsr
        refine ⟨_, rfl, p, as.map V.ref, rfl, .inl (SqL.of P8.pg), ?_⟩
        rw [las]
        refine ⟨_, rfl, by omega, by omega, for_range (n := rows.length) (fun _ σ H'' => ∃ (c7 c8 c9 c10 c11 c12 c13 c14 c15 : Option V), σ = [some (.ref a), some (.ref b), some (.int (0 + (i : Nat))), some (.ref p), some (.ref q), some (.ref e1), some (.ref e2), c7, c8, c9, c10, c11, c12, c13, c14, c15, c16, none] ∧ H'' = H')
          ⟨_, _, _, _, _, _, _, _, _, rfl, rfl⟩ ?_ ?_⟩
        · rintro x σ H'' hxn ⟨c7, c8, c9, c10, c11, c12, c13, c14, c15, rfl, rfl⟩
          rw [Int.zero_add]
          obtain ⟨ea, hea1, hea2⟩ := rowE u1 hxn
          obtain ⟨ba, hba1, hba2⟩ := rowB u2 hxn
          obtain ⟨pa, hpa⟩ := getP (xs := as) (i := x) (by rw [hal]; exact hxn)
          obtain ⟨r, hr2⟩ := getP hxn
          have hrO := hO.rows r (List.mem_of_getElem? hr2)
          have hnc : ncl rows x = r.length - 1 := by unfold ncl; rw [hr2]
          have n5 := ncl_le hO x
          have asE : atI (es1.map V.ref) ((x : Nat) : Int) = some (.ref ea) := atI_nat (by rw [List.getElem?_map, hea1]; rfl)
          have asB : atI (es2.map V.ref) ((x : Nat) : Int) = some (.ref ba) := atI_nat (by rw [List.getElem?_map, hba1]; rfl)
          have asP : atI (as.map V.ref) ((x : Nat) : Int) = some (.ref pa) := atI_nat (by rw [List.getElem?_map, hpa]; rfl)
          have bl : atI ((begsR rows gap least x).map V.int) (-1) = some (.int (leftB rows gap least x (ncl rows x))) := at_neg (n := ncl rows x) (by rw [List.length_map]; unfold begsR; rw [begs_len]) (by
            rw [List.getElem?_map, begs_get (Nat.le_refl _)]
            unfold begC
            rw [if_neg (by omega)]
            rfl)
          have el : atI ((leftsR rows gap least x).map V.int) (-1) = some (.int (leftB rows gap least x (ncl rows x))) := lefts_at rows gap least x (ncl rows x)
          have hrow := P8.row x pa r hpa hr2
          have en : (((sV r).length : Nat) : Int) - 1 = (ncl rows x : Int) := by
            have := hrO.pos
            rw [List.length_map, hnc]
            omega
          refine ⟨_, rfl, _, rfl, p, _, _, .ref pa, rfl, rfl, SqL.of P8.pg, asP, ?_⟩
          refine ⟨_, rfl, _, rfl, e1, _, _, .ref ea, rfl, rfl, SqL.of u1.lst, asE, ea, _, 0, _, rfl, rfl, SqL.of hea2, atE (c := 0) (Nat.zero_le _), rfl, _, rfl, iteNS rfl ?_⟩
          refine ⟨_, rfl, _, rfl, e2, _, _, .ref ba, rfl, rfl, SqL.of u2.lst, asB, 1, rfl, ba, _, -1, _, rfl, rfl, SqL.of hba2, bl, _, rfl, _, rfl, e1, _, _, .ref ea, rfl, rfl, SqL.of u1.lst, asE, 1, rfl, ea, _, -1, _, rfl, rfl, SqL.of hea2, el, rfl, _, rfl, iteNS rfl ?_⟩
          refine ⟨_, rfl, pa, sV r, rfl, .inr (.inl (.inl hrow)), _, 1, rfl, rfl, ?_⟩
          refine ⟨(ncl rows x : Int), congrArg (fun z => [V.int z]) en, by omega, by omega, for_range (n := ncl rows x) (fun _ σ H3 => ∃ (c7 c14 : Option V), σ = [some (.ref a), some (.ref b), some (.int (0 + (i : Nat))), some (.ref p), some (.ref q), some (.ref e1), some (.ref e2), c7, c8, c9, c10, c11, c12, some (.int (x : Nat)), c14, some (.ref pa), c16, none] ∧ H3 = H'')
            ⟨_, _, rfl, rfl⟩ ?_ ?_⟩
          · rintro c σ H3 hc ⟨c7, c14, rfl, rfl⟩
            rw [Int.zero_add]
            have hcr : c < r.length := by omega
            have zl := (hrO.cells _ (List.getElem_mem hcr)).len
            have hlc := len_of hr2 c
            rw [List.getD_eq_getElem?_getD, List.getElem?_eq_getElem hcr] at hlc
            have hlc : lenC rows x c = (((r[c]'hcr).length : Nat) : Int) := hlc
            have b1 := beg_lo (gap := gap) (least := least) hc
            have b2 := beg_hi (gap := gap) (least := least) hc
            have asC : atI (sV r) ((c : Nat) : Int) = some (.str (r[c]'hcr)) := atI_nat (by rw [List.getElem?_map, List.getElem?_eq_getElem hcr]; rfl)
            refine ⟨_, rfl, _, rfl, e1, _, _, .ref ea, rfl, rfl, SqL.of u1.lst, asE, _, rfl, ea, _, _, _, rfl, rfl, SqL.of hea2, atE (by omega), _, rfl, _, rfl, e2, _, _, .ref ba, rfl, rfl, SqL.of u2.lst, asB, _, rfl, ba, _, _, _, rfl, rfl, SqL.of hba2, atB (by omega), _, _, rfl, rfl, _, rfl, ?_⟩
            rw [decide_eq_true b1]
            refine iteF ⟨_, rfl, _, rfl, e2, _, _, .ref ba, rfl, rfl, SqL.of u2.lst, asB, _, rfl, ba, _, _, _, rfl, rfl, SqL.of hba2, atB (by omega), _, rfl, _, rfl, pa, _, _, _, rfl, rfl, .inl (.inl hrow), asC, _, rfl, line10 (Nat.le_trans zl (by decide)), _, _, rfl, rfl, ?_⟩
            refine ⟨_, rfl, _, rfl, q, _, 0, .int gap, rfl, rfl, .inl (.inl P8.sty), at0, _, _, rfl, rfl, _, rfl, _, rfl, e1, _, _, .ref ea, rfl, rfl, SqL.of u1.lst, asE, _, rfl, _, 1, rfl, rfl, ea, _, ((c + 1 : Nat) : Int), _, rfl, rfl, SqL.of hea2, atE (by omega), _, _, rfl, rfl, _, rfl, ?_⟩
            rw [decide_eq_false (by rw [← hlc]; omega)]
            exact iteF ⟨_, _, rfl, rfl⟩
          · rintro σ H3 ⟨c7, c14, rfl, rfl⟩
            exact ⟨_, _, _, _, _, _, _, _, _, rfl, rfl⟩
        · rintro σ H'' ⟨c7, c8, c9, c10, c11, c12, c13, c14, c15, rfl, rfl⟩
          refine ⟨_, rfl, _, rfl, _, rfl, b, l, p, q, p, as, rows, gap, least, rfl, P8, fun r3 es3 f3 H9 hB9 x9 t3 o3 => ?_⟩
          have P9 := P8.kb hB9 x9
          have v1 : ToldAt H9 e1 es1 (leftsR rows gap least) rows.length := u1.keep fun c o e m => by
            rcases m with m | m
            · rw [m] at e ⊢; exact x9 _ _ e eb1.1 eb1.2.1
            · exact x9 _ _ e (eb1.2.2 c m).1 (eb1.2.2 c m).2
          refine ⟨_, rfl, p, as.map V.ref, rfl, .inl (SqL.of P9.pg), ?_⟩
          rw [las]
          refine ⟨_, rfl, by omega, by omega, for_range (n := rows.length) (fun _ σ H3 => ∃ (c13 : Option V), σ = [some (.ref a), some (.ref b), some (.int (0 + (i : Nat))), some (.ref p), some (.ref q), some (.ref e1), some (.ref e2), c7, c8, c9, c10, c11, c12, c13, c14, c15, some (.ref r3), none] ∧ Same H9 H3)
            ⟨_, rfl, same_refl⟩ ?_ ?_⟩
          · rintro x σ H3 hxn ⟨c13, rfl, x3⟩
            rw [Int.zero_add]
            obtain ⟨ea, hea1, hea2⟩ := rowE (v1.go x3) hxn
            have t4 := t3.go x3
            obtain ⟨oa, hoa1⟩ := getP (xs := es3) (i := x) (by rw [t4.len]; exact hxn)
            have hoa2 := t4.at_ x oa hoa1
            obtain ⟨pa, hpa⟩ := getP (xs := as) (i := x) (by rw [hal]; exact hxn)
            obtain ⟨r, hr2⟩ := getP hxn
            have hrO := hO.rows r (List.mem_of_getElem? hr2)
            have hrl := hrO.len
            have hrp := hrO.pos
            have hnc : ncl rows x = r.length - 1 := by unfold ncl; rw [hr2]
            have hrow := x3 _ _ (P9.row x pa r hpa hr2)
            have asE : atI (es1.map V.ref) ((x : Nat) : Int) = some (.ref ea) := atI_nat (by rw [List.getElem?_map, hea1]; rfl)
            have asO : atI (es3.map V.ref) ((x : Nat) : Int) = some (.ref oa) := atI_nat (by rw [List.getElem?_map, hoa1]; rfl)
            have asP : atI (as.map V.ref) ((x : Nat) : Int) = some (.ref pa) := atI_nat (by rw [List.getElem?_map, hpa]; rfl)
            obtain ⟨w1, w2⟩ := o3 x hxn
            refine ⟨_, rfl, _, rfl, p, _, _, .ref pa, rfl, rfl, SqL.of (x3 _ _ P9.pg), asP, pa, sV r, rfl, .inr (.inl (.inl hrow)), ?_⟩
            rw [show (sV r).length = r.length from List.length_map ..]
            refine ⟨_, rfl, by omega, by omega, fun D nD => lc_range (n := r.length) (fun _ H' => Same H3 H' ∧ H' D = some (.lst [])) ⟨same_new nD, upd_same⟩ ?_ ?_⟩
            · rintro c H4 hc ⟨x4, hD4⟩
              rw [Int.zero_add]
              obtain ⟨ov, hov, hle⟩ := w2 c (by omega)
              refine ⟨rfl, _, rfl, _, rfl, r3, _, _, .ref oa, rfl, rfl, SqL.of (x4 _ _ t4.lst), asO, _, rfl, oa, _, _, .int ov, rfl, rfl, SqL.of (x4 _ _ hoa2), atI_nat (by rw [List.getElem?_map, hov]; rfl), _, rfl, _, rfl, e1, _, _, .ref ea, rfl, rfl, SqL.of (x4 _ _ (x3 _ _ v1.lst)), asE, _, rfl, ea, _, _, _, rfl, rfl, SqL.of (x4 _ _ hea2), atE (by omega), _, _, rfl, rfl, _, rfl, ?_⟩
              rw [decide_eq_false (by omega)]
              exact iteF ⟨x4, hD4⟩
            · rintro H4 ⟨x4, hD4⟩
              refine ⟨small0, fun p5 np5 => ⟨.list [], .list [], .lst (SqL.of (by rw [upd_ne (ne_of_none hD4 np5)]; exact hD4)) .nil, .lst (SqL.of upd_same) .nil, rfl, rfl, _, rfl, iteF ⟨_, rfl, same_trans x3 (same_trans x4 (same_new np5))⟩⟩⟩
          · rintro σ H3 ⟨c13, rfl, x3⟩
            exact ⟨_, _, _, _, _, _, _, _, _, _, _, _, _, _, _, rfl, box_same P9.box x3, tabs_ext P9.tab x3⟩
    · rintro σ H2 ⟨c2, c3, c4, c5, c6, c7, c8, c9, c10, c11, c12, c13, c14, c15, c16, rfl, _⟩
      exact k H2
end
end TG

namespace TG
open PySem PySem.Spec PyProof.Rows L2
/-! ### the head -/
def dd (i : Nat) (x : Str) : He.DefD := ⟨(x, none), x, x, defArgs (top i), defBody (top i), defScope (top i), [], []⟩
def fnL : List He.DefD := [dd 13 "is_whole", dd 14 "is_sign", dd 15 "is_text_of_signs", dd 16 "is_row", dd 17 "first_misfit", dd 18 "check_page", dd 19 "check_style", dd 21 "stretches", dd 22 "closed_runs", dd 23 "is_closed", dd 24 "described", dd 25 "stands_right", dd 26 "is_figures", dd 28 "stops", dd 29 "laid", dd 30 "closed_cells", dd 31 "left_ends", dd 32 "begins_of", dd 34 "_law_begun", dd 35 "_law_take", dd 37 "_law_sign", dd 38 "_law_cell", dd 39 "_law_row", dd 40 "_law_page", dd 41 "_law_style", dd 42 "_law_mates", dd 43 "_law_others", dd 44 "law"]
def faL : List He.Fa := [.glo "is_whole", .glo "is_sign", .glo "is_text_of_signs", .glo "is_row", .glo "first_misfit", .glo "check_page", .glo "check_style", .glo "stretches", .glo "closed_runs", .glo "is_closed", .glo "described", .glo "stands_right", .glo "is_figures", .glo "stops", .glo "laid", .glo "closed_cells", .glo "left_ends", .glo "begins_of", .glo "_law_begun", .glo "_law_take", .glo "_law_sign", .glo "_law_cell", .glo "_law_row", .glo "_law_page", .glo "_law_style", .glo "_law_mates", .glo "_law_others", .glo "law", .int "BLANK" 32, .int "TILDE" 126, .int "PERCENT" 37, .int "MOST_ROWS" 30, .int "MOST_CELLS" 6, .int "MOST_SIGNS" 10, .int "MOST_GAP" 4, .int "MOST_LEAST" 12, .free "isinstance", .free "len", .free "range", .free "max", .free "min", .free "all", .free "str", .free "int", .free "bool", .free "list", .free "tuple", .free "enumerate", .free "ord", .free "zip"]
def tfL : List He.Defn := [("is_text_of_signs", none), ("is_row", none), ("stretches", none), ("described", none), ("stands_right", none)]
def exL : PySem.W.Frag → Bool := fun _ => true
theorem fun_of {K : PySem.W.Frag} {x : Str} {st : Stmt} {f : Addr} {fd : FuncData} (F : FunD K x x (defArgs st) (defBody st) (defScope st) [] [] f fd) : Fun K x x st f fd := by
  obtain ⟨⟨oc, od, dV, kV, doc, pm, an, cdv, ct, osl, e, lk, hcd, hd, _⟩, kp⟩ := F
  rcases hd with ⟨_, hd⟩ | ⟨hd, _⟩
  · subst hd
    exact ⟨⟨oc, od, kV, doc, pm, an, cdv, ct, osl, e, lk, hcd⟩, kp⟩
  · exact absurd rfl hd
/-- a def of the top, by its name -/
structure At (K : PySem.W.Frag) (mg : Str → Option Value) (x : Str) (st : Stmt) (fd : FuncData) : Prop where
  mg_ : mg x = some (.ref (He.ga K x))
  fn : Fun K x x st (He.ga K x) fd
theorem At.kp {K : PySem.W.Frag} {mg : Str → Option Value} {x : Str} {st : Stmt} {fd : FuncData} (a : At K mg x st fd) : PySem.W.keepIn K (.ref (He.ga K x)) = true := a.fn.kp
theorem at_of {fa : List He.Fa} {fn : List He.DefD} {K : PySem.W.Frag} {h : Heap} {mg : Str → Option Value} (X : K.In h) (G : h.Ns mainGlobals mg) (c : He.SaysD fa fn K) {i : Nat} {x : Str} (hd : dd i x ∈ fn) (hf : He.Fa.glo x ∈ fa) : ∃ fd, At K mg x (top i) fd := by
  obtain ⟨fd, F⟩ := c.defs hd
  exact ⟨fd, He.glo_ok X G (c.facts hf), fun_of F⟩
theorem code_of {K : PySem.W.Frag} {mg : Str → Option Value} {x : Str} {st : Stmt} {fd : FuncData} (a : At K mg x st fd) : fd.code = .ref (He.cT K (x, none)).1 := by
  obtain ⟨oc, od, kV, doc, pm, an, cdv, ct, osl, e, lk, hcd⟩ := a.fn.ex
  obtain ⟨c, hc⟩ := He.codeIn_ref hcd
  have e2 : fd.code = .ref c := by rw [e, ← hc]
  have e3 : He.codeOf K (x, none) = c := He.codeOf_eq (p := (x, none)) lk e2
  show fd.code = .ref (He.codeOf K (x, none))
  rw [e3, e2]
theorem tab_conv {base : Heap} {mg : Str → Option Value} {c P : Addr} (t : LamX.TabB base mg c P) : GxR.TabB base mg c P := ⟨t.code, t.bm, t.gP⟩

theorem txt_of {K : PySem.W.Frag} {h : Heap} {mg : Str → Option Value} (X : K.In h) (G : h.Ns mainGlobals mg) (c : He.SaysD faL fnL K) : Txt mg := by
  constructor
  all_goals exact He.free_ok X G (c.facts (by simp [faL]))
theorem consts_of {K : PySem.W.Frag} {h : Heap} {mg : Str → Option Value} (X : K.In h) (G : h.Ns mainGlobals mg) (c : He.SaysD faL fnL K) : Consts mg := by
  constructor
  all_goals exact He.int_ok X G (c.facts (by simp [faL]))
theorem triples_nil : TriplesOk (#[] : Array Value).toList := trivial
theorem facts {w : World} {K : PySem.W.Frag} {h : Heap} {mg : Str → Option Value} {f : Addr} (X : K.In h) (G : h.Ns mainGlobals mg) (hfa : mg ("law" : Str) = some (.ref f)) (c : He.SaysX faL fnL [] tfL exL w h K) :
    LamX.LawAtS PySem.Challenge.rw_tabgrow_k05_whole_lined_up_and_no_wider w K CX0 15 63 "_law_script" mg f h := by
  have cd := c.t.d
  have T := txt_of X G cd
  have N := consts_of X G cd
  have hz : mg "zip" = none := He.free_ok X G (cd.facts (by simp [faL]))
  obtain ⟨d13, a13⟩ := at_of X G cd (i := 13) (x := "is_whole") (by simp [fnL]) (by simp [faL])
  have b13 := a13.fn.binds (ps := ["value", "low", "high"]) fun _ _ _ _ _ _ us hl => match us, hl with | [_, _, _], _ => rfl
  obtain ⟨d14, a14⟩ := at_of X G cd (i := 14) (x := "is_sign") (by simp [fnL]) (by simp [faL])
  have b14 := a14.fn.binds (ps := ["sign"]) fun _ _ _ _ _ _ us hl => match us, hl with | [_], _ => rfl
  obtain ⟨d15, a15⟩ := at_of X G cd (i := 15) (x := "is_text_of_signs") (by simp [fnL]) (by simp [faL])
  have b15 := a15.fn.binds (ps := ["value", "most"]) fun _ _ _ _ _ _ us hl => match us, hl with | [_, _], _ => rfl
  obtain ⟨d16, a16⟩ := at_of X G cd (i := 16) (x := "is_row") (by simp [fnL]) (by simp [faL])
  have b16 := a16.fn.binds (ps := ["value"]) fun _ _ _ _ _ _ us hl => match us, hl with | [_], _ => rfl
  obtain ⟨dM, aM⟩ := at_of X G cd (i := 17) (x := "first_misfit") (by simp [fnL]) (by simp [faL])
  have bM := aM.fn.binds (ps := ["rows"]) fun _ _ _ _ _ _ us hl => match us, hl with | [_], _ => rfl
  obtain ⟨d17, a17⟩ := at_of X G cd (i := 18) (x := "check_page") (by simp [fnL]) (by simp [faL])
  have b17 := a17.fn.binds (ps := ["page"]) fun _ _ _ _ _ _ us hl => match us, hl with | [_], _ => rfl
  obtain ⟨d18, a18⟩ := at_of X G cd (i := 19) (x := "check_style") (by simp [fnL]) (by simp [faL])
  have b18 := a18.fn.binds (ps := ["style"]) fun _ _ _ _ _ _ us hl => match us, hl with | [_], _ => rfl
  obtain ⟨d20, a20⟩ := at_of X G cd (i := 21) (x := "stretches") (by simp [fnL]) (by simp [faL])
  have b20 := a20.fn.binds (ps := ["page", "style"]) fun _ _ _ _ _ _ us hl => match us, hl with | [_, _], _ => rfl
  obtain ⟨d21, a21⟩ := at_of X G cd (i := 22) (x := "closed_runs") (by simp [fnL]) (by simp [faL])
  have b21 := a21.fn.binds (ps := ["page", "column"]) fun _ _ _ _ _ _ us hl => match us, hl with | [_, _], _ => rfl
  obtain ⟨d22, a22⟩ := at_of X G cd (i := 23) (x := "is_closed") (by simp [fnL]) (by simp [faL])
  have b22 := a22.fn.binds (ps := ["row", "column"]) fun _ _ _ _ _ _ us hl => match us, hl with | [_, _], _ => rfl
  obtain ⟨d23, a23⟩ := at_of X G cd (i := 24) (x := "described") (by simp [fnL]) (by simp [faL])
  have b23 := a23.fn.binds (ps := ["page", "style", "column", "begin", "end"]) fun _ _ _ _ _ _ us hl => match us, hl with | [_, _, _, _, _], _ => rfl
  obtain ⟨d24, a24⟩ := at_of X G cd (i := 25) (x := "stands_right") (by simp [fnL]) (by simp [faL])
  have b24 := a24.fn.binds (ps := ["cells"]) fun _ _ _ _ _ _ us hl => match us, hl with | [_], _ => rfl
  obtain ⟨d25, a25⟩ := at_of X G cd (i := 26) (x := "is_figures") (by simp [fnL]) (by simp [faL])
  have b25 := a25.fn.binds (ps := ["cell"]) fun _ _ _ _ _ _ us hl => match us, hl with | [_], _ => rfl
  obtain ⟨d27, a27⟩ := at_of X G cd (i := 28) (x := "stops") (by simp [fnL]) (by simp [faL])
  have b27 := a27.fn.binds (ps := ["page", "style"]) fun _ _ _ _ _ _ us hl => match us, hl with | [_, _], _ => rfl
  obtain ⟨d28, a28⟩ := at_of X G cd (i := 29) (x := "laid") (by simp [fnL]) (by simp [faL])
  have b28 := a28.fn.binds (ps := ["page", "style"]) fun _ _ _ _ _ _ us hl => match us, hl with | [_, _], _ => rfl
  obtain ⟨d29, a29⟩ := at_of X G cd (i := 30) (x := "closed_cells") (by simp [fnL]) (by simp [faL])
  have b29 := a29.fn.binds (ps := ["page", "style"]) fun _ _ _ _ _ _ us hl => match us, hl with | [_, _], _ => rfl
  obtain ⟨d30, a30⟩ := at_of X G cd (i := 31) (x := "left_ends") (by simp [fnL]) (by simp [faL])
  have b30 := a30.fn.binds (ps := ["closed"]) fun _ _ _ _ _ _ us hl => match us, hl with | [_], _ => rfl
  obtain ⟨d31, a31⟩ := at_of X G cd (i := 32) (x := "begins_of") (by simp [fnL]) (by simp [faL])
  have b31 := a31.fn.binds (ps := ["row", "closed", "gap"]) fun _ _ _ _ _ _ us hl => match us, hl with | [_, _, _], _ => rfl
  obtain ⟨d33, a33⟩ := at_of X G cd (i := 34) (x := "_law_begun") (by simp [fnL]) (by simp [faL])
  have b33 := a33.fn.binds (ps := ["_law_script"]) fun _ _ _ _ _ _ us hl => match us, hl with | [_], _ => rfl
  obtain ⟨d34, a34⟩ := at_of X G cd (i := 35) (x := "_law_take") (by simp [fnL]) (by simp [faL])
  have b34 := a34.fn.binds (ps := ["_law_box", "_law_many"]) fun _ _ _ _ _ _ us hl => match us, hl with | [_, _], _ => rfl
  obtain ⟨d36, a36⟩ := at_of X G cd (i := 37) (x := "_law_sign") (by simp [fnL]) (by simp [faL])
  have b36 := a36.fn.binds (ps := ["_law_box"]) fun _ _ _ _ _ _ us hl => match us, hl with | [_], _ => rfl
  obtain ⟨d37, a37⟩ := at_of X G cd (i := 38) (x := "_law_cell") (by simp [fnL]) (by simp [faL])
  have b37 := a37.fn.binds (ps := ["_law_box", "_law_sort"]) fun _ _ _ _ _ _ us hl => match us, hl with | [_, _], _ => rfl
  obtain ⟨d38, a38⟩ := at_of X G cd (i := 39) (x := "_law_row") (by simp [fnL]) (by simp [faL])
  have b38 := a38.fn.binds (ps := ["_law_box", "_law_sorts", "_law_many"]) fun _ _ _ _ _ _ us hl => match us, hl with | [_, _, _], _ => rfl
  obtain ⟨d39, a39⟩ := at_of X G cd (i := 40) (x := "_law_page") (by simp [fnL]) (by simp [faL])
  have b39 := a39.fn.binds (ps := ["_law_box", "_law_most"]) fun _ _ _ _ _ _ us hl => match us, hl with | [_, _], _ => rfl
  obtain ⟨d40, a40⟩ := at_of X G cd (i := 41) (x := "_law_style") (by simp [fnL]) (by simp [faL])
  have b40 := a40.fn.binds (ps := ["_law_box"]) fun _ _ _ _ _ _ us hl => match us, hl with | [_], _ => rfl
  obtain ⟨d41, a41⟩ := at_of X G cd (i := 42) (x := "_law_mates") (by simp [fnL]) (by simp [faL])
  have b41 := a41.fn.binds (ps := ["_law_page_here", "_law_number", "_law_column"]) fun _ _ _ _ _ _ us hl => match us, hl with | [_, _, _], _ => rfl
  obtain ⟨d42, a42⟩ := at_of X G cd (i := 43) (x := "_law_others") (by simp [fnL]) (by simp [faL])
  have b42 := a42.fn.binds (ps := ["_law_box", "_law_page_here", "_law_style_here"]) fun _ _ _ _ _ _ us hl => match us, hl with | [_, _, _], _ => rfl
  obtain ⟨d43, a43⟩ := at_of X G cd (i := 44) (x := "law") (by simp [fnL]) (by simp [faL])
  have b43 := a43.fn.binds (ps := ["_law_script"]) fun _ _ _ _ _ _ us hl => match us, hl with | [_], _ => rfl
  have e := hfa.symm.trans a43.mg_
  cases e
  refine ⟨d43, tfL.map (He.cT K), spLaw K (tfL.map (He.cT K)), fun p hp => ?_, fun p hp => ?_, fun p hp => ?_, fun s u => ?_, fun H a ns hl _ hT hS => ⟨a, ns, rfl, fun p hp => ⟨_, hT p hp, triples_nil⟩, hS, hl, fun _ => rfl⟩, fun base KB _ TB => ?_⟩
  · obtain ⟨p', hp', rfl⟩ := List.mem_map.mp hp
    exact c.empty p' hp'
  · obtain ⟨p', hp', rfl⟩ := List.mem_map.mp hp
    exact c.out p' hp'
  · obtain ⟨p', hp', rfl⟩ := List.mem_map.mp hp
    exact PySem.W.codeHd_of_K X (c.hd p' hp')
  · obtain ⟨oc, od, kV, doc, pm, an, cdv, ct, osl, e, _, _⟩ := a43.fn.ex
    rw [e]
    exact .of_eq rfl
  have m15 : He.cT K ("is_text_of_signs", none) ∈ tfL.map (He.cT K) := List.mem_map.mpr ⟨_, by simp [tfL], rfl⟩
  have t15 := tab_conv (TB _ m15)
  have m16 : He.cT K ("is_row", none) ∈ tfL.map (He.cT K) := List.mem_map.mpr ⟨_, by simp [tfL], rfl⟩
  have t16 := tab_conv (TB _ m16)
  have m20 : He.cT K ("stretches", none) ∈ tfL.map (He.cT K) := List.mem_map.mpr ⟨_, by simp [tfL], rfl⟩
  have t20 := tab_conv (TB _ m20)
  have m23 : He.cT K ("described", none) ∈ tfL.map (He.cT K) := List.mem_map.mpr ⟨_, by simp [tfL], rfl⟩
  have t23 := tab_conv (TB _ m23)
  have m24 : He.cT K ("stands_right", none) ∈ tfL.map (He.cT K) := List.mem_map.mpr ⟨_, by simp [tfL], rfl⟩
  have t24 := tab_conv (TB _ m24)
  have g33 := ok_begun (P := PySem.Challenge.rw_tabgrow_k05_whole_lined_up_and_no_wider.prog) (w := w) (base := base) (mg := mg) T a33.fn 
  have g34 := ok_take (P := PySem.Challenge.rw_tabgrow_k05_whole_lined_up_and_no_wider.prog) (w := w) (base := base) (mg := mg)  a34.fn 
  have g36 := ok_sign (P := PySem.Challenge.rw_tabgrow_k05_whole_lined_up_and_no_wider.prog) (w := w) (base := base) (mg := mg)  a36.fn g34 a34.kp b34 a34.mg_
  have g37 := ok_cell (P := PySem.Challenge.rw_tabgrow_k05_whole_lined_up_and_no_wider.prog) (w := w) (base := base) (mg := mg) T a37.fn g34 a34.kp b34 a34.mg_ g36 a36.kp b36 a36.mg_
  have g38 := ok_lrow (P := PySem.Challenge.rw_tabgrow_k05_whole_lined_up_and_no_wider.prog) (w := w) (base := base) (mg := mg) T a38.fn g37 a37.kp b37 a37.mg_
  have g39 := ok_lpage (P := PySem.Challenge.rw_tabgrow_k05_whole_lined_up_and_no_wider.prog) (w := w) (base := base) (mg := mg) T a39.fn g34 a34.kp b34 a34.mg_ g38 a38.kp b38 a38.mg_
  have g40 := ok_lstyle (P := PySem.Challenge.rw_tabgrow_k05_whole_lined_up_and_no_wider.prog) (w := w) (base := base) (mg := mg)  a40.fn g34 a34.kp b34 a34.mg_
  have g41 := ok_mates (P := PySem.Challenge.rw_tabgrow_k05_whole_lined_up_and_no_wider.prog) (w := w) (base := base) (mg := mg) T a41.fn 
  have g42 := ok_others (P := PySem.Challenge.rw_tabgrow_k05_whole_lined_up_and_no_wider.prog) (w := w) (base := base) (mg := mg) (cs := tfL.map (He.cT K)) T a42.fn g41 a41.kp b41 a41.mg_ g34 a34.kp b34 a34.mg_
  have g14 := ok_sg (P := PySem.Challenge.rw_tabgrow_k05_whole_lined_up_and_no_wider.prog) (w := w) (base := base) (mg := mg) T N a14.fn 
  have g15 := ok_text (P := PySem.Challenge.rw_tabgrow_k05_whole_lined_up_and_no_wider.prog) (w := w) (base := base) (mg := mg) T a15.fn (code_of a15) t15 m15 g14 a14.kp b14 a14.mg_
  have g16 := ok_isrow (P := PySem.Challenge.rw_tabgrow_k05_whole_lined_up_and_no_wider.prog) (w := w) (base := base) (mg := mg) T N a16.fn (code_of a16) t16 m16 g15 a15.kp b15 a15.mg_
  have gM := ok_misfit (P := PySem.Challenge.rw_tabgrow_k05_whole_lined_up_and_no_wider.prog) (w := w) (base := base) (mg := mg) T N aM.fn g16 a16.kp b16 a16.mg_
  have g17 := ok_check (P := PySem.Challenge.rw_tabgrow_k05_whole_lined_up_and_no_wider.prog) (w := w) (base := base) (mg := mg) T a17.fn gM aM.kp bM aM.mg_
  have g13 := ok_whole (P := PySem.Challenge.rw_tabgrow_k05_whole_lined_up_and_no_wider.prog) (w := w) (base := base) (mg := mg) T a13.fn 
  have g18 := ok_cstyle (P := PySem.Challenge.rw_tabgrow_k05_whole_lined_up_and_no_wider.prog) (w := w) (base := base) (mg := mg) T N a18.fn g13 a13.kp b13 a13.mg_
  have g22 := ok_closed (P := PySem.Challenge.rw_tabgrow_k05_whole_lined_up_and_no_wider.prog) (w := w) (base := base) (mg := mg) T a22.fn 
  have g21 := ok_runs (P := PySem.Challenge.rw_tabgrow_k05_whole_lined_up_and_no_wider.prog) (w := w) (base := base) (mg := mg) (cs := tfL.map (He.cT K)) T a21.fn g22 a22.kp b22 a22.mg_
  have g25 := ok_isfig (P := PySem.Challenge.rw_tabgrow_k05_whole_lined_up_and_no_wider.prog) (w := w) (base := base) (mg := mg)  a25.fn 
  have g24 := ok_right (P := PySem.Challenge.rw_tabgrow_k05_whole_lined_up_and_no_wider.prog) (w := w) (base := base) (mg := mg) T a24.fn (code_of a24) t24 m24 g25 a25.kp b25 a25.mg_
  have g23 := ok_desc (P := PySem.Challenge.rw_tabgrow_k05_whole_lined_up_and_no_wider.prog) (w := w) (base := base) (mg := mg) T a23.fn (code_of a23) t23 m23 g24 a24.kp b24 a24.mg_
  have g20 := ok_str (P := PySem.Challenge.rw_tabgrow_k05_whole_lined_up_and_no_wider.prog) (w := w) (base := base) (mg := mg) T a20.fn (code_of a20) t20 m20 g17 a17.kp b17 a17.mg_ g18 a18.kp b18 a18.mg_ g21 a21.kp b21 a21.mg_ g23 a23.kp b23 a23.mg_
  have g29 := ok_cc (P := PySem.Challenge.rw_tabgrow_k05_whole_lined_up_and_no_wider.prog) (w := w) (base := base) (mg := mg) T a29.fn g20 a20.kp b20 a20.mg_
  have g30 := ok_le (P := PySem.Challenge.rw_tabgrow_k05_whole_lined_up_and_no_wider.prog) (w := w) (base := base) (mg := mg)  a30.fn 
  have g27 := ok_stops (P := PySem.Challenge.rw_tabgrow_k05_whole_lined_up_and_no_wider.prog) (w := w) (base := base) (mg := mg)  a27.fn g29 a29.kp b29 a29.mg_ g30 a30.kp b30 a30.mg_
  have g31 := ok_bo (P := PySem.Challenge.rw_tabgrow_k05_whole_lined_up_and_no_wider.prog) (w := w) (base := base) (mg := mg) T a31.fn g30 a30.kp b30 a30.mg_
  have g28 := ok_laid (P := PySem.Challenge.rw_tabgrow_k05_whole_lined_up_and_no_wider.prog) (w := w) (base := base) (mg := mg) hz a28.fn g29 a29.kp b29 a29.mg_ g31 a31.kp b31 a31.mg_
  exact ok_law T a43.fn g33 a33.kp b33 a33.mg_ g34 a34.kp b34 a34.mg_ g39 a39.kp b39 a39.mg_ g40 a40.kp b40 a40.mg_ g42 a42.kp b42 a42.mg_ g20 a20.kp b20 a20.mg_ g27 a27.kp b27 a27.mg_ g28 a28.kp b28 a28.mg_
end TG

namespace TG
open PySem PySem.Spec PyProof.Rows L2
abbrev R : PySem.W.OpenRow := PySem.W.OpenLaw.row PySem.Challenge.rw_tabgrow_k05_whole_lined_up_and_no_wider
abbrev hk : PySem.W.Hook := He.hookX 2 faL fnL [] tfL exL
def ob (s : PySem.W.SharedT) : He.AlX := He.obsX 2 faL fnL [] tfL exL (HandSHeadRun.getT s)
theorem ob_eq (s : PySem.W.SharedT) : ob s = hk.obs s.abs := He.obsX_eq (HandSHeadRun.getT_eq s)
def loose0 : List Str := [PySem.Str.ofString "GrowError", PySem.Str.ofString "BadPage", PySem.Str.ofString "BadStyle", PySem.Str.ofString "MOST_ROWS", PySem.Str.ofString "MOST_CELLS", PySem.Str.ofString "MOST_SIGNS", PySem.Str.ofString "MOST_GAP", PySem.Str.ofString "MOST_LEAST", PySem.Str.ofString "BLANK", PySem.Str.ofString "TILDE", PySem.Str.ofString "PERCENT", PySem.Str.ofString "is_whole", PySem.Str.ofString "is_sign", PySem.Str.ofString "is_text_of_signs", PySem.Str.ofString "is_row", PySem.Str.ofString "first_misfit", PySem.Str.ofString "check_page", PySem.Str.ofString "check_style", PySem.Str.ofString "stretches", PySem.Str.ofString "closed_runs"]
def loose1 : List Str := [PySem.Str.ofString "is_closed", PySem.Str.ofString "described", PySem.Str.ofString "stands_right", PySem.Str.ofString "is_figures", PySem.Str.ofString "stops", PySem.Str.ofString "laid", PySem.Str.ofString "closed_cells", PySem.Str.ofString "left_ends", PySem.Str.ofString "begins_of", PySem.Str.ofString "_law_begun", PySem.Str.ofString "_law_take", PySem.Str.ofString "_law_alike", PySem.Str.ofString "_law_sign", PySem.Str.ofString "_law_cell", PySem.Str.ofString "_law_row", PySem.Str.ofString "_law_page", PySem.Str.ofString "_law_style", PySem.Str.ofString "_law_mates", PySem.Str.ofString "_law_others"]
def looseL : List Str := loose0 ++ loose1
theorem run (w : World) : HandSHeadRun.RunEq R (PySem.W.view R.prog [44]) hk ob 4000 looseL w := by
  intro os
  kernel_rfl
end TG

open PySem PySem.W PySem.Calls PyProof.Rows
theorem PySem.Challenge.cw_tabgrow_k05_whole_lined_up_and_no_wider_holds : PySem.Challenge.rw_tabgrow_k05_whole_lined_up_and_no_wider.Holds := by
  w_on; o_law
  refine HandSHeadRun.head_any (r := OpenLaw.row PySem.Challenge.rw_tabgrow_k05_whole_lined_up_and_no_wider) (q := view (OpenLaw.row PySem.Challenge.rw_tabgrow_k05_whole_lined_up_and_no_wider).prog [44]) (H := TG.hk) (ob := TG.ob) (M := 4000) (loose := TG.looseL) (d := HandSHeadRun.topDef (OpenLaw.row PySem.Challenge.rw_tabgrow_k05_whole_lined_up_and_no_wider).prog 44) (kwd := []) TG.ob_eq
    (by kernel_rfl) (fun s => by kernel_rfl) TG.run (by kernel_rfl) (by kernel_rfl) (by kernel_rfl) (by rfl) (by first | assumption | decide +kernel) (by decide +kernel) ⟨rfl, rfl, rfl, rfl, rfl, by decide +kernel⟩ ?hw ?hc
  case hw => w_witness2
  case hc =>
    refine LamX.walk_ofTsE (l := PySem.Challenge.rw_tabgrow_k05_whole_lined_up_and_no_wider) (n := 63) (k := 15) (x := "_law_script") (CX := fun _ => L2.CX0) rfl (by decide) (by kernel_rfl) ⟨rfl, by decide, by decide⟩ ?F (fun _ _ _ _ _ z => z)
    intro w mg fa h Y G hmg0
    obtain ⟨K, KX, c⟩ := Y
    have hmg : mg ("law" : PySem.Str) = some (.ref fa) := by
      have e : (HandSHeadRun.topDef (OpenLaw.row PySem.Challenge.rw_tabgrow_k05_whole_lined_up_and_no_wider).prog 44).name = ("law" : PySem.Str) := by kernel_rfl
      rw [← e]
      exact hmg0
    exact ⟨K, KX, TG.facts KX G hmg c⟩

