import PyProof.Rows.All
import Wide.All
import OpenK.AllK
import Wide.FinOn
import HandS.ForMost
import HandS.Exc
import HandS.GenList
import HandS.AnyAll
import HandS.IsInst
import HandS.StrMore
import HandS.Flow
import HandS.TupAny
import HandS.EndTab
import HandS.Walk
import HandS.Lambda
import HandS.Codes
import KE.KIntText
import KE.KxText
import KE.KStateDown
import HandS.Head0
import HandS.Head1
import HandS.Head2
import HandS.HeadEnd
import HandS.HeadHook1
import HandS.HeadHook2
import HandS.HeadHook3
import HandS.HeadHook4
import HandS.HeadWalk
import PyProof.WalkInts
import PyProof.ZipIter
import HandS.Zip
import PySem.Challenge.RW_tabgrow_k14_cursors_go
import KE.GoesEnum
import HandS.Iter
import HandS.WordsExc
import HandS.ExcInit
import HandS.ExcOwn
import HandS.FStr
import HandS.Nested
import HandS.GenOver
import HandS.ExcIs
import HandS.ExcField
import KE.KExcIs
import KE.KLam
import KE.KExcSuper
import KE.KSuper
import KE.KSuperObj
import HandS.Style
import HandS.Deep
set_option Elab.async false
set_option linter.all false
set_option maxRecDepth 1000000
set_option maxHeartbeats 20000000
namespace Gx
open PySem PySem.Spec PyProof.Rows L2 GenW
abbrev gE (X : Cx) (sc : Scope) (C : Addr) (code : Value) : Env :=
  genEnv sc (cloFrom X.env.cells sc.names []) C code builtinsNs X.env
/-- the context of the element -/
def gCx (X : Cx) (A : Around) (sc : Scope) (x : Str) (code : Value) (s4 : Shared) (H4 : Hp) (fp : List Addr) : Cx where
  prog := X.prog
  w := X.w
  K := X.K
  mg := X.mg
  base := X.base
  A := A.deeper (gE X sc s4.heap.objs.size code)
  N := [x]
  s_0 := s4
  H_0 := H4
  env := gE X sc s4.heap.objs.size code
  outer := X.stack
  stack := gE X sc s4.heap.objs.size code :: X.stack
  ex := fp
  fn := fun _ => false
  calm := true
  pn := []
  xe := fun _ _ => False
/-- the scope of a generator expression that captures nothing -/
structure GSc (sc : Scope) (x : Str) : Prop where
  kind : sc.kind = .function
  co : sc.isCoroutine = false
  cell : ∀ y ∈ sc.names, y.2 ≠ .cell
  free : ∀ y ∈ sc.names, y.2 ≠ .free
  dot : sc.names.lookup (".0" : Str) = some NameKind.local
  loc : sc.names.lookup x = some .local
section
variable {X : Cx} {pins : List (Addr × Obj)} {σ : L2.St} {H : Hp} {s : Shared} {A : Around} {sc : Scope} {x : Str} {code : Value} {fp : List Addr}
theorem no_cells (S : GSc sc x) (cells : List (Str × Addr)) {y : Str} {c : Addr} (h : (cloFrom cells sc.names []).lookup y = some c) : False := by
  rcases cloFrom_mem (PySem.mem_of_lookup h) with z | ⟨z, _⟩
  · cases z
  · exact S.free _ z rfl
theorem gx_inv (I : Inv X pins σ H s) (S : GSc sc x) (hd : A.handled = none) (hfr : A.frames = some X.stack) (hf : ∀ b ∈ fp, FpOk X pins H b)
    (hlt : ∀ b ∈ fp, b < s.heap.objs.size) {s5 : Shared} {m : Str → Option Value} (os : s5.os = s.os) (bare : AllBare s5.gens)
    (keep : ∀ b o, s.heap.get? b = some o → s5.heap.get? b = some o) (hns : s5.heap.Ns s.heap.objs.size m) :
    Inv (gCx X A sc x code s H fp) [] [none] H s5 := by
  have nc : ∀ {y : Str} {c : Addr}, (gCx X A sc x code s H fp).env.cells.lookup y = some c → False := fun {y c} h => no_cells S _ h
  refine ⟨⟨I.ok.mod, S.kind, I.ok.glob, rfl, Nat.le_refl _, fun y z c e _ => (nc e).elim, fun y hy => ?_, fun y c _ e => (nc e).elim, fun _ => hd,
      Around.frames_deeper hfr, .inr ⟨rfl, rfl⟩, fun b hb => ⟨Nat.ne_of_lt (hlt b hb), fun y c e => (nc e).elim⟩, I.bs, Nat.le_trans I.ok.bsz I.sz,
      fun b o e hb => ?_, fun b hb z => ?_, I.stack, I.stkFree⟩,
    os, bare, Un.kept keep, ⟨m, hns, fun i y v _ e2 _ => ?_⟩, fun y c e => (nc e).elim, I.hok.fresh (Nat.le_refl _), fun y c e => (nc e).elim,
    fun p hp => ?_, I.hok.kept keep, rfl⟩
  · rcases hy with z | z
    · exact absurd rfl (S.cell _ (PySem.mem_of_lookup (show sc.names.lookup y = some .cell from z)))
    · exact absurd rfl (S.free _ (PySem.mem_of_lookup (show sc.names.lookup y = some .free from z)))
  · rcases (hf b hb).2.2.2.1 with z | z
    · exact I.ok.noex b o e z
    · exact absurd (Nat.lt_of_lt_of_le (Heap.lt_size e) (Nat.le_trans I.ok.bsz z)) (Nat.lt_irrefl _)
  · rcases List.mem_cons.mp (I.stkSub b z) with q | q
    · exact (hf b hb).2.1 q
    · exact (hf b hb).2.2.1 q
  · match i, e2 with
    | 0, e2 => cases e2
    | i + 1, e2 => simp at e2
  · exact absurd (show p ∈ ([] : List (Addr × Obj)) from hp) (by simp)
/-- only the generators' states differ -/
theorem regens {s' : Shared} (I : Inv X pins σ H s) (os : s'.os = s.os) (hh : ∀ b o, s.heap.get? b = some o → s'.heap.get? b = some o) (hb : AllBare s'.gens) : Inv X pins σ H s' :=
  I.call' (ch := []) os (Un.kept hh) (I.hok.kept hh) hb fun b z => by simp at z
/-- the consumer's own list, if it has one -/
def Held (So : Option Addr) (Rel : Array Value → Prop) (ps : List (Addr × Obj)) : Prop :=
  match So with
  | none => ps = []
  | some S => ∃ acc c, ps = [(S, lstObj acc c)] ∧ Rel acc
structure Woke (So : Option Addr) (Rel : Array Value → Prop) (s s' : Shared) : Prop where
  os : s'.os = s.os
  bare : AllBare s'.gens
  keep : ∀ b o, So ≠ some b → s.heap.get? b = some o → s'.heap.get? b = some o
  own : ∀ S, So = some S → ∃ acc' c', s'.heap.get? S = some (lstObj acc' c') ∧ Rel acc'
theorem woken {Z : Cx} {q ps : List (Addr × Obj)} {So : Option Addr} {Rel Rel' : Array Value → Prop} {s' : Shared} (I : Inv Z (q ++ ps) σ H s) (hps : Held So Rel ps) (hq : ∀ p ∈ Z.pn ++ q, So ≠ some p.1)
    (hS : ∀ S, So = some S → Z.s_0.heap.objs.size ≤ S ∧ S ≠ Z.env.locals ∧ ∀ y c, Z.env.cells.lookup y = some c → c ≠ S) (k : Woke So Rel' s s') :
    ∃ ps', Held So Rel' ps' ∧ Inv Z (q ++ ps') σ H s' ∧ ∀ p ∈ ps', s'.heap.get? p.1 = some p.2 := by
  cases So with
  | none =>
    have e : ps = [] := hps
    subst e
    exact ⟨[], rfl, regens I k.os (fun b o e => k.keep b o (by simp) e) k.bare, fun p hp => by simp at hp⟩
  | some S =>
    obtain ⟨acc, c, e, _⟩ := hps
    subst e
    obtain ⟨h1, h2, h3, h4, _⟩ := I.pin (S, lstObj acc c) (List.mem_append_right _ (List.mem_append_right _ (List.mem_singleton.mpr rfl)))
    obtain ⟨acc', c', e', hR⟩ := k.own S rfl
    obtain ⟨g1, g2, g3⟩ := hS S rfl
    have I0 : Inv Z q σ H s := I.pins_of fun p hp => I.pin p (List.mem_append_right _ (List.mem_append_left _ hp))
    have nS : ∀ b u, H b = some u → b ≠ S := fun b u e z => by rw [z, h2] at e; cases e
    have kp : ∀ b o, b ≠ S → s.heap.get? b = some o → s'.heap.get? b = some o := fun b o hb e => k.keep b o (fun z => hb (Option.some.inj z).symm) e
    have ni : ∀ b : Addr, b ∉ [S] → b ≠ S := fun b hb e => hb (by rw [e]; exact List.mem_singleton.mpr rfl)
    have J : Inv Z q σ H s' := by
      refine I0.call' (ch := [S]) k.os ⟨fun b o e _ _ hx => kp b o (ni b hx) e, fun b o e _ _ hx => ⟨o.slots, kp b o (ni b hx) e⟩, fun _ _ _ n _ => n, fun b o e hx => ⟨o, kp b o (ni b hx) e⟩,
        fun _ _ e => e, fun _ _ _ e => e, fun _ _ e => ⟨#[], by rw [e]; simp⟩⟩ (fun b u e => ?_) k.bare fun b hb => ?_
      · refine (I0.hok b u e).stay (fun d v hd z => kp d v ?_ z) (fun _ z => z) fun _ _ z => z
        rcases hd with z | z
        · rw [z]; exact nS b u e
        · exact nS d _ z
      · have eb : b = S := List.mem_singleton.mp hb
        subst eb
        exact ⟨.inr g1, g2, g3, fun p hp z => hq p hp (by rw [z])⟩
    refine ⟨[(S, lstObj acc' c')], ⟨acc', c', rfl, hR⟩, J.pins_of fun p hp => ?_, fun p hp => by rw [List.mem_singleton.mp hp]; exact e'⟩
    rcases List.mem_append.mp hp with z | z
    · exact J.pin p (List.mem_append_right _ z)
    · rw [List.mem_singleton.mp z]
      exact ⟨e', h2, h3, h4, fun v z => by cases z⟩
abbrev WT := Nat → List V → Hp → Prop
/-- an item is handed out -/
def GYx (Z : Cx) (q : List (Addr × Obj)) (So : Option Addr) (Rel : List V → Array Value → Prop) (W : WT) (Ny : Nat → List V → V → Hp → Prop) : Protocol := fun n s₀ v s1 kap =>
  ∃ m ys y σ H ps, m < n + 1 ∧ RelV y v ∧ Held So (Rel ys) ps ∧ (∀ p ∈ ps, s₀.heap.get? p.1 = some p.2) ∧ Inv Z (q ++ ps) σ H s1 ∧ Ny m ys y H ∧ ∀ s', Woke So (Rel (ys ++ [y])) s1 s' → ∀ m', m' < m → W m' (ys ++ [y]) H → kap (.send .none) s'
def GFx (Z : Cx) (q : List (Addr × Obj)) (So : Option Addr) (Rel : List V → Array Value → Prop) (Ns : List V → Hp → Prop) (s₀ s1 : Shared) : Prop :=
  ∃ ys σ H ps, Held So (Rel ys) ps ∧ (∀ p ∈ ps, s₀.heap.get? p.1 = some p.2) ∧ Inv Z (q ++ ps) σ H s1 ∧ Ns ys H
abbrev GRx (Z : Cx) (q : List (Addr × Obj)) (So : Option Addr) (Rel : List V → Array Value → Prop) (Ns : List V → Hp → Prop) : GenEnd := fun n s₀ r s₁ =>
  ((r = .ok (.ret .none) ∨ r = .ok .next) ∧ (fun (_ : Nat) (t : Shared) s => GFx Z q So Rel Ns t s) n s₀ s₁) ∨ ∃ e, r = .error e ∧ (fun (_ : Value) (_ : Shared) => False) e s₁
theorem seg_turns {elt iter : Expr} {px : Pos} {pos : Pos} {it : Addr} {J : It} {tn : Nat → Heap → Prop} {te : TE} {W : WT} {Ny : Nat → List V → V → Hp → Prop} {Ns : List V → Hp → Prop} {s4 : Shared} {H4 : Hp}
    {q : List (Addr × Obj)} {So : Option Addr} {Rel : List V → Array Value → Prop}
    (S : GSc sc x) (T : Turn X.prog X.w X.K (.Name x px) J fp it tn)
    (stat : ∀ b ∈ fp, b ≠ s4.heap.objs.size ∧ b ∉ frs X.stack ∧ (∀ p ∈ q, p.1 ≠ b) ∧ So ≠ some b)
    (hq : ∀ p ∈ q, So ≠ some p.1) (hS : ∀ S', So = some S' → s4.heap.objs.size < S')
    (he : PE (gCx X A sc x code s4 H4 fp) elt te)
    (step : ∀ m ys H, W m ys H → (J.stop ys.length H ∧ Ns ys H) ∨ (J.go ys.length H ∧ ∀ v H', J.yld ys.length H v H' → te [some v] H' (Ny m ys))) :
    ∀ (n m : Nat) (ys : List V) (s₀ s : Shared) (σ : L2.St) (H : Hp) (ps : List (Addr × Obj)), m < n → Held So (Rel ys) ps → (∀ p ∈ ps, s₀.heap.get? p.1 = some p.2) → W m ys H → Inv (gCx X A sc x code s4 H4 fp) (q ++ ps) σ H s → tn ys.length s.heap → (∀ b ∈ fp, H b = none) →
      Seg (model X.prog X.w) A (GRx (gCx X A sc x code s4 H4 fp) q So Rel Ns) (GYx (gCx X A sc x code s4 H4 fp) q So Rel W Ny) n s₀
        (.compLoop (.GeneratorExp elt [⟨.Name x px, iter, [], 0⟩] sc pos) 0 (.ref it) .none (gE X sc s4.heap.objs.size code))
        ((model X.prog X.w).den (.compLoop (.GeneratorExp elt [⟨.Name x px, iter, [], 0⟩] sc pos) 0 (.ref it) .none (gE X sc s4.heap.objs.size code))) [] s := by
  have nc : ∀ {y : Str} {c : Addr}, (gCx X A sc x code s4 H4 fp).env.cells.lookup y = some c → False := fun {y c} h => no_cells S _ h
  intro n
  induction n with
  | zero => intro m _ _ _ _ _ _ hm; exact absurd hm (Nat.not_lt_zero _)
  | succ n ih =>
    intro m ys s₀ s σ H ps hm hps hs0 hW I htn hfn
    have fok : ∀ {H' : Hp}, (∀ b ∈ fp, H' b = none) → ∀ b ∈ fp, FpOk (gCx X A sc x code s4 H4 fp) (q ++ ps) H' b := fun {H'} hn b hb => by
      obtain ⟨a1, a2, a3, a4⟩ := stat b hb
      refine ⟨hn b hb, a1, a2, .inl hb, fun y c e => (nc e).elim, fun p hp => ?_⟩
      rcases List.mem_append.mp (show p ∈ q ++ ps from hp) with z | z
      · exact a3 p z
      · cases So with
        | none =>
          have e : ps = [] := hps
          rw [e] at z
          simp at z
        | some S' =>
          obtain ⟨acc, c, e, _⟩ := hps
          rw [e] at z
          rw [List.mem_singleton.mp z]
          exact fun w => a4 (by rw [← w])
    show Seg _ A _ _ _ s₀ _ ((compTurn (.GeneratorExp elt [⟨.Name x px, iter, [], 0⟩] sc pos) 0 (.ref it) .none (gE X sc s4.heap.objs.size code)).onRaise (leaving (gE X sc s4.heap.objs.size code))) [] s
    rw [compTurn_gen, Sem.onRaise_eq_wrap]
    refine seg_bind_wrap (wpAny_standAt ?_)
    rcases step m ys H hW with ⟨stop, qn⟩ | ⟨go, st⟩
    · refine seg_bind_wrap (thn (T.done (gCx X A sc x code s4 H4 fp) rfl rfl rfl rfl ys.length (q ++ ps) s σ H _ I (fok hfn) htn stop) fun r s5 ⟨hr, I5⟩ => ?_)
      subst hr
      exact seg_end (.ok .next) (.inl ⟨.inr rfl, ys, σ, H, ps, hps, hs0, I5, qn⟩)
    · refine seg_bind_wrap (thn (T.item (gCx X A sc x code s4 H4 fp) rfl rfl rfl rfl ys.length (q ++ ps) s σ H _ I (fok hfn) htn go) fun r s5 ⟨u, hr, h5⟩ => ?_)
      subst hr
      refine seg_bind_wrap (thn h5 fun _ s6 ⟨v, H6, I6, r6, y6, tn6, fn6⟩ => ?_)
      have I6' := I6.pinned (fok fn6) (T.obj _ _ tn6)
      have pg : PG (gCx X A sc x code s4 H4 fp) (.Name x px) (gName 0) := pg_name (i := 0) (List.nodup_cons.mpr ⟨by simp, List.nodup_nil⟩) rfl (.inl S.loc) (.inr S.loc)
      have eσ : σ.set 0 (some v) = [some v] := by
        have hl : σ.length = 1 := I.len
        match σ, hl with
        | [_], _ => rfl
      refine seg_bind_wrap (wpAny_mono (pg.run _ s6 σ H6 v u (fun σ' H' => σ' = [some v] ∧ H' = H6) I6' r6 ⟨eσ, rfl⟩) (fun _ s7 h7 => ?_) fun _ _ z => z.elim)
      obtain ⟨σ7, H7, I7, eσ7, eH7⟩ := h7
      subst eσ7 eH7
      simp only [List.forIn_nil]
      refine seg_bind_wrap (wpAny_pure ?_)
      simp only [if_true]
      have hy : ∀ v, yieldOut (gE X sc s4.heap.objs.size code) v = yieldValue v := fun v => by
        simp only [yieldOut, show (gE X sc s4.heap.objs.size code).scope.isCoroutine = false from S.co, Bool.false_eq_true, if_false]
      simp only [hy]
      rw [Sem.bind_eq_wrap', Sem.bind_eq_wrap', Sem.wrap_wrap, Sem.wrap_wrap]
      refine seg_wrap (wpAny_mono (he.run _ s7 [some v] H7 _ I7 (st v H7 y6)) (fun w s8 h8 => ?_) fun _ _ z => z.elim)
      obtain ⟨y, H8, I8, r8, ny⟩ := h8
      have fn8 : ∀ b ∈ fp, H8 b = none := fun b hb => by
        obtain ⟨o, e, d⟩ := T.obj _ _ tn6 b hb
        exact (I8.pin (b, o) (List.mem_append_right _ (List.mem_append_right _ (mem_pinsAt hb e)))).2.1
      have tn8 : tn (ys.length + 1) s8.heap := T.keep _ _ _ tn6 fun b hb o e => (I8.pin (b, o) (List.mem_append_right _ (List.mem_append_right _ (mem_pinsAt hb e)))).1
      refine seg_at (seg_yield rfl rfl rfl ⟨m, ys, y, [some v], H8, ps, hm, r8, hps, hs0, I8.unpinned, ny, fun s9 wk m' hm' w' => ?_⟩)
      obtain ⟨ps', hps', I9, e9⟩ := woken I8.unpinned hps (fun p hp => hq p hp) (fun S' e => ⟨Nat.le_of_lt (hS S' e), Nat.ne_of_gt (hS S' e), fun y c e => (nc e).elim⟩) wk
      refine seg_again rfl (ih m' (ys ++ [y]) s9 s9 [some v] H8 ps' (by omega) hps' e9 w' I9 ?_ fn8)
      rw [List.length_append, List.length_singleton]
      exact T.keep _ _ _ tn8 fun b hb o e => wk.keep b o (stat b hb).2.2.2 e
end
end Gx
namespace Gx
open PySem PySem.Spec PyProof.Rows L2 GenW
section
variable {X : Cx} {pins : List (Addr × Obj)} {σ : L2.St} {H : Hp} {s : Shared} {sc : Scope} {x : Str}
theorem seg_begin {A : Around} {elt iter : Expr} {px pos : Pos} {it : Addr} {J : It} {fp : List Addr} {tn : Nat → Heap → Prop} {cenv : Env} {R : GenEnd} {Y : Protocol} {n : Nat} {s₀ : Shared}
    (T : Turn X.prog X.w X.K (.Name x px) J fp it tn) (ht : tn 0 s.heap)
    (loop : Seg (model X.prog X.w) A R Y n s₀ (.compLoop (.GeneratorExp elt [⟨.Name x px, iter, [], 0⟩] sc pos) 0 (.ref it) .none cenv) ((model X.prog X.w).den (.compLoop (.GeneratorExp elt [⟨.Name x px, iter, [], 0⟩] sc pos) 0 (.ref it) .none cenv)) [] s) :
    Seg (model X.prog X.w) A R Y n s₀ (.compStart (.GeneratorExp elt [⟨.Name x px, iter, [], 0⟩] sc pos) 0 (.ref it) .none cenv) ((model X.prog X.w).den (.compStart (.GeneratorExp elt [⟨.Name x px, iter, [], 0⟩] sc pos) 0 (.ref it) .none cenv)) [] s := by
  show Seg _ A R Y n s₀ _ ((compStart (.GeneratorExp elt [⟨.Name x px, iter, [], 0⟩] sc pos) 0 (.ref it) .none cenv).onRaise (leaving cenv)) [] s
  unfold compStart
  rw [Sem.onRaise_eq_wrap]
  show Seg _ A R Y n s₀ _ ((ask >>= _).wrap _ _ _ _) [] s
  refine seg_bind_wrap (wpAny_askSetting ?_)
  split
  · exact seg_again rfl loop
  · first
      | exact seg_bind_wrap (wpAny_rule (seg_bind_wrap (wpAny_standAt (seg_bind_wrap (T.self _ 0 s _ _ ht (seg_again rfl loop))))))
      | (refine seg_bind_wrap (wpAny_rule ?_); show Seg _ A R Y n s₀ _ ((standAt iter.pos >>= _).wrap _ _ _ _) [] s; exact seg_bind_wrap (wpAny_standAt (seg_bind_wrap (T.self _ 0 s _ _ ht (seg_again rfl loop)))))
/-- the reading of a generator expression: W the state between two turns, by a measure, what was handed out, the heap -/
def tGen (P : Addr) (wi : TI) (te : TE) (NyOf : WT → Nat → List V → V → Hp → Prop) (Ns : List V → Hp → Prop) : L2.St → Hp → Prop := fun σ H =>
  wi σ H fun J H1 => GxR.TabG H1 P ∧ ∀ H2, GxR.Tabbed P H1 H2 → ∃ W : WT, (∃ m, W m [] H2) ∧ ∀ m ys H, W m ys H →
    (J.stop ys.length H ∧ Ns ys H) ∨ (J.go ys.length H ∧ ∀ v H', J.yld ys.length H v H' → te [some v] H' (NyOf W m ys))
theorem code_step {A : Around} {E : Value → Shared → Prop} {Q : Value → Shared → Prop} {c P : Addr} {gpos : Pos} (I : Inv X pins σ H s) (TB : GxR.TabB X.base X.mg c P) (hcode : X.env.code = .ref c) (hT : GxR.TabG H P)
    (h : ∀ (code : Value) (H3 : Hp) (s3 : Shared), GxR.Tabbed P H H3 → Inv X pins σ H3 s3 → (∀ b o, b ≠ P → s.heap.get? b = some o → s3.heap.get? b = some o) → Q code s3) :
    wpAny (model X.prog X.w) A (genexprCode X.env gpos (X.env.qual ++ "<genexpr>") sc) Q E s := by
  obtain ⟨ps, hP, ht⟩ := id hT
  have hPs : s.heap.get? P = some { cls := .none, data := .fields ps } := I.hok P _ hP
  have cd : PySem.W.CodeHd s.heap c P := TB.code.keeps I.bk
  cases hf : codeAmong gpos ps.toList with
  | none =>
    refine wpAny_genexprCodeX hcode (cd.code hPs ht) (cd.tab hPs) hf fun c' h' tk hx hge hlt hco' _ htab' _ => ?_
    obtain ⟨o1, vs, f1, tf, fl, tg, inF, tx, tt, op, _, _, _, _, _, _, _, _, _, htr, _⟩ := hco'
    have J := GxR.inv_tab (t' := tk) (g' := s.gens) (d' := s.drawn) I hP (fun b o hb e => hx b o hb e) htab'.2 I.bare
    exact h _ _ _ ⟨⟨_, upd_same, htr⟩, fun b hb => upd_ne hb⟩ J fun b o hb e => hx b o hb e
  | some cv =>
    refine wpAny_genexprCode_hit hcode (cd.code hPs ht) hf ?_
    exact h _ H s ⟨hT, fun _ _ => rfl⟩ I fun _ _ _ e => e
end
end Gx
namespace Gx
open PySem PySem.Spec PyProof.Rows L2 GenW
section
variable {X : Cx} {pins : List (Addr × Obj)} {σ : L2.St} {H : Hp} {s : Shared} {sc : Scope} {x : Str}
/-- a generator that has not begun, at a in s5 -/
def Begun1 (X : Cx) (pins : List (Addr × Obj)) (σ : L2.St) (k : Nat) (Rel : List V → Array Value → Prop) (NyOf : WT → Nat → List V → V → Hp → Prop) (Ns : List V → Hp → Prop) (a : Addr) (s5 : Shared) : Prop :=
  ∃ (g : Nat) (c : Code) (H4 : Hp), s5.heap.IsGen a g ∧ s5.gens[g]? = some (.fresh c) ∧ Inv X pins σ H4 s5 ∧ a < s5.heap.objs.size ∧
    ∀ (A : Around) (So : Option Addr) (s6 : Shared), Room (k + 1) A → A.frames = some X.stack → (∀ S, So = some S → s5.heap.objs.size ≤ S ∧ ∃ acc c, s6.heap.get? S = some (lstObj acc c) ∧ Rel [] acc) →
      (∀ b o, s5.heap.get? b = some o → s6.heap.get? b = some o) → s6.os = s5.os → AllBare s6.gens →
      ∃ (Z : Cx) (q : List (Addr × Obj)) (W : WT) (m0 : Nat),
        (∀ ps σz Hz s7, Inv Z (q ++ ps) σz Hz s7 → Inv X pins σ Hz s7 ∧ s7.heap.IsGen a g) ∧
        Seg (model X.prog X.w) A (GRx Z q So Rel Ns) (GYx Z q So Rel W (NyOf W)) (m0 + 1) s6 c ((model X.prog X.w).den c) [] s6
theorem gx_make {elt iter : Expr} {px gpos : Pos} {c P : Addr} {wi : TI} {te : TE} {k j : Nat} {Rel : List V → Array Value → Prop} {NyOf : WT → Nat → List V → V → Hp → Prop} {Ns : List V → Hp → Prop} {Q' : Value → Shared → Prop}
    (hr : Room j X.A) (TB : GxR.TabB X.base X.mg c P) (hcode : X.env.code = .ref c) (S : GSc sc x) (hi : PI X (.Name x px) iter wi)
    (he : ∀ (A : Around) (code : Value) (s4 : Shared) (H4 : Hp) (fp : List Addr), Room k (A.deeper (gE X sc s4.heap.objs.size code)) → PE (gCx X A sc x code s4 H4 fp) elt te)
    (hs : ∀ v, genFold iter X.env v = pure v) (I : Inv X pins σ H s) (h : tGen P wi te NyOf Ns σ H)
    (hQ : ∀ a s5, Begun1 X pins σ k Rel NyOf Ns a s5 → Q' (.ref a) s5) :
    wpAny (model X.prog X.w) X.A (eval (.GeneratorExp elt [⟨.Name x px, iter, [], 0⟩] sc gpos) X.env) Q' X.xe s := by
  refine wpAny_GeneratorExp_make S.co (closure_ok fun y hy z => absurd z (S.free y hy)) S.cell S.dot S.kind hr.depth ?_ hs
  refine thn (hi.run pins s σ H _ I h) fun xv s1 h1 => thn h1 fun itv s2 h2 => ?_
  obtain ⟨it, fp, tn, J, H2, e, I2, T, st2, f2, hT, hW⟩ := h2
  subst e
  refine ⟨I2.nolimit, code_step I2 TB hcode hT fun code H3 s3 hTb I3 kp3 => ?_⟩
  obtain ⟨bm, ob, e1, e2, e3, e4, e5, e6, e7, e8⟩ := TB.bm
  refine wpAny_builtinsFor (m := X.mg) (by rw [I3.ok.glob]; exact I3.mod.glob.keeps I3.bk) e1 e2 (I3.bk _ _ e5) e6 e7 e8 fun h' hn' hs' => ?_
  obtain ⟨W, ⟨m0, w0⟩, step⟩ := hW H3 hTb
  have hTP : H2 P ≠ none := by
    obtain ⟨ps, z, _⟩ := hT
    rw [z]; exact fun q => nomatch q
  have nP : ∀ b ∈ fp, b ≠ P := fun b hb z => hTP (by rw [← z]; exact (f2 b hb).1)
  have f3 : ∀ b ∈ fp, FpOk X pins H3 b := fun b hb => ⟨(hTb.2 b (nP b hb)).trans (f2 b hb).1, (f2 b hb).2⟩
  have tn3 : tn 0 s3.heap := T.keep _ _ _ st2 fun b hb o q => kp3 b o (nP b hb) q
  have lt3 : ∀ b ∈ fp, b < s3.heap.objs.size := fun b hb => by
    obtain ⟨o, q, _⟩ := T.obj _ _ tn3 b hb
    exact Heap.lt_size q
  have hsz : h'.objs.size = s3.heap.objs.size + 1 := by rw [hs'.1, Heap.size_push]
  have kp' : ∀ b o, s3.heap.get? b = some o → h'.get? b = some o := fun b o q => hs'.extBut b o (Nat.ne_of_lt (Heap.lt_size q)) (Heap.get?_push_of_some _ q)
  refine hQ _ _ ⟨s3.gens.size, _, H3, ⟨_, _, _, Heap.get?_push_size _ rfl, rfl, rfl, rfl⟩, Array.getElem?_push_size .., ?_, ?_, fun A So s6 hrA hfr hSo kp6 os6 b6 => ?_⟩
  · exact regens I3 rfl (fun b o q => Heap.get?_push_of_some _ (kp' b o q)) (AllBare.push I3.bare rfl)
  · show h'.objs.size < (h'.push _).objs.size
    rw [Heap.size_push]; exact Nat.lt_succ_self _
  · have kp36 : ∀ b o, s3.heap.get? b = some o → s6.heap.get? b = some o := fun b o q => kp6 b o (Heap.get?_push_of_some _ (kp' b o q))
    have hns6 : s6.heap.Ns s3.heap.objs.size (fun y => if y = ".0" then some (.ref it) else none) := by
      obtain ⟨o, es, ep, ho, r⟩ := hn'
      exact ⟨o, es, ep, kp6 _ _ (Heap.get?_push_of_some _ ho), r⟩
    have IZ := gx_inv (code := code) (A := A) I3 S hrA.hd hfr f3 lt3 (s5 := s6) os6 b6 kp36 hns6
    have big : ∀ b, s3.heap.objs.size < b → H3 b = none ∧ b ≠ s3.heap.objs.size ∧ b ∉ frs X.stack := fun b hb => by
      refine ⟨I3.hok.fresh (Nat.le_of_lt hb), Nat.ne_of_gt hb, fun z => ?_⟩
      rcases List.mem_cons.mp (I3.stkSub b z) with w | w
      · exact absurd (Nat.lt_trans (by rw [w]; exact I3.lt) hb) (Nat.lt_irrefl _)
      · exact I3.nofs (Nat.le_of_lt hb) w
    have ha : s3.heap.objs.size < h'.objs.size := by rw [hsz]; exact Nat.lt_succ_self _
    have hga := kp6 h'.objs.size _ (Heap.get?_push_size _ rfl)
    have hSb : ∀ S', So = some S' → h'.objs.size < S' := fun S' z => by
      have q := (hSo S' z).1
      have q' : (h'.push _).objs.size ≤ S' := q
      rw [Heap.size_push] at q'
      exact q'
    obtain ⟨ps, hps, IZ2⟩ : ∃ ps, Held So (Rel []) ps ∧ Inv (gCx X A sc x code s3 H3 fp) ([(h'.objs.size, _)] ++ ps) [none] H3 s6 := by
      cases So with
      | none =>
        refine ⟨[], rfl, IZ.pins_of fun p hp => ?_⟩
        rw [List.append_nil] at hp
        rw [List.mem_singleton.mp hp]
        obtain ⟨b1, b2, b3⟩ := big _ ha
        exact ⟨hga, b1, b2, b3, fun v z => by cases z⟩
      | some S' =>
        obtain ⟨_, acc, cc, q2, hR⟩ := hSo S' rfl
        refine ⟨[(S', lstObj acc cc)], ⟨acc, cc, rfl, hR⟩, IZ.pins_of fun p hp => ?_⟩
        rcases List.mem_append.mp hp with z | z
        · rw [List.mem_singleton.mp z]
          obtain ⟨b1, b2, b3⟩ := big _ ha
          exact ⟨hga, b1, b2, b3, fun v z => by cases z⟩
        · rw [List.mem_singleton.mp z]
          obtain ⟨b1, b2, b3⟩ := big _ (Nat.lt_trans ha (hSb S' rfl))
          exact ⟨q2, b1, b2, b3, fun v z => by cases z⟩
    have hSne : ∀ b, b ≤ h'.objs.size → So ≠ some b := fun b hb z => absurd (Nat.lt_of_lt_of_le (hSb b z) hb) (Nat.lt_irrefl _)
    refine ⟨gCx X A sc x code s3 H3 fp, [(h'.objs.size, { cls := .type "generator", data := .fields #[.int s3.gens.size 0, .str "<genexpr>" (s3.toks + 1), .str (X.env.qual ++ "<genexpr>") (s3.toks + 1 + 1)] })], W, m0, fun ps σz Hz s7 J7 => ⟨?_, ?_⟩, ?_⟩
    · refine I3.call' (ch := fp) J7.os J7.base J7.hok J7.bare fun b hb => ?_
      obtain ⟨_, a2, _, a4, a5, a6⟩ := f3 b hb
      exact ⟨a4, a2, a5, a6⟩
    · exact ⟨_, _, _, (J7.pin _ (List.mem_append_right _ (List.mem_append_left _ (List.mem_singleton.mpr rfl)))).1, rfl, rfl, rfl⟩
    · refine seg_begin T (T.keep _ _ _ tn3 fun b hb o q => kp36 b o q) ?_
      refine seg_turns S T (fun b hb => ⟨Nat.ne_of_lt (lt3 b hb), fun z => ?_, fun p hp z => ?_, hSne b (Nat.le_of_lt (Nat.lt_trans (lt3 b hb) ha))⟩) (fun p hp => ?_) (fun S' z => Nat.lt_trans ha (hSb S' z)) (he A code s3 H3 fp (hrA.deeper _)) step
        (m0 + 1) m0 [] s6 s6 [none] H3 ps (Nat.lt_succ_self _) hps (fun p hp => (IZ2.pin p (List.mem_append_right _ (List.mem_append_right _ hp))).1) w0 IZ2 (T.keep _ _ _ tn3 fun b hb o q => kp36 b o q) fun b hb => (f3 b hb).1
      · rcases List.mem_cons.mp (I3.stkSub b z) with w | w
        · exact (f3 b hb).2.1 w
        · exact (f3 b hb).2.2.1 w
      · rw [List.mem_singleton.mp hp] at z
        have q : h'.objs.size = b := z
        exact absurd (Nat.lt_trans (lt3 b hb) ha) (by rw [q]; exact Nat.lt_irrefl _)
      · rw [List.mem_singleton.mp hp]
        exact hSne _ (Nat.le_refl _)
end
end Gx
namespace Gx
open PySem PySem.Spec PyProof.Rows L2 GenW
section
variable {X : Cx} {pins : List (Addr × Obj)} {σ : L2.St} {H : Hp} {s : Shared} {sc : Scope} {x : Str}
def NyAll (Qb : Bool → Hp → Prop) (W : WT) : Nat → List V → V → Hp → Prop := fun m ys y H => ∃ b : Bool, y = .bl b ∧ if b = true then ∃ m', m' < m ∧ W m' (ys ++ [y]) H else Qb false H
abbrev noRel : List V → Array Value → Prop := fun _ _ => True
theorem all_turns {Z : Cx} {q : List (Addr × Obj)} {W : WT} {Qb : Bool → Hp → Prop} {A : Around} {a : Addr} {g : Nat} {Rr : Result → Shared → Prop} (hh : A.handled = none) (hd : A.depth < recursionLimit)
    (fin : ∀ ps σz Hz s7, Inv Z (q ++ ps) σz Hz s7 → Inv X pins σ Hz s7 ∧ s7.heap.IsGen a g)
    (hdone : ∀ b H' s', Inv X pins σ H' s' → Qb b H' → Rr (.ok (.ret (.bool b))) s') :
    ∀ (n : Nat) (s : Shared), s.heap.IsGen a g → s.heap.NoLimit →
      (∃ gs, s.gens[g]? = some gs ∧ gs.Goes (model X.prog X.w) A.in1.in1 (GRx Z q none noRel fun _ => Qb true) (GYx Z q none noRel W (NyAll Qb W)) n (.send .none) (s.setGen g .running)) →
      codeAny (model X.prog X.w) A (.builtin "all.loop" ⟨[.ref a], []⟩) Rr s := by
  intro n
  induction n using Nat.strongRecOn with
  | ind n ih =>
    intro s hg hl ⟨gs, hgs, hgo⟩
    have hgl : g < s.gens.size := (Array.getElem?_eq_some_iff.mp hgs).1
    refine codeAny_builtin F.entry_all_loop ?_; rw [Around.under_plainId F.plain_all_loop _]
    show wpAny _ A.in1 (pyNext (.ref a) >>= _) _ _ s
    refine wpAny_bind (wpAny_gsz (n := g + 1) hgl (next_genG (A := A.in1) hh hl hd hg hgs hgo (fun v s₁ gs' hbare hv => ?_) (fun s₁ hp h' hk => ?_) fun e s₁ he => he.elim))
    · intro hsz
      obtain ⟨m, ys, y, σz, Hz, ps, hm, rv, hps, _, J, ⟨b, eb, hb⟩, hkap⟩ := hv
      subst eb
      have eps : ps = [] := hps
      subst eps
      have ev : v = Value.bool b := rv
      subst ev
      obtain ⟨I1, g1⟩ := fin _ _ _ _ J
      have hsz1 : g < s₁.gens.size := by
        have q1 : (s₁.setGen g gs').gens.size = s₁.gens.size := setGen_size _ _ _
        have q2 : g + 1 ≤ (s₁.setGen g gs').gens.size := hsz
        omega
      have bare2 : AllBare (s₁.setGen g gs').gens := allBare_setGen I1.bare hbare
      refine wpAny_bind (wpAny_holding (wpAny_truthy_bool ?_))
      refine wpAny_bind (wpAny_letGo ?_)
      cases b with
      | true =>
        obtain ⟨m', hm', hw⟩ : ∃ m', m' < m ∧ W m' (ys ++ [V.bl true]) Hz := by simpa using hb
        simp only [if_true]
        cases n with
        | zero => omega
        | succ n =>
          refine wpAny_pure ⟨plainId_quiet F.plain_all_loop _, ih n (Nat.lt_succ_self n) (s₁.setGen g gs') g1 I1.nolimit ⟨gs', setGen_at hsz1, ?_⟩⟩
          exact hkap ((s₁.setGen g gs').setGen g .running) ⟨rfl, allBare_setGen bare2 rfl, fun b o _ e => e, fun S z => by cases z⟩ m' hm' hw
      | false =>
        have hq : Qb false Hz := by simpa using hb
        simp only [Bool.false_eq_true, if_false]
        exact wpAny_bind (wpAny_rule (wpAny_pure (hdone false Hz _ (regens I1 rfl (fun _ _ e => e) bare2) hq)))
    · intro hsz
      obtain ⟨ys, σz, Hz, ps, hps, _, J, hq⟩ := hp
      have eps : ps = [] := hps
      subst eps
      obtain ⟨I1, g1⟩ := fin _ _ _ _ J
      exact wpAny_bind (wpAny_rule (wpAny_pure (hdone true Hz _ (regens I1 rfl (fun b o e => hk b o e) (allBare_setGen I1.bare rfl)) hq)))
/-- all(elt for x in iter) -/
def tAllG (P : Addr) (wi : TI) (te : TE) : TE := fun σ H Q => tGen P wi te (NyAll fun b H => Q (.bl b) H) (fun _ H => Q (.bl true) H) σ H
theorem pe_allG {elt iter : Expr} {px p pos gpos : Pos} {c P : Addr} {wi : TI} {te : TE} {k : Nat}
    (hr : Room (k + 3) X.A) (hg : Gl X "all") (hm : X.mg "all" = none) (TB : GxR.TabB X.base X.mg c P) (hcode : X.env.code = .ref c) (S : GSc sc x) (hi : PI X (.Name x px) iter wi)
    (he : ∀ (A : Around) (code : Value) (s4 : Shared) (H4 : Hp) (fp : List Addr), Room k (A.deeper (gE X sc s4.heap.objs.size code)) → PE (gCx X A sc x code s4 H4 fp) elt te)
    (hs : ∀ v, genFold iter X.env v = pure v)
    (hst : starEach [.GeneratorExp elt [⟨.Name x px, iter, [], 0⟩] sc gpos] X.env = (false, eval (.GeneratorExp elt [⟨.Name x px, iter, [], 0⟩] sc gpos) X.env) :: starEach [] X.env := by rfl) :
    PE X (.Call (.Name "all" p) [.GeneratorExp elt [⟨.Name x px, iter, [], 0⟩] sc gpos] [] pos) (tAllG P wi te) := by
  refine ⟨fun pins s σ H Q I h => ?_⟩
  have hb : bootBuiltins "all" = some (.builtin "all") := by decide +kernel
  refine wpAny_Call_Name_kw (ld_blt I hg hm hb (PyProof.Rows.callWith_builtin1 ?_ hst (by rfl)))
  rw [hst]
  show wpAny _ _ (spliced ((false, eval (.GeneratorExp elt [⟨.Name x px, iter, [], 0⟩] sc gpos) X.env) :: backTo pos (starEach [] X.env))) _ _ s
  refine Calls.spliced_cons (gx_make (k := k) (Rel := noRel) hr TB hcode S hi he hs I h fun a s5 hB => Calls.spliced_nil ?_)
  obtain ⟨g, cd, H4, hgen, hfresh, I5, ha, wake⟩ := hB
  refine call_function_tree F.kind_all F.plain_all F.entry_all (F.args_all1 _) ?_
  unfold Builtin.«all»
  refine wpAny_bind (m := oneArg "all" _) (wpAny_pure (wpAny_bind (wpAny_pyIter_gen hgen ?_)))
  obtain ⟨Z, q, W, m0, fin, seg⟩ := wake X.A.in1.in1 none (s5.setGen g .running) ((hr.mono (by omega : k + 1 + 1 + 1 ≤ k + 3)).in1.in1) I.ok.frames (fun S z => by cases z) (fun _ _ e => e) rfl (allBare_setGen I5.bare rfl)
  refine wpAny_pure ⟨plainId_quiet F.plain_all_loop _, all_turns (Qb := fun b H => Q (.bl b) H) hr.hd hr.depth fin (fun b H' s' I' hq => ?_) (m0 + 1) s5 hgen I5.nolimit ⟨_, hfresh, rfl, seg⟩⟩
  exact ⟨.bl b, H', I', rfl, hq⟩
end
end Gx
namespace Gx
open PySem PySem.Spec PyProof.Rows L2 GenW
section
variable {X : Cx} {pins : List (Addr × Obj)} {σ : L2.St} {H : Hp} {s : Shared} {sc : Scope} {x : Str}
theorem cmp_gt {prog : Program} {w : World} {A : Around} {E : Value → Shared → Prop} {i j : Int} {t u : Tok} {Q : Value → Shared → Prop} (h : Q (.bool (decide (i > j))) s) :
    wpAny (model prog w) A (richCompare .Gt (.int i t) (.int j u)) Q E s :=
  CmpOf.ints_gt (P := fun n v => ∃ t, v = .int (if n = 0 then i else j) t) (fun n => if n = 0 then i else j) (fun _ _ h => h) 0 1 _ _ s Q E ⟨t, rfl⟩ ⟨u, rfl⟩ h
def MaxRel (ys : List V) (acc : Array Value) : Prop :=
  ∃ ns : List Int, ys = ns.map V.int ∧ ((ns = [] ∧ acc = #[]) ∨ ∃ b t, acc = #[.int b t, .int b t] ∧ b ∈ ns ∧ ∀ z ∈ ns, z ≤ b)
def NyMax (W : WT) : Nat → List V → V → Hp → Prop := fun m ys y H => ∃ i : Int, y = .int i ∧ ∃ m', m' < m ∧ W m' (ys ++ [y]) H
def NsMax (Qm : Int → Hp → Prop) : List V → Hp → Prop := fun ys H => ∃ ns : List Int, ys = ns.map V.int ∧ ns ≠ [] ∧ ∀ b, b ∈ ns → (∀ z ∈ ns, z ≤ b) → Qm b H
theorem map_int_inj {a b : List Int} (h : a.map V.int = b.map V.int) : a = b := by
  induction a generalizing b with
  | nil => cases b with
    | nil => rfl
    | cons _ _ => cases h
  | cons x a ih => cases b with
    | nil => cases h
    | cons y b =>
      rw [List.map_cons, List.map_cons] at h
      injection h with h1 h2
      injection h1 with h1
      rw [h1, ih h2]
theorem MaxRel.first {i : Int} {t : Tok} {ys : List V} (h : MaxRel ys #[]) : MaxRel (ys ++ [.int i]) #[.int i t, .int i t] := by
  obtain ⟨ns, rfl, h | ⟨b, u, e, _⟩⟩ := h
  · rw [h.1]
    exact ⟨[i], rfl, .inr ⟨i, t, rfl, by simp, by simp⟩⟩
  · have := congrArg Array.size e
    simp at this
theorem MaxRel.more {i b : Int} {t u : Tok} {ys : List V} (h : MaxRel ys #[.int b u, .int b u]) : MaxRel (ys ++ [.int i]) (if decide (i > b) = true then #[.int i t, .int i t] else #[.int b u, .int b u]) := by
  obtain ⟨ns, rfl, h | ⟨b', u', e, hb, hm⟩⟩ := h
  · have := congrArg Array.size h.2
    simp at this
  · have e' : b = b' := by
      have := congrArg (fun a : Array Value => a[0]?) e
      simp at this
      exact this.1
    subst e'
    refine ⟨ns ++ [i], by simp, .inr ?_⟩
    by_cases hi : i > b
    · rw [if_pos (decide_eq_true hi)]
      refine ⟨i, t, rfl, by simp, fun z hz => ?_⟩
      rcases List.mem_append.mp hz with q | q
      · exact Int.le_of_lt (Int.lt_of_le_of_lt (hm z q) hi)
      · rw [List.mem_singleton.mp q]; exact Int.le_refl _
    · rw [if_neg (by rw [decide_eq_false hi]; exact Bool.false_ne_true)]
      refine ⟨b, u, rfl, List.mem_append_left _ hb, fun z hz => ?_⟩
      rcases List.mem_append.mp hz with q | q
      · exact hm z q
      · rw [List.mem_singleton.mp q]; omega
theorem MaxRel.last {b : Int} {u : Tok} {ys : List V} {Qm : Int → Hp → Prop} (h : MaxRel ys #[.int b u, .int b u]) (q : NsMax Qm ys H) : Qm b H := by
  obtain ⟨ns, rfl, h | ⟨b', u', e, hb, hm⟩⟩ := h
  · have := congrArg Array.size h.2
    simp at this
  · have e' : b = b' := by
      have := congrArg (fun a : Array Value => a[0]?) e
      simp at this
      exact this.1
    subst e'
    obtain ⟨ms, e1, _, hq⟩ := q
    rw [map_int_inj e1] at hb hm
    exact hq b hb hm
theorem MaxRel.none {ys : List V} {Qm : Int → Hp → Prop} (h : MaxRel ys #[]) (q : NsMax Qm ys H) : False := by
  obtain ⟨ns, rfl, h | ⟨b', u', e, hb, hm⟩⟩ := h
  · obtain ⟨ms, e1, h2, _⟩ := q
    rw [h.1] at e1
    exact h2 (map_int_inj e1).symm
  · have := congrArg Array.size e
    simp at this
/-- what stands at the consumer's list is what it read -/
theorem held_eq {S : Addr} {Rel : Array Value → Prop} {ps : List (Addr × Obj)} {s₀ : Shared} {acc : Array Value} {c : Nat} (hps : Held (some S) Rel ps) (h0 : ∀ p ∈ ps, s₀.heap.get? p.1 = some p.2) (hS : s₀.heap.get? S = some (lstObj acc c)) :
    ps = [(S, lstObj acc c)] ∧ Rel acc := by
  obtain ⟨acc', c', e, hR⟩ := hps
  subst e
  have q := h0 _ (List.mem_singleton.mpr rfl)
  rw [hS] at q
  injection q with q
  have q1 : (Data.seq acc c : Data) = Data.seq acc' c' := congrArg Obj.data q
  injection q1 with q1 q2
  subst q1 q2
  exact ⟨rfl, hR⟩
theorem max_turns {Z : Cx} {q : List (Addr × Obj)} {W : WT} {Qm : Int → Hp → Prop} {A : Around} {a S : Addr} {g : Nat} {Rr : Result → Shared → Prop} (hh : A.handled = none) (hd : A.depth < recursionLimit) (hSa : S ≠ a) (hSc : S ≠ cStatics)
    (fin : ∀ ps σz Hz s7, Inv Z (q ++ ps) σz Hz s7 → Inv X pins σ Hz s7 ∧ s7.heap.IsGen a g)
    (hin : ∀ (ps : List (Addr × Obj)) σz Hz s7 acc c s8, Inv Z (q ++ ps) σz Hz s7 → ps = [(S, lstObj acc c)] → (∀ b o, b ≠ S → s7.heap.get? b = some o → s8.heap.get? b = some o) → s8.os = s7.os → AllBare s8.gens → Inv X pins σ Hz s8)
    (hdone : ∀ b t H' s', Inv X pins σ H' s' → Qm b H' → Rr (.ok (.ret (.int b t))) s') :
    ∀ (n : Nat) (s : Shared) (acc : Array Value) (c : Nat), (acc = #[] ∨ ∃ b t, acc = #[.int b t, .int b t]) → s.heap.get? S = some (lstObj acc c) → s.heap.IsGen a g → s.heap.NoLimit →
      (∃ gs, s.gens[g]? = some gs ∧ gs.Goes (model X.prog X.w) A.in1.in1 (GRx Z q (some S) MaxRel (NsMax Qm)) (GYx Z q (some S) MaxRel W (NyMax W)) n (.send .none) (s.setGen g .running)) →
      codeAny (model X.prog X.w) A (.builtin "max.loop" ⟨[.ref a, .none, .ref S], []⟩) Rr s := by
  have hname : (toString "max" ++ toString ".loop" : String) = "max.loop" := by decide
  intro n
  induction n using Nat.strongRecOn with
  | ind n ih =>
    intro s acc c hacc hS hg hl ⟨gs, hgs, hgo⟩
    have hgl : g < s.gens.size := (Array.getElem?_eq_some_iff.mp hgs).1
    refine codeAny_builtin F.entry_max_loop ?_; rw [Around.under_plainId F.plain_max_loop _]
    show wpAny _ A.in1 (seqItems? (.ref S) >>= _) _ _ s
    refine wpAny_bind (wpAny_seqItems hS rfl ?_)
    have turn : ∀ (v : Value) (s₁ : Shared) (gs' : GenState) (m : Nat) (ys : List V) (i : Int) (t : Tok) (Hz : Hp) (σz : L2.St) (ps : List (Addr × Obj)) (acc2 : Array Value), g < s₁.gens.size → gs'.bare = true → v = .int i t → m < n + 1 → ps = [(S, lstObj acc c)] → Inv Z (q ++ ps) σz Hz s₁ →
        (∃ m', m' < m ∧ W m' (ys ++ [.int i]) Hz) → MaxRel (ys ++ [.int i]) acc2 → (∃ b t, acc2 = #[.int b t, .int b t]) →
        (∀ s', Woke (some S) (MaxRel (ys ++ [.int i])) s₁ s' → ∀ m', m' < m → W m' (ys ++ [.int i]) Hz → (match (generalizing := false) n with | 0 => False | k + 1 => gs'.Goes (model X.prog X.w) A.in1.in1 (GRx Z q (some S) MaxRel (NsMax Qm)) (GYx Z q (some S) MaxRel W (NyMax W)) k (.send .none) s')) →
        ∀ (s2 : Shared) (c2 : Nat), s2.heap.get? S = some (lstObj acc2 c2) → (∀ b o, b ≠ S → s₁.heap.get? b = some o → s2.heap.get? b = some o) → s2.os = s₁.os → s2.gens = (s₁.setGen g gs').gens →
          codeAny (model X.prog X.w) A (.builtin "max.loop" ⟨[.ref a, .none, .ref S], []⟩) Rr s2 := by
      intro v s₁ gs' m ys i t Hz σz ps acc2 hsz hbare _ hm hps J ⟨m', hm', hw⟩ hR hacc2 hkap s2 c2 hS2 k2 os2 gens2
      cases n with
      | zero => omega
      | succ n =>
        obtain ⟨I1, g1⟩ := fin _ _ _ _ J
        have bare2 : AllBare (s₁.setGen g gs').gens := allBare_setGen I1.bare hbare
        have I2 := hin _ _ _ _ _ _ s2 J hps k2 os2 (by rw [gens2]; exact bare2)
        have size2 : g < s2.gens.size := by
          rw [gens2, setGen_size]; exact hsz
        refine ih n (Nat.lt_succ_self n) s2 acc2 c2 (.inr hacc2) hS2 ?_ I2.nolimit ⟨gs', ?_, ?_⟩
        · obtain ⟨o, nm, qn, ho, r⟩ := g1
          exact ⟨o, nm, qn, k2 a o (Ne.symm hSa) ho, r⟩
        · rw [gens2]; exact setGen_at hsz
        · refine hkap (s2.setGen g .running) ⟨os2, allBare_setGen I2.bare rfl, fun b o hb e => k2 b o (fun z => hb (by rw [z])) e, fun S' z => ?_⟩ m' hm' hw
          cases z
          exact ⟨acc2, c2, hS2, hR⟩
    have nx : ∀ (Q : Option Value → Shared → Prop) (E : Value → Shared → Prop),
        (∀ (v : Value) (s₁ : Shared) (gs' : GenState), gs'.bare = true → g < s₁.gens.size → GYx Z q (some S) MaxRel W (NyMax W) (n - 1) (s.setGen g .running) v s₁ (fun r' s'' => match (generalizing := false) n with
            | 0 => False
            | m + 1 => gs'.Goes (model X.prog X.w) A.in1.in1 (GRx Z q (some S) MaxRel (NsMax Qm)) (GYx Z q (some S) MaxRel W (NyMax W)) m r' s'') → Q (some v) (s₁.setGen g gs')) →
        (∀ s₁, GFx Z q (some S) MaxRel (NsMax Qm) (s.setGen g .running) s₁ → ∀ h', (∀ b o, s₁.heap.get? b = some o → h'.get? b = some o) → Q none { s₁.setGen g .finished with heap := h' }) →
        wpAny (model X.prog X.w) A.in1 (pyNext (.ref a)) Q E s := fun Q E hY hP =>
      wpAny_gsz (n := g + 1) hgl (next_genG (A := A.in1) hh hl hd hg hgs hgo (fun v s₁ gs' hbare hv hsz => hY v s₁ gs' hbare (by
        have q1 : (s₁.setGen g gs').gens.size = s₁.gens.size := setGen_size _ _ _
        have q2 : g + 1 ≤ (s₁.setGen g gs').gens.size := hsz
        omega) hv) (fun s₁ hp h' hk _ => hP s₁ hp h' hk) fun e s₁ he => he.elim)
    rcases hacc with rfl | ⟨b, tb, rfl⟩
    · show wpAny _ A.in1 (tryCatch (pyNext (.ref a)) _ >>= _) _ _ s
      refine wpAny_bind (wpAny_tryCatch (nx _ _ (fun v s₁ gs' hbare hsz hv => ?_) fun s₁ hp h' hk => ?_))
      · obtain ⟨m, ys, y, σz, Hz, ps, hm, rv, hps, h0, J, ⟨i, ey, hw⟩, hkap⟩ := hv
        subst ey
        obtain ⟨t, rfl⟩ := rv
        obtain ⟨eps, hR⟩ := held_eq hps h0 hS
        have hS1 : s₁.heap.get? S = some (lstObj #[] c) := (J.pin (S, lstObj #[] c) (List.mem_append_right _ (List.mem_append_right _ (by rw [eps]; exact List.mem_singleton.mpr rfl)))).1
        show wpAny _ A.in1 (updateSeq S (fun _ => #[.int i t, .int i t]) >>= _) _ _ _
        refine wpAny_bind (wpAny_updateSeq hS1 rfl ?_)
        rw [hname]
        refine wpAny_pure ⟨plainId_quiet F.plain_max_loop _, turn _ s₁ gs' m ys i t Hz σz ps #[.int i t, .int i t] hsz hbare rfl (by omega) eps J hw hR.first ⟨i, t, rfl⟩ hkap _ _ (Heap.get?_update_self _ hS1 rfl) (fun b o hb e => (Heap.get?_update_other _ _ (Ne.symm hb)).trans e) rfl rfl⟩
      · obtain ⟨ys, σz, Hz, ps, hps, h0, J, hq⟩ := hp
        obtain ⟨eps, hR⟩ := held_eq hps h0 hS
        exact (hR.none hq).elim
    · show wpAny _ A.in1 (tryCatch (pyNext (.ref a)) _ >>= _) _ _ s
      refine wpAny_bind (wpAny_tryCatch (nx _ _ (fun v s₁ gs' hbare hsz hv => ?_) fun s₁ hp h' hk => ?_))
      · obtain ⟨m, ys, y, σz, Hz, ps, hm, rv, hps, h0, J, ⟨i, ey, hw⟩, hkap⟩ := hv
        subst ey
        obtain ⟨t, rfl⟩ := rv
        obtain ⟨eps, hR⟩ := held_eq hps h0 hS
        have hS1 : s₁.heap.get? S = some (lstObj #[.int b tb, .int b tb] c) := (J.pin (S, lstObj _ c) (List.mem_append_right _ (List.mem_append_right _ (by rw [eps]; exact List.mem_singleton.mpr rfl)))).1
        have hR2 := hR.more (i := i) (t := t)
        show wpAny _ A.in1 (tryCatch (holding [.int i t, .int i t] (richCompare .Gt (.int i t) (.int b tb) >>= _)) _ >>= _) _ _ _
        refine wpAny_bind (wpAny_tryCatch (wpAny_holding (wpAny_bind (cmp_gt ?_))))
        refine wpAny_bind (wpAny_holding (wpAny_truthy_bool ?_))
        refine wpAny_bind (wpAny_letGo (wpAny_pure ?_))
        cases hb : decide (i > b) with
        | true =>
          rw [if_pos hb] at hR2
          simp only [if_true]
          refine wpAny_bind (wpAny_updateSeq hS1 rfl (wpAny_bind (wpAny_letGo ?_)))
          rw [hname]
          refine wpAny_pure ⟨plainId_quiet F.plain_max_loop _, turn _ s₁ gs' m ys i t Hz σz ps #[.int i t, .int i t] hsz hbare rfl (by omega) eps J hw hR2 ⟨i, t, rfl⟩ hkap _ _ (Heap.get?_update_self _ hS1 rfl) (fun b o hb e => (Heap.get?_update_other _ _ (Ne.symm hb)).trans e) rfl rfl⟩
        | false =>
          rw [if_neg (by rw [hb]; exact Bool.false_ne_true)] at hR2
          simp only [Bool.false_eq_true, if_false]
          refine wpAny_bind (wpAny_letGo ?_)
          rw [hname]
          exact wpAny_pure ⟨plainId_quiet F.plain_max_loop _, turn _ s₁ gs' m ys i t Hz σz ps #[.int b tb, .int b tb] hsz hbare rfl (by omega) eps J hw hR2 ⟨b, tb, rfl⟩ hkap _ c hS1 (fun _ _ _ e => e) rfl rfl⟩
      · obtain ⟨ys, σz, Hz, ps, hps, h0, J, hq⟩ := hp
        obtain ⟨eps, hR⟩ := held_eq hps h0 hS
        have hS1 : s₁.heap.get? S = some (lstObj #[.int b tb, .int b tb] c) := (J.pin (S, lstObj _ c) (List.mem_append_right _ (List.mem_append_right _ (by rw [eps]; exact List.mem_singleton.mpr rfl)))).1
        obtain ⟨I1, g1⟩ := fin _ _ _ _ J
        show wpAny _ A.in1 (updateSeq S (fun _ => #[]) >>= _) _ _ _
        refine wpAny_bind (wpAny_updateSeq (hk _ _ hS1) rfl (wpAny_bind (wpAny_letGo (wpAny_pure ?_))))
        refine hdone b tb Hz _ (hin _ _ _ _ _ _ _ J eps (fun d o hd' e => (Heap.get?_update_other _ _ (Ne.symm hd')).trans (hk d o e)) rfl (allBare_setGen I1.bare rfl)) (hR.last hq)
/-- max(elt for x in iter), whole numbers -/
def tMaxG (P : Addr) (wi : TI) (te : TE) : TE := fun σ H Q => tGen P wi te NyMax (NsMax fun b H => Q (.int b) H) σ H
theorem pe_maxG {elt iter : Expr} {px p pos gpos : Pos} {c P : Addr} {wi : TI} {te : TE} {k : Nat}
    (hr : Room (k + 3) X.A) (hg : Gl X "max") (hm : X.mg "max" = none) (TB : GxR.TabB X.base X.mg c P) (hcode : X.env.code = .ref c) (Sc : GSc sc x) (hi : PI X (.Name x px) iter wi)
    (he : ∀ (A : Around) (code : Value) (s4 : Shared) (H4 : Hp) (fp : List Addr), Room k (A.deeper (gE X sc s4.heap.objs.size code)) → PE (gCx X A sc x code s4 H4 fp) elt te)
    (hs : ∀ v, genFold iter X.env v = pure v)
    (hst : starEach [.GeneratorExp elt [⟨.Name x px, iter, [], 0⟩] sc gpos] X.env = (false, eval (.GeneratorExp elt [⟨.Name x px, iter, [], 0⟩] sc gpos) X.env) :: starEach [] X.env := by rfl) :
    PE X (.Call (.Name "max" p) [.GeneratorExp elt [⟨.Name x px, iter, [], 0⟩] sc gpos] [] pos) (tMaxG P wi te) := by
  have hname : (toString "max" ++ toString ".loop" : String) = "max.loop" := by decide
  refine ⟨fun pins s σ H Q I h => ?_⟩
  have hb : bootBuiltins "max" = some (.builtin "max") := by decide +kernel
  refine wpAny_Call_Name_kw (ld_blt I hg hm hb (PyProof.Rows.callWith_builtin1 ?_ hst (by rfl)))
  rw [hst]
  show wpAny _ _ (spliced ((false, eval (.GeneratorExp elt [⟨.Name x px, iter, [], 0⟩] sc gpos) X.env) :: backTo pos (starEach [] X.env))) _ _ s
  refine Calls.spliced_cons (gx_make (k := k) (Rel := MaxRel) hr TB hcode Sc hi he hs I h fun a s5 hB => Calls.spliced_nil ?_)
  obtain ⟨g, cd, H4, hgen, hfresh, I5, ha, wake⟩ := hB
  refine call_function_tree F.kind_max F.plain_max F.entry_max (F.args_max1 _) ?_
  show wpAny _ X.A.in1 (Builtin.Builtins.bindParams "max" ["key", "default"] 0 ⟨[], []⟩ >>= _) _ _ s5
  refine wpAny_bind (wpAny_of_eq (show Builtin.Builtins.bindParams "max" ["key", "default"] 0 ⟨[], []⟩ = pure [none, none] from rfl) ?_)
  refine wpAny_bind (wpAny_pure (wpAny_bind (wpAny_pyIter_gen hgen ?_)))
  refine wpAny_bind (wpAny_newObj_type ?_)
  rw [hname]
  have hS5 : (s5.heap.push { cls := .type "list", data := .seq #[] }).get? s5.heap.objs.size = some (lstObj #[] 0) := Heap.get?_push_size _ rfl
  have kp5 : ∀ b o, s5.heap.get? b = some o → (s5.heap.push { cls := .type "list", data := .seq #[] }).get? b = some o := fun b o e => Heap.get?_push_of_some _ e
  have I6 : Inv X pins σ H4 { s5 with heap := s5.heap.push { cls := .type "list", data := .seq #[] } } := regens I5 rfl kp5 I5.bare
  obtain ⟨Z, q, W, m0, fin, seg⟩ := wake X.A.in1.in1 (some s5.heap.objs.size) (({ s5 with heap := s5.heap.push { cls := .type "list", data := .seq #[] } } : Shared).setGen g .running) ((hr.mono (by omega : k + 1 + 1 + 1 ≤ k + 3)).in1.in1) I.ok.frames
    (fun S z => by cases z; exact ⟨Nat.le_refl _, #[], 0, hS5, [], rfl, .inl ⟨rfl, rfl⟩⟩) kp5 rfl (allBare_setGen I6.bare rfl)
  have hcl : cStatics < s5.heap.objs.size := let ⟨_, hn, _⟩ := I5.nolimit; hn.lt
  refine wpAny_pure ⟨plainId_quiet F.plain_max_loop _, max_turns (Qm := fun b H => Q (.int b) H) hr.hd hr.depth (Nat.ne_of_gt ha) (Nat.ne_of_gt hcl) fin (fun ps σz Hz s7 acc c' s8 J eps k8 o8 b8 => ?_) (fun b t H' s' I' hq => ?_) (m0 + 1) _ #[] 0 (.inl rfl) hS5 (hgen.keeps kp5) I6.nolimit ⟨_, hfresh, rfl, seg⟩⟩
  · subst eps
    obtain ⟨h1, h2, h3, h4, _⟩ := J.pin (s5.heap.objs.size, lstObj acc c') (List.mem_append_right _ (List.mem_append_right _ (List.mem_singleton.mpr rfl)))
    obtain ⟨I7, _⟩ := fin _ _ _ _ J
    have ni : ∀ b : Addr, b ∉ [s5.heap.objs.size] → b ≠ s5.heap.objs.size := fun b hb e => hb (by rw [e]; exact List.mem_singleton.mpr rfl)
    have nS : ∀ b u, Hz b = some u → b ≠ s5.heap.objs.size := fun b u e z => by rw [z, h2] at e; cases e
    have kp8 : ∀ b o, b ∉ [s5.heap.objs.size] → s7.heap.get? b = some o → s8.heap.get? b = some o := fun b o hb e => k8 b o (ni b hb) e
    refine I7.call' (ch := [s5.heap.objs.size]) o8 ⟨fun b o e _ _ hx => kp8 b o hx e, fun b o e _ _ hx => ⟨o.slots, kp8 b o hx e⟩, fun _ _ _ n _ => n, fun b o e hx => ⟨o, kp8 b o hx e⟩,
      fun _ _ e => e, fun _ _ _ e => e, fun _ _ e => ⟨#[], by rw [e]; simp⟩⟩ (fun b u e => ?_) b8 fun b hb => ?_
    · refine (I7.hok b u e).stay (fun d v hd z => k8 d v ?_ z) (fun _ z => z) fun _ _ z => z
      rcases hd with z | z
      · rw [z]; exact nS b u e
      · exact nS d _ z
    · rw [List.mem_singleton.mp hb]
      obtain ⟨_, a2, _, a4, a5, a6⟩ := I5.fpOk (Nat.le_refl _) h2
      exact ⟨a4, a2, a5, a6⟩
  · exact ⟨.int b, H', I', ⟨t, rfl⟩, hq⟩
end
end Gx
namespace TG
open PySem L2
def top (i : Nat) : Stmt := PySem.Challenge.pw_tabgrow_k14_cursors_go.main.body.getD i (.Pass ⟨0, 0, 0, 0⟩)
abbrev s_is_whole : Stmt := top 14
abbrev s_is_sign : Stmt := top 15
abbrev s_is_text : Stmt := top 16
abbrev s_is_row : Stmt := top 17
abbrev s_misfit : Stmt := top 18
abbrev s_check_page : Stmt := top 19
abbrev s_check_style : Stmt := top 20
abbrev s_stretches : Stmt := top 22
abbrev s_closed_runs : Stmt := top 23
abbrev s_is_closed : Stmt := top 24
abbrev s_described : Stmt := top 25
abbrev s_stands_right : Stmt := top 26
abbrev s_is_figures : Stmt := top 27
abbrev s_laid : Stmt := top 29
abbrev s_closed_cells : Stmt := top 30
abbrev s_left_ends : Stmt := top 31
abbrev s_begins_of : Stmt := top 32
abbrev s_begun : Stmt := top 41
abbrev s_take : Stmt := top 42
abbrev s_alike : Stmt := top 43
abbrev s_sign : Stmt := top 44
abbrev s_cell : Stmt := top 45
abbrev s_row : Stmt := top 46
abbrev s_page : Stmt := top 47
abbrev s_style : Stmt := top 48
abbrev s_figures : Stmt := top 49
abbrev s_mates : Stmt := top 50
abbrev s_wide : Stmt := top 51
abbrev s_turned : Stmt := top 52
abbrev s_ends : Stmt := top 53
abbrev s_begins : Stmt := top 54
abbrev s_places : Stmt := top 55
abbrev s_gone : Stmt := top 56
abbrev s_went : Stmt := top 57
abbrev s_law : Stmt := top 58
/-- the built-ins that the text calls are the built-ins still -/
structure Txt (mg : Str → Option Value) : Prop where
  isin : mg "isinstance" = none
  len : mg "len" = none
  range : mg "range" = none
  max : mg "max" = none
  min : mg "min" = none
  all : mg "all" = none
  str : mg "str" = none
  int : mg "int" = none
  bool : mg "bool" = none
  list : mg "list" = none
  tuple : mg "tuple" = none
  enum : mg "enumerate" = none
  ord : mg "ord" = none
def BoxAt (H : Hp) (b l : Addr) : Prop := ∃ (ns : List Int) (st : Int), H b = some (.lst [.ref l, .int st]) ∧ H l = some (.lst (ns.map V.int)) ∧ ns.length ≤ 63
/-- all but the box stays -/
def KB (b l : Addr) (H H' : Hp) : Prop := ∀ c o, H c = some o → c ≠ b → c ≠ l → H' c = some o
theorem KB.refl {b l : Addr} {H : Hp} : KB b l H H := fun _ _ h _ _ => h
theorem KB.trans {b l : Addr} {H H1 H2 : Hp} (x : KB b l H H1) (y : KB b l H1 H2) : KB b l H H2 := fun c o h n m => y c o (x c o h n m) n m
theorem box_ne {H : Hp} {b l : Addr} (x : BoxAt H b l) : b ≠ l := by
  obtain ⟨ns, st, h1, h2, _⟩ := x
  refine ne_of h1 h2 fun z => ?_
  injection z with z
  cases ns with
  | nil => cases z
  | cons n ns =>
    rw [List.map_cons] at z
    injection z with z _
    cases z
theorem nz {i : Int} (h : i ≠ 0) : i ≠ 0 := h
theorem at0 {α : Type} {v : α} {xs : List α} : atI (v :: xs) 0 = some v := atI_nat (j := 0) rfl
theorem ix0 {n : Nat} : ixN (n + 1) 0 = some 0 := by
  unfold ixN
  rw [if_pos (by decide), if_pos (by omega)]
  rfl
theorem small0 : ([] : List V).length ≤ sizeLine := Nat.zero_le _
theorem dp_ints {K : PySem.W.Frag} {H : Hp} : ∀ ns : List Int, DpAll K H (ns.map V.int) (ns.map PyData.int)
  | [] => .nil
  | n :: ns => .cons (.int n) (dp_ints ns)
theorem canAll_ints : ∀ ns : List Int, PyData.canLayAll0 (ns.map PyData.int) = true
  | [] => rfl
  | _ :: r => by simp [PyData.canLayAll0, PyData.canLay0, canAll_ints r]
theorem depthAll_ints : ∀ ns : List Int, PyData.depthAll (ns.map PyData.int) = 0
  | [] => rfl
  | _ :: r => by simp [PyData.depthAll, PyData.depth, depthAll_ints r]
theorem shaped_of_ints (ns : List Int) : SeqAt.shaped (.list (ns.map PyData.int)) = true := by
  simp [SeqAt.shaped, PyData.canLay0, PyData.depth, canAll_ints, depthAll_ints]
def spTake : Sp := fun vs H Q _ => ∃ (b l : Addr) (many : Int), vs = [.ref b, .int many] ∧ BoxAt H b l ∧ 0 < many ∧ many < 1073741824 ∧
  ∀ (r : Int) (H' : Hp), 0 ≤ r → r < many → BoxAt H' b l → KB b l H H' → Q (.int r) H'
section
variable {P : Program} {w : World} {K : PySem.W.Frag} {mg : Str → Option Value} {base : Heap}
theorem sc_take : FnScope ["_law_box", "_law_many", "_law_number"] ["_law_box", "_law_many"] (defScope s_take) := ⟨rfl, rfl, rfl, by decide +kernel, rfl, by decide +kernel, by decide +kernel⟩
theorem ok_take {f : Addr} {fd : FuncData} (F : Fun K "_law_take" "_law_take" s_take f fd) : FnOk P w K mg base CX0 1 f fd ["_law_box", "_law_many"] spTake := by
  refine F.ok sc_take (fun vs H Q E h => ?_) (fun cdv A outer s H vs Q E hr h => ?_)
  · obtain ⟨b, l, many, rfl, _⟩ := h
    rfl
  · obtain ⟨b, l, many, rfl, hB, m0, m1, k⟩ := h
    have nd := sc_take.nd
    have hu := hr.units
    refine ⟨_, pss_cons (ps_if (pt_cmpR (op_eqD hu) (pe_ix ix_list (pv 0) pe_int (fun _ _ => rfl)) (pe_lst pa_nil) (nomark _))
        (pss_cons (ps_asg (pe_op op_modN (pe_op op_mul (pe_ix ix_list (pv 0) pe_int (fun _ _ => rfl)) pe_int) pe_int) (pg_sub (pv 0) pe_int set_list))
          (pss_one (ps_ret (pe_op op_modN (pe_op op_fdivN (pe_ix ix_list (pv 0) pe_int (fun _ _ => rfl)) pe_int) (pv 1))))) pss_nil)
      (pss_cons (ps_set (i := 2) nd rfl (.inl rfl) (pe_ix ix_list (pe_ix ix_list (pv 0) pe_int (fun _ _ => rfl)) pe_int (fun _ _ => rfl)))
      (pss_cons (ps_asg (pe_op op_fdivN (pv 2) (pv 1)) (pg_sub (pe_ix ix_list (pv 0) pe_int (fun _ _ => rfl)) pe_int set_list))
      (pss_cons (ps_if (PW.pt (pw_or (pt_cmpR op_eq (pe_ix ix_list (pe_ix ix_list (pv 0) pe_int (fun _ _ => rfl)) pe_int (fun _ _ => rfl)) pe_int (nomark _)) (pw_or1 (pt_cmpR op_eq (pe_ix ix_list (pe_ix ix_list (pv 0) pe_int (fun _ _ => rfl)) pe_int (fun _ _ => rfl)) (pe_un un_neg pe_int) (nomark _)))))
          (pss_one (ps_expr (pe_bm PySem.F.plainAttrs_list PySem.F.slot_list_pop PySem.F.type_list_pop mt_popAt (pe_ix ix_list (pv 0) pe_int (fun _ _ => rfl)) (pa_cons pe_int pa_nil)))) pss_nil)
      (pss_one (ps_ret (pe_op op_modN (pv 2) (pv 1))))))), ?_⟩
    obtain ⟨ns, st, h1, h2, h3⟩ := id hB
    have nbl := box_ne hB
    have len2 : ∀ o, (upd H b o) l = some (.lst (ns.map V.int)) := fun o => by rw [upd_ne nbl.symm]; exact h2
    -- _law_box[0] == []
    refine ⟨_, rfl, b, _, 0, .ref l, rfl, rfl, SqL.of h1, rfl, small0, fun p np => ?_⟩
    have npb : b ≠ p := ne_of_none h1 np
    have npl : l ≠ p := ne_of_none h2 np
    have g1 : (upd H p (.lst [])) b = some (.lst [.ref l, .int st]) := by rw [upd_ne npb]; exact h1
    have g2 : (upd H p (.lst [])) l = some (.lst (ns.map V.int)) := by rw [upd_ne npl]; exact h2
    have kp : KB b l H (upd H p (.lst [])) := fun c o e _ _ => by rw [upd_ne (ne_of_none e np)]; exact e
    refine ⟨.list (ns.map PyData.int), .list [], .lst (SqL.of g2) (dp_ints ns), .lst (SqL.of upd_same) .nil, shaped_of_ints ns, rfl, _, rfl, ?_⟩
    cases ns with
    | nil =>
      refine iteT ?_
      refine ⟨_, rfl, b, _, 1, .int st, rfl, rfl, SqL.of g1, rfl, st, 48271, rfl, rfl, .inr (by decide), _, _, rfl, rfl, nz (by decide), _, rfl, b, _, 1, 1, rfl, rfl, g1, rfl, ?_⟩
      refine ⟨_, rfl, b, _, 1, _, rfl, rfl, SqL.of upd_same, rfl, _, _, rfl, rfl, ⟨by decide, by decide⟩, _, rfl, _, _, rfl, rfl, nz (by omega), ?_⟩
      refine k _ _ (Int.fmod_nonneg_of_pos _ m0) (Int.fmod_lt_of_pos _ m0) ⟨[], _, upd_same, by rw [upd_ne nbl.symm]; exact g2, h3⟩ fun c o e hc hl => ?_
      rw [upd_ne hc]
      exact kp c o e hc hl
    | cons n ns =>
      refine iteF ?_
      refine ⟨_, rfl, b, _, 0, .ref l, rfl, rfl, SqL.of g1, rfl, l, _, 0, .int n, rfl, rfl, SqL.of g2, at0, ?_⟩
      refine ⟨_, rfl, _, rfl, n, many, rfl, rfl, ⟨by omega, by omega⟩, _, rfl, b, _, 0, .ref l, rfl, rfl, SqL.of g1, rfl, l, _, 0, 0, rfl, rfl, g2, ix0, ?_⟩
      have j1 : ∀ o, (upd (upd H p (.lst [])) l o) b = some (.lst [.ref l, .int st]) := fun o => by rw [upd_ne nbl]; exact g1
      have kl : ∀ o, KB b l H (upd (upd H p (.lst [])) l o) := fun o c u e hc hl => by rw [upd_ne hl]; exact kp c u e hc hl
      have fin : ∀ ms : List Int, ms.length ≤ 63 → Q (.int (n.fmod many)) (upd (upd H p (.lst [])) l (.lst (ms.map V.int))) := fun ms hm =>
        k _ _ (Int.fmod_nonneg_of_pos _ m0) (Int.fmod_lt_of_pos _ m0) ⟨ms, st, j1 _, upd_same, hm⟩ (kl _)
      have e0 : (List.map V.int (n :: ns)).set 0 (V.int (n.fdiv many)) = List.map V.int (n.fdiv many :: ns) := rfl
      rw [e0]
      -- == 0 or == -1
      refine ⟨_, rfl, b, _, 0, .ref l, rfl, rfl, SqL.of (j1 _), rfl, l, _, 0, .int (n.fdiv many), rfl, rfl, SqL.of upd_same, at0, rfl, _, rfl, ?_⟩
      have done : ∀ H', (∃ ms : List Int, ms.length ≤ 63 ∧ H' = upd (upd H p (.lst [])) l (.lst (ms.map V.int))) → ∃ v, ([some (V.ref b), some (V.int many), some (V.int n)] : L2.St)[2]? = some (some v) ∧ ∃ v_1, ([some (V.ref b), some (V.int many), some (V.int n)] : L2.St)[1]? = some (some v_1) ∧ ∃ i j, v = V.int i ∧ v_1 = V.int j ∧ j ≠ 0 ∧ Q (V.int (i.fmod j)) H' := fun H' ⟨ms, hm, e⟩ => by
        subst e
        exact ⟨_, rfl, _, rfl, n, many, rfl, rfl, nz (by omega), fin ms hm⟩
      have pop : ∀ Z : VK, (∀ y H', H' = upd (upd H p (.lst [])) l (.lst (ns.map V.int)) → Z y H') → rPopAt (.ref l) [.int 0] (upd (upd H p (.lst [])) l (.lst (List.map V.int (n.fdiv many :: ns)))) Z := fun Z hZ =>
        ⟨l, _, 0, 0, _, rfl, rfl, upd_same, by decide, by decide, by simp [seqIndex?], rfl, hZ _ _ (by rw [upd_upd]; rfl)⟩
      have h3' : ns.length ≤ 63 := by simp at h3; omega
      by_cases hz : n.fdiv many = 0
      · rw [decide_eq_true (show V.int (n.fdiv many) = V.int 0 by rw [hz])]
        refine iteT (iteT ⟨_, rfl, b, _, 0, .ref l, rfl, rfl, SqL.of (j1 _), rfl, .inl ⟨rfl, _, SqL.of upd_same⟩, pop _ fun y H' e => done H' ⟨ns, h3', e⟩⟩)
      · rw [decide_eq_false (show ¬ V.int (n.fdiv many) = V.int 0 from fun z => hz (by injection z))]
        refine iteF ⟨_, rfl, b, _, 0, .ref l, rfl, rfl, SqL.of (j1 _), rfl, l, _, 0, .int (n.fdiv many), rfl, rfl, SqL.of upd_same, at0, 1, rfl, rfl, _, rfl, ?_⟩
        refine ite2 (fun _ => ⟨_, rfl, b, _, 0, .ref l, rfl, rfl, SqL.of (j1 _), rfl, .inl ⟨rfl, _, SqL.of upd_same⟩, pop _ fun y H' e => done H' ⟨ns, h3', e⟩⟩) fun _ => ?_
        exact done _ ⟨n.fdiv many :: ns, h3, rfl⟩
end
end TG
namespace TG
open PySem L2
section
variable {P : Program} {w : World} {K : PySem.W.Frag} {mg : Str → Option Value} {base : Heap}
def spBegun (K : PySem.W.Frag) : Sp := fun vs H Q _ => ∃ (a : Addr) (ns : List Int), vs = [.ref a] ∧ SqL K H a (ns.map V.int) ∧ ns.length ≤ 63 ∧
  ∀ (b l : Addr) (H' : Hp), BoxAt H' b l → Same H H' → H b = none → H l = none → Q (.ref b) H'
theorem sc_begun : FnScope ["_law_script", "_law_stirred", "_law_cell_here"] ["_law_script"] (defScope s_begun) := ⟨rfl, rfl, rfl, by decide +kernel, rfl, by decide +kernel, by decide +kernel⟩
theorem ok_begun {f : Addr} {fd : FuncData} (T : Txt mg) (F : Fun K "_law_begun" "_law_begun" s_begun f fd) : FnOk P w K mg base CX0 1 f fd ["_law_script"] (spBegun K) := by
  refine F.ok sc_begun (fun vs H Q E h => ?_) (fun cdv A outer s H vs Q E hr h => ?_)
  · obtain ⟨a, ns, rfl, _⟩ := h
    rfl
  · obtain ⟨a, ns, rfl, hS, hl, k⟩ := h
    have nd := sc_begun.nd
    refine ⟨_, pss_cons (ps_set (i := 1) nd rfl (.inl rfl) pe_int) (pss_cons (ps_for PassesOwn.never rfl (pi_list (pv 0)) (pg_name (i := 2) nd rfl (.inl rfl))
        (pss_one (ps_set (i := 1) nd rfl (.inl rfl) (pe_op op_modN (pe_op op_add (pe_op op_add (pe_op op_mul (pv 1) pe_int) (pe_op op_mul (pv 2) pe_int)) pe_int) pe_int))))
      (pss_one (ps_ret (pe_lst (pa_cons (pe_callTy call_list_of (by rfl) T.list (by decide +kernel) (pa_cons (pv 0) pa_nil))
        (pa_cons (pe_op op_mul (pv 1) (pe_callTy call_int1 (by rfl) T.int (by decide +kernel) (pa_cons (pe_cmpR op_gt (pe_callB call_len_seq (by rfl) T.len PySem.boot_len (pa_cons (pv 0) pa_nil)) pe_int (nomark _)) pa_nil))) pa_nil)))))), ?_⟩
    refine ⟨_, rfl, a, rfl, ⟨_, hS⟩, for_list (xs := ns.map V.int) (fun _ σ H1 => H1 = H ∧ ∃ st c, σ = [some (.ref a), some (.int st), c]) ⟨rfl, 0, _, rfl⟩ (fun i σ H1 _ p => by rw [p.1]; exact hS) ?_ ?_⟩
    · rintro i x σ H1 hx ⟨rfl, st, c, rfl⟩
      obtain ⟨n, rfl⟩ : ∃ n, x = V.int n := by
        rw [List.getElem?_map] at hx
        cases e : ns[i]? with
        | none => rw [e] at hx; cases hx
        | some n => rw [e] at hx; cases hx; exact ⟨n, rfl⟩
      exact ⟨_, rfl, st, 48271, rfl, rfl, .inr (by decide), _, rfl, n, 69621, rfl, rfl, .inr (by decide), _, _, rfl, rfl, _, 11, rfl, rfl, _, 2147483647, rfl, rfl, nz (by decide), rfl, _, _, rfl⟩
    · rintro σ H1 ⟨rfl, st, c, rfl⟩
      refine ⟨_, rfl, a, _, rfl, .inl hS, fun l nl => ?_⟩
      have hS2 : SqL K (upd H1 l (.lst (ns.map V.int))) a (ns.map V.int) := by
        rcases hS with (z | ⟨o, z⟩) | z
        · exact .inl (.inl (by rw [upd_ne (ne_of_none z nl)]; exact z))
        · exact .inl (.inr ⟨o, by rw [upd_ne (ne_of_none z nl)]; exact z⟩)
        · exact .inr z
      refine ⟨_, rfl, _, rfl, a, _, rfl, .inl hS2, _, 2, rfl, rfl, .inr ⟨_, rfl, st, _, rfl, rfl, .inr (by split <;> decide), (by show 2 ≤ sizeLine; decide), fun b nb => ?_⟩⟩
      have nb1 : H1 b = none := by
        by_cases e : b = l
        · rw [e, upd_same] at nb; cases nb
        · rw [upd_ne e] at nb; exact nb
      have nlb : l ≠ b := fun z => by rw [← z, upd_same] at nb; cases nb
      refine k b l _ ⟨ns, _, upd_same, by rw [upd_ne nlb, upd_same], hl⟩ (fun c o e => ?_) nb1 nl
      rw [upd_ne (ne_of_none e nb1), upd_ne (ne_of_none e nl)]
      exact e
mutual
def dok : PyData → Bool
  | .list xs | .tuple xs => decide (xs.length ≤ 1000) && dokAll xs
  | .dict _ => false
  | .none | .bool _ | .int _ | .str _ => true
def dokAll : List PyData → Bool
  | [] => true
  | x :: xs => dok x && dokAll xs
end
theorem dokAll_get : ∀ {ds : List PyData} {i : Nat} {d : PyData}, dokAll ds = true → ds[i]? = some d → dok d = true
  | [], _, _, _, h => by simp at h
  | x :: xs, 0, d, h, e => by
    simp only [dokAll, Bool.and_eq_true] at h
    cases e
    exact h.1
  | x :: xs, i + 1, d, h, e => by
    simp only [dokAll, Bool.and_eq_true] at h
    exact dokAll_get h.2 (by simpa using e)
theorem depthAll_get : ∀ {ds : List PyData} {i : Nat} {d : PyData}, ds[i]? = some d → d.depth ≤ PyData.depthAll ds
  | [], _, _, h => by simp at h
  | x :: xs, 0, d, e => by
    cases e
    simp only [PyData.depthAll]
    exact Nat.le_max_left _ _
  | x :: xs, i + 1, d, e => by
    simp only [PyData.depthAll]
    exact Nat.le_trans (depthAll_get (i := i) (by simpa using e)) (Nat.le_max_right _ _)
theorem dp_len {H : Hp} : ∀ {vs : List V} {ds : List PyData}, DpAll K H vs ds → vs.length = ds.length
  | [], [], _ => rfl
  | _ :: _, _ :: _, h => by
    cases h with
    | cons _ t => rw [List.length_cons, List.length_cons, dp_len t]
theorem dp_get {H : Hp} : ∀ {vs : List V} {ds : List PyData} {i : Nat} {v : V}, DpAll K H vs ds → vs[i]? = some v → ∃ d, ds[i]? = some d ∧ Dp K H v d
  | [], [], _, _, _, h => by simp at h
  | x :: vs, y :: ds, 0, v, h, e => by
    cases h with
    | cons h1 _ =>
      cases e
      exact ⟨y, rfl, h1⟩
  | x :: vs, y :: ds, i + 1, v, h, e => by
    cases h with
    | cons _ h2 => simpa using dp_get (i := i) h2 (by simpa using e)
theorem ty_list {H : Hp} {a : Addr} {xs : List V} (h : SqL K H a xs) : TyX K H (.ref a) (.type "list") := by
  rcases h with (z | ⟨o, z⟩) | ⟨o, its, n, z, c, _⟩
  · exact .base (.lst z)
  · exact .base (.frz z)
  · exact .kList z c
theorem ty_tup {H : Hp} {a : Addr} {xs : List V} (h : SqT K H a xs) : TyX K H (.ref a) (.type "tuple") := by
  rcases h with (z | ⟨o, z⟩) | ⟨o, its, n, z, c, _⟩
  · exact .base (.tup z)
  · exact .fTuple z
  · exact .kTuple z c
def spAlike (K : PySem.W.Frag) (n : Nat) : Sp := fun vs H Q _ => ∃ (x y : V) (d : PyData), vs = [x, y] ∧ Dp K H x d ∧ Dp K H y d ∧ d.depth < n ∧ dok d = true ∧ Q (.bl true) H
theorem sc_alike : FnScope ["_law_found", "_law_due", "_law_k"] ["_law_found", "_law_due"] (defScope s_alike) := ⟨rfl, rfl, rfl, by decide +kernel, rfl, by decide +kernel, by decide +kernel⟩
theorem ok_alike {f : Addr} {fd : FuncData} (T : Txt mg) (F : Fun K "_law_alike" "_law_alike" s_alike f fd) (b : Binds K fd ["_law_found", "_law_due"] []) (mgf : mg "_law_alike" = some (.ref f)) : ∀ n, FnOk P w K mg base CX0 (n + 1) f fd ["_law_found", "_law_due"] (spAlike K n) := by
  intro n
  induction n with
  | zero =>
    refine F.ok sc_alike (fun vs H Q E h => ?_) (fun cdv A outer s H vs Q E hr h => ?_)
    · obtain ⟨x, y, d, rfl, _⟩ := h
      rfl
    · obtain ⟨x, y, d, rfl, _, _, h, _⟩ := h
      exact absurd h (Nat.not_lt_zero _)
  | succ n G =>
    refine F.ok sc_alike (fun vs H Q E h => ?_) (fun cdv A outer s H vs Q E hr h => ?_)
    · obtain ⟨x, y, d, rfl, _⟩ := h
      rfl
    · obtain ⟨x, y, d, rfl, hx, hy, hd, hk, k⟩ := h
      have nd := sc_alike.nd
      refine ⟨_, pss_cons (ps_if (pt_cmpR op_isN (pv 1) pe_non (nomark _)) (pss_one (ps_ret (pe_cmpR op_isN (pv 0) pe_non (nomark _)))) pss_nil)
        (pss_cons (ps_if (pt_val (pe_callB call_isi (by rfl) T.isin (by decide +kernel) (pa_cons (pv 1) (pa_cons (pe_bltn (v := .ty "bool") (by rfl) T.bool (by decide +kernel) rfl) pa_nil)))) (pss_one (ps_ret (pe_and (pe_callB call_isi (by rfl) T.isin (by decide +kernel) (pa_cons (pv 0) (pa_cons (pe_bltn (v := .ty "bool") (by rfl) T.bool (by decide +kernel) rfl) pa_nil))) (pe_one (pe_cmpR op_eq (pv 0) (pv 1) (nomark _)))))) pss_nil)
        (pss_cons (ps_if (pt_val (pe_callB call_isi (by rfl) T.isin (by decide +kernel) (pa_cons (pv 1) (pa_cons (pe_bltn (v := .ty "int") (by rfl) T.int (by decide +kernel) rfl) pa_nil)))) (pss_one (ps_ret (pe_and (pe_callB call_isi (by rfl) T.isin (by decide +kernel) (pa_cons (pv 0) (pa_cons (pe_bltn (v := .ty "int") (by rfl) T.int (by decide +kernel) rfl) pa_nil))) (pe_and (pe_not (pe_callB call_isi (by rfl) T.isin (by decide +kernel) (pa_cons (pv 0) (pa_cons (pe_bltn (v := .ty "bool") (by rfl) T.bool (by decide +kernel) rfl) pa_nil)))) (pe_one (pe_cmpR op_eq (pv 0) (pv 1) (nomark _))))))) pss_nil)
        (pss_cons (ps_if (pt_val (pe_callB call_isi (by rfl) T.isin (by decide +kernel) (pa_cons (pv 1) (pa_cons (pe_bltn (v := .ty "str") (by rfl) T.str (by decide +kernel) rfl) pa_nil)))) (pss_one (ps_ret (pe_and (pe_callB call_isi (by rfl) T.isin (by decide +kernel) (pa_cons (pv 0) (pa_cons (pe_bltn (v := .ty "str") (by rfl) T.str (by decide +kernel) rfl) pa_nil))) (pe_one (pe_cmpR op_eq (pv 0) (pv 1) (nomark _)))))) pss_nil)
        (pss_cons (ps_if (PW.pt (pw_or (pt_cmpR op_ne (pe_callB call_isi (by rfl) T.isin (by decide +kernel) (pa_cons (pv 1) (pa_cons (pe_bltn (v := .ty "tuple") (by rfl) T.tuple (by decide +kernel) rfl) pa_nil))) (pe_callB call_isi (by rfl) T.isin (by decide +kernel) (pa_cons (pv 0) (pa_cons (pe_bltn (v := .ty "tuple") (by rfl) T.tuple (by decide +kernel) rfl) pa_nil))) (nomark _))
            (pw_or1 (pt_cmpR op_ne (pe_callB call_isi (by rfl) T.isin (by decide +kernel) (pa_cons (pv 1) (pa_cons (pe_bltn (v := .ty "list") (by rfl) T.list (by decide +kernel) rfl) pa_nil))) (pe_callB call_isi (by rfl) T.isin (by decide +kernel) (pa_cons (pv 0) (pa_cons (pe_bltn (v := .ty "list") (by rfl) T.list (by decide +kernel) rfl) pa_nil))) (nomark _))))) (pss_one (ps_ret pe_bl)) pss_nil)
        (pss_cons (ps_if (pt_cmpR op_ne (pe_callB call_len_seq (by rfl) T.len PySem.boot_len (pa_cons (pv 0) pa_nil)) (pe_callB call_len_seq (by rfl) T.len PySem.boot_len (pa_cons (pv 1) pa_nil)) (nomark _)) (pss_one (ps_ret pe_bl)) pss_nil)
        (pss_cons (ps_for PassesOwn.never rfl (pi_range1 (by rfl) T.range (pa_cons (pe_callB call_len_seq (by rfl) T.len PySem.boot_len (pa_cons (pv 1) pa_nil)) pa_nil)) (pg_name (i := 2) nd rfl (.inl rfl))
          (pss_one (ps_if (pt_not (pt_val (pe_call G hr (by rfl) mgf F.kp b .nil pass0 (pa_cons (pe_ix ix_seq (pv 0) (pv 2) (fun _ _ => rfl)) (pa_cons (pe_ix ix_seq (pv 1) (pv 2) (fun _ _ => rfl)) pa_nil))))) (pss_one (ps_ret pe_bl)) pss_nil)))
        (pss_one (ps_ret pe_bl)))))))), ?_⟩
      cases hx with
      | non =>
        cases hy
        exact ⟨_, rfl, rfl, true, rfl, iteT ⟨_, rfl, rfl, k⟩⟩
      | bl c =>
        cases hy
        exact ⟨_, rfl, rfl, false, rfl, iteF ⟨_, rfl, _, _, _, _, true, rfl, .ty _, (.base (.bl c)), kit_ty (by decide +kernel), true, rfl, iteT ⟨_, rfl, _, _, _, _, true, rfl, .ty _, (.base (.bl c)), kit_ty (by decide +kernel), true, rfl, iteT ⟨_, rfl, _, rfl, rfl, by simpa using k⟩⟩⟩⟩
      | int i =>
        cases hy
        exact ⟨_, rfl, rfl, false, rfl, iteF ⟨_, rfl, _, _, _, _, false, rfl, .ty _, (.base (.int i)), kit_ty (by decide +kernel), false, rfl, iteF ⟨_, rfl, _, _, _, _, true, rfl, .ty _, (.base (.int i)), kit_ty (by decide +kernel), true, rfl, iteT ⟨_, rfl, _, _, _, _, true, rfl, .ty _, (.base (.int i)), kit_ty (by decide +kernel), true, rfl, iteT
          ⟨_, rfl, _, _, _, _, false, rfl, .ty _, (.base (.int i)), kit_ty (by decide +kernel), false, rfl, true, rfl, iteT ⟨_, rfl, _, rfl, rfl, by simpa using k⟩⟩⟩⟩⟩⟩
      | str z =>
        cases hy
        exact ⟨_, rfl, rfl, false, rfl, iteF ⟨_, rfl, _, _, _, _, false, rfl, .ty _, (.base (.str z)), kit_ty (by decide +kernel), false, rfl, iteF ⟨_, rfl, _, _, _, _, false, rfl, .ty _, (.base (.str z)), kit_ty (by decide +kernel), false, rfl, iteF ⟨_, rfl, _, _, _, _, true, rfl, .ty _, (.base (.str z)), kit_ty (by decide +kernel), true, rfl, iteT
          ⟨_, rfl, _, _, _, _, true, rfl, .ty _, (.base (.str z)), kit_ty (by decide +kernel), true, rfl, iteT ⟨_, rfl, _, rfl, rfl, by simpa using k⟩⟩⟩⟩⟩⟩
      | @lst p xs ds sx ax =>
        cases hy with
        | @lst q ys _ sy ay =>
          refine ⟨_, rfl, rfl, false, rfl, iteF ⟨_, rfl, _, _, _, _, false, rfl, .ty _, (ty_list sy), kit_ty (by decide +kernel), false, rfl, iteF ⟨_, rfl, _, _, _, _, false, rfl, .ty _, (ty_list sy), kit_ty (by decide +kernel), false, rfl, iteF ⟨_, rfl, _, _, _, _, false, rfl, .ty _, (ty_list sy), kit_ty (by decide +kernel), false, rfl, iteF
            ⟨_, rfl, _, _, _, _, false, rfl, .ty _, (ty_list sy), kit_ty (by decide +kernel), _, rfl, _, _, _, _, false, rfl, .ty _, (ty_list sx), kit_ty (by decide +kernel), rfl, false, rfl, iteF ⟨_, rfl, _, _, _, _, true, rfl, .ty _, (ty_list sy), kit_ty (by decide +kernel), _, rfl, _, _, _, _, true, rfl, .ty _, (ty_list sx), kit_ty (by decide +kernel), rfl, false, rfl, iteF ?_⟩⟩⟩⟩⟩⟩
          simp only [dok, Bool.and_eq_true, decide_eq_true_eq] at hk
          simp only [PyData.depth] at hd
          have lx := dp_len ax
          have ly := dp_len ay
          refine ⟨_, rfl, p, xs, rfl, .inl sx, _, rfl, q, ys, rfl, .inl sy, rfl, false, by rw [lx, ly]; simp, iteF ?_⟩
          refine ⟨_, rfl, q, ys, rfl, .inl sy, _, rfl, by omega, by omega, for_range (n := (ys.length : Int).toNat) (fun _ σ H' => H' = H ∧ ∃ c, σ = [some (.ref p), some (.ref q), c]) ⟨rfl, _, rfl⟩ ?_ ?_⟩
          · rintro i σ H' hi ⟨rfl, c, rfl⟩
            have hi1 : i < xs.length := by omega
            have hi2 : i < ys.length := by omega
            obtain ⟨d1, e1, dx⟩ := dp_get ax (List.getElem?_eq_getElem hi1)
            obtain ⟨d2, e2, dy⟩ := dp_get ay (List.getElem?_eq_getElem hi2)
            rw [e1] at e2
            cases e2
            refine ⟨_, rfl, _, rfl, .inl ⟨p, xs, _, _, rfl, rfl, sx, by rw [Int.zero_add]; exact atI_nat (List.getElem?_eq_getElem hi1), ⟨_, rfl, _, rfl, .inl ⟨q, ys, _, _, rfl, rfl, sy, by rw [Int.zero_add]; exact atI_nat (List.getElem?_eq_getElem hi2), ?_⟩⟩⟩⟩
            exact ⟨_, _, d1, rfl, dx, dy, by have := depthAll_get e1; omega, dokAll_get hk.2 e1, true, rfl, iteF ⟨rfl, _, rfl⟩⟩
          · rintro σ H' ⟨rfl, c, rfl⟩
            exact k
      | @tup p xs ds sx ax =>
        cases hy with
        | @tup q ys _ sy ay =>
          refine ⟨_, rfl, rfl, false, rfl, iteF ⟨_, rfl, _, _, _, _, false, rfl, .ty _, (ty_tup sy), kit_ty (by decide +kernel), false, rfl, iteF ⟨_, rfl, _, _, _, _, false, rfl, .ty _, (ty_tup sy), kit_ty (by decide +kernel), false, rfl, iteF ⟨_, rfl, _, _, _, _, false, rfl, .ty _, (ty_tup sy), kit_ty (by decide +kernel), false, rfl, iteF
            ⟨_, rfl, _, _, _, _, true, rfl, .ty _, (ty_tup sy), kit_ty (by decide +kernel), _, rfl, _, _, _, _, true, rfl, .ty _, (ty_tup sx), kit_ty (by decide +kernel), rfl, false, rfl, iteF ⟨_, rfl, _, _, _, _, false, rfl, .ty _, (ty_tup sy), kit_ty (by decide +kernel), _, rfl, _, _, _, _, false, rfl, .ty _, (ty_tup sx), kit_ty (by decide +kernel), rfl, false, rfl, iteF ?_⟩⟩⟩⟩⟩⟩
          simp only [dok, Bool.and_eq_true, decide_eq_true_eq] at hk
          simp only [PyData.depth] at hd
          have lx := dp_len ax
          have ly := dp_len ay
          refine ⟨_, rfl, p, xs, rfl, .inr sx, _, rfl, q, ys, rfl, .inr sy, rfl, false, by rw [lx, ly]; simp, iteF ?_⟩
          refine ⟨_, rfl, q, ys, rfl, .inr sy, _, rfl, by omega, by omega, for_range (n := (ys.length : Int).toNat) (fun _ σ H' => H' = H ∧ ∃ c, σ = [some (.ref p), some (.ref q), c]) ⟨rfl, _, rfl⟩ ?_ ?_⟩
          · rintro i σ H' hi ⟨rfl, c, rfl⟩
            have hi1 : i < xs.length := by omega
            have hi2 : i < ys.length := by omega
            obtain ⟨d1, e1, dx⟩ := dp_get ax (List.getElem?_eq_getElem hi1)
            obtain ⟨d2, e2, dy⟩ := dp_get ay (List.getElem?_eq_getElem hi2)
            rw [e1] at e2
            cases e2
            refine ⟨_, rfl, _, rfl, .inr (.inl ⟨p, xs, _, _, rfl, rfl, sx, by rw [Int.zero_add]; exact atI_nat (List.getElem?_eq_getElem hi1), ⟨_, rfl, _, rfl, .inr (.inl ⟨q, ys, _, _, rfl, rfl, sy, by rw [Int.zero_add]; exact atI_nat (List.getElem?_eq_getElem hi2), ?_⟩)⟩⟩)⟩
            exact ⟨_, _, d1, rfl, dx, dy, by have := depthAll_get e1; omega, dokAll_get hk.2 e1, true, rfl, iteF ⟨rfl, _, rfl⟩⟩
          · rintro σ H' ⟨rfl, c, rfl⟩
            exact k
end
end TG
namespace Gx
open PySem PySem.Spec PyProof.Rows L2 GenW
section
variable {J : It} {n : Nat} {G : Hp → Prop} {Y : Nat → Hp → V → Hp → Prop}
/-- all over a walk whose i-th element is f i -/
theorem all_by (w : Walk J n G Y) {te : TE} {Q : VK} {H2 : Hp} (f : Nat → Bool) (Pv : Nat → Hp → Prop) (h0 : Pv 0 H2) (hG : ∀ i H, i ≤ n → Pv i H → G H)
    (hs : ∀ i v H H', i < n → Pv i H → Y i H v H' → ∀ Z : VK, (∀ H3, Pv (i + 1) H3 → Z (.bl (f i)) H3) → te [some v] H' Z)
    (hT : ∀ H, Pv n H → (∀ i, i < n → f i = true) → Q (.bl true) H) (hF : ∀ i H, i < n → f i = false → Pv (i + 1) H → Q (.bl false) H) :
    ∃ W : WT, (∃ m, W m [] H2) ∧ ∀ m ys H, W m ys H → (J.stop ys.length H ∧ (fun (_ : List V) H => Q (.bl true) H) ys H) ∨
      (J.go ys.length H ∧ ∀ v H', J.yld ys.length H v H' → te [some v] H' (NyAll (fun b H => Q (.bl b) H) W m ys)) := by
  refine ⟨fun m ys H => m = n - ys.length ∧ ys.length ≤ n ∧ Pv ys.length H ∧ ∀ i, i < ys.length → f i = true, ⟨n, by simp, Nat.zero_le _, h0, fun i hi => absurd hi (Nat.not_lt_zero _)⟩, ?_⟩
  rintro m ys H ⟨rfl, hl, hp, ht⟩
  have q := hG _ H hl hp
  by_cases hlt : ys.length < n
  · refine .inr ⟨w.goes _ H hlt q, fun v H' y => hs _ v H H' hlt hp (w.yields _ H v H' hlt q y) _ fun H3 p3 => ⟨f ys.length, rfl, ?_⟩⟩
    cases hf : f ys.length with
    | true =>
      refine iteT ⟨n - (ys.length + 1), by omega, by rw [List.length_append, List.length_singleton], by rw [List.length_append, List.length_singleton]; exact hlt, by rw [List.length_append, List.length_singleton]; exact p3, fun i hi => ?_⟩
      rw [List.length_append, List.length_singleton] at hi
      by_cases e : i = ys.length
      · rw [e]; exact hf
      · exact ht i (by omega)
    | false => exact iteF (hF _ H3 hlt hf p3)
  · have e : ys.length = n := by omega
    exact .inl ⟨by rw [e]; exact w.stops H q, hT H (e ▸ hp) fun i hi => ht i (by omega)⟩
/-- max over a walk whose i-th element is g i -/
theorem max_by (w : Walk J n G Y) {te : TE} {Qm : Int → Hp → Prop} {H2 : Hp} (g : Nat → Int) (hn : 0 < n) (Pv : Nat → Hp → Prop) (h0 : Pv 0 H2) (hG : ∀ i H, i ≤ n → Pv i H → G H)
    (hs : ∀ i v H H', i < n → Pv i H → Y i H v H' → ∀ Z : VK, (∀ H3, Pv (i + 1) H3 → Z (.int (g i)) H3) → te [some v] H' Z)
    (hd : ∀ b H, Pv n H → (∃ i, i < n ∧ g i = b) → (∀ i, i < n → g i ≤ b) → Qm b H) :
    ∃ W : WT, (∃ m, W m [] H2) ∧ ∀ m ys H, W m ys H → (J.stop ys.length H ∧ NsMax Qm ys H) ∨
      (J.go ys.length H ∧ ∀ v H', J.yld ys.length H v H' → te [some v] H' (NyMax W m ys)) := by
  refine ⟨fun m ys H => m = n - ys.length ∧ ys.length ≤ n ∧ Pv ys.length H ∧ ys = ((List.range ys.length).map g).map V.int, ⟨n, by simp, Nat.zero_le _, h0, rfl⟩, ?_⟩
  rintro m ys H ⟨rfl, hl, hp, ht⟩
  have q := hG _ H hl hp
  by_cases hlt : ys.length < n
  · refine .inr ⟨w.goes _ H hlt q, fun v H' y => hs _ v H H' hlt hp (w.yields _ H v H' hlt q y) _ fun H3 p3 => ⟨g ys.length, rfl, n - (ys.length + 1), by omega, by rw [List.length_append, List.length_singleton], by rw [List.length_append, List.length_singleton]; exact hlt, by rw [List.length_append, List.length_singleton]; exact p3, ?_⟩⟩
    rw [List.length_append, List.length_singleton, List.range_succ, List.map_append, List.map_append, ← ht]
    rfl
  · have e : ys.length = n := by omega
    refine .inl ⟨by rw [e]; exact w.stops H q, (List.range ys.length).map g, ht, fun z => ?_, fun b hb hm => hd b H (e ▸ hp) ?_ fun i hi => hm _ (List.mem_map.mpr ⟨i, List.mem_range.mpr (by omega), rfl⟩)⟩
    · have := congrArg List.length z
      rw [List.length_map, List.length_range, List.length_nil] at this
      omega
    · obtain ⟨i, hi, e2⟩ := List.mem_map.mp hb
      exact ⟨i, by have := List.mem_range.mp hi; omega, e2⟩
end
def Tabs (cs : List (Addr × Addr)) (H : Hp) : Prop := ∀ p ∈ cs, GxR.TabG H p.2
theorem tab_ext {P : Addr} {H H' : Hp} (t : GxR.TabG H P) (x : GxR.Tabbed P H H') : LamX.ExtN H H' := fun b o e n => by
  by_cases hb : b = P
  · obtain ⟨ps, h1, _⟩ := t
    rw [hb, h1] at e
    cases e
    exact absurd rfl (n ps)
  · rw [x.2 b hb]; exact e
theorem tabs_tab {cs : List (Addr × Addr)} {P : Addr} {H H' : Hp} (t : Tabs cs H) (x : GxR.Tabbed P H H') : Tabs cs H' := fun p hp => by
  by_cases hb : p.2 = P
  · rw [hb]; exact x.1
  · obtain ⟨ps, h1, h2⟩ := t p hp
    exact ⟨ps, by rw [x.2 _ hb]; exact h1, h2⟩
/-- all but tables stays, the tables are tables -/
structure Ex (cs : List (Addr × Addr)) (H H' : Hp) : Prop where
  ext : LamX.ExtN H H'
  tab : Tabs cs H'
  old : ∀ b, H' b = none → H b = none
  oth : ∀ b o, H b = some o → (∀ p ∈ cs, p.2 ≠ b) → H' b = some o
theorem Ex.refl {cs : List (Addr × Addr)} {H : Hp} (t : Tabs cs H) : Ex cs H H := ⟨LamX.ExtN.refl H, t, fun _ h => h, fun _ _ e _ => e⟩
theorem Ex.trans {cs : List (Addr × Addr)} {H H1 H2 : Hp} (a : Ex cs H H1) (b : Ex cs H1 H2) : Ex cs H H2 := ⟨a.ext.trans b.ext, b.tab, fun c h => a.old c (b.old c h), fun c o e m => b.oth c o (a.oth c o e m) m⟩
theorem Ex.tabbed {cs : List (Addr × Addr)} {q : Addr × Addr} {H H' : Hp} (t : Tabs cs H) (m : q ∈ cs) (x : GxR.Tabbed q.2 H H') : Ex cs H H' := ⟨tab_ext (t q m) x, tabs_tab t x, fun b h => by
  by_cases hb : b = q.2
  · obtain ⟨ps, h1, _⟩ := x.1
    rw [hb, h1] at h
    cases h
  · rw [x.2 b hb] at h; exact h, fun b o e n => by
  rw [x.2 b (fun z => n q m z.symm)]
  exact e⟩
theorem upd_none {H : Hp} {a b : Addr} {o : HO} (h : upd H a o b = none) : H b = none ∧ b ≠ a := by
  by_cases hb : b = a
  · rw [hb, upd_same] at h; cases h
  · rw [upd_ne hb] at h; exact ⟨h, hb⟩
theorem Ex.laid {cs : List (Addr × Addr)} {H : Hp} {a : Addr} {o : HO} (t : Tabs cs H) (n : H a = none) : Ex cs H (upd H a o) :=
  ⟨fun b u e _ => by rw [upd_ne (ne_of_none e n)]; exact e, fun p hp => by
    obtain ⟨ps, h1, h2⟩ := t p hp
    exact ⟨ps, by rw [upd_ne (ne_of_none h1 n)]; exact h1, h2⟩, fun b h => (upd_none h).1, fun b u e _ => by
    rw [upd_ne (ne_of_none e n)]
    exact e⟩
/-- a new object, written again -/
theorem ex_new {cs : List (Addr × Addr)} {H H' : Hp} {D : Addr} {o : HO} (t : Tabs cs H) (e : Ex cs H H') (n : H D = none) : Ex cs H (upd H' D o) :=
  ⟨fun b u h m => by rw [upd_ne (ne_of_none h n)]; exact e.ext b u h m, fun p hp => by
    obtain ⟨ps, h1, _⟩ := t p hp
    obtain ⟨ps', h3, h4⟩ := e.tab p hp
    exact ⟨ps', by rw [upd_ne (ne_of_none h1 n)]; exact h3, h4⟩, fun b h => e.old b (upd_none h).1, fun b u h m => by
    rw [upd_ne (ne_of_none h n)]
    exact e.oth b u h m⟩
theorem Ex.lst {cs : List (Addr × Addr)} {H H' : Hp} {a : Addr} {xs : List V} (e : Ex cs H H') (h : H a = some (.lst xs)) : H' a = some (.lst xs) := e.ext _ _ h fun ps q => by cases q
theorem Ex.tup {cs : List (Addr × Addr)} {H H' : Hp} {a : Addr} {xs : List V} (e : Ex cs H H') (h : H a = some (.tup xs)) : H' a = some (.tup xs) := e.ext _ _ h fun ps q => by cases q
theorem Ex.sqL {cs : List (Addr × Addr)} {K : PySem.W.Frag} {H H' : Hp} {a : Addr} {xs : List V} (e : Ex cs H H') (h : SqL K H a xs) : SqL K H' a xs := by
  rcases h with (z | ⟨o, z⟩) | z
  · exact .inl (.inl (e.ext _ _ z fun ps q => by cases q))
  · exact .inl (.inr ⟨o, e.ext _ _ z fun ps q => by cases q⟩)
  · exact .inr z
theorem Ex.sqT {cs : List (Addr × Addr)} {K : PySem.W.Frag} {H H' : Hp} {a : Addr} {xs : List V} (e : Ex cs H H') (h : SqT K H a xs) : SqT K H' a xs := by
  rcases h with (z | ⟨o, z⟩) | z
  · exact .inl (.inl (e.ext _ _ z fun ps q => by cases q))
  · exact .inl (.inr ⟨o, e.ext _ _ z fun ps q => by cases q⟩)
  · exact .inr z
/-- a def whose code object is known -/
theorem fun_okT {P : Program} {w : World} {K : PySem.W.Frag} {mg : Str → Option Value} {base : Heap} {x qual : Str} {st : Stmt} {f c : Addr} {fd : FuncData} {N ps : List Str} {k : Nat} {sp : Sp} (F : Fun K x qual st f fd) (hc : fd.code = .ref c) (S : FnScope N ps (defScope st)) (len : ∀ vs H Q E, sp vs H Q E → vs.length = ps.length)
    (hbody : ∀ (A : Around) (outer : List Env) (s : Shared) (H : Hp) (vs : List V) (Q : VK) (E : XK), Room k (A.deeper (envOfC qual (defScope st) s.heap.objs.size f (.ref c))) → sp vs H Q E →
      ∃ t, PSs (cxOf CX0 P w K mg base N qual (defScope st) f (.ref c) A outer s H E).nox (defBody st) t ∧ t { nx := fun _ H' => Q .non H', rt := Q } (start N vs) H) : FnOk P w K mg base CX0 (k + 1) f fd ps sp := by
  obtain ⟨oc, od, kV, doc, pm, an, cdv, ct, osl, rfl, lk, hcd⟩ := F.ex
  have e : cdv = .ref c := hc
  subst e
  refine fn_of lk hcd S len fun A outer s H vs Q E hr hsp => ?_
  obtain ⟨t, h, q⟩ := hbody A outer s H vs Q E hr hsp
  exact ⟨t, h.nox, q⟩
end Gx
namespace TG
open PySem L2 Gx
def SgOk (c : Nat) : Prop := 32 ≤ c ∧ c ≤ 126 ∧ c ≠ 37
structure CellOk (z : Str) : Prop where
  len : z.length ≤ 10
  sg : ∀ c ∈ z.cps.toList, SgOk c
structure RowOk (r : List Str) : Prop where
  pos : 1 ≤ r.length
  len : r.length ≤ 6
  cells : ∀ z ∈ r, CellOk z
abbrev sV (r : List Str) : List V := r.map V.str
theorem line10 {n : Nat} (h : n ≤ 1000) : n ≤ sizeLine := Nat.le_trans h (by decide)
theorem dT {c : Prop} [Decidable c] (h : c) : V.bl (decide c) = V.bl true := by rw [decide_eq_true h]
theorem dF {c : Prop} [Decidable c] (h : ¬ c) : V.bl (decide c) = V.bl false := by rw [decide_eq_false h]
theorem qT {c : Prop} [Decidable c] {Q : VK} {H : Hp} (h : c) (k : Q (.bl true) H) : Q (.bl (decide c)) H := by rw [decide_eq_true h]; exact k
theorem qN {c : Prop} [Decidable c] {Q : VK} {H : Hp} (h : ¬ c) (k : Q (.bl true) H) : Q (.bl (!decide c)) H := by rw [decide_eq_false h]; exact k
structure Consts (mg : Str → Option Value) : Prop where
  blank : ∃ t, mg "BLANK" = some (.int 32 t)
  tilde : ∃ t, mg "TILDE" = some (.int 126 t)
  percent : ∃ t, mg "PERCENT" = some (.int 37 t)
  rows : ∃ t, mg "MOST_ROWS" = some (.int 30 t)
  cells : ∃ t, mg "MOST_CELLS" = some (.int 6 t)
  signs : ∃ t, mg "MOST_SIGNS" = some (.int 10 t)
  gap : ∃ t, mg "MOST_GAP" = some (.int 4 t)
  least : ∃ t, mg "MOST_LEAST" = some (.int 12 t)
section
variable {P : Program} {w : World} {K : PySem.W.Frag} {mg : Str → Option Value} {base : Heap}
def spWhole : Sp := fun vs H Q _ => ∃ (i lo hi : Int), vs = [.int i, .int lo, .int hi] ∧ lo ≤ i ∧ i ≤ hi ∧ Q (.bl true) H
theorem sc_whole : FnScope ["value", "low", "high"] ["value", "low", "high"] (defScope s_is_whole) := ⟨rfl, rfl, rfl, by decide +kernel, rfl, by decide +kernel, by decide +kernel⟩
theorem ok_whole {f : Addr} {fd : FuncData} (T : Txt mg) (F : Fun K "is_whole" "is_whole" s_is_whole f fd) : FnOk P w K mg base CX0 1 f fd ["value", "low", "high"] spWhole := by
  refine F.ok sc_whole (fun vs H Q E h => ?_) (fun cdv A outer s H vs Q E hr h => ?_)
  · obtain ⟨i, lo, hi, rfl, _⟩ := h
    rfl
  · obtain ⟨i, lo, hi, rfl, h1, h2, k⟩ := h
    refine ⟨_, pss_one (ps_ret (pe_and (pe_callB call_isi (by rfl) T.isin (by decide +kernel) (pa_cons (pv 0) (pa_cons (pe_bltn (v := .ty "int") (by rfl) T.int (by decide +kernel) rfl) pa_nil)))
      (pe_and (pe_not (pe_callB call_isi (by rfl) T.isin (by decide +kernel) (pa_cons (pv 0) (pa_cons (pe_bltn (v := .ty "bool") (by rfl) T.bool (by decide +kernel) rfl) pa_nil)))) (pe_one (pe_chain op_le op_le (pv 1) (pv 0) (pv 2)))))), ?_⟩
    exact ⟨_, rfl, _, _, _, _, true, rfl, .ty _, .base (.int i), kit_ty (by decide +kernel), true, rfl, iteT ⟨_, rfl, _, _, _, _, false, rfl, .ty _, .base (.int i), kit_ty (by decide +kernel), false, rfl, true, rfl, iteT
      ⟨_, rfl, _, rfl, lo, i, rfl, rfl, true, dT h1, iteT ⟨_, rfl, i, hi, rfl, rfl, qT h2 k⟩⟩⟩⟩
def spSg : Sp := fun vs H Q _ => ∃ c : Nat, vs = [.str ⟨#[c]⟩] ∧ SgOk c ∧ Q (.bl true) H
theorem sc_sg : FnScope ["sign"] ["sign"] (defScope s_is_sign) := ⟨rfl, rfl, rfl, by decide +kernel, rfl, by decide +kernel, by decide +kernel⟩
theorem ok_sg {f : Addr} {fd : FuncData} (T : Txt mg) (N : Consts mg) (F : Fun K "is_sign" "is_sign" s_is_sign f fd) : FnOk P w K mg base CX0 1 f fd ["sign"] spSg := by
  refine F.ok sc_sg (fun vs H Q E h => ?_) (fun cdv A outer s H vs Q E hr h => ?_)
  · obtain ⟨c, rfl, _⟩ := h
    rfl
  · obtain ⟨c, rfl, ⟨h1, h2, h3⟩, k⟩ := h
    obtain ⟨t1, e1⟩ := N.blank
    obtain ⟨t2, e2⟩ := N.tilde
    obtain ⟨t3, e3⟩ := N.percent
    refine ⟨_, pss_one (ps_ret (pe_and (pe_chain op_le op_le (pe_glob (v := .int 32) rfl e1 ⟨_, rfl⟩) (pe_callB call_ord (by rfl) T.ord (by decide +kernel) (pa_cons (pv 0) pa_nil)) (pe_glob (v := .int 126) rfl e2 ⟨_, rfl⟩))
      (pe_one (pe_cmpR op_ne (pe_callB call_ord (by rfl) T.ord (by decide +kernel) (pa_cons (pv 0) pa_nil)) (pe_glob (v := .int 37) rfl e3 ⟨_, rfl⟩) (nomark _))))), ?_⟩
    refine ⟨_, rfl, _, rfl, rfl, 32, (c : Int), rfl, rfl, true, dT (show (32 : Int) ≤ c by omega), iteT ⟨(c : Int), 126, rfl, rfl, ?_⟩⟩
    have e4 : V.bl (decide ((c : Int) ≤ 126)) = V.bl true := dT (by omega)
    refine ⟨true, e4, iteT ⟨_, rfl, _, rfl, rfl, rfl, qN (fun z => ?_) k⟩⟩
    injection z with z
    exact h3 (Int.ofNat.inj z)
def spText (cs : List (Addr × Addr)) : Sp := fun vs H Q _ => ∃ (z : Str) (m : Int), vs = [.str z, .int m] ∧ Tabs cs H ∧ (z.length : Int) ≤ m ∧ z.length ≤ 1000 ∧ (∀ c ∈ z.cps.toList, SgOk c) ∧ ∀ H', Ex cs H H' → Q (.bl true) H'
theorem sc_text : FnScope ["value", "most"] ["value", "most"] (defScope s_is_text) := ⟨rfl, rfl, rfl, by decide +kernel, rfl, by decide +kernel, by decide +kernel⟩
theorem ok_text {f c Pt g : Addr} {fd fdg : FuncData} {cs : List (Addr × Addr)} (T : Txt mg) (F : Fun K "is_text_of_signs" "is_text_of_signs" s_is_text f fd) (hc : fd.code = .ref c) (TB : GxR.TabB base mg c Pt) (hm : (c, Pt) ∈ cs)
    (G : FnOk P w K mg base CX0 1 g fdg ["sign"] spSg) (kp : PySem.W.keepIn K (.ref g) = true) (bd : Binds K fdg ["sign"] []) (mgg : mg "is_sign" = some (.ref g)) : FnOk P w K mg base CX0 5 f fd ["value", "most"] (spText cs) := by
  refine fun_okT F hc sc_text (fun vs H Q E h => ?_) (fun A outer s H vs Q E hr h => ?_)
  · obtain ⟨z, m, rfl, _⟩ := h
    rfl
  · obtain ⟨z, m, rfl, hT, h1, h2, h3, k⟩ := h
    refine ⟨_, pss_one (ps_ret (pe_and (pe_callB call_isi (by rfl) T.isin (by decide +kernel) (pa_cons (pv 0) (pa_cons (pe_bltn (v := .ty "str") (by rfl) T.str (by decide +kernel) rfl) pa_nil)))
      (pe_and (pe_cmpR op_le (pe_callB call_len_str (by rfl) T.len PySem.boot_len (pa_cons (pv 0) pa_nil)) (pv 1) (nomark _))
        (pe_one (pe_allG (k := 1) (P := Pt) hr (by rfl) T.all TB rfl ⟨rfl, rfl, by decide +kernel, by decide +kernel, rfl, rfl⟩ (pi_str (pv 0)) (fun A' code s4 H4 fp hr' => pe_call G hr' (by rfl) mgg kp bd .nil pass0 (pa_cons (pv 0) pa_nil)) (fun _ => rfl)))))), ?_⟩
    refine ⟨_, rfl, _, _, _, _, true, rfl, .ty _, .base (.str z), kit_ty (by decide +kernel), true, rfl, iteT ⟨_, rfl, z, rfl, line10 h2, _, rfl, _, _, rfl, rfl, true, dT h1, iteT ⟨_, rfl, z, rfl, hT _ hm, fun H2 hH2 => ?_⟩⟩⟩
    refine all_by (w := walk_str (z := z)) (fun _ => true) (fun _ H' => H' = H2) rfl (fun _ _ _ _ => trivial) (fun i v H3 H4 hi e y Z hZ => ?_) (fun H3 e _ => ?_) (fun i H3 _ e _ => by cases e)
    · obtain ⟨rfl, c, hc, rfl⟩ := y
      subst e
      refine ⟨_, rfl, c, rfl, h3 c ?_, hZ _ rfl⟩
      exact List.mem_of_getElem? (by rw [Array.getElem?_toList]; exact hc)
    · subst e
      exact k _ (Ex.tabbed hT hm hH2)
end
end TG
namespace TG
open PySem L2 Gx
/-- a page: its rows' tuples at as -/
structure PageAt (K : PySem.W.Frag) (H : Hp) (a : Addr) (as : List Addr) (rows : List (List Str)) : Prop where
  lst : SqL K H a (as.map V.ref)
  len : as.length = rows.length
  row : ∀ (i : Nat) (p : Addr) (r : List Str), as[i]? = some p → rows[i]? = some r → SqT K H p (sV r)
structure PgOk (rows : List (List Str)) : Prop where
  pos : 1 ≤ rows.length
  len : rows.length ≤ 30
  rows : ∀ r ∈ rows, RowOk r
theorem PageAt.ex {K : PySem.W.Frag} {cs : List (Addr × Addr)} {H H' : Hp} {a : Addr} {as : List Addr} {rows : List (List Str)} (p : PageAt K H a as rows) (e : Ex cs H H') : PageAt K H' a as rows :=
  ⟨e.sqL p.lst, p.len, fun i q r h1 h2 => e.sqT (p.row i q r h1 h2)⟩
theorem get_map {α β : Type} {f : α → β} {xs : List α} {i : Nat} {y : β} (h : (xs.map f)[i]? = some y) : ∃ x, xs[i]? = some x ∧ y = f x := by
  rw [List.getElem?_map] at h
  cases e : xs[i]? with
  | none => rw [e] at h; cases h
  | some x => rw [e] at h; cases h; exact ⟨x, rfl, rfl⟩
theorem getP {α : Type} {xs : List α} {i : Nat} (h : i < xs.length) : ∃ x, xs[i]? = some x := ⟨xs[i], List.getElem?_eq_getElem h⟩
section
variable {P : Program} {w : World} {K : PySem.W.Frag} {mg : Str → Option Value} {base : Heap} {cs : List (Addr × Addr)}
def spRow (K : PySem.W.Frag) (cs : List (Addr × Addr)) : Sp := fun vs H Q _ => ∃ (a : Addr) (r : List Str), vs = [.ref a] ∧ Tabs cs H ∧ SqT K H a (sV r) ∧ RowOk r ∧ ∀ H', Ex cs H H' → Q (.bl true) H'
theorem sc_row : FnScope ["value"] ["value"] (defScope s_is_row) := ⟨rfl, rfl, rfl, by decide +kernel, rfl, by decide +kernel, by decide +kernel⟩
theorem ok_isrow {f c Pt g : Addr} {fd fdg : FuncData} (T : Txt mg) (N : Consts mg) (F : Fun K "is_row" "is_row" s_is_row f fd) (hc : fd.code = .ref c) (TB : GxR.TabB base mg c Pt) (hm : (c, Pt) ∈ cs)
    (G : FnOk P w K mg base CX0 5 g fdg ["value", "most"] (spText cs)) (kp : PySem.W.keepIn K (.ref g) = true) (bd : Binds K fdg ["value", "most"] []) (mgg : mg "is_text_of_signs" = some (.ref g)) : FnOk P w K mg base CX0 9 f fd ["value"] (spRow K cs) := by
  refine fun_okT F hc sc_row (fun vs H Q E h => ?_) (fun A outer s H vs Q E hr h => ?_)
  · obtain ⟨a, r, rfl, _⟩ := h
    rfl
  · obtain ⟨a, r, rfl, hT, hS, ⟨p1, p2, p3⟩, k⟩ := h
    obtain ⟨t1, e1⟩ := N.cells
    obtain ⟨t2, e2⟩ := N.signs
    refine ⟨_, pss_cons (ps_if (PW.pt (pw_or (pt_not (pt_val (pe_callB call_isi (by rfl) T.isin (by decide +kernel) (pa_cons (pv 0) (pa_cons (pe_bltn (v := .ty "tuple") (by rfl) T.tuple (by decide +kernel) rfl) pa_nil)))))
        (pw_or1 (pt_not (pt_chain op_le op_le pe_int (pe_callB call_len_seq (by rfl) T.len PySem.boot_len (pa_cons (pv 0) pa_nil)) (pe_glob (v := .int 6) rfl e1 ⟨_, rfl⟩)))))) (pss_one (ps_ret pe_bl)) pss_nil)
      (pss_one (ps_ret (pe_allG (k := 5) (P := Pt) hr (by rfl) T.all TB rfl ⟨rfl, rfl, by decide +kernel, by decide +kernel, rfl, rfl⟩ (pi_tup (pv 0))
        (fun A' code s4 H4 fp hr' => pe_call G hr' (by rfl) mgg kp bd .nil pass0 (pa_cons (pv 0) (pa_cons (pe_glob (v := .int 10) rfl e2 ⟨_, rfl⟩) pa_nil))) (fun _ => rfl)))), ?_⟩
    have hl : (sV r).length = r.length := List.length_map ..
    refine ⟨_, rfl, _, _, _, _, true, rfl, .ty _, ty_tup hS, kit_ty (by decide +kernel), true, rfl, iteF ⟨_, rfl, a, _, rfl, .inr hS, 1, _, rfl, rfl, true, dT (by omega), iteT ⟨_, 6, rfl, rfl, true, dT (by omega), iteF ?_⟩⟩⟩
    refine ⟨_, rfl, a, rfl, ⟨_, hS⟩, hT _ hm, fun H2 hH2 => ?_⟩
    have x2 := Ex.tabbed hT hm hH2
    refine all_by (w := walk_tup (a := a) (xs := sV r)) (fun _ => true) (fun _ H' => Ex cs H H') x2 (fun i H' _ x => x.sqT hS) (fun i v H3 H4 hi x y Z hZ => ?_) (fun H3 x _ => k _ x) (fun i H3 _ e _ => by cases e)
    obtain ⟨rfl, hv⟩ := y
    obtain ⟨z, hz, rfl⟩ := get_map hv
    obtain ⟨c1, c2⟩ := p3 z (List.mem_of_getElem? hz)
    exact ⟨_, rfl, z, 10, rfl, x.tab, by omega, by omega, c2, fun H5 x5 => hZ _ (x.trans x5)⟩
def spCheck (K : PySem.W.Frag) (cs : List (Addr × Addr)) : Sp := fun vs H Q _ => ∃ (a : Addr) (as : List Addr) (rows : List (List Str)), vs = [.ref a] ∧ Tabs cs H ∧ PageAt K H a as rows ∧ PgOk rows ∧ ∀ H', Ex cs H H' → Q .non H'
theorem sc_misfit : FnScope ["rows", "number", "row"] ["rows"] (defScope s_misfit) := ⟨rfl, rfl, rfl, by decide +kernel, rfl, by decide +kernel, by decide +kernel⟩
theorem ok_misfit {f g : Addr} {fd fdg : FuncData} (T : Txt mg) (N : Consts mg) (F : Fun K "first_misfit" "first_misfit" s_misfit f fd)
    (G : FnOk P w K mg base CX0 9 g fdg ["value"] (spRow K cs)) (kp : PySem.W.keepIn K (.ref g) = true) (bd : Binds K fdg ["value"] []) (mgg : mg "is_row" = some (.ref g)) : FnOk P w K mg base CX0 10 f fd ["rows"] (spCheck K cs) := by
  refine F.ok sc_misfit (fun vs H Q E h => ?_) (fun cdv A outer s H vs Q E hr h => ?_)
  · obtain ⟨a, as, rows, rfl, _⟩ := h
    rfl
  · obtain ⟨a, as, rows, rfl, hT, hP, hO, k⟩ := h
    have nd := sc_misfit.nd
    obtain ⟨t1, e1⟩ := N.rows
    refine ⟨_, pss_cons (ps_for PassesOwn.never rfl (pi_enum (by rfl) T.enum (pa_cons (pv 0) pa_nil)) (pg_tup rfl (pgs_cons (pg_name (i := 1) nd rfl (.inl rfl)) (pgs_cons (pg_name (i := 2) nd rfl (.inl rfl)) pgs_nil)))
        (pss_one (ps_if (PW.pt (pw_or (pt_cmpR op_eq (pv 1) (pe_glob (v := .int 30) rfl e1 ⟨_, rfl⟩) (nomark _)) (pw_or1 (pt_not (pt_val (pe_call G hr (by rfl) mgg kp bd .nil pass0 (pa_cons (pv 2) pa_nil))))))) (pss_one ps_never) pss_nil)))
      (pss_one (ps_ret pe_non)), ?_⟩
    have hl : (as.map V.ref).length = rows.length := by rw [List.length_map]; exact hP.len
    have := hO.pos
    have := hO.len
    refine ⟨_, rfl, a, _, rfl, hP.lst, for_it (walk_enum (xs := as.map V.ref)) (fun _ σ H' => Ex cs H H' ∧ σ[0]? = some (some (.ref a)) ∧ σ.length = 3) ⟨Ex.refl hT, rfl, rfl⟩ (fun i σ H' _ x => x.1.sqL hP.lst) ?_ ?_⟩
    · rintro i x σ H3 H4 hi ⟨x3, s0, sl⟩ ⟨Tp, v, u, rfl, hn, rfl, hv, hu⟩
      cases hv
      obtain ⟨p, hp, rfl⟩ := get_map hu
      have hi2 : i < rows.length := by omega
      obtain ⟨r, hr2⟩ := getP hi2
      have xl := Ex.laid (o := .tup [.int (i : Nat), .ref p]) x3.tab hn
      refine ⟨Tp, _, rfl, .inl (.inl upd_same), rfl, _, _, rfl, _, _, rfl, rfl, ?_⟩
      have g1 : ((σ.set 1 (some (V.int (i : Nat)))).set 2 (some (V.ref p)))[1]? = some (some (V.int (i : Nat))) := by
        rw [List.getElem?_set_ne (by decide)]
        exact List.getElem?_set_self (by omega)
      have g2 : ((σ.set 1 (some (V.int (i : Nat)))).set 2 (some (V.ref p)))[2]? = some (some (V.ref p)) := List.getElem?_set_self (by rw [List.length_set]; omega)
      refine ⟨_, g1, rfl, false, dF (fun z => by injection z with z; omega), iteF ⟨_, g2, p, r, rfl, xl.tab, (x3.trans xl).sqT (hP.row i p r hp hr2), hO.rows r (List.mem_of_getElem? hr2), fun H5 x5 => ⟨true, rfl, iteF ⟨(x3.trans xl).trans x5, ?_, ?_⟩⟩⟩⟩
      · rw [List.getElem?_set_ne (by decide), List.getElem?_set_ne (by decide)]; exact s0
      · rw [List.length_set, List.length_set]; exact sl
    · rintro σ H' ⟨x, _⟩
      exact k H' x
theorem sc_check : FnScope ["page", "number"] ["page"] (defScope s_check_page) := ⟨rfl, rfl, rfl, by decide +kernel, rfl, by decide +kernel, by decide +kernel⟩
theorem ok_check {f g : Addr} {fd fdg : FuncData} (T : Txt mg) (F : Fun K "check_page" "check_page" s_check_page f fd)
    (G : FnOk P w K mg base CX0 10 g fdg ["rows"] (spCheck K cs)) (kp : PySem.W.keepIn K (.ref g) = true) (bd : Binds K fdg ["rows"] []) (mgg : mg "first_misfit" = some (.ref g)) : FnOk P w K mg base CX0 11 f fd ["page"] (spCheck K cs) := by
  refine F.ok sc_check (fun vs H Q E h => ?_) (fun cdv A outer s H vs Q E hr h => ?_)
  · obtain ⟨a, as, rows, rfl, _⟩ := h
    rfl
  · obtain ⟨a, as, rows, rfl, hT, hP, hO, k⟩ := h
    have nd := sc_check.nd
    refine ⟨_, pss_cons (ps_if (PW.pt (pw_or (pt_not (pt_val (pe_callB call_isi (by rfl) T.isin (by decide +kernel) (pa_cons (pv 0) (pa_cons (pe_bltn (v := .ty "list") (by rfl) T.list (by decide +kernel) rfl) pa_nil)))))
        (pw_or1 (pt_cmpR op_eq (pe_callB call_len_seq (by rfl) T.len PySem.boot_len (pa_cons (pv 0) pa_nil)) pe_int (nomark _))))) (pss_one ps_never) pss_nil)
      (pss_cons (ps_set (i := 1) nd rfl (.inl rfl) (pe_call G hr (by rfl) mgg kp bd .nil pass0 (pa_cons (pv 0) pa_nil)))
      (pss_one (ps_if (pt_cmpR op_notN (pv 1) pe_non (nomark _)) (pss_one ps_never) pss_nil))), ?_⟩
    have hl : (as.map V.ref).length = rows.length := by rw [List.length_map]; exact hP.len
    have := hO.pos
    have := hO.len
    refine ⟨_, rfl, _, _, _, _, true, rfl, .ty _, ty_list hP.lst, kit_ty (by decide +kernel), true, rfl, iteF ⟨_, rfl, a, _, rfl, .inl hP.lst, rfl, false, dF (fun z => by injection z with z; omega), iteF ?_⟩⟩
    exact ⟨_, rfl, a, as, rows, rfl, hT, hP, hO, fun H' x => ⟨_, rfl, rfl, false, rfl, iteF (k H' x)⟩⟩
structure StyleAt (K : PySem.W.Frag) (H : Hp) (a : Addr) (gap least : Int) : Prop where
  tup : SqT K H a [.int gap, .int least]
  g0 : 0 ≤ gap
  g1 : gap ≤ 4
  l0 : 0 ≤ least
  l1 : least ≤ 12
def spStyle (K : PySem.W.Frag) : Sp := fun vs H Q _ => ∃ (a : Addr) (gap least : Int), vs = [.ref a] ∧ StyleAt K H a gap least ∧ Q .non H
theorem sc_style : FnScope ["style", "gap", "least"] ["style"] (defScope s_check_style) := ⟨rfl, rfl, rfl, by decide +kernel, rfl, by decide +kernel, by decide +kernel⟩
theorem ok_cstyle {f g : Addr} {fd fdg : FuncData} (T : Txt mg) (N : Consts mg) (F : Fun K "check_style" "check_style" s_check_style f fd)
    (G : FnOk P w K mg base CX0 1 g fdg ["value", "low", "high"] spWhole) (kp : PySem.W.keepIn K (.ref g) = true) (bd : Binds K fdg ["value", "low", "high"] []) (mgg : mg "is_whole" = some (.ref g)) : FnOk P w K mg base CX0 2 f fd ["style"] (spStyle K) := by
  refine F.ok sc_style (fun vs H Q E h => ?_) (fun cdv A outer s H vs Q E hr h => ?_)
  · obtain ⟨a, gap, least, rfl, _⟩ := h
    rfl
  · obtain ⟨a, gap, least, rfl, ⟨hS, g0, g1, l0, l1⟩, k⟩ := h
    have nd := sc_style.nd
    obtain ⟨t1, e1⟩ := N.gap
    obtain ⟨t2, e2⟩ := N.least
    refine ⟨_, pss_cons (ps_if (PW.pt (pw_or (pt_not (pt_val (pe_callB call_isi (by rfl) T.isin (by decide +kernel) (pa_cons (pv 0) (pa_cons (pe_bltn (v := .ty "tuple") (by rfl) T.tuple (by decide +kernel) rfl) pa_nil)))))
        (pw_or1 (pt_cmpR op_ne (pe_callB call_len_seq (by rfl) T.len PySem.boot_len (pa_cons (pv 0) pa_nil)) pe_int (nomark _))))) (pss_one ps_never) pss_nil)
      (pss_cons (ps_asg (pv 0) (pg_tup rfl (pgs_cons (pg_name (i := 1) nd rfl (.inl rfl)) (pgs_cons (pg_name (i := 2) nd rfl (.inl rfl)) pgs_nil))))
      (pss_one (ps_if (PW.pt (pw_or (pt_not (pt_val (pe_call G hr (by rfl) mgg kp bd .nil pass0 (pa_cons (pv 1) (pa_cons pe_int (pa_cons (pe_glob (v := .int 4) rfl e1 ⟨_, rfl⟩) pa_nil))))))
        (pw_or1 (pt_not (pt_val (pe_call G hr (by rfl) mgg kp bd .nil pass0 (pa_cons (pv 2) (pa_cons pe_int (pa_cons (pe_glob (v := .int 12) rfl e2 ⟨_, rfl⟩) pa_nil))))))))) (pss_one ps_never) pss_nil))), ?_⟩
    refine ⟨_, rfl, _, _, _, _, true, rfl, .ty _, ty_tup hS, kit_ty (by decide +kernel), true, rfl, iteF ⟨_, rfl, a, _, rfl, .inr hS, rfl, false, rfl, iteF ?_⟩⟩
    exact ⟨_, rfl, a, _, rfl, hS, rfl, _, _, rfl, _, _, rfl, rfl, _, rfl, gap, 0, 4, rfl, g0, g1, true, rfl, iteF ⟨_, rfl, least, 0, 12, rfl, l0, l1, true, rfl, iteF k⟩⟩
end
end TG
namespace TG
open PySem L2 Gx
abbrev cl (z : Str) : List Nat := z.cps.toList
def restL (l : List Nat) : List Nat := if l.head? = some 45 then l.tail else l
def figB (z : Str) : Bool := decide (restL (cl z) ≠ []) && (restL (cl z)).all fun c => decide (48 ≤ c ∧ c ≤ 57)
theorem digit_lt : ∀ c < 127, Unicode.isDigit c = decide (48 ≤ c ∧ c ≤ 57) := by decide +kernel
theorem isdigit_eq {z : Str} (h : ∀ c ∈ cl z, c < 127) : Txt.isdigit z = (decide (cl z ≠ []) && (cl z).all fun c => decide (48 ≤ c ∧ c ≤ 57)) := by
  obtain ⟨⟨l⟩⟩ := z
  unfold Txt.isdigit
  simp only [Str.length, cl] at h ⊢
  congr 1
  · cases l <;> simp
  · rw [Bool.eq_iff_iff]
    simp only [List.all_eq_true, List.all_toArray]
    constructor
    · intro q c hc
      rw [← digit_lt c (h c hc)]; exact q c hc
    · intro q c hc
      rw [digit_lt c (h c hc)]; exact q c hc
theorem cut1 (z : Str) : cl (cutS z (some 1) none) = (cl z).tail := by
  obtain ⟨⟨l⟩⟩ := z
  unfold cutS
  simp only [cl, Str.length]
  rw [HT.sIx_none, show (some (1 : Int)) = some ((1 : Nat) : Int) from rfl, HT.sIx_nat]
  cases l with
  | nil => simp
  | cons a l => simp
theorem cut01 (z : Str) : cl (cutS z none (some 1)) = (cl z).take 1 := by
  obtain ⟨⟨l⟩⟩ := z
  unfold cutS
  simp only [cl, Str.length]
  rw [HT.sIx_none, show (some (1 : Int)) = some ((1 : Nat) : Int) from rfl, HT.sIx_nat]
  cases l with
  | nil => simp
  | cons a l => simp
theorem starts_dash (z : Str) : Txt.startswith z "-" = decide ((cl z).head? = some 45) := by
  obtain ⟨⟨l⟩⟩ := z
  have e : ("-" : Str) = ⟨#[45]⟩ := by decide +kernel
  rw [e]
  unfold Txt.startswith Builtin.Str.subAt
  cases l with
  | nil => simp [Str.length, cl]
  | cons a l =>
    simp only [Str.length, cl, List.head?_cons]
    by_cases h : a = 45
    · subst h
      simp
    · simp [h]
theorem str_ext {a b : Str} (h : cl a = cl b) : a = b := by
  obtain ⟨⟨a⟩⟩ := a
  obtain ⟨⟨b⟩⟩ := b
  have h : a = b := h
  rw [h]
section
variable {P : Program} {w : World} {K : PySem.W.Frag} {mg : Str → Option Value} {base : Heap} {cs : List (Addr × Addr)}
def spFig : Sp := fun vs H Q _ => ∃ z : Str, vs = [.str z] ∧ CellOk z ∧ Q (.bl (figB z)) H
theorem sc_isfig : FnScope ["cell"] ["cell"] (defScope s_is_figures) := ⟨rfl, rfl, rfl, by decide +kernel, rfl, by decide +kernel, by decide +kernel⟩
theorem ok_isfig {f : Addr} {fd : FuncData} (F : Fun K "is_figures" "is_figures" s_is_figures f fd) : FnOk P w K mg base CX0 1 f fd ["cell"] spFig := by
  refine F.ok sc_isfig (fun vs H Q E h => ?_) (fun cdv A outer s H vs Q E hr h => ?_)
  · obtain ⟨z, rfl, _⟩ := h
    rfl
  · obtain ⟨z, rfl, ⟨h1, h2⟩, k⟩ := h
    refine ⟨_, pss_cons (ps_if (pt_val (pe_m1 PySem.F.slot_str_startswith PySem.F.type_str_startswith mt_startswith (pv 0) pe_str)) (pss_one (ps_ret (pe_m0 PySem.F.slot_str_isdigit PySem.F.type_str_isdigit mt_isdigit (pe_slice sl_str (pv 0) (po_some pe_int) po_none)))) pss_nil)
      (pss_one (ps_ret (pe_m0 PySem.F.slot_str_isdigit PySem.F.type_str_isdigit mt_isdigit (pv 0)))), ?_⟩
    have lt : ∀ c ∈ cl z, c < 127 := fun c hc => by have := h2 c hc; unfold SgOk at this; omega
    refine ⟨_, rfl, ⟨_, rfl⟩, z, _, rfl, rfl, _, rfl, ?_⟩
    rw [starts_dash]
    by_cases hd : (cl z).head? = some 45
    · rw [decide_eq_true hd]
      refine iteT ⟨_, rfl, 1, rfl, z, rfl, line10 (by omega), ⟨_, rfl⟩, _, rfl, rfl, trivial, ?_⟩
      have e : Txt.isdigit (cutS z (some 1) none) = figB z := by
        rw [isdigit_eq (fun c hc => lt c (by rw [cut1] at hc; exact List.mem_of_mem_tail hc)), cut1]
        unfold figB restL
        rw [if_pos hd]
      rw [e]
      exact k
    · rw [decide_eq_false hd]
      refine iteF ⟨_, rfl, ⟨_, rfl⟩, _, rfl, rfl, trivial, ?_⟩
      have e : Txt.isdigit z = figB z := by
        rw [isdigit_eq lt]
        unfold figB restL
        rw [if_neg hd]
      rw [e]
      exact k
end
end TG
namespace TG
open PySem L2 Gx
def fillB (zs : List Str) : List Str := zs.filter fun z => decide (cl z ≠ [])
def rightB (zs : List Str) : Bool := decide (fillB zs ≠ []) && (fillB zs).all figB
theorem ne_empty (z : Str) : (!decide (V.str z = V.str "")) = decide (cl z ≠ []) := by
  have e : ("" : Str) = ⟨#[]⟩ := by decide +kernel
  by_cases h : cl z = []
  · have q : z = "" := str_ext (by rw [h, e])
    rw [decide_eq_true (show V.str z = V.str "" by rw [q]), decide_eq_false (fun n => n h)]
    rfl
  · rw [decide_eq_false (show ¬ V.str z = V.str "" from fun q => h (by injection q with q; rw [q, e])), decide_eq_true h]
    rfl
theorem filter_take {α : Type} {p : α → Bool} {xs : List α} {i : Nat} {x : α} (h : xs[i]? = some x) : (xs.take (i + 1)).filter p = (xs.take i).filter p ++ (if p x = true then [x] else []) := by
  rw [List.take_add_one, h, List.filter_append]
  congr 1
  by_cases hp : p x = true
  · rw [if_pos hp]
    simp [hp]
  · rw [if_neg hp]
    simp [hp]
section
variable {P : Program} {w : World} {K : PySem.W.Frag} {mg : Str → Option Value} {base : Heap} {cs : List (Addr × Addr)}
def spRight (K : PySem.W.Frag) (cs : List (Addr × Addr)) : Sp := fun vs H Q _ => ∃ (a : Addr) (zs : List Str), vs = [.ref a] ∧ Tabs cs H ∧ SqL K H a (sV zs) ∧ zs.length ≤ 1000 ∧ (∀ z ∈ zs, CellOk z) ∧ ∀ H', Ex cs H H' → Q (.bl (rightB zs)) H'
theorem sc_right : FnScope ["cells", "filled", "cell"] ["cells"] (defScope s_stands_right) := ⟨rfl, rfl, rfl, by decide +kernel, rfl, by decide +kernel, by decide +kernel⟩
theorem ok_right {f c Pt g : Addr} {fd fdg : FuncData} (T : Txt mg) (F : Fun K "stands_right" "stands_right" s_stands_right f fd) (hc : fd.code = .ref c) (TB : GxR.TabB base mg c Pt) (hm : (c, Pt) ∈ cs)
    (G : FnOk P w K mg base CX0 1 g fdg ["cell"] spFig) (kp : PySem.W.keepIn K (.ref g) = true) (bd : Binds K fdg ["cell"] []) (mgg : mg "is_figures" = some (.ref g)) : FnOk P w K mg base CX0 5 f fd ["cells"] (spRight K cs) := by
  refine fun_okT F hc sc_right (fun vs H Q E h => ?_) (fun A outer s H vs Q E hr h => ?_)
  · obtain ⟨a, zs, rfl, _⟩ := h
    rfl
  · obtain ⟨a, zs, rfl, hT, hS, hl, hz, k⟩ := h
    have nd := sc_right.nd
    refine ⟨_, pss_cons (ps_setLc (i := 1) (own := [("cell", 2)]) (g := gName 2) rfl nd rfl rfl (sw_true rfl rfl rfl (by decide +kernel)) (pi_list (pv 0)) (blkOk_by (own := [("cell", 2)]) (N := ["cells", "filled", "cell"]) (sc := defScope s_stands_right) (by decide +kernel))
        (fun _ _ _ _ _ => pg_name (i := 2) nd rfl (Or.inl rfl)) (fun _ _ _ _ _ => pts_one (pt_cmpR op_ne (pv 2) pe_str (nomark _))) (fun _ _ _ _ _ => pv 2))
      (pss_one (ps_ret (pe_and (pe_cmpR op_gt (pe_callB call_len_seq (by rfl) T.len PySem.boot_len (pa_cons (pv 1) pa_nil)) pe_int (nomark _))
        (pe_one (pe_allG (k := 1) (P := Pt) hr (by rfl) T.all TB rfl ⟨rfl, rfl, by decide +kernel, by decide +kernel, rfl, rfl⟩ (pi_list (pv 1)) (fun A' code s4 H4 fp hr' => pe_call G hr' (by rfl) mgg kp bd .nil pass0 (pa_cons (pv 0) pa_nil)) (fun _ => rfl)))))), ?_⟩
    have ls : (sV zs).length = zs.length := List.length_map ..
    refine ⟨_, rfl, a, rfl, ⟨_, hS⟩, fun D nD => lc_list (xs := sV zs) (fun i H' => Ex cs H H' ∧ H' D = some (.lst (sV (fillB (zs.take i))))) ⟨Ex.laid hT nD, upd_same⟩ (fun i H' _ p => p.1.sqL hS) ?_ ?_⟩
    · rintro i x H1 hx ⟨x1, hD⟩
      obtain ⟨z, hz1, rfl⟩ := get_map hx
      have hi : i < zs.length := (List.getElem?_eq_some_iff.mp hz1).1
      have hf := filter_take (p := fun z => decide (cl z ≠ [])) hz1
      refine ⟨rfl, _, rfl, rfl, _, rfl, ?_⟩
      rw [ne_empty]
      by_cases hc : cl z ≠ []
      · rw [decide_eq_true hc]
        rw [if_pos (decide_eq_true hc)] at hf
        refine iteT ⟨_, rfl, _, hD, ?_, ex_new hT x1 nD, ?_⟩
        · have q : (fillB (zs.take i)).length ≤ (zs.take i).length := List.length_filter_le ..
          have q2 : (sV (fillB (zs.take i))).length = (fillB (zs.take i)).length := List.length_map ..
          rw [List.length_take] at q
          have : (1000 : Nat) < sizeLine := by decide
          omega
        · rw [upd_same]
          unfold fillB
          rw [hf]
          simp [sV]
      · rw [decide_eq_false hc]
        rw [if_neg (by rw [decide_eq_false hc]; exact Bool.false_ne_true), List.append_nil] at hf
        refine iteF ⟨x1, ?_⟩
        unfold fillB
        rw [hf]
        exact hD
    · rintro H1 ⟨x1, hD⟩
      rw [ls, List.take_of_length_le (Nat.le_refl _)] at hD
      have hf : ∀ z ∈ fillB zs, CellOk z := fun z h => hz z (List.mem_filter.mp h).1
      refine ⟨_, rfl, D, _, rfl, .inl (SqL.of hD), _, 0, rfl, rfl, _, rfl, ?_⟩
      have lf : (sV (fillB zs)).length = (fillB zs).length := List.length_map ..
      by_cases hn : fillB zs = []
      · have e0 : decide (((sV (fillB zs)).length : Int) > 0) = false := decide_eq_false (by rw [hn]; simp)
        rw [e0]
        refine iteF ?_
        have e : rightB zs = false := by
          unfold rightB
          rw [decide_eq_false (fun q => q hn)]
          rfl
        rw [← e]
        exact k _ x1
      · have hp : 0 < (fillB zs).length := List.length_pos_iff.mpr hn
        have e0 : decide (((sV (fillB zs)).length : Int) > 0) = true := decide_eq_true (by omega)
        rw [e0]
        refine iteT ⟨_, rfl, D, rfl, ⟨_, SqL.of hD⟩, x1.tab _ hm, fun H2 hH2 => ?_⟩
        have x2 := Ex.tabbed x1.tab hm hH2
        have hR : rightB zs = (fillB zs).all figB := by
          unfold rightB
          rw [decide_eq_true hn, Bool.true_and]
        refine all_by (w := walk_list (a := D) (xs := sV (fillB zs))) (fun i => match (fillB zs)[i]? with | some z => figB z | none => true) (fun _ H' => Ex cs H H' ∧ H' D = some (.lst (sV (fillB zs)))) ⟨x1.trans x2, x2.ext _ _ hD fun ps q => by cases q⟩ (fun i H' _ x => SqL.of x.2) (fun i v H3 H4 hi x y Z hZ => ?_) (fun H3 x hall => ?_) (fun i H3 hi hff x => ?_)
        · obtain ⟨rfl, hv⟩ := y
          obtain ⟨z, hz2, rfl⟩ := get_map hv
          refine ⟨_, rfl, z, rfl, hf z (List.mem_of_getElem? hz2), ?_⟩
          have := hZ _ x
          rw [hz2] at this
          exact this
        · have e : rightB zs = true := by
            rw [hR, List.all_eq_true]
            intro z hzm
            obtain ⟨i, hi, e⟩ := List.getElem_of_mem hzm
            have q := hall i (by omega)
            rw [List.getElem?_eq_getElem hi, e] at q
            exact q
          rw [← e]
          exact k _ x.1
        · have e : rightB zs = false := by
            rw [hR, Bool.eq_false_iff]
            intro q
            rw [List.all_eq_true] at q
            have hi2 : i < (fillB zs).length := by omega
            rw [List.getElem?_eq_getElem hi2] at hff
            have := q _ (List.getElem_mem hi2)
            rw [show figB (fillB zs)[i] = false from hff] at this
            cases this
          rw [← e]
          exact k _ x.1
end
end TG
namespace TG
open PySem L2 Gx
def clB (rows : List (List Str)) (c i : Nat) : Bool := match rows[i]? with
  | some r => decide (c + 1 < r.length)
  | none => false
def hiB (rows : List (List Str)) (c i : Nat) : Nat := i + ((rows.drop i).takeWhile fun r => decide (c + 1 < r.length)).length
def stB (rows : List (List Str)) (c i : Nat) : Bool := clB rows c i && (decide (i = 0) || !clB rows c (i - 1))
def runsB (rows : List (List Str)) (c : Nat) : List (Nat × Nat) := ((List.range rows.length).filter (stB rows c)).map fun i => (i, hiB rows c i)
theorem hi_yes {rows : List (List Str)} {c i : Nat} (h : clB rows c i = true) : hiB rows c i = hiB rows c (i + 1) := by
  unfold clB at h
  cases e : rows[i]? with
  | none => rw [e] at h; cases h
  | some r =>
    rw [e] at h
    obtain ⟨hi, e2⟩ := List.getElem?_eq_some_iff.mp e
    have h' : decide (c + 1 < r.length) = true := h
    unfold hiB
    rw [List.drop_eq_getElem_cons hi, e2, List.takeWhile_cons, h', if_pos rfl, List.length_cons]
    omega
theorem hi_no {rows : List (List Str)} {c i : Nat} (h : clB rows c i = false) : hiB rows c i = i := by
  unfold clB at h
  unfold hiB
  cases e : rows[i]? with
  | none =>
    have hl : rows.length ≤ i := List.getElem?_eq_none_iff.mp e
    rw [List.drop_of_length_le hl]
    rfl
  | some r =>
    rw [e] at h
    obtain ⟨hi, e2⟩ := List.getElem?_eq_some_iff.mp e
    have h' : decide (c + 1 < r.length) = false := h
    rw [List.drop_eq_getElem_cons hi, e2, List.takeWhile_cons, h', if_neg Bool.false_ne_true]
    rfl
theorem hi_ge (rows : List (List Str)) (c i : Nat) : i ≤ hiB rows c i := Nat.le_add_right ..
theorem cl_lt {rows : List (List Str)} {c i : Nat} (h : clB rows c i = true) : i < rows.length := by
  unfold clB at h
  cases e : rows[i]? with
  | none => rw [e] at h; cases h
  | some r => exact (List.getElem?_eq_some_iff.mp e).1
theorem hi_le {rows : List (List Str)} {c i : Nat} (h : i ≤ rows.length) : hiB rows c i ≤ rows.length := by
  unfold hiB
  have := (List.takeWhile_prefix (l := rows.drop i) (fun r : List Str => decide (c + 1 < r.length))).length_le
  rw [List.length_drop] at this
  omega
theorem hi_in {rows : List (List Str)} {c : Nat} : ∀ (d i j : Nat), j = i + d → j < hiB rows c i → clB rows c j = true := by
  intro d
  induction d with
  | zero =>
    intro i j e h
    have e' : j = i := by omega
    subst e'
    cases hc : clB rows c j with
    | true => rfl
    | false =>
      rw [hi_no hc] at h
      omega
  | succ d ih =>
    intro i j e h
    cases hc : clB rows c i with
    | true =>
      rw [hi_yes hc] at h
      exact ih (i + 1) j (by omega) h
    | false =>
      rw [hi_no hc] at h
      omega
/-- one turn of the outer loop -/
theorem starts_turn {rows : List (List Str)} {c k : Nat} (hk : k = 0 ∨ clB rows c (k - 1) = false) :
    (List.range (hiB rows c k + 1)).filter (stB rows c) = (List.range k).filter (stB rows c) ++ (if clB rows c k = true then [k] else []) := by
  have key : ∀ d, k + d ≤ hiB rows c k → (List.range (k + d + 1)).filter (stB rows c) = (List.range k).filter (stB rows c) ++ (if clB rows c k = true then [k] else []) := by
    intro d
    induction d with
    | zero =>
      intro _
      rw [Nat.add_zero, List.range_succ, List.filter_append]
      congr 1
      have e : stB rows c k = clB rows c k := by
        unfold stB
        rcases hk with h | h
        · rw [decide_eq_true h]; simp
        · rw [h]; simp
      by_cases hc : clB rows c k = true
      · rw [if_pos hc]
        simp [e, hc]
      · rw [if_neg hc]
        simp [e, hc]
    | succ d ih =>
      intro hle
      rw [← Nat.add_assoc, List.range_succ, List.filter_append, ih (by omega)]
      have h1 : clB rows c (k + d) = true := hi_in d k (k + d) rfl (by omega)
      have e : stB rows c (k + d + 1) = false := by
        unfold stB
        rw [Nat.add_sub_cancel, h1, decide_eq_false (by omega)]
        simp
      simp [e]
  have h0 := hi_ge rows c k
  have := key (hiB rows c k - k) (by omega)
  rw [show k + (hiB rows c k - k) + 1 = hiB rows c k + 1 by omega] at this
  exact this
theorem starts_end {rows : List (List Str)} {c k : Nat} (h1 : rows.length ≤ k) : (List.range k).filter (stB rows c) = (List.range rows.length).filter (stB rows c) := by
  obtain ⟨d, rfl⟩ : ∃ d, k = rows.length + d := ⟨k - rows.length, by omega⟩
  clear h1
  induction d with
  | zero => rfl
  | succ d ih =>
    rw [← Nat.add_assoc, List.range_succ, List.filter_append, ih]
    have e : stB rows c (rows.length + d) = false := by
      unfold stB
      cases hc : clB rows c (rows.length + d) with
      | true => have := cl_lt hc; omega
      | false => rfl
    simp [e]
/-- pairs of numbers at ts -/
structure PairsAt (H : Hp) (ts : List Addr) (ps : List (Nat × Nat)) : Prop where
  len : ts.length = ps.length
  at_ : ∀ (i : Nat) (t : Addr) (p : Nat × Nat), ts[i]? = some t → ps[i]? = some p → H t = some (.tup [.int (p.1 : Nat), .int (p.2 : Nat)])
theorem PairsAt.snoc {H : Hp} {ts : List Addr} {ps : List (Nat × Nat)} {t : Addr} {p : Nat × Nat} (h : PairsAt H ts ps) (e : H t = some (.tup [.int (p.1 : Nat), .int (p.2 : Nat)])) : PairsAt H (ts ++ [t]) (ps ++ [p]) := by
  refine ⟨by rw [List.length_append, List.length_append, h.len]; rfl, fun i u q h1 h2 => ?_⟩
  by_cases hi : i < ts.length
  · rw [List.getElem?_append_left hi] at h1
    rw [List.getElem?_append_left (by rw [← h.len]; exact hi)] at h2
    exact h.at_ i u q h1 h2
  · have hl := (List.getElem?_eq_some_iff.mp h1).1
    rw [List.length_append, List.length_singleton] at hl
    have e1 : i = ts.length := by omega
    subst e1
    rw [List.getElem?_append_right (Nat.le_refl _), Nat.sub_self] at h1
    rw [h.len, List.getElem?_append_right (Nat.le_refl _), Nat.sub_self] at h2
    cases h1
    cases h2
    exact e
theorem PairsAt.keep {H H' : Hp} {ts : List Addr} {ps : List (Nat × Nat)} (h : PairsAt H ts ps) (k : ∀ b xs, H b = some (.tup xs) → H' b = some (.tup xs)) : PairsAt H' ts ps := ⟨h.len, fun i t p h1 h2 => k _ _ (h.at_ i t p h1 h2)⟩
section
variable {P : Program} {w : World} {K : PySem.W.Frag} {mg : Str → Option Value} {base : Heap} {cs : List (Addr × Addr)}
def spClosed (K : PySem.W.Frag) : Sp := fun vs H Q _ => ∃ (p : Addr) (r : List Str) (c : Nat), vs = [.ref p, .int (c : Nat)] ∧ SqT K H p (sV r) ∧ Q (.bl (decide (c + 1 < r.length))) H
theorem sc_closed : FnScope ["row", "column"] ["row", "column"] (defScope s_is_closed) := ⟨rfl, rfl, rfl, by decide +kernel, rfl, by decide +kernel, by decide +kernel⟩
theorem ok_closed {f : Addr} {fd : FuncData} (T : Txt mg) (F : Fun K "is_closed" "is_closed" s_is_closed f fd) : FnOk P w K mg base CX0 1 f fd ["row", "column"] (spClosed K) := by
  refine F.ok sc_closed (fun vs H Q E h => ?_) (fun cdv A outer s H vs Q E hr h => ?_)
  · obtain ⟨p, r, c, rfl, _⟩ := h
    rfl
  · obtain ⟨p, r, c, rfl, hS, k⟩ := h
    refine ⟨_, pss_one (ps_ret (pe_cmpR op_lt (pe_op op_add (pv 1) pe_int) (pe_callB call_len_seq (by rfl) T.len PySem.boot_len (pa_cons (pv 0) pa_nil)) (nomark _))), ?_⟩
    refine ⟨_, rfl, c, 1, rfl, rfl, _, rfl, p, _, rfl, .inr hS, _, _, rfl, rfl, ?_⟩
    have ls : (sV r).length = r.length := List.length_map ..
    have e : decide ((c : Int) + 1 < ((sV r).length : Int)) = decide (c + 1 < r.length) := by
      rw [ls]
      by_cases h : c + 1 < r.length
      · rw [decide_eq_true h, decide_eq_true (by omega)]
      · rw [decide_eq_false h, decide_eq_false (by omega)]
    show Q (.bl (decide ((c : Int) + 1 < ((sV r).length : Int)))) H
    rw [e]
    exact k
def spRuns (K : PySem.W.Frag) (cs : List (Addr × Addr)) : Sp := fun vs H Q _ => ∃ (a : Addr) (as : List Addr) (rows : List (List Str)) (c : Nat), vs = [.ref a, .int (c : Nat)] ∧ Tabs cs H ∧ PageAt K H a as rows ∧ rows.length ≤ 30 ∧
  ∀ (r : Addr) (ts : List Addr) (H' : Hp), Ex cs H H' → H r = none → H' r = some (.lst (ts.map V.ref)) → PairsAt H' ts (runsB rows c) → Q (.ref r) H'
theorem sc_runs : FnScope ["page", "column", "runs", "begin", "end"] ["page", "column"] (defScope s_closed_runs) := ⟨rfl, rfl, rfl, by decide +kernel, rfl, by decide +kernel, by decide +kernel⟩
theorem ok_runs {f g : Addr} {fd fdg : FuncData} (T : Txt mg) (F : Fun K "closed_runs" "closed_runs" s_closed_runs f fd)
    (G : FnOk P w K mg base CX0 1 g fdg ["row", "column"] (spClosed K)) (kp : PySem.W.keepIn K (.ref g) = true) (bd : Binds K fdg ["row", "column"] []) (mgg : mg "is_closed" = some (.ref g)) : FnOk P w K mg base CX0 2 f fd ["page", "column"] (spRuns K cs) := by
  refine F.ok sc_runs (fun vs H Q E h => ?_) (fun cdv A outer s H vs Q E hr h => ?_)
  · obtain ⟨a, as, rows, c, rfl, _⟩ := h
    rfl
  · obtain ⟨a, as, rows, c, rfl, hT, hP, hn, k⟩ := h
    have nd := sc_runs.nd
    refine ⟨_, pss_cons (ps_set (i := 2) nd rfl (.inl rfl) (pe_lst pa_nil)) (pss_cons (ps_set (i := 3) nd rfl (.inl rfl) pe_int)
      (pss_cons (ps_while PassesOwn.never (pt_cmpR op_lt (pv 3) (pe_callB call_len_seq (by rfl) T.len PySem.boot_len (pa_cons (pv 0) pa_nil)) (nomark _))
        (pss_cons (ps_set (i := 4) nd rfl (.inl rfl) (pv 3))
        (pss_cons (ps_while PassesOwn.never (PW.pt (pw_and (pt_cmpR op_lt (pv 4) (pe_callB call_len_seq (by rfl) T.len PySem.boot_len (pa_cons (pv 0) pa_nil)) (nomark _)) (pw_and1 (pt_val (pe_call G hr (by rfl) mgg kp bd .nil pass0 (pa_cons (pe_ix ix_list (pv 0) (pv 4) (fun _ _ => rfl)) (pa_cons (pv 1) pa_nil)))))))
            (pss_one (ps_aug (i := 4) nd rfl (.inl rfl) pe_int ip_add)))
        (pss_cons (ps_if (pt_cmpR op_gt (pv 4) (pv 3) (nomark _)) (pss_one (ps_expr (pe_bm PySem.F.plainAttrs_list PySem.F.slot_list_append PySem.F.type_list_append mt_append (pv 2) (pa_cons (pe_tup (pa_cons (pv 3) (pa_cons (pv 4) pa_nil))) pa_nil)))) pss_nil)
        (pss_one (ps_set (i := 3) nd rfl (.inl rfl) (pe_op op_add (pv 4) pe_int)))))))
      (pss_one (ps_ret (pv 2))))), ?_⟩
    refine ⟨small0, fun p np => ?_⟩
    -- the outer loop
    let runsAt : Nat → List (Nat × Nat) := fun k => ((List.range k).filter (stB rows c)).map fun i => (i, hiB rows c i)
    let Out : Nat → L2.St → Hp → Prop := fun m σ H1 => ∃ (b : Nat) (ts : List Addr) (e : Option V), σ = [some (.ref a), some (.int (c : Nat)), some (.ref p), some (.int (b : Nat)), e] ∧ m = rows.length + 1 - b ∧ b ≤ rows.length + 1 ∧ (b = 0 ∨ clB rows c (b - 1) = false) ∧ Ex cs H H1 ∧ H1 p = some (.lst (ts.map V.ref)) ∧ PairsAt H1 ts (runsAt b)
    refine ⟨Out, ⟨_, 0, [], none, rfl, rfl, Nat.zero_le _, .inl rfl, Ex.laid hT np, upd_same, rfl, fun i t q h => by simp at h⟩, ?_⟩
    rintro m σ H1 ⟨b, ts, e, rfl, rfl, hb, hst, x1, hp1, pr⟩
    have hl : (as.map V.ref).length = rows.length := by rw [List.length_map]; exact hP.len
    refine ⟨_, rfl, _, rfl, a, _, rfl, .inl (x1.sqL hP.lst), _, _, rfl, rfl, _, rfl, ?_⟩
    by_cases hlt : b < rows.length
    · rw [decide_eq_true (show (b : Int) < ((as.map V.ref).length : Int) by omega)]
      refine iteT ⟨Out (rows.length + 1 - (hiB rows c b + 1)), fun σ' H' o => ⟨_, by have := hi_ge rows c b; omega, o⟩, ?_⟩
      refine ⟨_, rfl, ?_⟩
      let Inn : Nat → L2.St → Hp → Prop := fun m σ H2 => ∃ e : Nat, σ = [some (.ref a), some (.int (c : Nat)), some (.ref p), some (.int (b : Nat)), some (.int (e : Nat))] ∧ m = rows.length - e ∧ b ≤ e ∧ e ≤ rows.length ∧ hiB rows c e = hiB rows c b ∧ H2 = H1
      refine ⟨Inn, ⟨_, b, rfl, rfl, Nat.le_refl _, Nat.le_of_lt hlt, rfl, rfl⟩, ?_⟩
      rintro m2 σ2 H2 ⟨e2, rfl, rfl, h1, h2, h3, rfl⟩
      refine ⟨_, rfl, _, rfl, a, _, rfl, .inl (x1.sqL hP.lst), _, _, rfl, rfl, _, rfl, ?_⟩
      have hsz : (ts.map V.ref).length < sizeLine := by
        have q1 : (runsAt b).length ≤ (List.range b).length := by
          show (((List.range b).filter (stB rows c)).map _).length ≤ _
          rw [List.length_map]
          exact List.length_filter_le ..
        rw [List.length_range] at q1
        rw [List.length_map, pr.len]
        have : (1000 : Nat) < sizeLine := by decide
        omega
      cases hcl : clB rows c e2 with
      | true =>
        have hlt2 := cl_lt hcl
        obtain ⟨q, hq⟩ := getP (xs := as) (i := e2) (by rw [hP.len]; exact hlt2)
        obtain ⟨r, hr2⟩ := getP hlt2
        have hcr : decide (c + 1 < r.length) = true := by
          unfold clB at hcl
          rw [hr2] at hcl
          exact hcl
        rw [decide_eq_true (show (e2 : Int) < ((as.map V.ref).length : Int) by omega)]
        refine iteT ⟨_, rfl, _, rfl, a, _, e2, .ref q, rfl, rfl, x1.sqL hP.lst, atI_nat (by rw [List.getElem?_map, hq]; rfl), _, rfl, q, r, c, rfl, x1.sqT (hP.row e2 q r hq hr2), true, by rw [hcr], iteT ?_⟩
        refine ⟨Inn (rows.length - (e2 + 1)), fun σ' H' o => ⟨_, by omega, o⟩, _, rfl, e2, 1, rfl, rfl, e2 + 1, rfl, rfl, by omega, by omega, by rw [← hi_yes hcl]; exact h3, rfl⟩
      | false =>
        have hnc := hcl
        have he : hiB rows c b = e2 := h3.symm.trans (hi_no hnc)
        by_cases hlt2 : e2 < rows.length
        · obtain ⟨q, hq⟩ := getP (xs := as) (i := e2) (by rw [hP.len]; exact hlt2)
          obtain ⟨r, hr2⟩ := getP hlt2
          have hcr : decide (c + 1 < r.length) = false := by
            unfold clB at hcl
            rw [hr2] at hcl
            exact hcl
          rw [decide_eq_true (show (e2 : Int) < ((as.map V.ref).length : Int) by omega)]
          refine iteT ⟨_, rfl, _, rfl, a, _, e2, .ref q, rfl, rfl, x1.sqL hP.lst, atI_nat (by rw [List.getElem?_map, hq]; rfl), _, rfl, q, r, c, rfl, x1.sqT (hP.row e2 q r hq hr2), false, by rw [hcr], iteF ?_⟩
          refine ⟨_, rfl, _, rfl, _, _, rfl, rfl, _, rfl, ?_⟩
          by_cases hgt : b < e2
          · rw [decide_eq_true (show (b : Int) < (e2 : Int) by omega)]
            refine iteT ⟨_, rfl, .inl ⟨rfl, _, SqL.of hp1⟩, _, rfl, _, rfl, (by show 2 ≤ sizeLine; decide), fun t nt => ⟨p, ts.map V.ref, .ref t, rfl, rfl, (by rw [upd_ne (ne_of_none hp1 nt)]; exact hp1), hsz, ?_⟩⟩
            refine ⟨_, rfl, e2, 1, rfl, rfl, ?_⟩
            have ntp : t ≠ p := fun z => by rw [z, hp1] at nt; cases nt
            have eR : runsAt (e2 + 1) = runsAt b ++ [(b, e2)] := by
              show ((List.range (e2 + 1)).filter (stB rows c)).map _ = _
              rw [← he, starts_turn hst, if_pos (hi_in 0 b b rfl (by omega)), List.map_append]
              rfl
            refine ⟨e2 + 1, ts ++ [t], some (.int (e2 : Nat)), rfl, by omega, by omega, .inr (by rw [Nat.add_sub_cancel]; exact hnc), ex_new hT (x1.trans (Ex.laid x1.tab nt)) np, ?_, ?_⟩
            · rw [upd_same, List.map_append]; rfl
            · rw [eR]
              refine (pr.keep fun q xs h => ?_).snoc ?_
              · rw [upd_ne (fun z => by rw [z, hp1] at h; cases h), upd_ne (ne_of_none h nt)]; exact h
              · rw [upd_ne ntp, upd_same]
          · rw [decide_eq_false (show ¬ (b : Int) < (e2 : Int) by omega)]
            refine iteF ⟨_, rfl, e2, 1, rfl, rfl, ?_⟩
            have eR : runsAt (e2 + 1) = runsAt b := by
              show ((List.range (e2 + 1)).filter (stB rows c)).map _ = _
              rw [← he, starts_turn hst, if_neg (fun z => by rw [hi_yes z] at he; have := hi_ge rows c (b + 1); omega), List.append_nil]
            refine ⟨e2 + 1, ts, some (.int (e2 : Nat)), rfl, by omega, by omega, .inr (by rw [Nat.add_sub_cancel]; exact hnc), x1, hp1, ?_⟩
            rw [eR]
            exact pr

        · rw [decide_eq_false (show ¬ (e2 : Int) < ((as.map V.ref).length : Int) by omega)]
          refine iteF (iteF ?_)
          refine ⟨_, rfl, _, rfl, _, _, rfl, rfl, _, rfl, ?_⟩
          by_cases hgt : b < e2
          · rw [decide_eq_true (show (b : Int) < (e2 : Int) by omega)]
            refine iteT ⟨_, rfl, .inl ⟨rfl, _, SqL.of hp1⟩, _, rfl, _, rfl, (by show 2 ≤ sizeLine; decide), fun t nt => ⟨p, ts.map V.ref, .ref t, rfl, rfl, (by rw [upd_ne (ne_of_none hp1 nt)]; exact hp1), hsz, ?_⟩⟩
            refine ⟨_, rfl, e2, 1, rfl, rfl, ?_⟩
            have ntp : t ≠ p := fun z => by rw [z, hp1] at nt; cases nt
            have eR : runsAt (e2 + 1) = runsAt b ++ [(b, e2)] := by
              show ((List.range (e2 + 1)).filter (stB rows c)).map _ = _
              rw [← he, starts_turn hst, if_pos (hi_in 0 b b rfl (by omega)), List.map_append]
              rfl
            refine ⟨e2 + 1, ts ++ [t], some (.int (e2 : Nat)), rfl, by omega, by omega, .inr (by rw [Nat.add_sub_cancel]; exact hnc), ex_new hT (x1.trans (Ex.laid x1.tab nt)) np, ?_, ?_⟩
            · rw [upd_same, List.map_append]; rfl
            · rw [eR]
              refine (pr.keep fun q xs h => ?_).snoc ?_
              · rw [upd_ne (fun z => by rw [z, hp1] at h; cases h), upd_ne (ne_of_none h nt)]; exact h
              · rw [upd_ne ntp, upd_same]
          · rw [decide_eq_false (show ¬ (b : Int) < (e2 : Int) by omega)]
            refine iteF ⟨_, rfl, e2, 1, rfl, rfl, ?_⟩
            have eR : runsAt (e2 + 1) = runsAt b := by
              show ((List.range (e2 + 1)).filter (stB rows c)).map _ = _
              rw [← he, starts_turn hst, if_neg (fun z => by rw [hi_yes z] at he; have := hi_ge rows c (b + 1); omega), List.append_nil]
            refine ⟨e2 + 1, ts, some (.int (e2 : Nat)), rfl, by omega, by omega, .inr (by rw [Nat.add_sub_cancel]; exact hnc), x1, hp1, ?_⟩
            rw [eR]
            exact pr
    · rw [decide_eq_false (show ¬ (b : Int) < ((as.map V.ref).length : Int) by omega)]
      refine iteF ⟨_, rfl, ?_⟩
      refine k p ts H1 x1 np hp1 ?_
      have e1 : runsAt b = runsB rows c := by
        show ((List.range b).filter (stB rows c)).map _ = _
        rw [starts_end (by omega)]
        rfl
      rw [← e1]
      exact pr
end
end TG
namespace TG
open PySem L2 Gx
abbrev nilS : Str := ⟨#[]⟩
def cellsB (rows : List (List Str)) (c b e : Nat) : List Str := ((rows.drop b).take (e - b)).map fun r => r.getD c nilS
def longB : List Str → Nat
  | [] => 0
  | z :: zs => max z.length (longB zs)
def widthB (zs : List Str) (gap least : Int) : Int := if least > (longB zs : Int) + gap then least else (longB zs : Int) + gap
def holdB (zs : List Str) (b : Nat) (gap least : Int) : List Int := if least < (longB zs : Int) + gap then ((List.range zs.length).filter fun i => decide ((zs.getD i nilS).length = longB zs)).map fun i => ((b + i : Nat) : Int) else []
theorem long_ge : ∀ {zs : List Str} {z : Str}, z ∈ zs → z.length ≤ longB zs
  | y :: zs, z, h => by
    rcases List.mem_cons.mp h with e | e
    · subst e; exact Nat.le_max_left _ _
    · exact Nat.le_trans (long_ge e) (Nat.le_max_right _ _)
theorem long_in : ∀ {zs : List Str}, zs ≠ [] → ∃ z ∈ zs, z.length = longB zs
  | [z], _ => ⟨z, List.mem_singleton.mpr rfl, by simp [longB]⟩
  | z :: y :: zs, _ => by
    obtain ⟨x, hx, e⟩ := long_in (zs := y :: zs) (by simp)
    by_cases h : longB (y :: zs) ≤ z.length
    · exact ⟨z, List.mem_cons_self, (Nat.max_eq_left h).symm⟩
    · exact ⟨x, List.mem_cons_of_mem _ hx, by rw [e]; exact (Nat.max_eq_right (by omega)).symm⟩
theorem cells_len {rows : List (List Str)} {c b e : Nat} (h : e ≤ rows.length) : (cellsB rows c b e).length = e - b := by
  unfold cellsB
  rw [List.length_map, List.length_take, List.length_drop]
  omega
theorem cells_get {rows : List (List Str)} {c b e i : Nat} (h : b + i < e) {r : List Str} (hr : rows[b + i]? = some r) : (cellsB rows c b e)[i]? = some (r.getD c nilS) := by
  unfold cellsB
  rw [List.getElem?_map, List.getElem?_take_of_lt (by omega), List.getElem?_drop, hr]
  rfl
theorem cells_mem {rows : List (List Str)} {c b e : Nat} (hO : PgOk rows) (hc : ∀ i, b ≤ i → i < e → clB rows c i = true) (he : e ≤ rows.length) {z : Str} (h : z ∈ cellsB rows c b e) : CellOk z := by
  obtain ⟨i, hi, e1⟩ := List.getElem_of_mem h
  rw [cells_len he] at hi
  obtain ⟨r, hr⟩ := getP (xs := rows) (i := b + i) (by omega)
  have q := cells_get (c := c) (b := b) (e := e) (i := i) (by omega) hr
  have hcl := hc (b + i) (by omega) (by omega)
  unfold clB at hcl
  rw [hr] at hcl
  have hcr : c + 1 < r.length := of_decide_eq_true hcl
  rw [List.getElem?_eq_getElem (by rw [cells_len he]; exact hi), e1] at q
  cases q
  have := (hO.rows r (List.mem_of_getElem? hr)).cells (r[c]'(by omega)) (List.getElem_mem _)
  rw [List.getD_eq_getElem?_getD, List.getElem?_eq_getElem (by omega)]
  exact this
theorem cut_mid {xs : List V} {b e : Nat} (h1 : b ≤ e) (h2 : e ≤ xs.length) : cutV xs (some (b : Int)) (some (e : Int)) = (xs.drop b).take (e - b) := by
  unfold cutV
  rw [HT.sIx_nat, HT.sIx_nat, Nat.min_eq_left h2, Nat.min_eq_left (Nat.le_trans h1 h2)]
section
variable {P : Program} {w : World} {K : PySem.W.Frag} {mg : Str → Option Value} {base : Heap} {cs : List (Addr × Addr)}
/-- the told tuple at t, its holders at h -/
def DescAt (H : Hp) (t h : Addr) (c b e : Nat) (zs : List Str) (gap least : Int) : Prop :=
  H t = some (.tup [.int (c : Nat), .int (b : Nat), .int (e : Nat), .int (widthB zs gap least), .bl (rightB zs), .ref h]) ∧ H h = some (.lst ((holdB zs b gap least).map V.int))
def spDesc (K : PySem.W.Frag) (cs : List (Addr × Addr)) : Sp := fun vs H Q _ => ∃ (a st : Addr) (as : List Addr) (rows : List (List Str)) (gap least : Int) (c b e : Nat), vs = [.ref a, .ref st, .int (c : Nat), .int (b : Nat), .int (e : Nat)] ∧ Tabs cs H ∧ PageAt K H a as rows ∧ PgOk rows ∧ StyleAt K H st gap least ∧
  b < e ∧ e ≤ rows.length ∧ (∀ i, b ≤ i → i < e → clB rows c i = true) ∧ ∀ (t h : Addr) (H' : Hp), Ex cs H H' → H t = none → H h = none → DescAt H' t h c b e (cellsB rows c b e) gap least → Q (.ref t) H'
theorem sc_desc : FnScope ["page", "style", "column", "begin", "end", "gap", "least", "cells", "longest", "holders", "row", "at", "cell"] ["page", "style", "column", "begin", "end"] (defScope s_described) := ⟨rfl, rfl, rfl, by decide +kernel, rfl, by decide +kernel, by decide +kernel⟩
theorem ok_desc {f c Pt g : Addr} {fd fdg : FuncData} (T : Txt mg) (F : Fun K "described" "described" s_described f fd) (hc : fd.code = .ref c) (TB : GxR.TabB base mg c Pt) (hm : (c, Pt) ∈ cs)
    (G : FnOk P w K mg base CX0 5 g fdg ["cells"] (spRight K cs)) (kp : PySem.W.keepIn K (.ref g) = true) (bd : Binds K fdg ["cells"] []) (mgg : mg "stands_right" = some (.ref g)) : FnOk P w K mg base CX0 6 f fd ["page", "style", "column", "begin", "end"] (spDesc K cs) := by
  refine fun_okT F hc sc_desc (fun vs H Q E h => ?_) (fun A outer s H vs Q E hr h => ?_)
  · obtain ⟨a, st, as, rows, gap, least, cc, b, e, rfl, _⟩ := h
    rfl
  · obtain ⟨a, st, as, rows, gap, least, cc, b, e, rfl, hT, hP, hO, ⟨hS, _⟩, hbe, hen, hcl, k⟩ := h
    have nd := sc_desc.nd
    refine ⟨_, pss_cons (ps_asg (pv 1) (pg_tup rfl (pgs_cons (pg_name (i := 5) nd rfl (.inl rfl)) (pgs_cons (pg_name (i := 6) nd rfl (.inl rfl)) pgs_nil))))
      (pss_cons (ps_setLc (i := 7) (own := [("row", 10)]) (g := gName 10) rfl nd rfl rfl (sw_true rfl rfl rfl (by decide +kernel)) (pi_list (pe_slice sl_list (pv 0) (po_some (pv 3)) (po_some (pv 4)))) (blkOk_by (own := [("row", 10)]) (N := ["page", "style", "column", "begin", "end", "gap", "least", "cells", "longest", "holders", "row", "at", "cell"]) (sc := defScope s_described) (by decide +kernel))
        (fun _ _ _ _ _ => pg_name (i := 10) nd rfl (Or.inl rfl)) (fun _ _ _ _ _ => pts_nil) (fun _ _ _ _ _ => pe_ix (r := rIxT K) ix_tup (pv 10) (pv 2) (fun _ _ => rfl)))
      (pss_cons (ps_set (i := 8) nd rfl (.inr rfl) (pe_maxG (k := 0) (P := Pt) (hr.mono (by decide)) (by rfl) T.max TB rfl ⟨rfl, rfl, by decide +kernel, by decide +kernel, rfl, rfl⟩ (pi_list (pv 7)) (fun A' code s4 H4 fp hr' => pe_callB call_len_str (by rfl) T.len PySem.boot_len (pa_cons (pv 0) pa_nil)) (fun _ => rfl)))
      (pss_cons (ps_set (i := 9) nd rfl (.inl rfl) (pe_lst pa_nil))
      (pss_cons (ps_if (pt_cmpR op_gt (pe_op op_add (pv 8) (pv 5)) (pv 6) (nomark _))
        (pss_one (ps_setLc (i := 9) (own := [("at", 11), ("cell", 12)]) (g := gTup K 2 (gCons (gName 11) (gCons (gName 12) gNil))) rfl nd rfl rfl (sw_true rfl rfl rfl (by decide +kernel)) (pi_enum (by rfl) T.enum (pa_cons (pv 7) pa_nil)) (blkOk_by (own := [("at", 11), ("cell", 12)]) (N := ["page", "style", "column", "begin", "end", "gap", "least", "cells", "longest", "holders", "row", "at", "cell"]) (sc := defScope s_described) (by decide +kernel))
          (fun _ _ _ _ _ => pg_tup rfl (pgs_cons (pg_name (i := 11) nd rfl (.inl rfl) (.inr rfl)) (pgs_cons (pg_name (i := 12) nd rfl (.inl rfl) (.inr rfl)) pgs_nil))) (fun _ _ _ _ _ => pts_one (pt_cmpR op_eq (pe_callB call_len_str (by rfl) T.len PySem.boot_len (pa_cons (pv 12) pa_nil)) (pv 8) (nomark _))) (fun _ _ _ _ _ => pe_op op_add (pv 3) (pv 11)))) pss_nil)
      (pss_one (ps_ret (pe_tup (pa_cons (pv 2) (pa_cons (pv 3) (pa_cons (pv 4) (pa_cons (pe_callB (call_max2 rfl) (by rfl) T.max (by decide +kernel) (pa_cons (pe_op op_add (pv 8) (pv 5)) (pa_cons (pv 6) pa_nil))) (pa_cons (pe_call G hr (by rfl) mgg kp bd .nil pass0 (pa_cons (pv 7) pa_nil)) (pa_cons (pv 9) pa_nil))))))))))))), ?_⟩
    have hL : cutV (as.map V.ref) (some (b : Int)) (some (e : Int)) = ((as.drop b).take (e - b)).map V.ref := by
      rw [cut_mid (by omega) (by rw [List.length_map, hP.len]; exact hen), ← List.map_drop, ← List.map_take]
    have lc := cells_len (c := cc) (b := b) hen
    have ll := hO.len
    have lsz : (1000 : Nat) < sizeLine := by decide
    have lsV : (sV (cellsB rows cc b e)).length = e - b := by rw [List.length_map, lc]
    have sll : ((as.drop b).take (e - b)).length = e - b := by rw [List.length_take, List.length_drop, hP.len]; omega
    refine ⟨_, rfl, st, _, rfl, hS, rfl, _, _, rfl, _, _, rfl, rfl, ?_⟩
    refine ⟨_, rfl, _, rfl, (b : Int), rfl, _, rfl, (e : Int), rfl, a, _, rfl, hP.lst, fun p np => ?_⟩
    rw [hL]
    refine ⟨p, rfl, ⟨_, SqL.of upd_same⟩, fun D nD => lc_list (xs := ((as.drop b).take (e - b)).map V.ref) (fun i H' => Ex cs H H' ∧ H' p = some (.lst (((as.drop b).take (e - b)).map V.ref)) ∧ H' D = some (.lst (sV ((cellsB rows cc b e).take i)))) ?_ (fun i H' _ x => SqL.of x.2.1) ?_ ?_⟩
    · have x1 := Ex.laid (o := .lst (((as.drop b).take (e - b)).map V.ref)) hT np
      exact ⟨x1.trans (Ex.laid x1.tab nD), by rw [upd_ne (fun z => by rw [← z, upd_same] at nD; cases nD), upd_same], upd_same⟩
    · rintro i v H1 hv ⟨x1, hp, hD⟩
      obtain ⟨q, hq, rfl⟩ := get_map hv
      have hi : i < e - b := by have := (List.getElem?_eq_some_iff.mp hq).1; omega
      rw [List.getElem?_take_of_lt hi, List.getElem?_drop] at hq
      obtain ⟨r, hr2⟩ := getP (xs := rows) (i := b + i) (by omega)
      have hc1 := hcl (b + i) (by omega) (by omega)
      unfold clB at hc1
      rw [hr2] at hc1
      have hcr : cc + 1 < r.length := of_decide_eq_true hc1
      have hz : (sV r)[cc]? = some (V.str (r.getD cc nilS)) := by
        rw [List.getElem?_map, List.getD_eq_getElem?_getD, List.getElem?_eq_getElem (by omega)]; rfl
      have nD0 : H D = none := (Ex.laid (o := .lst (((as.drop b).take (e - b)).map V.ref)) hT np).old _ nD
      refine ⟨rfl, _, rfl, _, rfl, q, sV r, cc, _, rfl, rfl, x1.sqT (hP.row _ q r hq hr2), atI_nat hz, _, hD, ?_, ex_new hT x1 nD0, ?_, ?_⟩
      · rw [List.length_map, List.length_take]; omega
      · rw [upd_ne (fun z => by rw [← z, upd_same] at nD; cases nD)]; exact hp
      · rw [upd_same, List.take_add_one, cells_get (by omega) hr2]
        simp [sV]
    · rintro H1 ⟨x1, hp, hD⟩
      rw [List.length_map, sll, ← lc, List.take_of_length_le (Nat.le_refl _)] at hD
      -- longest
      refine ⟨_, rfl, D, rfl, ⟨_, SqL.of hD⟩, x1.tab _ hm, fun H2 hH2 => ?_⟩
      have x2 := x1.trans (Ex.tabbed x1.tab hm hH2)
      have hD2 := (Ex.tabbed x1.tab hm hH2).lst hD
      refine max_by (w := walk_list (a := D) (xs := sV (cellsB rows cc b e))) (fun i => ((((cellsB rows cc b e).getD i nilS).length : Nat) : Int)) (by omega) (fun _ H' => Ex cs H H' ∧ H' D = some (.lst (sV (cellsB rows cc b e)))) ⟨x2, hD2⟩ (fun i H' _ x => SqL.of x.2) (fun i v H3 H4 hi x y Z hZ => ?_) (fun m H3 x3 hex hall => ?_)
      · obtain ⟨rfl, hv⟩ := y
        obtain ⟨z, hz, rfl⟩ := get_map hv
        refine ⟨_, rfl, z, rfl, line10 (by have := (cells_mem hO hcl hen (List.mem_of_getElem? hz)).len; omega), ?_⟩
        have q := hZ _ x
        have ez : (cellsB rows cc b e).getD i nilS = z := by rw [List.getD_eq_getElem?_getD, hz]; rfl
        rw [ez] at q
        exact q
      · obtain ⟨x3, hD3⟩ := x3
        have em : m = ((longB (cellsB rows cc b e) : Nat) : Int) := by
          obtain ⟨i, hi, e1⟩ := hex
          obtain ⟨z, hz, e2⟩ := long_in (zs := cellsB rows cc b e) (fun q => by rw [q] at lc; simp at lc; omega)
          obtain ⟨j, hj, e3⟩ := List.getElem_of_mem hz
          have h1 := hall j (by omega)
          rw [List.getD_eq_getElem?_getD, List.getElem?_eq_getElem hj, e3] at h1
          have h1' : ((z.length : Nat) : Int) ≤ m := h1
          rw [List.getD_eq_getElem?_getD, List.getElem?_eq_getElem (by omega)] at e1
          have h2 := long_ge (List.getElem_mem (l := cellsB rows cc b e) (show i < _ by omega))
          have e1' : (((cellsB rows cc b e)[i]'(by omega)).length : Int) = m := e1
          omega
        subst em
        refine ⟨small0, fun h0 nh0 => ?_⟩
        have x4 := x3.trans (Ex.laid (o := .lst []) x3.tab nh0)
        have hD4 := (Ex.laid (o := .lst []) x3.tab nh0).lst hD3
        refine ⟨_, rfl, _, rfl, _, _, rfl, rfl, _, rfl, _, _, rfl, rfl, _, rfl, ?_⟩
        by_cases hg : least < ((longB (cellsB rows cc b e) : Nat) : Int) + gap
        · rw [decide_eq_true hg]
          refine iteT ⟨_, rfl, D, _, rfl, SqL.of hD4, fun D2 nD2 => lc_it (walk_enum (xs := sV (cellsB rows cc b e))) (fun i H' => Ex cs H H' ∧ H' D = some (.lst (sV (cellsB rows cc b e))) ∧ H' D2 = some (.lst (((List.range i).filter fun j => decide (((cellsB rows cc b e).getD j nilS).length = longB (cellsB rows cc b e))).map fun j => V.int ((b + j : Nat) : Int)))) ?_ (fun i H' _ x => SqL.of x.2.1) ?_ ?_⟩
          · exact ⟨x4.trans (Ex.laid x4.tab nD2), (Ex.laid x4.tab nD2).lst hD4, upd_same⟩
          · rintro i v H5 H6 hi ⟨x5, hD5, hh⟩ ⟨Tp, v1, u, rfl, hn, rfl, hv, hu⟩
            cases hv
            obtain ⟨z, hz, rfl⟩ := get_map hu
            have xl := Ex.laid (o := .tup [.int (i : Nat), .str z]) x5.tab hn
            have ez : (cellsB rows cc b e).getD i nilS = z := by rw [List.getD_eq_getElem?_getD, hz]; rfl
            have zl := (cells_mem hO hcl hen (List.mem_of_getElem? hz)).len
            refine ⟨Tp, _, rfl, .inl (.inl upd_same), rfl, _, _, rfl, _, _, rfl, rfl, rfl, _, rfl, z, rfl, line10 (by omega), _, rfl, rfl, _, rfl, ?_⟩
            have nD20 := x4.old _ nD2
            by_cases hzl : z.length = longB (cellsB rows cc b e)
            · rw [decide_eq_true (show V.int ((z.length : Nat) : Int) = V.int ((longB (cellsB rows cc b e) : Nat) : Int) by rw [hzl])]
              refine iteT ⟨_, rfl, _, rfl, _, _, rfl, rfl, _, xl.lst hh, ?_, ex_new hT (x5.trans xl) nD20, ?_, ?_⟩
              · have q : ((List.range i).filter fun j => decide (((cellsB rows cc b e).getD j nilS).length = longB (cellsB rows cc b e))).length ≤ (List.range i).length := List.length_filter_le ..
                rw [List.length_range] at q
                rw [List.length_map]
                omega
              · rw [upd_ne (fun z => by rw [← z] at nD2; rw [nD2] at hD4; cases hD4)]
                exact xl.lst hD5
              · have ef : [i].filter (fun j => decide (((cellsB rows cc b e).getD j nilS).length = longB (cellsB rows cc b e))) = [i] := by
                  simp only [List.filter_cons, List.filter_nil, ez, decide_eq_true hzl, if_true]
                rw [upd_same, List.range_succ, List.filter_append, List.map_append, ef, List.map_cons, List.map_nil, Int.natCast_add]
            · rw [decide_eq_false (show ¬ V.int ((z.length : Nat) : Int) = V.int ((longB (cellsB rows cc b e) : Nat) : Int) from fun q => hzl (by injection q with q; exact Int.ofNat.inj q))]
              refine iteF ⟨x5.trans xl, xl.lst hD5, ?_⟩
              rw [List.range_succ, List.filter_append, List.map_append]
              simp only [List.filter_cons, List.filter_nil, ez, decide_eq_false hzl]
              simpa using xl.lst hh
          · rintro H5 ⟨x5, hD5, hh⟩
            have h5 : H5 D2 = some (.lst ((holdB (cellsB rows cc b e) b gap least).map V.int)) := by
              rw [hh]
              unfold holdB
              rw [if_pos hg, List.map_map, lsV, lc]
              rfl
            have nHH := x4.old _ nD2
            refine ⟨_, rfl, _, rfl, _, rfl, _, rfl, _, rfl, _, _, rfl, rfl, _, rfl, _, _, rfl, _, rfl, D, cellsB rows cc b e, rfl, x5.tab, SqL.of hD5, by omega, fun z hz => cells_mem hO hcl hen hz, fun H6 x6 => ⟨_, rfl, (by show 6 ≤ sizeLine; decide), fun t nt => ?_⟩⟩
            have x7 := Ex.laid (o := .tup [.int (cc : Nat), .int (b : Nat), .int (e : Nat), .int (widthB (cellsB rows cc b e) gap least), .bl (rightB (cellsB rows cc b e)), .ref D2]) x6.tab nt
            exact k t D2 _ ((x5.trans x6).trans x7) ((x5.trans x6).old _ nt) nHH ⟨upd_same, (x6.trans x7).lst h5⟩
        · rw [decide_eq_false hg]
          have x5 := x4
          have hD5 := hD4
          have h5 : (upd H3 h0 (.lst [])) h0 = some (.lst ((holdB (cellsB rows cc b e) b gap least).map V.int)) := by
            rw [upd_same]
            unfold holdB
            rw [if_neg hg]
            rfl
          have nHH := x3.old _ nh0
          refine iteF ?_
          refine ⟨_, rfl, _, rfl, _, rfl, _, rfl, _, rfl, _, _, rfl, rfl, _, rfl, _, _, rfl, _, rfl, D, cellsB rows cc b e, rfl, x5.tab, SqL.of hD5, by omega, fun z hz => cells_mem hO hcl hen hz, fun H6 x6 => ⟨_, rfl, (by show 6 ≤ sizeLine; decide), fun t nt => ?_⟩⟩
          have x7 := Ex.laid (o := .tup [.int (cc : Nat), .int (b : Nat), .int (e : Nat), .int (widthB (cellsB rows cc b e) gap least), .bl (rightB (cellsB rows cc b e)), .ref h0]) x6.tab nt
          exact k t h0 _ ((x5.trans x6).trans x7) ((x5.trans x6).old _ nt) nHH ⟨upd_same, (x6.trans x7).lst h5⟩
end
end TG
namespace TG
open PySem L2 Gx
def ofCol (rows : List (List Str)) (c : Nat) : List (Nat × Nat × Nat) := (runsB rows c).map fun p => (c, p.1, p.2)
def entB (rows : List (List Str)) : List (Nat × Nat × Nat) := (List.range 5).flatMap (ofCol rows)
theorem flat_short {α : Type} {F : Nat → List α} {k : Nat} (h : ∀ c, k ≤ c → F c = []) : ∀ d, (List.range (k + d)).flatMap F = (List.range k).flatMap F := by
  intro d
  induction d with
  | zero => rfl
  | succ d ih =>
    rw [← Nat.add_assoc, List.range_succ, List.flatMap_append, ih, List.flatMap_cons, h (k + d) (by omega)]
    simp
theorem col_nil {rows : List (List Str)} {c m : Nat} (h : ∀ r ∈ rows, r.length ≤ m) (hc : m ≤ c + 1) : ofCol rows c = [] := by
  have e : ∀ i, stB rows c i = false := fun i => by
    unfold stB
    have : clB rows c i = false := by
      unfold clB
      cases q : rows[i]? with
      | none => rfl
      | some r => exact decide_eq_false (by have := h r (List.mem_of_getElem? q); omega)
    rw [this]
    rfl
  unfold ofCol runsB
  have : (List.range rows.length).filter (stB rows c) = [] := List.filter_eq_nil_iff.mpr fun i _ => by rw [e i]; exact Bool.false_ne_true
  rw [this]
  rfl
theorem cols_eq {rows : List (List Str)} {m : Nat} (h : ∀ r ∈ rows, r.length ≤ m) (h6 : m ≤ 6) : (List.range m).flatMap (ofCol rows) = entB rows := by
  have e := flat_short (F := ofCol rows) (k := m - 1) fun c hc => col_nil h (by omega)
  have e1 := e (m - (m - 1))
  have e2 := e (5 - (m - 1))
  rw [show m - 1 + (m - (m - 1)) = m by omega] at e1
  rw [show m - 1 + (5 - (m - 1)) = 5 by omega] at e2
  unfold entB
  rw [e1, e2]
theorem run_facts {rows : List (List Str)} {c i : Nat} {p : Nat × Nat} (h : (runsB rows c)[i]? = some p) : p.1 < p.2 ∧ p.2 ≤ rows.length ∧ ∀ j, p.1 ≤ j → j < p.2 → clB rows c j = true := by
  obtain ⟨x, hx, rfl⟩ := get_map h
  have hm := List.mem_filter.mp (List.mem_of_getElem? hx)
  have hst := hm.2
  have hc : clB rows c x = true := by
    unfold stB at hst
    exact (Bool.and_eq_true_iff.mp hst).1
  refine ⟨?_, hi_le (Nat.le_of_lt (cl_lt hc)), fun j h1 h2 => hi_in (j - x) x j (by omega) h2⟩
  show x < hiB rows c x
  rw [hi_yes hc]
  exact hi_ge rows c (x + 1)
/-- the told tuples at ts, their holders at hs -/
structure DescsAt (H : Hp) (ts hs : List Addr) (es : List (Nat × Nat × Nat)) (rows : List (List Str)) (gap least : Int) : Prop where
  len : ts.length = es.length
  len2 : hs.length = es.length
  at_ : ∀ (i : Nat) (t h : Addr) (q : Nat × Nat × Nat), ts[i]? = some t → hs[i]? = some h → es[i]? = some q → DescAt H t h q.1 q.2.1 q.2.2 (cellsB rows q.1 q.2.1 q.2.2) gap least
theorem DescsAt.snoc {H : Hp} {ts hs : List Addr} {es : List (Nat × Nat × Nat)} {rows : List (List Str)} {gap least : Int} {t h : Addr} {q : Nat × Nat × Nat} (x : DescsAt H ts hs es rows gap least) (e : DescAt H t h q.1 q.2.1 q.2.2 (cellsB rows q.1 q.2.1 q.2.2) gap least) : DescsAt H (ts ++ [t]) (hs ++ [h]) (es ++ [q]) rows gap least := by
  refine ⟨by rw [List.length_append, List.length_append, x.len]; rfl, by rw [List.length_append, List.length_append, x.len2]; rfl, fun i u v p h1 h2 h3 => ?_⟩
  by_cases hi : i < ts.length
  · rw [List.getElem?_append_left hi] at h1
    rw [List.getElem?_append_left (by rw [x.len2, ← x.len]; exact hi)] at h2
    rw [List.getElem?_append_left (by rw [← x.len]; exact hi)] at h3
    exact x.at_ i u v p h1 h2 h3
  · have hl := (List.getElem?_eq_some_iff.mp h1).1
    rw [List.length_append, List.length_singleton] at hl
    have e1 : i = ts.length := by omega
    subst e1
    rw [List.getElem?_append_right (Nat.le_refl _), Nat.sub_self] at h1
    rw [x.len, ← x.len2, List.getElem?_append_right (Nat.le_refl _), Nat.sub_self] at h2
    rw [x.len, List.getElem?_append_right (Nat.le_refl _), Nat.sub_self] at h3
    cases h1
    cases h2
    cases h3
    exact e
theorem DescsAt.keep {H H' : Hp} {ts hs : List Addr} {es : List (Nat × Nat × Nat)} {rows : List (List Str)} {gap least : Int} (x : DescsAt H ts hs es rows gap least) (k : ∀ b o, H b = some o → (b ∈ ts ∨ b ∈ hs) → (∀ ps, o ≠ .tbl ps) → H' b = some o) : DescsAt H' ts hs es rows gap least :=
  ⟨x.len, x.len2, fun i t h q h1 h2 h3 => ⟨k _ _ (x.at_ i t h q h1 h2 h3).1 (.inl (List.mem_of_getElem? h1)) (fun ps z => by cases z), k _ _ (x.at_ i t h q h1 h2 h3).2 (.inr (List.mem_of_getElem? h2)) (fun ps z => by cases z)⟩⟩
theorem StyleAt.ex {K : PySem.W.Frag} {cs : List (Addr × Addr)} {H H' : Hp} {a : Addr} {gap least : Int} (p : StyleAt K H a gap least) (e : Ex cs H H') : StyleAt K H' a gap least := ⟨e.sqT p.tup, p.g0, p.g1, p.l0, p.l1⟩
theorem flat_len {α : Type} {F : Nat → List α} {b : Nat} (h : ∀ c, (F c).length ≤ b) : ∀ n, ((List.range n).flatMap F).length ≤ n * b := by
  intro n
  induction n with
  | zero => simp
  | succ n ih =>
    rw [List.range_succ, List.flatMap_append, List.length_append, List.flatMap_cons, List.flatMap_nil, List.append_nil, Nat.succ_mul]
    have := h n
    omega
theorem col_len (rows : List (List Str)) (c : Nat) : (ofCol rows c).length ≤ rows.length := by
  unfold ofCol runsB
  rw [List.length_map, List.length_map]
  have : ((List.range rows.length).filter (stB rows c)).length ≤ (List.range rows.length).length := List.length_filter_le ..
  rw [List.length_range] at this
  exact this
def rLenSeq (K : PySem.W.Frag) : List V → Hp → VK → Prop := fun xs H Q => ∃ p ys, xs = [V.ref p] ∧ (SqL K H p ys ∨ SqT K H p ys) ∧ Q (.int (ys.length : Nat)) H
section
variable {P : Program} {w : World} {K : PySem.W.Frag} {mg : Str → Option Value} {base : Heap} {cs : List (Addr × Addr)}
def spStr (K : PySem.W.Frag) (cs : List (Addr × Addr)) : Sp := fun vs H Q _ => ∃ (a st : Addr) (as : List Addr) (rows : List (List Str)) (gap least : Int), vs = [.ref a, .ref st] ∧ Tabs cs H ∧ PageAt K H a as rows ∧ PgOk rows ∧ StyleAt K H st gap least ∧
  ∀ (r : Addr) (ts hs : List Addr) (H' : Hp), Ex cs H H' → H r = none → (∀ t ∈ ts, H t = none) → (∀ h ∈ hs, H h = none) → H' r = some (.lst (ts.map V.ref)) → DescsAt H' ts hs (entB rows) rows gap least → Q (.ref r) H'
theorem sc_str : FnScope ["page", "style", "told", "column", "begin", "end"] ["page", "style"] (defScope s_stretches) := ⟨rfl, rfl, rfl, by decide +kernel, rfl, by decide +kernel, by decide +kernel⟩
theorem ok_str {f c Pt g1 g2 g3 g4 : Addr} {fd fd1 fd2 fd3 fd4 : FuncData} (T : Txt mg) (F : Fun K "stretches" "stretches" s_stretches f fd) (hc : fd.code = .ref c) (TB : GxR.TabB base mg c Pt) (hm : (c, Pt) ∈ cs)
    (G1 : FnOk P w K mg base CX0 11 g1 fd1 ["page"] (spCheck K cs)) (k1 : PySem.W.keepIn K (.ref g1) = true) (b1 : Binds K fd1 ["page"] []) (m1 : mg "check_page" = some (.ref g1))
    (G2 : FnOk P w K mg base CX0 2 g2 fd2 ["style"] (spStyle K)) (k2 : PySem.W.keepIn K (.ref g2) = true) (b2 : Binds K fd2 ["style"] []) (m2 : mg "check_style" = some (.ref g2))
    (G3 : FnOk P w K mg base CX0 2 g3 fd3 ["page", "column"] (spRuns K cs)) (k3 : PySem.W.keepIn K (.ref g3) = true) (b3 : Binds K fd3 ["page", "column"] []) (m3 : mg "closed_runs" = some (.ref g3))
    (G4 : FnOk P w K mg base CX0 6 g4 fd4 ["page", "style", "column", "begin", "end"] (spDesc K cs)) (k4 : PySem.W.keepIn K (.ref g4) = true) (b4 : Binds K fd4 ["page", "style", "column", "begin", "end"] []) (m4 : mg "described" = some (.ref g4)) :
    FnOk P w K mg base CX0 12 f fd ["page", "style"] (spStr K cs) := by
  refine fun_okT F hc sc_str (fun vs H Q E h => ?_) (fun A outer s H vs Q E hr h => ?_)
  · obtain ⟨a, st, as, rows, gap, least, rfl, _⟩ := h
    rfl
  · obtain ⟨a, st, as, rows, gap, least, rfl, hT, hP, hO, hS, k⟩ := h
    have nd := sc_str.nd
    refine ⟨_, pss_cons (ps_expr (pe_call G1 hr (by rfl) m1 k1 b1 .nil pass0 (pa_cons (pv 0) pa_nil))) (pss_cons (ps_expr (pe_call G2 (hr.mono (by decide)) (by rfl) m2 k2 b2 .nil pass0 (pa_cons (pv 1) pa_nil)))
      (pss_cons (ps_set (i := 2) nd rfl (.inl rfl) (pe_lst pa_nil))
      (pss_cons (ps_for PassesOwn.never rfl (pi_range1 (by rfl) T.range (pa_cons (pe_maxG (k := 0) (P := Pt) (hr.mono (by decide)) (by rfl) T.max TB rfl ⟨rfl, rfl, by decide +kernel, by decide +kernel, rfl, rfl⟩ (pi_list (pv 0)) (fun A' code s4 H4 fp hr' => pe_callB (r := rLenSeq K) call_len_seq (by rfl) T.len PySem.boot_len (pa_cons (pv 0) pa_nil)) (fun _ => rfl)) pa_nil)) (pg_name (i := 3) nd rfl (.inl rfl))
        (pss_one (ps_for PassesOwn.never rfl (pi_list (pe_call G3 (hr.mono (by decide)) (by rfl) m3 k3 b3 .nil pass0 (pa_cons (pv 0) (pa_cons (pv 3) pa_nil)))) (pg_tup rfl (pgs_cons (pg_name (i := 4) nd rfl (.inl rfl)) (pgs_cons (pg_name (i := 5) nd rfl (.inl rfl)) pgs_nil)))
          (pss_one (ps_expr (pe_bm PySem.F.plainAttrs_list PySem.F.slot_list_append PySem.F.type_list_append mt_append (pv 2) (pa_cons (pe_call G4 (hr.mono (by decide)) (by rfl) m4 k4 b4 .nil pass0 (pa_cons (pv 0) (pa_cons (pv 1) (pa_cons (pv 3) (pa_cons (pv 4) (pa_cons (pv 5) pa_nil)))))) pa_nil)))))))
      (pss_one (ps_ret (pv 2)))))), ?_⟩
    have ll := hO.len
    have lp := hO.pos
    have lsz : (1000 : Nat) < sizeLine := by decide
    have las : (as.map V.ref).length = rows.length := by rw [List.length_map, hP.len]
    refine ⟨_, rfl, a, as, rows, rfl, hT, hP, hO, fun H1 x1 => ⟨_, rfl, st, gap, least, rfl, hS.ex x1, small0, fun p np => ?_⟩⟩
    have x2 := x1.trans (Ex.laid (o := .lst []) x1.tab np)
    have np0 := x1.old _ np
    refine ⟨_, rfl, a, rfl, ⟨_, x2.sqL hP.lst⟩, x2.tab _ hm, fun H2 hH2 => ?_⟩
    have xt := Ex.tabbed x2.tab hm hH2
    have x3 := x2.trans xt
    have hp3 : H2 p = some (.lst []) := xt.lst upd_same
    refine max_by (w := walk_list (a := a) (xs := as.map V.ref)) (fun i => (((rows.getD i []).length : Nat) : Int)) (by omega) (fun _ H' => Ex cs H H' ∧ H' p = some (.lst [])) ⟨x3, hp3⟩ (fun i H' _ x => x.1.sqL hP.lst) (fun i v H3 H4 hi x y Z hZ => ?_) (fun m H3 x4 hex hall => ?_)
    · obtain ⟨rfl, hv⟩ := y
      obtain ⟨q, hq, rfl⟩ := get_map hv
      obtain ⟨r, hr2⟩ := getP (xs := rows) (i := i) (by omega)
      refine ⟨_, rfl, q, _, rfl, .inr (x.1.sqT (hP.row i q r hq hr2)), ?_⟩
      have z := hZ _ x
      have er : rows.getD i [] = r := by rw [List.getD_eq_getElem?_getD, hr2]; rfl
      rw [er] at z
      rw [List.length_map]
      exact z
    · obtain ⟨x4, hp4⟩ := x4
      have hmax : ∀ r ∈ rows, r.length ≤ m.toNat := fun r hr2 => by
        obtain ⟨j, hj, e⟩ := List.getElem_of_mem hr2
        have h1 := hall j (by omega)
        rw [List.getD_eq_getElem?_getD, List.getElem?_eq_getElem hj, e] at h1
        have h1' : ((r.length : Nat) : Int) ≤ m := h1
        omega
      have hm6 : m.toNat ≤ 6 := by
        obtain ⟨i, hi, e1⟩ := hex
        rw [List.getD_eq_getElem?_getD, List.getElem?_eq_getElem (by omega)] at e1
        have h2 := (hO.rows _ (List.getElem_mem (l := rows) (show i < _ by omega))).len
        have e1' : ((rows[i]'(by omega)).length : Int) = m := e1
        omega
      have hm0 : 0 ≤ m := by
        obtain ⟨i, hi, e1⟩ := hex
        rw [← e1]
        exact Int.natCast_nonneg _
      refine ⟨m, rfl, by omega, by omega, for_range (n := m.toNat) (fun i σ H' => ∃ (ts hs : List Addr) (c3 c4 c5 : Option V), σ = [some (.ref a), some (.ref st), some (.ref p), c3, c4, c5] ∧ Ex cs H H' ∧ H' p = some (.lst (ts.map V.ref)) ∧ (∀ t ∈ ts, H t = none ∧ t ≠ p) ∧ (∀ h ∈ hs, H h = none ∧ h ≠ p) ∧ DescsAt H' ts hs ((List.range i).flatMap (ofCol rows)) rows gap least)
        ⟨[], [], none, none, none, rfl, x4, hp4, fun t h => by simp at h, fun t h => by simp at h, rfl, rfl, fun i t h q h1 => by simp at h1⟩ ?_ ?_⟩
      · rintro i σ H5 hi ⟨ts, hs, c3, c4, c5, rfl, x5, hp5, ft, fh, ds⟩
        refine ⟨_, rfl, _, rfl, a, as, rows, i, by rw [Int.zero_add]; rfl, x5.tab, hP.ex x5, ll, fun r1 ts1 H6 x6 nr1 hr1 pr1 => ⟨r1, rfl, ⟨_, SqL.of hr1⟩, ?_⟩⟩
        have r1p : r1 ≠ p := fun z => by rw [z, hp5] at nr1; cases nr1
        have hl1 : (ts1.map V.ref).length = (ofCol rows i).length := by unfold ofCol; rw [List.length_map, List.length_map, pr1.len]
        refine for_list (xs := ts1.map V.ref) (fun j σ H' => ∃ (ts hs : List Addr) (c4 c5 : Option V), σ = [some (.ref a), some (.ref st), some (.ref p), some (.int (0 + (i : Nat))), c4, c5] ∧ Ex cs H H' ∧ H' r1 = some (.lst (ts1.map V.ref)) ∧ PairsAt H' ts1 (runsB rows i) ∧ H' p = some (.lst (ts.map V.ref)) ∧ (∀ t ∈ ts, H t = none ∧ t ≠ p) ∧ (∀ h ∈ hs, H h = none ∧ h ≠ p) ∧ DescsAt H' ts hs ((List.range i).flatMap (ofCol rows) ++ (ofCol rows i).take j) rows gap least)
          ⟨ts, hs, c4, c5, rfl, x5.trans x6, hr1, pr1, x6.lst hp5, ft, fh, by rw [List.take_zero, List.append_nil]; exact ds.keep fun b o e _ n => x6.ext b o e n⟩ (fun j σ H' _ ⟨_, _, _, _, _, _, q, _⟩ => SqL.of q) ?_ ?_
        · rintro j v σ H7 hv ⟨ts, hs, c4, c5, rfl, x7, hr7, pr7, hp7, ft, fh, ds⟩
          obtain ⟨t1, ht1, rfl⟩ := get_map hv
          obtain ⟨q, hq⟩ := getP (xs := runsB rows i) (i := j) (by rw [← pr7.len]; exact (List.getElem?_eq_some_iff.mp ht1).1)
          obtain ⟨f1, f2, f3⟩ := run_facts hq
          have hsz : (ts.map V.ref).length < sizeLine := by
            rw [List.length_map, ds.len, List.length_append, List.length_take]
            have q1 := flat_len (F := ofCol rows) (b := 30) (fun c => Nat.le_trans (col_len rows c) ll) i
            have q2 := col_len rows i
            have q3 : min j (ofCol rows i).length ≤ (ofCol rows i).length := Nat.min_le_right _ _
            omega
          refine ⟨t1, _, rfl, .inl (.inl (pr7.at_ j t1 q ht1 hq)), rfl, _, _, rfl, _, _, rfl, rfl, ?_⟩
          refine ⟨_, rfl, .inl ⟨rfl, _, SqL.of hp7⟩, _, rfl, _, rfl, _, rfl, _, rfl, _, rfl, a, st, as, rows, gap, least, i, q.1, q.2, by rw [Int.zero_add]; rfl, x7.tab, hP.ex x7, hO, hS.ex x7, f1, f2, f3, fun t h H8 x8 nt nh hd => ⟨p, _, .ref t, rfl, rfl, x8.lst hp7, hsz, ?_⟩⟩
          have tp : t ≠ p := fun z => by rw [z, hp7] at nt; cases nt
          have hp' : h ≠ p := fun z => by rw [z, hp7] at nh; cases nh
          have x9 := ex_new (o := .lst (ts.map V.ref ++ [.ref t])) hT (x7.trans x8) np0
          refine ⟨ts ++ [t], hs ++ [h], _, _, rfl, x9, by rw [upd_ne r1p]; exact x8.lst hr7, pr7.keep fun b xs e => ?_, by rw [upd_same, List.map_append]; rfl, fun u hu => ?_, fun u hu => ?_, ?_⟩
          · rw [upd_ne (fun z => by rw [z, hp7] at e; cases e)]; exact x8.tup e
          · rcases List.mem_append.mp hu with z | z
            · exact ft u z
            · rw [List.mem_singleton.mp z]; exact ⟨x7.old _ nt, tp⟩
          · rcases List.mem_append.mp hu with z | z
            · exact fh u z
            · rw [List.mem_singleton.mp z]; exact ⟨x7.old _ nh, hp'⟩
          · have ej : (ofCol rows i)[j]? = some (i, q.1, q.2) := by unfold ofCol; rw [List.getElem?_map, hq]; rfl
            rw [List.take_add_one, ej, ← List.append_assoc]
            refine (ds.keep fun b o e m n => ?_).snoc (q := (i, q.1, q.2)) ⟨by rw [upd_ne tp]; exact hd.1, by rw [upd_ne hp']; exact hd.2⟩
            have nb : b ≠ p := by
              rcases m with m | m
              · exact (ft b m).2
              · exact (fh b m).2
            rw [upd_ne nb]; exact x8.ext b o e n
        · rintro σ H7 ⟨ts, hs, c4, c5, rfl, x7, hr7, pr7, hp7, ft, fh, ds⟩
          refine ⟨ts, hs, _, _, _, rfl, x7, hp7, ft, fh, ?_⟩
          rw [hl1, List.take_of_length_le (Nat.le_refl _)] at ds
          rw [List.range_succ, List.flatMap_append, List.flatMap_cons, List.flatMap_nil, List.append_nil]
          exact ds
      · rintro σ H5 ⟨ts, hs, c3, c4, c5, rfl, x5, hp5, ft, fh, ds⟩
        refine ⟨_, rfl, k p ts hs H5 x5 np0 (fun t h => (ft t h).1) (fun t h => (fh t h).1) hp5 ?_⟩
        rw [cols_eq hmax hm6] at ds
        exact ds
end
end TG
namespace TG
open PySem L2 Gx
theorem cl_app (x y : Str) : cl (x ++ y) = cl x ++ cl y := TL.tl_append x y
theorem joinL_nil : ∀ l : List (List Nat), TL.joinL [] l = l.flatten
  | [] => rfl
  | [p] => by simp [TL.joinL]
  | p :: q :: r => by
    show p ++ ([] ++ TL.joinL [] (q :: r)) = _
    rw [joinL_nil (q :: r)]
    rfl
theorem cl_join (ys : List Str) : cl (Txt.join "" ys) = (ys.map cl).flatten := by
  have e : ("" : Str) = SX.S [] := by decide +kernel
  have e2 : ys = (ys.map cl).map SX.S := by
    rw [List.map_map]
    conv => lhs; rw [← List.map_id ys]
    exact List.map_congr_left fun y _ => (SX.S_tl y).symm
  rw [e]
  conv => lhs; rw [e2]
  rw [SX.join_S, joinL_nil]
theorem num_ok {n : Int} (h0 : 0 ≤ n) (h1 : n < 10 ^ 9) : (Str.ofString (toString n)).length ≤ 9 ∧ ∀ c ∈ cl (Str.ofString (toString n)), 48 ≤ c ∧ c ≤ 57 := by
  refine ⟨PyProof.Rows.toString_length_le h0 (by decide) h1, fun c hc => ?_⟩
  obtain ⟨m, rfl⟩ := Int.eq_ofNat_of_zero_le h0
  have hc' : c ∈ (Str.ofString (toString ((m : Nat) : Int))).cps.toList := hc
  rw [PySem.W.KIN.signs_num] at hc'
  obtain ⟨ch, hch, e⟩ := List.mem_map.mp hc'
  have r := PyProof.Rows.digit_range (Nat.isDigit_of_mem_toDigits (by decide) (by decide) hch)
  rw [← e]
  exact r
instance (c : Nat) : Decidable (SgOk c) := inferInstanceAs (Decidable (32 ≤ c ∧ c ≤ 126 ∧ c ≠ 37))
theorem sg_of {z : Str} (h : (z.cps.toList.all fun c => decide (SgOk c)) = true) : ∀ c ∈ cl z, SgOk c := fun c hc => of_decide_eq_true (List.all_eq_true.mp h c hc)
end TG
namespace TG
open PySem L2 Gx
abbrev everyS : Str := " !\"#$&'()*+,-./0123456789:;<=>?@ABCDEFGHIJKLMNOPQRSTUVWXYZ[\\]^_`abcdefghijklmnopqrstuvwxyz{|}~"
theorem every_ok : ∀ c ∈ cl everyS, SgOk c := sg_of (by decide +kernel)
theorem abc_len : (cl "abcdefghij").length = 10 := by decide +kernel
theorem emp_len : (Str.ofString "").length = 0 := by decide +kernel
theorem every_len : (cl everyS).length = 94 := by decide +kernel
theorem cells_ok {l : List Str} (h : (l.all fun z => decide (z.length ≤ 10) && z.cps.toList.all fun c => decide (SgOk c)) = true) : ∀ z ∈ l, CellOk z := fun z hz => by
  have q := Bool.and_eq_true_iff.mp (List.all_eq_true.mp h z hz)
  exact ⟨of_decide_eq_true q.1, sg_of q.2⟩
/-- one of a written list -/
theorem pick {α : Type} {xs : List α} {i : Int} (h0 : 0 ≤ i) (h1 : i < xs.length) : ∃ x, x ∈ xs ∧ atI xs i = some x := by
  obtain ⟨n, rfl⟩ := Int.eq_ofNat_of_zero_le h0
  have hn : n < xs.length := by have : ((n : Nat) : Int) < xs.length := h1; omega
  exact ⟨xs[n], List.getElem_mem hn, atI_nat (List.getElem?_eq_getElem hn)⟩
theorem iteB {c A B : Prop} [Decidable c] (h1 : A) (h2 : B) : if c then A else B := ite2 (fun _ => h1) fun _ => h2
theorem len_cl (z : Str) : z.length = (cl z).length := by simp [Str.length, cl]
theorem box_new {H : Hp} {b l p : Addr} {o : HO} (x : BoxAt H b l) (n : H p = none) : BoxAt (upd H p o) b l := by
  obtain ⟨ns, st, h1, h2, h3⟩ := x
  exact ⟨ns, st, by rw [upd_ne (ne_of_none h1 n)]; exact h1, by rw [upd_ne (ne_of_none h2 n)]; exact h2, h3⟩
theorem new_ne {H : Hp} {b l p : Addr} (x : BoxAt H b l) (n : H p = none) : p ≠ b ∧ p ≠ l := by
  obtain ⟨ns, st, h1, h2, h3⟩ := x
  exact ⟨(ne_of_none h1 n).symm, (ne_of_none h2 n).symm⟩
theorem box_upd {H : Hp} {b l p : Addr} {o : HO} (x : BoxAt H b l) (h1 : p ≠ b) (h2 : p ≠ l) : BoxAt (upd H p o) b l := by
  obtain ⟨ns, st, g1, g2, g3⟩ := x
  exact ⟨ns, st, by rw [upd_ne h1.symm]; exact g1, by rw [upd_ne h2.symm]; exact g2, g3⟩
theorem kb_new {H : Hp} {b l p : Addr} {o : HO} (n : H p = none) : KB b l H (upd H p o) := fun c u e _ _ => by rw [upd_ne (ne_of_none e n)]; exact e
theorem kb_upd {H H' : Hp} {b l p : Addr} {o : HO} (x : KB b l H H') (n : H p = none) : KB b l H (upd H' p o) := fun c u e h1 h2 => by rw [upd_ne (ne_of_none e n)]; exact x c u e h1 h2
theorem atI_map {α β : Type} {f : α → β} {xs : List α} {i : Int} {x : α} (h : atI xs i = some x) : atI (xs.map f) i = some (f x) := by
  unfold atI at h ⊢
  rw [List.length_map]
  cases e : ixN xs.length i with
  | none => rw [e] at h; cases h
  | some j =>
    rw [e] at h
    have h' : xs[j]? = some x := h
    show (xs.map f)[j]? = some (f x)
    rw [List.getElem?_map, h']
    rfl
/-- a list of single signs at D -/
structure OnesAt (b l : Addr) (H : Hp) (D : Addr) (i : Nat) (H' : Hp) : Prop where
  box : BoxAt H' b l
  keep : KB b l H H'
  nD : H D = none
  db : D ≠ b
  dl : D ≠ l
  ones : ∃ cs : List Nat, cs.length = i ∧ (∀ c ∈ cs, SgOk c) ∧ H' D = some (.lst (sV (cs.map fun c => ⟨#[c]⟩)))
theorem OnesAt.start {b l : Addr} {H H1 : Hp} {D : Addr} (hB : BoxAt H1 b l) (x : KB b l H H1) (n : H1 D = none) (nb : BoxAt H b l) : OnesAt b l H D 0 (upd H1 D (.lst [])) := by
  obtain ⟨d1, d2⟩ := new_ne hB n
  have nD : H D = none := by
    cases e : H D with
    | none => rfl
    | some o => rw [x D o e d1 d2] at n; cases n
  exact ⟨box_new hB n, kb_upd x nD, nD, d1, d2, [], rfl, fun c h => by simp at h, upd_same⟩
theorem OnesAt.more {b l : Addr} {H H1 H2 : Hp} {D : Addr} {i c : Nat} (o : OnesAt b l H D i H1) (hc : SgOk c) (hB : BoxAt H2 b l) (x : KB b l H1 H2) :
    ∃ acc, H2 D = some (.lst acc) ∧ acc.length = i ∧ OnesAt b l H D (i + 1) (upd H2 D (.lst (acc ++ [.str ⟨#[c]⟩]))) := by
  obtain ⟨cs, h1, h2, h3⟩ := o.ones
  refine ⟨_, x D _ h3 o.db o.dl, by rw [List.length_map, List.length_map, h1], box_upd hB o.db o.dl, kb_upd (o.keep.trans x) o.nD, o.nD, o.db, o.dl, cs ++ [c], by rw [List.length_append, h1]; rfl, fun d hd => ?_, ?_⟩
  · rcases List.mem_append.mp hd with h | h
    · exact h2 d h
    · rw [List.mem_singleton.mp h]; exact hc
  · rw [upd_same]
    simp [sV]
theorem OnesAt.done {b l : Addr} {H H1 : Hp} {D : Addr} {i : Nat} (o : OnesAt b l H D i H1) : ∃ ys : List Str, H1 D = some (.lst (ys.map V.str)) ∧ ys.length = i ∧ (ys.map fun y => y.length).sum = i ∧ (i ≤ 10 → CellOk (Txt.join "" ys)) := by
  obtain ⟨cs, h1, h2, h3⟩ := o.ones
  refine ⟨_, h3, by rw [List.length_map, h1], ?_, fun hi => ?_⟩
  · rw [← h1]
    clear h1 h2 h3
    induction cs with
    | nil => rfl
    | cons c cs ih =>
      rw [List.map_cons, List.map_cons, List.sum_cons, ih, List.length_cons]
      show 1 + cs.length = cs.length + 1
      omega
  · have e : cl (Txt.join "" (cs.map fun c => (⟨#[c]⟩ : Str))) = cs := by
      rw [cl_join, List.map_map]
      clear h1 h2 h3
      induction cs with
      | nil => rfl
      | cons c cs ih =>
        rw [List.map_cons, List.flatten_cons, ih]
        rfl
    exact ⟨by rw [len_cl, e, h1]; exact hi, fun c hc => h2 c (by have hc : c ∈ cl _ := hc; rw [e] at hc; exact hc)⟩
abbrev oddL : List Str := ["-", "--1", "1-", "0x", " 1", "1 ", "-0", "007", " ", "   ", "1234567x", "12345678-", "-0000000 1"]
theorem odd_ok : ∀ z ∈ oddL, CellOk z := cells_ok (by decide +kernel)
section
variable {P : Program} {w : World} {K : PySem.W.Frag} {mg : Str → Option Value} {base : Heap} {cs : List (Addr × Addr)}
def spSign : Sp := fun vs H Q _ => ∃ (b l : Addr), vs = [.ref b] ∧ BoxAt H b l ∧ ∀ (c : Nat) (H' : Hp), SgOk c → BoxAt H' b l → KB b l H H' → Q (.str ⟨#[c]⟩) H'
theorem sc_sign : FnScope ["_law_box", "_law_every"] ["_law_box"] (defScope s_sign) := ⟨rfl, rfl, rfl, by decide +kernel, rfl, by decide +kernel, by decide +kernel⟩
theorem ok_sign {f g : Addr} {fd fdg : FuncData} (F : Fun K "_law_sign" "_law_sign" s_sign f fd)
    (G : FnOk P w K mg base CX0 1 g fdg ["_law_box", "_law_many"] spTake) (kp : PySem.W.keepIn K (.ref g) = true) (bd : Binds K fdg ["_law_box", "_law_many"] []) (mgg : mg "_law_take" = some (.ref g)) : FnOk P w K mg base CX0 2 f fd ["_law_box"] spSign := by
  refine F.ok sc_sign (fun vs H Q E h => ?_) (fun cdv A outer s H vs Q E hr h => ?_)
  · obtain ⟨b, l, rfl, _⟩ := h
    rfl
  · obtain ⟨b, l, rfl, hB, k⟩ := h
    have nd := sc_sign.nd
    refine ⟨_, pss_cons (ps_set (i := 1) nd rfl (.inl rfl) pe_str) (pss_one (ps_ret (pe_ix ix_str (pv 1) (pe_call G hr (by rfl) mgg kp bd .nil pass0 (pa_cons (pv 0) (pa_cons pe_int pa_nil))) (fun _ _ => rfl)))), ?_⟩
    refine ⟨_, rfl, _, rfl, b, l, 94, rfl, hB, by decide, by decide, fun r H1 r0 r1 hB1 x1 => ?_⟩
    obtain ⟨c, hc, e⟩ := pick (xs := cl everyS) r0 (by rw [every_len]; exact r1)
    exact ⟨everyS, r, c, rfl, rfl, line10 (by decide +kernel), e, k c H1 (every_ok c hc) hB1 x1⟩
def spCell : Sp := fun vs H Q _ => ∃ (b l : Addr) (sort : Int), vs = [.ref b, .int sort] ∧ BoxAt H b l ∧ ∀ (z : Str) (H' : Hp), CellOk z → BoxAt H' b l → KB b l H H' → Q (.str z) H'
theorem sc_cell : FnScope ["_law_box", "_law_sort", "_law_way", "_law_odd", "_law_many", "_law_k"] ["_law_box", "_law_sort"] (defScope s_cell) := ⟨rfl, rfl, rfl, by decide +kernel, rfl, by decide +kernel, by decide +kernel⟩
abbrev nmCell : List Str := ["_law_box", "_law_sort", "_law_way", "_law_odd", "_law_many", "_law_k"]
theorem ok_cell {f g g2 : Addr} {fd fdg fd2 : FuncData} (T : Txt mg) (F : Fun K "_law_cell" "_law_cell" s_cell f fd)
    (G : FnOk P w K mg base CX0 1 g fdg ["_law_box", "_law_many"] spTake) (kp : PySem.W.keepIn K (.ref g) = true) (bd : Binds K fdg ["_law_box", "_law_many"] []) (mgg : mg "_law_take" = some (.ref g))
    (G2 : FnOk P w K mg base CX0 2 g2 fd2 ["_law_box"] spSign) (kp2 : PySem.W.keepIn K (.ref g2) = true) (bd2 : Binds K fd2 ["_law_box"] []) (mg2 : mg "_law_sign" = some (.ref g2)) : FnOk P w K mg base CX0 3 f fd ["_law_box", "_law_sort"] spCell := by
  refine F.ok sc_cell (fun vs H Q E h => ?_) (fun cdv A outer s H vs Q E hr h => ?_)
  · obtain ⟨b, l, sort, rfl, _⟩ := h
    rfl
  · obtain ⟨b, l, sort, rfl, hB, k⟩ := h
    have nd := sc_cell.nd
    have hr1 : Room 1 _ := hr.mono (by decide)
    refine ⟨_, pss_cons (ps_set (i := 2) nd rfl (.inl rfl) (pe_call G hr1 (by rfl) mgg kp bd .nil pass0 (pa_cons (pv 0) (pa_cons pe_int pa_nil))))
      (pss_cons (ps_if (pt_cmpR op_eq (pv 2) pe_int (nomark _)) (pss_one (ps_ret pe_str)) pss_nil)
      (pss_cons (ps_if (PW.pt (pw_or (pt_cmpR op_eq (pv 2) pe_int (nomark _)) (pw_or1 (PW.pt (pw_and (pt_cmpR op_eq (pv 1) pe_int (nomark _)) (pw_and1 (pt_cmpR op_lt (pv 2) pe_int (nomark _)))))))) (pss_one (ps_ret (pe_op op_add_str (pe_ix ix_list (pe_lst (pa_cons pe_str (pa_cons pe_str pa_nil))) (pe_op op_fdivN (pe_call G hr1 (by rfl) mgg kp bd .nil pass0 (pa_cons (pv 0) (pa_cons pe_int pa_nil))) pe_int) (fun _ _ => rfl)) (pe_callTy call_str_int (by rfl) T.str (by decide +kernel) (pa_cons (pe_call G hr1 (by rfl) mgg kp bd .nil pass0 (pa_cons (pv 0) (pa_cons (pe_ix ix_list (pe_lst (pa_cons pe_int (pa_cons pe_int (pa_cons (pe_op op_pow pe_int pe_int) pa_nil)))) (pe_call G hr1 (by rfl) mgg kp bd .nil pass0 (pa_cons (pv 0) (pa_cons pe_int pa_nil))) (fun _ _ => rfl)) pa_nil))) pa_nil))))) pss_nil)
      (pss_cons (ps_if (pt_cmpR op_eq (pv 2) pe_int (nomark _)) (pss_cons (ps_set (i := 3) nd rfl (.inl rfl) (pe_lst (pa_cons pe_str (pa_cons pe_str (pa_cons pe_str (pa_cons pe_str (pa_cons pe_str (pa_cons pe_str (pa_cons pe_str (pa_cons pe_str (pa_cons pe_str (pa_cons pe_str (pa_cons pe_str (pa_cons pe_str (pa_cons pe_str pa_nil))))))))))))))) (pss_one (ps_ret (pe_ix ix_list (pv 3) (pe_call G hr1 (by rfl) mgg kp bd .nil pass0 (pa_cons (pv 0) (pa_cons pe_int pa_nil))) (fun _ _ => rfl))))) pss_nil)
      (pss_cons (ps_set (i := 4) nd rfl (.inl rfl) (pe_op op_add pe_int (pe_call G hr1 (by rfl) mgg kp bd .nil pass0 (pa_cons (pv 0) (pa_cons (pe_ix ix_list (pe_lst (pa_cons pe_int (pa_cons pe_int pa_nil))) (pe_call G hr1 (by rfl) mgg kp bd .nil pass0 (pa_cons (pv 0) (pa_cons pe_int pa_nil))) (fun _ _ => rfl)) pa_nil)))))
      (pss_cons (ps_if (pt_cmpR op_lt (pv 2) pe_int (nomark _)) (pss_one (ps_ret (pe_join pe_str (pe_lc (own := [("_law_k", 5)]) (g := gName 5) (tt := tYes) rfl nd (pi_range1 (by rfl) T.range (pa_cons (pv 4) pa_nil)) (blkOk_by (own := [("_law_k", 5)]) (N := nmCell) (sc := defScope s_cell) (by decide +kernel)) (fun _ _ _ _ _ => pg_name (i := 5) nd rfl (Or.inl rfl)) (fun _ _ _ _ _ => pts_nil) (fun s1 H1 C1 cl1 fp1 => pe_ix ix_str pe_str (pe_call G hr1 (by rfl) mgg kp bd .nil pass0 (pa_cons (pv 0) (pa_cons pe_int pa_nil))) (fun _ _ => rfl)))))) pss_nil)
      (pss_one (ps_ret (pe_join pe_str (pe_lc (own := [("_law_k", 5)]) (g := gName 5) (tt := tYes) rfl nd (pi_range1 (by rfl) T.range (pa_cons (pv 4) pa_nil)) (blkOk_by (own := [("_law_k", 5)]) (N := nmCell) (sc := defScope s_cell) (by decide +kernel)) (fun _ _ _ _ _ => pg_name (i := 5) nd rfl (Or.inl rfl)) (fun _ _ _ _ _ => pts_nil) (fun s1 H1 C1 cl1 fp1 => pe_call G2 hr (by rfl) mg2 kp2 bd2 .nil pass0 (pa_cons (pv 0) pa_nil))))))))))), ?_⟩
    have szl : (1000 : Nat) < sizeLine := by decide
    refine ⟨_, rfl, b, l, 9, rfl, hB, by decide, by decide, fun way H1 w0 w1 hB1 x1 => ⟨_, rfl, rfl, _, rfl, iteB ?_ ?_⟩⟩
    · exact k _ H1 ⟨by decide +kernel, sg_of (by decide +kernel)⟩ hB1 x1
    refine ⟨_, rfl, rfl, _, rfl, iteB (iteT ?body) ⟨_, rfl, rfl, _, rfl, iteB ⟨_, rfl, _, _, rfl, rfl, _, rfl, iteB ?body ?rest⟩ (iteF ?rest)⟩⟩
    case body =>
      refine ⟨line10 (by decide), fun p np => ⟨_, rfl, b, l, 3, rfl, box_new hB1 np, by decide, by decide, fun r H2 r0 r1 hB2 x2 => ⟨r, 2, rfl, rfl, ⟨by decide, by decide⟩, ?_⟩⟩⟩
      have y2 := (x1.trans (kb_new np)).trans x2
      have e2 : r.fdiv 2 = r / 2 := Int.fdiv_eq_ediv_of_nonneg r (by decide)
      obtain ⟨v, hv, ev⟩ := pick (xs := [(⟨#[]⟩ : Str), ⟨#[45]⟩]) (i := r.fdiv 2) (by omega) (by show r.fdiv 2 < 2; omega)
      obtain ⟨nb, nl⟩ := new_ne hB1 np
      have l1 : ([("" : Str), "-"] : List Str) = [⟨#[]⟩, ⟨#[45]⟩] := by decide +kernel
      have hp2 : H2 p = some (.lst (sV [("" : Str), "-"])) := x2 p _ upd_same nb nl
      refine ⟨p, _, _, .str v, rfl, rfl, SqL.of hp2, by rw [l1]; exact atI_map ev, ?_⟩
      refine ⟨_, rfl, 10, 9, rfl, rfl, ⟨by decide, by decide, by decide⟩, line10 (by decide), fun p2 np2 => ⟨_, rfl, b, l, 3, rfl, box_new hB2 np2, by decide, by decide, fun r2 H4 s0 s1 hB4 x4 => ?_⟩⟩
      obtain ⟨nb2, nl2⟩ := new_ne hB2 np2
      have y4 := (y2.trans (kb_new np2)).trans x4
      have hp4 := x4 p2 _ upd_same nb2 nl2
      obtain ⟨m, hm, em⟩ := pick (xs := [(10 : Int), 1000, 1000000000]) (i := r2) s0 s1
      have hm2 : 0 < m ∧ m ≤ 1000000000 := by
        simp only [List.mem_cons, List.not_mem_nil, or_false] at hm
        omega
      refine ⟨p2, _, _, .int m, rfl, rfl, SqL.of hp4, atI_map (f := V.int) em, b, l, m, rfl, hB4, hm2.1, by omega, fun n H5 n0 n1 hB5 x5 => ⟨n, rfl, ?_, v, _, rfl, rfl, ?_, ?_⟩⟩
      · by_cases hz : n.natAbs = 0
        · rw [hz]; decide
        · refine Nat.lt_of_lt_of_le ((Nat.log2_lt hz).mpr (show n.natAbs < 2 ^ 30 by omega)) (by decide)
      · have h9 := (num_ok n0 (by omega)).1
        have hv1 : v.length ≤ 1 := by
          simp only [List.mem_cons, List.not_mem_nil, or_false] at hv
          rcases hv with rfl | rfl <;> decide
        omega
      · obtain ⟨h9, hd9⟩ := num_ok n0 (by omega)
        have hv1 : v.length ≤ 1 ∧ ∀ c ∈ cl v, SgOk c := by
          simp only [List.mem_cons, List.not_mem_nil, or_false] at hv
          rcases hv with rfl | rfl <;> exact ⟨by decide, sg_of (by decide)⟩
        refine k _ H5 ⟨?_, fun c hc => ?_⟩ hB5 (y4.trans x5)
        · rw [len_cl, cl_app, List.length_append, ← len_cl, ← len_cl]; omega
        · have hc : c ∈ cl (v ++ _) := hc
          rw [cl_app] at hc
          rcases List.mem_append.mp hc with h | h
          · exact hv1.2 c h
          · have := hd9 c h
            unfold SgOk
            omega
    case rest =>
    refine ⟨_, rfl, rfl, _, rfl, iteB ?_ ?_⟩
    · refine ⟨line10 (by decide), fun p np => ⟨_, rfl, _, rfl, b, l, 13, rfl, box_new hB1 np, by decide, by decide, fun r H2 r0 r1 hB2 x2 => ?_⟩⟩
      obtain ⟨nb, nl⟩ := new_ne hB1 np
      have hp2 : H2 p = some (.lst (sV oddL)) := x2 p _ upd_same nb nl
      obtain ⟨v, hv, ev⟩ := pick (xs := oddL) (i := r) r0 r1
      exact ⟨p, _, _, .str v, rfl, rfl, SqL.of hp2, atI_map ev, k v H2 (odd_ok v hv) hB2 ((x1.trans (kb_new np)).trans x2)⟩
    refine ⟨_, rfl, line10 (by decide), fun p np => ⟨_, rfl, b, l, 2, rfl, box_new hB1 np, by decide, by decide, fun r H2 r0 r1 hB2 x2 => ?_⟩⟩
    obtain ⟨nb, nl⟩ := new_ne hB1 np
    have hp2 := x2 p _ upd_same nb nl
    have y2 := (x1.trans (kb_new np)).trans x2
    obtain ⟨m, hm, em⟩ := pick (xs := [(3 : Int), 10]) (i := r) r0 r1
    have hm2 : 0 < m ∧ m ≤ 10 := by
      simp only [List.mem_cons, List.not_mem_nil, or_false] at hm
      omega
    refine ⟨p, _, _, .int m, rfl, rfl, SqL.of hp2, atI_map (f := V.int) em, b, l, m, rfl, hB2, hm2.1, by omega, fun n H3 n0 n1 hB3 x3 => ⟨1, n, rfl, rfl, ?_⟩⟩
    have y3 := y2.trans x3
    refine ⟨_, rfl, _, _, rfl, rfl, _, rfl, iteB ?_ ?_⟩
    · refine ⟨⟨_, rfl⟩, _, rfl, 1 + n, rfl, by omega, by omega, fun D nD => lc_range (n := (1 + n).toNat) (fun i H' => OnesAt b l H D i H') ?_ ?_ ?_⟩
      · exact OnesAt.start hB3 y3 nD hB
      · rintro i H4 hi o
        refine ⟨rfl, _, rfl, b, l, 10, rfl, o.box, by decide, by decide, fun r4 H5 a0 a1 hB5 x5 => ?_⟩
        obtain ⟨c, hc, ec⟩ := pick (xs := cl "abcdefghij") (i := r4) a0 (by rw [abc_len]; exact a1)
        obtain ⟨acc, hacc, hl, o2⟩ := o.more (c := c) (sg_of (z := "abcdefghij") (by decide +kernel) c hc) hB5 x5
        exact ⟨_, r4, c, rfl, rfl, line10 (by decide +kernel), ec, acc, hacc, by omega, o2⟩
      · rintro H4 o
        obtain ⟨ys, hD, h1, h2, h3⟩ := o.done
        exact ⟨_, D, ys, rfl, rfl, .inl (SqL.of hD), by rw [h2, emp_len]; omega, k _ H4 (h3 (by omega)) o.box o.keep⟩
    · refine ⟨⟨_, rfl⟩, _, rfl, 1 + n, rfl, by omega, by omega, fun D nD => lc_range (n := (1 + n).toNat) (fun i H' => OnesAt b l H D i H') ?_ ?_ ?_⟩
      · exact OnesAt.start hB3 y3 nD hB
      · rintro i H4 hi o
        refine ⟨rfl, _, rfl, b, l, rfl, o.box, fun c H5 hc hB5 x5 => ?_⟩
        obtain ⟨acc, hacc, hl, o2⟩ := o.more (c := c) hc hB5 x5
        exact ⟨acc, hacc, by omega, o2⟩
      · rintro H4 o
        obtain ⟨ys, hD, h1, h2, h3⟩ := o.done
        exact ⟨_, D, ys, rfl, rfl, .inl (SqL.of hD), by rw [h2, emp_len]; omega, k _ H4 (h3 (by omega)) o.box o.keep⟩
end
end TG
namespace TG
open PySem L2 Gx
theorem new_old {b l p : Addr} {H H1 : Hp} (x : KB b l H H1) (hB : BoxAt H1 b l) (n : H1 p = none) : H p = none := by
  obtain ⟨d1, d2⟩ := new_ne hB n
  cases e : H p with
  | none => rfl
  | some o => rw [x p o e d1 d2] at n; cases n
/-- a list of cells at D -/
structure StrsAt (b l : Addr) (H : Hp) (D : Addr) (i : Nat) (H' : Hp) : Prop where
  box : BoxAt H' b l
  keep : KB b l H H'
  nD : H D = none
  db : D ≠ b
  dl : D ≠ l
  zsat : ∃ zs : List Str, zs.length = i ∧ (∀ z ∈ zs, CellOk z) ∧ H' D = some (.lst (sV zs))
theorem StrsAt.start {b l : Addr} {H H1 : Hp} {D : Addr} (hB : BoxAt H1 b l) (x : KB b l H H1) (n : H1 D = none) : StrsAt b l H D 0 (upd H1 D (.lst [])) := by
  obtain ⟨d1, d2⟩ := new_ne hB n
  have nD := new_old x hB n
  exact ⟨box_new hB n, kb_upd x nD, nD, d1, d2, [], rfl, fun c h => by simp at h, upd_same⟩
theorem StrsAt.more {b l : Addr} {H H1 H2 : Hp} {D : Addr} {i : Nat} {z : Str} (o : StrsAt b l H D i H1) (hc : CellOk z) (hB : BoxAt H2 b l) (x : KB b l H1 H2) :
    ∃ acc, H2 D = some (.lst acc) ∧ acc.length = i ∧ StrsAt b l H D (i + 1) (upd H2 D (.lst (acc ++ [.str z]))) := by
  obtain ⟨zs, h1, h2, h3⟩ := o.zsat
  refine ⟨_, x D _ h3 o.db o.dl, by rw [List.length_map, h1], box_upd hB o.db o.dl, kb_upd (o.keep.trans x) o.nD, o.nD, o.db, o.dl, zs ++ [z], by rw [List.length_append, h1]; rfl, fun d hd => ?_, ?_⟩
  · rcases List.mem_append.mp hd with h | h
    · exact h2 d h
    · rw [List.mem_singleton.mp h]; exact hc
  · rw [upd_same]
    simp [sV]
/-- a list of numbers at D, below m -/
structure IntsAt (b l : Addr) (H : Hp) (D : Addr) (i : Nat) (H' : Hp) : Prop where
  box : BoxAt H' b l
  keep : KB b l H H'
  nD : H D = none
  db : D ≠ b
  dl : D ≠ l
  isat : ∃ zs : List Int, zs.length = i ∧ H' D = some (.lst (zs.map V.int))
theorem IntsAt.start {b l : Addr} {H H1 : Hp} {D : Addr} (hB : BoxAt H1 b l) (x : KB b l H H1) (n : H1 D = none) : IntsAt b l H D 0 (upd H1 D (.lst [])) := by
  obtain ⟨d1, d2⟩ := new_ne hB n
  have nD := new_old x hB n
  exact ⟨box_new hB n, kb_upd x nD, nD, d1, d2, [], rfl, upd_same⟩
theorem IntsAt.more {b l : Addr} {H H1 H2 : Hp} {D : Addr} {i : Nat} {z : Int} (o : IntsAt b l H D i H1) (hB : BoxAt H2 b l) (x : KB b l H1 H2) :
    ∃ acc, H2 D = some (.lst acc) ∧ acc.length = i ∧ IntsAt b l H D (i + 1) (upd H2 D (.lst (acc ++ [.int z]))) := by
  obtain ⟨zs, h1, h3⟩ := o.isat
  refine ⟨_, x D _ h3 o.db o.dl, by rw [List.length_map, h1], box_upd hB o.db o.dl, kb_upd (o.keep.trans x) o.nD, o.nD, o.db, o.dl, zs ++ [z], by rw [List.length_append, h1]; rfl, ?_⟩
  rw [upd_same]
  simp
theorem ixm1 {n : Nat} : ixN (n + 1) (-1) = some n := by
  unfold ixN
  rw [if_neg (by decide), if_pos (by omega)]
  congr 1
  omega
theorem atm1 {α : Type} {xs : List α} {n : Nat} {v : α} (hl : xs.length = n + 1) (h : xs[n]? = some v) : atI xs (-1) = some v := by
  unfold atI
  rw [hl, ixm1]
  exact h
/-- rows' tuples -/
def RowsP (H : Hp) (as : List Addr) : Prop := ∀ p ∈ as, ∃ r, H p = some (.tup (sV r)) ∧ RowOk r
theorem RowsP.keep {H H' : Hp} {as : List Addr} (x : RowsP H as) (k : ∀ p xs, H p = some (.tup xs) → H' p = some (.tup xs)) : RowsP H' as := fun p hp => by
  obtain ⟨r, h1, h2⟩ := x p hp
  exact ⟨r, k _ _ h1, h2⟩
theorem RowsP.page {H : Hp} : ∀ {as : List Addr}, RowsP H as → ∃ rows : List (List Str), as.length = rows.length ∧ (∀ (i : Nat) (p : Addr) (r : List Str), as[i]? = some p → rows[i]? = some r → H p = some (.tup (sV r))) ∧ ∀ r ∈ rows, RowOk r
  | [], _ => ⟨[], rfl, fun i p r h => by simp at h, fun r h => by simp at h⟩
  | a :: as, x => by
    obtain ⟨rows, h1, h2, h3⟩ := RowsP.page (as := as) fun p hp => x p (List.mem_cons_of_mem _ hp)
    obtain ⟨r, g1, g2⟩ := x a List.mem_cons_self
    refine ⟨r :: rows, by rw [List.length_cons, List.length_cons, h1], fun i p q e1 e2 => ?_, fun q hq => ?_⟩
    · cases i with
      | zero => cases e1; cases e2; exact g1
      | succ i => exact h2 i p q (by simpa using e1) (by simpa using e2)
    · rcases List.mem_cons.mp hq with z | z
      · rw [z]; exact g2
      · exact h3 q z
theorem kb_tup {b l : Addr} {H H' : Hp} (x : KB b l H H') (hB : BoxAt H b l) : ∀ p xs, H p = some (.tup xs) → H' p = some (.tup xs) := fun p xs h => by
  obtain ⟨ns, st, h1, h2, _⟩ := hB
  exact x p _ h (ne_of h h1 fun z => by cases z) (ne_of h h2 fun z => by cases z)
section
variable {P : Program} {w : World} {K : PySem.W.Frag} {mg : Str → Option Value} {base : Heap} {cs : List (Addr × Addr)}
def spRowD : Sp := fun vs H Q _ => ∃ (b l sr : Addr) (ss : List Int) (m : Int), vs = [.ref b, .ref sr, .int m] ∧ BoxAt H b l ∧ H sr = some (.lst (ss.map V.int)) ∧ ss.length = 6 ∧ sr ≠ b ∧ sr ≠ l ∧ 1 ≤ m ∧ m ≤ 6 ∧
  ∀ (p : Addr) (r : List Str) (H' : Hp), BoxAt H' b l → KB b l H H' → H p = none → H' p = some (.tup (sV r)) → RowOk r → Q (.ref p) H'
abbrev nmRow : List Str := ["_law_box", "_law_sorts", "_law_many", "_law_k"]
theorem sc_lrow : FnScope nmRow ["_law_box", "_law_sorts", "_law_many"] (defScope s_row) := ⟨rfl, rfl, rfl, by decide +kernel, rfl, by decide +kernel, by decide +kernel⟩
theorem ok_lrow {f g : Addr} {fd fdg : FuncData} (T : Txt mg) (F : Fun K "_law_row" "_law_row" s_row f fd)
    (G : FnOk P w K mg base CX0 3 g fdg ["_law_box", "_law_sort"] spCell) (kp : PySem.W.keepIn K (.ref g) = true) (bd : Binds K fdg ["_law_box", "_law_sort"] []) (mgg : mg "_law_cell" = some (.ref g)) : FnOk P w K mg base CX0 4 f fd ["_law_box", "_law_sorts", "_law_many"] spRowD := by
  refine F.ok sc_lrow (fun vs H Q E h => ?_) (fun cdv A outer s H vs Q E hr h => ?_)
  · obtain ⟨b, l, sr, ss, m, rfl, _⟩ := h
    rfl
  · obtain ⟨b, l, sr, ss, m, rfl, hB, hs, h6, sb, sl, m1, m6, k⟩ := h
    have nd := sc_lrow.nd
    have szl : (1000 : Nat) < sizeLine := by decide
    refine ⟨_, pss_one (ps_ret (pe_callTy call_tuple_of (by rfl) T.tuple (by decide +kernel) (pa_cons (pe_lc (own := [("_law_k", 3)]) (g := gName 3) (tt := tYes) rfl nd (pi_range1 (by rfl) T.range (pa_cons (pv 2) pa_nil)) (blkOk_by (own := [("_law_k", 3)]) (N := nmRow) (sc := defScope s_row) (by decide +kernel))
          (fun _ _ _ _ _ => pg_name (i := 3) nd rfl (Or.inl rfl)) (fun _ _ _ _ _ => pts_nil) (fun s1 H1 C1 cl1 fp1 => pe_call G hr (by rfl) mgg kp bd .nil pass0 (pa_cons (pv 0) (pa_cons (pe_ix (r := rIxL K) ix_list (pv 1) (pv 3) (fun _ _ => rfl)) pa_nil)))) pa_nil))), ?_⟩
    refine ⟨_, rfl, m, rfl, by omega, by omega, fun D nD => lc_range (n := m.toNat) (fun i H' => StrsAt b l H D i H') (StrsAt.start hB KB.refl nD) ?_ ?_⟩
    · rintro i H1 hi o
      obtain ⟨sv, hsv⟩ := getP (xs := ss) (i := i) (by omega)
      have hs1 := o.keep sr _ hs sb sl
      refine ⟨rfl, _, rfl, _, rfl, _, rfl, sr, _, _, .int sv, rfl, rfl, SqL.of hs1, by rw [Int.zero_add]; exact atI_nat (by rw [List.getElem?_map, hsv]; rfl), b, l, sv, rfl, o.box, fun z H2 hz hB2 x2 => ?_⟩
      obtain ⟨acc, hacc, hl, o2⟩ := o.more hz hB2 x2
      exact ⟨acc, hacc, by omega, o2⟩
    · rintro H1 o
      obtain ⟨zs, h1, h2, h3⟩ := o.zsat
      refine ⟨D, _, rfl, .inl ⟨SqL.of h3, fun p np => k p zs _ (box_new o.box np) (o.keep.trans (kb_new np)) (new_old o.keep o.box np) upd_same ⟨by omega, by omega, h2⟩⟩⟩
def spPageD : Sp := fun vs H Q _ => ∃ (b l : Addr) (m : Int), vs = [.ref b, .int m] ∧ BoxAt H b l ∧ 1 ≤ m ∧ m ≤ 30 ∧
  ∀ (p : Addr) (as : List Addr) (rows : List (List Str)) (H' : Hp), BoxAt H' b l → KB b l H H' → H p = none → p ≠ b → p ≠ l → H' p = some (.lst (as.map V.ref)) → as.length = rows.length → (∀ (i : Nat) (q : Addr) (r : List Str), as[i]? = some q → rows[i]? = some r → H' q = some (.tup (sV r))) → PgOk rows → Q (.ref p) H'
abbrev nmPage : List Str := ["_law_box", "_law_most", "_law_sorts", "_law_many", "_law_rows", "_law_turn", "_law_way", "_law_k"]
theorem sc_lpage : FnScope nmPage ["_law_box", "_law_most"] (defScope s_page) := ⟨rfl, rfl, rfl, by decide +kernel, rfl, by decide +kernel, by decide +kernel⟩
theorem ok_lpage {f g g2 : Addr} {fd fdg fd2 : FuncData} (T : Txt mg) (F : Fun K "_law_page" "_law_page" s_page f fd)
    (G : FnOk P w K mg base CX0 1 g fdg ["_law_box", "_law_many"] spTake) (kp : PySem.W.keepIn K (.ref g) = true) (bd : Binds K fdg ["_law_box", "_law_many"] []) (mgg : mg "_law_take" = some (.ref g))
    (G2 : FnOk P w K mg base CX0 4 g2 fd2 ["_law_box", "_law_sorts", "_law_many"] spRowD) (kp2 : PySem.W.keepIn K (.ref g2) = true) (bd2 : Binds K fd2 ["_law_box", "_law_sorts", "_law_many"] []) (mg2 : mg "_law_row" = some (.ref g2)) : FnOk P w K mg base CX0 5 f fd ["_law_box", "_law_most"] spPageD := by
  refine F.ok sc_lpage (fun vs H Q E h => ?_) (fun cdv A outer s H vs Q E hr h => ?_)
  · obtain ⟨b, l, m, rfl, _⟩ := h
    rfl
  · obtain ⟨b, l, m, rfl, hB, m1, m30, k⟩ := h
    have nd := sc_lpage.nd
    have szl : (1000 : Nat) < sizeLine := by decide
    have hr1 : Room 1 _ := hr.mono (by decide)
    refine ⟨_, pss_cons (ps_setLc (i := 2) (own := [("_law_k", 7)]) (g := gName 7) rfl nd rfl rfl (sw_true rfl rfl rfl (by decide +kernel)) (pi_range1 (by rfl) T.range (pa_cons pe_int pa_nil)) (blkOk_by (own := [("_law_k", 7)]) (N := nmPage) (sc := defScope s_page) (by decide +kernel))
          (fun _ _ _ _ _ => pg_name (i := 7) nd rfl (Or.inl rfl)) (fun _ _ _ _ _ => pts_nil) (fun s1 H1 C1 cl1 fp1 => pe_call G hr1 (by rfl) mgg kp bd .nil pass0 (pa_cons (pv 0) (pa_cons pe_int pa_nil))))
      (pss_cons (ps_par (i := 3) (j := 4) rfl nd rfl rfl (by decide) rfl rfl (pa_cons (pe_op op_add pe_int (pe_call G hr1 (by rfl) mgg kp bd .nil pass0 (pa_cons (pv 0) (pa_cons pe_int pa_nil)))) (pa_cons (pe_lst pa_nil) pa_nil)) (by rfl))
      (pss_cons (ps_for PassesOwn.never rfl (pi_range1 (by rfl) T.range (pa_cons (pe_op op_add pe_int (pe_call G hr1 (by rfl) mgg kp bd .nil pass0 (pa_cons (pv 0) (pa_cons (pv 1) pa_nil)))) pa_nil)) (pg_name (i := 5) nd rfl (.inl rfl))
        (pss_cons (ps_set (i := 6) nd rfl (.inl rfl) (pe_call G hr1 (by rfl) mgg kp bd .nil pass0 (pa_cons (pv 0) (pa_cons pe_int pa_nil))))
        (pss_cons (ps_set (i := 3) nd rfl (.inl rfl) (pe_ix ix_list (pe_lst (pa_cons (pe_op op_add pe_int (pe_call G hr1 (by rfl) mgg kp bd .nil pass0 (pa_cons (pv 0) (pa_cons pe_int pa_nil)))) (pa_cons (pe_callB (call_max2 rfl) (by rfl) T.max (by decide +kernel) (pa_cons pe_int (pa_cons (pe_op op_sub (pv 3) pe_int) pa_nil)))
            (pa_cons (pe_callB (call_min2 rfl) (by rfl) T.min (by decide +kernel) (pa_cons pe_int (pa_cons (pe_op op_add (pv 3) pe_int) pa_nil))) (pa_cons (pv 3) pa_nil))))) (pe_callB (call_min2 rfl) (by rfl) T.min (by decide +kernel) (pa_cons (pv 6) (pa_cons pe_int pa_nil))) (fun _ _ => rfl)))
        (pss_cons (ps_expr (pe_bm PySem.F.plainAttrs_list PySem.F.slot_list_append PySem.F.type_list_append mt_append (pv 4) (pa_cons (pe_call G2 hr (by rfl) mg2 kp2 bd2 .nil pass0 (pa_cons (pv 0) (pa_cons (pv 2) (pa_cons (pv 3) pa_nil)))) pa_nil)))
        (pss_one (ps_if (pt_cmpR op_eq (pv 6) pe_int (nomark _))
          (pss_cons (ps_asg (pe_ix ix_list (pv 4) (pe_call G hr1 (by rfl) mgg kp bd .nil pass0 (pa_cons (pv 0) (pa_cons (pe_callB call_len_seq (by rfl) T.len PySem.boot_len (pa_cons (pv 4) pa_nil)) pa_nil))) (fun _ _ => rfl)) (pg_sub (pv 4) (pe_un un_neg pe_int) set_list))
          (pss_one (ps_set (i := 3) nd rfl (.inl rfl) (pe_callB call_len_seq (by rfl) T.len PySem.boot_len (pa_cons (pe_ix ix_list (pv 4) (pe_un un_neg pe_int) (fun _ _ => rfl)) pa_nil))))) pss_nil))))))
      (pss_one (ps_ret (pv 4))))), ?_⟩
    refine ⟨6, rfl, by decide, by decide, fun sr nsr => lc_range (n := 6) (fun i H' => IntsAt b l H sr i H') (IntsAt.start hB KB.refl nsr) ?_ ?_⟩
    · rintro i H1 hi o
      refine ⟨rfl, _, rfl, b, l, 2, rfl, o.box, by decide, by decide, fun r H2 r0 r1 hB2 x2 => ?_⟩
      obtain ⟨acc, hacc, hl, o2⟩ := o.more (z := r) hB2 x2
      exact ⟨acc, hacc, by omega, o2⟩
    rintro H1 ⟨hB1, x1, nsr, sb, sl, ss, h6, hs1⟩
    refine ⟨_, rfl, b, l, 6, rfl, hB1, by decide, by decide, fun m0 H2 a0 a1 hB2 x2 => ⟨1, m0, rfl, rfl, small0, fun lr nlr => ⟨_, _, rfl, ?_⟩⟩⟩
    have hs2 := x2 sr _ hs1 sb sl
    have y2 := x1.trans x2
    obtain ⟨lb, ll⟩ := new_ne hB2 nlr
    have lrs : lr ≠ sr := fun z => by rw [z, hs2] at nlr; cases nlr
    have nlr0 := new_old y2 hB2 nlr
    refine ⟨_, rfl, _, rfl, b, l, m, rfl, box_new hB2 nlr, by omega, by omega, fun tt H4 t0 t1 hB4 x4 => ⟨1, tt, rfl, rfl, 1 + tt, rfl, by omega, by omega, ?_⟩⟩
    have hs4 : H4 sr = some (.lst (ss.map V.int)) := x4 sr _ (by rw [upd_ne lrs.symm]; exact hs2) sb sl
    have y4 := (y2.trans (kb_new nlr)).trans x4
    have hl4 : H4 lr = some (.lst []) := x4 lr _ upd_same lb ll
    refine for_range (n := (1 + tt).toNat) (fun i σ H' => ∃ (mm : Int) (as : List Addr) (c5 c6 : Option V), σ = [some (.ref b), some (.int m), some (.ref sr), some (.int mm), some (.ref lr), c5, c6, none] ∧ 1 ≤ mm ∧ mm ≤ 6 ∧ BoxAt H' b l ∧ KB b l H H' ∧ H' sr = some (.lst (ss.map V.int)) ∧ H' lr = some (.lst (as.map V.ref)) ∧ as.length = i ∧ RowsP H' as)
      ⟨1 + m0, [], none, none, rfl, by omega, by omega, hB4, y4, hs4, hl4, rfl, fun p h => by simp at h⟩ ?_ ?_
    · rintro i σ H5 hi ⟨mm, as, c5, c6, rfl, mm1, mm6, hB5, y5, hs5, hl5, hlen, hR5⟩
      refine ⟨_, rfl, b, l, 8, rfl, hB5, by decide, by decide, fun way H6 w0 w1 hB6 x6 => ?_⟩
      refine ⟨_, rfl, b, l, 6, rfl, hB6, by decide, by decide, fun n6 H7 n0 n1 hB7 x7 => ⟨1, n6, rfl, rfl, _, rfl, mm, 1, rfl, rfl, 1, mm - 1, rfl, _, rfl, mm, 1, rfl, rfl, 6, mm + 1, rfl, _, rfl, line10 (by show 4 ≤ 1000; decide), fun q nq => ?_⟩⟩
      obtain ⟨mv, hmv, emv⟩ := pick (xs := [1 + n6, (if mm - 1 > 1 then mm - 1 else 1), (if mm + 1 < 6 then mm + 1 else 6), mm]) (i := if 3 < way then 3 else way) (by split <;> omega) (by show _ < (4 : Int); split <;> omega)
      have hmv2 : 1 ≤ mv ∧ mv ≤ 6 := by
        simp only [List.mem_cons, List.not_mem_nil, or_false] at hmv
        rcases hmv with h | h | h | h
        · omega
        · split at h <;> omega
        · split at h <;> omega
        · omega
      refine ⟨_, rfl, way, 3, rfl, q, _, _, .int mv, rfl, rfl, SqL.of upd_same, atI_map (f := V.int) emv, ?_⟩
      have y7 : KB b l H5 (upd H7 q (.lst (List.map V.int [1 + n6, (if mm - 1 > 1 then mm - 1 else 1), (if mm + 1 < 6 then mm + 1 else 6), mm]))) := (x6.trans x7).trans (kb_new nq)
      have hB8 := box_new (o := .lst (List.map V.int [1 + n6, (if mm - 1 > 1 then mm - 1 else 1), (if mm + 1 < 6 then mm + 1 else 6), mm])) hB7 nq
      have hl8 := y7 lr _ hl5 lb ll
      have hs8 := y7 sr _ hs5 sb sl
      refine ⟨_, rfl, .inl ⟨rfl, _, SqL.of hl8⟩, _, rfl, _, rfl, _, rfl, b, l, sr, ss, mv, rfl, hB8, hs8, h6, sb, sl, hmv2.1, hmv2.2, fun p r H9 hB9 x9 np hp hro => ?_⟩
      have hl9 := x9 lr _ hl8 lb ll
      have hs9 := x9 sr _ hs8 sb sl
      have plr : p ≠ lr := fun z => by rw [z, hl9] at hp; cases hp
      refine ⟨lr, _, .ref p, rfl, rfl, hl9, by rw [List.length_map]; omega, ?_⟩
      have el : as.map V.ref ++ [V.ref p] = (as ++ [p]).map V.ref := by simp
      rw [el]
      have y9 := kb_upd (o := .lst ((as ++ [p]).map V.ref)) (y5.trans (y7.trans x9)) nlr0
      have hB10 := box_upd (o := .lst ((as ++ [p]).map V.ref)) hB9 lb ll
      have hl10 : (upd H9 lr (.lst ((as ++ [p]).map V.ref))) lr = some (.lst ((as ++ [p]).map V.ref)) := upd_same
      have hs10 : (upd H9 lr (.lst ((as ++ [p]).map V.ref))) sr = some (.lst (ss.map V.int)) := by rw [upd_ne lrs.symm]; exact hs9
      have hR10 : RowsP (upd H9 lr (.lst ((as ++ [p]).map V.ref))) (as ++ [p]) := fun u hu => by
        rcases List.mem_append.mp hu with h | h
        · obtain ⟨r2, e1, e2⟩ := hR5 u h
          have e3 := kb_tup (y7.trans x9) hB5 u _ e1
          exact ⟨r2, by rw [upd_ne (fun z => by rw [z, hl9] at e3; cases e3)]; exact e3, e2⟩
        · rw [List.mem_singleton.mp h]
          exact ⟨r, by rw [upd_ne plr]; exact hp, hro⟩
      have hlen2 : (as ++ [p]).length = i + 1 := by rw [List.length_append, hlen]; rfl
      generalize (upd H9 lr (.lst ((as ++ [p]).map V.ref))) = H10 at y9 hB10 hl10 hs10 hR10 ⊢
      generalize as ++ [p] = as2 at hl10 hR10 hlen2 ⊢
      refine ⟨_, rfl, rfl, _, rfl, iteB ?_ ?_⟩
      · have ln : ((as2.map V.ref).length : Int) = ((i + 1 : Nat) : Int) := by rw [List.length_map, hlen2]
        refine ⟨_, rfl, _, rfl, _, rfl, lr, _, rfl, .inl (SqL.of hl10), b, l, _, rfl, hB10, by omega, by omega, fun j H11 j0 j1 hB11 x11 => ?_⟩
        have hl11 := x11 lr _ hl10 lb ll
        obtain ⟨u, hu, eu⟩ := pick (xs := as2) (i := j) j0 (by rw [hlen2]; omega)
        obtain ⟨r2, e1, e2⟩ := hR10 u hu
        have e3 := kb_tup x11 hB10 u _ e1
        have ulr : u ≠ lr := fun z => by rw [z, hl11] at e3; cases e3
        have ix : ixN (as2.map V.ref).length (-1) = some i := by rw [List.length_map, hlen2]; exact ixm1
        refine ⟨lr, _, j, .ref u, rfl, rfl, SqL.of hl11, atI_map eu, _, rfl, 1, rfl, lr, _, -1, i, rfl, rfl, hl11, ix, ?_⟩
        have es : (as2.map V.ref).set i (V.ref u) = (as2.set i u).map V.ref := by rw [List.map_set]
        rw [es]
        have gu : (as2.set i u)[i]? = some u := List.getElem?_set_self (by omega)
        have hs11 := x11 sr _ hs10 sb sl
        refine ⟨_, rfl, 1, rfl, lr, _, -1, .ref u, rfl, rfl, SqL.of upd_same, atm1 (n := i) (by rw [List.length_map, List.length_set, hlen2]) (by rw [List.getElem?_map, gu]; rfl), u, _, rfl, .inr (SqT.of (by rw [upd_ne ulr]; exact e3)), ?_⟩
        have l1 := e2.pos
        have l2 := e2.len
        have lr2 : (sV r2).length = r2.length := List.length_map ..
        refine ⟨_, as2.set i u, _, _, rfl, by omega, by omega, box_upd hB11 lb ll, kb_upd (y9.trans x11) nlr0, by rw [upd_ne lrs.symm]; exact hs11, upd_same, by rw [List.length_set, hlen2], fun v hv => ?_⟩
        rcases List.mem_or_eq_of_mem_set hv with h | h
        · obtain ⟨r3, f1, f2⟩ := hR10 v h
          have f3 := kb_tup x11 hB10 v _ f1
          exact ⟨r3, by rw [upd_ne (fun z => by rw [z, hl11] at f3; cases f3)]; exact f3, f2⟩
        · rw [h]
          exact ⟨r2, by rw [upd_ne ulr]; exact e3, e2⟩
      · exact ⟨_, as2, _, _, rfl, hmv2.1, hmv2.2, hB10, y9, hs10, hl10, hlen2, hR10⟩
    · rintro σ H5 ⟨mm, as, c5, c6, rfl, mm1, mm6, hB5, y5, hs5, hl5, hlen, hR5⟩
      obtain ⟨rows, g1, g2, g3⟩ := hR5.page
      exact ⟨_, rfl, k lr as rows H5 hB5 y5 nlr0 lb ll hl5 g1 g2 ⟨by omega, by omega, g3⟩⟩
def spStyleD : Sp := fun vs H Q _ => ∃ (b l : Addr), vs = [.ref b] ∧ BoxAt H b l ∧
  ∀ (p : Addr) (gap least : Int) (H' : Hp), BoxAt H' b l → KB b l H H' → H p = none → H' p = some (.tup [.int gap, .int least]) → 0 ≤ gap → gap ≤ 4 → 0 ≤ least → least ≤ 12 → Q (.ref p) H'
theorem sc_lstyle : FnScope ["_law_box", "_law_gap"] ["_law_box"] (defScope s_style) := ⟨rfl, rfl, rfl, by decide +kernel, rfl, by decide +kernel, by decide +kernel⟩
theorem ok_lstyle {f g : Addr} {fd fdg : FuncData} (F : Fun K "_law_style" "_law_style" s_style f fd)
    (G : FnOk P w K mg base CX0 1 g fdg ["_law_box", "_law_many"] spTake) (kp : PySem.W.keepIn K (.ref g) = true) (bd : Binds K fdg ["_law_box", "_law_many"] []) (mgg : mg "_law_take" = some (.ref g)) : FnOk P w K mg base CX0 2 f fd ["_law_box"] spStyleD := by
  refine F.ok sc_lstyle (fun vs H Q E h => ?_) (fun cdv A outer s H vs Q E hr h => ?_)
  · obtain ⟨b, l, rfl, _⟩ := h
    rfl
  · obtain ⟨b, l, rfl, hB, k⟩ := h
    have nd := sc_lstyle.nd
    refine ⟨_, pss_cons (ps_set (i := 1) nd rfl (.inl rfl) (pe_ix ix_list (pe_lst (pa_cons (pe_call G hr (by rfl) mgg kp bd .nil pass0 (pa_cons (pv 0) (pa_cons pe_int pa_nil))) (pa_cons pe_int (pa_cons pe_int pa_nil)))) (pe_call G hr (by rfl) mgg kp bd .nil pass0 (pa_cons (pv 0) (pa_cons pe_int pa_nil))) (fun _ _ => rfl)))
      (pss_one (ps_ret (pe_tup (pa_cons (pv 1) (pa_cons (pe_ix ix_list (pe_lst (pa_cons pe_int (pa_cons (pe_call G hr (by rfl) mgg kp bd .nil pass0 (pa_cons (pv 0) (pa_cons pe_int pa_nil))) (pa_cons (pe_call G hr (by rfl) mgg kp bd .nil pass0 (pa_cons (pv 0) (pa_cons pe_int pa_nil))) pa_nil))))
        (pe_call G hr (by rfl) mgg kp bd .nil pass0 (pa_cons (pv 0) (pa_cons pe_int pa_nil))) (fun _ _ => rfl)) pa_nil))))), ?_⟩
    refine ⟨_, rfl, b, l, 5, rfl, hB, by decide, by decide, fun g0 H1 a0 a1 hB1 x1 => ⟨line10 (by show 3 ≤ 1000; decide), fun p np => ⟨_, rfl, b, l, 3, rfl, box_new hB1 np, by decide, by decide, fun r H2 r0 r1 hB2 x2 => ?_⟩⟩⟩
    obtain ⟨nb, nl⟩ := new_ne hB1 np
    have hp := x2 p _ upd_same nb nl
    obtain ⟨gap, hg, eg⟩ := pick (xs := [g0, 1, 2]) (i := r) r0 r1
    have hg2 : 0 ≤ gap ∧ gap ≤ 4 := by
      simp only [List.mem_cons, List.not_mem_nil, or_false] at hg
      omega
    have y2 := (x1.trans (kb_new np)).trans x2
    refine ⟨p, _, _, .int gap, rfl, rfl, SqL.of hp, atI_map (f := V.int) eg, ?_⟩
    refine ⟨_, rfl, _, rfl, b, l, 13, rfl, hB2, by decide, by decide, fun l1 H3 b0 b1 hB3 x3 => ⟨_, rfl, b, l, 13, rfl, hB3, by decide, by decide, fun l2 H4 c0 c1 hB4 x4 => ⟨line10 (by show 3 ≤ 1000; decide), fun q nq => ⟨_, rfl, b, l, 3, rfl, box_new hB4 nq, by decide, by decide, fun r2 H5 s0 s1 hB5 x5 => ?_⟩⟩⟩⟩
    obtain ⟨nb2, nl2⟩ := new_ne hB4 nq
    have hq := x5 q _ upd_same nb2 nl2
    obtain ⟨least, hl, el⟩ := pick (xs := [0, l1, l2]) (i := r2) s0 s1
    have hl2 : 0 ≤ least ∧ least ≤ 12 := by
      simp only [List.mem_cons, List.not_mem_nil, or_false] at hl
      omega
    have y5 := (((y2.trans x3).trans x4).trans (kb_new nq)).trans x5
    exact ⟨q, _, _, .int least, rfl, rfl, SqL.of hq, atI_map (f := V.int) el, line10 (by show 2 ≤ 1000; decide), fun t nt => k t gap least _ (box_new hB5 nt) (y5.trans (kb_new nt)) (new_old y5 hB5 nt) upd_same hg2.1 hg2.2 hl2.1 hl2.2⟩
end
end TG
namespace TG
open PySem L2 Gx
theorem same_refl {H : Hp} : Same H H := fun _ _ h => h
theorem same_trans {H H1 H2 : Hp} (a : Same H H1) (b : Same H1 H2) : Same H H2 := fun c o h => b c o (a c o h)
theorem same_new {H : Hp} {p : Addr} {o : HO} (n : H p = none) : Same H (upd H p o) := fun c u h => by rw [upd_ne (ne_of_none h n)]; exact h
theorem same_upd {H H' : Hp} {p : Addr} {o : HO} (x : Same H H') (n : H p = none) : Same H (upd H' p o) := fun c u h => by rw [upd_ne (ne_of_none h n)]; exact x c u h
theorem same_sqL {K : PySem.W.Frag} {H H' : Hp} {a : Addr} {xs : List V} (e : Same H H') (h : SqL K H a xs) : SqL K H' a xs := by
  rcases h with (z | ⟨o, z⟩) | z
  · exact .inl (.inl (e _ _ z))
  · exact .inl (.inr ⟨o, e _ _ z⟩)
  · exact .inr z
theorem same_sqT {K : PySem.W.Frag} {H H' : Hp} {a : Addr} {xs : List V} (e : Same H H') (h : SqT K H a xs) : SqT K H' a xs := by
  rcases h with (z | ⟨o, z⟩) | z
  · exact .inl (.inl (e _ _ z))
  · exact .inl (.inr ⟨o, e _ _ z⟩)
  · exact .inr z
theorem PageAt.same {K : PySem.W.Frag} {H H' : Hp} {a : Addr} {as : List Addr} {rows : List (List Str)} (p : PageAt K H a as rows) (e : Same H H') : PageAt K H' a as rows :=
  ⟨same_sqL e p.lst, p.len, fun i q r h1 h2 => same_sqT e (p.row i q r h1 h2)⟩
theorem same_old {H H' : Hp} {p : Addr} (e : Same H H') (n : H' p = none) : H p = none := by
  cases q : H p with
  | none => rfl
  | some o => rw [e _ _ q] at n; cases n
theorem canAll_strs : ∀ {zs : List Str}, (∀ z ∈ zs, ∀ c ∈ cl z, SgOk c) → PyData.canLayAll0 (zs.map PyData.str) = true
  | [], _ => rfl
  | z :: zs, h => by
    rw [List.map_cons]
    simp only [PyData.canLayAll0, PyData.canLay0, Bool.and_eq_true]
    refine ⟨?_, canAll_strs fun y hy => h y (List.mem_cons_of_mem _ hy)⟩
    unfold PyData.strOk
    rw [← Array.all_toList, List.all_eq_true]
    intro c hc
    have := h z List.mem_cons_self c hc
    unfold SgOk at this
    exact decide_eq_true (by omega)
theorem depthAll_strs : ∀ zs : List Str, PyData.depthAll (zs.map PyData.str) = 0
  | [] => rfl
  | _ :: r => by simp [PyData.depthAll, PyData.depth, depthAll_strs r]
theorem shaped_strs {zs : List Str} (h : ∀ z ∈ zs, ∀ c ∈ cl z, SgOk c) : SeqAt.shaped (.list (zs.map PyData.str)) = true := by
  simp [SeqAt.shaped, PyData.canLay0, PyData.depth, canAll_strs h, depthAll_strs]
theorem dp_strs {K : PySem.W.Frag} {H : Hp} : ∀ zs : List Str, DpAll K H (sV zs) (zs.map PyData.str)
  | [] => .nil
  | z :: zs => .cons (.str z) (dp_strs zs)
theorem eqv_nil {ds : List PyData} : PyData.eqv (.list ds) (.list []) = decide (ds = []) := by
  cases ds with
  | nil => rfl
  | cons d ds => rfl
theorem cl_one (c : Nat) : cl ⟨#[c]⟩ = [c] := rfl
theorem ten_ok : cl "0123456789" = [48, 49, 50, 51, 52, 53, 54, 55, 56, 57] := by decide +kernel
def digB (c : Nat) : Bool := decide (48 ≤ c ∧ c ≤ 57)
theorem dig_mem (c : Nat) : c ∈ (Str.ofString "0123456789").cps.toList ↔ 48 ≤ c ∧ c ≤ 57 := by
  have e : (Str.ofString "0123456789").cps.toList = [48, 49, 50, 51, 52, 53, 54, 55, 56, 57] := ten_ok
  rw [e]
  simp only [List.mem_cons, List.not_mem_nil, or_false]
  omega
section
variable {P : Program} {w : World} {K : PySem.W.Frag} {mg : Str → Option Value} {base : Heap} {cs : List (Addr × Addr)}
def spFigL : Sp := fun vs H Q _ => ∃ z : Str, vs = [.str z] ∧ CellOk z ∧ ∀ H', Same H H' → Q (.bl (figB z)) H'
abbrev nmFig : List Str := ["_law_cell_here", "_law_rest", "_law_sign_here"]
theorem sc_figl : FnScope nmFig ["_law_cell_here"] (defScope s_figures) := ⟨rfl, rfl, rfl, by decide +kernel, rfl, by decide +kernel, by decide +kernel⟩
theorem ok_figl {f : Addr} {fd : FuncData} (F : Fun K "_law_figures" "_law_figures" s_figures f fd) : FnOk P w K mg base CX0 1 f fd ["_law_cell_here"] spFigL := by
  refine F.ok sc_figl (fun vs H Q E h => ?_) (fun cdv A outer s H vs Q E hr h => ?_)
  · obtain ⟨z, rfl, _⟩ := h
    rfl
  · obtain ⟨z, rfl, ⟨h1, h2⟩, k⟩ := h
    have nd := sc_figl.nd
    refine ⟨_, pss_cons (ps_set (i := 1) nd rfl (.inl rfl) (pe_ifExp (pt_cmpR op_eq (pe_slice sl_str (pv 0) po_none (po_some pe_int)) pe_str (nomark _)) (pe_slice sl_str (pv 0) (po_some pe_int) po_none) (pv 0)))
      (pss_one (ps_ret (pe_and (pe_cmpR op_ne (pv 1) pe_str (nomark _)) (pe_one (pe_cmpR (op_eqD hr.units) (pe_lc (own := [("_law_sign_here", 2)]) (g := gName 2) rfl nd (pi_str (pv 1)) (blkOk_by (own := [("_law_sign_here", 2)]) (N := nmFig) (sc := defScope s_figures) (by decide +kernel))
          (fun _ _ _ _ _ => pg_name (i := 2) nd rfl (Or.inl rfl)) (fun _ _ _ _ _ => pts_one (pt_cmpR op_notIn_sign (pv 2) pe_str rfl)) (fun _ _ _ _ _ => pv 2)) (pe_lst pa_nil) (nomark _)))))), ?_⟩
    have szl : (1000 : Nat) < sizeLine := by decide
    have dash : V.str (cutS z none (some 1)) = V.str "-" ↔ (cl z).head? = some 45 := by
      have e : cl ("-" : Str) = [45] := by decide +kernel
      constructor
      · intro q
        injection q with q
        have q2 := congrArg cl q
        rw [cut01, e] at q2
        cases hz : cl z with
        | nil => rw [hz] at q2; cases q2
        | cons a as => rw [hz] at q2; simp at q2; simp [q2]
      · intro q
        have : cl (cutS z none (some 1)) = cl ("-" : Str) := by
          rw [cut01, e]
          cases hz : cl z with
          | nil => rw [hz] at q; cases q
          | cons a as => rw [hz] at q; simp at q; simp [q]
        rw [str_ext this]
    have lenz : (cl z).length ≤ 10 := by rw [← len_cl]; exact h1
    refine ⟨_, rfl, 1, rfl, z, rfl, line10 (by omega), rfl, _, rfl, ?_⟩
    by_cases hd : (cl z).head? = some 45
    · rw [decide_eq_true (dash.mpr hd)]
      refine iteT ⟨_, rfl, 1, rfl, z, rfl, line10 (by omega), ?_⟩
      have hy : cl (cutS z (some 1) none) = restL (cl z) := by rw [cut1]; unfold restL; rw [if_pos hd]
      have hlen : (cl (cutS z (some 1) none)).length ≤ 10 := by rw [cut1, List.length_tail]; omega
      have hsg : ∀ c ∈ cl (cutS z (some 1) none), SgOk c := fun c hc => h2 c (by rw [cut1] at hc; exact List.mem_of_mem_tail hc)
      generalize cutS z (some 1) none = yy at hy hlen hsg ⊢
      refine ⟨_, rfl, rfl, _, rfl, ?_⟩
      rw [ne_empty]
      by_cases he : cl yy ≠ []
      · rw [decide_eq_true he]
        refine iteT ⟨_, rfl, yy, rfl, fun D nD => lc_it (walk_str (z := yy)) (fun i H' => Same H H' ∧ H' D = some (.lst (sV ((((cl yy).take i).filter fun c => !digB c).map fun c => ⟨#[c]⟩)))) ⟨same_new nD, upd_same⟩ (fun _ _ _ _ => trivial) ?_ ?_⟩
        · rintro i v H1 H2 hi ⟨x1, hD⟩ ⟨rfl, c, hc, rfl⟩
          have hc' : (cl yy)[i]? = some c := by rw [← hc, ← Array.getElem?_toList]
          have hf := filter_take (p := fun c => !digB c) hc'
          refine ⟨rfl, _, rfl, c, _, rfl, rfl, _, rfl, ?_⟩
          have e1 : (!decide (c ∈ (Str.ofString "0123456789").cps.toList)) = !digB c := by
            rw [Bool.eq_iff_iff]
            simp only [Bool.not_eq_true', decide_eq_false_iff_not, dig_mem, digB]
          rw [e1]
          cases hdg : digB c with
          | false =>
            rw [hdg, Bool.not_false, if_pos rfl] at hf
            refine iteT ⟨_, rfl, _, hD, ?_, same_upd x1 nD, ?_⟩
            · rw [List.length_map, List.length_map]
              have q : (((cl yy).take i).filter fun c => !digB c).length ≤ ((cl yy).take i).length := List.length_filter_le ..
              rw [List.length_take] at q
              have q2 : (cl yy).length ≤ 10 := hlen
              omega
            · rw [upd_same, hf]
              simp [sV]
          | true =>
            rw [hdg, Bool.not_true, if_neg Bool.false_ne_true, List.append_nil] at hf
            refine iteF ⟨x1, ?_⟩
            rw [hf]
            exact hD
        · rintro H1 ⟨x1, hD⟩
          have hsz : yy.cps.size = (cl yy).length := len_cl yy
          rw [hsz, List.take_of_length_le (Nat.le_refl _)] at hD
          refine ⟨small0, fun p np => ?_⟩
          have hD2 : (upd H1 p (.lst [])) D = some (.lst (sV (((cl yy).filter fun c => !digB c).map fun c => ⟨#[c]⟩))) := by rw [upd_ne (ne_of_none hD np)]; exact hD
          refine ⟨.list _, .list [], .lst (SqL.of hD2) (dp_strs _), .lst (SqL.of upd_same) .nil, shaped_strs (fun y hy c hc => ?_), rfl, ?_⟩
          · obtain ⟨d, hd, rfl⟩ := List.mem_map.mp hy
            rw [cl_one] at hc
            rw [List.mem_singleton.mp hc]
            exact hsg d (List.mem_filter.mp hd).1
          · rw [eqv_nil]
            have e : decide (List.map PyData.str ((((cl yy).filter fun c => !digB c)).map fun c => (⟨#[c]⟩ : Str)) = []) = figB z := by
              unfold figB
              rw [← hy, decide_eq_true he, Bool.true_and, Bool.eq_iff_iff, decide_eq_true_eq, List.map_eq_nil_iff, List.map_eq_nil_iff, List.filter_eq_nil_iff, List.all_eq_true]
              simp only [Bool.not_eq_true, Bool.not_eq_false', digB]
            rw [e]
            exact k _ (same_trans x1 (same_new np))
      · rw [decide_eq_false he]
        refine iteF ?_
        have e : figB z = false := by
          unfold figB
          rw [← hy, decide_eq_false he]
          rfl
        rw [← e]
        exact k _ same_refl
    · rw [decide_eq_false (fun q => hd (dash.mp q))]
      refine iteF ⟨_, rfl, ?_⟩
      have hy : cl z = restL (cl z) := by unfold restL; rw [if_neg hd]
      have hlen := lenz
      have hsg := h2
      refine ⟨_, rfl, rfl, _, rfl, ?_⟩
      rw [ne_empty]
      by_cases he : cl z ≠ []
      · rw [decide_eq_true he]
        refine iteT ⟨_, rfl, z, rfl, fun D nD => lc_it (walk_str (z := z)) (fun i H' => Same H H' ∧ H' D = some (.lst (sV ((((cl z).take i).filter fun c => !digB c).map fun c => ⟨#[c]⟩)))) ⟨same_new nD, upd_same⟩ (fun _ _ _ _ => trivial) ?_ ?_⟩
        · rintro i v H1 H2 hi ⟨x1, hD⟩ ⟨rfl, c, hc, rfl⟩
          have hc' : (cl z)[i]? = some c := by rw [← hc, ← Array.getElem?_toList]
          have hf := filter_take (p := fun c => !digB c) hc'
          refine ⟨rfl, _, rfl, c, _, rfl, rfl, _, rfl, ?_⟩
          have e1 : (!decide (c ∈ (Str.ofString "0123456789").cps.toList)) = !digB c := by
            rw [Bool.eq_iff_iff]
            simp only [Bool.not_eq_true', decide_eq_false_iff_not, dig_mem, digB]
          rw [e1]
          cases hdg : digB c with
          | false =>
            rw [hdg, Bool.not_false, if_pos rfl] at hf
            refine iteT ⟨_, rfl, _, hD, ?_, same_upd x1 nD, ?_⟩
            · rw [List.length_map, List.length_map]
              have q : (((cl z).take i).filter fun c => !digB c).length ≤ ((cl z).take i).length := List.length_filter_le ..
              rw [List.length_take] at q
              have q2 : (cl z).length ≤ 10 := hlen
              omega
            · rw [upd_same, hf]
              simp [sV]
          | true =>
            rw [hdg, Bool.not_true, if_neg Bool.false_ne_true, List.append_nil] at hf
            refine iteF ⟨x1, ?_⟩
            rw [hf]
            exact hD
        · rintro H1 ⟨x1, hD⟩
          have hsz : z.cps.size = (cl z).length := len_cl z
          rw [hsz, List.take_of_length_le (Nat.le_refl _)] at hD
          refine ⟨small0, fun p np => ?_⟩
          have hD2 : (upd H1 p (.lst [])) D = some (.lst (sV (((cl z).filter fun c => !digB c).map fun c => ⟨#[c]⟩))) := by rw [upd_ne (ne_of_none hD np)]; exact hD
          refine ⟨.list _, .list [], .lst (SqL.of hD2) (dp_strs _), .lst (SqL.of upd_same) .nil, shaped_strs (fun y hy c hc => ?_), rfl, ?_⟩
          · obtain ⟨d, hd, rfl⟩ := List.mem_map.mp hy
            rw [cl_one] at hc
            rw [List.mem_singleton.mp hc]
            exact hsg d (List.mem_filter.mp hd).1
          · rw [eqv_nil]
            have e : decide (List.map PyData.str ((((cl z).filter fun c => !digB c)).map fun c => (⟨#[c]⟩ : Str)) = []) = figB z := by
              unfold figB
              rw [← hy, decide_eq_true he, Bool.true_and, Bool.eq_iff_iff, decide_eq_true_eq, List.map_eq_nil_iff, List.map_eq_nil_iff, List.filter_eq_nil_iff, List.all_eq_true]
              simp only [Bool.not_eq_true, Bool.not_eq_false', digB]
            rw [e]
            exact k _ (same_trans x1 (same_new np))
      · rw [decide_eq_false he]
        refine iteF ?_
        have e : figB z = false := by
          unfold figB
          rw [← hy, decide_eq_false he]
          rfl
        rw [← e]
        exact k _ same_refl
end
end TG
namespace TG
open PySem L2 Gx
def loB (rows : List (List Str)) (c : Nat) : Nat → Nat
  | 0 => 0
  | i + 1 => if clB rows c i = true then loB rows c i else i + 1
theorem lo_eq {rows : List (List Str)} {c i : Nat} : (loB rows c i = i) ↔ (i = 0 ∨ clB rows c (i - 1) = false) := by
  have le : ∀ j, loB rows c j ≤ j := by
    intro j
    induction j with
    | zero => exact Nat.le_refl _
    | succ j ih =>
      show (if clB rows c j = true then loB rows c j else j + 1) ≤ j + 1
      split
      · omega
      · omega
  cases i with
  | zero => exact ⟨fun _ => .inl rfl, fun _ => rfl⟩
  | succ i =>
    rw [Nat.add_sub_cancel]
    show (if clB rows c i = true then loB rows c i else i + 1) = i + 1 ↔ _
    have := le i
    by_cases h : clB rows c i = true
    · rw [if_pos h, h]
      constructor
      · intro q; omega
      · intro q
        rcases q with q | q
        · omega
        · cases q
    · rw [if_neg h]
      constructor
      · intro _; exact .inr (by cases q : clB rows c i with
          | true => exact absurd q h
          | false => rfl)
      · intro _; rfl
section
variable {P : Program} {w : World} {K : PySem.W.Frag} {mg : Str → Option Value} {base : Heap} {cs : List (Addr × Addr)}
def spMates (K : PySem.W.Frag) : Sp := fun vs H Q _ => ∃ (a : Addr) (as : List Addr) (rows : List (List Str)) (i c : Nat), vs = [.ref a, .int (i : Nat), .int (c : Nat)] ∧ PageAt K H a as rows ∧ i < rows.length ∧ rows.length ≤ 30 ∧
  ∀ p, H p = none → Q (.ref p) (upd H p (.tup [.int (loB rows c i : Nat), .int (hiB rows c (i + 1) : Nat)]))
abbrev nmMates : List Str := ["_law_page_here", "_law_number", "_law_column", "_law_begin", "_law_end"]
theorem sc_mates : FnScope nmMates ["_law_page_here", "_law_number", "_law_column"] (defScope s_mates) := ⟨rfl, rfl, rfl, by decide +kernel, rfl, by decide +kernel, by decide +kernel⟩
theorem ok_mates {f : Addr} {fd : FuncData} (T : Txt mg) (F : Fun K "_law_mates" "_law_mates" s_mates f fd) : FnOk P w K mg base CX0 1 f fd ["_law_page_here", "_law_number", "_law_column"] (spMates K) := by
  refine F.ok sc_mates (fun vs H Q E h => ?_) (fun cdv A outer s H vs Q E hr h => ?_)
  · obtain ⟨a, as, rows, i, c, rfl, _⟩ := h
    rfl
  · obtain ⟨a, as, rows, i, c, rfl, hP, hi, hn, k⟩ := h
    have nd := sc_mates.nd
    refine ⟨_, pss_cons (ps_par (i := 3) (j := 4) rfl nd rfl rfl (by decide) rfl rfl (pa_cons (pv 1) (pa_cons (pe_op op_add (pv 1) pe_int) pa_nil)) (by rfl))
      (pss_cons (ps_while PassesOwn.never (PW.pt (pw_and (pt_cmpR op_gt (pv 3) pe_int (nomark _)) (pw_and1 (pt_cmpR op_gt (pe_callB call_len_seq (by rfl) T.len PySem.boot_len (pa_cons (pe_ix ix_list (pv 0) (pe_op op_sub (pv 3) pe_int) (fun _ _ => rfl)) pa_nil)) (pe_op op_add (pv 2) pe_int) (nomark _)))))
        (pss_one (ps_set (i := 3) nd rfl (.inl rfl) (pe_op op_sub (pv 3) pe_int))))
      (pss_cons (ps_while PassesOwn.never (PW.pt (pw_and (pt_cmpR op_lt (pv 4) (pe_callB call_len_seq (by rfl) T.len PySem.boot_len (pa_cons (pv 0) pa_nil)) (nomark _)) (pw_and1 (pt_cmpR op_gt (pe_callB call_len_seq (by rfl) T.len PySem.boot_len (pa_cons (pe_ix ix_list (pv 0) (pv 4) (fun _ _ => rfl)) pa_nil)) (pe_op op_add (pv 2) pe_int) (nomark _)))))
        (pss_one (ps_set (i := 4) nd rfl (.inl rfl) (pe_op op_add (pv 4) pe_int))))
      (pss_one (ps_ret (pe_tup (pa_cons (pv 3) (pa_cons (pv 4) pa_nil))))))), ?_⟩
    have las : (as.map V.ref).length = rows.length := by rw [List.length_map, hP.len]
    have rowAt : ∀ j, j < rows.length → ∃ q r, as[j]? = some q ∧ rows[j]? = some r ∧ SqT K H q (sV r) ∧ clB rows c j = decide (c + 1 < r.length) := fun j hj => by
      obtain ⟨q, hq⟩ := getP (xs := as) (i := j) (by rw [hP.len]; exact hj)
      obtain ⟨r, hr2⟩ := getP hj
      exact ⟨q, r, hq, hr2, hP.row j q r hq hr2, by unfold clB; rw [hr2]⟩
    have gt1 : ∀ r : List Str, decide (((c : Nat) : Int) + 1 < (((sV r).length : Nat) : Int)) = decide (c + 1 < r.length) := fun r => by
      rw [List.length_map]
      by_cases h : c + 1 < r.length
      · rw [decide_eq_true h, decide_eq_true (by omega)]
      · rw [decide_eq_false h, decide_eq_false (by omega)]
    refine ⟨_, rfl, _, rfl, i, 1, rfl, rfl, _, _, rfl, ?_⟩
    let Down : Nat → L2.St → Hp → Prop := fun m σ H1 => ∃ b : Nat, σ = [some (.ref a), some (.int (i : Nat)), some (.int (c : Nat)), some (.int (b : Nat)), some (.int ((i : Nat) + 1))] ∧ m = b ∧ b ≤ i ∧ loB rows c b = loB rows c i ∧ H1 = H
    refine ⟨Down, ⟨_, i, rfl, rfl, Nat.le_refl _, rfl, rfl⟩, ?_⟩
    rintro m σ H1 ⟨b, rfl, rfl, hb, hlo, rfl⟩
    refine ⟨_, rfl, m, 0, rfl, rfl, _, rfl, ?_⟩
    cases m with
    | zero =>
      rw [decide_eq_false (show ¬ (0 : Int) < ((0 : Nat) : Int) by omega)]
      refine iteF (iteF ?_)
      have hm : loB rows c i = 0 := hlo.symm
      let Up : Nat → L2.St → Hp → Prop := fun n σ H2 => ∃ e : Nat, σ = [some (.ref a), some (.int (i : Nat)), some (.int (c : Nat)), some (.int ((0 : Nat) : Int)), some (.int (e : Nat))] ∧ n = rows.length - e ∧ e ≤ rows.length ∧ hiB rows c e = hiB rows c (i + 1) ∧ H2 = H1
      refine ⟨Up, ⟨_, i + 1, rfl, rfl, by omega, rfl, rfl⟩, ?_⟩
      rintro n σ H2 ⟨e, rfl, rfl, he, hhi, rfl⟩
      refine ⟨_, rfl, _, rfl, a, _, rfl, .inl hP.lst, _, _, rfl, rfl, _, rfl, ?_⟩
      by_cases hlt : e < rows.length
      · obtain ⟨q, r, hq, hr2, hS, hc⟩ := rowAt e hlt
        rw [decide_eq_true (show (e : Int) < ((as.map V.ref).length : Int) by omega)]
        refine iteT ⟨_, rfl, _, rfl, a, _, e, .ref q, rfl, rfl, hP.lst, atI_nat (by rw [List.getElem?_map, hq]; rfl), q, _, rfl, .inr hS, _, rfl, c, 1, rfl, rfl, _, _, rfl, rfl, _, rfl, ?_⟩
        rw [gt1, ← hc]
        cases hcl : clB rows c e with
        | true => exact iteT ⟨Up (rows.length - (e + 1)), fun σ' H' o => ⟨_, by omega, o⟩, _, rfl, e, 1, rfl, rfl, e + 1, rfl, rfl, by omega, by rw [← hi_yes hcl]; exact hhi, rfl⟩
        | false =>
          refine iteF ⟨_, rfl, _, rfl, line10 (by show 2 ≤ 1000; decide), fun p np => ?_⟩
          have := k p np
          rw [hm, ← hhi, hi_no hcl] at this
          exact this
      · rw [decide_eq_false (show ¬ (e : Int) < ((as.map V.ref).length : Int) by omega)]
        refine iteF (iteF ⟨_, rfl, _, rfl, line10 (by show 2 ≤ 1000; decide), fun p np => ?_⟩)
        have hcl : clB rows c e = false := by
          cases q : clB rows c e with
          | true => exact absurd (cl_lt q) hlt
          | false => rfl
        have := k p np
        rw [hm, ← hhi, hi_no hcl] at this
        exact this
    | succ m0 =>
      have e0 : (((m0 + 1 : Nat) : Nat) : Int) - 1 = (m0 : Int) := by omega
      obtain ⟨q0, r0, hq0, hr0, hS0, hc0⟩ := rowAt m0 (by omega)
      rw [decide_eq_true (show (0 : Int) < ((m0 + 1 : Nat) : Int) by omega)]
      refine iteT ⟨_, rfl, _, rfl, _, 1, rfl, rfl, a, _, _, .ref q0, rfl, rfl, hP.lst, by rw [e0]; exact atI_nat (by rw [List.getElem?_map, hq0]; rfl), q0, _, rfl, .inr hS0, _, rfl, c, 1, rfl, rfl, _, _, rfl, rfl, _, rfl, ?_⟩
      rw [gt1, ← hc0]
      cases hcl0 : clB rows c m0 with
      | true =>
        refine iteT ⟨Down m0, fun σ' H' o => ⟨_, Nat.lt_succ_self m0, o⟩, _, rfl, _, 1, rfl, rfl, m0, by show [some (V.ref a), some (V.int (i : Nat)), some (V.int (c : Nat)), some (V.int (((m0 + 1 : Nat) : Int) - 1)), some (V.int ((i : Nat) + 1))] = _; rw [e0], rfl, by omega, ?_, rfl⟩
        have : loB rows c (m0 + 1) = loB rows c m0 := if_pos hcl0
        rw [← this]; exact hlo
      | false =>
        refine iteF ?_
        have hm : loB rows c i = m0 + 1 := by
          rw [← hlo]
          exact if_neg (by rw [hcl0]; exact Bool.false_ne_true)
        let Up : Nat → L2.St → Hp → Prop := fun n σ H2 => ∃ e : Nat, σ = [some (.ref a), some (.int (i : Nat)), some (.int (c : Nat)), some (.int ((m0 + 1 : Nat) : Int)), some (.int (e : Nat))] ∧ n = rows.length - e ∧ e ≤ rows.length ∧ hiB rows c e = hiB rows c (i + 1) ∧ H2 = H1
        refine ⟨Up, ⟨_, i + 1, rfl, rfl, by omega, rfl, rfl⟩, ?_⟩
        rintro n σ H2 ⟨e, rfl, rfl, he, hhi, rfl⟩
        refine ⟨_, rfl, _, rfl, a, _, rfl, .inl hP.lst, _, _, rfl, rfl, _, rfl, ?_⟩
        by_cases hlt : e < rows.length
        · obtain ⟨q, r, hq, hr2, hS, hc⟩ := rowAt e hlt
          rw [decide_eq_true (show (e : Int) < ((as.map V.ref).length : Int) by omega)]
          refine iteT ⟨_, rfl, _, rfl, a, _, e, .ref q, rfl, rfl, hP.lst, atI_nat (by rw [List.getElem?_map, hq]; rfl), q, _, rfl, .inr hS, _, rfl, c, 1, rfl, rfl, _, _, rfl, rfl, _, rfl, ?_⟩
          rw [gt1, ← hc]
          cases hcl : clB rows c e with
          | true => exact iteT ⟨Up (rows.length - (e + 1)), fun σ' H' o => ⟨_, by omega, o⟩, _, rfl, e, 1, rfl, rfl, e + 1, rfl, rfl, by omega, by rw [← hi_yes hcl]; exact hhi, rfl⟩
          | false =>
            refine iteF ⟨_, rfl, _, rfl, line10 (by show 2 ≤ 1000; decide), fun p np => ?_⟩
            have := k p np
            rw [hm, ← hhi, hi_no hcl] at this
            exact this
        · rw [decide_eq_false (show ¬ (e : Int) < ((as.map V.ref).length : Int) by omega)]
          refine iteF (iteF ⟨_, rfl, _, rfl, line10 (by show 2 ≤ 1000; decide), fun p np => ?_⟩)
          have hcl : clB rows c e = false := by
            cases q : clB rows c e with
            | true => exact absurd (cl_lt q) hlt
            | false => rfl
          have := k p np
          rw [hm, ← hhi, hi_no hcl] at this
          exact this
end
end TG
namespace TG
open PySem L2 Gx
theorem at1 {α : Type} {v u : α} {xs : List α} : atI (v :: u :: xs) 1 = some u := atI_nat (j := 1) rfl
/-- a cell of a row that is closed there -/
theorem cell_at {rows : List (List Str)} {c j : Nat} {r : List Str} (hr : rows[j]? = some r) (h : clB rows c j = true) : (sV r)[c]? = some (V.str (r.getD c nilS)) := by
  unfold clB at h
  rw [hr] at h
  have : c + 1 < r.length := of_decide_eq_true h
  rw [List.getElem?_map, List.getD_eq_getElem?_getD, List.getElem?_eq_getElem (by omega)]
  rfl
theorem st_cl {rows : List (List Str)} {c i : Nat} (h : stB rows c i = true) : clB rows c i = true ∧ loB rows c i = i ∧ hiB rows c (i + 1) = hiB rows c i ∧ i < hiB rows c i ∧ hiB rows c i ≤ rows.length ∧ ∀ j, i ≤ j → j < hiB rows c i → clB rows c j = true := by
  unfold stB at h
  obtain ⟨h1, h2⟩ := Bool.and_eq_true_iff.mp h
  refine ⟨h1, lo_eq.mpr ?_, (hi_yes h1).symm, ?_, hi_le (Nat.le_of_lt (cl_lt h1)), fun j h3 h4 => hi_in (j - i) i j (by omega) h4⟩
  · rcases Bool.or_eq_true_iff.mp h2 with q | q
    · exact .inl (of_decide_eq_true q)
    · exact .inr (by simpa using q)
  · rw [hi_yes h1]; exact hi_ge rows c (i + 1)
theorem widthB_of {zs : List Str} {gap least m : Int} (hm : m ∈ least :: zs.map fun z => ((z.length : Nat) : Int) + gap) (hle : ∀ x ∈ least :: zs.map (fun z => ((z.length : Nat) : Int) + gap), x ≤ m) (hz : zs ≠ []) : m = widthB zs gap least := by
  have h1 := hle least List.mem_cons_self
  obtain ⟨z, hz1, hz2⟩ := long_in hz
  have h2 := hle (((z.length : Nat) : Int) + gap) (List.mem_cons_of_mem _ (List.mem_map.mpr ⟨z, hz1, rfl⟩))
  unfold widthB
  rcases List.mem_cons.mp hm with e | e
  · subst e
    split <;> omega
  · obtain ⟨y, hy, e⟩ := List.mem_map.mp e
    have h3 := long_ge hy
    split <;> omega
end TG
namespace TG
open PySem L2 Gx
theorem lo_le (rows : List (List Str)) (c : Nat) : ∀ i, loB rows c i ≤ i
  | 0 => Nat.le_refl _
  | i + 1 => by
    show (if clB rows c i = true then loB rows c i else i + 1) ≤ i + 1
    have := lo_le rows c i
    split <;> omega
theorem lo_in {rows : List (List Str)} {c : Nat} : ∀ {i j : Nat}, loB rows c i ≤ j → j < i → clB rows c j = true
  | 0, j, _, h => absurd h (Nat.not_lt_zero _)
  | i + 1, j, h1, h2 => by
    have h1 : (if clB rows c i = true then loB rows c i else i + 1) ≤ j := h1
    split at h1
    · rename_i q
      by_cases e : j = i
      · rw [e]; exact q
      · exact lo_in h1 (by omega)
    · omega
theorem st_lo {rows : List (List Str)} {c i : Nat} (h : clB rows c i = true) : stB rows c (loB rows c i) = true := by
  have h1 := lo_le rows c i
  have h2 : clB rows c (loB rows c i) = true := by
    by_cases e : loB rows c i = i
    · rw [e]; exact h
    · exact lo_in (Nat.le_refl _) (by omega)
  unfold stB
  rw [h2, Bool.true_and]
  have h3 : loB rows c i = 0 ∨ clB rows c (loB rows c i - 1) = false := by
    clear h h2 h1
    induction i with
    | zero => exact .inl rfl
    | succ i ih =>
      show (if clB rows c i = true then loB rows c i else i + 1) = 0 ∨ clB rows c ((if clB rows c i = true then loB rows c i else i + 1) - 1) = false
      by_cases q : clB rows c i = true
      · rw [if_pos q]; exact ih
      · rw [if_neg q, Nat.add_sub_cancel]
        exact .inr (by simpa using q)
  rcases h3 with q | q
  · rw [decide_eq_true q, Bool.true_or]
  · rw [q, Bool.not_false, Bool.or_true]
theorem hi_down {rows : List (List Str)} {c x : Nat} : ∀ {d : Nat}, (∀ j, x ≤ j → j < x + d → clB rows c j = true) → hiB rows c x = hiB rows c (x + d)
  | 0, _ => rfl
  | d + 1, h => by
    rw [hi_down (d := d) fun j h1 h2 => h j h1 (by omega), hi_yes (h (x + d) (by omega) (by omega)), Nat.add_assoc]
theorem hi_lo (rows : List (List Str)) (c i : Nat) : hiB rows c (loB rows c i) = hiB rows c i := by
  have h := lo_le rows c i
  obtain ⟨d, hd⟩ := Nat.exists_eq_add_of_le h
  have := hi_down (rows := rows) (c := c) (x := loB rows c i) (d := d) fun j h1 h2 => lo_in h1 (by omega)
  rw [this, ← hd]
theorem lo_same {rows : List (List Str)} {c x : Nat} (h : stB rows c x = true) : ∀ {d : Nat}, x + d < hiB rows c x → loB rows c (x + d) = x
  | 0, _ => (st_cl h).2.1
  | d + 1, hd => by
    show (if clB rows c (x + d) = true then loB rows c (x + d) else x + d + 1) = x
    rw [if_pos ((st_cl h).2.2.2.2.2 (x + d) (by omega) (by omega))]
    exact lo_same h (by omega)
/-- a closed cell's stretch -/
theorem cl_run {rows : List (List Str)} {c i : Nat} (h : clB rows c i = true) : loB rows c i ≤ i ∧ i < hiB rows c i ∧ hiB rows c (i + 1) = hiB rows c i ∧ hiB rows c i ≤ rows.length ∧ ∀ j, loB rows c i ≤ j → j < hiB rows c i → clB rows c j = true := by
  obtain ⟨_, _, _, _, h2, h3⟩ := st_cl (st_lo h)
  rw [hi_lo] at h2 h3
  refine ⟨lo_le rows c i, ?_, (hi_yes h).symm, h2, h3⟩
  rw [hi_yes h]
  exact hi_ge rows c (i + 1)
abbrev covB (i : Nat) (q : Nat × Nat × Nat) : Bool := decide (q.2.1 ≤ i ∧ i < q.2.2)
theorem filter_one {p : Nat → Bool} {a : Nat} (h : ∀ x, p x = decide (x = a)) : ∀ n, (List.range n).filter p = if a < n then [a] else [] := by
  intro n
  induction n with
  | zero => simp
  | succ n ih =>
    rw [List.range_succ, List.filter_append, ih]
    by_cases e : n = a
    · subst e
      rw [if_neg (Nat.lt_irrefl _), if_pos (Nat.lt_succ_self _), List.filter_cons_of_pos (by rw [h]; exact decide_eq_true rfl)]
      rfl
    · rw [List.filter_cons_of_neg (by rw [h, decide_eq_false e]; exact Bool.false_ne_true), List.filter_nil, List.append_nil]
      by_cases q : a < n
      · rw [if_pos q, if_pos (by omega)]
      · rw [if_neg q, if_neg (by omega)]
theorem col_cov (rows : List (List Str)) (c i : Nat) : (ofCol rows c).filter (covB i) = if clB rows c i = true then [(c, loB rows c i, hiB rows c i)] else [] := by
  unfold ofCol runsB
  rw [List.map_map, List.filter_map]
  rw [List.filter_filter]
  by_cases h : clB rows c i = true
  · rw [if_pos h]
    have hp : ∀ x, (((covB i) ∘ ((fun p : Nat × Nat => (c, p.1, p.2)) ∘ fun i => (i, hiB rows c i))) x && stB rows c x) = decide (x = loB rows c i) := fun x => by
      rw [Bool.eq_iff_iff, Bool.and_eq_true, decide_eq_true_eq]
      constructor
      · rintro ⟨h1, h2⟩
        obtain ⟨h3, h4⟩ := of_decide_eq_true h1
        have h3 : x ≤ i := h3
        have h4 : i < hiB rows c x := h4
        obtain ⟨d, hd⟩ := Nat.exists_eq_add_of_le h3
        rw [hd]
        exact (lo_same h2 (by omega)).symm
      · intro e
        subst e
        obtain ⟨h1, h2, _⟩ := cl_run h
        refine ⟨decide_eq_true ⟨h1, ?_⟩, st_lo h⟩
        show i < hiB rows c (loB rows c i)
        rw [hi_lo]; exact h2
    rw [filter_one hp, if_pos (Nat.lt_of_le_of_lt (lo_le rows c i) (cl_lt h))]
    show [(c, loB rows c i, hiB rows c (loB rows c i))] = _
    rw [hi_lo]
  · rw [if_neg h]
    have : List.filter (fun x => ((covB i) ∘ ((fun p : Nat × Nat => (c, p.1, p.2)) ∘ fun i => (i, hiB rows c i))) x && stB rows c x) (List.range rows.length) = [] := by
      refine List.filter_eq_nil_iff.mpr fun x _ q => ?_
      obtain ⟨h1, h2⟩ := Bool.and_eq_true_iff.mp q
      obtain ⟨h3, h4⟩ := of_decide_eq_true h1
      have h3 : x ≤ i := h3
      have h4 : i < hiB rows c x := h4
      exact h ((st_cl h2).2.2.2.2.2 i h3 h4)
    rw [this]
    rfl
/-- how many cells of row i are closed -/
def ncl (rows : List (List Str)) (i : Nat) : Nat := match rows[i]? with
  | some r => r.length - 1
  | none => 0
theorem cl_ncl (rows : List (List Str)) (c i : Nat) : clB rows c i = decide (c < ncl rows i) := by
  unfold clB ncl
  cases rows[i]? with
  | none => exact (decide_eq_false (Nat.not_lt_zero _)).symm
  | some r =>
    show decide (c + 1 < r.length) = decide (c < r.length - 1)
    exact decide_eq_decide.mpr (by omega)
def entOf (rows : List (List Str)) (i c : Nat) : Nat × Nat × Nat := (c, loB rows c i, hiB rows c i)
theorem flat_if {α : Type} {f : Nat → α} {m : Nat} : ∀ d, (List.range d).flatMap (fun c => if c < m then [f c] else []) = (List.range (min d m)).map f := by
  intro d
  induction d with
  | zero => simp
  | succ d ih =>
    rw [List.range_succ, List.flatMap_append, ih, List.flatMap_cons, List.flatMap_nil, List.append_nil]
    by_cases h : d < m
    · rw [if_pos h, Nat.min_eq_left (by omega), Nat.min_eq_left (by omega), List.range_succ, List.map_append]
      rfl
    · rw [if_neg h, List.append_nil, Nat.min_eq_right (by omega), Nat.min_eq_right (by omega)]
theorem ncl_le {rows : List (List Str)} (hO : PgOk rows) (i : Nat) : ncl rows i ≤ 5 := by
  unfold ncl
  cases q : rows[i]? with
  | none => exact Nat.zero_le _
  | some r =>
    have := (hO.rows r (List.mem_of_getElem? q)).len
    show r.length - 1 ≤ 5
    omega
/-- the entries that hold row i, in turn -/
theorem ent_cov {rows : List (List Str)} (hO : PgOk rows) (i : Nat) : (entB rows).filter (covB i) = (List.range (ncl rows i)).map (entOf rows i) := by
  unfold entB
  rw [List.filter_flatMap]
  have e : (fun c => (ofCol rows c).filter (covB i)) = fun c => if c < ncl rows i then [entOf rows i c] else [] := by
    funext c
    rw [col_cov, cl_ncl]
    by_cases h : c < ncl rows i
    · rw [if_pos (decide_eq_true h), if_pos h]; rfl
    · rw [if_neg (by rw [decide_eq_false h]; exact Bool.false_ne_true), if_neg h]
  rw [e, flat_if, Nat.min_eq_right (ncl_le hO i)]
def cntB (rows : List (List Str)) (j i : Nat) : Nat := (((entB rows).take j).filter (covB i)).length
theorem cnt_all {rows : List (List Str)} (hO : PgOk rows) (i : Nat) : cntB rows (entB rows).length i = ncl rows i := by
  unfold cntB
  rw [List.take_of_length_le (Nat.le_refl _), ent_cov hO, List.length_map, List.length_range]
theorem cnt_no {rows : List (List Str)} {j i : Nat} {q : Nat × Nat × Nat} (hq : (entB rows)[j]? = some q) (h : covB i q = false) : cntB rows (j + 1) i = cntB rows j i := by
  unfold cntB
  rw [List.take_add_one, hq, List.filter_append]
  have : List.filter (covB i) (some q).toList = [] := by
    show List.filter (covB i) [q] = []
    rw [List.filter_cons_of_neg (by rw [h]; exact Bool.false_ne_true)]
    rfl
  rw [this, List.append_nil]
theorem cnt_yes {rows : List (List Str)} (hO : PgOk rows) {j i : Nat} {q : Nat × Nat × Nat} (hq : (entB rows)[j]? = some q) (h : covB i q = true) : cntB rows (j + 1) i = cntB rows j i + 1 ∧ q = entOf rows i (cntB rows j i) ∧ cntB rows j i < ncl rows i := by
  have e1 : ((entB rows).take (j + 1)).filter (covB i) = ((entB rows).take j).filter (covB i) ++ [q] := by
    rw [List.take_add_one, hq, List.filter_append]
    congr 1
    show List.filter (covB i) [q] = [q]
    rw [List.filter_cons_of_pos h]
    rfl
  have e2 : (entB rows).filter (covB i) = (((entB rows).take j).filter (covB i) ++ [q]) ++ ((entB rows).drop (j + 1)).filter (covB i) := by
    rw [← e1, ← List.filter_append, List.take_append_drop]
  have e3 : ((entB rows).filter (covB i))[cntB rows j i]? = some q := by
    rw [e2, List.append_assoc]
    have e4 : cntB rows j i = (List.filter (covB i) (List.take j (entB rows))).length := rfl
    rw [e4, List.getElem?_append_right (Nat.le_refl _), Nat.sub_self]
    rfl
  rw [ent_cov hO, List.getElem?_map] at e3
  refine ⟨by unfold cntB; rw [e1, List.length_append]; rfl, ?_⟩
  by_cases hl : cntB rows j i < ncl rows i
  · rw [List.getElem?_eq_getElem (by rw [List.length_range]; exact hl), List.getElem_range] at e3
    exact ⟨(Option.some.inj e3).symm, hl⟩
  · rw [List.getElem?_eq_none (by rw [List.length_range]; omega)] at e3
    cases e3
def wB (rows : List (List Str)) (gap least : Int) (i c : Nat) : Int := widthB (cellsB rows c (loB rows c i) (hiB rows c i)) gap least
def rB (rows : List (List Str)) (i c : Nat) : Bool := rightB (cellsB rows c (loB rows c i) (hiB rows c i))
def leftB (rows : List (List Str)) (gap least : Int) (i : Nat) : Nat → Int
  | 0 => 0
  | c + 1 => leftB rows gap least i c + wB rows gap least i c
def leftsB (rows : List (List Str)) (gap least : Int) (i n : Nat) : List Int := (List.range (n + 1)).map (leftB rows gap least i)
theorem lefts_snoc (rows : List (List Str)) (gap least : Int) (i n : Nat) : leftsB rows gap least i (n + 1) = leftsB rows gap least i n ++ [leftB rows gap least i n + wB rows gap least i n] := by
  unfold leftsB
  rw [List.range_succ (n := n + 1), List.map_append]
  rfl
theorem lefts_len (rows : List (List Str)) (gap least : Int) (i n : Nat) : (leftsB rows gap least i n).length = n + 1 := by
  unfold leftsB
  rw [List.length_map, List.length_range]
theorem lefts_get {rows : List (List Str)} {gap least : Int} {i n c : Nat} (h : c ≤ n) : (leftsB rows gap least i n)[c]? = some (leftB rows gap least i c) := by
  unfold leftsB
  rw [List.getElem?_map, List.getElem?_range (by omega)]
  rfl
end TG
namespace TG
open PySem L2 Gx
section
variable {P : Program} {w : World} {K : PySem.W.Frag} {mg : Str → Option Value} {base : Heap} {cs : List (Addr × Addr)}
def spWide (K : PySem.W.Frag) : Sp := fun vs H Q _ => ∃ (a st : Addr) (as : List Addr) (rows : List (List Str)) (gap least : Int) (i c : Nat), vs = [.ref a, .ref st, .int (i : Nat), .int (c : Nat)] ∧ PageAt K H a as rows ∧ PgOk rows ∧ StyleAt K H st gap least ∧ clB rows c i = true ∧
  ∀ H', Same H H' → Q (.int (wB rows gap least i c)) H'
abbrev nmWide : List Str := ["_law_page_here", "_law_style_here", "_law_number", "_law_column", "_law_begin", "_law_end", "_law_k"]
theorem sc_wide : FnScope nmWide ["_law_page_here", "_law_style_here", "_law_number", "_law_column"] (defScope s_wide) := ⟨rfl, rfl, rfl, by decide +kernel, rfl, by decide +kernel, by decide +kernel⟩
theorem ok_wide {f g : Addr} {fd fdg : FuncData} (T : Txt mg) (F : Fun K "_law_wide" "_law_wide" s_wide f fd)
    (G : FnOk P w K mg base CX0 1 g fdg ["_law_page_here", "_law_number", "_law_column"] (spMates K)) (kp : PySem.W.keepIn K (.ref g) = true) (bd : Binds K fdg ["_law_page_here", "_law_number", "_law_column"] []) (mgg : mg "_law_mates" = some (.ref g)) :
    FnOk P w K mg base CX0 2 f fd ["_law_page_here", "_law_style_here", "_law_number", "_law_column"] (spWide K) := by
  refine F.ok sc_wide (fun vs H Q E h => ?_) (fun cdv A outer s H vs Q E hr h => ?_)
  · obtain ⟨a, st, as, rows, gap, least, i, c, rfl, _⟩ := h
    rfl
  · obtain ⟨a, st, as, rows, gap, least, i, c, rfl, hP, hO, hS, hst, k⟩ := h
    have nd := sc_wide.nd
    refine ⟨_, pss_cons (ps_asg (pe_call G hr (by rfl) mgg kp bd .nil pass0 (pa_cons (pv 0) (pa_cons (pv 2) (pa_cons (pv 3) pa_nil)))) (pg_tup rfl (pgs_cons (pg_name (i := 4) nd rfl (.inl rfl)) (pgs_cons (pg_name (i := 5) nd rfl (.inl rfl)) pgs_nil))))
      (pss_one (ps_ret (pe_callB (cr_max rfl) (by rfl) T.max (by decide +kernel) (pa_cons (pe_op op_cat (pe_lst (pa_cons (pe_ix ix_tup (pv 1) pe_int (fun _ _ => rfl)) pa_nil))
        (pe_lc (own := [("_law_k", 6)]) (g := gName 6) (tt := tYes) rfl nd (pi_range2 (by rfl) T.range (pa_cons (pv 4) (pa_cons (pv 5) pa_nil))) (blkOk_by (own := [("_law_k", 6)]) (N := nmWide) (sc := defScope s_wide) (by decide +kernel))
          (fun _ _ _ _ _ => pg_name (i := 6) nd rfl (Or.inl rfl)) (fun _ _ _ _ _ => pts_nil) (fun s1 H1 C1 cl1 fp1 => pe_op op_add (pe_callB call_len_str (by rfl) T.len PySem.boot_len (pa_cons (pe_ix (r := rIxT K) ix_tup (pe_ix (r := rIxL K) ix_list (pv 0) (pv 6) (fun _ _ => rfl)) (pv 3) (fun _ _ => rfl)) pa_nil)) (pe_ix (r := rIxT K) ix_tup (pv 1) pe_int (fun _ _ => rfl))))) pa_nil)))), ?_⟩
    obtain ⟨hlo, hlt0, hhi, hle, hin⟩ := cl_run hst
    have hlt : loB rows c i < hiB rows c i := by omega
    unfold wB at k
    have ll := hO.len
    have szl : (1000 : Nat) < sizeLine := by decide
    have lcs := cells_len (c := c) (b := loB rows c i) hle
    refine ⟨_, rfl, _, rfl, _, rfl, a, as, rows, i, c, rfl, hP, cl_lt hst, ll, fun p np => ⟨p, _, rfl, .inl (.inl upd_same), rfl, _, _, rfl, _, _, rfl, rfl, ?_⟩⟩
    rw [hhi]
    have hei : hiB rows c i ≤ rows.length := hle
    clear hlt0 hlo hhi hst
    generalize loB rows c i = bb at *
    generalize hiB rows c i = ee at *
    have x1 : Same H (upd H p (.tup [.int (bb : Nat), .int (ee : Nat)])) := same_new np
    generalize upd H p (.tup [.int (bb : Nat), .int (ee : Nat)]) = H1 at x1 ⊢
    refine ⟨_, rfl, st, _, 1, .int least, rfl, rfl, same_sqT x1 hS.tup, at1, line10 (by show 1 ≤ 1000; decide), fun p1 np1 => ?_⟩
    have x2 : Same H (upd H1 p1 (.lst [.int least])) := same_trans x1 (same_new np1)
    have np10 := same_old x1 np1
    refine ⟨_, rfl, _, rfl, (bb : Int), (ee : Int), rfl, by omega, fun D nD => lc_range (lo := (bb : Int)) (n := ((ee : Int) - (bb : Int)).toNat) (fun j H' => Same H H' ∧ H' p1 = some (.lst [.int least]) ∧ H' D = some (.lst ((((cellsB rows c bb (ee)).take j).map fun z => ((z.length : Nat) : Int) + gap).map V.int))) ?_ ?_ ?_⟩
    · exact ⟨same_trans x2 (same_new nD), by rw [upd_ne (fun z => by rw [← z, upd_same] at nD; cases nD), upd_same], upd_same⟩
    · rintro j H2 hj ⟨x3, hp1, hD⟩
      have hjl : bb + j < ee := by omega
      obtain ⟨q, hq⟩ := getP (xs := as) (i := bb + j) (by rw [hP.len]; omega)
      obtain ⟨r, hr2⟩ := getP (xs := rows) (i := bb + j) (by omega)
      have hz := cell_at hr2 (hin (bb + j) (by omega) hjl)
      have hcg := cells_get (c := c) (b := bb) (i := j) hjl hr2
      have zl := (cells_mem hO hin hle (List.mem_of_getElem? hcg)).len
      have nD0 := same_old x2 nD
      refine ⟨rfl, _, rfl, _, rfl, a, _, ((bb + j : Nat) : Int), .ref q, rfl, rfl, same_sqL x3 hP.lst, atI_nat (by rw [List.getElem?_map, hq]; rfl), _, rfl, q, _, c, _, rfl, rfl, same_sqT x3 (hP.row _ q r hq hr2), atI_nat hz, _, rfl, line10 (by omega), _, rfl, st, _, 0, .int gap, rfl, rfl, same_sqT x3 hS.tup, at0, _, _, rfl, rfl, _, hD, ?_, same_upd x3 nD0, ?_, ?_⟩
      · rw [List.length_map, List.length_map, List.length_take]; omega
      · rw [upd_ne (fun z => by rw [← z, upd_same] at nD; cases nD)]; exact hp1
      · rw [upd_same, List.take_add_one, hcg]
        simp
    · rintro H2 ⟨x3, hp1, hD⟩
      have en : ((ee : Int) - (bb : Int)).toNat = (cellsB rows c bb (ee)).length := by omega
      rw [en, List.take_of_length_le (Nat.le_refl _)] at hD
      have ne : cellsB rows c bb (ee) ≠ [] := fun z => by rw [z] at lcs; simp at lcs; omega
      refine ⟨p1, D, _, _, rfl, rfl, hp1, hD, ?_, fun p2 np2 => ⟨p2, least :: (cellsB rows c bb (ee)).map (fun z => ((z.length : Nat) : Int) + gap), rfl, SqL.of upd_same, Nat.succ_pos _, fun m hm hx => ?_⟩⟩
      · rw [List.length_map, List.length_map, List.length_singleton]; omega
      · rw [widthB_of hm hx ne]
        exact k _ (same_trans x3 (same_new np2))
def spTurned (K : PySem.W.Frag) : Sp := fun vs H Q _ => ∃ (a : Addr) (as : List Addr) (rows : List (List Str)) (i c : Nat), vs = [.ref a, .int (i : Nat), .int (c : Nat)] ∧ PageAt K H a as rows ∧ PgOk rows ∧ clB rows c i = true ∧
  ∀ H', Same H H' → Q (.bl (rB rows i c)) H'
abbrev nmTurned : List Str := ["_law_page_here", "_law_number", "_law_column", "_law_begin", "_law_end", "_law_some", "_law_k", "_law_cell_here"]
theorem sc_turned : FnScope nmTurned ["_law_page_here", "_law_number", "_law_column"] (defScope s_turned) := ⟨rfl, rfl, rfl, by decide +kernel, rfl, by decide +kernel, by decide +kernel⟩
theorem ok_turned {f g g2 : Addr} {fd fdg fd2 : FuncData} (T : Txt mg) (F : Fun K "_law_turned" "_law_turned" s_turned f fd)
    (G : FnOk P w K mg base CX0 1 g fdg ["_law_page_here", "_law_number", "_law_column"] (spMates K)) (kp : PySem.W.keepIn K (.ref g) = true) (bd : Binds K fdg ["_law_page_here", "_law_number", "_law_column"] []) (mgg : mg "_law_mates" = some (.ref g))
    (G2 : FnOk P w K mg base CX0 1 g2 fd2 ["_law_cell_here"] spFigL) (kp2 : PySem.W.keepIn K (.ref g2) = true) (bd2 : Binds K fd2 ["_law_cell_here"] []) (mg2 : mg "_law_figures" = some (.ref g2)) :
    FnOk P w K mg base CX0 2 f fd ["_law_page_here", "_law_number", "_law_column"] (spTurned K) := by
  refine F.ok sc_turned (fun vs H Q E h => ?_) (fun cdv A outer s H vs Q E hr h => ?_)
  · obtain ⟨a, as, rows, i, c, rfl, _⟩ := h
    rfl
  · obtain ⟨a, as, rows, i, c, rfl, hP, hO, hst, k⟩ := h
    have nd := sc_turned.nd
    refine ⟨_, pss_cons (ps_asg (pe_call G hr (by rfl) mgg kp bd .nil pass0 (pa_cons (pv 0) (pa_cons (pv 1) (pa_cons (pv 2) pa_nil)))) (pg_tup rfl (pgs_cons (pg_name (i := 3) nd rfl (.inl rfl)) (pgs_cons (pg_name (i := 4) nd rfl (.inl rfl)) pgs_nil))))
      (pss_cons (ps_setLc (i := 5) (own := [("_law_k", 6)]) (g := gName 6) rfl nd rfl rfl (sw_true rfl rfl rfl (by decide +kernel)) (pi_range2 (by rfl) T.range (pa_cons (pv 3) (pa_cons (pv 4) pa_nil))) (blkOk_by (own := [("_law_k", 6)]) (N := nmTurned) (sc := defScope s_turned) (by decide +kernel))
          (fun _ _ _ _ _ => pg_name (i := 6) nd rfl (Or.inl rfl)) (fun _ _ _ _ _ => pts_one (pt_cmpR op_ne (pe_ix (r := rIxT K) ix_tup (pe_ix (r := rIxL K) ix_list (pv 0) (pv 6) (fun _ _ => rfl)) (pv 2) (fun _ _ => rfl)) pe_str (nomark _))) (fun s1 H1 C1 cl1 fp1 => pe_ix (r := rIxT K) ix_tup (pe_ix (r := rIxL K) ix_list (pv 0) (pv 6) (fun _ _ => rfl)) (pv 2) (fun _ _ => rfl)))
      (pss_one (ps_ret (pe_and (pe_cmpR (op_neD hr.units) (pv 5) (pe_lst pa_nil) (nomark _)) (pe_one (pe_cmpR (op_eqD hr.units) (pe_lc (own := [("_law_cell_here", 7)]) (g := gName 7) rfl nd (pi_list (pv 5)) (blkOk_by (own := [("_law_cell_here", 7)]) (N := nmTurned) (sc := defScope s_turned) (by decide +kernel))
          (fun _ _ _ _ _ => pg_name (i := 7) nd rfl (Or.inl rfl)) (fun _ _ _ _ _ => pts_one (pt_not (pt_val (pe_call G2 hr (by rfl) mg2 kp2 bd2 .nil pass0 (pa_cons (pv 7) pa_nil))))) (fun _ _ _ _ _ => pv 7)) (pe_lst pa_nil) (nomark _))))))), ?_⟩
    obtain ⟨hlo, hlt0, hhi, hle, hin⟩ := cl_run hst
    have hlt : loB rows c i < hiB rows c i := by omega
    unfold rB at k
    have ll := hO.len
    have szl : (1000 : Nat) < sizeLine := by decide
    have lcs := cells_len (c := c) (b := loB rows c i) hle
    refine ⟨_, rfl, _, rfl, _, rfl, a, as, rows, i, c, rfl, hP, cl_lt hst, ll, fun p np => ⟨p, _, rfl, .inl (.inl upd_same), rfl, _, _, rfl, _, _, rfl, rfl, ?_⟩⟩
    rw [hhi]
    have hei : hiB rows c i ≤ rows.length := hle
    clear hlt0 hlo hhi hst
    generalize loB rows c i = bb at *
    generalize hiB rows c i = ee at *
    have x1 : Same H (upd H p (.tup [.int (bb : Nat), .int (ee : Nat)])) := same_new np
    generalize upd H p (.tup [.int (bb : Nat), .int (ee : Nat)]) = H1 at x1 ⊢
    refine ⟨_, rfl, _, rfl, (bb : Int), (ee : Int), rfl, by omega, fun D nD => lc_range (lo := (bb : Int)) (n := ((ee : Int) - (bb : Int)).toNat) (fun j H' => Same H H' ∧ H' D = some (.lst (sV (fillB ((cellsB rows c bb (ee)).take j))))) ⟨same_trans x1 (same_new nD), upd_same⟩ ?_ ?_⟩
    · rintro j H2 hj ⟨x3, hD⟩
      have hjl : bb + j < ee := by omega
      obtain ⟨q, hq⟩ := getP (xs := as) (i := bb + j) (by rw [hP.len]; omega)
      obtain ⟨r, hr2⟩ := getP (xs := rows) (i := bb + j) (by omega)
      have hz := cell_at hr2 (hin (bb + j) (by omega) hjl)
      have hcg := cells_get (c := c) (b := bb) (i := j) hjl hr2
      have hf := filter_take (p := fun z => decide (cl z ≠ [])) hcg
      have nD0 := same_old x1 nD
      refine ⟨rfl, _, rfl, _, rfl, a, _, ((bb + j : Nat) : Int), .ref q, rfl, rfl, same_sqL x3 hP.lst, atI_nat (by rw [List.getElem?_map, hq]; rfl), _, rfl, q, _, c, _, rfl, rfl, same_sqT x3 (hP.row _ q r hq hr2), atI_nat hz, rfl, _, rfl, ?_⟩
      rw [ne_empty]
      by_cases hn : cl (r.getD c nilS) ≠ []
      · rw [decide_eq_true hn]
        rw [if_pos (decide_eq_true hn)] at hf
        refine iteT ⟨_, rfl, _, rfl, a, _, ((bb + j : Nat) : Int), .ref q, rfl, rfl, same_sqL x3 hP.lst, atI_nat (by rw [List.getElem?_map, hq]; rfl), _, rfl, q, _, c, _, rfl, rfl, same_sqT x3 (hP.row _ q r hq hr2), atI_nat hz, _, hD, ?_, same_upd x3 nD0, ?_⟩
        · have q1 : (fillB ((cellsB rows c bb (ee)).take j)).length ≤ ((cellsB rows c bb (ee)).take j).length := List.length_filter_le ..
          rw [List.length_take] at q1
          rw [List.length_map]
          omega
        · rw [upd_same]
          unfold fillB
          rw [hf]
          simp [sV]
      · rw [decide_eq_false hn]
        rw [if_neg (by rw [decide_eq_false hn]; exact Bool.false_ne_true), List.append_nil] at hf
        refine iteF ⟨x3, ?_⟩
        unfold fillB
        rw [hf]
        exact hD
    · rintro H2 ⟨x3, hD⟩
      have en : ((ee : Int) - (bb : Int)).toNat = (cellsB rows c bb (ee)).length := by omega
      rw [en, List.take_of_length_le (Nat.le_refl _)] at hD
      have hok : ∀ z ∈ fillB (cellsB rows c bb (ee)), CellOk z := fun z hz => cells_mem hO hin hle (List.mem_filter.mp hz).1
      have hfl : (fillB (cellsB rows c bb (ee))).length ≤ 30 := by
        have q1 : (fillB (cellsB rows c bb (ee))).length ≤ (cellsB rows c bb (ee)).length := List.length_filter_le ..
        omega
      have hRB : rightB (cellsB rows c bb (ee)) = (decide (fillB (cellsB rows c bb (ee)) ≠ []) && (fillB (cellsB rows c bb (ee))).all figB) := rfl
      rw [hRB] at k
      generalize fillB (cellsB rows c bb (ee)) = fs at hD hok hfl k ⊢
      refine ⟨_, rfl, small0, fun p1 np1 => ?_⟩
      have x4 : Same H (upd H2 p1 (.lst [])) := same_trans x3 (same_new np1)
      have hD4 : (upd H2 p1 (.lst [])) D = some (.lst (sV fs)) := by rw [upd_ne (ne_of_none hD np1)]; exact hD
      refine ⟨.list _, .list [], .lst (SqL.of hD4) (dp_strs _), .lst (SqL.of upd_same) .nil, shaped_strs (fun y hy => (hok y hy).sg), rfl, _, rfl, ?_⟩
      rw [eqv_nil]
      by_cases hn : fs = []
      · rw [decide_eq_true (show List.map PyData.str fs = [] by rw [hn]; rfl)]
        refine iteF ?_
        have := k _ x4
        rw [decide_eq_false (fun q => q hn)] at this
        exact this
      · rw [decide_eq_false (show ¬ List.map PyData.str fs = [] from fun q => hn (List.map_eq_nil_iff.mp q))]
        refine iteT ⟨_, rfl, D, rfl, ⟨_, SqL.of hD4⟩, fun D2 nD2 => lc_list (xs := sV fs) (fun j H' => Same H H' ∧ H' D = some (.lst (sV fs)) ∧ H' D2 = some (.lst (sV ((fs.take j).filter fun z => !figB z)))) ⟨same_trans x4 (same_new nD2), by rw [upd_ne (ne_of_none hD4 nD2)]; exact hD4, upd_same⟩ (fun j H' _ x => SqL.of x.2.1) ?_ ?_⟩
        · rintro j v H5 hv ⟨x5, hD5, hh⟩
          obtain ⟨z, hz, rfl⟩ := get_map hv
          have hf := filter_take (p := fun z => !figB z) hz
          have nD20 := same_old x4 nD2
          refine ⟨rfl, _, rfl, z, rfl, hok z (List.mem_of_getElem? hz), fun H6 x6 => ⟨_, rfl, ?_⟩⟩
          have hh6 := x6 _ _ hh
          have hD6 := x6 _ _ hD5
          cases hfz : figB z with
          | false =>
            rw [hfz, Bool.not_false, if_pos rfl] at hf
            refine iteT ⟨_, rfl, _, hh6, ?_, same_upd (same_trans x5 x6) nD20, ?_, ?_⟩
            · have q1 : ((fs.take j).filter fun z => !figB z).length ≤ (fs.take j).length := List.length_filter_le ..
              rw [List.length_take] at q1
              rw [List.length_map]
              omega
            · rw [upd_ne (fun z => by rw [← z] at nD2; rw [nD2] at hD4; cases hD4)]; exact hD6
            · rw [upd_same, hf]
              simp [sV]
          | true =>
            rw [hfz, Bool.not_true, if_neg Bool.false_ne_true, List.append_nil] at hf
            refine iteF ⟨same_trans x5 x6, hD6, ?_⟩
            rw [hf]
            exact hh6
        · rintro H5 ⟨x5, hD5, hh⟩
          rw [List.length_map, List.take_of_length_le (Nat.le_refl _)] at hh
          refine ⟨small0, fun p2 np2 => ?_⟩
          have hh2 : (upd H5 p2 (.lst [])) D2 = some (.lst (sV (fs.filter fun z => !figB z))) := by rw [upd_ne (ne_of_none hh np2)]; exact hh
          refine ⟨.list _, .list [], .lst (SqL.of hh2) (dp_strs _), .lst (SqL.of upd_same) .nil, shaped_strs (fun y hy => (hok y (List.mem_filter.mp hy).1).sg), rfl, ?_⟩
          rw [eqv_nil]
          have := k _ (same_trans x5 (same_new (o := .lst []) np2))
          have e : decide (List.map PyData.str (fs.filter fun z => !figB z) = []) = (decide (fs ≠ []) && fs.all figB) := by
            rw [decide_eq_true hn, Bool.true_and, Bool.eq_iff_iff, decide_eq_true_eq, List.map_eq_nil_iff, List.filter_eq_nil_iff, List.all_eq_true]
            simp only [Bool.not_eq_true, Bool.not_eq_false']
          rw [e]
          exact this
end
end TG
namespace TG
open PySem L2 Gx
/-- the list at l holds what is told of the first n closed cells of row i -/
def CellsAt (H : Hp) (rows : List (List Str)) (gap least : Int) (i n : Nat) (l : Addr) : Prop :=
  ∃ ts : List Addr, H l = some (.lst (ts.map V.ref)) ∧ ts.length = n ∧ ∀ (c : Nat) (t : Addr), ts[c]? = some t → H t = some (.tup [.int (wB rows gap least i c), .bl (rB rows i c)])
theorem CellsAt.ext {H H' : Hp} {rows : List (List Str)} {gap least : Int} {i n : Nat} {l : Addr} (x : CellsAt H rows gap least i n l) (e : LamX.ExtN H H') : CellsAt H' rows gap least i n l :=
  let ⟨ts, h1, h2, h3⟩ := x
  ⟨ts, e _ _ h1 (by intro ps z; cases z), h2, fun c t h => e _ _ (h3 c t h) (by intro ps z; cases z)⟩
theorem CellsAt.upd {H : Hp} {rows : List (List Str)} {gap least : Int} {i n : Nat} {l p : Addr} {xs : List V} {o : HO} (x : CellsAt H rows gap least i n l) (hp : H p = some (.lst xs)) (ne : l ≠ p) : CellsAt (upd H p o) rows gap least i n l :=
  let ⟨ts, h1, h2, h3⟩ := x
  ⟨ts, by rw [upd_ne ne]; exact h1, h2, fun c t h => by rw [upd_ne (ne_of (h3 c t h) hp (by intro z; cases z))]; exact h3 c t h⟩
theorem ent_le {rows : List (List Str)} {j : Nat} {q : Nat × Nat × Nat} (h : (entB rows)[j]? = some q) : q.2.1 < q.2.2 ∧ q.2.2 ≤ rows.length := by
  obtain ⟨c, _, h2⟩ := List.mem_flatMap.mp (show q ∈ (List.range 5).flatMap (ofCol rows) from List.mem_of_getElem? h)
  obtain ⟨p, h3, rfl⟩ := List.mem_map.mp h2
  obtain ⟨i, hi, e⟩ := List.getElem_of_mem h3
  obtain ⟨f1, f2, _⟩ := run_facts (i := i) (by rw [List.getElem?_eq_getElem hi, e])
  exact ⟨f1, f2⟩
section
variable {P : Program} {w : World} {K : PySem.W.Frag} {mg : Str → Option Value} {base : Heap} {cs : List (Addr × Addr)}
def spCC (K : PySem.W.Frag) (cs : List (Addr × Addr)) : Sp := fun vs H Q _ => ∃ (a st : Addr) (as : List Addr) (rows : List (List Str)) (gap least : Int), vs = [.ref a, .ref st] ∧ Tabs cs H ∧ PageAt K H a as rows ∧ PgOk rows ∧ StyleAt K H st gap least ∧
  ∀ (r : Addr) (ls : List Addr) (H' : Hp), Ex cs H H' → H r = none → (∀ l ∈ ls, H l = none) → H' r = some (.lst (ls.map V.ref)) → ls.length = rows.length → (∀ (i : Nat) (l : Addr), ls[i]? = some l → CellsAt H' rows gap least i (ncl rows i) l) → Q (.ref r) H'
abbrev nmCC : List Str := ["page", "style", "found", "rows", "column", "begin", "end", "width", "right", "holders", "number", "row"]
theorem sc_cc : FnScope nmCC ["page", "style"] (defScope s_closed_cells) := ⟨rfl, rfl, rfl, by decide +kernel, rfl, by decide +kernel, by decide +kernel⟩
theorem ok_cc {f g : Addr} {fd fdg : FuncData} (T : Txt mg) (F : Fun K "closed_cells" "closed_cells" s_closed_cells f fd)
    (G : FnOk P w K mg base CX0 12 g fdg ["page", "style"] (spStr K cs)) (kp : PySem.W.keepIn K (.ref g) = true) (bd : Binds K fdg ["page", "style"] []) (mgg : mg "stretches" = some (.ref g)) : FnOk P w K mg base CX0 13 f fd ["page", "style"] (spCC K cs) := by
  refine F.ok sc_cc (fun vs H Q E h => ?_) (fun cdv A outer s H vs Q E hr h => ?_)
  · obtain ⟨a, st, as, rows, gap, least, rfl, _⟩ := h
    rfl
  · obtain ⟨a, st, as, rows, gap, least, rfl, hT, hP, hO, hS, k⟩ := h
    have nd := sc_cc.nd
    refine ⟨_, pss_cons (ps_set (i := 2) nd rfl (.inl rfl) (pe_call G hr (by rfl) mgg kp bd .nil pass0 (pa_cons (pv 0) (pa_cons (pv 1) pa_nil))))
      (pss_cons (ps_setLc (i := 3) (own := [("row", 11)]) (g := gName 11) rfl nd rfl rfl (sw_true rfl rfl rfl (by decide +kernel)) (pi_list (pv 0)) (blkOk_by (own := [("row", 11)]) (N := nmCC) (sc := defScope s_closed_cells) (by decide +kernel))
        (fun _ _ _ _ _ => pg_name (i := 11) nd rfl (Or.inl rfl)) (fun _ _ _ _ _ => pts_nil) (fun _ _ _ _ _ => pe_lst pa_nil))
      (pss_cons (ps_for PassesOwn.never rfl (pi_list (pv 2)) (pg_tup rfl (pgs_cons (pg_name (i := 4) nd rfl (.inl rfl)) (pgs_cons (pg_name (i := 5) nd rfl (.inl rfl)) (pgs_cons (pg_name (i := 6) nd rfl (.inl rfl)) (pgs_cons (pg_name (i := 7) nd rfl (.inl rfl)) (pgs_cons (pg_name (i := 8) nd rfl (.inl rfl)) (pgs_cons (pg_name (i := 9) nd rfl (.inl rfl)) pgs_nil)))))))
        (pss_one (ps_for PassesOwn.never rfl (pi_range2 (by rfl) T.range (pa_cons (pv 5) (pa_cons (pv 6) pa_nil))) (pg_name (i := 10) nd rfl (.inl rfl))
          (pss_one (ps_expr (pe_bm PySem.F.plainAttrs_list PySem.F.slot_list_append PySem.F.type_list_append mt_append (pe_ix ix_list (pv 3) (pv 10) (fun _ _ => rfl)) (pa_cons (pe_tup (pa_cons (pv 7) (pa_cons (pv 8) pa_nil))) pa_nil)))))))
      (pss_one (ps_ret (pv 3))))), ?_⟩
    have ll := hO.len
    have szl : (1000 : Nat) < sizeLine := by decide
    have las : (as.map V.ref).length = rows.length := by rw [List.length_map, hP.len]
    refine ⟨_, rfl, _, rfl, a, st, as, rows, gap, least, rfl, hT, hP, hO, hS, fun r ts hs H1 x1 nr nts nhs hr1 ds => ?_⟩
    have hT1 := x1.tab
    refine ⟨_, rfl, a, rfl, ⟨_, x1.sqL hP.lst⟩, fun D nD => lc_list (xs := as.map V.ref) (fun i H' => ∃ ls : List Addr, Ex cs H1 H' ∧ H' D = some (.lst (ls.map V.ref)) ∧ ls.length = i ∧ ls.Nodup ∧ ∀ l ∈ ls, H1 l = none ∧ l ≠ D ∧ H' l = some (.lst []))
      ⟨[], Ex.laid hT1 nD, upd_same, rfl, List.nodup_nil, fun l h => by simp at h⟩ (fun i H' _ ⟨ls, x, _⟩ => x.sqL (x1.sqL hP.lst)) ?_ ?_⟩
    · rintro i v H2 hv ⟨ls, x2, hD, hl, hn, hf⟩
      have hil : i < as.length := by
        have := (List.getElem?_eq_some_iff.mp hv).1
        rw [List.length_map] at this
        exact this
      refine ⟨rfl, small0, fun p np => ⟨_, by rw [upd_ne (ne_of_none hD np)]; exact hD, by rw [List.length_map, hl]; have := hP.len; omega, ls ++ [p], ?_, by rw [upd_same, List.map_append]; rfl, by rw [List.length_append, hl]; rfl, ?_, fun l h => ?_⟩⟩
      · exact ex_new hT1 (x2.trans (Ex.laid x2.tab np)) nD
      · refine List.nodup_append.mpr ⟨hn, by simp, fun u hu v hv e => ?_⟩
        rw [List.mem_singleton.mp hv] at e
        have := (hf u hu).2.2
        rw [e, np] at this
        cases this
      · have pD : p ≠ D := fun z => by rw [z, hD] at np; cases np
        rcases List.mem_append.mp h with z | z
        · obtain ⟨h1, h2, h3⟩ := hf l z
          exact ⟨h1, h2, by rw [upd_ne h2, upd_ne (ne_of_none h3 np)]; exact h3⟩
        · rw [List.mem_singleton.mp z]
          exact ⟨x2.old _ np, pD, by rw [upd_ne pD, upd_same]⟩
    · rintro H2 ⟨ls, x2, hD, hl, hn, hf⟩
      rw [las] at hl
      have hnd : ∀ (i j : Nat) (l m : Addr), ls[i]? = some l → ls[j]? = some m → i ≠ j → l ≠ m := fun i j l m h1 h2 h3 e => by
        subst e
        exact h3 (nd_ix hn h1 h2)
      refine ⟨_, rfl, r, rfl, ⟨_, SqL.of (x2.lst hr1)⟩, for_list (xs := ts.map V.ref) (fun j σ H' => ∃ c4 c5 c6 c7 c8 c9 c10 : Option V, σ = [some (.ref a), some (.ref st), some (.ref r), some (.ref D), c4, c5, c6, c7, c8, c9, c10, none] ∧ Ex cs H1 H' ∧ H' D = some (.lst (ls.map V.ref)) ∧ ∀ (i : Nat) (l : Addr), ls[i]? = some l → CellsAt H' rows gap least i (cntB rows j i) l)
        ⟨_, _, _, _, _, _, _, rfl, x2, hD, fun i l h => ⟨[], (hf l (List.mem_of_getElem? h)).2.2, rfl, fun c t h => by simp at h⟩⟩ (fun j σ H' _ ⟨_, _, _, _, _, _, _, _, x, _⟩ => SqL.of (x.lst hr1)) ?_ ?_⟩
      · rintro j v σ H3 hv ⟨c4, c5, c6, c7, c8, c9, c10, rfl, x3, hD3, hC⟩
        obtain ⟨t, ht, rfl⟩ := get_map hv
        have hjt := (List.getElem?_eq_some_iff.mp ht).1
        obtain ⟨q, hq⟩ := getP (xs := entB rows) (i := j) (by rw [← ds.len]; exact hjt)
        obtain ⟨hh, hhh⟩ := getP (xs := hs) (i := j) (by rw [ds.len2, ← ds.len]; exact hjt)
        have dt := x3.tup (ds.at_ j t hh q ht hhh hq).1
        refine ⟨t, _, rfl, .inl (.inl dt), rfl, _, _, rfl, _, _, rfl, _, _, rfl, _, _, rfl, _, _, rfl, _, _, rfl, rfl, ?_⟩
        refine ⟨_, rfl, _, rfl, (q.2.1 : Int), (q.2.2 : Int), rfl, ?_⟩
        obtain ⟨q1, q2⟩ := ent_le hq
        refine ⟨by omega, for_range (lo := (q.2.1 : Int)) (n := ((q.2.2 : Int) - (q.2.1 : Int)).toNat) (fun k σ H' => ∃ c10 : Option V, σ = [some (.ref a), some (.ref st), some (.ref r), some (.ref D), some (.int (q.1 : Nat)), some (.int (q.2.1 : Nat)), some (.int (q.2.2 : Nat)), some (.int (widthB (cellsB rows q.1 q.2.1 q.2.2) gap least)), some (.bl (rightB (cellsB rows q.1 q.2.1 q.2.2))), some (.ref hh), c10, none] ∧ Ex cs H1 H' ∧ H' D = some (.lst (ls.map V.ref)) ∧
          ∀ (i : Nat) (l : Addr), ls[i]? = some l → CellsAt H' rows gap least i (cntB rows j i + if q.2.1 ≤ i ∧ i < q.2.1 + k then 1 else 0) l)
          ⟨_, rfl, x3, hD3, fun i l h => by rw [if_neg (by omega)]; exact hC i l h⟩ ?_ ?_⟩
        · rintro k σ H4 hk ⟨c10, rfl, x4, hD4, hC4⟩
          have hx : q.2.1 + k < q.2.2 := by omega
          obtain ⟨l, hl1⟩ := getP (xs := ls) (i := q.2.1 + k) (by omega)
          obtain ⟨hln, hlD, _⟩ := hf l (List.mem_of_getElem? hl1)
          have hcl := hC4 _ l hl1
          rw [if_neg (by omega), Nat.add_zero] at hcl
          obtain ⟨us, u1, u2, u3⟩ := hcl
          have hcov : covB (q.2.1 + k) q = true := decide_eq_true ⟨by omega, hx⟩
          obtain ⟨v1, v2, v3⟩ := cnt_yes hO hq hcov
          have v4 := ncl_le hO (q.2.1 + k)
          refine ⟨_, rfl, _, rfl, D, _, ((q.2.1 + k : Nat) : Int), .ref l, rfl, rfl, SqL.of hD4, atI_nat (by rw [List.getElem?_map, hl1]; rfl), .inl ⟨rfl, _, SqL.of u1⟩, _, rfl, _, rfl, line10 (by show 2 ≤ 1000; decide), fun t0 nt0 => ⟨l, us.map V.ref, .ref t0, rfl, rfl, by rw [upd_ne (ne_of_none u1 nt0)]; exact u1, by rw [List.length_map, u2]; omega, ?_⟩⟩
          have x5 := Ex.laid (o := .tup [.int (widthB (cellsB rows q.1 q.2.1 q.2.2) gap least), .bl (rightB (cellsB rows q.1 q.2.1 q.2.2))]) x4.tab nt0
          have lt0 : l ≠ t0 := ne_of_none u1 nt0
          have u1' := x5.lst u1
          refine ⟨_, rfl, ex_new hT1 (x4.trans x5) hln, by rw [upd_ne hlD.symm]; exact x5.lst hD4, fun i m h => ?_⟩
          by_cases e : i = q.2.1 + k
          · subst e
            rw [hl1] at h
            cases h
            rw [if_pos (by omega)]
            refine ⟨us ++ [t0], by rw [upd_same, List.map_append]; rfl, by rw [List.length_append, u2]; rfl, fun c t h => ?_⟩
            by_cases hc : c < us.length
            · rw [List.getElem?_append_left hc] at h
              have := x5.tup (u3 c t h)
              rw [upd_ne (ne_of this u1' (by intro z; cases z))]
              exact this
            · have hl := (List.getElem?_eq_some_iff.mp h).1
              rw [List.length_append, List.length_singleton] at hl
              have ec : c = us.length := by omega
              subst ec
              rw [List.getElem?_append_right (Nat.le_refl _), Nat.sub_self] at h
              cases h
              rw [upd_ne lt0.symm, upd_same, u2]
              have e1 : q.1 = cntB rows j (q.2.1 + k) := congrArg (fun z : Nat × Nat × Nat => z.1) v2
              have e2 : q.2.1 = loB rows (cntB rows j (q.2.1 + k)) (q.2.1 + k) := congrArg (fun z : Nat × Nat × Nat => z.2.1) v2
              have e3 : q.2.2 = hiB rows (cntB rows j (q.2.1 + k)) (q.2.1 + k) := congrArg (fun z : Nat × Nat × Nat => z.2.2) v2
              unfold wB rB
              rw [← e2, ← e3, ← e1]
          · have hne := hnd _ _ _ _ h hl1 e
            have hm := (hC4 i m h).ext x5.ext
            have ee : (if q.2.1 ≤ i ∧ i < q.2.1 + (k + 1) then 1 else 0) = (if q.2.1 ≤ i ∧ i < q.2.1 + k then 1 else 0) := by
              by_cases z : q.2.1 ≤ i ∧ i < q.2.1 + k
              · rw [if_pos z, if_pos (by omega)]
              · rw [if_neg z, if_neg (by omega)]
            rw [ee]
            exact hm.upd u1' hne
        · rintro σ H4 ⟨c10, rfl, x4, hD4, hC4⟩
          refine ⟨_, _, _, _, _, _, _, rfl, x4, hD4, fun i l h => ?_⟩
          have := hC4 i l h
          by_cases z : q.2.1 ≤ i ∧ i < q.2.2
          · rw [if_pos (by omega)] at this
            rw [(cnt_yes hO hq (decide_eq_true z)).1]
            exact this
          · rw [if_neg (by omega)] at this
            rw [cnt_no hq (decide_eq_false z)]
            exact this
      · rintro σ H3 ⟨c4, c5, c6, c7, c8, c9, c10, rfl, x3, hD3, hC⟩
        refine ⟨_, rfl, k D ls H3 (x1.trans x3) (x1.old _ nD) (fun l h => x1.old _ (hf l h).1) hD3 hl fun i l h => ?_⟩
        have := hC i l h
        rw [List.length_map, ds.len, cnt_all hO] at this
        exact this
end
end TG
namespace TG
open PySem L2 Gx
theorem at_last {α : Type} {xs : List α} {x : α} : atI (xs ++ [x]) (-1) = some x := by
  unfold atI ixN
  rw [if_neg (by omega), List.length_append, List.length_singleton, if_pos (by omega)]
  show (xs ++ [x])[((-1 : Int) + ((xs.length + 1 : Nat) : Int)).toNat]? = some x
  rw [show ((-1 : Int) + ((xs.length + 1 : Nat) : Int)).toNat = xs.length by omega, List.getElem?_append_right (Nat.le_refl _), Nat.sub_self]
  rfl
theorem lefts_last (rows : List (List Str)) (gap least : Int) (i : Nat) : ∀ n, ∃ xs, leftsB rows gap least i n = xs ++ [leftB rows gap least i n]
  | 0 => ⟨[], rfl⟩
  | n + 1 => ⟨leftsB rows gap least i n, lefts_snoc rows gap least i n⟩
theorem lefts_at (rows : List (List Str)) (gap least : Int) (i n : Nat) : atI ((leftsB rows gap least i n).map V.int) (-1) = some (V.int (leftB rows gap least i n)) := by
  obtain ⟨xs, e⟩ := lefts_last rows gap least i n
  rw [e, List.map_append]
  exact at_last
/-- the list at r holds lists of numbers, f tells them -/
structure ToldAt (H : Hp) (r : Addr) (es : List Addr) (f : Nat → List Int) (n : Nat) : Prop where
  lst : H r = some (.lst (es.map V.ref))
  len : es.length = n
  nd : es.Nodup
  at_ : ∀ (i : Nat) (e : Addr), es[i]? = some e → H e = some (.lst ((f i).map V.int))
theorem ToldAt.ext {H H' : Hp} {r : Addr} {es : List Addr} {f : Nat → List Int} {n : Nat} (t : ToldAt H r es f n) (x : LamX.ExtN H H') : ToldAt H' r es f n :=
  ⟨x _ _ t.lst (by intro ps z; cases z), t.len, t.nd, fun i e h => x _ _ (t.at_ i e h) (by intro ps z; cases z)⟩
theorem tabs_ext {cs : List (Addr × Addr)} {H H' : Hp} (t : Tabs cs H) (x : Same H H') : Tabs cs H' := fun p hp => let ⟨ps, h1, h2⟩ := t p hp; ⟨ps, x _ _ h1, h2⟩
theorem same_ext {H H' : Hp} (x : Same H H') : LamX.ExtN H H' := fun b o e _ => x b o e
theorem ex_same {cs : List (Addr × Addr)} {H H' : Hp} (t : Tabs cs H) (x : Same H H') : Ex cs H H' := ⟨same_ext x, tabs_ext t x, fun _ n => same_old x n, fun b o e _ => x b o e⟩
theorem ToldAt.add {H H' : Hp} {r : Addr} {es : List Addr} {f : Nat → List Int} {n : Nat} {e : Addr} (t : ToldAt H r es f n) (x : LamX.ExtN H H') (he : H e = none) (h' : H' e = some (.lst ((f n).map V.int))) (hr : r ∉ es) :
    ToldAt (upd H' r (.lst (es.map V.ref ++ [.ref e]))) r (es ++ [e]) f (n + 1) := by
  refine ⟨by rw [upd_same, List.map_append]; rfl, by rw [List.length_append, t.len]; rfl, ?_, fun i u h => ?_⟩
  · refine List.nodup_append.mpr ⟨t.nd, by simp, fun u hu v hv q => ?_⟩
    rw [List.mem_singleton.mp hv] at q
    obtain ⟨i, hi, e1⟩ := List.getElem_of_mem hu
    have := t.at_ i u (by rw [List.getElem?_eq_getElem hi, e1])
    rw [q, he] at this
    cases this
  · have re : e ≠ r := fun z => by rw [z, t.lst] at he; cases he
    by_cases hi : i < es.length
    · rw [List.getElem?_append_left hi] at h
      rw [upd_ne (fun z => hr (by rw [← z]; exact List.mem_of_getElem? h))]
      exact x _ _ (t.at_ i u h) (by intro ps z; cases z)
    · have hl := (List.getElem?_eq_some_iff.mp h).1
      rw [List.length_append, List.length_singleton] at hl
      have e1 : i = es.length := by omega
      subst e1
      rw [List.getElem?_append_right (Nat.le_refl _), Nat.sub_self] at h
      cases h
      rw [upd_ne re, h', t.len]
section
variable {P : Program} {w : World} {K : PySem.W.Frag} {mg : Str → Option Value} {base : Heap} {cs : List (Addr × Addr)}
def spLE : Sp := fun vs H Q _ => ∃ (l : Addr) (rows : List (List Str)) (gap least : Int) (i n : Nat), vs = [.ref l] ∧ CellsAt H rows gap least i n l ∧ n ≤ 5 ∧
  ∀ (p : Addr) (H' : Hp), Same H H' → H p = none → H' p = some (.lst ((leftsB rows gap least i n).map V.int)) → Q (.ref p) H'
abbrev nmLE : List Str := ["closed", "ends", "width", "right"]
theorem sc_le : FnScope nmLE ["closed"] (defScope s_left_ends) := ⟨rfl, rfl, rfl, by decide +kernel, rfl, by decide +kernel, by decide +kernel⟩
theorem ok_le {f : Addr} {fd : FuncData} (F : Fun K "left_ends" "left_ends" s_left_ends f fd) : FnOk P w K mg base CX0 1 f fd ["closed"] spLE := by
  refine F.ok sc_le (fun vs H Q E h => ?_) (fun cdv A outer s H vs Q E hr h => ?_)
  · obtain ⟨l, rows, gap, least, i, n, rfl, _⟩ := h
    rfl
  · obtain ⟨l, rows, gap, least, i, n, rfl, ⟨ts, h1, h2, h3⟩, n5, k⟩ := h
    have nd := sc_le.nd
    refine ⟨_, pss_cons (ps_set (i := 1) nd rfl (.inl rfl) (pe_lst (pa_cons pe_int pa_nil)))
      (pss_cons (ps_for PassesOwn.never rfl (pi_list (pv 0)) (pg_tup rfl (pgs_cons (pg_name (i := 2) nd rfl (.inl rfl)) (pgs_cons (pg_name (i := 3) nd rfl (.inl rfl)) pgs_nil)))
        (pss_one (ps_expr (pe_bm PySem.F.plainAttrs_list PySem.F.slot_list_append PySem.F.type_list_append mt_append (pv 1) (pa_cons (pe_op op_add (pe_ix ix_list (pv 1) (pe_un un_neg pe_int) (fun _ _ => rfl)) (pv 2)) pa_nil)))))
      (pss_one (ps_ret (pv 1)))), ?_⟩
    have szl : (1000 : Nat) < sizeLine := by decide
    refine ⟨line10 (by show 1 ≤ 1000; decide), fun p np => ⟨_, rfl, l, rfl, ⟨_, SqL.of (by rw [upd_ne (ne_of_none h1 np)]; exact h1)⟩, for_list (xs := ts.map V.ref) (fun j σ H' => ∃ c2 c3 : Option V, σ = [some (.ref l), some (.ref p), c2, c3] ∧ Same H H' ∧ H' p = some (.lst ((leftsB rows gap least i j).map V.int)))
      ⟨_, _, rfl, same_new np, upd_same⟩ (fun j σ H' _ ⟨_, _, _, x, _⟩ => SqL.of (x _ _ h1)) ?_ ?_⟩⟩
    · rintro j v σ H1 hv ⟨c2, c3, rfl, x1, hp⟩
      obtain ⟨t, ht, rfl⟩ := get_map hv
      have hj := (List.getElem?_eq_some_iff.mp ht).1
      refine ⟨t, _, rfl, .inl (.inl (x1 _ _ (h3 j t ht))), rfl, _, _, rfl, _, _, rfl, rfl, ?_⟩
      refine ⟨_, rfl, .inl ⟨rfl, _, SqL.of hp⟩, _, rfl, 1, rfl, p, _, -1, _, rfl, rfl, SqL.of hp, lefts_at .., _, rfl, _, _, rfl, rfl, p, _, _, rfl, rfl, hp, by rw [List.length_map, lefts_len]; omega, ⟨_, _, rfl, same_upd x1 np, ?_⟩⟩
      rw [upd_same, lefts_snoc, List.map_append]
      rfl
    · rintro σ H1 ⟨c2, c3, rfl, x1, hp⟩
      rw [List.length_map, h2] at hp
      exact ⟨_, rfl, k p H1 x1 np hp⟩
/-- a list of lists of numbers, a row each -/
def spTold (K : PySem.W.Frag) (cs : List (Addr × Addr)) (f : List (List Str) → Int → Int → Nat → List Int) : Sp := fun vs H Q _ => ∃ (a st : Addr) (as : List Addr) (rows : List (List Str)) (gap least : Int), vs = [.ref a, .ref st] ∧ Tabs cs H ∧ PageAt K H a as rows ∧ PgOk rows ∧ StyleAt K H st gap least ∧
  ∀ (r : Addr) (es : List Addr) (H' : Hp), Ex cs H H' → H r = none → (∀ e ∈ es, H e = none ∧ e ≠ r) → ToldAt H' r es (f rows gap least) rows.length → Q (.ref r) H'
def leftsR (rows : List (List Str)) (gap least : Int) (i : Nat) : List Int := leftsB rows gap least i (ncl rows i)
end
end TG
namespace TG
open PySem L2 Gx
def lenC (rows : List (List Str)) (i c : Nat) : Int := (((rows.getD i []).getD c nilS).length : Nat)
/-- the begins of row i when the first j closed cells have been looked at -/
def begC (rows : List (List Str)) (gap least : Int) (i j c : Nat) : Int := if c < j ∧ rB rows i c = true then leftB rows gap least i (c + 1) - gap - lenC rows i c else leftB rows gap least i c
def begsTo (rows : List (List Str)) (gap least : Int) (i j : Nat) : List Int := (List.range (ncl rows i + 1)).map (begC rows gap least i j)
def begsR (rows : List (List Str)) (gap least : Int) (i : Nat) : List Int := begsTo rows gap least i (ncl rows i)
theorem begs_zero (rows : List (List Str)) (gap least : Int) (i : Nat) : begsTo rows gap least i 0 = leftsB rows gap least i (ncl rows i) := by
  unfold begsTo leftsB
  refine List.map_congr_left fun c _ => ?_
  unfold begC
  rw [if_neg (by omega)]
theorem begs_len (rows : List (List Str)) (gap least : Int) (i j : Nat) : (begsTo rows gap least i j).length = ncl rows i + 1 := by
  unfold begsTo
  rw [List.length_map, List.length_range]
theorem begs_no {rows : List (List Str)} {gap least : Int} {i j : Nat} (h : rB rows i j = false) : begsTo rows gap least i (j + 1) = begsTo rows gap least i j := by
  unfold begsTo
  refine List.map_congr_left fun c _ => ?_
  unfold begC
  by_cases e : c = j
  · subst e
    rw [if_neg (fun z => by rw [h] at z; cases z.2), if_neg (by omega)]
  · by_cases q : c < j ∧ rB rows i c = true
    · rw [if_pos q, if_pos ⟨by omega, q.2⟩]
    · rw [if_neg q, if_neg (fun z => q ⟨by omega, z.2⟩)]
theorem begs_yes {rows : List (List Str)} {gap least : Int} {i j : Nat} (hj : j < ncl rows i) (h : rB rows i j = true) : (begsTo rows gap least i j).set j (leftB rows gap least i (j + 1) - gap - lenC rows i j) = begsTo rows gap least i (j + 1) := by
  apply List.ext_getElem?
  intro c
  rw [List.getElem?_set]
  have e1 : ∀ j, (begsTo rows gap least i j)[c]? = if c < ncl rows i + 1 then some (begC rows gap least i j c) else none := fun j => by
    unfold begsTo
    rw [List.getElem?_map]
    by_cases q : c < ncl rows i + 1
    · rw [List.getElem?_range q, if_pos q]; rfl
    · rw [List.getElem?_eq_none (by rw [List.length_range]; omega), if_neg q]; rfl
  by_cases e : j = c
  · subst e
    rw [if_pos rfl, if_pos (by rw [begs_len]; omega), e1, if_pos (by omega)]
    unfold begC
    rw [if_pos ⟨Nat.lt_succ_self _, h⟩]
  · rw [if_neg e, e1, e1]
    have : begC rows gap least i (j + 1) c = begC rows gap least i j c := by
      unfold begC
      by_cases q : c < j ∧ rB rows i c = true
      · rw [if_pos q, if_pos ⟨by omega, q.2⟩]
      · rw [if_neg q, if_neg (fun z => q ⟨by omega, z.2⟩)]
    rw [this]
theorem set_map {α β : Type} {f : α → β} {xs : List α} {i : Nat} {x : α} : (xs.map f).set i (f x) = (xs.set i x).map f := by
  rw [List.map_set]
section
variable {P : Program} {w : World} {K : PySem.W.Frag} {mg : Str → Option Value} {base : Heap} {cs : List (Addr × Addr)}
def spBO (K : PySem.W.Frag) : Sp := fun vs H Q _ => ∃ (a l : Addr) (rows : List (List Str)) (gap least : Int) (i : Nat) (r : List Str), vs = [.ref a, .ref l, .int gap] ∧ rows[i]? = some r ∧ PgOk rows ∧ SqT K H a (sV r) ∧ CellsAt H rows gap least i (ncl rows i) l ∧
  ∀ (p : Addr) (H' : Hp), Same H H' → H p = none → H' p = some (.lst ((begsR rows gap least i).map V.int)) → Q (.ref p) H'
abbrev nmBO : List Str := ["row", "closed", "gap", "ends", "begins", "number", "width", "right"]
theorem sc_bo : FnScope nmBO ["row", "closed", "gap"] (defScope s_begins_of) := ⟨rfl, rfl, rfl, by decide +kernel, rfl, by decide +kernel, by decide +kernel⟩
theorem ok_bo {f g : Addr} {fd fdg : FuncData} (T : Txt mg) (F : Fun K "begins_of" "begins_of" s_begins_of f fd)
    (G : FnOk P w K mg base CX0 1 g fdg ["closed"] spLE) (kp : PySem.W.keepIn K (.ref g) = true) (bd : Binds K fdg ["closed"] []) (mgg : mg "left_ends" = some (.ref g)) : FnOk P w K mg base CX0 2 f fd ["row", "closed", "gap"] (spBO K) := by
  refine F.ok sc_bo (fun vs H Q E h => ?_) (fun cdv A outer s H vs Q E hr h => ?_)
  · obtain ⟨a, l, rows, gap, least, i, r, rfl, _⟩ := h
    rfl
  · obtain ⟨a, l, rows, gap, least, i, r, rfl, hr2, hO, hA, hC, k⟩ := h
    have nd := sc_bo.nd
    refine ⟨_, pss_cons (ps_set (i := 3) nd rfl (.inl rfl) (pe_call G hr (by rfl) mgg kp bd .nil pass0 (pa_cons (pv 1) pa_nil)))
      (pss_cons (ps_set (i := 4) nd rfl (.inl rfl) (pe_callTy call_list_of (by rfl) T.list (by decide +kernel) (pa_cons (pv 3) pa_nil)))
      (pss_cons (ps_for PassesOwn.never rfl (pi_enum (by rfl) T.enum (pa_cons (pv 1) pa_nil)) (pg_tup rfl (pgs_cons (pg_name (i := 5) nd rfl (.inl rfl)) (pgs_cons (pg_tup rfl (pgs_cons (pg_name (i := 6) nd rfl (.inl rfl)) (pgs_cons (pg_name (i := 7) nd rfl (.inl rfl)) pgs_nil))) pgs_nil)))
        (pss_one (ps_if (pt_val (pv 7)) (pss_one (ps_asg (pe_op op_sub (pe_op op_sub (pe_ix ix_list (pv 3) (pe_op op_add (pv 5) pe_int) (fun _ _ => rfl)) (pv 2)) (pe_callB call_len_str (by rfl) T.len PySem.boot_len (pa_cons (pe_ix ix_tup (pv 0) (pv 5) (fun _ _ => rfl)) pa_nil))) (pg_sub (pv 4) (pv 5) set_list))) pss_nil)))
      (pss_one (ps_ret (pv 4))))), ?_⟩
    have szl : (1000 : Nat) < sizeLine := by decide
    have n5 := ncl_le hO i
    have hrO := hO.rows r (List.mem_of_getElem? hr2)
    have hnc : ncl rows i = r.length - 1 := by unfold ncl; rw [hr2]
    refine ⟨_, rfl, l, rows, gap, least, i, ncl rows i, rfl, hC, n5, fun e H1 x1 ne he => ⟨_, rfl, e, _, rfl, .inl (SqL.of he), fun b nb => ?_⟩⟩
    obtain ⟨ts, h1, h2, h3⟩ := hC
    have x2 : Same H (upd H1 b (.lst ((leftsB rows gap least i (ncl rows i)).map V.int))) := same_trans x1 (same_new nb)
    have eb : e ≠ b := ne_of_none he nb
    have nb0 := same_old x1 nb
    refine ⟨_, rfl, l, _, rfl, SqL.of (x2 _ _ h1), for_it (walk_enum (xs := ts.map V.ref)) (fun j σ H' => ∃ c5 c6 c7 : Option V, σ = [some (.ref a), some (.ref l), some (.int gap), some (.ref e), some (.ref b), c5, c6, c7] ∧ Same H H' ∧ H' e = some (.lst ((leftsB rows gap least i (ncl rows i)).map V.int)) ∧ H' b = some (.lst ((begsTo rows gap least i j).map V.int)))
      ⟨_, _, _, rfl, x2, by rw [upd_ne eb]; exact he, by rw [upd_same, begs_zero]⟩ (fun j σ H' _ ⟨_, _, _, _, x, _⟩ => SqL.of (x _ _ h1)) ?_ ?_⟩
    · rintro j x σ H3 H4 hi ⟨c5, c6, c7, rfl, x3, he3, hb3⟩ ⟨Tp, v, u, rfl, hn, rfl, hv, hu⟩
      cases hv
      obtain ⟨t, ht, rfl⟩ := get_map hu
      have hj := (List.getElem?_eq_some_iff.mp ht).1
      have x4 : Same H3 (upd H3 Tp (.tup [.int (j : Nat), .ref t])) := same_new hn
      generalize hH4 : upd H3 Tp (.tup [.int (j : Nat), .ref t]) = H4 at x4 ⊢
      have hTp : H4 Tp = some (.tup [.int (j : Nat), .ref t]) := by rw [← hH4, upd_same]
      have x34 := same_trans x3 x4
      have he4 := x4 _ _ he3
      have hb4 := x4 _ _ hb3
      refine ⟨Tp, _, rfl, .inl (.inl hTp), rfl, _, _, rfl, _, _, rfl, t, _, rfl, .inl (.inl (x34 _ _ (h3 j t ht))), rfl, _, _, rfl, _, _, rfl, rfl, rfl, ?_⟩
      refine ⟨_, rfl, rB rows i j, rfl, ?_⟩
      cases hrb : rB rows i j with
      | false => exact iteF ⟨_, _, _, rfl, x34, he4, by rw [begs_no hrb]; exact hb4⟩
      | true =>
        have hjr : j < r.length := by omega
        have ec : lenC rows i j = (((r[j]'hjr).length : Nat) : Int) := by
          unfold lenC
          rw [show rows.getD i [] = r by rw [List.getD_eq_getElem?_getD, hr2]; rfl, List.getD_eq_getElem?_getD, List.getElem?_eq_getElem hjr]
          rfl
        have zl := (hrO.cells _ (List.getElem_mem hjr)).len
        refine iteT ⟨_, rfl, _, rfl, j, 1, rfl, rfl, e, _, ((j + 1 : Nat) : Int), _, rfl, rfl, SqL.of he4, atI_nat (by rw [List.getElem?_map, lefts_get (by omega)]; rfl), _, rfl, _, _, rfl, rfl, _, rfl, _, rfl, a, _, j, _, rfl, rfl, same_sqT x34 hA, atI_nat (by rw [List.getElem?_map, List.getElem?_eq_getElem hjr]; rfl), _, rfl, line10 (by omega), _, _, rfl, rfl, _, rfl, _, rfl, b, _, j, j, rfl, rfl, hb4, ?_, ⟨_, _, _, rfl, same_upd x34 nb0, by rw [upd_ne eb]; exact he4, ?_⟩⟩
        · rw [List.length_map, begs_len]
          unfold ixN
          rw [if_pos (by omega), if_pos (by omega)]
          rfl
        · rw [upd_same, set_map, ← ec, begs_yes (by omega) hrb]
    · rintro σ H3 ⟨c5, c6, c7, rfl, x3, he3, hb3⟩
      rw [List.length_map, h2] at hb3
      exact ⟨_, rfl, k b H3 x3 nb0 hb3⟩
end
end TG
namespace TG
open PySem L2 Gx
section
variable {P : Program} {w : World} {K : PySem.W.Frag} {mg : Str → Option Value} {base : Heap} {cs : List (Addr × Addr)}
abbrev nmLaid : List Str := ["page", "style", "rows", "gap", "row", "closed"]
theorem sc_laid : FnScope nmLaid ["page", "style"] (defScope s_laid) := ⟨rfl, rfl, rfl, by decide +kernel, rfl, by decide +kernel, by decide +kernel⟩
theorem ok_laid {f g g2 : Addr} {fd fdg fd2 : FuncData} (hz : mg "zip" = none) (F : Fun K "laid" "laid" s_laid f fd)
    (G : FnOk P w K mg base CX0 13 g fdg ["page", "style"] (spCC K cs)) (kp : PySem.W.keepIn K (.ref g) = true) (bd : Binds K fdg ["page", "style"] []) (mgg : mg "closed_cells" = some (.ref g))
    (G2 : FnOk P w K mg base CX0 2 g2 fd2 ["row", "closed", "gap"] (spBO K)) (kp2 : PySem.W.keepIn K (.ref g2) = true) (bd2 : Binds K fd2 ["row", "closed", "gap"] []) (mg2 : mg "begins_of" = some (.ref g2)) : FnOk P w K mg base CX0 14 f fd ["page", "style"] (spTold K cs begsR) := by
  refine F.ok sc_laid (fun vs H Q E h => ?_) (fun cdv A outer s H vs Q E hr h => ?_)
  · obtain ⟨a, st, as, rows, gap, least, rfl, _⟩ := h
    rfl
  · obtain ⟨a, st, as, rows, gap, least, rfl, hT, hP, hO, hS, k⟩ := h
    have nd := sc_laid.nd
    have hr2 : Room 2 _ := hr.mono (by decide)
    refine ⟨_, pss_cons (ps_set (i := 2) nd rfl (.inl rfl) (pe_call G hr (by rfl) mgg kp bd .nil pass0 (pa_cons (pv 0) (pa_cons (pv 1) pa_nil))))
      (pss_cons (ps_set (i := 3) nd rfl (.inr rfl) (pe_ix ix_tup (pv 1) pe_int (fun _ _ => rfl)))
      (pss_one (ps_ret (pe_lc (own := [("row", 4), ("closed", 5)]) (g := gTup K 2 (gCons (gName 4) (gCons (gName 5) gNil))) (tt := tYes) rfl nd (pi_zip (by rfl) hz (pa_cons (pv 0) (pa_cons (pv 2) pa_nil))) (blkOk_by (own := [("row", 4), ("closed", 5)]) (N := nmLaid) (sc := defScope s_laid) (by decide +kernel))
        (fun _ _ _ _ _ => pg_tup rfl (pgs_cons (pg_name (i := 4) nd rfl (.inl rfl) (.inr rfl)) (pgs_cons (pg_name (i := 5) nd rfl (.inl rfl) (.inr rfl)) pgs_nil))) (fun _ _ _ _ _ => pts_nil) (fun s1 H1 C1 cl1 fp1 => pe_call G2 hr2 (by rfl) mg2 kp2 bd2 .nil pass0 (pa_cons (pv 4) (pa_cons (pv 5) (pa_cons (pv 3) pa_nil)))))))), ?_⟩
    have ll := hO.len
    have szl : (1000 : Nat) < sizeLine := by decide
    refine ⟨_, rfl, _, rfl, a, st, as, rows, gap, least, rfl, hT, hP, hO, hS, fun r ls H1 x1 nr nls hr1 hll hC => ⟨_, rfl, st, _, 0, .int gap, rfl, rfl, x1.sqT hS.tup, at0, _, rfl, _, rfl, a, r, _, _, rfl, x1.sqL hP.lst, SqL.of hr1, fun D nD => lc_it (walk_zip (xs := as.map V.ref) (ys := ls.map V.ref) (n := rows.length) (by rw [List.length_map, List.length_map, hP.len, hll, Nat.min_self])) (fun i H' => ∃ es : List Addr, Ex cs H1 H' ∧ ToldAt H' D es (begsR rows gap least) i ∧ ∀ e ∈ es, H1 e = none ∧ e ≠ D)
      ⟨[], Ex.laid x1.tab nD, ⟨upd_same, rfl, List.nodup_nil, fun i e h => by simp at h⟩, fun e h => by simp at h⟩ (fun i H' _ ⟨es, x, _⟩ => ⟨x.sqL (x1.sqL hP.lst), SqL.of (x.lst hr1)⟩) ?_ ?_⟩⟩
    · rintro i v H2 H3 hi ⟨es, x2, t2, f2⟩ ⟨Tp, v1, u, rfl, hn, rfl, hv, hu⟩
      obtain ⟨p, hp, rfl⟩ := get_map hv
      obtain ⟨l, hl, rfl⟩ := get_map hu
      obtain ⟨z, hz2⟩ := getP (xs := rows) (i := i) hi
      have x3 := Ex.laid (o := .tup [.ref p, .ref l]) x2.tab hn
      generalize hH : upd H2 Tp (.tup [.ref p, .ref l]) = H3 at x3 ⊢
      have hTp : H3 Tp = some (.tup [.ref p, .ref l]) := by rw [← hH, upd_same]
      have x23 := x2.trans x3
      refine ⟨Tp, _, rfl, .inl (.inl hTp), rfl, _, _, rfl, _, _, rfl, rfl, rfl, _, rfl, _, rfl, _, rfl, p, l, rows, gap, least, i, z, rfl, hz2, hO, (x1.trans x23).sqT (hP.row i p z hp hz2), (hC i l hl).ext x23.ext, fun q H4 x4 nq hq => ?_⟩
      have t3 := t2.ext x3.ext
      have qD : q ≠ D := fun z => by rw [z, x4 _ _ t3.lst] at hq; have := x4 _ _ t3.lst; rw [← z] at this; rw [z, t3.lst] at nq; cases nq
      refine ⟨_, x4 _ _ t3.lst, by rw [List.length_map, t3.len]; omega, es ++ [q], ex_new x1.tab (x23.trans (ex_same x3.tab x4)) nD, t3.add (same_ext x4) nq hq (fun z => (f2 D z).2 rfl), fun e h => ?_⟩
      rcases List.mem_append.mp h with z | z
      · exact f2 e z
      · rw [List.mem_singleton.mp z]
        exact ⟨x23.old _ nq, qD⟩
    · rintro H2 ⟨es, x2, t2, f2⟩
      exact k D es H2 (x1.trans x2) (x1.old _ nD) (fun e h => ⟨x1.old _ (f2 e h).1, (f2 e h).2⟩) t2
end
end TG
namespace TG
open PySem L2 Gx
theorem ToldAt.go {H H' : Hp} {r : Addr} {es : List Addr} {f : Nat → List Int} {n : Nat} (t : ToldAt H r es f n) (x : Same H H') : ToldAt H' r es f n := t.ext (same_ext x)
section
variable {P : Program} {w : World} {K : PySem.W.Frag} {mg : Str → Option Value} {base : Heap} {cs : List (Addr × Addr)}
/-- the same, told by the law's own way -/
def spToldL (K : PySem.W.Frag) (f : List (List Str) → Int → Int → Nat → List Int) : Sp := fun vs H Q _ => ∃ (a st : Addr) (as : List Addr) (rows : List (List Str)) (gap least : Int), vs = [.ref a, .ref st] ∧ PageAt K H a as rows ∧ PgOk rows ∧ StyleAt K H st gap least ∧
  ∀ (r : Addr) (es : List Addr) (H' : Hp), Same H H' → H r = none → (∀ e ∈ es, H e = none ∧ e ≠ r) → ToldAt H' r es (f rows gap least) rows.length → Q (.ref r) H'
theorem StyleAt.same {H H' : Hp} {a : Addr} {gap least : Int} (p : StyleAt K H a gap least) (e : Same H H') : StyleAt K H' a gap least := ⟨same_sqT e p.tup, p.g0, p.g1, p.l0, p.l1⟩
abbrev nmEnds : List Str := ["_law_page_here", "_law_style_here", "_law_found", "_law_number", "_law_row_here", "_law_column"]
theorem sc_ends : FnScope nmEnds ["_law_page_here", "_law_style_here"] (defScope s_ends) := ⟨rfl, rfl, rfl, by decide +kernel, rfl, by decide +kernel, by decide +kernel⟩
theorem ok_ends {f g : Addr} {fd fdg : FuncData} (T : Txt mg) (F : Fun K "_law_ends" "_law_ends" s_ends f fd)
    (G : FnOk P w K mg base CX0 2 g fdg ["_law_page_here", "_law_style_here", "_law_number", "_law_column"] (spWide K)) (kp : PySem.W.keepIn K (.ref g) = true) (bd : Binds K fdg ["_law_page_here", "_law_style_here", "_law_number", "_law_column"] []) (mgg : mg "_law_wide" = some (.ref g)) :
    FnOk P w K mg base CX0 3 f fd ["_law_page_here", "_law_style_here"] (spToldL K leftsR) := by
  refine F.ok sc_ends (fun vs H Q E h => ?_) (fun cdv A outer s H vs Q E hr h => ?_)
  · obtain ⟨a, st, as, rows, gap, least, rfl, _⟩ := h
    rfl
  · obtain ⟨a, st, as, rows, gap, least, rfl, hP, hO, hS, k⟩ := h
    have nd := sc_ends.nd
    refine ⟨_, pss_cons (ps_set (i := 2) nd rfl (.inl rfl) (pe_lst pa_nil)) (pss_cons (ps_for PassesOwn.never rfl (pi_range1 (by rfl) T.range (pa_cons (pe_callB call_len_seq (by rfl) T.len PySem.boot_len (pa_cons (pv 0) pa_nil)) pa_nil)) (pg_name (i := 3) nd rfl (.inl rfl))
        (pss_cons (ps_set (i := 4) nd rfl (.inl rfl) (pe_lst (pa_cons pe_int pa_nil)))
        (pss_cons (ps_for PassesOwn.never rfl (pi_range1 (by rfl) T.range (pa_cons (pe_op op_sub (pe_callB call_len_seq (by rfl) T.len PySem.boot_len (pa_cons (pe_ix ix_list (pv 0) (pv 3) (fun _ _ => rfl)) pa_nil)) pe_int) pa_nil)) (pg_name (i := 5) nd rfl (.inl rfl))
          (pss_one (ps_expr (pe_bm PySem.F.plainAttrs_list PySem.F.slot_list_append PySem.F.type_list_append mt_append (pv 4) (pa_cons (pe_op op_add (pe_ix ix_list (pv 4) (pe_un un_neg pe_int) (fun _ _ => rfl)) (pe_call G hr (by rfl) mgg kp bd .nil pass0 (pa_cons (pv 0) (pa_cons (pv 1) (pa_cons (pv 3) (pa_cons (pv 5) pa_nil)))))) pa_nil)))))
        (pss_one (ps_expr (pe_bm PySem.F.plainAttrs_list PySem.F.slot_list_append PySem.F.type_list_append mt_append (pv 2) (pa_cons (pv 4) pa_nil)))))))
      (pss_one (ps_ret (pv 2)))), ?_⟩
    have ll := hO.len
    have szl : (1000 : Nat) < sizeLine := by decide
    have las : (as.map V.ref).length = rows.length := by rw [List.length_map, hP.len]
    refine ⟨small0, fun D nD => ⟨_, rfl, a, _, rfl, .inl (same_sqL (same_new nD) hP.lst), ?_⟩⟩
    rw [las]
    refine ⟨_, rfl, by omega, by omega, for_range (n := rows.length) (fun i σ H' => ∃ (es : List Addr) (c3 c4 c5 : Option V), σ = [some (.ref a), some (.ref st), some (.ref D), c3, c4, c5] ∧ Same H H' ∧ ToldAt H' D es (leftsR rows gap least) i ∧ ∀ e ∈ es, H e = none ∧ e ≠ D)
      ⟨[], _, _, _, rfl, same_new nD, ⟨upd_same, rfl, List.nodup_nil, fun i e h => by simp at h⟩, fun e h => by simp at h⟩ ?_ ?_⟩
    · rintro i σ H1 hi ⟨es, c3, c4, c5, rfl, x1, t1, f1⟩
      rw [Int.zero_add]
      obtain ⟨q, hq⟩ := getP (xs := as) (i := i) (by rw [hP.len]; exact hi)
      obtain ⟨r, hr2⟩ := getP hi
      have hrO := hO.rows r (List.mem_of_getElem? hr2)
      have hnc : ncl rows i = r.length - 1 := by unfold ncl; rw [hr2]
      refine ⟨line10 (by show 1 ≤ 1000; decide), fun p np => ⟨_, rfl, _, rfl, a, _, i, .ref q, rfl, rfl, same_sqL (same_trans x1 (same_new np)) hP.lst, atI_nat (by rw [List.getElem?_map, hq]; rfl), q, _, rfl, .inr (same_sqT (same_trans x1 (same_new np)) (hP.row i q r hq hr2)), _, 1, rfl, rfl, ?_⟩⟩
      have en : (((sV r).length : Nat) : Int) - 1 = (ncl rows i : Int) := by
        have := hrO.pos
        rw [List.length_map, hnc]
        omega
      have n5 := ncl_le hO i
      have t2 := t1.go (same_new (o := .lst [.int 0]) np)
      have x2 : Same H (upd H1 p (.lst [.int 0])) := same_trans x1 (same_new np)
      refine ⟨(ncl rows i : Int), congrArg (fun z => [V.int z]) en, by omega, by omega, for_range (n := ncl rows i) (fun j σ H' => ∃ c5 : Option V, σ = [some (.ref a), some (.ref st), some (.ref D), some (.int (i : Nat)), some (.ref p), c5] ∧ Same H1 H' ∧ H' p = some (.lst ((leftsB rows gap least i j).map V.int)))
        ⟨_, rfl, same_new np, upd_same⟩ ?_ ?_⟩
      · rintro j σ H2 hj ⟨c5, rfl, y2, hp2⟩
        rw [Int.zero_add]
        have hcl : clB rows j i = true := by rw [cl_ncl]; exact decide_eq_true hj
        have xy := same_trans x1 y2
        refine ⟨_, rfl, .inl ⟨rfl, _, SqL.of hp2⟩, _, rfl, 1, rfl, p, _, -1, _, rfl, rfl, SqL.of hp2, lefts_at .., _, rfl, _, rfl, _, rfl, _, rfl, a, st, as, rows, gap, least, i, j, rfl, hP.same xy, hO, hS.same xy, hcl, fun H3 y3 => ⟨_, _, rfl, rfl, p, _, _, rfl, rfl, y3 _ _ hp2, by rw [List.length_map, lefts_len]; omega, ⟨_, rfl, same_upd (same_trans y2 y3) np, ?_⟩⟩⟩
        rw [upd_same, lefts_snoc, List.map_append]
        rfl
      · rintro σ H2 ⟨c5, rfl, y2, hp2⟩
        have t3 := t1.go y2
        have pD : p ≠ D := fun z => by rw [z, t1.lst] at np; cases np
        refine ⟨_, rfl, .inl ⟨rfl, _, SqL.of t3.lst⟩, _, rfl, D, _, .ref p, rfl, rfl, t3.lst, by rw [List.length_map, t3.len]; omega, ⟨es ++ [p], _, _, _, rfl, same_upd (same_trans x1 y2) nD, t1.add (same_ext y2) np hp2 (fun z => (f1 D z).2 rfl), fun e h => ?_⟩⟩
        rcases List.mem_append.mp h with z | z
        · exact f1 e z
        · rw [List.mem_singleton.mp z]
          exact ⟨same_old x1 np, pD⟩
    · rintro σ H1 ⟨es, c3, c4, c5, rfl, x1, t1, f1⟩
      exact ⟨_, rfl, k D es H1 x1 nD f1 t1⟩
end
end TG
namespace TG
open PySem L2 Gx
theorem ToldAt.congr {H : Hp} {r : Addr} {es : List Addr} {f g : Nat → List Int} {n : Nat} (t : ToldAt H r es f n) (e : ∀ i, i < n → f i = g i) : ToldAt H r es g n :=
  ⟨t.lst, t.len, t.nd, fun i u h => by rw [← e i (by rw [← t.len]; exact (List.getElem?_eq_some_iff.mp h).1)]; exact t.at_ i u h⟩
theorem ToldAt.put {H : Hp} {r : Addr} {es : List Addr} {f : Nat → List Int} {n i : Nat} {e : Addr} {xs : List Int} (t : ToldAt H r es f n) (he : es[i]? = some e) (ne : e ≠ r) : ToldAt (upd H e (.lst (xs.map V.int))) r es (fun k => if k = i then xs else f k) n := by
  refine ⟨by rw [upd_ne ne.symm]; exact t.lst, t.len, t.nd, fun k u h => ?_⟩
  by_cases q : k = i
  · subst q
    rw [he] at h
    cases h
    rw [upd_same, if_pos rfl]
  · rw [if_neg q, upd_ne (fun z => q (nd_ix t.nd h (by rw [z]; exact he)))]
    exact t.at_ k u h
section
variable {P : Program} {w : World} {K : PySem.W.Frag} {mg : Str → Option Value} {base : Heap} {cs : List (Addr × Addr)}
abbrev nmBegins : List Str := ["_law_page_here", "_law_style_here", "_law_found", "_law_number", "_law_lefts", "_law_column", "_law_end"]
theorem sc_begins : FnScope nmBegins ["_law_page_here", "_law_style_here"] (defScope s_begins) := ⟨rfl, rfl, rfl, by decide +kernel, rfl, by decide +kernel, by decide +kernel⟩
theorem ok_begins {f g g2 : Addr} {fd fdg fd2 : FuncData} (T : Txt mg) (F : Fun K "_law_begins" "_law_begins" s_begins f fd)
    (G : FnOk P w K mg base CX0 3 g fdg ["_law_page_here", "_law_style_here"] (spToldL K leftsR)) (kp : PySem.W.keepIn K (.ref g) = true) (bd : Binds K fdg ["_law_page_here", "_law_style_here"] []) (mgg : mg "_law_ends" = some (.ref g))
    (G2 : FnOk P w K mg base CX0 2 g2 fd2 ["_law_page_here", "_law_number", "_law_column"] (spTurned K)) (kp2 : PySem.W.keepIn K (.ref g2) = true) (bd2 : Binds K fd2 ["_law_page_here", "_law_number", "_law_column"] []) (mg2 : mg "_law_turned" = some (.ref g2)) :
    FnOk P w K mg base CX0 4 f fd ["_law_page_here", "_law_style_here"] (spToldL K begsR) := by
  refine F.ok sc_begins (fun vs H Q E h => ?_) (fun cdv A outer s H vs Q E hr h => ?_)
  · obtain ⟨a, st, as, rows, gap, least, rfl, _⟩ := h
    rfl
  · obtain ⟨a, st, as, rows, gap, least, rfl, hP, hO, hS, k⟩ := h
    have nd := sc_begins.nd
    have hr2' : Room 2 _ := hr.mono (by decide)
    refine ⟨_, pss_cons (ps_set (i := 2) nd rfl (.inl rfl) (pe_call G hr (by rfl) mgg kp bd .nil pass0 (pa_cons (pv 0) (pa_cons (pv 1) pa_nil)))) (pss_cons (ps_for PassesOwn.never rfl (pi_range1 (by rfl) T.range (pa_cons (pe_callB call_len_seq (by rfl) T.len PySem.boot_len (pa_cons (pv 0) pa_nil)) pa_nil)) (pg_name (i := 3) nd rfl (.inl rfl))
        (pss_cons (ps_set (i := 4) nd rfl (.inl rfl) (pe_callTy call_list_of (by rfl) T.list (by decide +kernel) (pa_cons (pe_ix ix_list (pv 2) (pv 3) (fun _ _ => rfl)) pa_nil)))
        (pss_one (ps_for PassesOwn.never rfl (pi_range1 (by rfl) T.range (pa_cons (pe_op op_sub (pe_callB call_len_seq (by rfl) T.len PySem.boot_len (pa_cons (pe_ix ix_list (pv 0) (pv 3) (fun _ _ => rfl)) pa_nil)) pe_int) pa_nil)) (pg_name (i := 5) nd rfl (.inl rfl))
          (pss_one (ps_if (pt_val (pe_call G2 hr2' (by rfl) mg2 kp2 bd2 .nil pass0 (pa_cons (pv 0) (pa_cons (pv 3) (pa_cons (pv 5) pa_nil)))))
            (pss_cons (ps_set (i := 6) nd rfl (.inl rfl) (pe_op op_sub (pe_ix ix_list (pv 4) (pe_op op_add (pv 5) pe_int) (fun _ _ => rfl)) (pe_ix ix_tup (pv 1) pe_int (fun _ _ => rfl))))
            (pss_one (ps_asg (pe_op op_sub (pv 6) (pe_callB call_len_str (by rfl) T.len PySem.boot_len (pa_cons (pe_ix ix_tup (pe_ix ix_list (pv 0) (pv 3) (fun _ _ => rfl)) (pv 5) (fun _ _ => rfl)) pa_nil))) (pg_sub (pe_ix ix_list (pv 2) (pv 3) (fun _ _ => rfl)) (pv 5) set_list)))) pss_nil))))))
      (pss_one (ps_ret (pv 2)))), ?_⟩
    have ll := hO.len
    have szl : (1000 : Nat) < sizeLine := by decide
    have las : (as.map V.ref).length = rows.length := by rw [List.length_map, hP.len]
    refine ⟨_, rfl, _, rfl, a, st, as, rows, gap, least, rfl, hP, hO, hS, fun D es H1 x1 nD f1 t1 => ⟨_, rfl, a, _, rfl, .inl (same_sqL x1 hP.lst), ?_⟩⟩
    rw [las]
    refine ⟨_, rfl, by omega, by omega, for_range (n := rows.length) (fun i σ H' => ∃ (c3 c4 c5 c6 : Option V), σ = [some (.ref a), some (.ref st), some (.ref D), c3, c4, c5, c6] ∧ Same H H' ∧ ToldAt H' D es (fun k => if k < i then begsR rows gap least k else leftsR rows gap least k) rows.length)
      ⟨_, _, _, _, rfl, x1, t1.congr fun i _ => by rw [if_neg (Nat.not_lt_zero _)]⟩ ?_ ?_⟩
    · rintro i σ H2 hi ⟨c3, c4, c5, c6, rfl, x2, t2⟩
      rw [Int.zero_add]
      obtain ⟨q, hq⟩ := getP (xs := as) (i := i) (by rw [hP.len]; exact hi)
      obtain ⟨r, hr2⟩ := getP hi
      obtain ⟨e, he⟩ := getP (xs := es) (i := i) (by rw [t2.len]; exact hi)
      obtain ⟨ne0, neD⟩ := f1 e (List.mem_of_getElem? he)
      have hrO := hO.rows r (List.mem_of_getElem? hr2)
      have hnc : ncl rows i = r.length - 1 := by unfold ncl; rw [hr2]
      have n5 := ncl_le hO i
      have hee := t2.at_ i e he
      rw [if_neg (Nat.lt_irrefl _)] at hee
      refine ⟨_, rfl, _, rfl, D, _, i, .ref e, rfl, rfl, SqL.of t2.lst, atI_nat (by rw [List.getElem?_map, he]; rfl), e, _, rfl, .inl (SqL.of hee), fun p np => ?_⟩
      have y2 : Same H2 (upd H2 p (.lst ((leftsR rows gap least i).map V.int))) := same_new np
      have x3 := same_trans x2 y2
      refine ⟨_, rfl, _, rfl, a, _, i, .ref q, rfl, rfl, same_sqL x3 hP.lst, atI_nat (by rw [List.getElem?_map, hq]; rfl), q, _, rfl, .inr (same_sqT x3 (hP.row i q r hq hr2)), _, 1, rfl, rfl, ?_⟩
      have en : (((sV r).length : Nat) : Int) - 1 = (ncl rows i : Int) := by
        have := hrO.pos
        rw [List.length_map, hnc]
        omega
      have np0 := same_old x2 np
      have pD : p ≠ D := fun z => by rw [z, t2.lst] at np; cases np
      have pe : p ≠ e := fun z => by rw [z, hee] at np; cases np
      refine ⟨(ncl rows i : Int), congrArg (fun z => [V.int z]) en, by omega, by omega, for_range (n := ncl rows i) (fun j σ H' => ∃ (c5 c6 : Option V), σ = [some (.ref a), some (.ref st), some (.ref D), some (.int (i : Nat)), some (.ref p), c5, c6] ∧ Same H H' ∧ H' p = some (.lst ((leftsR rows gap least i).map V.int)) ∧ ToldAt H' D es (fun k => if k < i then begsR rows gap least k else if k = i then begsTo rows gap least i j else leftsR rows gap least k) rows.length)
        ⟨_, _, rfl, x3, upd_same, (t2.go y2).congr fun k _ => ?_⟩ ?_ ?_⟩
      · by_cases z : k < i
        · rw [if_pos z, if_pos z]
        · by_cases z2 : k = i
          · rw [if_neg z, if_neg z, if_pos z2, z2, begs_zero]; rfl
          · rw [if_neg z, if_neg z, if_neg z2]
      · rintro j σ H3 hj ⟨c5, c6, rfl, x4, hp3, t3⟩
        rw [Int.zero_add]
        have hcl : clB rows j i = true := by rw [cl_ncl]; exact decide_eq_true hj
        have hjr : j < r.length := by omega
        have zl := (hrO.cells _ (List.getElem_mem hjr)).len
        refine ⟨_, rfl, _, rfl, _, rfl, a, as, rows, i, j, rfl, hP.same x4, hO, hcl, fun H4 y4 => ⟨_, rfl, ?_⟩⟩
        have x5 := same_trans x4 y4
        have hp4 := y4 _ _ hp3
        have t4 := t3.go y4
        cases hrb : rB rows i j with
        | false =>
          refine iteF ⟨_, _, rfl, x5, hp4, t4.congr fun k _ => ?_⟩
          rw [begs_no hrb]
        | true =>
          have ec : lenC rows i j = (((r[j]'hjr).length : Nat) : Int) := by
            unfold lenC
            rw [show rows.getD i [] = r by rw [List.getD_eq_getElem?_getD, hr2]; rfl, List.getD_eq_getElem?_getD, List.getElem?_eq_getElem hjr]
            rfl
          have he4 := t4.at_ i e he
          rw [if_neg (Nat.lt_irrefl _), if_pos rfl] at he4
          refine iteT ⟨_, rfl, _, rfl, j, 1, rfl, rfl, p, _, ((j + 1 : Nat) : Int), _, rfl, rfl, SqL.of hp4, atI_nat (by rw [List.getElem?_map]; unfold leftsR; rw [lefts_get (by omega)]; rfl), _, rfl, st, _, 0, .int gap, rfl, rfl, same_sqT x5 hS.tup, at0, _, _, rfl, rfl, ?_⟩
          refine ⟨_, rfl, _, rfl, _, rfl, a, _, i, .ref q, rfl, rfl, same_sqL x5 hP.lst, atI_nat (by rw [List.getElem?_map, hq]; rfl), _, rfl, q, _, j, _, rfl, rfl, same_sqT x5 (hP.row i q r hq hr2), atI_nat (by rw [List.getElem?_map, List.getElem?_eq_getElem hjr]; rfl), _, rfl, line10 (by omega), _, _, rfl, rfl, _, rfl, _, rfl, D, _, i, .ref e, rfl, rfl, SqL.of t4.lst, atI_nat (by rw [List.getElem?_map, he]; rfl), _, rfl, e, _, j, j, rfl, rfl, he4, ?_, ⟨_, _, rfl, same_upd x5 ne0, by rw [upd_ne pe]; exact hp4, ?_⟩⟩
          · rw [List.length_map, begs_len]
            unfold ixN
            rw [if_pos (by omega), if_pos (by omega)]
            rfl
          · rw [set_map, ← ec, begs_yes hj hrb]
            refine (t4.put he neD).congr fun k _ => ?_
            by_cases z : k = i
            · rw [if_pos z, if_neg (by omega), if_pos z]
            · rw [if_neg z, if_neg z, if_neg z]
      · rintro σ H3 ⟨c5, c6, rfl, x4, hp3, t3⟩
        refine ⟨_, _, _, _, rfl, x4, t3.congr fun k _ => ?_⟩
        by_cases z : k < i
        · rw [if_pos z, if_pos (by omega)]
        · by_cases z2 : k = i
          · rw [if_neg z, if_pos z2, if_pos (by omega), z2]; rfl
          · rw [if_neg z, if_neg z2, if_neg (by omega)]
    · rintro σ H2 ⟨c3, c4, c5, c6, rfl, x2, t2⟩
      exact ⟨_, rfl, k D es H2 x2 nD f1 (t2.congr fun i hi => by rw [if_pos hi])⟩
end
end TG
namespace TG
open PySem L2 Gx
def rowsD (rows : List (List Str)) : List PyData := rows.map fun r => .tuple (r.map .str)
theorem dp_rows {K : PySem.W.Frag} {H : Hp} : ∀ {as : List Addr} {rows : List (List Str)}, as.length = rows.length → (∀ (i : Nat) (q : Addr) (r : List Str), as[i]? = some q → rows[i]? = some r → SqT K H q (sV r)) → DpAll K H (as.map V.ref) (rowsD rows)
  | [], [], _, _ => .nil
  | [], _ :: _, h, _ => by simp at h
  | _ :: _, [], h, _ => by simp at h
  | a :: as, r :: rows, h, k => .cons (.tup (k 0 a r rfl rfl) (dp_strs r)) (dp_rows (by simpa using h) fun i q r' h1 h2 => k (i + 1) q r' (by simpa using h1) (by simpa using h2))
theorem canAll_rows : ∀ {rows : List (List Str)}, (∀ r ∈ rows, ∀ z ∈ r, CellOk z) → PyData.canLayAll0 (rowsD rows) = true
  | [], _ => rfl
  | r :: rows, h => by
    show PyData.canLayAll0 (.tuple (r.map .str) :: rowsD rows) = true
    simp only [PyData.canLayAll0, PyData.canLay0, Bool.and_eq_true]
    exact ⟨canAll_strs fun z hz => (h r List.mem_cons_self z hz).sg, canAll_rows fun r' hr => h r' (List.mem_cons_of_mem _ hr)⟩
theorem depthAll_rows : ∀ rows : List (List Str), PyData.depthAll (rowsD rows) ≤ 1
  | [] => Nat.zero_le _
  | r :: rows => by
    show PyData.depthAll (.tuple (r.map .str) :: rowsD rows) ≤ 1
    simp only [PyData.depthAll, PyData.depth, depthAll_strs]
    have := depthAll_rows rows
    omega
theorem can_rows {rows : List (List Str)} (h : PgOk rows) : PyData.canLay0 (.list (rowsD rows)) = true := by
  simp only [PyData.canLay0]
  exact canAll_rows fun r hr z hz => (h.rows r hr).cells z hz
theorem shaped_rows {rows : List (List Str)} (h : PgOk rows) : SeqAt.shaped (.list (rowsD rows)) = true := by
  have := depthAll_rows rows
  unfold SeqAt.shaped
  rw [can_rows h, Bool.true_and]
  exact decide_eq_true (by simp only [PyData.depth]; omega)
theorem tabs_kb {cs : List (Addr × Addr)} {b l : Addr} {H H' : Hp} (t : Tabs cs H) (B : BoxAt H b l) (x : KB b l H H') : Tabs cs H' := fun p hp => by
  obtain ⟨ps, h1, h2⟩ := t p hp
  obtain ⟨ns, st, e1, e2, _⟩ := B
  exact ⟨ps, x _ _ h1 (ne_of h1 e1 (by intro z; cases z)) (ne_of h1 e2 (by intro z; cases z)), h2⟩
theorem box_ext {b l : Addr} {H H' : Hp} (B : BoxAt H b l) (x : LamX.ExtN H H') : BoxAt H' b l := let ⟨ns, st, h1, h2, h3⟩ := B; ⟨ns, st, x _ _ h1 (by intro ps z; cases z), x _ _ h2 (by intro ps z; cases z), h3⟩
/-- what stands in a turn of the law: the box, the tables, the page and its copy, the style -/
structure PageT (cs : List (Addr × Addr)) (b l p q h : Addr) (as : List Addr) (rows : List (List Str)) (gap least : Int) (H : Hp) : Prop where
  box : BoxAt H b l
  tab : Tabs cs H
  pg : H p = some (.lst (as.map V.ref))
  hd : H h = some (.lst (as.map V.ref))
  al : as.length = rows.length
  row : ∀ (i : Nat) (a : Addr) (z : List Str), as[i]? = some a → rows[i]? = some z → H a = some (.tup (sV z))
  sty : H q = some (.tup [.int gap, .int least])
  g0 : 0 ≤ gap
  g1 : gap ≤ 4
  l0 : 0 ≤ least
  l1 : least ≤ 12
  ok : PgOk rows
theorem PageT.ext {cs : List (Addr × Addr)} {b l p q h : Addr} {as : List Addr} {rows : List (List Str)} {gap least : Int} {H H' : Hp} (t : PageT cs b l p q h as rows gap least H) (x : LamX.ExtN H H') (y : Tabs cs H') : PageT cs b l p q h as rows gap least H' :=
  ⟨box_ext t.box x, y, x _ _ t.pg (by intro ps z; cases z), x _ _ t.hd (by intro ps z; cases z), t.al, fun i a z h1 h2 => x _ _ (t.row i a z h1 h2) (by intro ps z; cases z), x _ _ t.sty (by intro ps z; cases z), t.g0, t.g1, t.l0, t.l1, t.ok⟩
end TG
namespace Zm
open PySem PySem.Spec PyProof.Rows L2
section
variable {P : Program} {w : World} {A : Around} {E : Value → Shared → Prop} {s : Shared} {z TI TO i1 i2 l1 l2 : Addr}
end
end Zm
namespace Zm
open PySem PySem.Spec PyProof.Rows L2
abbrev k1 (h : Heap) (a : Addr) : Heap := h.push { cls := .type "tuple_iterator", data := .fields #[.ref a, .int 0 0] }
abbrev k2 (h : Heap) (a b : Addr) : Heap := (k1 h a).push { cls := .type "list_iterator", data := .fields #[.ref b, .int 0 0] }
abbrev k3 (h : Heap) (a b : Addr) : Heap := (k2 h a b).push { cls := .type "tuple", data := .seq #[.ref h.objs.size, .ref (k1 h a).objs.size] }
abbrev k4 (h : Heap) (a b : Addr) : Heap := (k3 h a b).push { cls := .type "tuple", data := .seq #[.none, .none] }
abbrev k5 (h : Heap) (a b : Addr) : Heap := (k4 h a b).push { cls := .type "zip", data := .fields #[.none, .bool false, .bool false, .ref (k2 h a b).objs.size, .ref (k3 h a b).objs.size] }
theorem made (a b : Addr) (xs ys : Array Value) : Meets (Builtin.«zip.__new__» ⟨[.type "zip", .ref a, .ref b], []⟩) (fun _ R t => t.heap.IsTuple a xs ∧ t.heap.IsList b ys ∧ R (.ok (.ret (.ref (k4 t.heap a b).objs.size))) { t with heap := k5 t.heap a b }) :=
  .of_wp fun P w A R t h => by
    obtain ⟨hp, g, d, tk, os⟩ := t
    obtain ⟨u1, u2, h⟩ := h
    have hsub := sub_zip
    have v1 : Heap.IsTuple (Shared.heap ⟨hp, g, d, tk, os⟩) a xs := u1
    have v2 : Heap.IsList (Shared.heap ⟨hp.push { cls := .type "tuple_iterator", data := .fields #[.ref a, .int 0 0] }, g, d, tk, os⟩) b ys := Heap.IsList.push u2 _
    wp_walk using wpAny_pyIter_tuple v1, wpAny_pyIter_list v2
    exact ⟨_, rfl, h⟩
section
variable {P : Program} {w : World} {A : Around} {E : Value → Shared → Prop} {s : Shared}
end
end Zm
namespace TG
open PySem L2 Gx
section
variable {P : Program} {w : World} {K : PySem.W.Frag} {mg : Str → Option Value} {base : Heap} {cs : List (Addr × Addr)}
theorem begs_get {rows : List (List Str)} {gap least : Int} {i c : Nat} (h : c ≤ ncl rows i) : (begsR rows gap least i)[c]? = some (begC rows gap least i (ncl rows i) c) := by
  unfold begsR begsTo
  rw [List.getElem?_map, List.getElem?_range (by omega)]
  rfl
end
end TG
namespace TG
open PySem L2 Gx
section
variable {P : Program} {w : World} {K : PySem.W.Frag} {mg : Str → Option Value} {base : Heap} {cs : List (Addr × Addr)}
end
end TG

namespace EnT
open PySem PySem.Spec PyProof.Rows L2
/-! ### enumerate over a tuple -/
theorem newClass_enum (v : Value) : Builtin.SmallTypes.newClass "enumerate" { pos := [Value.type "enumerate", v] } = pure (Value.type "enumerate", [v]) := by
  simp [Builtin.SmallTypes.newClass, show isType (Value.type "enumerate") = pure true from rfl, sub_enumerate]
theorem meets_enum1 (v : Value) (o : Obj) (H : Heap → Prop) (b : Begins v o H) : Meets (Builtin.«enumerate.__new__» { pos := [Value.type "enumerate", v] }) fun _ R s =>
    H s.heap ∧ R (Except.ok (Flow.ret (Value.ref (s.heap.push o).objs.size))) { heap := (s.heap.push o).push { cls := Value.type "enumerate", data := Data.fields #[Value.none, Value.bool false, Value.ref s.heap.objs.size, rawInt 0, Value.none, Value.none] }, gens := s.gens, drawn := s.drawn, toks := s.toks, os := s.os } := by
  intro prog w A R s ⟨h1, h2⟩
  unfold Builtin.«enumerate.__new__»
  rw [newClass_enum]
  refine wpAny_bind (wpAny_pure ?_)
  simp only [beq_self_eq_true, if_true]
  have key : ∀ s' : Shared, s' = s → wpAny (model prog w) A.in1 (do
      let __do_lift ← pyIter v
      let __do_lift ← Builtin.SmallTypes.newRecord (Value.type "enumerate") (Builtin.SmallTypes.ownedTupleFields ++ [__do_lift, rawInt 0, Value.none, Value.none])
      ret __do_lift) (fun fin s' => match fin with
          | Fin.done f => R (Except.ok f) s'
          | Fin.again c' => c'.quiet = true ∧ codeAny (model prog w) A c' R s') (fun e s' => R (Except.error e) s') s' := by
    rintro s' rfl
    refine wpAny_bind (b.iter prog w A.in1 _ s' _ h1 (wpAny_bind ?_))
    refine wpAny_newObj_type (T := "enumerate") (data := Data.fields #[Value.none, Value.bool false, Value.ref s'.heap.objs.size, rawInt 0, Value.none, Value.none]) (dict := none) ?_
    exact wpAny_pure h2
  refine wpAny_bind ?_
  unfold Builtin.SmallTypes.calledThroughType
  refine wpAny_bind (wpAny_stack fun st _ _ _ => ?_)
  refine wpAny_pure ?_
  exact iteInduction (motive := fun m => wpAny (model prog w) A.in1 m _ _ s) (fun _ => key s rfl) (fun _ => key s rfl)
theorem ao1 (obj v : Value) : argsOk "object.__init__" { pos := obj :: [v] } := by
  constructor <;> rfl
theorem call_enum1 {prog : Program} {w : World} {A : Around} {E : Value → Shared → Prop} {s : Shared} {v : Value} {o : Obj} {H : Heap → Prop} {Q : Value → Shared → Prop} (b : Begins v o H) (h : H s.heap)
    (k : ∀ h' : Heap, IsEnum h' (s.heap.objs.size + 1) s.heap.objs.size 0 Value.none → h'.get? s.heap.objs.size = some o → h'.objs.size = s.heap.objs.size + 2 → (∀ (b : Addr) (o : Obj), s.heap.get? b = some o → h'.get? b = some o) →
      Q (.ref (s.heap.objs.size + 1)) { s with heap := h' }) : wpAny (model prog w) A (call (Value.type "enumerate") [v]) Q E s := by
  have e1 : (s.heap.push o).objs.size = s.heap.objs.size + 1 := Array.size_push ..
  refine callType_new F.called_enumerate (by decide) (F.typeCall_enumerate_1 v) (F.newCall_enumerate_1 v) (fun obj => ao1 obj v) F.entry_enumerate_new (meets_enum1 v o H b) ⟨h, ?_⟩
  have n1 : ∀ (b : Addr) (u : Obj), s.heap.get? b = some u → (s.heap.push o).get? b = some u := fun b u q => Heap.get?_push_of_some _ q
  have g1 : (s.heap.push o).get? s.heap.objs.size = some o := Heap.get?_push_size _ b.free
  have g2 : ((s.heap.push o).push { cls := Value.type "enumerate", data := Data.fields #[Value.none, Value.bool false, Value.ref s.heap.objs.size, rawInt 0, Value.none, Value.none] }).get? (s.heap.push o).objs.size = some { cls := Value.type "enumerate", data := Data.fields #[Value.none, Value.bool false, Value.ref s.heap.objs.size, rawInt 0, Value.none, Value.none] } := Heap.get?_push_size _ rfl
  refine ⟨⟨_, g2, rfl⟩, ?_⟩
  rw [e1] at g2 ⊢
  exact k _ g2 (Heap.get?_push_of_some _ g1) (by show (Array.push _ _).size = _; rw [Array.size_push]; show (s.heap.objs.push o).size + 1 = _; rw [Array.size_push]) fun b u q => Heap.get?_push_of_some _ (n1 b u q)
/-- as Ite, over a tuple -/
def Itet (K : PySem.W.Frag) (a : Addr) : It where
  go := fun i H => ∃ xs x, SqT K H a xs ∧ xs[i]? = some x
  yld := fun i H v H' => ∃ (T : Addr) (x : V), v = .ref T ∧ H T = none ∧ H' = upd H T (.tup [.int (i : Nat), x]) ∧ ∀ xs : List V, SqT K H a xs → xs[i]? = some x
  stop := fun i H => ∃ xs, SqT K H a xs ∧ xs.length = i
theorem vals_get {xs : List V} {us : List Value} (h : Vals xs us) : ∀ {i : Nat} {x : V} {u : Value}, xs[i]? = some x → us.toArray[i]? = some u → RelV x u := by
  induction h with
  | nil => intro i x u e _; cases e
  | cons r _ ih =>
    intro i x u e1 e2
    cases i with
    | zero =>
      simp at e1 e2
      rw [← e1, ← e2]
      exact r
    | succ i =>
      simp at e1 e2
      exact ih e1 (by simpa using e2)
theorem turn_enumT {P : Program} {w : World} {K : PySem.W.Frag} {elts : List Expr} {kk : Nat} {tpos : Pos} (a e it : Addr) (nei : e ≠ it) (nai : a ≠ it) (nae : a ≠ e) :
    Turn P w K (.Tuple elts kk tpos) (Itet K a) [e, it] e fun i h => (∃ old, IsEnum h e it (i : Nat) old) ∧ h.IsTupleIter it a i := by
  have hni : e ∉ [it, a] := fun z => by
    simp only [List.mem_cons, List.not_mem_nil, or_false] at z
    rcases z with z | z
    · exact nei z
    · exact nae z.symm
  refine ⟨List.mem_cons_self, fun i h hh b hb => ?_, fun i h h' hh k => ?_, ?_, ?_, fun A i s Q E hh q => ?_⟩
  · obtain ⟨⟨old, h1⟩, o, h2, h3, h4⟩ := hh
    simp only [List.mem_cons, List.not_mem_nil, or_false] at hb
    rcases hb with rfl | rfl
    · exact ⟨_, h1, fun v z => by cases z⟩
    · exact ⟨o, h2, fun v z => by rw [h4] at z; cases z⟩
  · obtain ⟨⟨old, h1⟩, o, h2, h3⟩ := hh
    exact ⟨⟨old, k e (by simp) _ h1⟩, o, k it (by simp) _ h2, h3⟩
  · intro X hP hw hK hc i pins s σ H E I hfp hh hgo
    subst hP hw hK
    obtain ⟨⟨old, hE⟩, hI⟩ := hh
    obtain ⟨xs, x, hS, hx⟩ := hgo
    obtain ⟨its, hv, ht, hl⟩ := I.tuple hS
    have W := WalksT.enumerateD (Draws.tuple (prog := X.prog) (w := X.w) (A := X.A.in1) (I.ok.hd hc) it a nai its.toArray) e nei hni (by simp)
    have hlen := hv.length
    have hi : i < xs.length := (List.getElem?_eq_some_iff.mp hx).1
    refine W.item i s _ E (by simp; omega) ⟨⟨old, hE⟩, hI, ht⟩ fun T vals h' tk hPt hsz hT hMid hk => ⟨_, rfl, ?_⟩
    refine W.go elts kk tpos i T _ _ E hMid fun h'' hSt hk2 => ?_
    obtain ⟨t, u, hu, rfl⟩ := hPt
    have hTn : H T = none := I.hok.fresh hsz
    have hTw := W.apart i T h' hMid
    have hT2 : h''.IsTuple T #[.int (i : Nat) t, u] := by
      obtain ⟨o, q1, q2⟩ := hT
      exact ⟨o, hk2 T o hTw q1, q2⟩
    refine ⟨.ref T, upd H T (.tup [.int (i : Nat), x]), I.turnedNew (ch := [e, it]) (fun b o hb q => hk2 b o hb (hk b o hb q)) hfp hsz ?_, rfl, ⟨T, x, rfl, hTn, rfl, fun ys hy => ?_⟩, ⟨hSt.1, hSt.2.1⟩, fun b hb => ?_⟩
    · simp only [ObjOk]
      exact ⟨by show 2 ≤ sizeLine; decide, [_, _], .cons ⟨t, rfl⟩ (.cons (vals_get hv hx hu) .nil), hT2⟩
    · rw [I.tuple_inj hy hS]; exact hx
    · rw [upd_ne fun z : b = T => hTw (by rw [← z]; exact hb)]
      exact (hfp b hb).1
  · intro X hP hw hK hc i pins s σ H E I hfp hh hst
    subst hP hw hK
    obtain ⟨⟨old, hE⟩, hI⟩ := hh
    obtain ⟨xs, hS, rfl⟩ := hst
    obtain ⟨its, hv, ht, hl⟩ := I.tuple hS
    have W := WalksT.enumerateD (Draws.tuple (prog := X.prog) (w := X.w) (A := X.A.in1) (I.ok.hd hc) it a nai its.toArray) e nei hni (by simp)
    have hlen := hv.length
    have en : its.toArray.size = xs.length := by simp; omega
    rw [en] at W
    exact W.done s _ E ⟨⟨old, hE⟩, hI, ht⟩ fun h' tk hk => ⟨rfl, I.turnedL (ch := [e, it]) hk hfp⟩
  · obtain ⟨⟨old, hE⟩, _⟩ := hh
    exact wpAny_pyIter_enum hE q
def iEnumT (K : PySem.W.Frag) (te : TE) : TI := fun σ H R => te σ H fun v H1 => ∃ a xs, v = .ref a ∧ SqT K H1 a xs ∧ R (Itet K a) H1
theorem pi_enumT {X : Cx} {e : Expr} {te : TE} {p pos tpos : Pos} {elts : List Expr} {kk : Nat} (hg : Gl X "enumerate") (hm : X.mg "enumerate" = none) (he : PE X e te) (hs : starEach [e] X.env = [(false, eval e X.env)] := by rfl) :
    PI X (.Tuple elts kk tpos) (.Call (.Name "enumerate" p) [e] [] pos) (iEnumT X.K te) := by
  refine ⟨fun pins s σ H R I h => ?_⟩
  refine wpAny_Call_Name_kw (ld_blt I hg hm boot_enumerate ?_)
  rw [hs]
  refine callWith_type1 (thn (he.run pins s σ H _ I h) fun v s1 ⟨x, H1, I1, r, a, xs, ex, hS, hR⟩ => ?_)
  subst ex
  obtain rfl : v = .ref a := r
  obtain ⟨its, hv, ht, hl⟩ := I1.tuple hS
  refine call_enum1 (begins_tuple a its.toArray) ht fun h' hE hit hsz hk => ?_
  have ha : a < s1.heap.objs.size := by
    obtain ⟨o, q, _⟩ := ht
    exact Heap.lt_size q
  refine wpAny_pyIter_enum hE ⟨s1.heap.objs.size + 1, [s1.heap.objs.size + 1, s1.heap.objs.size], _, Itet X.K a, H1, rfl, I1.kept hk, turn_enumT a (s1.heap.objs.size + 1) s1.heap.objs.size (Nat.succ_ne_self _) (Nat.ne_of_lt ha) (Nat.ne_of_lt (Nat.lt_succ_of_lt ha)), ⟨⟨_, hE⟩, _, hit, rfl, rfl⟩, fun b hb => ?_, hR⟩
  simp only [List.mem_cons, List.not_mem_nil, or_false] at hb
  rcases hb with rfl | rfl
  · exact I1.fpOk (Nat.le_succ _) (I1.hok.fresh (Nat.le_succ _))
  · exact I1.fpOk (Nat.le_refl _) (I1.hok.fresh (Nat.le_refl _))
theorem walk_enumT {K : PySem.W.Frag} {a : Addr} {xs : List V} : Walk (Itet K a) xs.length (fun H => SqT K H a xs) (YPair (fun i => some (.int (i : Nat))) fun i => xs[i]?) := by
  refine ⟨fun i H hi h => ?_, fun H h => ⟨xs, h, rfl⟩, fun i H x H' hi h hy => ?_⟩
  · exact ⟨xs, xs[i], h, List.getElem?_eq_getElem hi⟩
  · obtain ⟨T, v, rfl, hn, rfl, hx⟩ := hy
    exact ⟨T, _, v, rfl, hn, rfl, rfl, hx xs h⟩
end EnT

namespace TG
open PySem PySem.Spec PyProof.Rows L2 Gx EnT
/-! ### comprehensions of two for's -/
abbrev InW (J1 : It) (g1 : TG) (tt1 : TT) (te : TE) (vs1 : List Nat) (σ2 : L2.St) (D : Addr) (H4 : Hp) (Nx : Hp → Prop) : Prop := ∃ W1 : Nat → Nat → Hp → Prop, (∃ m, W1 0 m H4) ∧ ∀ (j k : Nat) (H : Hp), W1 j k H → J1.stop j H ∧ Nx H ∨ J1.go j H ∧ ∃ Nx1 : Hp → Prop, (∀ H', Nx1 H' → ∃ k', k' < k ∧ W1 (j + 1) k' H') ∧
  ∀ (x : V) (H' : Hp), J1.yld j H x H' → g1 x (wipe σ2 vs1) H' fun σ3 H5 => wipe σ3 vs1 = wipe σ2 vs1 ∧ tt1 σ3 H5 fun b H6 => if b = true then te σ3 H6 fun y H7 => ∃ acc, H7 D = some (.lst acc) ∧ acc.length < sizeLine ∧ Nx1 (upd H7 D (.lst (acc ++ [y]))) else Nx1 H6
theorem lc2_in {J1 : It} {n1 : Nat} {G1 : Hp → Prop} {Y1 : Nat → Hp → V → Hp → Prop} (w : Walk J1 n1 G1 Y1) {g1 : TG} {tt1 : TT} {te : TE} {vs1 : List Nat} {σ2 : L2.St} {D : Addr} {H4 : Hp} {Nx : Hp → Prop} (Pv : Nat → Hp → Prop) (h0 : Pv 0 H4) (hg : ∀ i H, i ≤ n1 → Pv i H → G1 H)
    (hs : ∀ (j : Nat) (x : V) (H H' : Hp), j < n1 → Pv j H → Y1 j H x H' → g1 x (wipe σ2 vs1) H' fun σ3 H5 => wipe σ3 vs1 = wipe σ2 vs1 ∧ tt1 σ3 H5 fun b H6 => if b = true then te σ3 H6 fun y H7 => ∃ acc, H7 D = some (.lst acc) ∧ acc.length < sizeLine ∧ Pv (j + 1) (upd H7 D (.lst (acc ++ [y]))) else Pv (j + 1) H6)
    (hd : ∀ H, Pv n1 H → Nx H) : InW J1 g1 tt1 te vs1 σ2 D H4 Nx := by
  refine ⟨fun j k H => j ≤ n1 ∧ k = n1 - j ∧ Pv j H, ⟨_, Nat.zero_le _, rfl, h0⟩, fun j k H ⟨h1, h2, h3⟩ => ?_⟩
  by_cases h : j = n1
  · subst h
    exact .inl ⟨w.stops H (hg _ H (Nat.le_refl _) h3), hd H h3⟩
  · have hj : j < n1 := by omega
    exact .inr ⟨w.goes j H hj (hg j H h1 h3), Pv (j + 1), fun H' q => ⟨n1 - (j + 1), by omega, hj, rfl, q⟩, fun x H' hy => hs j x H H' hj h3 (w.yields j H x H' hj (hg j H h1 h3) hy)⟩
theorem lc2_it {J : It} {n : Nat} {G : Hp → Prop} {Y : Nat → Hp → V → Hp → Prop} (w : Walk J n G Y) {wi1 : TI} {g g1 : TG} {tt tt1 : TT} {te : TE} {vs vs1 : List Nat} {σ : L2.St} {H1 : Hp} {D : Addr} {Qd : Hp → Prop} (Pv : Nat → Hp → Prop) (h0 : Pv 0 (upd H1 D (.lst []))) (hg : ∀ i H, i ≤ n → Pv i H → G H)
    (hs : ∀ (i : Nat) (x : V) (H H' : Hp), i < n → Pv i H → Y i H x H' → g x (wipe σ vs) H' fun σ2 H2 => wipe σ2 vs = wipe σ vs ∧ tt σ2 H2 fun b H3 => if b = true then wi1 σ2 H3 fun J1 H4 => InW J1 g1 tt1 te vs1 σ2 D H4 (Pv (i + 1)) else Pv (i + 1) H3)
    (hd : ∀ H, Pv n H → Qd H) :
    ∃ W : Nat → Nat → Hp → Prop, (∃ m, W 0 m (upd H1 D (.lst []))) ∧ ∀ (i m : Nat) (H : Hp), W i m H → J.stop i H ∧ Qd H ∨ J.go i H ∧ ∃ Nx : Hp → Prop, (∀ H', Nx H' → ∃ m', m' < m ∧ W (i + 1) m' H') ∧
      ∀ (x : V) (H' : Hp), J.yld i H x H' → g x (wipe σ vs) H' fun σ2 H2 => wipe σ2 vs = wipe σ vs ∧ tt σ2 H2 fun b H3 => if b = true then wi1 σ2 H3 fun J1 H4 => InW J1 g1 tt1 te vs1 σ2 D H4 Nx else Nx H3 := by
  refine ⟨fun i m H => i ≤ n ∧ m = n - i ∧ Pv i H, ⟨_, Nat.zero_le _, rfl, h0⟩, fun i m H ⟨h1, h2, h3⟩ => ?_⟩
  by_cases h : i = n
  · subst h
    exact .inl ⟨w.stops H (hg _ H (Nat.le_refl _) h3), hd H h3⟩
  · have hi : i < n := by omega
    exact .inr ⟨w.goes i H hi (hg i H h1 h3), Pv (i + 1), fun H' q => ⟨n - (i + 1), by omega, hi, rfl, q⟩, fun x H' hy => hs i x H H' hi h3 (w.yields i H x H' hi (hg i H h1 h3) hy)⟩
/-! ### a list of new tuples -/
structure TupL (H0 : Hp) (D : Addr) (l : List (List V)) (H : Hp) : Prop where
  sm : Same H0 H
  nD : H0 D = none
  ts : ∃ ts : List Addr, H D = some (.lst (ts.map V.ref)) ∧ ts.length = l.length ∧ ∀ (j : Nat) (t : Addr) (v : List V), ts[j]? = some t → l[j]? = some v → H t = some (.tup v)
theorem TupL.start {H0 : Hp} {D : Addr} (n : H0 D = none) : TupL H0 D [] (upd H0 D (.lst [])) := ⟨same_new n, n, [], upd_same, rfl, fun j t v h => by cases h⟩
theorem TupL.grow {H0 H H' : Hp} {D : Addr} {l : List (List V)} (o : TupL H0 D l H) (x : Same H H') : TupL H0 D l H' := by
  obtain ⟨ts, h1, h2, h3⟩ := o.ts
  exact ⟨fun b u e => x b u (o.sm b u e), o.nD, ts, x _ _ h1, h2, fun j t v e1 e2 => x _ _ (h3 j t v e1 e2)⟩
theorem TupL.more {H0 H : Hp} {D t : Addr} {l : List (List V)} {v : List V} (o : TupL H0 D l H) (ht : H t = some (.tup v)) : ∃ acc, H D = some (.lst acc) ∧ acc.length = l.length ∧ TupL H0 D (l ++ [v]) (upd H D (.lst (acc ++ [.ref t]))) := by
  obtain ⟨ts, h1, h2, h3⟩ := o.ts
  have tD : ∀ {t : Addr} {v : List V}, H t = some (.tup v) → t ≠ D := fun {t v} h z => by rw [z, h1] at h; cases h
  refine ⟨_, h1, by rw [List.length_map, h2], fun b u e => by rw [upd_ne (ne_of_none e o.nD)]; exact o.sm b u e, o.nD, ts ++ [t], by rw [upd_same]; simp, by rw [List.length_append, List.length_append, h2]; rfl, fun j s u e1 e2 => ?_⟩
  by_cases hj : j < ts.length
  · rw [List.getElem?_append_left hj] at e1
    rw [List.getElem?_append_left (by rw [← h2]; exact hj)] at e2
    have := h3 j s u e1 e2
    rw [upd_ne (tD this)]
    exact this
  · have hl := (List.getElem?_eq_some_iff.mp e1).1
    rw [List.length_append, List.length_singleton] at hl
    have ej : j = ts.length := by omega
    subst ej
    rw [List.getElem?_append_right (Nat.le_refl _), Nat.sub_self] at e1
    rw [h2, List.getElem?_append_right (Nat.le_refl _), Nat.sub_self] at e2
    cases e1
    cases e2
    rw [upd_ne (tD ht)]
    exact ht
/-! ### places -/
def rowSp (r : List Str) : List (Nat × Nat) := (List.range r.length).flatMap fun c => (List.range ((r.getD c nilS).length + 1)).map fun k => (c, k)
def pageSp (rows : List (List Str)) : List (Nat × Nat × Nat) := (List.range rows.length).flatMap fun i => (rowSp (rows.getD i [])).map fun p => (i, p.1, p.2)
abbrev v2 (p : Nat × Nat) : List V := [.int (p.1 : Nat), .int (p.2 : Nat)]
abbrev v3 (p : Nat × Nat × Nat) : List V := [.int (p.1 : Nat), .int (p.2.1 : Nat), .int (p.2.2 : Nat)]
def rowTo (r : List Str) (n : Nat) : List (Nat × Nat) := (List.range n).flatMap fun c => (List.range ((r.getD c nilS).length + 1)).map fun k => (c, k)
def pageTo (rows : List (List Str)) (n : Nat) : List (Nat × Nat × Nat) := (List.range n).flatMap fun i => (rowSp (rows.getD i [])).map fun p => (i, p.1, p.2)
theorem rowTo_succ (r : List Str) (n : Nat) : rowTo r (n + 1) = rowTo r n ++ (List.range ((r.getD n nilS).length + 1)).map fun k => (n, k) := by
  unfold rowTo
  rw [List.range_succ, List.flatMap_append]
  simp
theorem pageTo_succ (rows : List (List Str)) (n : Nat) : pageTo rows (n + 1) = pageTo rows n ++ (rowSp (rows.getD n [])).map fun p => (n, p.1, p.2) := by
  unfold pageTo
  rw [List.range_succ, List.flatMap_append]
  simp
theorem rowSp_len {r : List Str} (h : RowOk r) : ∀ {n : Nat}, n ≤ r.length → (rowTo r n).length ≤ 11 * n
  | 0, _ => by simp [rowTo]
  | n + 1, hn => by
    have ih := rowSp_len h (n := n) (by omega)
    have hc : n < r.length := by omega
    have := (h.cells _ (List.getElem_mem hc)).len
    have e : r.getD n nilS = r[n] := by rw [List.getD_eq_getElem?_getD, List.getElem?_eq_getElem hc]; rfl
    rw [rowTo_succ, List.length_append, List.length_map, List.length_range, e]
    omega
theorem pageSp_len {rows : List (List Str)} (h : PgOk rows) : ∀ {n : Nat}, n ≤ rows.length → (pageTo rows n).length ≤ 66 * n
  | 0, _ => by simp [pageTo]
  | n + 1, hn => by
    have ih := pageSp_len h (n := n) (by omega)
    have hc : n < rows.length := by omega
    have hr := h.rows _ (List.getElem_mem hc)
    have e : rows.getD n [] = rows[n] := by rw [List.getD_eq_getElem?_getD, List.getElem?_eq_getElem hc]; rfl
    have h1 := rowSp_len hr (Nat.le_refl _)
    have h2 := hr.len
    have h3 : rowSp rows[n] = rowTo rows[n] rows[n].length := rfl
    rw [pageTo_succ, List.length_append, List.length_map, e, h3]
    omega
theorem mem_rowSp {r : List Str} {c k : Nat} : (c, k) ∈ rowSp r ↔ c < r.length ∧ k ≤ (r.getD c nilS).length := by
  unfold rowSp
  rw [List.mem_flatMap]
  constructor
  · rintro ⟨a, h1, h2⟩
    obtain ⟨b, h3, h4⟩ := List.mem_map.mp h2
    injection h4 with h4 h5
    subst h4 h5
    rw [List.mem_range] at h1 h3
    exact ⟨h1, by omega⟩
  · rintro ⟨h1, h2⟩
    exact ⟨c, List.mem_range.mpr h1, List.mem_map.mpr ⟨k, List.mem_range.mpr (by omega), rfl⟩⟩
theorem mem_pageSp {rows : List (List Str)} {p : Nat × Nat × Nat} : p ∈ pageSp rows ↔ p.1 < rows.length ∧ (p.2.1, p.2.2) ∈ rowSp (rows.getD p.1 []) := by
  unfold pageSp
  rw [List.mem_flatMap]
  constructor
  · rintro ⟨a, h1, h2⟩
    obtain ⟨b, h3, rfl⟩ := List.mem_map.mp h2
    exact ⟨List.mem_range.mp h1, h3⟩
  · rintro ⟨h1, h2⟩
    exact ⟨p.1, List.mem_range.mpr h1, List.mem_map.mpr ⟨_, h2, rfl⟩⟩
theorem rowSp_nd (r : List Str) : (rowSp r).Nodup := by
  unfold rowSp
  refine List.pairwise_flatMap.mpr ⟨fun c _ => ?_, ?_⟩
  · rw [List.pairwise_map]
    refine List.nodup_range.imp fun h z => ?_
    injection z with _ z
    exact h z
  · refine List.nodup_range.imp fun h x hx y hy z => ?_
    obtain ⟨k, _, rfl⟩ := List.mem_map.mp hx
    obtain ⟨k', _, rfl⟩ := List.mem_map.mp hy
    injection z with z _
    exact h z
theorem pageSp_nd (rows : List (List Str)) : (pageSp rows).Nodup := by
  unfold pageSp
  refine List.pairwise_flatMap.mpr ⟨fun i _ => ?_, ?_⟩
  · rw [List.pairwise_map]
    refine (rowSp_nd _).imp fun {a b} h z => h ?_
    injection z with _ z
  · refine List.nodup_range.imp fun h x hx y hy z => ?_
    obtain ⟨k, _, rfl⟩ := List.mem_map.mp hx
    obtain ⟨k', _, rfl⟩ := List.mem_map.mp hy
    injection z with z _
    exact h z
/-- of one row's places those that are let by -/
theorem page_filter {rows : List (List Str)} {i : Nat} (hi : i < rows.length) (f : Nat × Nat → Bool) : (pageSp rows).filter (fun p => decide (p.1 = i) && f p.2) = ((rowSp (rows.getD i [])).filter f).map fun p => (i, p.1, p.2) := by
  have key : ∀ n, (pageTo rows n).filter (fun p => decide (p.1 = i) && f p.2) = if i < n then ((rowSp (rows.getD i [])).filter f).map fun p => (i, p.1, p.2) else [] := by
    intro n
    induction n with
    | zero => rfl
    | succ n ih =>
      rw [pageTo_succ, List.filter_append, ih, List.filter_map]
      by_cases h : n = i
      · subst h
        rw [if_neg (Nat.lt_irrefl _), if_pos (Nat.lt_succ_self _), List.nil_append]
        refine congrArg _ (List.filter_congr fun p _ => ?_)
        simp
      · have e : (rowSp (rows.getD n [])).filter ((fun p : Nat × Nat × Nat => decide (p.1 = i) && f p.2) ∘ fun p : Nat × Nat => (n, p.1, p.2)) = [] := by
          rw [List.filter_eq_nil_iff]
          intro p _
          simp [h]
        rw [e, List.map_nil, List.append_nil]
        by_cases h2 : i < n
        · rw [if_pos h2, if_pos (by omega)]
        · rw [if_neg h2, if_neg (by omega)]
  have := key rows.length
  rw [if_pos hi] at this
  exact this
end TG

namespace TG
open PySem PySem.Spec PyProof.Rows L2 Gx EnT
section
variable {P : Program} {w : World} {K : PySem.W.Frag} {mg : Str → Option Value} {base : Heap} {cs : List (Addr × Addr)}
def spRowSp (K : PySem.W.Frag) : Sp := fun vs H Q _ => ∃ (q : Addr) (r : List Str), vs = [.ref q] ∧ SqT K H q (sV r) ∧ RowOk r ∧ ∀ (D : Addr) (H' : Hp), TupL H D ((rowSp r).map v2) H' → Q (.ref D) H'
abbrev s_row_spots : Stmt := top 38
abbrev s_page_spots : Stmt := top 39
abbrev nmRS : List Str := ["row", "cell", "text", "place"]
theorem sc_rs : FnScope nmRS ["row"] (defScope s_row_spots) := ⟨rfl, rfl, rfl, by decide +kernel, rfl, by decide +kernel, by decide +kernel⟩
theorem ok_rowspots {f : Addr} {fd : FuncData} (T : Txt mg) (F : Fun K "row_spots" "row_spots" s_row_spots f fd) : FnOk P w K mg base CX0 1 f fd ["row"] (spRowSp K) := by
  refine F.ok sc_rs (fun vs H Q E h => ?_) (fun cdv A outer s H vs Q E hr h => ?_)
  · obtain ⟨q, r, rfl, _⟩ := h
    rfl
  · obtain ⟨q, r, rfl, hS, hR, k⟩ := h
    have nd := sc_rs.nd
    have szl : (2000 : Nat) < sizeLine := by decide
    refine ⟨_, pss_one (ps_ret (pe_lc2 (own := [("cell", 1), ("text", 2), ("place", 3)]) (vs1 := [3]) (g := gTup K 2 (gCons (gName 1) (gCons (gName 2) gNil))) (tt := tYes) (g1 := gName 3) (tt1 := tYes) rfl nd (pi_enumT (by rfl) T.enum (pv 0)) (blkOk_by (own := [("cell", 1), ("text", 2), ("place", 3)]) (N := nmRS) (sc := defScope s_row_spots) (by decide +kernel)) (by decide)
      (fun _ _ _ _ _ => pg_tup rfl (pgs_cons (pg_name (i := 1) nd rfl (.inl rfl) (.inr rfl)) (pgs_cons (pg_name (i := 2) nd rfl (.inl rfl) (.inr rfl)) pgs_nil))) (fun _ _ _ _ _ => pts_nil)
      (fun _ _ _ _ _ => pi_range1 (by rfl) T.range (pa_cons (pe_op op_add (pe_callB call_len_str (by rfl) T.len PySem.boot_len (pa_cons (pv 2) pa_nil)) pe_int) pa_nil)) (fun _ _ _ _ _ => pg_name (i := 3) nd rfl (Or.inl rfl)) (fun _ _ _ _ _ => pts_nil)
      (fun _ _ _ _ _ => pe_tup (pa_cons (pv 1) (pa_cons (pv 3) pa_nil))))), ?_⟩
    refine ⟨_, rfl, q, _, rfl, hS, fun D nD => lc2_it (walk_enumT (xs := sV r)) (fun i H' => TupL H D ((rowTo r i).map v2) H') (TupL.start nD) (fun i H' _ o => same_sqT o.sm hS) ?_ ?_⟩
    · rintro i x H3 H4 hi o ⟨Tp, v, u, rfl, hn, rfl, hv, hu⟩
      cases hv
      obtain ⟨z, hz, rfl⟩ := get_map hu
      have hc := (List.getElem?_eq_some_iff.mp hz).1
      have hz10 := (hR.cells z (List.mem_of_getElem? hz)).len
      have o4 := o.grow (same_new (o := .tup [.int (i : Nat), .str z]) hn)
      have hTp : upd H3 Tp (.tup [.int (i : Nat), .str z]) Tp = some (.tup [.int (i : Nat), .str z]) := upd_same
      generalize upd H3 Tp (.tup [.int (i : Nat), .str z]) = H4 at o4 hTp ⊢
      have ez : r.getD i nilS = z := by rw [List.getD_eq_getElem?_getD, hz]; rfl
      have hl6 := hR.len
      have hrl := rowSp_len hR (n := i) (by omega)
      refine ⟨Tp, _, rfl, .inl (.inl hTp), rfl, _, _, rfl, _, _, rfl, rfl, rfl, _, rfl, z, rfl, by omega, _, _, rfl, rfl, _, rfl, by omega, by omega, lc2_in (walk_range (lo := 0) (n := (((z.length : Nat) : Int) + 1).toNat)) (fun j H' => TupL H D ((rowTo r i ++ (List.range j).map fun k => (i, k)).map v2) H') ?_ (fun _ _ _ _ => trivial) ?_ ?_⟩
      · rw [List.range_zero, List.map_nil, List.append_nil]
        exact o4
      · rintro j x H5 H6 hj o5 ⟨rfl, rfl⟩
        refine ⟨rfl, _, rfl, _, rfl, by show 2 ≤ sizeLine; decide, fun t nt => ?_⟩
        have o6 := o5.grow (same_new (o := .tup [.int (i : Nat), .int (0 + (j : Nat))]) nt)
        obtain ⟨acc, h1, h2, h3⟩ := o6.more (t := t) (v := [.int (i : Nat), .int (0 + (j : Nat))]) upd_same
        refine ⟨acc, h1, ?_, ?_⟩
        · rw [h2, List.length_map, List.length_append, List.length_map, List.length_range]
          omega
        · have e : rowTo r i ++ (List.range (j + 1)).map (fun k => (i, k)) = (rowTo r i ++ (List.range j).map fun k => (i, k)) ++ [(i, j)] := by rw [List.range_succ, List.map_append, List.append_assoc]; rfl
          rw [e, List.map_append]
          have e0 : (0 + ((j : Nat) : Int)) = ((j : Nat) : Int) := Int.zero_add _
          simp only [e0] at h3 ⊢
          exact h3
      · intro H5 o5
        rw [rowTo_succ, ez]
        have e : (((z.length : Nat) : Int) + 1).toNat = z.length + 1 := by omega
        rw [e] at o5
        exact o5
    · intro H3 o
      rw [List.length_map] at o
      exact k D H3 o
def spPageSp (K : PySem.W.Frag) : Sp := fun vs H Q _ => ∃ (a : Addr) (as : List Addr) (rows : List (List Str)), vs = [.ref a] ∧ PageAt K H a as rows ∧ PgOk rows ∧ ∀ (D : Addr) (H' : Hp), TupL H D ((pageSp rows).map v3) H' → Q (.ref D) H'
abbrev nmPS : List Str := ["page", "number", "row", "cell", "place"]
theorem sc_psp : FnScope nmPS ["page"] (defScope s_page_spots) := ⟨rfl, rfl, rfl, by decide +kernel, rfl, by decide +kernel, by decide +kernel⟩
theorem ok_pagespots {f g : Addr} {fd fdg : FuncData} (T : Txt mg) (F : Fun K "page_spots" "page_spots" s_page_spots f fd)
    (G : FnOk P w K mg base CX0 1 g fdg ["row"] (spRowSp K)) (kp : PySem.W.keepIn K (.ref g) = true) (bd : Binds K fdg ["row"] []) (mgg : mg "row_spots" = some (.ref g)) : FnOk P w K mg base CX0 2 f fd ["page"] (spPageSp K) := by
  refine F.ok sc_psp (fun vs H Q E h => ?_) (fun cdv A outer s H vs Q E hr h => ?_)
  · obtain ⟨a, as, rows, rfl, _⟩ := h
    rfl
  · obtain ⟨a, as, rows, rfl, hP, hO, k⟩ := h
    have nd := sc_psp.nd
    have szl : (2000 : Nat) < sizeLine := by decide
    refine ⟨_, pss_one (ps_ret (pe_lc2 (own := [("number", 1), ("row", 2), ("cell", 3), ("place", 4)]) (vs1 := [3, 4]) (g := gTup K 2 (gCons (gName 1) (gCons (gName 2) gNil))) (tt := tYes) (wi1 := iList K (tCall (spRowSp K) [] E0 (tCons (tVar 2) tNil))) (g1 := gTup K 2 (gCons (gName 3) (gCons (gName 4) gNil))) (tt1 := tYes) rfl nd (pi_enum (by rfl) T.enum (pa_cons (pv 0) pa_nil)) (blkOk_by (own := [("number", 1), ("row", 2), ("cell", 3), ("place", 4)]) (N := nmPS) (sc := defScope s_page_spots) (by decide +kernel)) (by decide)
      (fun _ _ _ _ _ => pg_tup rfl (pgs_cons (pg_name (i := 1) nd rfl (.inl rfl) (.inr rfl)) (pgs_cons (pg_name (i := 2) nd rfl (.inl rfl) (.inr rfl)) pgs_nil))) (fun _ _ _ _ _ => pts_nil)
      (fun _ _ _ _ _ => pi_list (pe_call G hr (by rfl) mgg kp bd .nil pass0 (pa_cons (pv 2) pa_nil))) (fun _ _ _ _ _ => pg_tup rfl (pgs_cons (pg_name (i := 3) nd rfl (.inl rfl) (.inr rfl)) (pgs_cons (pg_name (i := 4) nd rfl (.inl rfl) (.inr rfl)) pgs_nil))) (fun _ _ _ _ _ => pts_nil)
      (fun _ _ _ _ _ => pe_tup (pa_cons (pv 1) (pa_cons (pv 3) (pa_cons (pv 4) pa_nil)))))), ?_⟩
    refine ⟨_, rfl, a, _, rfl, hP.lst, fun D nD => lc2_it (walk_enum (xs := as.map V.ref)) (fun i H' => TupL H D ((pageTo rows i).map v3) H') (TupL.start nD) (fun i H' _ o => same_sqL o.sm hP.lst) ?_ ?_⟩
    · rintro i x H3 H4 hi o ⟨Tp, v, u, rfl, hn, rfl, hv, hu⟩
      cases hv
      obtain ⟨q, hq, rfl⟩ := get_map hu
      obtain ⟨r, hr2⟩ := getP (xs := rows) (i := i) (by rw [← hP.len]; exact (List.getElem?_eq_some_iff.mp hq).1)
      have hi2 := (List.getElem?_eq_some_iff.mp hr2).1
      have hR := hO.rows r (List.mem_of_getElem? hr2)
      have o4 := o.grow (same_new (o := .tup [.int (i : Nat), .ref q]) hn)
      have hTp : upd H3 Tp (.tup [.int (i : Nat), .ref q]) Tp = some (.tup [.int (i : Nat), .ref q]) := upd_same
      generalize upd H3 Tp (.tup [.int (i : Nat), .ref q]) = H4 at o4 hTp ⊢
      have er : rows.getD i [] = r := by rw [List.getD_eq_getElem?_getD, hr2]; rfl
      have hl30 := hO.len
      have hpl := pageSp_len hO (n := i) (by omega)
      have hrl := rowSp_len hR (Nat.le_refl _)
      have hl6 := hR.len
      have hrs : (rowSp r).length ≤ 66 := by
        have : rowSp r = rowTo r r.length := rfl
        rw [this]
        omega
      refine ⟨Tp, _, rfl, .inl (.inl hTp), rfl, _, _, rfl, _, _, rfl, rfl, rfl, _, rfl, q, r, rfl, same_sqT o4.sm (hP.row i q r hq hr2), hR, fun D5 H5 o5 => ?_⟩
      obtain ⟨ts, ht1, ht2, ht3⟩ := o5.ts
      have lt : (ts.map V.ref).length = (rowSp r).length := by rw [List.length_map, ht2, List.length_map]
      refine ⟨D5, rfl, ⟨_, SqL.of ht1⟩, lc2_in (walk_list (xs := ts.map V.ref)) (fun j H' => TupL H D ((pageTo rows i ++ ((rowSp r).take j).map fun p => (i, p.1, p.2)).map v3) H' ∧ H' D5 = some (.lst (ts.map V.ref)) ∧ ∀ (j : Nat) (t : Addr) (v : List V), ts[j]? = some t → ((rowSp r).map v2)[j]? = some v → H' t = some (.tup v)) ⟨?_, ht1, ht3⟩ (fun j H' _ o => SqL.of o.2.1) ?_ ?_⟩
      · rw [List.take_zero, List.map_nil, List.append_nil]
        exact o4.grow o5.sm
      · rintro j x H6 H7 hj ⟨o6, g1, g2⟩ ⟨rfl, hx⟩
        obtain ⟨t, ht, rfl⟩ := get_map hx
        have hj2 : j < (rowSp r).length := by omega
        obtain ⟨p, hp⟩ := getP (xs := rowSp r) (i := j) hj2
        have gt := g2 j t (v2 p) ht (by rw [List.getElem?_map, hp]; rfl)
        refine ⟨t, _, rfl, .inl (.inl gt), rfl, _, _, rfl, _, _, rfl, rfl, rfl, _, rfl, _, rfl, _, rfl, by show 3 ≤ sizeLine; decide, fun s ns => ?_⟩
        have o7 := o6.grow (same_new (o := .tup [.int (i : Nat), .int (p.1 : Nat), .int (p.2 : Nat)]) ns)
        obtain ⟨acc, h1, h2, h3⟩ := o7.more (t := s) (v := [.int (i : Nat), .int (p.1 : Nat), .int (p.2 : Nat)]) upd_same
        have e : pageTo rows i ++ ((rowSp r).take (j + 1)).map (fun p => (i, p.1, p.2)) = (pageTo rows i ++ ((rowSp r).take j).map fun p => (i, p.1, p.2)) ++ [(i, p.1, p.2)] := by
          rw [List.take_add_one, hp, List.map_append, List.append_assoc]
          rfl
        refine ⟨acc, h1, ?_, ?_, ?_, fun j t v e1 e2 => ?_⟩
        · rw [h2, List.length_map, List.length_append, List.length_map, List.length_take]
          omega
        · rw [e, List.map_append]
          exact h3
        · have n1 : D5 ≠ D := fun z => by
            have := o5.nD
            obtain ⟨ts4, w1, _⟩ := o4.ts
            rw [z, w1] at this
            cases this
          rw [upd_ne n1, upd_ne (ne_of_none g1 ns)]
          exact g1
        · have w := g2 j t v e1 e2
          have n1 : t ≠ D := fun z => by
            obtain ⟨ts6, w1, _⟩ := o6.ts
            rw [z, w1] at w
            cases w
          rw [upd_ne n1, upd_ne (ne_of_none w ns)]
          exact w
      · rintro H6 ⟨o6, _⟩
        rw [pageTo_succ, er]
        rw [lt, List.take_of_length_le (Nat.le_refl _)] at o6
        exact o6
    · intro H3 o
      rw [List.length_map, hP.len] at o
      exact k D H3 o
end
end TG

namespace TG
open PySem PySem.Spec PyProof.Rows L2 Gx EnT
/-! ### sheets and cursors -/
def clsB : Stmt → List Stmt
  | .ClassDef _ _ _ b _ _ _ _ _ _ _ => b
  | _ => []
def mth (c i : Nat) : Stmt := (clsB (top c)).getD i (.Pass ⟨0, 0, 0, 0⟩)
theorem sqT_gw {K : PySem.W.Frag} {H H' : Hp} {a : Addr} {xs : List V} (x : LamX.ExtN H H') (h : SqT K H a xs) : SqT K H' a xs := by
  rcases h with (h | ⟨o, h⟩) | h
  · exact .inl (.inl (x _ _ h fun ps z => by cases z))
  · exact .inl (.inr ⟨o, x _ _ h fun ps z => by cases z⟩)
  · exact .inr h
theorem sqL_gw {K : PySem.W.Frag} {H H' : Hp} {a : Addr} {xs : List V} (x : LamX.ExtN H H') (h : SqL K H a xs) : SqL K H' a xs := by
  rcases h with (h | ⟨o, h⟩) | h
  · exact .inl (.inl (x _ _ h fun ps z => by cases z))
  · exact .inl (.inr ⟨o, x _ _ h fun ps z => by cases z⟩)
  · exact .inr h
theorem PageAt.gw {K : PySem.W.Frag} {H H' : Hp} {a : Addr} {as : List Addr} {rows : List (List Str)} (p : PageAt K H a as rows) (x : LamX.ExtN H H') : PageAt K H' a as rows := ⟨sqL_gw x p.lst, p.len, fun i q r h1 h2 => sqT_gw x (p.row i q r h1 h2)⟩
theorem StyleAt.gw {K : PySem.W.Frag} {H H' : Hp} {a : Addr} {gap least : Int} (p : StyleAt K H a gap least) (x : LamX.ExtN H H') : StyleAt K H' a gap least := ⟨sqT_gw x p.tup, p.g0, p.g1, p.l0, p.l1⟩
/-- what the walk reads of the two classes -/
structure ClsT (K : PySem.W.Frag) (C S : Addr) : Prop where
  cC : Cls K C
  cS : Cls K S
  nSheet : NoAttr K C "sheet"
  nSpot : NoAttr K C "spot"
  nRows : NoAttr K S "rows"
  nStyle : NoAttr K S "style"
  nDeeds : NoAttr K S "deeds"
/-- a sheet of which no deed stands -/
structure ShtS (K : PySem.W.Frag) (S : Addr) (H : Hp) (sh rl st : Addr) (as : List Addr) (rows : List (List Str)) (gap least : Int) : Prop where
  she : ∃ dx dl, H sh = some (.ins S dx [("rows", .ref rl), ("style", .ref st), ("deeds", .ref dl)]) ∧ H dl = some (.lst [])
  page : PageAt K H rl as rows
  ok : PgOk rows
  style : StyleAt K H st gap least
/-- a cursor in it -/
structure CurS (K : PySem.W.Frag) (C S : Addr) (H : Hp) (cu sh rl st : Addr) (as : List Addr) (rows : List (List Str)) (gap least : Int) (p : Nat × Nat × Nat) : Prop where
  cur : ∃ dx sp, H cu = some (.ins C dx [("sheet", .ref sh), ("spot", .ref sp)]) ∧ SqT K H sp (v3 p)
  sht : ShtS K S H sh rl st as rows gap least
  mem : p ∈ pageSp rows
section
variable {K : PySem.W.Frag} {C S cu sh rl st : Addr} {H H' : Hp} {as : List Addr} {rows : List (List Str)} {gap least : Int} {p : Nat × Nat × Nat}
theorem ShtS.gw (o : ShtS K S H sh rl st as rows gap least) (x : LamX.ExtN H H') : ShtS K S H' sh rl st as rows gap least := by
  obtain ⟨dx, dl, h1, h2⟩ := o.she
  exact ⟨⟨dx, dl, x _ _ h1 (fun ps z => by cases z), x _ _ h2 (fun ps z => by cases z)⟩, o.page.gw x, o.ok, o.style.gw x⟩
theorem CurS.gw (o : CurS K C S H cu sh rl st as rows gap least p) (x : LamX.ExtN H H') : CurS K C S H' cu sh rl st as rows gap least p := by
  obtain ⟨dx, sp, h1, h2⟩ := o.cur
  exact ⟨⟨dx, sp, x _ _ h1 (fun ps z => by cases z), sqT_gw x h2⟩, o.sht.gw x, o.mem⟩
end
section
variable {P : Program} {w : World} {K : PySem.W.Frag} {mg : Str → Option Value} {base : Heap} {cs : List (Addr × Addr)} {C S : Addr}
/-- Sheet.page -/
def spShPage (K : PySem.W.Frag) (S : Addr) : Sp := fun vs H Q _ => ∃ (sh rl st : Addr) (as : List Addr) (rows : List (List Str)) (gap least : Int), vs = [.ref sh] ∧ ShtS K S H sh rl st as rows gap least ∧ ∀ r, H r = none → Q (.ref r) (upd H r (.lst (as.map V.ref)))
theorem sc_self : FnScope ["self"] ["self"] (defScope (mth 34 9)) := ⟨rfl, rfl, rfl, by decide +kernel, rfl, by decide +kernel, by decide +kernel⟩
theorem ok_shpage {f : Addr} {fd : FuncData} (T : Txt mg) (X : ClsT K C S) (F : Fun K "page" "Sheet.page" (mth 34 9) f fd) : FnOk P w K mg base CX0 1 f fd ["self"] (spShPage K S) := by
  refine F.ok sc_self (fun vs H Q E h => ?_) (fun cdv A outer s H vs Q E hr h => ?_)
  · obtain ⟨sh, rl, st, as, rows, gap, least, rfl, _⟩ := h
    rfl
  · obtain ⟨sh, rl, st, as, rows, gap, least, rfl, hS, k⟩ := h
    refine ⟨_, pss_one (ps_ret (pe_callTy call_list_of (by rfl) T.list (by decide +kernel) (pa_cons (pe_fld (pv 0) rfl) pa_nil))), ?_⟩
    obtain ⟨dx, dl, h1, h2⟩ := hS.she
    exact ⟨_, rfl, sh, S, dx, _, _, rfl, h1, X.cS, X.nRows, rfl, rl, _, rfl, .inl hS.page.lst, fun r nr => k r nr⟩
/-- Sheet.begins -/
def spShBegins (K : PySem.W.Frag) (cs : List (Addr × Addr)) (S : Addr) : Sp := fun vs H Q _ => ∃ (sh rl st : Addr) (as : List Addr) (rows : List (List Str)) (gap least : Int), vs = [.ref sh] ∧ Tabs cs H ∧ ShtS K S H sh rl st as rows gap least ∧
  ∀ (r : Addr) (es : List Addr) (H' : Hp), Ex cs H H' → H r = none → ToldAt H' r es (begsR rows gap least) rows.length → Q (.ref r) H'
theorem sc_selfB : FnScope ["self"] ["self"] (defScope (mth 34 10)) := ⟨rfl, rfl, rfl, by decide +kernel, rfl, by decide +kernel, by decide +kernel⟩
theorem ok_shbegins {f g : Addr} {fd fdg : FuncData} (X : ClsT K C S) (F : Fun K "begins" "Sheet.begins" (mth 34 10) f fd)
    (G : FnOk P w K mg base CX0 14 g fdg ["page", "style"] (spTold K cs begsR)) (kp : PySem.W.keepIn K (.ref g) = true) (bd : Binds K fdg ["page", "style"] []) (mgg : mg "laid" = some (.ref g)) : FnOk P w K mg base CX0 15 f fd ["self"] (spShBegins K cs S) := by
  refine F.ok sc_selfB (fun vs H Q E h => ?_) (fun cdv A outer s H vs Q E hr h => ?_)
  · obtain ⟨sh, rl, st, as, rows, gap, least, rfl, _⟩ := h
    rfl
  · obtain ⟨sh, rl, st, as, rows, gap, least, rfl, hT, hS, k⟩ := h
    refine ⟨_, pss_one (ps_ret (pe_call G hr (by rfl) mgg kp bd .nil pass0 (pa_cons (pe_fld (pv 0) rfl) (pa_cons (pe_fld (pv 0) rfl) pa_nil)))), ?_⟩
    obtain ⟨dx, dl, h1, h2⟩ := hS.she
    exact ⟨_, rfl, sh, S, dx, _, _, rfl, h1, X.cS, X.nRows, rfl, _, rfl, sh, S, dx, _, _, rfl, h1, X.cS, X.nStyle, rfl, rl, st, as, rows, gap, least, rfl, hT, hS.page, hS.ok, hS.style, fun r es H' x nr _ tA => k r es H' x nr tA⟩
/-- Sheet.back, with nothing to take back -/
def spShBack (K : PySem.W.Frag) (S : Addr) : Sp := fun vs H Q _ => ∃ (sh rl st : Addr) (as : List Addr) (rows : List (List Str)) (gap least : Int), vs = [.ref sh] ∧ ShtS K S H sh rl st as rows gap least ∧ Q (.bl false) H
theorem sc_selfK : FnScope ["self", "number", "many", "rows"] ["self"] (defScope (mth 34 8)) := ⟨rfl, rfl, rfl, by decide +kernel, rfl, by decide +kernel, by decide +kernel⟩
theorem ok_shback {f : Addr} {fd : FuncData} (T : Txt mg) (X : ClsT K C S) (F : Fun K "back" "Sheet.back" (mth 34 8) f fd) : FnOk P w K mg base CX0 1 f fd ["self"] (spShBack K S) := by
  refine F.ok sc_selfK (fun vs H Q E h => ?_) (fun cdv A outer s H vs Q E hr h => ?_)
  · obtain ⟨sh, rl, st, as, rows, gap, least, rfl, _⟩ := h
    rfl
  · obtain ⟨sh, rl, st, as, rows, gap, least, rfl, hS, k⟩ := h
    refine ⟨_, pss_cons (ps_if (pt_cmpR op_eq (pe_callB call_len_seq (by rfl) T.len PySem.boot_len (pa_cons (pe_fld (pv 0) rfl) pa_nil)) pe_int (nomark _)) (pss_one (ps_ret pe_bl)) pss_nil) (pss_cons ps_never (pss_cons ps_never (pss_one ps_never))), ?_⟩
    obtain ⟨dx, dl, h1, h2⟩ := hS.she
    exact ⟨_, rfl, sh, S, dx, _, _, rfl, h1, X.cS, X.nDeeds, rfl, dl, _, rfl, .inl (SqL.of h2), rfl, true, rfl, iteT k⟩
/-- Cursor.at -/
def spAt (K : PySem.W.Frag) (C S : Addr) : Sp := fun vs H Q _ => ∃ (cu sh rl st : Addr) (as : List Addr) (rows : List (List Str)) (gap least : Int) (p : Nat × Nat × Nat), vs = [.ref cu] ∧ CurS K C S H cu sh rl st as rows gap least p ∧ ∀ sp, SqT K H sp (v3 p) → Q (.ref sp) H
theorem sc_at : FnScope ["self"] ["self"] (defScope (mth 37 1)) := ⟨rfl, rfl, rfl, by decide +kernel, rfl, by decide +kernel, by decide +kernel⟩
theorem ok_at {f : Addr} {fd : FuncData} (X : ClsT K C S) (F : Fun K "at" "Cursor.at" (mth 37 1) f fd) : FnOk P w K mg base CX0 1 f fd ["self"] (spAt K C S) := by
  refine F.ok sc_at (fun vs H Q E h => ?_) (fun cdv A outer s H vs Q E hr h => ?_)
  · obtain ⟨cu, sh, rl, st, as, rows, gap, least, p, rfl, _⟩ := h
    rfl
  · obtain ⟨cu, sh, rl, st, as, rows, gap, least, p, rfl, hC, k⟩ := h
    refine ⟨_, pss_one (ps_ret (pe_fld (pv 0) rfl)), ?_⟩
    obtain ⟨dx, sp, h1, h2⟩ := hC.cur
    exact ⟨_, rfl, cu, C, dx, _, _, rfl, h1, X.cC, X.nSpot, rfl, k sp h2⟩
/-- Cursor.page -/
def spCuPage (K : PySem.W.Frag) (C S : Addr) : Sp := fun vs H Q _ => ∃ (cu sh rl st : Addr) (as : List Addr) (rows : List (List Str)) (gap least : Int) (p : Nat × Nat × Nat), vs = [.ref cu] ∧ CurS K C S H cu sh rl st as rows gap least p ∧ ∀ r, H r = none → Q (.ref r) (upd H r (.lst (as.map V.ref)))
theorem sc_cupage : FnScope ["self"] ["self"] (defScope (mth 37 10)) := ⟨rfl, rfl, rfl, by decide +kernel, rfl, by decide +kernel, by decide +kernel⟩
theorem ok_cupage {f g : Addr} {fd fdg : FuncData} (X : ClsT K C S) (F : Fun K "page" "Cursor.page" (mth 37 10) f fd)
    (M : Meth K S "page" g) (G : FnOk P w K mg base CX0 1 g fdg ["self"] (spShPage K S)) (bd : Binds K fdg ["self"] []) : FnOk P w K mg base CX0 2 f fd ["self"] (spCuPage K C S) := by
  refine F.ok sc_cupage (fun vs H Q E h => ?_) (fun cdv A outer s H vs Q E hr h => ?_)
  · obtain ⟨cu, sh, rl, st, as, rows, gap, least, p, rfl, _⟩ := h
    rfl
  · obtain ⟨cu, sh, rl, st, as, rows, gap, least, p, rfl, hC, k⟩ := h
    refine ⟨_, pss_one (ps_ret (pe_meth0 (pe_fld (pv 0) rfl) X.cS M G hr bd .nil pass0)), ?_⟩
    obtain ⟨dx, sp, h1, h2⟩ := hC.cur
    obtain ⟨dx2, dl, h3, h4⟩ := hC.sht.she
    exact ⟨_, rfl, cu, C, dx, _, _, rfl, h1, X.cC, X.nSheet, rfl, sh, dx2, _, rfl, h3, rfl, sh, rl, st, as, rows, gap, least, rfl, hC.sht, k⟩
end
end TG

namespace TG
open PySem PySem.Spec PyProof.Rows L2 Gx EnT
/-! ### a cursor's begin, and its goings -/
/-- all but the cursor stays -/
def ExtC (cu : Addr) (H H' : Hp) : Prop := ∀ b o, H b = some o → (∀ ps, o ≠ .tbl ps) → b ≠ cu → H' b = some o
theorem ExtC.of {cu : Addr} {H H' : Hp} (x : LamX.ExtN H H') : ExtC cu H H' := fun b o h n _ => x b o h n
theorem ExtC.gw {cu : Addr} {H H1 H' : Hp} (x : ExtC cu H H1) (y : LamX.ExtN H1 H') : ExtC cu H H' := fun b o h n m => y b o (x b o h n m) n
theorem ExtC.after {cu : Addr} {H H1 H' : Hp} (x : LamX.ExtN H H1) (y : ExtC cu H1 H') : ExtC cu H H' := fun b o h n m => y b o (x b o h n) n m
theorem begs_nat {rows : List (List Str)} {gap least : Int} {i c : Nat} (h : c ≤ ncl rows i) : (begsR rows gap least i)[c]? = some (begC rows gap least i (ncl rows i) c) := begs_get h
/-- how far from the left a place is -/
def asideR (rows : List (List Str)) (gap least : Int) (p : Nat × Nat × Nat) : Int := begC rows gap least p.1 (ncl rows p.1) p.2.1 + ((p.2.2 : Nat) : Int)
/-- where so many places on are -/
def besideR (rows : List (List Str)) (p : Nat × Nat × Nat) (by_ : Int) : Option (Nat × Nat × Nat) :=
  let n := (((pageSp rows).idxOf p : Nat) : Int) + by_
  if 0 ≤ n ∧ n < ((pageSp rows).length : Nat) then (pageSp rows)[n.toNat]? else none
def stepR (rows : List (List Str)) (p : Nat × Nat × Nat) (by_ : Int) : Bool × (Nat × Nat × Nat) := match besideR rows p by_ with
  | some q => (true, q)
  | none => (false, p)
/-- the row's places that are no farther from the left -/
def nearR (rows : List (List Str)) (gap least : Int) (i : Nat) (most : Int) : List (Nat × Nat) := (rowSp (rows.getD i [])).filter fun q => decide (begC rows gap least i (ncl rows i) q.1 + ((q.2 : Nat) : Int) ≤ most)
def climbR (rows : List (List Str)) (gap least : Int) (p : Nat × Nat × Nat) (by_ : Int) : Bool × (Nat × Nat × Nat) :=
  let n := ((p.1 : Nat) : Int) + by_
  if 0 ≤ n ∧ n < (rows.length : Nat) then
    let q := (nearR rows gap least n.toNat (asideR rows gap least p)).getLast?.getD (0, 0)
    (true, (n.toNat, q.1, q.2))
  else (false, p)
theorem eqvAll_int : ∀ a b : List Int, PyData.eqvAll (a.map PyData.int) (b.map PyData.int) = decide (a = b)
  | [], [] => rfl
  | [], _ :: _ => rfl
  | _ :: _, [] => rfl
  | x :: a, y :: b => by
    rw [List.map_cons, List.map_cons]
    simp only [PyData.eqvAll, eqvAll_int a b]
    have e : PyData.eqv (.int x) (.int y) = decide (x = y) := by
      simp only [PyData.eqv]
      rfl
    rw [e]
    by_cases h1 : x = y
    · by_cases h2 : a = b
      · rw [decide_eq_true h1, decide_eq_true h2, decide_eq_true (by rw [h1, h2])]
        rfl
      · rw [decide_eq_true h1, decide_eq_false h2, decide_eq_false (fun z => h2 (by injection z))]
        rfl
    · have h3 : ¬ (x :: a) = (y :: b) := fun z => h1 (by injection z)
      rw [decide_eq_false h1, decide_eq_false h3, Bool.false_and]
/-- a place, as data -/
abbrev d3 (p : Nat × Nat × Nat) : PyData := .tuple [.int (p.1 : Nat), .int (p.2.1 : Nat), .int (p.2.2 : Nat)]
theorem eqv_d3 (p q : Nat × Nat × Nat) : PyData.eqv (d3 p) (d3 q) = decide (p = q) := by
  show PyData.eqv (.tuple ([((p.1 : Nat) : Int), (p.2.1 : Nat), (p.2.2 : Nat)].map PyData.int)) (.tuple ([((q.1 : Nat) : Int), (q.2.1 : Nat), (q.2.2 : Nat)].map PyData.int)) = _
  simp only [PyData.eqv]
  rw [eqvAll_int]
  by_cases h : p = q
  · rw [decide_eq_true h, decide_eq_true (by rw [h])]
  · rw [decide_eq_false h, decide_eq_false]
    intro z
    simp only [List.cons.injEq, and_true] at z
    exact h (Prod.ext (by omega) (Prod.ext (by omega) (by omega)))
theorem shaped_d3 (p : Nat × Nat × Nat) : SeqAt.shaped (d3 p) = true := by simp [SeqAt.shaped, PyData.canLay0, PyData.canLayAll0, PyData.depth, PyData.depthAll]
theorem can_d3s : ∀ l : List (Nat × Nat × Nat), PyData.canLayAll0 (l.map d3) = true
  | [] => rfl
  | p :: l => by
    rw [List.map_cons]
    simp only [PyData.canLayAll0, PyData.canLay0, can_d3s l, Bool.and_self]
theorem dep_d3s : ∀ l : List (Nat × Nat × Nat), PyData.depthAll (l.map d3) ≤ 1
  | [] => Nat.zero_le _
  | p :: l => by
    rw [List.map_cons]
    have := dep_d3s l
    simp only [PyData.depthAll, PyData.depth]
    omega
theorem shaped_d3s (l : List (Nat × Nat × Nat)) : SeqAt.shaped (.list (l.map d3)) = true := by
  unfold SeqAt.shaped
  have := dep_d3s l
  simp only [PyData.canLay0, can_d3s, Bool.true_and, PyData.depth]
  exact decide_eq_true (by omega)
theorem dp_d3 {K : PySem.W.Frag} {H : Hp} {t : Addr} {p : Nat × Nat × Nat} (h : SqT K H t (v3 p)) : Dp K H (.ref t) (d3 p) := .tup h (.cons (.int _) (.cons (.int _) (.cons (.int _) .nil)))
theorem dp_d3s {K : PySem.W.Frag} {H : Hp} : ∀ {ts : List Addr} {l : List (Nat × Nat × Nat)}, ts.length = l.length → (∀ (j : Nat) (t : Addr) (p : Nat × Nat × Nat), ts[j]? = some t → l[j]? = some p → SqT K H t (v3 p)) → DpAll K H (ts.map V.ref) (l.map d3)
  | [], [], _, _ => .nil
  | [], _ :: _, h, _ => by cases h
  | _ :: _, [], h, _ => by cases h
  | t :: ts, p :: l, h, k => .cons (dp_d3 (k 0 t p rfl rfl)) (dp_d3s (by simpa using h) fun j t p h1 h2 => k (j + 1) t p (by simpa using h1) (by simpa using h2))
theorem idx_eq {l : List (Nat × Nat × Nat)} {p : Nat × Nat × Nat} (h : p ∈ l) : l[l.idxOf p]? = some p ∧ l.idxOf p < l.length ∧ ∀ m z, m < l.idxOf p → l[m]? = some z → z ≠ p := by
  have h1 := List.idxOf_lt_length_iff.mpr h
  refine ⟨by rw [List.getElem?_eq_getElem h1, List.getElem_idxOf], h1, fun m z hm hz e => ?_⟩
  subst e
  have hm2 : m < l.length := by omega
  have e2 : l[m] = z := by rw [List.getElem?_eq_getElem hm2] at hz; exact Option.some.inj hz
  have := List.not_of_lt_findIdx (p := (· == z)) (xs := l) (i := m) (by exact hm)
  simp [e2] at this
section
variable {P : Program} {w : World} {K : PySem.W.Frag} {mg : Str → Option Value} {base : Heap} {cs : List (Addr × Addr)} {C S : Addr}
/-- Cursor.aside -/
def spAside (K : PySem.W.Frag) (cs : List (Addr × Addr)) (C S : Addr) : Sp := fun vs H Q _ => ∃ (cu sh rl st : Addr) (as : List Addr) (rows : List (List Str)) (gap least : Int) (p : Nat × Nat × Nat), vs = [.ref cu] ∧ Tabs cs H ∧ CurS K C S H cu sh rl st as rows gap least p ∧ ∀ H', Ex cs H H' → Q (.int (asideR rows gap least p)) H'
theorem sc_aside : FnScope ["self", "row", "cell", "place"] ["self"] (defScope (mth 37 2)) := ⟨rfl, rfl, rfl, by decide +kernel, rfl, by decide +kernel, by decide +kernel⟩
theorem ncl_of {rows : List (List Str)} {i c k : Nat} (hO : PgOk rows) (h : (i, c, k) ∈ pageSp rows) : i < rows.length ∧ c ≤ ncl rows i := by
  obtain ⟨h1, h2⟩ := mem_pageSp.mp h
  obtain ⟨h3, _⟩ := mem_rowSp.mp h2
  refine ⟨h1, ?_⟩
  simp only at h1 h3
  rw [List.getD_eq_getElem?_getD, List.getElem?_eq_getElem h1] at h3
  unfold ncl
  rw [List.getElem?_eq_getElem h1]
  show c ≤ rows[i].length - 1
  have h3 : c < rows[i].length := h3
  omega
theorem ok_aside {f g : Addr} {fd fdg : FuncData} (X : ClsT K C S) (F : Fun K "aside" "Cursor.aside" (mth 37 2) f fd)
    (M : Meth K S "begins" g) (G : FnOk P w K mg base CX0 15 g fdg ["self"] (spShBegins K cs S)) (bd : Binds K fdg ["self"] []) : FnOk P w K mg base CX0 16 f fd ["self"] (spAside K cs C S) := by
  refine F.ok sc_aside (fun vs H Q E h => ?_) (fun cdv A outer s H vs Q E hr h => ?_)
  · obtain ⟨cu, sh, rl, st, as, rows, gap, least, p, rfl, _⟩ := h
    rfl
  · obtain ⟨cu, sh, rl, st, as, rows, gap, least, ⟨i, c, k0⟩, rfl, hT, hC, k⟩ := h
    have nd := sc_aside.nd
    refine ⟨_, pss_cons (ps_asg (pe_fld (pv 0) rfl) (pg_tup rfl (pgs_cons (pg_name (i := 1) nd rfl (.inl rfl)) (pgs_cons (pg_name (i := 2) nd rfl (.inl rfl)) (pgs_cons (pg_name (i := 3) nd rfl (.inl rfl)) pgs_nil)))))
      (pss_one (ps_ret (pe_op op_add (pe_ix ix_list (pe_ix ix_list (pe_meth0 (pe_fld (pv 0) rfl) X.cS M G hr bd .nil pass0) (pv 1) (fun _ _ => rfl)) (pv 2) (fun _ _ => rfl)) (pv 3)))), ?_⟩
    obtain ⟨dx, sp, h1, h2⟩ := hC.cur
    obtain ⟨dx2, dl, h3, h4⟩ := hC.sht.she
    obtain ⟨hi, hc⟩ := ncl_of hC.sht.ok hC.mem
    refine ⟨_, rfl, cu, C, dx, _, _, rfl, h1, X.cC, X.nSpot, rfl, sp, _, rfl, h2, rfl, _, _, rfl, _, _, rfl, _, _, rfl, rfl, ?_⟩
    refine ⟨_, rfl, cu, C, dx, _, _, rfl, h1, X.cC, X.nSheet, rfl, sh, dx2, _, rfl, h3, rfl, sh, rl, st, as, rows, gap, least, rfl, hT, hC.sht, fun r es H' x nr tA => ?_⟩
    obtain ⟨e, he⟩ := getP (xs := es) (i := i) (by rw [tA.len]; exact hi)
    refine ⟨_, rfl, r, _, _, .ref e, rfl, rfl, SqL.of tA.lst, atI_nat (by rw [List.getElem?_map, he]; rfl), _, rfl, e, _, _, .int (begC rows gap least i (ncl rows i) c), rfl, rfl, SqL.of (tA.at_ i e he), atI_nat (by rw [List.getElem?_map, begs_get hc]; rfl), _, rfl, _, _, rfl, rfl, ?_⟩
    exact k _ x
end
end TG

namespace TG
open PySem PySem.Spec PyProof.Rows L2 Gx EnT
theorem room65 {k : Nat} {A : Around} (r : Room k A) : A.units + 65 < cLine := by have := r.un; omega
section
variable {P : Program} {w : World} {K : PySem.W.Frag} {mg : Str → Option Value} {base : Heap} {cs : List (Addr × Addr)} {C S : Addr}
/-- Sheet.__init__ -/
def spShInit (K : PySem.W.Frag) (cs : List (Addr × Addr)) (S : Addr) : Sp := fun vs H Q _ => ∃ (sh a st dx : Addr) (as : List Addr) (rows : List (List Str)) (gap least : Int), vs = [.ref sh, .ref a, .ref st] ∧ Tabs cs H ∧ H sh = some (.ins S dx []) ∧ PageAt K H a as rows ∧ PgOk rows ∧ StyleAt K H st gap least ∧
  ∀ (rl : Addr) (H' : Hp), ExtC sh H H' → Tabs cs H' → (∀ b, H' b = none → H b = none) → ShtS K S H' sh rl st as rows gap least → H rl = none → (∃ dx dl, H' sh = some (.ins S dx [("rows", .ref rl), ("style", .ref st), ("deeds", .ref dl)]) ∧ H dl = none) → Q .non H'
theorem sc_shinit : FnScope ["self", "page", "style"] ["self", "page", "style"] (defScope (mth 34 0)) := ⟨rfl, rfl, rfl, by decide +kernel, rfl, by decide +kernel, by decide +kernel⟩
theorem tabs_ins {H : Hp} {a : Addr} {C dx : Addr} {fs fs' : List (Str × V)} (t : Tabs cs H) (h : H a = some (.ins C dx fs)) : Tabs cs (upd H a (.ins C dx fs')) := fun p hp => by
  obtain ⟨ps, h1, h2⟩ := t p hp
  exact ⟨ps, by rw [upd_ne fun z => by rw [z, h] at h1; cases h1]; exact h1, h2⟩
theorem ok_shinit {f g1 g2 : Addr} {fd fd1 fd2 : FuncData} (T : Txt mg) (X : ClsT K C S) (F : Fun K "__init__" "Sheet.__init__" (mth 34 0) f fd)
    (G1 : FnOk P w K mg base CX0 11 g1 fd1 ["page"] (spCheck K cs)) (k1 : PySem.W.keepIn K (.ref g1) = true) (b1 : Binds K fd1 ["page"] []) (m1 : mg "check_page" = some (.ref g1))
    (G2 : FnOk P w K mg base CX0 2 g2 fd2 ["style"] (spStyle K)) (k2 : PySem.W.keepIn K (.ref g2) = true) (b2 : Binds K fd2 ["style"] []) (m2 : mg "check_style" = some (.ref g2)) : FnOk P w K mg base CX0 12 f fd ["self", "page", "style"] (spShInit K cs S) := by
  refine F.ok sc_shinit (fun vs H Q E h => ?_) (fun cdv A outer s H vs Q E hr h => ?_)
  · obtain ⟨sh, a, st, dx, as, rows, gap, least, rfl, _⟩ := h
    rfl
  · obtain ⟨sh, a, st, dx, as, rows, gap, least, rfl, hT, hsh, hP, hO, hS, k⟩ := h
    have r2 : Room 2 _ := hr.mono (by decide)
    refine ⟨_, pss_cons (ps_expr (pe_call G1 hr (by rfl) m1 k1 b1 .nil pass0 (pa_cons (pv 1) pa_nil)))
      (pss_cons (ps_expr (pe_call G2 r2 (by rfl) m2 k2 b2 .nil pass0 (pa_cons (pv 2) pa_nil)))
      (pss_cons (ps_fld (pv 0) (pe_callTy call_list_of (by rfl) T.list (by decide +kernel) (pa_cons (pv 1) pa_nil)) rfl)
      (pss_cons (ps_fld (pv 0) (pv 2) rfl) (pss_one (ps_fld (pv 0) (pe_lst pa_nil) rfl))))), ?_⟩
    refine ⟨_, rfl, a, as, rows, rfl, hT, hP, hO, fun H1 x1 => ⟨_, rfl, st, gap, least, rfl, hS.gw x1.ext, ?_⟩⟩
    have hsh1 : H1 sh = some (.ins S dx []) := x1.ext _ _ hsh fun ps z => by cases z
    refine ⟨_, rfl, a, _, rfl, .inl (hP.ex x1).lst, fun rl nrl => ?_⟩
    have x2 := x1.trans (Ex.laid (o := .lst (as.map V.ref)) x1.tab nrl)
    have hsh2 : upd H1 rl (.lst (as.map V.ref)) sh = some (.ins S dx []) := by rw [upd_ne (ne_of_none hsh1 nrl)]; exact hsh1
    have hrl2 : upd H1 rl (.lst (as.map V.ref)) rl = some (.lst (as.map V.ref)) := upd_same
    generalize upd H1 rl (.lst (as.map V.ref)) = H2 at x2 hsh2 hrl2 ⊢
    refine ⟨_, rfl, sh, S, dx, _, rfl, hsh2, X.cS, X.nRows, by decide, ?_⟩
    refine ⟨_, rfl, _, rfl, sh, S, dx, _, rfl, upd_same, X.cS, X.nStyle, by show 1 < 1000; decide, ?_⟩
    rw [upd_upd]
    refine ⟨small0, fun dl ndl => ⟨_, rfl, sh, S, dx, _, rfl, by rw [upd_ne (ne_of_none upd_same ndl)]; exact upd_same, X.cS, X.nDeeds, by show 2 < 1000; decide, ?_⟩⟩
    have nshd : sh ≠ dl := ne_of_none upd_same ndl
    have nd2 : H2 dl = none := by rw [upd_ne nshd.symm] at ndl; exact ndl
    have keep : ∀ b o, H2 b = some o → b ≠ sh → upd (upd (upd H2 sh (.ins S dx (putF "style" (.ref st) (putF "rows" (.ref rl) [])))) dl (.lst [])) sh (.ins S dx (putF "deeds" (.ref dl) (putF "style" (.ref st) (putF "rows" (.ref rl) [])))) b = some o := fun b o h n => by
      rw [upd_ne n, upd_ne (ne_of_none h nd2), upd_ne n]
      exact h
    refine k rl _ (fun b o h n m => keep b o (x2.ext b o h n) m) ?_ (fun b hb => ?_) ⟨⟨dx, dl, upd_same, by rw [upd_ne nshd.symm, upd_same]⟩, ⟨?_, hP.len, fun i q r h1 h2 => ?_⟩, hO, ?_⟩ ?_ ?_
    · intro p hp
      obtain ⟨ps, h1, h2⟩ := x2.tab p hp
      exact ⟨ps, keep _ _ h1 (fun z => by rw [z, hsh2] at h1; cases h1), h2⟩
    · refine x2.old b ?_
      cases e : H2 b with
      | none => rfl
      | some u =>
        by_cases z : b = sh
        · rw [z, upd_same] at hb; cases hb
        · rw [keep b u e z] at hb; cases hb
    · exact SqL.of (keep _ _ hrl2 fun z => by rw [z, hsh2] at hrl2; cases hrl2)
    · have h3 := x2.sqT (hP.row i q r h1 h2)
      rcases h3 with (h3 | ⟨u, h3⟩) | h3
      · exact .inl (.inl (keep _ _ h3 fun z => by rw [z, hsh2] at h3; cases h3))
      · exact .inl (.inr ⟨u, keep _ _ h3 fun z => by rw [z, hsh2] at h3; cases h3⟩)
      · exact .inr h3
    · have h3 := x2.sqT hS.tup
      refine ⟨?_, hS.g0, hS.g1, hS.l0, hS.l1⟩
      rcases h3 with (h3 | ⟨u, h3⟩) | h3
      · exact .inl (.inl (keep _ _ h3 fun z => by rw [z, hsh2] at h3; cases h3))
      · exact .inl (.inr ⟨u, keep _ _ h3 fun z => by rw [z, hsh2] at h3; cases h3⟩)
      · exact .inr h3
    · exact x1.old rl nrl
    · exact ⟨dx, dl, upd_same, x2.old dl nd2⟩
/-- an object changes: what is read of others stays -/
theorem sqT_but {H H' : Hp} {a cu C dx : Addr} {fs : List (Str × V)} {xs : List V} (x : ExtC cu H H') (hc : H cu = some (.ins C dx fs)) (h : SqT K H a xs) : SqT K H' a xs := by
  rcases h with (h | ⟨u, h⟩) | h
  · exact .inl (.inl (x _ _ h (fun ps z => by cases z) fun z => by rw [z, hc] at h; cases h))
  · exact .inl (.inr ⟨u, x _ _ h (fun ps z => by cases z) fun z => by rw [z, hc] at h; cases h⟩)
  · exact .inr h
theorem sqL_but {H H' : Hp} {a cu C dx : Addr} {fs : List (Str × V)} {xs : List V} (x : ExtC cu H H') (hc : H cu = some (.ins C dx fs)) (h : SqL K H a xs) : SqL K H' a xs := by
  rcases h with (h | ⟨u, h⟩) | h
  · exact .inl (.inl (x _ _ h (fun ps z => by cases z) fun z => by rw [z, hc] at h; cases h))
  · exact .inl (.inr ⟨u, x _ _ h (fun ps z => by cases z) fun z => by rw [z, hc] at h; cases h⟩)
  · exact .inr h
theorem ShtS.but {H H' : Hp} {cu dx sh rl st : Addr} {fs : List (Str × V)} {as : List Addr} {rows : List (List Str)} {gap least : Int} (o : ShtS K S H sh rl st as rows gap least) (x : ExtC cu H H') (hc : H cu = some (.ins C dx fs)) (n : sh ≠ cu) : ShtS K S H' sh rl st as rows gap least := by
  obtain ⟨dx2, dl, h1, h2⟩ := o.she
  refine ⟨⟨dx2, dl, x _ _ h1 (fun ps z => by cases z) n, x _ _ h2 (fun ps z => by cases z) fun z => by rw [z, hc] at h2; cases h2⟩, ⟨sqL_but x hc o.page.lst, o.page.len, fun i q r h1 h2 => sqT_but x hc (o.page.row i q r h1 h2)⟩, o.ok, ⟨sqT_but x hc o.style.tup, o.style.g0, o.style.g1, o.style.l0, o.style.l1⟩⟩
/-- the module's FIRST -/
def FirstT (K : PySem.W.Frag) (mg : Str → Option Value) : Prop := ∃ a, mg "FIRST" = some (.ref a) ∧ ∀ H, SqT K H a (v3 (0, 0, 0))
theorem first_mem {rows : List (List Str)} (hO : PgOk rows) : (0, 0, 0) ∈ pageSp rows := by
  refine mem_pageSp.mpr ⟨hO.pos, mem_rowSp.mpr ⟨?_, Nat.zero_le _⟩⟩
  show 0 < (rows.getD 0 []).length
  have h := hO.pos
  rw [List.getD_eq_getElem?_getD, List.getElem?_eq_getElem h]
  exact (hO.rows _ (List.getElem_mem h)).pos
/-- Cursor.__init__ -/
def spCuInit (K : PySem.W.Frag) (cs : List (Addr × Addr)) (C S : Addr) : Sp := fun vs H Q _ => ∃ (cu a st dx : Addr) (as : List Addr) (rows : List (List Str)) (gap least : Int), vs = [.ref cu, .ref a, .ref st] ∧ Tabs cs H ∧ H cu = some (.ins C dx []) ∧ PageAt K H a as rows ∧ PgOk rows ∧ StyleAt K H st gap least ∧
  ∀ (sh rl : Addr) (H' : Hp), ExtC cu H H' → Tabs cs H' → (∀ b, H' b = none → H b = none) → CurS K C S H' cu sh rl st as rows gap least (0, 0, 0) → H rl = none → (∃ dx dl, H' sh = some (.ins S dx [("rows", .ref rl), ("style", .ref st), ("deeds", .ref dl)]) ∧ H dl = none) → Q .non H'
theorem sc_cuinit : FnScope ["self", "page", "style"] ["self", "page", "style"] (defScope (mth 37 0)) := ⟨rfl, rfl, rfl, by decide +kernel, rfl, by decide +kernel, by decide +kernel⟩
theorem ok_cuinit {f g : Addr} {fd fdg : FuncData} (X : ClsT K C S) (FT : FirstT K mg) (F : Fun K "__init__" "Cursor.__init__" (mth 37 0) f fd)
    (M : Mk K S g) (G : FnOk P w K mg base CX0 12 g fdg ["self", "page", "style"] (spShInit K cs S)) (bd : Binds K fdg ["self", "page", "style"] []) (mS : mg "Sheet" = some (.ref S)) : FnOk P w K mg base CX0 14 f fd ["self", "page", "style"] (spCuInit K cs C S) := by
  obtain ⟨aF, eF, hF⟩ := FT
  refine F.ok sc_cuinit (fun vs H Q E h => ?_) (fun cdv A outer s H vs Q E hr h => ?_)
  · obtain ⟨cu, a, st, dx, as, rows, gap, least, rfl, _⟩ := h
    rfl
  · obtain ⟨cu, a, st, dx, as, rows, gap, least, rfl, hT, hcu, hP, hO, hS, k⟩ := h
    refine ⟨_, pss_cons (ps_fld (pv 0) (pe_make M G hr (by rfl) mS bd .nil pass0 (pa_cons (pv 1) (pa_cons (pv 2) pa_nil))) rfl) (pss_one (ps_fld (pv 0) (pe_glob (v := .ref aF) rfl eF rfl) rfl)), ?_⟩
    refine ⟨_, rfl, _, rfl, fun sh dx2 nsh nd2 ned => ?_⟩
    have e2 : LamX.ExtN H (upd (upd H dx2 (.own sh)) sh (.ins S dx2 [])) := fun b o h _ => by
      rw [upd_ne (ne_of_none h nsh), upd_ne (ne_of_none h nd2)]
      exact h
    have t2 : Tabs cs (upd (upd H dx2 (.own sh)) sh (.ins S dx2 [])) := fun p hp => by
      obtain ⟨ps, h1, h2⟩ := hT p hp
      exact ⟨ps, by rw [upd_ne (ne_of_none h1 nsh), upd_ne (ne_of_none h1 nd2)]; exact h1, h2⟩
    have hcs : cu ≠ sh := ne_of_none hcu nsh
    have old2 : ∀ b, upd (upd H dx2 (.own sh)) sh (.ins S dx2 []) b = none → H b = none := fun b hb => by
      cases e : H b with
      | none => rfl
      | some u => rw [upd_ne (ne_of_none e nsh), upd_ne (ne_of_none e nd2), e] at hb; cases hb
    refine ⟨sh, a, st, dx2, as, rows, gap, least, rfl, t2, upd_same, hP.gw e2, hO, hS.gw e2, fun rl H3 x3 t3 old3 hSh nrl ndl => ⟨rfl, ?_⟩⟩
    have hcu3 : H3 cu = some (.ins C dx []) := x3 _ _ (e2 _ _ hcu fun ps z => by cases z) (fun ps z => by cases z) hcs
    refine ⟨_, rfl, cu, C, dx, _, rfl, hcu3, X.cC, X.nSheet, by decide, ?_⟩
    refine ⟨_, rfl, cu, C, dx, _, rfl, upd_same, X.cC, X.nSpot, by show 1 < 1000; decide, ?_⟩
    rw [upd_upd]
    have x4 : ExtC cu H3 (upd H3 cu (.ins C dx (putF "spot" (.ref aF) (putF "sheet" (.ref sh) [])))) := fun b o h _ n => by rw [upd_ne n]; exact h
    refine k sh rl _ (fun b o h n m => ?_) (tabs_ins t3 hcu3) (fun b hb => ?_) ⟨⟨dx, aF, upd_same, hF _⟩, hSh.but x4 hcu3 hcs.symm, first_mem hO⟩ ?_ ?_
    · by_cases z : b = sh
      · rw [z] at h
        rw [h] at nsh
        cases nsh
      · exact x4 b o (x3 b o (e2 b o h n) n z) n m
    · refine old2 b (old3 b ?_)
      cases e : H3 b with
      | none => rfl
      | some u =>
        by_cases z : b = cu
        · rw [z, upd_same] at hb; cases hb
        · rw [upd_ne z, e] at hb; cases hb
    · exact old2 rl nrl
    · obtain ⟨dx5, dl, w1, w2⟩ := ndl
      exact ⟨dx5, dl, by rw [upd_ne hcs.symm]; exact w1, old2 dl w2⟩
end
end TG

namespace TG
open PySem PySem.Spec PyProof.Rows L2 Gx EnT
theorem same_extN {H H' : Hp} (x : Same H H') : LamX.ExtN H H' := fun b o h _ => x b o h
theorem dp_tups {K : PySem.W.Frag} {H0 H : Hp} {D : Addr} {l : List (Nat × Nat × Nat)} (o : TupL H0 D (l.map v3) H) : Dp K H (.ref D) (.list (l.map d3)) := by
  obtain ⟨ts, h1, h2, h3⟩ := o.ts
  exact .lst (SqL.of h1) (dp_d3s (by rw [h2, List.length_map]) fun j t p e1 e2 => SqT.of (h3 j t (v3 p) e1 (by rw [List.getElem?_map, e2]; rfl)))
section
variable {P : Program} {w : World} {K : PySem.W.Frag} {mg : Str → Option Value} {base : Heap} {cs : List (Addr × Addr)} {C S : Addr}
/-- Cursor.beside -/
def PlV (K : PySem.W.Frag) (H : Hp) (v : V) : Option (Nat × Nat × Nat) → Prop
  | none => v = .non
  | some p => ∃ t, v = .ref t ∧ SqT K H t (v3 p)
def spBeside (K : PySem.W.Frag) (C S : Addr) : Sp := fun vs H Q _ => ∃ (cu sh rl st : Addr) (as : List Addr) (rows : List (List Str)) (gap least : Int) (p : Nat × Nat × Nat) (b : Int), vs = [.ref cu, .int b] ∧ CurS K C S H cu sh rl st as rows gap least p ∧ ∀ (v : V) (H' : Hp), Same H H' → PlV K H' v (besideR rows p b) → Q v H'
abbrev nmBes : List Str := ["self", "by", "spots", "number"]
theorem sc_bes : FnScope nmBes ["self", "by"] (defScope (mth 37 12)) := ⟨rfl, rfl, rfl, by decide +kernel, rfl, by decide +kernel, by decide +kernel⟩
theorem ok_beside {f g1 g2 : Addr} {fd fd1 fd2 : FuncData} (T : Txt mg) (X : ClsT K C S) (F : Fun K "beside" "Cursor.beside" (mth 37 12) f fd)
    (M1 : Meth K S "page" g1) (G1 : FnOk P w K mg base CX0 1 g1 fd1 ["self"] (spShPage K S)) (b1 : Binds K fd1 ["self"] [])
    (G2 : FnOk P w K mg base CX0 2 g2 fd2 ["page"] (spPageSp K)) (k2 : PySem.W.keepIn K (.ref g2) = true) (b2 : Binds K fd2 ["page"] []) (m2 : mg "page_spots" = some (.ref g2)) : FnOk P w K mg base CX0 3 f fd ["self", "by"] (spBeside K C S) := by
  refine F.ok sc_bes (fun vs H Q E h => ?_) (fun cdv A outer s H vs Q E hr h => ?_)
  · obtain ⟨cu, sh, rl, st, as, rows, gap, least, p, b, rfl, _⟩ := h
    rfl
  · obtain ⟨cu, sh, rl, st, as, rows, gap, least, p, b, rfl, hC, k⟩ := h
    have nd := sc_bes.nd
    have r1 : Room 1 _ := hr.mono (by decide)
    refine ⟨_, pss_cons (ps_set (i := 2) nd rfl (.inl rfl) (pe_call G2 hr (by rfl) m2 k2 b2 .nil pass0 (pa_cons (pe_meth0 (pe_fld (pv 0) rfl) X.cS M1 G1 r1 b1 .nil pass0) pa_nil)))
      (pss_cons (ps_set (i := 3) nd rfl (.inl rfl) (pe_op op_add (pe_bm PySem.F.plainAttrs_list PySem.F.slot_list_index PySem.F.type_list_index (mt_indexD (room65 hr)) (pv 2) (pa_cons (pe_fld (pv 0) rfl) pa_nil)) (pv 1)))
      (pss_cons (ps_if (pt_chain op_le op_lt pe_int (pv 3) (pe_callB call_len_seq (by rfl) T.len PySem.boot_len (pa_cons (pv 2) pa_nil))) (pss_one (ps_ret (pe_ix ix_list (pv 2) (pv 3) (fun _ _ => rfl)))) pss_nil)
      (pss_one (ps_ret pe_non)))), ?_⟩
    obtain ⟨dx, sp, h1, h2⟩ := hC.cur
    obtain ⟨dx2, dl, h3, h4⟩ := hC.sht.she
    refine ⟨_, rfl, cu, C, dx, _, _, rfl, h1, X.cC, X.nSheet, rfl, sh, dx2, _, rfl, h3, rfl, sh, rl, st, as, rows, gap, least, rfl, hC.sht, fun r nr => ?_⟩
    have x1 := same_new (o := .lst (as.map V.ref)) nr
    have hP1 : PageAt K (upd H r (.lst (as.map V.ref))) r as rows := ⟨SqL.of upd_same, hC.sht.page.len, fun i q rw_ e1 e2 => same_sqT x1 (hC.sht.page.row i q rw_ e1 e2)⟩
    generalize upd H r (.lst (as.map V.ref)) = H1 at x1 hP1 ⊢
    refine ⟨r, as, rows, rfl, hP1, hC.sht.ok, fun D H2 o => ?_⟩
    have x2 : Same H H2 := fun b o' e => o.sm b o' (x1 b o' e)
    obtain ⟨g1', g2', g3'⟩ := idx_eq hC.mem
    have hcu2 := x2 _ _ h1
    obtain ⟨ts, q1, q2, q3⟩ := id o.ts
    refine ⟨_, rfl, .inl ⟨rfl, _, SqL.of q1⟩, _, rfl, cu, C, dx, _, _, rfl, hcu2, X.cC, X.nSpot, rfl, D, _, d3 p, (pageSp rows).map d3, (pageSp rows).idxOf p, d3 p, rfl, rfl, dp_tups o, dp_d3 (same_sqT x2 h2), shaped_d3s _, shaped_d3 p, by rw [List.getElem?_map, g1']; rfl, by rw [eqv_d3, decide_eq_true rfl], fun m z hm hz => ?_, ?_⟩
    · rw [List.getElem?_map] at hz
      cases e : (pageSp rows)[m]? with
      | none => rw [e] at hz; cases hz
      | some q =>
        rw [e] at hz
        cases hz
        rw [eqv_d3, decide_eq_false (g3' m q hm e)]
    refine ⟨_, rfl, _, _, rfl, rfl, ?_⟩
    have lt : (ts.map V.ref).length = (pageSp rows).length := by rw [List.length_map, q2, List.length_map]
    have eb : besideR rows p b = if 0 ≤ (((pageSp rows).idxOf p : Nat) : Int) + b ∧ (((pageSp rows).idxOf p : Nat) : Int) + b < ((pageSp rows).length : Nat) then (pageSp rows)[((((pageSp rows).idxOf p : Nat) : Int) + b).toNat]? else none := rfl
    dsimp only
    generalize (((pageSp rows).idxOf p : Nat) : Int) + b = n at eb ⊢
    refine ⟨_, rfl, 0, n, rfl, rfl, ?_⟩
    by_cases c1 : 0 ≤ n
    · refine ⟨true, dT c1, iteT ⟨_, rfl, D, _, rfl, .inl (SqL.of q1), n, _, rfl, rfl, ?_⟩⟩
      rw [lt]
      by_cases c2 : n < ((pageSp rows).length : Nat)
      · refine ⟨true, dT c2, iteT ?_⟩
        obtain ⟨m, rfl⟩ := Int.eq_ofNat_of_zero_le c1
        have hm : m < (pageSp rows).length := by omega
        rw [if_pos ⟨c1, c2⟩] at eb
        have em : ((m : Nat) : Int).toNat = m := rfl
        rw [em] at eb
        obtain ⟨t, ht⟩ := getP (xs := ts) (i := m) (by rw [q2, List.length_map]; exact hm)
        refine ⟨_, rfl, _, rfl, D, _, _, .ref t, rfl, rfl, SqL.of q1, atI_nat (by rw [List.getElem?_map, ht]; rfl), ?_⟩
        refine k _ _ x2 ?_
        rw [eb, List.getElem?_eq_getElem hm]
        exact ⟨t, rfl, SqT.of (q3 m t _ ht (by rw [List.getElem?_map, List.getElem?_eq_getElem hm]; rfl))⟩
      · refine ⟨false, dF c2, iteF ?_⟩
        rw [if_neg fun z => c2 z.2] at eb
        refine k _ _ x2 ?_
        rw [eb]
        rfl
    · refine ⟨false, dF c1, iteF ?_⟩
      rw [if_neg fun z => c1 z.1] at eb
      refine ⟨_, rfl, iteF (k _ _ x2 ?_)⟩
      rw [eb]
      rfl
/-- Cursor.step -/
def spStep (K : PySem.W.Frag) (cs : List (Addr × Addr)) (C S : Addr) : Sp := fun vs H Q _ => ∃ (cu sh rl st : Addr) (as : List Addr) (rows : List (List Str)) (gap least : Int) (p : Nat × Nat × Nat) (b : Int), vs = [.ref cu, .int b] ∧ Tabs cs H ∧ CurS K C S H cu sh rl st as rows gap least p ∧
  ∀ (H' : Hp), ExtC cu H H' → Tabs cs H' → CurS K C S H' cu sh rl st as rows gap least (stepR rows p b).2 → Q (.bl (stepR rows p b).1) H'
theorem sc_step : FnScope ["self", "by", "spot"] ["self", "by"] (defScope (mth 37 11)) := ⟨rfl, rfl, rfl, by decide +kernel, rfl, by decide +kernel, by decide +kernel⟩
theorem beside_mem {rows : List (List Str)} {p q : Nat × Nat × Nat} {b : Int} (h : besideR rows p b = some q) : q ∈ pageSp rows := by
  unfold besideR at h
  simp only at h
  split at h
  · exact List.mem_of_getElem? h
  · cases h
theorem ok_step {f g : Addr} {fd fdg : FuncData} (X : ClsT K C S) (F : Fun K "step" "Cursor.step" (mth 37 11) f fd)
    (M : Meth K C "beside" g) (G : FnOk P w K mg base CX0 3 g fdg ["self", "by"] (spBeside K C S)) (bd : Binds K fdg ["self", "by"] []) : FnOk P w K mg base CX0 4 f fd ["self", "by"] (spStep K cs C S) := by
  refine F.ok sc_step (fun vs H Q E h => ?_) (fun cdv A outer s H vs Q E hr h => ?_)
  · obtain ⟨cu, sh, rl, st, as, rows, gap, least, p, b, rfl, _⟩ := h
    rfl
  · obtain ⟨cu, sh, rl, st, as, rows, gap, least, p, b, rfl, hT, hC, k⟩ := h
    have nd := sc_step.nd
    refine ⟨_, pss_cons (ps_set (i := 2) nd rfl (.inl rfl) (pe_meth (pv 0) X.cC M G hr bd .nil pass0 (pa_cons (pv 1) pa_nil)))
      (pss_cons (ps_if (pt_cmpR op_isN (pv 2) pe_non (nomark _)) (pss_one (ps_ret pe_bl)) pss_nil)
      (pss_cons (ps_fld (pv 0) (pv 2) rfl) (pss_one (ps_ret pe_bl)))), ?_⟩
    obtain ⟨dx, sp, h1, h2⟩ := id hC.cur
    refine ⟨_, rfl, cu, dx, _, rfl, h1, rfl, _, rfl, cu, sh, rl, st, as, rows, gap, least, p, b, rfl, hC, fun v H1 x1 hv => ?_⟩
    have hC1 := hC.gw (same_extN x1)
    have t1 : Tabs cs H1 := fun q hq => by
      obtain ⟨ps, e1, e2⟩ := hT q hq
      exact ⟨ps, x1 _ _ e1, e2⟩
    unfold stepR at k
    cases e : besideR rows p b with
    | none =>
      rw [e] at hv k
      cases hv
      exact ⟨_, rfl, rfl, true, rfl, iteT (k _ (ExtC.of (same_extN x1)) t1 hC1)⟩
    | some q =>
      rw [e] at hv k
      obtain ⟨t, rfl, ht⟩ := hv
      have h11 := x1 _ _ h1
      refine ⟨_, rfl, rfl, false, rfl, iteF ⟨_, rfl, _, rfl, cu, C, dx, _, rfl, h11, X.cC, X.nSpot, by show 2 < 1000; decide, ?_⟩⟩
      have nsc : sh ≠ cu := fun z => by
        obtain ⟨dx2, dl, g1, _⟩ := hC1.sht.she
        rw [z, h11] at g1
        injection g1 with g1
        injection g1 with _ _ g1
        injection g1 with g1 _
        injection g1 with g1 _
        exact absurd g1 (by decide)
      have x2 : ExtC cu H1 (upd H1 cu (.ins C dx (putF "spot" (.ref t) [("sheet", .ref sh), ("spot", .ref sp)]))) := fun b o h _ n => by rw [upd_ne n]; exact h
      exact k _ (fun b o h n m => x2 b o (x1 b o h) n m) (tabs_ins t1 h11) ⟨⟨dx, t, upd_same, sqT_but x2 h11 ht⟩, hC1.sht.but x2 h11 nsc, beside_mem e⟩
theorem sc_cleft : FnScope ["self"] ["self"] (defScope (mth 37 3)) := ⟨rfl, rfl, rfl, by decide +kernel, rfl, by decide +kernel, by decide +kernel⟩
theorem sc_cright : FnScope ["self"] ["self"] (defScope (mth 37 4)) := ⟨rfl, rfl, rfl, by decide +kernel, rfl, by decide +kernel, by decide +kernel⟩
theorem sc_up : FnScope ["self"] ["self"] (defScope (mth 37 5)) := ⟨rfl, rfl, rfl, by decide +kernel, rfl, by decide +kernel, by decide +kernel⟩
theorem sc_down : FnScope ["self"] ["self"] (defScope (mth 37 6)) := ⟨rfl, rfl, rfl, by decide +kernel, rfl, by decide +kernel, by decide +kernel⟩
/-- a going of no arguments -/
def spGo (K : PySem.W.Frag) (cs : List (Addr × Addr)) (C S : Addr) (f : List (List Str) → Int → Int → Nat × Nat × Nat → Bool × (Nat × Nat × Nat)) : Sp := fun vs H Q _ => ∃ (cu sh rl st : Addr) (as : List Addr) (rows : List (List Str)) (gap least : Int) (p : Nat × Nat × Nat), vs = [.ref cu] ∧ Tabs cs H ∧ CurS K C S H cu sh rl st as rows gap least p ∧
  ∀ (H' : Hp), ExtC cu H H' → Tabs cs H' → CurS K C S H' cu sh rl st as rows gap least (f rows gap least p).2 → Q (.bl (f rows gap least p).1) H'
theorem ok_cleft {f g : Addr} {fd fdg : FuncData} (X : ClsT K C S) (F : Fun K "left" "Cursor.left" (mth 37 3) f fd)
    (M : Meth K C "step" g) (G : FnOk P w K mg base CX0 4 g fdg ["self", "by"] (spStep K cs C S)) (bd : Binds K fdg ["self", "by"] []) : FnOk P w K mg base CX0 5 f fd ["self"] (spGo K cs C S fun rows _ _ p => stepR rows p (-1)) := by
  refine F.ok sc_cleft (fun vs H Q E h => ?_) (fun cdv A outer s H vs Q E hr h => ?_)
  · obtain ⟨cu, sh, rl, st, as, rows, gap, least, p, rfl, _⟩ := h
    rfl
  · obtain ⟨cu, sh, rl, st, as, rows, gap, least, p, rfl, hT, hC, k⟩ := h
    refine ⟨_, pss_one (ps_ret (pe_meth (pv 0) X.cC M G hr bd .nil pass0 (pa_cons (pe_un un_neg pe_int) pa_nil))), ?_⟩
    obtain ⟨dx, sp, h1, h2⟩ := id hC.cur
    exact ⟨_, rfl, cu, dx, _, rfl, h1, rfl, 1, rfl, cu, sh, rl, st, as, rows, gap, least, p, -1, rfl, hT, hC, k⟩
theorem ok_cright {f g : Addr} {fd fdg : FuncData} (X : ClsT K C S) (F : Fun K "right" "Cursor.right" (mth 37 4) f fd)
    (M : Meth K C "step" g) (G : FnOk P w K mg base CX0 4 g fdg ["self", "by"] (spStep K cs C S)) (bd : Binds K fdg ["self", "by"] []) : FnOk P w K mg base CX0 5 f fd ["self"] (spGo K cs C S fun rows _ _ p => stepR rows p 1) := by
  refine F.ok sc_cright (fun vs H Q E h => ?_) (fun cdv A outer s H vs Q E hr h => ?_)
  · obtain ⟨cu, sh, rl, st, as, rows, gap, least, p, rfl, _⟩ := h
    rfl
  · obtain ⟨cu, sh, rl, st, as, rows, gap, least, p, rfl, hT, hC, k⟩ := h
    refine ⟨_, pss_one (ps_ret (pe_meth (pv 0) X.cC M G hr bd .nil pass0 (pa_cons pe_int pa_nil))), ?_⟩
    obtain ⟨dx, sp, h1, h2⟩ := id hC.cur
    exact ⟨_, rfl, cu, dx, _, rfl, h1, rfl, cu, sh, rl, st, as, rows, gap, least, p, 1, rfl, hT, hC, k⟩
end
end TG

namespace TG
open PySem PySem.Spec PyProof.Rows L2 Gx EnT
section
variable {P : Program} {w : World} {K : PySem.W.Frag} {mg : Str → Option Value} {base : Heap} {cs : List (Addr × Addr)} {C S : Addr}
theorem cu_ne {H : Hp} {cu sh rl st dx sp : Addr} {as : List Addr} {rows : List (List Str)} {gap least : Int} (o : ShtS K S H sh rl st as rows gap least) (h : H cu = some (.ins C dx [("sheet", .ref sh), ("spot", .ref sp)])) : sh ≠ cu := fun z => by
  obtain ⟨dx2, dl, g1, _⟩ := o.she
  rw [z, h] at g1
  injection g1 with g1
  injection g1 with _ _ g1
  injection g1 with g1 _
  injection g1 with g1 _
  exact absurd g1 (by decide)
theorem atI_last (xs : List V) (v : V) : atI (xs ++ [v]) (-1) = some v := by
  unfold atI ixN
  rw [if_neg (by decide), if_pos (by rw [List.length_append, List.length_singleton]; omega)]
  have e : (-1 + (((xs ++ [v]).length : Nat) : Int)).toNat = xs.length := by rw [List.length_append, List.length_singleton]; omega
  show (xs ++ [v])[(-1 + (((xs ++ [v]).length : Nat) : Int)).toNat]? = _
  rw [e, List.getElem?_append_right (Nat.le_refl _), Nat.sub_self]
  rfl
/-- its spot is changed -/
theorem CurS.go {H : Hp} {cu sh rl st dx sp t : Addr} {as : List Addr} {rows : List (List Str)} {gap least : Int} {p q : Nat × Nat × Nat} (hC : CurS K C S H cu sh rl st as rows gap least p) (h : H cu = some (.ins C dx [("sheet", .ref sh), ("spot", .ref sp)])) (ht : SqT K H t (v3 q)) (hq : q ∈ pageSp rows) :
    ExtC cu H (upd H cu (.ins C dx [("sheet", .ref sh), ("spot", .ref t)])) ∧ CurS K C S (upd H cu (.ins C dx [("sheet", .ref sh), ("spot", .ref t)])) cu sh rl st as rows gap least q := by
  have x2 : ExtC cu H (upd H cu (.ins C dx [("sheet", .ref sh), ("spot", .ref t)])) := fun b o h _ n => by rw [upd_ne n]; exact h
  exact ⟨x2, ⟨⟨dx, t, upd_same, sqT_but x2 h ht⟩, hC.sht.but x2 h (cu_ne hC.sht h), hq⟩⟩
theorem near_mem {rows : List (List Str)} {gap least : Int} {i : Nat} {most : Int} (hO : PgOk rows) (hi : i < rows.length) : (i, ((nearR rows gap least i most).getLast?.getD (0, 0)).1, ((nearR rows gap least i most).getLast?.getD (0, 0)).2) ∈ pageSp rows := by
  refine mem_pageSp.mpr ⟨hi, ?_⟩
  show ((nearR rows gap least i most).getLast?.getD (0, 0)) ∈ rowSp (rows.getD i [])
  cases e : (nearR rows gap least i most).getLast? with
  | some q => exact (List.mem_filter.mp (List.mem_of_getLast? e)).1
  | none =>
    refine mem_rowSp.mpr ⟨?_, Nat.zero_le _⟩
    show 0 < (rows.getD i []).length
    rw [List.getD_eq_getElem?_getD, List.getElem?_eq_getElem hi]
    exact (hO.rows _ (List.getElem_mem hi)).pos
/-- Cursor.climb -/
def spClimb (K : PySem.W.Frag) (cs : List (Addr × Addr)) (C S : Addr) : Sp := fun vs H Q _ => ∃ (cu sh rl st : Addr) (as : List Addr) (rows : List (List Str)) (gap least : Int) (p : Nat × Nat × Nat) (b : Int), vs = [.ref cu, .int b] ∧ Tabs cs H ∧ CurS K C S H cu sh rl st as rows gap least p ∧
  ∀ (H' : Hp), ExtC cu H H' → Tabs cs H' → CurS K C S H' cu sh rl st as rows gap least (climbR rows gap least p b).2 → Q (.bl (climbR rows gap least p b).1) H'
abbrev nmClimb : List Str := ["self", "by", "row", "page", "most", "begins", "cell", "place", "near"]
theorem sc_climb : FnScope nmClimb ["self", "by"] (defScope (mth 37 13)) := ⟨rfl, rfl, rfl, by decide +kernel, rfl, by decide +kernel, by decide +kernel⟩
theorem ok_climb {f g1 g2 g3 g4 : Addr} {fd fd1 fd2 fd3 fd4 : FuncData} (T : Txt mg) (X : ClsT K C S) (F : Fun K "climb" "Cursor.climb" (mth 37 13) f fd)
    (M1 : Meth K S "page" g1) (G1 : FnOk P w K mg base CX0 1 g1 fd1 ["self"] (spShPage K S)) (b1 : Binds K fd1 ["self"] [])
    (M2 : Meth K S "begins" g2) (G2 : FnOk P w K mg base CX0 15 g2 fd2 ["self"] (spShBegins K cs S)) (b2 : Binds K fd2 ["self"] [])
    (M3 : Meth K C "aside" g3) (G3 : FnOk P w K mg base CX0 16 g3 fd3 ["self"] (spAside K cs C S)) (b3 : Binds K fd3 ["self"] [])
    (G4 : FnOk P w K mg base CX0 1 g4 fd4 ["row"] (spRowSp K)) (k4 : PySem.W.keepIn K (.ref g4) = true) (b4 : Binds K fd4 ["row"] []) (m4 : mg "row_spots" = some (.ref g4)) : FnOk P w K mg base CX0 17 f fd ["self", "by"] (spClimb K cs C S) := by
  refine F.ok sc_climb (fun vs H Q E h => ?_) (fun cdv A outer s H vs Q E hr h => ?_)
  · obtain ⟨cu, sh, rl, st, as, rows, gap, least, p, b, rfl, _⟩ := h
    rfl
  · obtain ⟨cu, sh, rl, st, as, rows, gap, least, p, b, rfl, hT, hC, k⟩ := h
    have nd := sc_climb.nd
    have r1 : Room 1 _ := hr.mono (by decide)
    have r14 : Room 15 _ := hr.mono (by decide)
    refine ⟨_, pss_cons (ps_set (i := 2) nd rfl (.inl rfl) (pe_op op_add (pe_ix ix_tup (pe_fld (pv 0) rfl) pe_int (fun _ _ => rfl)) (pv 1)))
      (pss_cons (ps_set (i := 3) nd rfl (.inl rfl) (pe_meth0 (pe_fld (pv 0) rfl) X.cS M1 G1 r1 b1 .nil pass0))
      (pss_cons (ps_if (pt_not (pt_chain op_le op_lt pe_int (pv 2) (pe_callB call_len_seq (by rfl) T.len PySem.boot_len (pa_cons (pv 3) pa_nil)))) (pss_one (ps_ret pe_bl)) pss_nil)
      (pss_cons (ps_set (i := 4) nd rfl (.inr rfl) (pe_meth0 (pv 0) X.cC M3 G3 hr b3 .nil pass0))
      (pss_cons (ps_set (i := 5) nd rfl (.inr rfl) (pe_ix ix_list (pe_meth0 (pe_fld (pv 0) rfl) X.cS M2 G2 r14 b2 .nil pass0) (pv 2) (fun _ _ => rfl)))
      (pss_cons (ps_setLc (i := 8) (own := [("cell", 6), ("place", 7)]) (g := gTup K 2 (gCons (gName 6) (gCons (gName 7) gNil))) rfl nd rfl rfl (sw_true rfl rfl rfl (by decide +kernel)) (pi_list (pe_call G4 r1 (by rfl) m4 k4 b4 .nil pass0 (pa_cons (pe_ix ix_list (pv 3) (pv 2) (fun _ _ => rfl)) pa_nil))) (blkOk_by (own := [("cell", 6), ("place", 7)]) (N := nmClimb) (sc := defScope (mth 37 13)) (by decide +kernel))
        (fun _ _ _ _ _ => pg_tup rfl (pgs_cons (pg_name (i := 6) nd rfl (.inl rfl) (.inr rfl)) (pgs_cons (pg_name (i := 7) nd rfl (.inl rfl) (.inr rfl)) pgs_nil))) (fun _ _ _ _ _ => pts_one (pt_cmpR op_le (pe_op op_add (pe_ix (r := rIxL K) ix_list (pv 5) (pv 6) (fun _ _ => rfl)) (pv 7)) (pv 4) (nomark _))) (fun _ _ _ _ _ => pe_tup (pa_cons (pv 6) (pa_cons (pv 7) pa_nil))))
      (pss_cons (ps_asg (pe_ifExp (pt_cmpR op_gt (pe_callB call_len_seq (by rfl) T.len PySem.boot_len (pa_cons (pv 8) pa_nil)) pe_int (nomark _)) (pe_ix ix_list (pv 8) (pe_un un_neg pe_int) (fun _ _ => rfl)) (pe_tup (pa_cons pe_int (pa_cons pe_int pa_nil)))) (pg_tup rfl (pgs_cons (pg_name (i := 6) nd rfl (.inl rfl)) (pgs_cons (pg_name (i := 7) nd rfl (.inl rfl)) pgs_nil))))
      (pss_cons (ps_fld (pv 0) (pe_tup (pa_cons (pv 2) (pa_cons (pv 6) (pa_cons (pv 7) pa_nil)))) rfl)
      (pss_one (ps_ret pe_bl))))))))), ?_⟩
    obtain ⟨dx, sp, h1, h2⟩ := id hC.cur
    obtain ⟨dx2, dl, h3, h4⟩ := id hC.sht.she
    refine ⟨_, rfl, cu, C, dx, _, _, rfl, h1, X.cC, X.nSpot, rfl, sp, _, 0, .int (p.1 : Nat), rfl, rfl, h2, rfl, _, rfl, _, _, rfl, rfl, ?_⟩
    refine ⟨_, rfl, cu, C, dx, _, _, rfl, h1, X.cC, X.nSheet, rfl, sh, dx2, _, rfl, h3, rfl, sh, rl, st, as, rows, gap, least, rfl, hC.sht, fun r nr => ?_⟩
    have x1 := same_new (o := .lst (as.map V.ref)) nr
    have hr1 : upd H r (.lst (as.map V.ref)) r = some (.lst (as.map V.ref)) := upd_same
    generalize upd H r (.lst (as.map V.ref)) = H1 at x1 hr1 ⊢
    have hC1 := hC.gw (same_extN x1)
    have t1 : Tabs cs H1 := tabs_ext hT x1
    have ec : climbR rows gap least p b = if 0 ≤ ((p.1 : Nat) : Int) + b ∧ ((p.1 : Nat) : Int) + b < (rows.length : Nat) then (true, ((((p.1 : Nat) : Int) + b).toNat, ((nearR rows gap least (((p.1 : Nat) : Int) + b).toNat (asideR rows gap least p)).getLast?.getD (0, 0)).1, ((nearR rows gap least (((p.1 : Nat) : Int) + b).toNat (asideR rows gap least p)).getLast?.getD (0, 0)).2)) else (false, p) := rfl
    dsimp only
    generalize ((p.1 : Nat) : Int) + b = n at ec ⊢
    have lt : (as.map V.ref).length = rows.length := by rw [List.length_map, hC.sht.page.len]
    have no : ¬ (0 ≤ n ∧ n < (rows.length : Nat)) → Q (.bl false) H1 := fun c => by
      rw [if_neg c] at ec
      rw [ec] at k
      exact k _ (ExtC.of (same_extN x1)) t1 hC1
    refine ⟨_, rfl, 0, n, rfl, rfl, ?_⟩
    by_cases c1 : 0 ≤ n
    · refine ⟨true, dT c1, iteT ⟨_, rfl, r, _, rfl, .inl (SqL.of hr1), n, _, rfl, rfl, ?_⟩⟩
      rw [lt]
      by_cases c2 : n < (rows.length : Nat)
      · refine ⟨true, dT c2, iteF ?_⟩
        obtain ⟨i, rfl⟩ := Int.eq_ofNat_of_zero_le c1
        have hi : i < rows.length := by omega
        rw [if_pos ⟨c1, c2⟩] at ec
        have em : ((i : Nat) : Int).toNat = i := rfl
        rw [em] at ec
        rw [ec] at k
        dsimp only at k
        -- most, begins
        have h11 := x1 _ _ h1
        refine ⟨_, rfl, cu, dx, _, rfl, h11, rfl, cu, sh, rl, st, as, rows, gap, least, p, rfl, t1, hC1, fun H2 x2 => ?_⟩
        have hC2 := hC1.gw x2.ext
        have h12 : H2 cu = _ := x2.ext _ _ h11 fun ps z => by cases z
        have h32 : H2 sh = _ := x2.ext _ _ (x1 _ _ h3) fun ps z => by cases z
        refine ⟨_, rfl, cu, C, dx, _, _, rfl, h12, X.cC, X.nSheet, rfl, sh, dx2, _, rfl, h32, rfl, sh, rl, st, as, rows, gap, least, rfl, x2.tab, hC2.sht, fun bl es H3 x3 nbl tA => ?_⟩
        obtain ⟨e, he⟩ := getP (xs := es) (i := i) (by rw [tA.len]; exact hi)
        have he3 := tA.at_ i e he
        refine ⟨_, rfl, bl, _, _, .ref e, rfl, rfl, SqL.of tA.lst, atI_nat (by rw [List.getElem?_map, he]; rfl), ?_⟩
        have x23 := x2.trans x3
        have hr3 := x23.lst hr1
        have hC3 := hC2.gw x3.ext
        obtain ⟨q, hq⟩ := getP (xs := as) (i := i) (by rw [hC.sht.page.len]; exact hi)
        obtain ⟨rw_, hrw⟩ := getP (xs := rows) (i := i) hi
        have hq3 := hC3.sht.page.row i q rw_ hq hrw
        have hrO := hC.sht.ok.rows rw_ (List.mem_of_getElem? hrw)
        have er : rows.getD i [] = rw_ := by rw [List.getD_eq_getElem?_getD, hrw]; rfl
        refine ⟨_, rfl, _, rfl, r, _, _, .ref q, rfl, rfl, SqL.of hr3, atI_nat (by rw [List.getElem?_map, hq]; rfl), q, rw_, rfl, hq3, hrO, fun D5 H4 o4 => ?_⟩
        obtain ⟨ts, g1, g2, g3⟩ := id o4.ts
        have hB4 := o4.sm _ _ he3
        refine ⟨D5, rfl, ⟨_, SqL.of g1⟩, fun D nD => lc_list (xs := ts.map V.ref) (fun j H' => TupL H4 D ((((rowSp rw_).take j).filter fun q => decide (begC rows gap least i (ncl rows i) q.1 + ((q.2 : Nat) : Int) ≤ asideR rows gap least p)).map v2) H') (TupL.start nD) (fun j H' _ o => SqL.of (o.sm _ _ g1)) ?_ ?_⟩
        · rintro j v H5 hv o
          obtain ⟨t, ht, rfl⟩ := get_map hv
          have hj : j < (rowSp rw_).length := by
            have := (List.getElem?_eq_some_iff.mp ht).1
            rw [g2, List.length_map] at this
            exact this
          obtain ⟨⟨c, k0⟩, hp⟩ := getP (xs := rowSp rw_) (i := j) hj
          have gt := o.sm _ _ (g3 j t (v2 (c, k0)) ht (by rw [List.getElem?_map, hp]; rfl))
          have hc : c ≤ ncl rows i := by
            have := (mem_rowSp.mp (List.mem_of_getElem? hp)).1
            unfold ncl
            rw [hrw]
            show c ≤ rw_.length - 1
            omega
          have l66 : (rowSp rw_).length ≤ 66 := by
            have h1 := rowSp_len hrO (Nat.le_refl _)
            have h2 := hrO.len
            have : rowSp rw_ = rowTo rw_ rw_.length := rfl
            rw [this]
            omega
          have szl : (2000 : Nat) < sizeLine := by decide
          refine ⟨t, _, rfl, .inl (.inl gt), rfl, _, _, rfl, _, _, rfl, rfl, rfl, ?_⟩
          refine ⟨_, rfl, _, rfl, e, _, _, .int (begC rows gap least i (ncl rows i) c), rfl, rfl, SqL.of (o.sm _ _ hB4), atI_nat (by rw [List.getElem?_map, begs_get hc]; rfl), _, rfl, _, _, rfl, rfl, _, rfl, _, _, rfl, rfl, ?_⟩
          rw [List.take_add_one, hp, List.filter_append]
          by_cases hle : begC rows gap least i (ncl rows i) c + ((k0 : Nat) : Int) ≤ asideR rows gap least p
          · refine ⟨true, dT hle, iteT ⟨_, rfl, _, rfl, by show 2 ≤ sizeLine; decide, fun s ns => ?_⟩⟩
            have o6 := o.grow (same_new (o := .tup [.int (c : Nat), .int (k0 : Nat)]) ns)
            obtain ⟨acc, w1, w2, w3⟩ := o6.more (t := s) (v := [.int (c : Nat), .int (k0 : Nat)]) upd_same
            refine ⟨acc, w1, ?_, ?_⟩
            · have := List.length_filter_le (fun q : Nat × Nat => decide (begC rows gap least i (ncl rows i) q.1 + ((q.2 : Nat) : Int) ≤ asideR rows gap least p)) ((rowSp rw_).take j)
              rw [List.length_take] at this
              rw [w2, List.length_map]
              omega
            · have ef : List.filter (fun q : Nat × Nat => decide (begC rows gap least i (ncl rows i) q.1 + ((q.2 : Nat) : Int) ≤ asideR rows gap least p)) (some (c, k0)).toList = [(c, k0)] := by
                simp [hle]
              rw [ef, List.map_append]
              exact w3
          · refine ⟨false, dF hle, iteF ?_⟩
            have ef : List.filter (fun q : Nat × Nat => decide (begC rows gap least i (ncl rows i) q.1 + ((q.2 : Nat) : Int) ≤ asideR rows gap least p)) (some (c, k0)).toList = [] := by
              simp [hle]
            rw [ef, List.append_nil]
            exact o
        · rintro H5 o
          have ll : (ts.map V.ref).length = (rowSp rw_).length := by rw [List.length_map, g2, List.length_map]
          rw [ll, List.take_of_length_le (Nat.le_refl _)] at o
          have en : (rowSp rw_).filter (fun q => decide (begC rows gap least i (ncl rows i) q.1 + ((q.2 : Nat) : Int) ≤ asideR rows gap least p)) = nearR rows gap least i (asideR rows gap least p) := by unfold nearR; rw [er]
          rw [en] at o
          have hmem := near_mem (gap := gap) (least := least) (most := asideR rows gap least p) hC.sht.ok hi
          have x35 : LamX.ExtN H3 H5 := fun b u hb _ => o.sm b u (o4.sm b u hb)
          have hC5 := hC3.gw x35
          have h15 : H5 cu = _ := x35 _ _ (x3.ext _ _ h12 fun ps z => by cases z) fun ps z => by cases z
          have t5 : Tabs cs H5 := fun q hq => by
            obtain ⟨ps, e1, e2⟩ := x3.tab q hq
            exact ⟨ps, o.sm _ _ (o4.sm _ _ e1), e2⟩
          have all5 : ExtC cu H H5 := ExtC.of ((same_extN x1).trans (x23.ext.trans x35))
          obtain ⟨us, w1, w2, w3⟩ := o.ts
          -- stand there
          have fin : ∀ (H6 : Hp) (c k0 : Nat), Same H5 H6 → (nearR rows gap least i (asideR rows gap least p)).getLast?.getD (0, 0) = (c, k0) → ∀ t3, H6 t3 = none → Q (.bl true) (upd (upd H6 t3 (.tup [.int (i : Nat), .int (c : Nat), .int (k0 : Nat)])) cu (.ins C dx [("sheet", .ref sh), ("spot", .ref t3)])) := fun H6 c k0 x6 eq_ t3 nt3 => by
            rw [eq_] at k hmem
            have x7 : LamX.ExtN H5 (upd H6 t3 (.tup [.int (i : Nat), .int (c : Nat), .int (k0 : Nat)])) := fun b u hb _ => by
              rw [upd_ne (ne_of_none (x6 b u hb) nt3)]
              exact x6 b u hb
            have hC7 := hC5.gw x7
            have h17 := x7 _ _ h15 fun ps z => by cases z
            obtain ⟨y1, y2⟩ := hC7.go h17 (t := t3) (q := (i, c, k0)) (SqT.of upd_same) hmem
            refine k _ (fun b u hb n m => y1 b u (x7 b u (all5 b u hb n m) n) n m) (tabs_ins (fun q hq => ?_) h17) y2
            obtain ⟨ps, e1, e2⟩ := t5 q hq
            exact ⟨ps, by rw [upd_ne (ne_of_none (x6 _ _ e1) nt3)]; exact x6 _ _ e1, e2⟩
          refine ⟨_, rfl, D, _, rfl, .inl (SqL.of w1), _, _, rfl, rfl, ?_⟩
          have lu : us.length = (nearR rows gap least i (asideR rows gap least p)).length := by rw [w2, List.length_map]
          rcases List.eq_nil_or_concat (nearR rows gap least i (asideR rows gap least p)) with hn | ⟨ys, ⟨c, k0⟩, hn⟩
          · rw [hn] at lu
            refine ⟨false, dF (by rw [List.length_map, lu]; simp), iteF ⟨by show 2 ≤ sizeLine; decide, fun t nt => ?_⟩⟩
            refine ⟨t, _, rfl, .inl (.inl upd_same), rfl, _, _, rfl, _, _, rfl, rfl, ?_⟩
            refine ⟨_, rfl, _, rfl, _, rfl, by show 3 ≤ sizeLine; decide, fun t3 nt3 => ?_⟩
            have x6 := same_new (o := .tup [.int 0, .int 0]) nt
            refine ⟨_, rfl, cu, C, dx, _, rfl, by rw [upd_ne (ne_of_none (x6 _ _ h15) nt3)]; exact x6 _ _ h15, X.cC, X.nSpot, by show 2 < 1000; decide, ?_⟩
            exact fin _ 0 0 x6 (by rw [hn]; rfl) t3 nt3
          · have hn' : nearR rows gap least i (asideR rows gap least p) = ys ++ [(c, k0)] := by rw [hn]; simp
            rw [hn', List.length_append, List.length_singleton] at lu
            have hu : us ≠ [] := fun z => by rw [z] at lu; simp at lu
            obtain ⟨vs, t, rfl⟩ : ∃ vs t, us = vs ++ [t] := ⟨us.dropLast, us.getLast hu, (List.dropLast_concat_getLast hu).symm⟩
            rw [List.length_append, List.length_singleton] at lu
            have ht := w3 vs.length t (v2 (c, k0)) (by rw [List.getElem?_append_right (Nat.le_refl _), Nat.sub_self]; rfl) (by rw [hn', List.map_append, List.getElem?_append_right (by rw [List.length_map]; omega), List.length_map]; rw [show vs.length - ys.length = 0 by omega]; rfl)
            refine ⟨true, dT (by rw [List.length_map, List.length_append, List.length_singleton]; omega), iteT ⟨_, rfl, 1, rfl, D, _, _, .ref t, rfl, rfl, SqL.of w1, ?_, ?_⟩⟩
            · rw [List.map_append]
              exact atI_last _ _
            · refine ⟨t, _, rfl, .inl (.inl ht), rfl, _, _, rfl, _, _, rfl, rfl, ?_⟩
              refine ⟨_, rfl, _, rfl, _, rfl, by show 3 ≤ sizeLine; decide, fun t3 nt3 => ?_⟩
              refine ⟨_, rfl, cu, C, dx, _, rfl, by rw [upd_ne (ne_of_none h15 nt3)]; exact h15, X.cC, X.nSpot, by show 2 < 1000; decide, ?_⟩
              exact fin _ c k0 (fun _ _ h => h) (by rw [hn']; simp) t3 nt3
      · exact ⟨false, dF c2, iteT (no fun z => c2 z.2)⟩
    · exact ⟨false, dF c1, iteF ⟨false, rfl, iteT (no fun z => c1 z.1)⟩⟩
theorem ok_up {f g : Addr} {fd fdg : FuncData} (X : ClsT K C S) (F : Fun K "up" "Cursor.up" (mth 37 5) f fd)
    (M : Meth K C "climb" g) (G : FnOk P w K mg base CX0 17 g fdg ["self", "by"] (spClimb K cs C S)) (bd : Binds K fdg ["self", "by"] []) : FnOk P w K mg base CX0 18 f fd ["self"] (spGo K cs C S fun rows gap least p => climbR rows gap least p (-1)) := by
  refine F.ok sc_up (fun vs H Q E h => ?_) (fun cdv A outer s H vs Q E hr h => ?_)
  · obtain ⟨cu, sh, rl, st, as, rows, gap, least, p, rfl, _⟩ := h
    rfl
  · obtain ⟨cu, sh, rl, st, as, rows, gap, least, p, rfl, hT, hC, k⟩ := h
    refine ⟨_, pss_one (ps_ret (pe_meth (pv 0) X.cC M G hr bd .nil pass0 (pa_cons (pe_un un_neg pe_int) pa_nil))), ?_⟩
    obtain ⟨dx, sp, h1, h2⟩ := id hC.cur
    exact ⟨_, rfl, cu, dx, _, rfl, h1, rfl, 1, rfl, cu, sh, rl, st, as, rows, gap, least, p, -1, rfl, hT, hC, k⟩
theorem ok_down {f g : Addr} {fd fdg : FuncData} (X : ClsT K C S) (F : Fun K "down" "Cursor.down" (mth 37 6) f fd)
    (M : Meth K C "climb" g) (G : FnOk P w K mg base CX0 17 g fdg ["self", "by"] (spClimb K cs C S)) (bd : Binds K fdg ["self", "by"] []) : FnOk P w K mg base CX0 18 f fd ["self"] (spGo K cs C S fun rows gap least p => climbR rows gap least p 1) := by
  refine F.ok sc_down (fun vs H Q E h => ?_) (fun cdv A outer s H vs Q E hr h => ?_)
  · obtain ⟨cu, sh, rl, st, as, rows, gap, least, p, rfl, _⟩ := h
    rfl
  · obtain ⟨cu, sh, rl, st, as, rows, gap, least, p, rfl, hT, hC, k⟩ := h
    refine ⟨_, pss_one (ps_ret (pe_meth (pv 0) X.cC M G hr bd .nil pass0 (pa_cons pe_int pa_nil))), ?_⟩
    obtain ⟨dx, sp, h1, h2⟩ := id hC.cur
    exact ⟨_, rfl, cu, dx, _, rfl, h1, rfl, cu, sh, rl, st, as, rows, gap, least, p, 1, rfl, hT, hC, k⟩
/-- Cursor.back, with nothing to take back -/
def spCuBack (K : PySem.W.Frag) (cs : List (Addr × Addr)) (C S : Addr) : Sp := fun vs H Q _ => ∃ (cu sh rl st : Addr) (as : List Addr) (rows : List (List Str)) (gap least : Int) (p : Nat × Nat × Nat), vs = [.ref cu] ∧ Tabs cs H ∧ CurS K C S H cu sh rl st as rows gap least p ∧
  ∀ (H' : Hp), ExtC cu H H' → Tabs cs H' → CurS K C S H' cu sh rl st as rows gap least (0, 0, 0) → Q (.bl false) H'
theorem sc_cuback : FnScope ["self"] ["self"] (defScope (mth 37 9)) := ⟨rfl, rfl, rfl, by decide +kernel, rfl, by decide +kernel, by decide +kernel⟩
theorem ok_cuback {f g : Addr} {fd fdg : FuncData} (X : ClsT K C S) (FT : FirstT K mg) (F : Fun K "back" "Cursor.back" (mth 37 9) f fd)
    (M : Meth K S "back" g) (G : FnOk P w K mg base CX0 1 g fdg ["self"] (spShBack K S)) (bd : Binds K fdg ["self"] []) : FnOk P w K mg base CX0 2 f fd ["self"] (spCuBack K cs C S) := by
  obtain ⟨aF, eF, hF⟩ := FT
  refine F.ok sc_cuback (fun vs H Q E h => ?_) (fun cdv A outer s H vs Q E hr h => ?_)
  · obtain ⟨cu, sh, rl, st, as, rows, gap, least, p, rfl, _⟩ := h
    rfl
  · obtain ⟨cu, sh, rl, st, as, rows, gap, least, p, rfl, hT, hC, k⟩ := h
    refine ⟨_, pss_cons (ps_fld (pv 0) (pe_glob (v := .ref aF) rfl eF rfl) rfl) (pss_one (ps_ret (pe_meth0 (pe_fld (pv 0) rfl) X.cS M G hr bd .nil pass0))), ?_⟩
    obtain ⟨dx, sp, h1, h2⟩ := id hC.cur
    refine ⟨_, rfl, cu, C, dx, _, rfl, h1, X.cC, X.nSpot, by show 2 < 1000; decide, ?_⟩
    obtain ⟨y1, y2⟩ := hC.go h1 (t := aF) (q := (0, 0, 0)) (hF _) (first_mem hC.sht.ok)
    have t1 := tabs_ins (fs' := [("sheet", .ref sh), ("spot", .ref aF)]) hT h1
    obtain ⟨dx2, dl, h3, h4⟩ := id y2.sht.she
    exact ⟨_, rfl, cu, C, dx, _, _, rfl, upd_same, X.cC, X.nSheet, rfl, sh, dx2, _, rfl, h3, rfl, sh, rl, st, as, rows, gap, least, rfl, y2.sht, k _ y1 t1 y2⟩
end
end TG

namespace TG
open PySem PySem.Spec PyProof.Rows L2 Gx EnT
theorem TupL.extend {H0 H1 H2 : Hp} {D D2 : Addr} {l l2 : List (List V)} (o : TupL H0 D l H1) (o2 : TupL H1 D2 l2 H2) : ∃ xs zs, H2 D = some (.lst xs) ∧ H2 D2 = some (.lst zs) ∧ xs.length = l.length ∧ zs.length = l2.length ∧ TupL H0 D (l ++ l2) (upd H2 D (.lst (xs ++ zs))) := by
  obtain ⟨ts, h1, h2, h3⟩ := (o.grow o2.sm).ts
  obtain ⟨us, g1, g2, g3⟩ := o2.ts
  have tD : ∀ {t : Addr} {v : List V}, H2 t = some (.tup v) → t ≠ D := fun {t v} h z => by rw [z, h1] at h; cases h
  refine ⟨_, _, h1, g1, by rw [List.length_map, h2], by rw [List.length_map, g2], fun b u e => ?_, o.nD, ts ++ us, by rw [upd_same]; simp, by rw [List.length_append, List.length_append, h2, g2], fun j t v e1 e2 => ?_⟩
  · rw [upd_ne (ne_of_none e o.nD)]
    exact o2.sm b u (o.sm b u e)
  · by_cases hj : j < ts.length
    · rw [List.getElem?_append_left hj] at e1
      rw [List.getElem?_append_left (by rw [← h2]; exact hj)] at e2
      have := h3 j t v e1 e2
      rw [upd_ne (tD this)]
      exact this
    · rw [List.getElem?_append_right (by omega)] at e1
      rw [List.getElem?_append_right (by rw [← h2]; omega), ← h2] at e2
      have := g3 _ t v e1 e2
      rw [upd_ne (tD this)]
      exact this
section
variable {P : Program} {w : World} {K : PySem.W.Frag} {mg : Str → Option Value} {base : Heap} {cs : List (Addr × Addr)} {C S : Addr}
abbrev nmLP : List Str := ["_law_rows", "_law_found", "_law_number", "_law_cell_here", "_law_place"]
theorem sc_lp : FnScope nmLP ["_law_rows"] (defScope s_places) := ⟨rfl, rfl, rfl, by decide +kernel, rfl, by decide +kernel, by decide +kernel⟩
theorem ok_places9 {f : Addr} {fd : FuncData} (T : Txt mg) (F : Fun K "_law_places" "_law_places" s_places f fd) : FnOk P w K mg base CX0 1 f fd ["_law_rows"] (spPageSp K) := by
  refine F.ok sc_lp (fun vs H Q E h => ?_) (fun cdv A outer s H vs Q E hr h => ?_)
  · obtain ⟨a, as, rows, rfl, _⟩ := h
    rfl
  · obtain ⟨a, as, rows, rfl, hP, hO, k⟩ := h
    have nd := sc_lp.nd
    have szl : (2000 : Nat) < sizeLine := by decide
    refine ⟨_, pss_cons (ps_set (i := 1) nd rfl (.inl rfl) (pe_lst pa_nil))
      (pss_cons (ps_for PassesOwn.never rfl (pi_range1 (by rfl) T.range (pa_cons (pe_callB call_len_seq (by rfl) T.len PySem.boot_len (pa_cons (pv 0) pa_nil)) pa_nil)) (pg_name (i := 2) nd rfl (.inr rfl))
        (pss_one (ps_for PassesOwn.never rfl (pi_range1 (by rfl) T.range (pa_cons (pe_callB call_len_seq (by rfl) T.len PySem.boot_len (pa_cons (pe_ix ix_list (pv 0) (pv 2) (fun _ _ => rfl)) pa_nil)) pa_nil)) (pg_name (i := 3) nd rfl (.inr rfl))
          (pss_one (ps_expr (pe_bm PySem.F.plainAttrs_list PySem.F.slot_list_extend PySem.F.type_list_extend mt_extend (pv 1) (pa_cons (pe_lc (own := [("_law_place", 4)]) (g := gName 4) (tt := tYes) rfl nd
            (pi_range1 (by rfl) T.range (pa_cons (pe_op op_add (pe_callB call_len_str (by rfl) T.len PySem.boot_len (pa_cons (pe_ix ix_tup (pe_ix ix_list (pv 0) (pv 2) (fun _ _ => rfl)) (pv 3) (fun _ _ => rfl)) pa_nil)) pe_int) pa_nil)) (blkOk_by (own := [("_law_place", 4)]) (N := nmLP) (sc := defScope s_places) (by decide +kernel)) (fun _ _ _ _ _ => pg_name (i := 4) nd rfl (Or.inl rfl)) (fun _ _ _ _ _ => pts_nil) (fun _ _ _ _ _ => pe_tup (pa_cons (pv 2) (pa_cons (pv 3) (pa_cons (pv 4) pa_nil))))) pa_nil)))))))
      (pss_one (ps_ret (pv 1)))), ?_⟩
    refine ⟨small0, fun D nD => ?_⟩
    have la : (as.map V.ref).length = rows.length := by rw [List.length_map, hP.len]
    have o0 := TupL.start nD
    have sm0 : Same H (upd H D (.lst [])) := same_new nD
    refine ⟨_, rfl, a, _, rfl, .inl (same_sqL sm0 hP.lst), _, rfl, by omega, by have := hO.len; omega, ?_⟩
    rw [la]
    refine for_range (n := ((rows.length : Nat) : Int).toNat) (fun i σ H' => TupL H D ((pageTo rows i).map v3) H' ∧ ∃ c2 c3 c4 : Option V, σ = [some (.ref a), some (.ref D), c2, c3, c4]) ⟨o0, none, none, none, rfl⟩ ?_ ?_
    · rintro i σ H1 hi ⟨o, c2, c3, c4, rfl⟩
      have hi2 : i < rows.length := by omega
      obtain ⟨q, hq⟩ := getP (xs := as) (i := i) (by rw [hP.len]; exact hi2)
      obtain ⟨r, hr2⟩ := getP (xs := rows) (i := i) hi2
      have hq2 := hP.row i q r hq hr2
      have hR := hO.rows r (List.mem_of_getElem? hr2)
      have er : rows.getD i [] = r := by rw [List.getD_eq_getElem?_getD, hr2]; rfl
      have h6 := hR.len
      have h30 := hO.len
      have hpl := pageSp_len hO (n := i) (by omega)
      have lr : (sV r).length = r.length := List.length_map ..
      refine ⟨_, rfl, _, rfl, a, _, _, .ref q, rfl, rfl, same_sqL o.sm hP.lst, by rw [Int.zero_add]; exact atI_nat (by rw [List.getElem?_map, hq]; rfl), q, _, rfl, .inr (same_sqT o.sm hq2), _, rfl, by omega, by omega, ?_⟩
      rw [lr]
      refine for_range (n := ((r.length : Nat) : Int).toNat) (fun c σ H' => TupL H D ((pageTo rows i ++ (rowTo r c).map fun p => (i, p.1, p.2)).map v3) H' ∧ ∃ c3 c4 : Option V, σ = [some (.ref a), some (.ref D), some (.int (0 + (i : Nat))), c3, c4]) ⟨by simp [rowTo]; exact o, c3, c4, rfl⟩ ?_ ?_
      · rintro c σ H2 hc ⟨o2, c3, c4, rfl⟩
        have hc2 : c < r.length := by omega
        have hz := (hR.cells _ (List.getElem_mem hc2)).len
        have ez : r.getD c nilS = r[c] := by rw [List.getD_eq_getElem?_getD, List.getElem?_eq_getElem hc2]; rfl
        have hrl := rowSp_len hR (n := c) (by omega)
        refine ⟨_, rfl, .inl ⟨rfl, _, SqL.of (o2.ts.choose_spec.1)⟩, ?_⟩
        refine ⟨_, rfl, _, rfl, a, _, _, .ref q, rfl, rfl, same_sqL o2.sm hP.lst, by rw [Int.zero_add]; exact atI_nat (by rw [List.getElem?_map, hq]; rfl), _, rfl, q, _, _, .str r[c], rfl, rfl, same_sqT o2.sm hq2, by rw [Int.zero_add]; exact atI_nat (by rw [List.getElem?_map, List.getElem?_eq_getElem hc2]; rfl), _, rfl, by omega, _, _, rfl, rfl, _, rfl, by omega, by omega, fun D2 nD2 => ?_⟩
        refine lc_range (n := (((r[c].length : Nat) : Int) + 1).toNat) (fun j H' => TupL H2 D2 (((List.range j).map fun k => (i, c, k)).map v3) H') (TupL.start nD2) ?_ ?_
        · rintro j H3 hj o3
          refine ⟨rfl, _, rfl, _, rfl, _, rfl, by show 3 ≤ sizeLine; decide, fun t nt => ?_⟩
          have o4 := o3.grow (same_new (o := .tup [.int (0 + (i : Nat)), .int (0 + (c : Nat)), .int (0 + (j : Nat))]) nt)
          obtain ⟨acc, w1, w2, w3⟩ := o4.more (t := t) (v := [.int (0 + (i : Nat)), .int (0 + (c : Nat)), .int (0 + (j : Nat))]) upd_same
          refine ⟨acc, w1, by rw [w2, List.length_map, List.length_map, List.length_range]; omega, ?_⟩
          rw [List.range_succ, List.map_append, List.map_append]
          have e0 : ∀ n : Nat, (0 + ((n : Nat) : Int)) = ((n : Nat) : Int) := fun n => Int.zero_add _
          simp only [e0] at w3 ⊢
          exact w3
        · intro H3 o3
          obtain ⟨xs, zs, w1, w2, w3, w4, w5⟩ := o2.extend o3
          have en : (((r[c].length : Nat) : Int) + 1).toNat = r[c].length + 1 := by omega
          refine ⟨D, D2, xs, zs, rfl, rfl, w1, w2, ?_, ?_, _, _, rfl⟩
          · rw [w3, w4, List.length_map, List.length_append, List.length_map, List.length_map, List.length_map, List.length_range, en]
            omega
          · rw [en] at w5
            have e : pageTo rows i ++ (rowTo r (c + 1)).map (fun p => (i, p.1, p.2)) = (pageTo rows i ++ (rowTo r c).map fun p => (i, p.1, p.2)) ++ (List.range (r[c].length + 1)).map fun k => (i, c, k) := by
              rw [rowTo_succ, ez, List.map_append, List.append_assoc, List.map_map]
              rfl
            rw [e, List.map_append]
            exact w5
      · rintro σ H2 ⟨o2, c3, c4, rfl⟩
        refine ⟨?_, _, _, _, rfl⟩
        rw [pageTo_succ, er]
        have en : ((r.length : Nat) : Int).toNat = r.length := by omega
        rw [en] at o2
        exact o2
    · rintro σ H1 ⟨o, c2, c3, c4, rfl⟩
      have en : ((rows.length : Nat) : Int).toNat = rows.length := by omega
      rw [en] at o
      exact ⟨_, rfl, k D H1 o⟩
end
end TG

namespace TG
open PySem PySem.Spec PyProof.Rows L2 Gx EnT
def goF (wy : Str) (rows : List (List Str)) (gap least : Int) (p : Nat × Nat × Nat) : Bool × (Nat × Nat × Nat) := if wy = ("left" : Str) then stepR rows p (-1) else if wy = ("right" : Str) then stepR rows p 1 else if wy = ("up" : Str) then climbR rows gap least p (-1) else climbR rows gap least p 1
def WayOk (wy : Str) : Prop := wy = ("left" : Str) ∨ wy = ("right" : Str) ∨ wy = ("up" : Str) ∨ wy = ("down" : Str)
theorem str_dec (a b : Str) : decide (V.str a = V.str b) = decide (a = b) := by
  by_cases h : a = b
  · rw [decide_eq_true h, decide_eq_true (by rw [h])]
  · rw [decide_eq_false h, decide_eq_false fun z => h (by injection z)]
theorem step_mem {rows : List (List Str)} {p : Nat × Nat × Nat} {b : Int} (h : p ∈ pageSp rows) : (stepR rows p b).2 ∈ pageSp rows := by
  unfold stepR
  cases e : besideR rows p b with
  | none => exact h
  | some q => exact beside_mem e
theorem step_back {rows : List (List Str)} {p : Nat × Nat × Nat} (h : p ∈ pageSp rows) : (pageSp rows)[((pageSp rows).idxOf p) - 1]? = some (stepR rows p (-1)).2 := by
  obtain ⟨h1, h2, _⟩ := idx_eq h
  unfold stepR besideR
  simp only
  generalize (pageSp rows).idxOf p = k at *
  by_cases hk : k = 0
  · subst hk
    rw [if_neg (by omega)]
    exact h1
  · rw [if_pos (by omega)]
    have e : (((k : Nat) : Int) + -1).toNat = k - 1 := by omega
    rw [e, List.getElem?_eq_getElem (by omega)]
theorem step_on {rows : List (List Str)} {p : Nat × Nat × Nat} (h : p ∈ pageSp rows) : (pageSp rows)[min ((pageSp rows).length - 1) (((pageSp rows).idxOf p) + 1)]? = some (stepR rows p 1).2 := by
  obtain ⟨h1, h2, _⟩ := idx_eq h
  unfold stepR besideR
  simp only
  generalize (pageSp rows).idxOf p = k at *
  by_cases hk : k + 1 < (pageSp rows).length
  · rw [if_pos (by omega)]
    have e : (((k : Nat) : Int) + 1).toNat = k + 1 := by omega
    rw [e, Nat.min_eq_right (by omega), List.getElem?_eq_getElem hk]
  · rw [if_neg (by omega), Nat.min_eq_left (by omega), show (pageSp rows).length - 1 = k by omega]
    exact h1
/-- it went, where it stands elsewhere -/
theorem went_step {rows : List (List Str)} {p : Nat × Nat × Nat} {b : Int} (hb : b ≠ 0) (h : p ∈ pageSp rows) : (stepR rows p b).1 = !decide ((stepR rows p b).2 = p) := by
  obtain ⟨h1, h2, _⟩ := idx_eq h
  unfold stepR
  cases e : besideR rows p b with
  | none => simp
  | some q =>
    simp only
    rw [decide_eq_false, Bool.not_false]
    intro z
    subst z
    unfold besideR at e
    simp only at e
    split at e
    · rename_i c
      have := (List.getElem?_inj (j := ((((pageSp rows).idxOf q : Nat) : Int) + b).toNat) h2 (pageSp_nd rows)).mp (by rw [h1, e])
      omega
    · cases e
theorem went_climb {rows : List (List Str)} {gap least : Int} {p : Nat × Nat × Nat} {b : Int} (hb : b ≠ 0) : (climbR rows gap least p b).1 = !decide ((climbR rows gap least p b).2 = p) := by
  unfold climbR
  simp only
  split
  · rename_i c
    simp only
    rw [decide_eq_false, Bool.not_false]
    intro z
    have := congrArg Prod.fst z
    simp only at this
    omega
  · simp
theorem went_go {wy : Str} {rows : List (List Str)} {gap least : Int} {p : Nat × Nat × Nat} (h : p ∈ pageSp rows) : (goF wy rows gap least p).1 = !decide ((goF wy rows gap least p).2 = p) := by
  unfold goF
  split
  · exact went_step (by decide) h
  · split
    · exact went_step (by decide) h
    · split
      · exact went_climb (by decide)
      · exact went_climb (by decide)
section
variable {P : Program} {w : World} {K : PySem.W.Frag} {mg : Str → Option Value} {base : Heap} {cs : List (Addr × Addr)} {C S : Addr}
def spGone (K : PySem.W.Frag) : Sp := fun vs H Q _ => ∃ (a r t : Addr) (wy : Str) (as es : List Addr) (rows : List (List Str)) (gap least : Int) (p : Nat × Nat × Nat), vs = [.ref a, .ref r, .ref t, .str wy] ∧ PageAt K H a as rows ∧ PgOk rows ∧ ToldAt H r es (begsR rows gap least) rows.length ∧ SqT K H t (v3 p) ∧ p ∈ pageSp rows ∧ WayOk wy ∧
  ∀ (t' : Addr) (H' : Hp), Same H H' → SqT K H' t' (v3 (goF wy rows gap least p).2) → Q (.ref t') H'
abbrev nmGone : List Str := ["_law_rows", "_law_begins_here", "_law_at", "_law_way", "_law_every", "_law_k", "_law_number", "_law_aside", "_law_some", "_law_one"]
theorem sc_gone : FnScope nmGone ["_law_rows", "_law_begins_here", "_law_at", "_law_way"] (defScope s_gone) := ⟨rfl, rfl, rfl, by decide +kernel, rfl, by decide +kernel, by decide +kernel⟩
theorem ok_gone {f g : Addr} {fd fdg : FuncData} (T : Txt mg) (F : Fun K "_law_gone" "_law_gone" s_gone f fd)
    (G : FnOk P w K mg base CX0 1 g fdg ["_law_rows"] (spPageSp K)) (kp : PySem.W.keepIn K (.ref g) = true) (bd : Binds K fdg ["_law_rows"] []) (mgg : mg "_law_places" = some (.ref g)) : FnOk P w K mg base CX0 2 f fd ["_law_rows", "_law_begins_here", "_law_at", "_law_way"] (spGone K) := by
  refine F.ok sc_gone (fun vs H Q E h => ?_) (fun cdv A outer s H vs Q E hr h => ?_)
  · obtain ⟨a, r, t, wy, as, es, rows, gap, least, p, rfl, _⟩ := h
    rfl
  · obtain ⟨a, r, t, wy, as, es, rows, gap, least, p, rfl, hP, hO, hA, ht, hp, hw, k⟩ := h
    have nd := sc_gone.nd
    have hu := hr.units
    have szl : (2000 : Nat) < sizeLine := by decide
    refine ⟨_, pss_cons (ps_set (i := 4) nd rfl (.inl rfl) (pe_call G hr (by rfl) mgg kp bd .nil pass0 (pa_cons (pv 0) pa_nil)))
      (pss_cons (ps_set (i := 5) nd rfl (.inl rfl) (pe_bm PySem.F.plainAttrs_list PySem.F.slot_list_index PySem.F.type_list_index (mt_indexD (room65 hr)) (pv 4) (pa_cons (pv 2) pa_nil)))
      (pss_cons (ps_if (pt_cmpR op_eq (pv 3) pe_str (nomark _)) (pss_one (ps_ret (pe_ix ix_list (pv 4) (pe_callB (call_max2 rfl) (by rfl) T.max (by decide +kernel) (pa_cons pe_int (pa_cons (pe_op op_sub (pv 5) pe_int) pa_nil))) (fun _ _ => rfl)))) pss_nil)
      (pss_cons (ps_if (pt_cmpR op_eq (pv 3) pe_str (nomark _)) (pss_one (ps_ret (pe_ix ix_list (pv 4) (pe_callB (call_min2 rfl) (by rfl) T.min (by decide +kernel) (pa_cons (pe_op op_sub (pe_callB call_len_seq (by rfl) T.len PySem.boot_len (pa_cons (pv 4) pa_nil)) pe_int) (pa_cons (pe_op op_add (pv 5) pe_int) pa_nil))) (fun _ _ => rfl)))) pss_nil)
      (pss_cons (ps_set (i := 6) nd rfl (.inr rfl) (pe_op op_add (pe_ix ix_tup (pv 2) pe_int (fun _ _ => rfl)) (pe_ix ix_list (pe_lst (pa_cons pe_int (pa_cons (pe_un un_neg pe_int) pa_nil))) (pe_callTy call_int1 (by rfl) T.int (by decide +kernel) (pa_cons (pe_cmpR op_eq (pv 3) pe_str (nomark _)) pa_nil)) (fun _ _ => rfl))))
      (pss_cons (ps_if (pt_not (pt_chain op_le op_lt pe_int (pv 6) (pe_callB call_len_seq (by rfl) T.len PySem.boot_len (pa_cons (pv 0) pa_nil)))) (pss_one (ps_ret (pv 2))) pss_nil)
      (pss_cons (ps_set (i := 7) nd rfl (.inr rfl) (pe_op op_add (pe_ix ix_list (pe_ix ix_list (pv 1) (pe_ix ix_tup (pv 2) pe_int (fun _ _ => rfl)) (fun _ _ => rfl)) (pe_ix ix_tup (pv 2) pe_int (fun _ _ => rfl)) (fun _ _ => rfl)) (pe_ix ix_tup (pv 2) pe_int (fun _ _ => rfl))))
      (pss_cons (ps_setLc (i := 8) (own := [("_law_one", 9)]) (g := gName 9) rfl nd rfl rfl (sw_true rfl rfl rfl (by decide +kernel)) (pi_list (pv 4)) (blkOk_by (own := [("_law_one", 9)]) (N := nmGone) (sc := defScope s_gone) (by decide +kernel)) (fun _ _ _ _ _ => pg_name (i := 9) nd rfl (Or.inl rfl))
        (fun _ _ _ _ _ => pts_one (PW.pt (pw_and (pt_cmpR op_eq (pe_ix (r := rIxT K) ix_tup (pv 9) pe_int (fun _ _ => rfl)) (pv 6) (nomark _)) (pw_and1 (pt_cmpR op_le (pe_op op_add (pe_ix (r := rIxL K) ix_list (pe_ix (r := rIxL K) ix_list (pv 1) (pv 6) (fun _ _ => rfl)) (pe_ix (r := rIxT K) ix_tup (pv 9) pe_int (fun _ _ => rfl)) (fun _ _ => rfl)) (pe_ix (r := rIxT K) ix_tup (pv 9) pe_int (fun _ _ => rfl))) (pv 7) (nomark _)))))) (fun _ _ _ _ _ => pv 9))
      (pss_one (ps_ret (pe_ifExp (pt_cmpR (op_neD hu) (pv 8) (pe_lst pa_nil) (nomark _)) (pe_ix ix_list (pv 8) (pe_un un_neg pe_int) (fun _ _ => rfl)) (pe_tup (pa_cons (pv 6) (pa_cons pe_int (pa_cons pe_int pa_nil)))))))))))))), ?_⟩
    refine ⟨_, rfl, a, as, rows, rfl, hP, hO, fun D H2 o => ?_⟩
    have x2 := o.sm
    obtain ⟨g1', g2', g3'⟩ := idx_eq hp
    obtain ⟨ts, q1, q2, q3⟩ := id o.ts
    have lt : (ts.map V.ref).length = (pageSp rows).length := by rw [List.length_map, q2, List.length_map]
    have ht2 := same_sqT x2 ht
    have tat : ∀ m q, (pageSp rows)[m]? = some q → ∃ u, ts[m]? = some u ∧ SqT K H2 u (v3 q) := fun m q hq => by
      obtain ⟨u, hu⟩ := getP (xs := ts) (i := m) (by rw [q2, List.length_map]; exact (List.getElem?_eq_some_iff.mp hq).1)
      exact ⟨u, hu, SqT.of (q3 m u _ hu (by rw [List.getElem?_map, hq]; rfl))⟩
    refine ⟨_, rfl, .inl ⟨rfl, _, SqL.of q1⟩, _, rfl, D, _, d3 p, (pageSp rows).map d3, (pageSp rows).idxOf p, d3 p, rfl, rfl, dp_tups o, dp_d3 ht2, shaped_d3s _, shaped_d3 p, by rw [List.getElem?_map, g1']; rfl, by rw [eqv_d3, decide_eq_true rfl], fun m z hm hz => ?_, ?_⟩
    · rw [List.getElem?_map] at hz
      cases e : (pageSp rows)[m]? with
      | none => rw [e] at hz; cases hz
      | some q =>
        rw [e] at hz
        cases hz
        rw [eqv_d3, decide_eq_false (g3' m q hm e)]
    refine ⟨_, rfl, rfl, _, rfl, ?_⟩
    rw [str_dec]
    unfold goF at k
    by_cases w1 : wy = ("left" : Str)
    · rw [decide_eq_true w1]
      rw [if_pos w1] at k
      obtain ⟨u, hu1, hu2⟩ := tat _ _ (step_back hp)
      refine iteT ⟨_, rfl, _, rfl, _, _, rfl, rfl, _, _, rfl, ?_⟩
      have ei : (if (((pageSp rows).idxOf p : Nat) : Int) - 1 > 0 then (((pageSp rows).idxOf p : Nat) : Int) - 1 else 0) = ((((pageSp rows).idxOf p) - 1 : Nat) : Int) := by split <;> omega
      rw [ei]
      exact ⟨D, _, _, .ref u, rfl, rfl, SqL.of q1, atI_nat (by rw [List.getElem?_map, hu1]; rfl), k u _ x2 hu2⟩
    rw [decide_eq_false w1]
    rw [if_neg w1] at k
    refine iteF ⟨_, rfl, rfl, _, rfl, ?_⟩
    rw [str_dec]
    by_cases w2 : wy = ("right" : Str)
    · rw [decide_eq_true w2]
      rw [if_pos w2] at k
      obtain ⟨u, hu1, hu2⟩ := tat _ _ (step_on hp)
      refine iteT ⟨_, rfl, _, rfl, D, _, rfl, .inl (SqL.of q1), _, _, rfl, rfl, _, rfl, _, _, rfl, rfl, _, _, rfl, ?_⟩
      rw [lt]
      have ei : (if (((pageSp rows).idxOf p : Nat) : Int) + 1 < ((pageSp rows).length : Nat) - 1 then (((pageSp rows).idxOf p : Nat) : Int) + 1 else (((pageSp rows).length : Nat) : Int) - 1) = ((min ((pageSp rows).length - 1) (((pageSp rows).idxOf p) + 1) : Nat) : Int) := by split <;> omega
      rw [ei]
      exact ⟨D, _, _, .ref u, rfl, rfl, SqL.of q1, atI_nat (by rw [List.getElem?_map, hu1]; rfl), k u _ x2 hu2⟩
    rw [decide_eq_false w2]
    rw [if_neg w2] at k
    obtain ⟨b, hb, hk⟩ : ∃ b : Int, b = (if decide (wy = ("up" : Str)) = true then -1 else 1) ∧ ∀ (t' : Addr) (H' : Hp), Same H H' → SqT K H' t' (v3 (climbR rows gap least p b).2) → Q (.ref t') H' := by
      by_cases w3 : wy = ("up" : Str)
      · rw [if_pos w3] at k
        exact ⟨-1, by rw [decide_eq_true w3]; rfl, k⟩
      · rw [if_neg w3] at k
        exact ⟨1, by rw [decide_eq_false w3]; rfl, k⟩
    refine iteF ⟨_, rfl, t, _, 0, .int (p.1 : Nat), rfl, rfl, ht2, rfl, 1, rfl, by show 2 ≤ sizeLine; decide, fun ol nol => ?_⟩
    have x3 : Same H (upd H2 ol (.lst [.int 1, .int (-1)])) := fun b u e => by rw [upd_ne (ne_of_none (x2 b u e) nol)]; exact x2 b u e
    have hol : upd H2 ol (.lst [.int 1, .int (-1)]) ol = some (.lst [.int 1, .int (-1)]) := upd_same
    have o3 := o.grow (same_new (o := .lst [.int 1, .int (-1)]) nol)
    generalize upd H2 ol (.lst [.int 1, .int (-1)]) = H3 at x3 hol o3 ⊢
    have ht3 := same_sqT x3 ht
    have hAt : atI [V.int 1, V.int (-1)] (if decide (V.str wy = V.str "up") = true then 1 else 0) = some (V.int b) := by
      rw [hb, str_dec]
      by_cases w3 : wy = ("up" : Str)
      · rw [decide_eq_true w3]; rfl
      · rw [decide_eq_false w3]; rfl
    refine ⟨_, rfl, rfl, .inr ⟨_, rfl, ol, _, _, .int b, rfl, rfl, SqL.of hol, hAt, _, _, rfl, rfl, ?_⟩⟩
    have ec : climbR rows gap least p b = if 0 ≤ ((p.1 : Nat) : Int) + b ∧ ((p.1 : Nat) : Int) + b < (rows.length : Nat) then (true, ((((p.1 : Nat) : Int) + b).toNat, ((nearR rows gap least (((p.1 : Nat) : Int) + b).toNat (asideR rows gap least p)).getLast?.getD (0, 0)).1, ((nearR rows gap least (((p.1 : Nat) : Int) + b).toNat (asideR rows gap least p)).getLast?.getD (0, 0)).2)) else (false, p) := rfl
    dsimp only
    generalize ((p.1 : Nat) : Int) + b = n at ec ⊢
    have la : (as.map V.ref).length = rows.length := by rw [List.length_map, hP.len]
    have no : ¬ (0 ≤ n ∧ n < (rows.length : Nat)) → Q (.ref t) H3 := fun c => by
      rw [if_neg c] at ec
      rw [ec] at hk
      exact hk t H3 x3 ht3
    refine ⟨_, rfl, 0, n, rfl, rfl, ?_⟩
    by_cases c1 : 0 ≤ n
    · refine ⟨true, dT c1, iteT ⟨_, rfl, a, _, rfl, .inl (same_sqL x3 hP.lst), n, _, rfl, rfl, ?_⟩⟩
      rw [la]
      by_cases c2 : n < (rows.length : Nat)
      · refine ⟨true, dT c2, iteF ?_⟩
        obtain ⟨i, rfl⟩ := Int.eq_ofNat_of_zero_le c1
        have hi : i < rows.length := by omega
        rw [if_pos ⟨c1, c2⟩] at ec
        have em : ((i : Nat) : Int).toNat = i := rfl
        rw [em] at ec
        rw [ec] at hk
        dsimp only at hk
        have hA3 := hA.ext (same_extN x3)
        obtain ⟨hpi, hpc⟩ := ncl_of hO (i := p.1) (c := p.2.1) (k := p.2.2) hp
        obtain ⟨e0, he0⟩ := getP (xs := es) (i := p.1) (by rw [hA.len]; exact hpi)
        obtain ⟨e, he⟩ := getP (xs := es) (i := i) (by rw [hA.len]; exact hi)
        refine ⟨_, rfl, _, rfl, t, _, 0, .int (p.1 : Nat), rfl, rfl, ht3, rfl, r, _, _, .ref e0, rfl, rfl, SqL.of hA3.lst, atI_nat (by rw [List.getElem?_map, he0]; rfl), _, rfl, t, _, 1, .int (p.2.1 : Nat), rfl, rfl, ht3, rfl, e0, _, _, .int (begC rows gap least p.1 (ncl rows p.1) p.2.1), rfl, rfl, SqL.of (hA3.at_ p.1 e0 he0), atI_nat (by rw [List.getElem?_map, begs_get hpc]; rfl), _, rfl, t, _, 2, .int (p.2.2 : Nat), rfl, rfl, ht3, rfl, _, _, rfl, rfl, ?_⟩
        -- the row's places
        obtain ⟨us, u1, u2, u3⟩ := id o3.ts
        have lus : (us.map V.ref).length = (pageSp rows).length := by rw [List.length_map, u2, List.length_map]
        refine ⟨_, rfl, D, rfl, ⟨_, SqL.of u1⟩, fun D2 nD2 => lc_list (xs := us.map V.ref) (fun j H' => TupL H3 D2 ((((pageSp rows).take j).filter fun q => decide (q.1 = i) && decide (begC rows gap least i (ncl rows i) q.2.1 + ((q.2.2 : Nat) : Int) ≤ asideR rows gap least p)).map v3) H') (TupL.start nD2) (fun j H' _ o => SqL.of (o.sm _ _ u1)) ?_ ?_⟩
        · rintro j v H5 hv o5
          obtain ⟨u, hu1, rfl⟩ := get_map hv
          have hj : j < (pageSp rows).length := by
            have := (List.getElem?_eq_some_iff.mp hu1).1
            rw [u2, List.length_map] at this
            exact this
          obtain ⟨⟨i1, c, k0⟩, hq⟩ := getP (xs := pageSp rows) (i := j) hj
          have hu5 := o5.sm _ _ (u3 j u (v3 (i1, c, k0)) hu1 (by rw [List.getElem?_map, hq]; rfl))
          have l1980 : (pageSp rows).length ≤ 1980 := by
            have h1 := pageSp_len hO (Nat.le_refl _)
            have h2 := hO.len
            have : pageSp rows = pageTo rows rows.length := rfl
            rw [this]
            omega
          rw [List.take_add_one, hq, List.filter_append]
          have keep : TupL H3 D2 ((((pageSp rows).take j).filter fun q => decide (q.1 = i) && decide (begC rows gap least i (ncl rows i) q.2.1 + ((q.2.2 : Nat) : Int) ≤ asideR rows gap least p)).map v3) H5 → (decide (i1 = i) && decide (begC rows gap least i (ncl rows i) c + ((k0 : Nat) : Int) ≤ asideR rows gap least p)) = false → TupL H3 D2 (((((pageSp rows).take j).filter fun q => decide (q.1 = i) && decide (begC rows gap least i (ncl rows i) q.2.1 + ((q.2.2 : Nat) : Int) ≤ asideR rows gap least p)) ++ ((some (i1, c, k0)).toList.filter fun q => decide (q.1 = i) && decide (begC rows gap least i (ncl rows i) q.2.1 + ((q.2.2 : Nat) : Int) ≤ asideR rows gap least p))).map v3) H5 := fun h1 h2 => by
            have ef : ((some (i1, c, k0)).toList.filter fun q : Nat × Nat × Nat => decide (q.1 = i) && decide (begC rows gap least i (ncl rows i) q.2.1 + ((q.2.2 : Nat) : Int) ≤ asideR rows gap least p)) = [] := by
              rw [List.filter_eq_nil_iff]
              intro q hq
              simp only [Option.toList_some, List.mem_singleton] at hq
              rw [hq]
              simp only [h2]
              exact Bool.false_ne_true
            rw [ef, List.append_nil]
            exact h1
          refine ⟨rfl, _, rfl, u, _, 0, .int (i1 : Nat), rfl, rfl, SqT.of hu5, rfl, _, rfl, rfl, _, rfl, ?_⟩
          by_cases e1 : i1 = i
          · subst e1
            rw [decide_eq_true (show V.int (i1 : Nat) = V.int (i1 : Nat) from rfl)]
            obtain ⟨_, hcc⟩ := ncl_of hO (List.mem_of_getElem? hq)
            refine iteT ⟨_, rfl, _, rfl, r, _, _, .ref e, rfl, rfl, SqL.of (o5.sm _ _ hA3.lst), atI_nat (by rw [List.getElem?_map, he]; rfl), _, rfl, u, _, 1, .int (c : Nat), rfl, rfl, SqT.of hu5, rfl, e, _, _, .int (begC rows gap least i1 (ncl rows i1) c), rfl, rfl, SqL.of (o5.sm _ _ (hA3.at_ i1 e he)), atI_nat (by rw [List.getElem?_map, begs_get hcc]; rfl), _, rfl, u, _, 2, .int (k0 : Nat), rfl, rfl, SqT.of hu5, rfl, _, _, rfl, rfl, _, rfl, _, _, rfl, rfl, ?_⟩
            by_cases hle : begC rows gap least i1 (ncl rows i1) c + ((k0 : Nat) : Int) ≤ asideR rows gap least p
            · refine ⟨true, dT hle, iteT ⟨_, rfl, ?_⟩⟩
              obtain ⟨acc, w1', w2', w3'⟩ := o5.more (t := u) (v := v3 (i1, c, k0)) hu5
              refine ⟨acc, w1', ?_, ?_⟩
              · have := List.length_filter_le (fun q : Nat × Nat × Nat => decide (q.1 = i1) && decide (begC rows gap least i1 (ncl rows i1) q.2.1 + ((q.2.2 : Nat) : Int) ≤ asideR rows gap least p)) ((pageSp rows).take j)
                rw [List.length_take] at this
                rw [w2', List.length_map]
                omega
              · have ef : ((some (i1, c, k0)).toList.filter fun q : Nat × Nat × Nat => decide (q.1 = i1) && decide (begC rows gap least i1 (ncl rows i1) q.2.1 + ((q.2.2 : Nat) : Int) ≤ asideR rows gap least p)) = [(i1, c, k0)] := by
                  simp [hle]
                rw [ef, List.map_append]
                exact w3'
            · exact ⟨false, dF hle, iteF (keep o5 (by rw [decide_eq_false hle, Bool.and_false]))⟩
          · rw [decide_eq_false (fun z : V.int (i1 : Nat) = V.int (i : Nat) => e1 (by injection z with z; omega))]
            exact iteF (keep o5 (by rw [decide_eq_false e1, Bool.false_and]))
        · rintro H5 o5
          rw [lus, List.take_of_length_le (Nat.le_refl _), page_filter hi (fun q => decide (begC rows gap least i (ncl rows i) q.1 + ((q.2 : Nat) : Int) ≤ asideR rows gap least p))] at o5
          have en : (rowSp (rows.getD i [])).filter (fun q => decide (begC rows gap least i (ncl rows i) q.1 + ((q.2 : Nat) : Int) ≤ asideR rows gap least p)) = nearR rows gap least i (asideR rows gap least p) := rfl
          rw [en] at o5
          obtain ⟨vs, s1, s2, s3⟩ := id o5.ts
          have x5 : Same H H5 := fun b u hb => o5.sm b u (x3 b u hb)
          refine ⟨_, rfl, small0, fun z nz => ?_⟩
          have o6 := o5.grow (same_new (o := .lst []) nz)
          refine ⟨_, .list [], dp_tups o6, .lst (SqL.of upd_same) .nil, shaped_d3s _, by decide, ?_⟩
          rw [eqv_nil]
          have x6 : Same H (upd H5 z (.lst [])) := fun b u hb => by rw [upd_ne (ne_of_none (x5 b u hb) nz)]; exact x5 b u hb
          have s16 : upd H5 z (.lst []) D2 = some (.lst (vs.map V.ref)) := by rw [upd_ne (ne_of_none s1 nz)]; exact s1
          rcases List.eq_nil_or_concat (nearR rows gap least i (asideR rows gap least p)) with hn | ⟨ys, ⟨c, k0⟩, hn⟩
          · rw [hn] at hk ⊢
            refine ⟨_, rfl, iteF ⟨_, rfl, by show 3 ≤ sizeLine; decide, fun t3 nt3 => ?_⟩⟩
            exact hk t3 _ (fun b u hb => by rw [upd_ne (ne_of_none (x6 b u hb) nt3)]; exact x6 b u hb) (SqT.of upd_same)
          · have hn' : nearR rows gap least i (asideR rows gap least p) = ys ++ [(c, k0)] := by rw [hn]; simp
            rw [hn', List.map_append, List.map_append, List.length_append] at s2
            have hu : vs ≠ [] := fun z => by rw [z] at s2; simp at s2
            obtain ⟨xs, t9, rfl⟩ : ∃ xs t9, vs = xs ++ [t9] := ⟨vs.dropLast, vs.getLast hu, (List.dropLast_concat_getLast hu).symm⟩
            rw [List.length_append, List.length_singleton, List.length_map, List.length_map, List.length_map, List.length_map, List.length_singleton] at s2
            have ht9 := s3 xs.length t9 (v3 (i, c, k0)) (by rw [List.getElem?_append_right (Nat.le_refl _), Nat.sub_self]; rfl) (by
              rw [hn', List.map_append, List.map_append, List.getElem?_append_right (by rw [List.length_map, List.length_map]; omega), List.length_map, List.length_map]
              rw [show xs.length - ys.length = 0 by omega]
              rfl)
            have hne : ¬ ((nearR rows gap least i (asideR rows gap least p)).map fun p => (i, p.1, p.2)).map d3 = [] := by rw [hn']; simp
            rw [decide_eq_false hne]
            refine ⟨_, rfl, iteT ⟨_, rfl, 1, rfl, D2, _, _, .ref t9, rfl, rfl, SqL.of s16, by rw [List.map_append]; exact atI_last _ _, ?_⟩⟩
            rw [hn'] at hk
            refine hk t9 _ x6 ?_
            have e9 : ((ys ++ [(c, k0)]).getLast?.getD (0, 0)) = (c, k0) := by simp
            rw [e9]
            exact SqT.of (by rw [upd_ne (ne_of_none ht9 nz)]; exact ht9)
      · exact ⟨false, dF c2, iteT (by exact ⟨_, rfl, no fun z => c2 z.2⟩)⟩
    · exact ⟨false, dF c1, iteF ⟨false, rfl, iteT ⟨_, rfl, no fun z => c1 z.1⟩⟩⟩
end
end TG

namespace TG
open PySem PySem.Spec PyProof.Rows L2 Gx EnT
/-! ### all that stands in the law -/
section
variable {K : PySem.W.Frag} {cs : List (Addr × Addr)} {C S : Addr} {H H' : Hp}
def IsL (H : Hp) (a : Addr) : Prop := ∃ xs, H a = some (.lst xs)
theorem sqT_kb {h1 h2 a : Addr} {xs : List V} (l1 : IsL H h1) (l2 : IsL H h2) (x : KB h1 h2 H H') (h : SqT K H a xs) : SqT K H' a xs := by
  obtain ⟨y1, l1⟩ := l1
  obtain ⟨y2, l2⟩ := l2
  rcases h with (h | ⟨u, h⟩) | h
  · exact .inl (.inl (x _ _ h (fun z => by rw [z, l1] at h; cases h) fun z => by rw [z, l2] at h; cases h))
  · exact .inl (.inr ⟨u, x _ _ h (fun z => by rw [z, l1] at h; cases h) fun z => by rw [z, l2] at h; cases h⟩)
  · exact .inr h
theorem sqL_kb {h1 h2 a : Addr} {xs : List V} (x : KB h1 h2 H H') (n1 : a ≠ h1) (n2 : a ≠ h2) (h : SqL K H a xs) : SqL K H' a xs := by
  rcases h with (h | ⟨u, h⟩) | h
  · exact .inl (.inl (x _ _ h n1 n2))
  · exact .inl (.inr ⟨u, x _ _ h n1 n2⟩)
  · exact .inr h
structure Sit (K : PySem.W.Frag) (cs : List (Addr × Addr)) (C S b l cu sh rl st pg r dl : Addr) (as es : List Addr) (rows : List (List Str)) (gap least : Int) (H : Hp) (p : Nat × Nat × Nat) : Prop where
  box : BoxAt H b l
  tab : Tabs cs H
  pg_ : H pg = some (.lst (as.map V.ref)) ∧ pg ≠ b ∧ pg ≠ l
  beg : ToldAt H r es (begsR rows gap least) rows.length
  rb : r ≠ b ∧ r ≠ l
  eb : ∀ e ∈ es, e ≠ b ∧ e ≠ l
  cur : CurS K C S H cu sh rl st as rows gap least p
  she : ∃ dx, H sh = some (.ins S dx [("rows", .ref rl), ("style", .ref st), ("deeds", .ref dl)])
  dlb : dl ≠ b ∧ dl ≠ l
  rlb : rl ≠ b ∧ rl ≠ l
variable {b l cu sh rl st pg r dl : Addr} {as es : List Addr} {rows : List (List Str)} {gap least : Int} {p : Nat × Nat × Nat}
theorem Sit.page (o : Sit K cs C S b l cu sh rl st pg r dl as es rows gap least H p) : PageAt K H pg as rows := ⟨SqL.of o.pg_.1, o.cur.sht.page.len, o.cur.sht.page.row⟩
theorem Sit.gw (o : Sit K cs C S b l cu sh rl st pg r dl as es rows gap least H p) (x : LamX.ExtN H H') (t : Tabs cs H') : Sit K cs C S b l cu sh rl st pg r dl as es rows gap least H' p := by
  obtain ⟨dx, h⟩ := o.she
  exact ⟨box_ext o.box x, t, ⟨x _ _ o.pg_.1 (fun ps z => by cases z), o.pg_.2⟩, o.beg.ext x, o.rb, o.eb, o.cur.gw x, ⟨dx, x _ _ h fun ps z => by cases z⟩, o.dlb, o.rlb⟩
theorem Sit.same (o : Sit K cs C S b l cu sh rl st pg r dl as es rows gap least H p) (x : Same H H') : Sit K cs C S b l cu sh rl st pg r dl as es rows gap least H' p := o.gw (same_extN x) (tabs_ext o.tab x)
/-- two lists change that are none of those -/
theorem Sit.two (o : Sit K cs C S b l cu sh rl st pg r dl as es rows gap least H p) {h1 h2 : Addr} (l1 : IsL H h1) (l2 : IsL H h2) (x : KB h1 h2 H H') (hB : BoxAt H' b l) (t : Tabs cs H') (np : pg ≠ h1 ∧ pg ≠ h2) (nr : r ≠ h1 ∧ r ≠ h2) (ne : ∀ e ∈ es, e ≠ h1 ∧ e ≠ h2) (nd : dl ≠ h1 ∧ dl ≠ h2) (nrl : rl ≠ h1 ∧ rl ≠ h2) : Sit K cs C S b l cu sh rl st pg r dl as es rows gap least H' p := by
  obtain ⟨dx, h⟩ := o.she
  have ins : ∀ {a C dx : Addr} {fs : List (Str × V)}, H a = some (.ins C dx fs) → H' a = some (.ins C dx fs) := fun {a C dx fs} ha => by
    obtain ⟨y1, l1⟩ := l1
    obtain ⟨y2, l2⟩ := l2
    exact x _ _ ha (fun z => by rw [z, l1] at ha; cases ha) fun z => by rw [z, l2] at ha; cases ha
  obtain ⟨dx1, sp, c1, c2⟩ := o.cur.cur
  obtain ⟨dx2, dl2, s1, s2⟩ := o.cur.sht.she
  have ed : dl2 = dl := by
    rw [h] at s1
    injection s1 with s1
    injection s1 with _ _ s1
    injection s1 with _ s1
    injection s1 with _ s1
    injection s1 with s1 _
    injection s1 with _ s1
    injection s1 with s1
    exact s1.symm
  subst ed
  refine ⟨hB, t, ⟨x _ _ o.pg_.1 np.1 np.2, o.pg_.2⟩, ⟨x _ _ o.beg.lst nr.1 nr.2, o.beg.len, o.beg.nd, fun i e he => x _ _ (o.beg.at_ i e he) (ne e (List.mem_of_getElem? he)).1 (ne e (List.mem_of_getElem? he)).2⟩, o.rb, o.eb, ⟨⟨dx1, sp, ins c1, sqT_kb l1 l2 x c2⟩, ⟨⟨dx2, dl2, ins s1, x _ _ s2 nd.1 nd.2⟩, ⟨sqL_kb x nrl.1 nrl.2 o.cur.sht.page.lst, o.cur.sht.page.len, fun i q rw_ e1 e2 => sqT_kb l1 l2 x (o.cur.sht.page.row i q rw_ e1 e2)⟩, o.cur.sht.ok, ⟨sqT_kb l1 l2 x o.cur.sht.style.tup, o.cur.sht.style.g0, o.cur.sht.style.g1, o.cur.sht.style.l0, o.cur.sht.style.l1⟩⟩, o.cur.mem⟩, ⟨dx, ins h⟩, o.dlb, o.rlb⟩
theorem box_isL (hB : BoxAt H b l) : IsL H b ∧ IsL H l := by
  obtain ⟨ns, st, h1, h2, _⟩ := hB
  exact ⟨⟨_, h1⟩, ⟨_, h2⟩⟩
theorem Sit.kb (o : Sit K cs C S b l cu sh rl st pg r dl as es rows gap least H p) (x : KB b l H H') (hB : BoxAt H' b l) : Sit K cs C S b l cu sh rl st pg r dl as es rows gap least H' p :=
  o.two (box_isL o.box).1 (box_isL o.box).2 x hB (tabs_kb o.tab o.box x) o.pg_.2 o.rb o.eb o.dlb o.rlb
/-- the cursor goes -/
theorem Sit.went (o : Sit K cs C S b l cu sh rl st pg r dl as es rows gap least H p) {q : Nat × Nat × Nat} (x : ExtC cu H H') (t : Tabs cs H') (c : CurS K C S H' cu sh rl st as rows gap least q) : Sit K cs C S b l cu sh rl st pg r dl as es rows gap least H' q := by
  obtain ⟨dx, h⟩ := o.she
  obtain ⟨dx1, sp, c1, c2⟩ := o.cur.cur
  have nsc := cu_ne o.cur.sht c1
  have lst : ∀ {a : Addr} {xs : List V}, H a = some (.lst xs) → H' a = some (.lst xs) := fun {a xs} ha => x _ _ ha (fun ps z => by cases z) fun z => by rw [z, c1] at ha; cases ha
  refine ⟨?_, t, ⟨lst o.pg_.1, o.pg_.2⟩, ⟨lst o.beg.lst, o.beg.len, o.beg.nd, fun i e he => lst (o.beg.at_ i e he)⟩, o.rb, o.eb, c, ⟨dx, x _ _ h (fun ps z => by cases z) nsc⟩, o.dlb, o.rlb⟩
  obtain ⟨ns, st, h1, h2, h3⟩ := o.box
  exact ⟨ns, st, lst h1, lst h2, h3⟩
theorem sqT_went {a : Addr} {xs : List V} (o : Sit K cs C S b l cu sh rl st pg r dl as es rows gap least H p) (x : ExtC cu H H') (h : SqT K H a xs) : SqT K H' a xs := by
  obtain ⟨dx1, sp, c1, c2⟩ := o.cur.cur
  exact sqT_but x c1 h
theorem dok_d3 (p : Nat × Nat × Nat) : (d3 p).depth < 4 ∧ dok (d3 p) = true := ⟨by simp [PyData.depth, PyData.depthAll], by simp [dok, dokAll]⟩
end
end TG

namespace TG
open PySem PySem.Spec PyProof.Rows L2 Gx EnT
section
variable {P : Program} {w : World} {K : PySem.W.Frag} {mg : Str → Option Value} {base : Heap} {cs : List (Addr × Addr)} {C S : Addr}
def spWent (K : PySem.W.Frag) (cs : List (Addr × Addr)) (C S : Addr) : Sp := fun vs H Q _ => ∃ (cu sh rl st : Addr) (as : List Addr) (rows : List (List Str)) (gap least : Int) (p : Nat × Nat × Nat) (wy : Str), vs = [.ref cu, .str wy] ∧ Tabs cs H ∧ CurS K C S H cu sh rl st as rows gap least p ∧ WayOk wy ∧
  ∀ (H' : Hp), ExtC cu H H' → Tabs cs H' → CurS K C S H' cu sh rl st as rows gap least (goF wy rows gap least p).2 → Q (.bl (goF wy rows gap least p).1) H'
theorem sc_went : FnScope ["_law_cursor", "_law_way"] ["_law_cursor", "_law_way"] (defScope s_went) := ⟨rfl, rfl, rfl, by decide +kernel, rfl, by decide +kernel, by decide +kernel⟩
theorem ok_went {f g1 g2 g3 g4 : Addr} {fd fd1 fd2 fd3 fd4 : FuncData} (X : ClsT K C S) (F : Fun K "_law_went" "_law_went" s_went f fd)
    (M1 : Meth K C "left" g1) (G1 : FnOk P w K mg base CX0 5 g1 fd1 ["self"] (spGo K cs C S fun rows _ _ p => stepR rows p (-1))) (b1 : Binds K fd1 ["self"] [])
    (M2 : Meth K C "right" g2) (G2 : FnOk P w K mg base CX0 5 g2 fd2 ["self"] (spGo K cs C S fun rows _ _ p => stepR rows p 1)) (b2 : Binds K fd2 ["self"] [])
    (M3 : Meth K C "up" g3) (G3 : FnOk P w K mg base CX0 18 g3 fd3 ["self"] (spGo K cs C S fun rows gap least p => climbR rows gap least p (-1))) (b3 : Binds K fd3 ["self"] [])
    (M4 : Meth K C "down" g4) (G4 : FnOk P w K mg base CX0 18 g4 fd4 ["self"] (spGo K cs C S fun rows gap least p => climbR rows gap least p 1)) (b4 : Binds K fd4 ["self"] []) : FnOk P w K mg base CX0 19 f fd ["_law_cursor", "_law_way"] (spWent K cs C S) := by
  refine F.ok sc_went (fun vs H Q E h => ?_) (fun cdv A outer s H vs Q E hr h => ?_)
  · obtain ⟨cu, sh, rl, st, as, rows, gap, least, p, wy, rfl, _⟩ := h
    rfl
  · obtain ⟨cu, sh, rl, st, as, rows, gap, least, p, wy, rfl, hT, hC, hw, k⟩ := h
    have r5 : Room 5 _ := hr.mono (by decide)
    refine ⟨_, pss_cons (ps_if (pt_cmpR op_eq (pv 1) pe_str (nomark _)) (pss_one (ps_ret (pe_meth0 (pv 0) X.cC M1 G1 r5 b1 .nil pass0))) pss_nil)
      (pss_cons (ps_if (pt_cmpR op_eq (pv 1) pe_str (nomark _)) (pss_one (ps_ret (pe_meth0 (pv 0) X.cC M2 G2 r5 b2 .nil pass0))) pss_nil)
      (pss_one (ps_ret (pe_ifExp (pt_cmpR op_eq (pv 1) pe_str (nomark _)) (pe_meth0 (pv 0) X.cC M3 G3 hr b3 .nil pass0) (pe_meth0 (pv 0) X.cC M4 G4 hr b4 .nil pass0))))), ?_⟩
    obtain ⟨dx, sp, h1, h2⟩ := id hC.cur
    unfold goF at k
    refine ⟨_, rfl, rfl, _, rfl, ?_⟩
    rw [str_dec]
    by_cases w1 : wy = ("left" : Str)
    · rw [decide_eq_true w1]
      rw [if_pos w1] at k
      exact iteT ⟨_, rfl, cu, dx, _, rfl, h1, rfl, cu, sh, rl, st, as, rows, gap, least, p, rfl, hT, hC, k⟩
    rw [decide_eq_false w1]
    rw [if_neg w1] at k
    refine iteF ⟨_, rfl, rfl, _, rfl, ?_⟩
    rw [str_dec]
    by_cases w2 : wy = ("right" : Str)
    · rw [decide_eq_true w2]
      rw [if_pos w2] at k
      exact iteT ⟨_, rfl, cu, dx, _, rfl, h1, rfl, cu, sh, rl, st, as, rows, gap, least, p, rfl, hT, hC, k⟩
    rw [decide_eq_false w2]
    rw [if_neg w2] at k
    refine iteF ⟨_, rfl, rfl, _, rfl, ?_⟩
    rw [str_dec]
    by_cases w3 : wy = ("up" : Str)
    · rw [decide_eq_true w3]
      rw [if_pos w3] at k
      exact iteT ⟨_, rfl, cu, dx, _, rfl, h1, rfl, cu, sh, rl, st, as, rows, gap, least, p, rfl, hT, hC, k⟩
    · rw [decide_eq_false w3]
      rw [if_neg w3] at k
      exact iteF ⟨_, rfl, cu, dx, _, rfl, h1, rfl, cu, sh, rl, st, as, rows, gap, least, p, rfl, hT, hC, k⟩
/-! ### the law -/
def spLaw (K : PySem.W.Frag) (cs : List (Addr × Addr)) : Sp := fun vs H Q _ => ∃ (a : Addr) (ns : List Int), vs = [.ref a] ∧ Tabs cs H ∧ SqL K H a (ns.map V.int) ∧ ns.length ≤ 63 ∧ ∀ H', Q (.bl true) H'
abbrev nmLaw : List Str := ["_law_script", "_law_box", "_law_rows", "_law_style_here", "_law_begins_here", "_law_handed", "_law_cursor", "_law_at", "_law_turn", "_law_way", "_law_again", "_law_later", "_law_aside"]
theorem sc_law : FnScope nmLaw ["_law_script"] (defScope s_law) := ⟨rfl, rfl, rfl, by decide +kernel, rfl, by decide +kernel, by decide +kernel⟩
theorem kb_at {b l c : Addr} {H H' : Hp} {o : HO} (x : KB b l H H') (h : H c = some o) (n : c ≠ b ∧ c ≠ l) : H' c = some o := x c o h n.1 n.2
theorem ok_law {f g1 g2 g3 g4 g5 g6 g7 g8 gC ga gs gp gb : Addr} {fd fd1 fd2 fd3 fd4 fd5 fd6 fd7 fd8 fdC fda fds fdp fdb : FuncData} (T : Txt mg) (X : ClsT K C S) (F : Fun K "law" "law" s_law f fd)
    (G1 : FnOk P w K mg base CX0 1 g1 fd1 ["_law_script"] (spBegun K)) (k1 : PySem.W.keepIn K (.ref g1) = true) (b1 : Binds K fd1 ["_law_script"] []) (m1 : mg "_law_begun" = some (.ref g1))
    (G2 : FnOk P w K mg base CX0 1 g2 fd2 ["_law_box", "_law_many"] spTake) (k2 : PySem.W.keepIn K (.ref g2) = true) (b2 : Binds K fd2 ["_law_box", "_law_many"] []) (m2 : mg "_law_take" = some (.ref g2))
    (G3 : FnOk P w K mg base CX0 5 g3 fd3 ["_law_box", "_law_most"] spPageD) (k3 : PySem.W.keepIn K (.ref g3) = true) (b3 : Binds K fd3 ["_law_box", "_law_most"] []) (m3 : mg "_law_page" = some (.ref g3))
    (G4 : FnOk P w K mg base CX0 2 g4 fd4 ["_law_box"] spStyleD) (k4 : PySem.W.keepIn K (.ref g4) = true) (b4 : Binds K fd4 ["_law_box"] []) (m4 : mg "_law_style" = some (.ref g4))
    (G5 : FnOk P w K mg base CX0 4 g5 fd5 ["_law_page_here", "_law_style_here"] (spToldL K begsR)) (k5 : PySem.W.keepIn K (.ref g5) = true) (b5 : Binds K fd5 ["_law_page_here", "_law_style_here"] []) (m5 : mg "_law_begins" = some (.ref g5))
    (G6 : FnOk P w K mg base CX0 5 g6 fd6 ["_law_found", "_law_due"] (spAlike K 4)) (k6 : PySem.W.keepIn K (.ref g6) = true) (b6 : Binds K fd6 ["_law_found", "_law_due"] []) (m6 : mg "_law_alike" = some (.ref g6))
    (G7 : FnOk P w K mg base CX0 2 g7 fd7 ["_law_rows", "_law_begins_here", "_law_at", "_law_way"] (spGone K)) (k7 : PySem.W.keepIn K (.ref g7) = true) (b7 : Binds K fd7 ["_law_rows", "_law_begins_here", "_law_at", "_law_way"] []) (m7 : mg "_law_gone" = some (.ref g7))
    (G8 : FnOk P w K mg base CX0 19 g8 fd8 ["_law_cursor", "_law_way"] (spWent K cs C S)) (k8 : PySem.W.keepIn K (.ref g8) = true) (b8 : Binds K fd8 ["_law_cursor", "_law_way"] []) (m8 : mg "_law_went" = some (.ref g8))
    (MC : Mk K C gC) (GC : FnOk P w K mg base CX0 14 gC fdC ["self", "page", "style"] (spCuInit K cs C S)) (bC : Binds K fdC ["self", "page", "style"] []) (mC : mg "Cursor" = some (.ref C))
    (Ma : Meth K C "at" ga) (Ga : FnOk P w K mg base CX0 1 ga fda ["self"] (spAt K C S)) (ba : Binds K fda ["self"] [])
    (Ms : Meth K C "aside" gs) (Gs : FnOk P w K mg base CX0 16 gs fds ["self"] (spAside K cs C S)) (bs : Binds K fds ["self"] [])
    (Mp : Meth K C "page" gp) (Gp : FnOk P w K mg base CX0 2 gp fdp ["self"] (spCuPage K C S)) (bp : Binds K fdp ["self"] [])
    (Mb : Meth K C "back" gb) (Gb : FnOk P w K mg base CX0 2 gb fdb ["self"] (spCuBack K cs C S)) (bb : Binds K fdb ["self"] []) :
    FnOk P w K mg base CX0 20 f fd ["_law_script"] (spLaw K cs) := by
  refine F.ok sc_law (fun vs H Q E h => ?_) (fun cdv A outer s H vs Q E hr h => ?_)
  · obtain ⟨a, ns, rfl, _⟩ := h
    rfl
  · obtain ⟨a, ns, rfl, hT, hS, hl, k⟩ := h
    have nd := sc_law.nd
    have hu := hr.units
    have r1 : Room 1 _ := hr.mono (by decide)
    have r2 : Room 2 _ := hr.mono (by decide)
    have r4 : Room 4 _ := hr.mono (by decide)
    have r5 : Room 5 _ := hr.mono (by decide)
    have r14 : Room 15 _ := hr.mono (by decide)
    have r15 : Room 16 _ := hr.mono (by decide)
    refine ⟨_, (pss_cons (ps_set (i := 1) nd rfl (.inl rfl) (pe_call G1 r1 (by rfl) m1 k1 b1 .nil pass0 (pa_cons (pv 0) pa_nil)))
      (pss_cons (ps_par (i := 2) (j := 3) rfl nd rfl rfl (by decide) rfl rfl (pa_cons (pe_call G3 r5 (by rfl) m3 k3 b3 .nil pass0 (pa_cons (pv 1) (pa_cons (pe_ix ix_list (pe_lst (pa_cons pe_int (pa_cons pe_int (pa_cons pe_int pa_nil)))) (pe_call G2 r1 (by rfl) m2 k2 b2 .nil pass0 (pa_cons (pv 1) (pa_cons pe_int pa_nil))) (fun _ _ => rfl)) pa_nil))) (pa_cons (pe_call G4 r2 (by rfl) m4 k4 b4 .nil pass0 (pa_cons (pv 1) pa_nil)) pa_nil)) (by rfl))
      (pss_cons (ps_set (i := 4) nd rfl (.inl rfl) (pe_call G5 r4 (by rfl) m5 k5 b5 .nil pass0 (pa_cons (pv 2) (pa_cons (pv 3) pa_nil))))
      (pss_cons (ps_set (i := 5) nd rfl (.inl rfl) (pe_callTy call_list_of (by rfl) T.list (by decide +kernel) (pa_cons (pv 2) pa_nil)))
      (pss_cons (ps_set (i := 6) nd rfl (.inl rfl) (pe_make MC GC r14 (by rfl) mC bC .nil pass0 (pa_cons (pv 5) (pa_cons (pv 3) pa_nil))))
      (pss_cons (ps_expr (pe_bm0 PySem.F.plainAttrs_list PySem.F.slot_list_clear PySem.F.type_list_clear mt_clear (pv 5)))
      (pss_cons (ps_set (i := 7) nd rfl (.inl rfl) (pe_tup (pa_cons pe_int (pa_cons pe_int (pa_cons pe_int pa_nil)))))
      (pss_cons (ps_if (pt_not (pt_val (pe_call G6 r5 (by rfl) m6 k6 b6 .nil pass0 (pa_cons (pe_meth0 (pv 6) X.cC Ma Ga r1 ba .nil pass0) (pa_cons (pv 7) pa_nil))))) (pss_one (ps_ret pe_bl)) pss_nil)
      (pss_cons (ps_for PassesOwn.never rfl (pi_range1 (by rfl) T.range (pa_cons (pe_call G2 r1 (by rfl) m2 k2 b2 .nil pass0 (pa_cons (pv 1) (pa_cons pe_int pa_nil))) pa_nil)) (pg_name (i := 8) nd rfl (.inl rfl))
      (pss_cons (ps_set (i := 9) nd rfl (.inl rfl) (pe_ix ix_list (pe_lst (pa_cons pe_str (pa_cons pe_str (pa_cons pe_str (pa_cons pe_str (pa_cons pe_str (pa_cons pe_str pa_nil))))))) (pe_call G2 r1 (by rfl) m2 k2 b2 .nil pass0 (pa_cons (pv 1) (pa_cons pe_int pa_nil))) (fun _ _ => rfl)))
      (pss_one (ps_for PassesOwn.never rfl (pi_range1 (by rfl) T.range (pa_cons (pe_ix ix_list (pe_lst (pa_cons pe_int (pa_cons (pe_op op_add pe_int (pe_call G2 r1 (by rfl) m2 k2 b2 .nil pass0 (pa_cons (pv 1) (pa_cons pe_int pa_nil)))) pa_nil))) (pe_call G2 r1 (by rfl) m2 k2 b2 .nil pass0 (pa_cons (pv 1) (pa_cons pe_int pa_nil))) (fun _ _ => rfl)) pa_nil)) (pg_name (i := 10) nd rfl (.inl rfl))
      (pss_cons (ps_set (i := 11) nd rfl (.inl rfl) (pe_call G7 r2 (by rfl) m7 k7 b7 .nil pass0 (pa_cons (pv 2) (pa_cons (pv 4) (pa_cons (pv 7) (pa_cons (pv 9) pa_nil))))))
      (pss_cons (ps_if (pt_not (pt_val (pe_call G6 r5 (by rfl) m6 k6 b6 .nil pass0 (pa_cons (pe_call G8 hr (by rfl) m8 k8 b8 .nil pass0 (pa_cons (pv 6) (pa_cons (pv 9) pa_nil))) (pa_cons (pe_cmpR (op_neD hu) (pv 11) (pv 7) (nomark _)) pa_nil))))) (pss_one (ps_ret pe_bl)) pss_nil)
      (pss_cons (ps_set (i := 7) nd rfl (.inl rfl) (pv 11))
      (pss_cons (ps_set (i := 12) nd rfl (.inl rfl) (pe_op op_add (pe_ix ix_list (pe_ix ix_list (pv 4) (pe_ix ix_tup (pv 7) pe_int (fun _ _ => rfl)) (fun _ _ => rfl)) (pe_ix ix_tup (pv 7) pe_int (fun _ _ => rfl)) (fun _ _ => rfl)) (pe_ix ix_tup (pv 7) pe_int (fun _ _ => rfl))))
      (pss_one (ps_if (pt_not (pt_val (pe_call G6 r5 (by rfl) m6 k6 b6 .nil pass0 (pa_cons (pe_lst (pa_cons (pe_meth0 (pv 6) X.cC Ma Ga r1 ba .nil pass0) (pa_cons (pe_meth0 (pv 6) X.cC Ms Gs r15 bs .nil pass0) pa_nil))) (pa_cons (pe_lst (pa_cons (pv 7) (pa_cons (pv 12) pa_nil))) pa_nil))))) (pss_one (ps_ret pe_bl)) pss_nil))))))))))
      (pss_one (ps_ret (pe_and (pe_cmpR (op_eqD hu) (pe_meth0 (pv 6) X.cC Mp Gp r2 bp .nil pass0) (pv 2) (nomark _)) (pe_and (pe_cmpR op_isBl (pe_meth0 (pv 6) X.cC Mb Gb r2 bb .nil pass0) pe_bl (nomark _)) (pe_one (pe_cmpR (op_eqD hu) (pe_meth0 (pv 6) X.cC Ma Ga r1 ba .nil pass0) (pe_tup (pa_cons pe_int (pa_cons pe_int (pa_cons pe_int pa_nil)))) (nomark _)))))))))))))))), ?_⟩
    have szl : (2000 : Nat) < sizeLine := by decide
    refine ⟨_, rfl, a, ns, rfl, hS, hl, fun b l H1 hB x1 nb nl => ⟨_, rfl, by show 3 ≤ sizeLine; decide, fun p0 np0 => ⟨_, rfl, b, l, 3, rfl, box_new hB np0, by decide, by decide, fun z H2 z0 z1 hB2 x2 => ?_⟩⟩⟩
    obtain ⟨nb0, nl0⟩ := new_ne hB np0
    have hp2 := x2 p0 _ upd_same nb0 nl0
    have hT2 := tabs_kb (tabs_ext (tabs_ext hT x1) (same_new np0)) (box_new hB np0) x2
    obtain ⟨m, hm, em⟩ := pick (xs := [(4 : Int), 12, 30]) (i := z) z0 z1
    have hm2 : 1 ≤ m ∧ m ≤ 30 := by
      simp only [List.mem_cons, List.not_mem_nil, or_false] at hm
      omega
    refine ⟨p0, _, _, .int m, rfl, rfl, SqL.of hp2, atI_map (f := V.int) em, b, l, m, rfl, hB2, hm2.1, hm2.2, fun pg as rows H3 hB3 x3 np pb pl hp hal hrow hO => ⟨_, rfl, b, l, rfl, hB3, fun st gap least H4 hB4 x4 nq hq g0 g1 l0 l1 => ⟨_, _, rfl, ?_⟩⟩⟩
    have hT4 := tabs_kb (tabs_kb hT2 hB2 x3) hB3 x4
    have hp4 := x4 pg _ hp pb pl
    have P4 : PageAt K H4 pg as rows := ⟨SqL.of hp4, hal, fun i q r h1 h2 => by
      obtain ⟨ns', st', e1, e2, _⟩ := id hB3
      have e := hrow i q r h1 h2
      exact .inl (.inl (x4 q _ e (ne_of e e1 (by intro z; cases z)) (ne_of e e2 (by intro z; cases z))))⟩
    have S4 : StyleAt K H4 st gap least := ⟨.inl (.inl hq), g0, g1, l0, l1⟩
    have hrow4 : ∀ (i : Nat) (q : Addr) (r : List Str), as[i]? = some q → rows[i]? = some r → H4 q = some (.tup (sV r)) := fun i q r h1 h2 => by
      obtain ⟨ns', st', e1, e2, _⟩ := id hB3
      have e := hrow i q r h1 h2
      exact x4 q _ e (ne_of e e1 (by intro z; cases z)) (ne_of e e2 (by intro z; cases z))
    clear hp hrow x2 x3 hB2 hB3 hT2 hp2 hB x1 nb0 nl0 np0
    -- begins, handed, the cursor
    refine ⟨_, rfl, _, rfl, pg, st, as, rows, gap, least, rfl, P4, hO, S4, fun r es H5 x5 nr nes tA => ?_⟩
    have P5 : PageAt K H5 pg as rows := P4.gw (same_extN x5)
    have e5 := same_extN x5
    have frb : ∀ {c : Addr}, H4 c = none → c ≠ b ∧ c ≠ l := fun {c} hc => by
      obtain ⟨ns', st', e1, e2, _⟩ := id hB4
      exact ⟨(fun z => by rw [z, e1] at hc; cases hc), (fun z => by rw [z, e2] at hc; cases hc)⟩
    have hB5 := box_ext hB4 e5
    have hT5 := tabs_ext hT4 x5
    have hp5 := x5 _ _ hp4
    have rb := frb nr
    have eb : ∀ e ∈ es, e ≠ b ∧ e ≠ l := fun e he => frb (nes e he).1
    have S5 := S4.gw e5
    -- handed in, the cursor made
    refine ⟨_, rfl, pg, _, rfl, .inl P5.lst, fun hd nhd => ?_⟩
    have x6 := same_new (o := .lst (as.map V.ref)) nhd
    have hd6 : upd H5 hd (.lst (as.map V.ref)) hd = some (.lst (as.map V.ref)) := upd_same
    generalize upd H5 hd (.lst (as.map V.ref)) = H6 at x6 hd6 ⊢
    have fr5 : ∀ {c : Addr} {o : HO}, H5 c = some o → c ≠ hd := fun {c o} hc z => by rw [z, nhd] at hc; cases hc
    refine ⟨_, rfl, _, rfl, fun cu dxc ncu ndc nec => ?_⟩
    have x7 : Same H6 (upd (upd H6 dxc (.own cu)) cu (.ins C dxc [])) := fun c o h => by rw [upd_ne (ne_of_none h ncu), upd_ne (ne_of_none h ndc)]; exact h
    have hcu7 : upd (upd H6 dxc (.own cu)) cu (.ins C dxc []) cu = some (.ins C dxc []) := upd_same
    generalize upd (upd H6 dxc (.own cu)) cu (.ins C dxc []) = H7 at x7 hcu7 ⊢
    have x57 : Same H5 H7 := fun c o h => x7 c o (x6 c o h)
    have P7 := P5.gw (same_extN x57)
    refine ⟨cu, hd, st, dxc, as, rows, gap, least, rfl, tabs_ext hT5 x57, hcu7, ⟨SqL.of (x7 _ _ hd6), P7.len, P7.row⟩, hO, S5.gw (same_extN x57), fun sh rl H8 x8 t8 old8 hC8 nrl ndl => ⟨rfl, ?_⟩⟩
    obtain ⟨dxs, dl, hsh8, ndl⟩ := ndl
    have keep8 : ∀ {c : Addr} {xs : List V}, H7 c = some (.lst xs) → H8 c = some (.lst xs) := fun {c xs} h => x8 _ _ h (fun ps z => by cases z) fun z => by rw [z, hcu7] at h; cases h
    have fr7 : ∀ {c d : Addr} {o : HO}, H7 d = none → H7 c = some o → d ≠ c := fun {c d o} hd hc z => by rw [z, hc] at hd; cases hd
    obtain ⟨ns7, st7, hb7, hl7, hn7⟩ := box_ext hB5 (same_extN x57)
    have hpg7 := x57 _ _ hp5
    have tA7 := tA.ext (same_extN x57)
    have hd7 := x7 _ _ hd6
    have hd8 := keep8 hd7
    have Sit8 : Sit K cs C S b l cu sh rl st pg r dl as es rows gap least H8 (0, 0, 0) := ⟨⟨ns7, st7, keep8 hb7, keep8 hl7, hn7⟩, t8, ⟨keep8 hpg7, pb, pl⟩, ⟨keep8 tA7.lst, tA7.len, tA7.nd, fun i e he => keep8 (tA7.at_ i e he)⟩, rb, eb, hC8, ⟨dxs, hsh8⟩, ⟨fr7 ndl hb7, fr7 ndl hl7⟩, ⟨fr7 nrl hb7, fr7 nrl hl7⟩⟩
    -- the list handed in is cleared
    refine ⟨_, rfl, .inl ⟨rfl, _, SqL.of hd8⟩, hd, _, rfl, rfl, hd8, ?_⟩
    have kd : KB hd hd H8 (upd H8 hd (.lst [])) := fun c o h n _ => by rw [upd_ne n]; exact h
    have hBd : BoxAt (upd H8 hd (.lst [])) b l := ⟨ns7, st7, by rw [upd_ne (fr5 (box_ext hB4 e5).choose_spec.choose_spec.1)]; exact keep8 hb7, by rw [upd_ne (fr5 (box_ext hB4 e5).choose_spec.choose_spec.2.1)]; exact keep8 hl7, hn7⟩
    have Sit9 := Sit8.two ⟨_, hd8⟩ ⟨_, hd8⟩ kd hBd (fun q hq => by
      obtain ⟨ps, e1, e2⟩ := t8 q hq
      exact ⟨ps, by rw [upd_ne fun z => by rw [z, hd8] at e1; cases e1]; exact e1, e2⟩) ⟨fr5 hp5, fr5 hp5⟩ ⟨fr5 tA.lst, fr5 tA.lst⟩ (fun e he => by
      obtain ⟨j, hj, ee⟩ := List.getElem_of_mem he
      have := tA.at_ j e (by rw [List.getElem?_eq_getElem hj, ee])
      exact ⟨fr5 this, fr5 this⟩) ⟨fr7 ndl hd7, fr7 ndl hd7⟩ ⟨fr7 nrl hd7, fr7 nrl hd7⟩
    generalize upd H8 hd (.lst []) = H9 at Sit9 ⊢
    clear Sit8 hBd kd hd8 hd7 tA7 hpg7 hb7 hl7 fr7 keep8 hsh8 ndl nrl hC8 old8 t8 x8 P7 x57 hcu7 x7 nec ndc ncu fr5 hd6 x6 nhd S5 eb rb hp5 hT5 hB5 frb e5 P5 nes nr tA x5 hrow4 S4 P4 hp4 hT4 hB4 hq nq x4
    -- at
    refine ⟨by show 3 ≤ sizeLine; decide, fun t0 nt0 => ?_⟩
    have Sit10 := Sit9.same (same_new (o := .tup [.int 0, .int 0, .int 0]) nt0)
    have ht10 : SqT K (upd H9 t0 (.tup [.int 0, .int 0, .int 0])) t0 (v3 (0, 0, 0)) := SqT.of upd_same
    generalize upd H9 t0 (.tup [.int 0, .int 0, .int 0]) = H10 at Sit10 ht10 ⊢
    clear Sit9
    obtain ⟨dx10, sp10, c10, _⟩ := id Sit10.cur.cur
    refine ⟨_, rfl, cu, dx10, _, rfl, c10, rfl, cu, sh, rl, st, as, rows, gap, least, (0, 0, 0), rfl, Sit10.cur, fun sp hsp => ⟨_, rfl, _, _, d3 (0, 0, 0), rfl, dp_d3 hsp, dp_d3 ht10, (dok_d3 _).1, (dok_d3 _).2, true, rfl, iteF ?_⟩⟩
    -- the turns
    refine ⟨_, rfl, b, l, 61, rfl, Sit10.box, by decide, by decide, fun u H11 u0 u1 hB11 x11 => ⟨u, rfl, by omega, by omega, for_range (n := u.toNat) (fun _ σ H' => ∃ (p : Nat × Nat × Nat) (t : Addr) (c8 c9 c10 c11 c12 : Option V), σ = [some (.ref a), some (.ref b), some (.ref pg), some (.ref st), some (.ref r), some (.ref hd), some (.ref cu), some (.ref t), c8, c9, c10, c11, c12] ∧ Sit K cs C S b l cu sh rl st pg r dl as es rows gap least H' p ∧ SqT K H' t (v3 p))
      ⟨(0, 0, 0), t0, none, none, none, none, none, rfl, Sit10.kb x11 hB11, sqT_kb (box_isL Sit10.box).1 (box_isL Sit10.box).2 x11 ht10⟩ ?_ ?_⟩⟩
    · clear hB11 x11 Sit10 ht10 c10
      rintro i σ H12 hi ⟨p, t, c8, c9, c10, c11, c12, rfl, sit, ht⟩
      refine ⟨by show 6 ≤ sizeLine; decide, fun ol nol => ⟨_, rfl, b, l, 6, rfl, box_new sit.box nol, by decide, by decide, fun z H13 z0 z1 hB13 x13 => ?_⟩⟩
      obtain ⟨nob, nol2⟩ := new_ne sit.box nol
      have hol := x13 ol _ upd_same nob nol2
      have y13 := (kb_new (b := b) (l := l) (o := .lst [V.str "left", V.str "right", V.str "up", V.str "down", V.str "right", V.str "down"]) nol).trans x13
      obtain ⟨wy, hw, ew⟩ := pick (xs := [("left" : Str), "right", "up", "down", "right", "down"]) (i := z) z0 z1
      have hw4 : WayOk wy := by
        simp only [List.mem_cons, List.not_mem_nil, or_false] at hw
        unfold WayOk
        rcases hw with h | h | h | h | h | h
        · exact .inl h
        · exact .inr (.inl h)
        · exact .inr (.inr (.inl h))
        · exact .inr (.inr (.inr h))
        · exact .inr (.inl h)
        · exact .inr (.inr (.inr h))
      have sit13 := sit.kb y13 hB13
      have ht13 := sqT_kb (box_isL sit.box).1 (box_isL sit.box).2 y13 ht
      clear y13 x13 nob nol2 nol sit ht
      refine ⟨ol, _, _, .str wy, rfl, rfl, SqL.of hol, atI_map (f := V.str) ew, ?_⟩
      clear hol ew hw
      refine ⟨_, rfl, b, l, 12, rfl, hB13, by decide, by decide, fun m12 H14 n0 n1 hB14 x14 => ⟨_, _, rfl, rfl, by show 2 ≤ sizeLine; decide, fun q nq => ?_⟩⟩
      obtain ⟨nqb, nql⟩ := new_ne hB14 nq
      refine ⟨_, rfl, b, l, 2, rfl, box_new hB14 nq, by decide, by decide, fun y H15 y0 y1 hB15 x15 => ?_⟩
      have hq15 := x15 q _ upd_same nqb nql
      have y15 := (x14.trans (kb_new (b := b) (l := l) (o := .lst [V.int 1, V.int (1 + m12)]) nq)).trans x15
      obtain ⟨many, hmany, emany⟩ := pick (xs := [(1 : Int), 1 + m12]) (i := y) y0 y1
      have hm13 : 0 ≤ many ∧ many ≤ 13 := by
        simp only [List.mem_cons, List.not_mem_nil, or_false] at hmany
        omega
      have sit15 := sit13.kb y15 hB15
      have ht15 := sqT_kb (box_isL sit13.box).1 (box_isL sit13.box).2 y15 ht13
      refine ⟨q, _, _, .int many, rfl, rfl, SqL.of hq15, atI_map (f := V.int) emany, many, rfl, by omega, by omega, for_range (n := many.toNat) (fun _ σ H' => ∃ (p : Nat × Nat × Nat) (t : Addr) (c10 c11 c12 : Option V), σ = [some (.ref a), some (.ref b), some (.ref pg), some (.ref st), some (.ref r), some (.ref hd), some (.ref cu), some (.ref t), some (.int (0 + (i : Nat))), some (.str wy), c10, c11, c12] ∧ Sit K cs C S b l cu sh rl st pg r dl as es rows gap least H' p ∧ SqT K H' t (v3 p))
        ⟨p, t, c10, c11, c12, rfl, sit15, ht15⟩ ?_ ?_⟩
      · clear hq15 y15 x15 x14 hB14 hB15 nq nqb nql sit13 ht13 sit15 ht15 hmany emany hB13
        rintro j σ H16 hj ⟨p, t, c10, c11, c12, rfl, sit, ht⟩
        -- later
        refine ⟨_, rfl, _, rfl, _, rfl, _, rfl, pg, r, t, wy, as, es, rows, gap, least, p, rfl, sit.page, hO, sit.beg, ht, sit.cur.mem, hw4, fun t' H17 x17 ht17 => ?_⟩
        have sit17 := sit.same x17
        have hto := same_sqT x17 ht
        -- it goes
        refine ⟨_, rfl, _, rfl, cu, sh, rl, st, as, rows, gap, least, p, wy, rfl, sit17.tab, sit17.cur, hw4, fun H18 x18 t18 hC18 => ?_⟩
        have sit18 := sit17.went x18 t18 hC18
        have ht18 := sqT_went sit17 x18 ht17
        have hto18 := sqT_went sit17 x18 hto
        have hmem := sit17.cur.mem
        refine ⟨_, rfl, _, rfl, d3 _, d3 p, dp_d3 ht18, dp_d3 hto18, shaped_d3 _, shaped_d3 _, ?_⟩
        rw [eqv_d3, ← went_go hmem]
        refine ⟨_, _, .bool _, rfl, .bl _, .bl _, by show 0 < 4; decide, rfl, true, rfl, iteF ?_⟩
        generalize hp' : (goF wy rows gap least p).2 = p' at sit18 ht18
        clear hp' hto18 hC18 t18 x18 hto ht17 sit17 x17 sit ht
        -- at, aside
        have hA := sit18.beg
        obtain ⟨hpi, hpc⟩ := ncl_of hO (i := p'.1) (c := p'.2.1) (k := p'.2.2) sit18.cur.mem
        obtain ⟨e0, he0⟩ := getP (xs := es) (i := p'.1) (by rw [hA.len]; exact hpi)
        refine ⟨_, rfl, ?_⟩
        refine ⟨_, rfl, _, rfl, t', _, 0, .int (p'.1 : Nat), rfl, rfl, ht18, rfl, r, _, _, .ref e0, rfl, rfl, SqL.of hA.lst, atI_nat (by rw [List.getElem?_map, he0]; rfl), _, rfl, t', _, 1, .int (p'.2.1 : Nat), rfl, rfl, ht18, rfl, e0, _, _, .int (begC rows gap least p'.1 (ncl rows p'.1) p'.2.1), rfl, rfl, SqL.of (hA.at_ p'.1 e0 he0), atI_nat (by rw [List.getElem?_map, begs_get hpc]; rfl), _, rfl, t', _, 2, .int (p'.2.2 : Nat), rfl, rfl, ht18, rfl, _, _, rfl, rfl, ?_⟩
        dsimp only
        rw [show begC rows gap least p'.1 (ncl rows p'.1) p'.2.1 + ((p'.2.2 : Nat) : Int) = asideR rows gap least p' from rfl]
        obtain ⟨dx18, sp18, c18, _⟩ := id sit18.cur.cur
        refine ⟨_, rfl, cu, dx18, _, rfl, c18, rfl, cu, sh, rl, st, as, rows, gap, least, p', rfl, sit18.cur, fun sp hsp => ?_⟩
        refine ⟨_, rfl, cu, dx18, _, rfl, c18, rfl, cu, sh, rl, st, as, rows, gap, least, p', rfl, sit18.tab, sit18.cur, fun H19 x19 => ?_⟩
        have sit19 := sit18.gw x19.ext x19.tab
        have ht19 := x19.sqT ht18
        have hsp19 := x19.sqT hsp
        refine ⟨by show 2 ≤ sizeLine; decide, fun l1 nl1 => ⟨_, rfl, _, rfl, by show 2 ≤ sizeLine; decide, fun l2 nl2 => ?_⟩⟩
        have y1 := same_new (o := .lst [.ref sp, .int (asideR rows gap least p')]) nl1
        have hl1 : upd H19 l1 (.lst [.ref sp, .int (asideR rows gap least p')]) l1 = some (.lst [.ref sp, .int (asideR rows gap least p')]) := upd_same
        generalize upd H19 l1 (.lst [.ref sp, .int (asideR rows gap least p')]) = H20 at y1 hl1 nl2 ⊢
        have y2 := same_new (o := .lst [.ref t', .int (asideR rows gap least p')]) nl2
        have hl2 : upd H20 l2 (.lst [.ref t', .int (asideR rows gap least p')]) l2 = some (.lst [.ref t', .int (asideR rows gap least p')]) := upd_same
        generalize upd H20 l2 (.lst [.ref t', .int (asideR rows gap least p')]) = H21 at y2 hl2 ⊢
        have y12 : Same H19 H21 := fun c o h => y2 c o (y1 c o h)
        refine ⟨_, _, .list [d3 p', .int (asideR rows gap least p')], rfl, .lst (SqL.of (y2 _ _ hl1)) (.cons (dp_d3 (same_sqT y12 hsp19)) (.cons (.int _) .nil)), .lst (SqL.of hl2) (.cons (dp_d3 (same_sqT y12 ht19)) (.cons (.int _) .nil)), by simp [PyData.depth, PyData.depthAll], by simp [dok, dokAll], true, rfl, iteF ?_⟩
        exact ⟨p', t', _, _, _, rfl, sit19.same y12, same_sqT y12 ht19⟩
      · rintro σ H16 ⟨p, t, c10, c11, c12, rfl, sit, ht⟩
        exact ⟨p, t, _, _, _, _, _, rfl, sit, ht⟩
    · rintro σ H12 ⟨p, t, c8, c9, c10, c11, c12, rfl, sit, ht⟩
      obtain ⟨dx12, sp12, c12', _⟩ := id sit.cur.cur
      refine ⟨_, rfl, cu, dx12, _, rfl, c12', rfl, cu, sh, rl, st, as, rows, gap, least, p, rfl, sit.cur, fun q nq => ⟨_, rfl, ?_⟩⟩
      have sit13 := sit.same (same_new (o := .lst (as.map V.ref)) nq)
      have hq13 : upd H12 q (.lst (as.map V.ref)) q = some (.lst (as.map V.ref)) := upd_same
      generalize upd H12 q (.lst (as.map V.ref)) = H13 at sit13 hq13 ⊢
      have dpr : DpAll K H13 (as.map V.ref) (rowsD rows) := dp_rows sit13.page.len sit13.page.row
      refine ⟨.list (rowsD rows), .list (rowsD rows), .lst (SqL.of hq13) dpr, .lst sit13.page.lst dpr, shaped_rows hO, shaped_rows hO, ?_⟩
      rw [SeqAt.eqv_refl _ (can_rows hO)]
      obtain ⟨dx13, sp13, c13, _⟩ := id sit13.cur.cur
      refine ⟨true, rfl, iteT ⟨_, rfl, cu, dx13, _, rfl, c13, rfl, cu, sh, rl, st, as, rows, gap, least, p, rfl, sit13.tab, sit13.cur, fun H14 x14 t14 hC14 => ⟨false, false, rfl, rfl, ?_⟩⟩⟩
      obtain ⟨dx14, sp14, c14, _⟩ := id hC14.cur
      refine ⟨true, rfl, iteT ⟨_, rfl, cu, dx14, _, rfl, c14, rfl, cu, sh, rl, st, as, rows, gap, least, (0, 0, 0), rfl, hC14, fun sp hsp => ⟨by show 3 ≤ sizeLine; decide, fun t3 nt3 => ?_⟩⟩⟩
      refine ⟨d3 (0, 0, 0), d3 (0, 0, 0), dp_d3 (same_sqT (same_new nt3) hsp), dp_d3 (p := (0, 0, 0)) (SqT.of upd_same), shaped_d3 _, shaped_d3 _, ?_⟩
      rw [eqv_d3, decide_eq_true rfl]
      exact k _
end
end TG

namespace TG
open PySem PySem.Spec PyProof.Rows L2
/-! ### the head -/
def dd (i : Nat) (x : Str) : He.DefD := ⟨(x, none), x, x, defArgs (top i), defBody (top i), defScope (top i), [], []⟩
def dm (c i : Nat) (C m : Str) : He.DefD := ⟨(C, some m), m, C ++ "." ++ m, defArgs (mth c i), defBody (mth c i), defScope (mth c i), [], []⟩
def fnL : List He.DefD := [dd 14 "is_whole", dd 15 "is_sign", dd 16 "is_text_of_signs", dd 17 "is_row", dd 18 "first_misfit", dd 19 "check_page", dd 20 "check_style", dd 22 "stretches", dd 23 "closed_runs", dd 24 "is_closed", dd 25 "described", dd 26 "stands_right", dd 27 "is_figures", dd 29 "laid", dd 30 "closed_cells", dd 31 "left_ends", dd 32 "begins_of", dd 38 "row_spots", dd 39 "page_spots", dd 41 "_law_begun", dd 42 "_law_take", dd 43 "_law_alike", dd 44 "_law_sign", dd 45 "_law_cell", dd 46 "_law_row", dd 47 "_law_page", dd 48 "_law_style", dd 49 "_law_figures", dd 50 "_law_mates", dd 51 "_law_wide", dd 52 "_law_turned", dd 53 "_law_ends", dd 54 "_law_begins", dd 55 "_law_places", dd 56 "_law_gone", dd 57 "_law_went", dd 58 "law", dm 34 0 "Sheet" "__init__", dm 34 8 "Sheet" "back", dm 34 9 "Sheet" "page", dm 34 10 "Sheet" "begins", dm 37 0 "Cursor" "__init__", dm 37 1 "Cursor" "at", dm 37 2 "Cursor" "aside", dm 37 3 "Cursor" "left", dm 37 4 "Cursor" "right", dm 37 5 "Cursor" "up", dm 37 6 "Cursor" "down", dm 37 9 "Cursor" "back", dm 37 10 "Cursor" "page", dm 37 11 "Cursor" "step", dm 37 12 "Cursor" "beside", dm 37 13 "Cursor" "climb"]
def faL : List He.Fa := [.glo "is_whole", .glo "is_sign", .glo "is_text_of_signs", .glo "is_row", .glo "first_misfit", .glo "check_page", .glo "check_style", .glo "stretches", .glo "closed_runs", .glo "is_closed", .glo "described", .glo "stands_right", .glo "is_figures", .glo "laid", .glo "closed_cells", .glo "left_ends", .glo "begins_of", .glo "row_spots", .glo "page_spots", .glo "_law_begun", .glo "_law_take", .glo "_law_alike", .glo "_law_sign", .glo "_law_cell", .glo "_law_row", .glo "_law_page", .glo "_law_style", .glo "_law_figures", .glo "_law_mates", .glo "_law_wide", .glo "_law_turned", .glo "_law_ends", .glo "_law_begins", .glo "_law_places", .glo "_law_gone", .glo "_law_went", .glo "law", .int "BLANK" 32, .int "TILDE" 126, .int "PERCENT" 37, .int "MOST_ROWS" 30, .int "MOST_CELLS" 6, .int "MOST_SIGNS" 10, .int "MOST_GAP" 4, .int "MOST_LEAST" 12, .free "isinstance", .free "len", .free "range", .free "max", .free "min", .free "all", .free "str", .free "int", .free "bool", .free "list", .free "tuple", .free "enumerate", .free "ord", .free "zip", .glo "FIRST", .glo "Sheet", .glo "Cursor", .cls "Sheet", .cls "Cursor", .noat "Cursor" "sheet", .noat "Cursor" "spot", .noat "Sheet" "rows", .noat "Sheet" "style", .noat "Sheet" "deeds", .mkr "Sheet", .mkr "Cursor", .meth "Sheet" "back", .meth "Sheet" "page", .meth "Sheet" "begins", .meth "Cursor" "at", .meth "Cursor" "aside", .meth "Cursor" "left", .meth "Cursor" "right", .meth "Cursor" "up", .meth "Cursor" "down", .meth "Cursor" "back", .meth "Cursor" "page", .meth "Cursor" "step", .meth "Cursor" "beside", .meth "Cursor" "climb"]
def tfB : List He.Defn := [("is_text_of_signs", none), ("is_row", none), ("stretches", none), ("described", none), ("stands_right", none)]
def lmL : List He.Defn := []
def tfL : List He.Defn := tfB ++ lmL
def exL : PySem.W.Frag → Bool := fun K => (lmL.all fun r => (tfB.all fun q => decide ((He.cT K q).2 ≠ (He.cT K r).2)) && (lmL.all fun q => decide (q = r) || decide ((He.cT K q).2 ≠ (He.cT K r).2)))
def constB (K : PySem.W.Frag) : Bool := match K.lookup (He.ga K "FIRST") with
  | some ⟨.type "tuple", _, .seq its _, _⟩ => match its.toList with
    | [.int 0 _, .int 0 _, .int 0 _] => true
    | _ => false
  | _ => false
theorem const_of {K : PySem.W.Frag} (h : constB K = true) : ∀ H, SqT K H (He.ga K "FIRST") (v3 (0, 0, 0)) := fun H => by
  unfold constB at h
  split at h
  · rename_i its n sl e
    split at h
    · rename_i e2
      refine .inr ⟨_, its, n, e, rfl, rfl, ?_, ?_⟩
      · have : its.toList.length = 3 := by rw [e2]; rfl
        have : its.size = 3 := by simpa using this
        rw [this]
        decide
      · rw [e2]
        exact .cons ⟨_, rfl⟩ (.cons ⟨_, rfl⟩ (.cons ⟨_, rfl⟩ .nil))
    · cases h
  · cases h
def exC (K : PySem.W.Frag) : Bool := exL K && constB K
theorem subL {K : PySem.W.Frag} {q : Addr × Addr} (h : q ∈ tfB.map (He.cT K)) : q ∈ tfL.map (He.cT K) := by
  unfold tfL
  rw [List.map_append]
  exact List.mem_append_left _ h
theorem memL {K : PySem.W.Frag} {r : He.Defn} (h : r ∈ lmL) : He.cT K r ∈ tfL.map (He.cT K) := by
  unfold tfL
  rw [List.map_append]
  exact List.mem_append_right _ (List.mem_map_of_mem h)
theorem fun_of {K : PySem.W.Frag} {x : Str} {st : Stmt} {f : Addr} {fd : FuncData} (F : FunD K x x (defArgs st) (defBody st) (defScope st) [] [] f fd) : Fun K x x st f fd := by
  obtain ⟨⟨oc, od, dV, kV, doc, pm, an, cdv, ct, osl, e, lk, hcd, hd, _⟩, kp⟩ := F
  rcases hd with ⟨_, hd⟩ | ⟨hd, _⟩
  · subst hd
    exact ⟨⟨oc, od, kV, doc, pm, an, cdv, ct, osl, e, lk, hcd⟩, kp⟩
  · exact absurd rfl hd
/-- a def of the top, by its name -/
structure At (K : PySem.W.Frag) (mg : Str → Option Value) (x : Str) (st : Stmt) (fd : FuncData) : Prop where
  mg_ : mg x = some (.ref (He.ga K x))
  fn : Fun K x x st (He.ga K x) fd
theorem At.kp {K : PySem.W.Frag} {mg : Str → Option Value} {x : Str} {st : Stmt} {fd : FuncData} (a : At K mg x st fd) : PySem.W.keepIn K (.ref (He.ga K x)) = true := a.fn.kp
theorem fun_ofm {K : PySem.W.Frag} {x q : Str} {st : Stmt} {f : Addr} {fd : FuncData} (F : FunD K x q (defArgs st) (defBody st) (defScope st) [] [] f fd) : Fun K x q st f fd := by
  obtain ⟨⟨oc, od, dV, kV, doc, pm, an, cdv, ct, osl, e, lk, hcd, hd, _⟩, kp⟩ := F
  rcases hd with ⟨_, hd⟩ | ⟨hd, _⟩
  · subst hd
    exact ⟨⟨oc, od, kV, doc, pm, an, cdv, ct, osl, e, lk, hcd⟩, kp⟩
  · exact absurd rfl hd
theorem atm_of {fa : List He.Fa} {fn : List He.DefD} {K : PySem.W.Frag} (c : He.SaysD fa fn K) {k i : Nat} {C m : Str} (hd : dm k i C m ∈ fn) : ∃ fd, Fun K m (C ++ "." ++ m) (mth k i) (He.ma K (He.ga K C) m) fd := by
  obtain ⟨fd, F⟩ := c.defs hd
  exact ⟨fd, fun_ofm F⟩
theorem at_of {fa : List He.Fa} {fn : List He.DefD} {K : PySem.W.Frag} {h : Heap} {mg : Str → Option Value} (X : K.In h) (G : h.Ns mainGlobals mg) (c : He.SaysD fa fn K) {i : Nat} {x : Str} (hd : dd i x ∈ fn) (hf : He.Fa.glo x ∈ fa) : ∃ fd, At K mg x (top i) fd := by
  obtain ⟨fd, F⟩ := c.defs hd
  exact ⟨fd, He.glo_ok X G (c.facts hf), fun_of F⟩
theorem code_of {K : PySem.W.Frag} {mg : Str → Option Value} {x : Str} {st : Stmt} {fd : FuncData} (a : At K mg x st fd) : fd.code = .ref (He.cT K (x, none)).1 := by
  obtain ⟨oc, od, kV, doc, pm, an, cdv, ct, osl, e, lk, hcd⟩ := a.fn.ex
  obtain ⟨c, hc⟩ := He.codeIn_ref hcd
  have e2 : fd.code = .ref c := by rw [e, ← hc]
  have e3 : He.codeOf K (x, none) = c := He.codeOf_eq (p := (x, none)) lk e2
  show fd.code = .ref (He.codeOf K (x, none))
  rw [e3, e2]
theorem tab_conv {base : Heap} {mg : Str → Option Value} {c P : Addr} (t : LamX.TabB base mg c P) : GxR.TabB base mg c P := ⟨t.code, t.bm, t.gP⟩

theorem txt_of {K : PySem.W.Frag} {h : Heap} {mg : Str → Option Value} (X : K.In h) (G : h.Ns mainGlobals mg) (c : He.SaysD faL fnL K) : Txt mg := by
  constructor
  all_goals exact He.free_ok X G (c.facts (by simp [faL]))
theorem consts_of {K : PySem.W.Frag} {h : Heap} {mg : Str → Option Value} (X : K.In h) (G : h.Ns mainGlobals mg) (c : He.SaysD faL fnL K) : Consts mg := by
  constructor
  all_goals exact He.int_ok X G (c.facts (by simp [faL]))
theorem triples_nil : TriplesOk (#[] : Array Value).toList := trivial
theorem facts {w : World} {K : PySem.W.Frag} {h : Heap} {mg : Str → Option Value} {f : Addr} (X : K.In h) (G : h.Ns mainGlobals mg) (hfa : mg ("law" : Str) = some (.ref f)) (c : He.SaysX faL fnL [] tfL exC w h K) :
    LamX.LawAtS PySem.Challenge.rw_tabgrow_k14_cursors_go w K CX0 20 63 "_law_script" mg f h := by
  have cd := c.t.d
  have T := txt_of X G cd
  have N := consts_of X G cd
  obtain ⟨me, mf⟩ := He.ba c.more
  have hz : mg "zip" = none := He.free_ok X G (cd.facts (by simp [faL]))
  obtain ⟨d14, a14⟩ := at_of X G cd (i := 14) (x := "is_whole") (by simp [fnL]) (by simp [faL])
  have b14 := a14.fn.binds (ps := ["value", "low", "high"]) fun _ _ _ _ _ _ us hl => match us, hl with | [_, _, _], _ => rfl
  obtain ⟨d15, a15⟩ := at_of X G cd (i := 15) (x := "is_sign") (by simp [fnL]) (by simp [faL])
  have b15 := a15.fn.binds (ps := ["sign"]) fun _ _ _ _ _ _ us hl => match us, hl with | [_], _ => rfl
  obtain ⟨d16, a16⟩ := at_of X G cd (i := 16) (x := "is_text_of_signs") (by simp [fnL]) (by simp [faL])
  have b16 := a16.fn.binds (ps := ["value", "most"]) fun _ _ _ _ _ _ us hl => match us, hl with | [_, _], _ => rfl
  obtain ⟨d17, a17⟩ := at_of X G cd (i := 17) (x := "is_row") (by simp [fnL]) (by simp [faL])
  have b17 := a17.fn.binds (ps := ["value"]) fun _ _ _ _ _ _ us hl => match us, hl with | [_], _ => rfl
  obtain ⟨dM, aM⟩ := at_of X G cd (i := 18) (x := "first_misfit") (by simp [fnL]) (by simp [faL])
  have bM := aM.fn.binds (ps := ["rows"]) fun _ _ _ _ _ _ us hl => match us, hl with | [_], _ => rfl
  obtain ⟨d18, a18⟩ := at_of X G cd (i := 19) (x := "check_page") (by simp [fnL]) (by simp [faL])
  have b18 := a18.fn.binds (ps := ["page"]) fun _ _ _ _ _ _ us hl => match us, hl with | [_], _ => rfl
  obtain ⟨d19, a19⟩ := at_of X G cd (i := 20) (x := "check_style") (by simp [fnL]) (by simp [faL])
  have b19 := a19.fn.binds (ps := ["style"]) fun _ _ _ _ _ _ us hl => match us, hl with | [_], _ => rfl
  obtain ⟨d21, a21⟩ := at_of X G cd (i := 22) (x := "stretches") (by simp [fnL]) (by simp [faL])
  have b21 := a21.fn.binds (ps := ["page", "style"]) fun _ _ _ _ _ _ us hl => match us, hl with | [_, _], _ => rfl
  obtain ⟨d22, a22⟩ := at_of X G cd (i := 23) (x := "closed_runs") (by simp [fnL]) (by simp [faL])
  have b22 := a22.fn.binds (ps := ["page", "column"]) fun _ _ _ _ _ _ us hl => match us, hl with | [_, _], _ => rfl
  obtain ⟨d23, a23⟩ := at_of X G cd (i := 24) (x := "is_closed") (by simp [fnL]) (by simp [faL])
  have b23 := a23.fn.binds (ps := ["row", "column"]) fun _ _ _ _ _ _ us hl => match us, hl with | [_, _], _ => rfl
  obtain ⟨d24, a24⟩ := at_of X G cd (i := 25) (x := "described") (by simp [fnL]) (by simp [faL])
  have b24 := a24.fn.binds (ps := ["page", "style", "column", "begin", "end"]) fun _ _ _ _ _ _ us hl => match us, hl with | [_, _, _, _, _], _ => rfl
  obtain ⟨d25, a25⟩ := at_of X G cd (i := 26) (x := "stands_right") (by simp [fnL]) (by simp [faL])
  have b25 := a25.fn.binds (ps := ["cells"]) fun _ _ _ _ _ _ us hl => match us, hl with | [_], _ => rfl
  obtain ⟨d26, a26⟩ := at_of X G cd (i := 27) (x := "is_figures") (by simp [fnL]) (by simp [faL])
  have b26 := a26.fn.binds (ps := ["cell"]) fun _ _ _ _ _ _ us hl => match us, hl with | [_], _ => rfl
  obtain ⟨d28, a28⟩ := at_of X G cd (i := 29) (x := "laid") (by simp [fnL]) (by simp [faL])
  have b28 := a28.fn.binds (ps := ["page", "style"]) fun _ _ _ _ _ _ us hl => match us, hl with | [_, _], _ => rfl
  obtain ⟨d29, a29⟩ := at_of X G cd (i := 30) (x := "closed_cells") (by simp [fnL]) (by simp [faL])
  have b29 := a29.fn.binds (ps := ["page", "style"]) fun _ _ _ _ _ _ us hl => match us, hl with | [_, _], _ => rfl
  obtain ⟨d30, a30⟩ := at_of X G cd (i := 31) (x := "left_ends") (by simp [fnL]) (by simp [faL])
  have b30 := a30.fn.binds (ps := ["closed"]) fun _ _ _ _ _ _ us hl => match us, hl with | [_], _ => rfl
  obtain ⟨d31, a31⟩ := at_of X G cd (i := 32) (x := "begins_of") (by simp [fnL]) (by simp [faL])
  have b31 := a31.fn.binds (ps := ["row", "closed", "gap"]) fun _ _ _ _ _ _ us hl => match us, hl with | [_, _, _], _ => rfl
  obtain ⟨d37, a37⟩ := at_of X G cd (i := 38) (x := "row_spots") (by simp [fnL]) (by simp [faL])
  have b37 := a37.fn.binds (ps := ["row"]) fun _ _ _ _ _ _ us hl => match us, hl with | [_], _ => rfl
  obtain ⟨d38, a38⟩ := at_of X G cd (i := 39) (x := "page_spots") (by simp [fnL]) (by simp [faL])
  have b38 := a38.fn.binds (ps := ["page"]) fun _ _ _ _ _ _ us hl => match us, hl with | [_], _ => rfl
  obtain ⟨d40, a40⟩ := at_of X G cd (i := 41) (x := "_law_begun") (by simp [fnL]) (by simp [faL])
  have b40 := a40.fn.binds (ps := ["_law_script"]) fun _ _ _ _ _ _ us hl => match us, hl with | [_], _ => rfl
  obtain ⟨d41, a41⟩ := at_of X G cd (i := 42) (x := "_law_take") (by simp [fnL]) (by simp [faL])
  have b41 := a41.fn.binds (ps := ["_law_box", "_law_many"]) fun _ _ _ _ _ _ us hl => match us, hl with | [_, _], _ => rfl
  obtain ⟨d42, a42⟩ := at_of X G cd (i := 43) (x := "_law_alike") (by simp [fnL]) (by simp [faL])
  have b42 := a42.fn.binds (ps := ["_law_found", "_law_due"]) fun _ _ _ _ _ _ us hl => match us, hl with | [_, _], _ => rfl
  obtain ⟨d43, a43⟩ := at_of X G cd (i := 44) (x := "_law_sign") (by simp [fnL]) (by simp [faL])
  have b43 := a43.fn.binds (ps := ["_law_box"]) fun _ _ _ _ _ _ us hl => match us, hl with | [_], _ => rfl
  obtain ⟨d44, a44⟩ := at_of X G cd (i := 45) (x := "_law_cell") (by simp [fnL]) (by simp [faL])
  have b44 := a44.fn.binds (ps := ["_law_box", "_law_sort"]) fun _ _ _ _ _ _ us hl => match us, hl with | [_, _], _ => rfl
  obtain ⟨d45, a45⟩ := at_of X G cd (i := 46) (x := "_law_row") (by simp [fnL]) (by simp [faL])
  have b45 := a45.fn.binds (ps := ["_law_box", "_law_sorts", "_law_many"]) fun _ _ _ _ _ _ us hl => match us, hl with | [_, _, _], _ => rfl
  obtain ⟨d46, a46⟩ := at_of X G cd (i := 47) (x := "_law_page") (by simp [fnL]) (by simp [faL])
  have b46 := a46.fn.binds (ps := ["_law_box", "_law_most"]) fun _ _ _ _ _ _ us hl => match us, hl with | [_, _], _ => rfl
  obtain ⟨d47, a47⟩ := at_of X G cd (i := 48) (x := "_law_style") (by simp [fnL]) (by simp [faL])
  have b47 := a47.fn.binds (ps := ["_law_box"]) fun _ _ _ _ _ _ us hl => match us, hl with | [_], _ => rfl
  obtain ⟨d48, a48⟩ := at_of X G cd (i := 49) (x := "_law_figures") (by simp [fnL]) (by simp [faL])
  have b48 := a48.fn.binds (ps := ["_law_cell_here"]) fun _ _ _ _ _ _ us hl => match us, hl with | [_], _ => rfl
  obtain ⟨d49, a49⟩ := at_of X G cd (i := 50) (x := "_law_mates") (by simp [fnL]) (by simp [faL])
  have b49 := a49.fn.binds (ps := ["_law_page_here", "_law_number", "_law_column"]) fun _ _ _ _ _ _ us hl => match us, hl with | [_, _, _], _ => rfl
  obtain ⟨d50, a50⟩ := at_of X G cd (i := 51) (x := "_law_wide") (by simp [fnL]) (by simp [faL])
  have b50 := a50.fn.binds (ps := ["_law_page_here", "_law_style_here", "_law_number", "_law_column"]) fun _ _ _ _ _ _ us hl => match us, hl with | [_, _, _, _], _ => rfl
  obtain ⟨d51, a51⟩ := at_of X G cd (i := 52) (x := "_law_turned") (by simp [fnL]) (by simp [faL])
  have b51 := a51.fn.binds (ps := ["_law_page_here", "_law_number", "_law_column"]) fun _ _ _ _ _ _ us hl => match us, hl with | [_, _, _], _ => rfl
  obtain ⟨d52, a52⟩ := at_of X G cd (i := 53) (x := "_law_ends") (by simp [fnL]) (by simp [faL])
  have b52 := a52.fn.binds (ps := ["_law_page_here", "_law_style_here"]) fun _ _ _ _ _ _ us hl => match us, hl with | [_, _], _ => rfl
  obtain ⟨d53, a53⟩ := at_of X G cd (i := 54) (x := "_law_begins") (by simp [fnL]) (by simp [faL])
  have b53 := a53.fn.binds (ps := ["_law_page_here", "_law_style_here"]) fun _ _ _ _ _ _ us hl => match us, hl with | [_, _], _ => rfl
  obtain ⟨d54, a54⟩ := at_of X G cd (i := 55) (x := "_law_places") (by simp [fnL]) (by simp [faL])
  have b54 := a54.fn.binds (ps := ["_law_rows"]) fun _ _ _ _ _ _ us hl => match us, hl with | [_], _ => rfl
  obtain ⟨d55, a55⟩ := at_of X G cd (i := 56) (x := "_law_gone") (by simp [fnL]) (by simp [faL])
  have b55 := a55.fn.binds (ps := ["_law_rows", "_law_begins_here", "_law_at", "_law_way"]) fun _ _ _ _ _ _ us hl => match us, hl with | [_, _, _, _], _ => rfl
  obtain ⟨d56, a56⟩ := at_of X G cd (i := 57) (x := "_law_went") (by simp [fnL]) (by simp [faL])
  have b56 := a56.fn.binds (ps := ["_law_cursor", "_law_way"]) fun _ _ _ _ _ _ us hl => match us, hl with | [_, _], _ => rfl
  obtain ⟨d57, a57⟩ := at_of X G cd (i := 58) (x := "law") (by simp [fnL]) (by simp [faL])
  have b57 := a57.fn.binds (ps := ["_law_script"]) fun _ _ _ _ _ _ us hl => match us, hl with | [_], _ => rfl
  have hf : ∀ {x : He.Fa}, x ∈ faL → He.Fa.ok K x = true := fun h => cd.facts h
  have Xc : ClsT K (He.ga K "Cursor") (He.ga K "Sheet") := ⟨He.cls_ok (hf (x := .cls "Cursor") (by simp [faL])), He.cls_ok (hf (x := .cls "Sheet") (by simp [faL])), He.noat_ok (hf (x := .noat "Cursor" "sheet") (by simp [faL])), He.noat_ok (hf (x := .noat "Cursor" "spot") (by simp [faL])), He.noat_ok (hf (x := .noat "Sheet" "rows") (by simp [faL])), He.noat_ok (hf (x := .noat "Sheet" "style") (by simp [faL])), He.noat_ok (hf (x := .noat "Sheet" "deeds") (by simp [faL]))⟩
  have FT : FirstT K mg := ⟨He.ga K "FIRST", He.glo_ok X G (hf (x := .glo "FIRST") (by simp [faL])), const_of mf⟩
  have gS : mg "Sheet" = some (.ref (He.ga K "Sheet")) := He.glo_ok X G (hf (x := .glo "Sheet") (by simp [faL]))
  have gC : mg "Cursor" = some (.ref (He.ga K "Cursor")) := He.glo_ok X G (hf (x := .glo "Cursor") (by simp [faL]))
  obtain ⟨d_Sheet_init, a_Sheet_init⟩ := atm_of cd (k := 34) (i := 0) (C := "Sheet") (m := "__init__") (by simp [fnL])
  have b_Sheet_init := a_Sheet_init.binds (ps := ["self", "page", "style"]) fun _ _ _ _ _ _ us hl => match us, hl with | [_, _, _], _ => rfl
  have mk_Sheet : Mk K (He.ga K "Sheet") (He.ma K (He.ga K "Sheet") "__init__") := He.mkr_ok (hf (x := .mkr "Sheet") (by simp [faL]))
  obtain ⟨d_Sheet_back, a_Sheet_back⟩ := atm_of cd (k := 34) (i := 8) (C := "Sheet") (m := "back") (by simp [fnL])
  have b_Sheet_back := a_Sheet_back.binds (ps := ["self"]) fun _ _ _ _ _ _ us hl => match us, hl with | [_], _ => rfl
  have m_Sheet_back : Meth K (He.ga K "Sheet") "back" (He.ma K (He.ga K "Sheet") "back") := He.meth_ok (hf (x := .meth "Sheet" "back") (by simp [faL]))
  obtain ⟨d_Sheet_page, a_Sheet_page⟩ := atm_of cd (k := 34) (i := 9) (C := "Sheet") (m := "page") (by simp [fnL])
  have b_Sheet_page := a_Sheet_page.binds (ps := ["self"]) fun _ _ _ _ _ _ us hl => match us, hl with | [_], _ => rfl
  have m_Sheet_page : Meth K (He.ga K "Sheet") "page" (He.ma K (He.ga K "Sheet") "page") := He.meth_ok (hf (x := .meth "Sheet" "page") (by simp [faL]))
  obtain ⟨d_Sheet_begins, a_Sheet_begins⟩ := atm_of cd (k := 34) (i := 10) (C := "Sheet") (m := "begins") (by simp [fnL])
  have b_Sheet_begins := a_Sheet_begins.binds (ps := ["self"]) fun _ _ _ _ _ _ us hl => match us, hl with | [_], _ => rfl
  have m_Sheet_begins : Meth K (He.ga K "Sheet") "begins" (He.ma K (He.ga K "Sheet") "begins") := He.meth_ok (hf (x := .meth "Sheet" "begins") (by simp [faL]))
  obtain ⟨d_Cursor_init, a_Cursor_init⟩ := atm_of cd (k := 37) (i := 0) (C := "Cursor") (m := "__init__") (by simp [fnL])
  have b_Cursor_init := a_Cursor_init.binds (ps := ["self", "page", "style"]) fun _ _ _ _ _ _ us hl => match us, hl with | [_, _, _], _ => rfl
  have mk_Cursor : Mk K (He.ga K "Cursor") (He.ma K (He.ga K "Cursor") "__init__") := He.mkr_ok (hf (x := .mkr "Cursor") (by simp [faL]))
  obtain ⟨d_Cursor_at, a_Cursor_at⟩ := atm_of cd (k := 37) (i := 1) (C := "Cursor") (m := "at") (by simp [fnL])
  have b_Cursor_at := a_Cursor_at.binds (ps := ["self"]) fun _ _ _ _ _ _ us hl => match us, hl with | [_], _ => rfl
  have m_Cursor_at : Meth K (He.ga K "Cursor") "at" (He.ma K (He.ga K "Cursor") "at") := He.meth_ok (hf (x := .meth "Cursor" "at") (by simp [faL]))
  obtain ⟨d_Cursor_aside, a_Cursor_aside⟩ := atm_of cd (k := 37) (i := 2) (C := "Cursor") (m := "aside") (by simp [fnL])
  have b_Cursor_aside := a_Cursor_aside.binds (ps := ["self"]) fun _ _ _ _ _ _ us hl => match us, hl with | [_], _ => rfl
  have m_Cursor_aside : Meth K (He.ga K "Cursor") "aside" (He.ma K (He.ga K "Cursor") "aside") := He.meth_ok (hf (x := .meth "Cursor" "aside") (by simp [faL]))
  obtain ⟨d_Cursor_left, a_Cursor_left⟩ := atm_of cd (k := 37) (i := 3) (C := "Cursor") (m := "left") (by simp [fnL])
  have b_Cursor_left := a_Cursor_left.binds (ps := ["self"]) fun _ _ _ _ _ _ us hl => match us, hl with | [_], _ => rfl
  have m_Cursor_left : Meth K (He.ga K "Cursor") "left" (He.ma K (He.ga K "Cursor") "left") := He.meth_ok (hf (x := .meth "Cursor" "left") (by simp [faL]))
  obtain ⟨d_Cursor_right, a_Cursor_right⟩ := atm_of cd (k := 37) (i := 4) (C := "Cursor") (m := "right") (by simp [fnL])
  have b_Cursor_right := a_Cursor_right.binds (ps := ["self"]) fun _ _ _ _ _ _ us hl => match us, hl with | [_], _ => rfl
  have m_Cursor_right : Meth K (He.ga K "Cursor") "right" (He.ma K (He.ga K "Cursor") "right") := He.meth_ok (hf (x := .meth "Cursor" "right") (by simp [faL]))
  obtain ⟨d_Cursor_up, a_Cursor_up⟩ := atm_of cd (k := 37) (i := 5) (C := "Cursor") (m := "up") (by simp [fnL])
  have b_Cursor_up := a_Cursor_up.binds (ps := ["self"]) fun _ _ _ _ _ _ us hl => match us, hl with | [_], _ => rfl
  have m_Cursor_up : Meth K (He.ga K "Cursor") "up" (He.ma K (He.ga K "Cursor") "up") := He.meth_ok (hf (x := .meth "Cursor" "up") (by simp [faL]))
  obtain ⟨d_Cursor_down, a_Cursor_down⟩ := atm_of cd (k := 37) (i := 6) (C := "Cursor") (m := "down") (by simp [fnL])
  have b_Cursor_down := a_Cursor_down.binds (ps := ["self"]) fun _ _ _ _ _ _ us hl => match us, hl with | [_], _ => rfl
  have m_Cursor_down : Meth K (He.ga K "Cursor") "down" (He.ma K (He.ga K "Cursor") "down") := He.meth_ok (hf (x := .meth "Cursor" "down") (by simp [faL]))
  obtain ⟨d_Cursor_back, a_Cursor_back⟩ := atm_of cd (k := 37) (i := 9) (C := "Cursor") (m := "back") (by simp [fnL])
  have b_Cursor_back := a_Cursor_back.binds (ps := ["self"]) fun _ _ _ _ _ _ us hl => match us, hl with | [_], _ => rfl
  have m_Cursor_back : Meth K (He.ga K "Cursor") "back" (He.ma K (He.ga K "Cursor") "back") := He.meth_ok (hf (x := .meth "Cursor" "back") (by simp [faL]))
  obtain ⟨d_Cursor_page, a_Cursor_page⟩ := atm_of cd (k := 37) (i := 10) (C := "Cursor") (m := "page") (by simp [fnL])
  have b_Cursor_page := a_Cursor_page.binds (ps := ["self"]) fun _ _ _ _ _ _ us hl => match us, hl with | [_], _ => rfl
  have m_Cursor_page : Meth K (He.ga K "Cursor") "page" (He.ma K (He.ga K "Cursor") "page") := He.meth_ok (hf (x := .meth "Cursor" "page") (by simp [faL]))
  obtain ⟨d_Cursor_step, a_Cursor_step⟩ := atm_of cd (k := 37) (i := 11) (C := "Cursor") (m := "step") (by simp [fnL])
  have b_Cursor_step := a_Cursor_step.binds (ps := ["self", "by"]) fun _ _ _ _ _ _ us hl => match us, hl with | [_, _], _ => rfl
  have m_Cursor_step : Meth K (He.ga K "Cursor") "step" (He.ma K (He.ga K "Cursor") "step") := He.meth_ok (hf (x := .meth "Cursor" "step") (by simp [faL]))
  obtain ⟨d_Cursor_beside, a_Cursor_beside⟩ := atm_of cd (k := 37) (i := 12) (C := "Cursor") (m := "beside") (by simp [fnL])
  have b_Cursor_beside := a_Cursor_beside.binds (ps := ["self", "by"]) fun _ _ _ _ _ _ us hl => match us, hl with | [_, _], _ => rfl
  have m_Cursor_beside : Meth K (He.ga K "Cursor") "beside" (He.ma K (He.ga K "Cursor") "beside") := He.meth_ok (hf (x := .meth "Cursor" "beside") (by simp [faL]))
  obtain ⟨d_Cursor_climb, a_Cursor_climb⟩ := atm_of cd (k := 37) (i := 13) (C := "Cursor") (m := "climb") (by simp [fnL])
  have b_Cursor_climb := a_Cursor_climb.binds (ps := ["self", "by"]) fun _ _ _ _ _ _ us hl => match us, hl with | [_, _], _ => rfl
  have m_Cursor_climb : Meth K (He.ga K "Cursor") "climb" (He.ma K (He.ga K "Cursor") "climb") := He.meth_ok (hf (x := .meth "Cursor" "climb") (by simp [faL]))
  have e := hfa.symm.trans a57.mg_
  cases e
  refine ⟨d57, tfL.map (He.cT K), spLaw K (tfB.map (He.cT K)) , fun p hp => ?_, fun p hp => ?_, fun p hp => ?_, fun s u => ?_, fun H a ns hl _ hT hS => ⟨a, ns, rfl, fun p hp => ⟨_, hT p (subL hp), triples_nil⟩, hS, hl, fun _ => rfl⟩, fun base KB _ TB => ?_⟩
  · obtain ⟨p', hp', rfl⟩ := List.mem_map.mp hp
    exact c.empty p' hp'
  · obtain ⟨p', hp', rfl⟩ := List.mem_map.mp hp
    exact c.out p' hp'
  · obtain ⟨p', hp', rfl⟩ := List.mem_map.mp hp
    exact PySem.W.codeHd_of_K X (c.hd p' hp')
  · obtain ⟨oc, od, kV, doc, pm, an, cdv, ct, osl, e, _, _⟩ := a57.fn.ex
    rw [e]
    exact .of_eq rfl
  have m16 : He.cT K ("is_text_of_signs", none) ∈ tfB.map (He.cT K) := List.mem_map.mpr ⟨_, by simp [tfB], rfl⟩
  have t16 := tab_conv (TB _ (subL m16))
  have m17 : He.cT K ("is_row", none) ∈ tfB.map (He.cT K) := List.mem_map.mpr ⟨_, by simp [tfB], rfl⟩
  have t17 := tab_conv (TB _ (subL m17))
  have m21 : He.cT K ("stretches", none) ∈ tfB.map (He.cT K) := List.mem_map.mpr ⟨_, by simp [tfB], rfl⟩
  have t21 := tab_conv (TB _ (subL m21))
  have m24 : He.cT K ("described", none) ∈ tfB.map (He.cT K) := List.mem_map.mpr ⟨_, by simp [tfB], rfl⟩
  have t24 := tab_conv (TB _ (subL m24))
  have m25 : He.cT K ("stands_right", none) ∈ tfB.map (He.cT K) := List.mem_map.mpr ⟨_, by simp [tfB], rfl⟩
  have t25 := tab_conv (TB _ (subL m25))
  have g40 := ok_begun (P := PySem.Challenge.rw_tabgrow_k14_cursors_go.prog) (w := w) (base := base) (mg := mg) T a40.fn 
  have g41 := ok_take (P := PySem.Challenge.rw_tabgrow_k14_cursors_go.prog) (w := w) (base := base) (mg := mg)  a41.fn 
  have g43 := ok_sign (P := PySem.Challenge.rw_tabgrow_k14_cursors_go.prog) (w := w) (base := base) (mg := mg)  a43.fn g41 a41.kp b41 a41.mg_
  have g44 := ok_cell (P := PySem.Challenge.rw_tabgrow_k14_cursors_go.prog) (w := w) (base := base) (mg := mg) T a44.fn g41 a41.kp b41 a41.mg_ g43 a43.kp b43 a43.mg_
  have g45 := ok_lrow (P := PySem.Challenge.rw_tabgrow_k14_cursors_go.prog) (w := w) (base := base) (mg := mg) T a45.fn g44 a44.kp b44 a44.mg_
  have g46 := ok_lpage (P := PySem.Challenge.rw_tabgrow_k14_cursors_go.prog) (w := w) (base := base) (mg := mg) T a46.fn g41 a41.kp b41 a41.mg_ g45 a45.kp b45 a45.mg_
  have g47 := ok_lstyle (P := PySem.Challenge.rw_tabgrow_k14_cursors_go.prog) (w := w) (base := base) (mg := mg)  a47.fn g41 a41.kp b41 a41.mg_
  have g49 := ok_mates (P := PySem.Challenge.rw_tabgrow_k14_cursors_go.prog) (w := w) (base := base) (mg := mg) T a49.fn 
  have g50 := ok_wide (P := PySem.Challenge.rw_tabgrow_k14_cursors_go.prog) (w := w) (base := base) (mg := mg) T a50.fn g49 a49.kp b49 a49.mg_
  have g52 := ok_ends (P := PySem.Challenge.rw_tabgrow_k14_cursors_go.prog) (w := w) (base := base) (mg := mg) T a52.fn g50 a50.kp b50 a50.mg_
  have g48 := ok_figl (P := PySem.Challenge.rw_tabgrow_k14_cursors_go.prog) (w := w) (base := base) (mg := mg)  a48.fn 
  have g51 := ok_turned (P := PySem.Challenge.rw_tabgrow_k14_cursors_go.prog) (w := w) (base := base) (mg := mg) T a51.fn g49 a49.kp b49 a49.mg_ g48 a48.kp b48 a48.mg_
  have g53 := ok_begins (P := PySem.Challenge.rw_tabgrow_k14_cursors_go.prog) (w := w) (base := base) (mg := mg) T a53.fn g52 a52.kp b52 a52.mg_ g51 a51.kp b51 a51.mg_
  have g42 := ok_alike (P := PySem.Challenge.rw_tabgrow_k14_cursors_go.prog) (w := w) (base := base) (mg := mg) T a42.fn b42 a42.mg_ 4
  have g54 := ok_places9 (P := PySem.Challenge.rw_tabgrow_k14_cursors_go.prog) (w := w) (base := base) (mg := mg) T a54.fn 
  have g55 := ok_gone (P := PySem.Challenge.rw_tabgrow_k14_cursors_go.prog) (w := w) (base := base) (mg := mg) T a55.fn g54 a54.kp b54 a54.mg_
  have g15 := ok_sg (P := PySem.Challenge.rw_tabgrow_k14_cursors_go.prog) (w := w) (base := base) (mg := mg) T N a15.fn 
  have g16 := ok_text (P := PySem.Challenge.rw_tabgrow_k14_cursors_go.prog) (w := w) (base := base) (mg := mg) T a16.fn (code_of a16) t16 m16 g15 a15.kp b15 a15.mg_
  have g17 := ok_isrow (P := PySem.Challenge.rw_tabgrow_k14_cursors_go.prog) (w := w) (base := base) (mg := mg) T N a17.fn (code_of a17) t17 m17 g16 a16.kp b16 a16.mg_
  have gM := ok_misfit (P := PySem.Challenge.rw_tabgrow_k14_cursors_go.prog) (w := w) (base := base) (mg := mg) T N aM.fn g17 a17.kp b17 a17.mg_
  have g18 := ok_check (P := PySem.Challenge.rw_tabgrow_k14_cursors_go.prog) (w := w) (base := base) (mg := mg) T a18.fn gM aM.kp bM aM.mg_
  have g14 := ok_whole (P := PySem.Challenge.rw_tabgrow_k14_cursors_go.prog) (w := w) (base := base) (mg := mg) T a14.fn 
  have g19 := ok_cstyle (P := PySem.Challenge.rw_tabgrow_k14_cursors_go.prog) (w := w) (base := base) (mg := mg) T N a19.fn g14 a14.kp b14 a14.mg_
  have g23 := ok_closed (P := PySem.Challenge.rw_tabgrow_k14_cursors_go.prog) (w := w) (base := base) (mg := mg) T a23.fn 
  have g22 := ok_runs (P := PySem.Challenge.rw_tabgrow_k14_cursors_go.prog) (w := w) (base := base) (mg := mg) (cs := tfB.map (He.cT K)) T a22.fn g23 a23.kp b23 a23.mg_
  have g26 := ok_isfig (P := PySem.Challenge.rw_tabgrow_k14_cursors_go.prog) (w := w) (base := base) (mg := mg)  a26.fn 
  have g25 := ok_right (P := PySem.Challenge.rw_tabgrow_k14_cursors_go.prog) (w := w) (base := base) (mg := mg) T a25.fn (code_of a25) t25 m25 g26 a26.kp b26 a26.mg_
  have g24 := ok_desc (P := PySem.Challenge.rw_tabgrow_k14_cursors_go.prog) (w := w) (base := base) (mg := mg) T a24.fn (code_of a24) t24 m24 g25 a25.kp b25 a25.mg_
  have g21 := ok_str (P := PySem.Challenge.rw_tabgrow_k14_cursors_go.prog) (w := w) (base := base) (mg := mg) T a21.fn (code_of a21) t21 m21 g18 a18.kp b18 a18.mg_ g19 a19.kp b19 a19.mg_ g22 a22.kp b22 a22.mg_ g24 a24.kp b24 a24.mg_
  have g29 := ok_cc (P := PySem.Challenge.rw_tabgrow_k14_cursors_go.prog) (w := w) (base := base) (mg := mg) T a29.fn g21 a21.kp b21 a21.mg_
  have g30 := ok_le (P := PySem.Challenge.rw_tabgrow_k14_cursors_go.prog) (w := w) (base := base) (mg := mg)  a30.fn 
  have g31 := ok_bo (P := PySem.Challenge.rw_tabgrow_k14_cursors_go.prog) (w := w) (base := base) (mg := mg) T a31.fn g30 a30.kp b30 a30.mg_
  have g28 := ok_laid (P := PySem.Challenge.rw_tabgrow_k14_cursors_go.prog) (w := w) (base := base) (mg := mg) hz a28.fn g29 a29.kp b29 a29.mg_ g31 a31.kp b31 a31.mg_
  have g37 := ok_rowspots (P := PySem.Challenge.rw_tabgrow_k14_cursors_go.prog) (w := w) (base := base) (mg := mg) T a37.fn 
  have g38 := ok_pagespots (P := PySem.Challenge.rw_tabgrow_k14_cursors_go.prog) (w := w) (base := base) (mg := mg) T a38.fn g37 a37.kp b37 a37.mg_
  have s_page := ok_shpage (P := PySem.Challenge.rw_tabgrow_k14_cursors_go.prog) (w := w) (base := base) (mg := mg) T Xc a_Sheet_page
  have s_begins := ok_shbegins (P := PySem.Challenge.rw_tabgrow_k14_cursors_go.prog) (w := w) (base := base) (mg := mg) (cs := tfB.map (He.cT K)) Xc a_Sheet_begins g28 a28.kp b28 a28.mg_
  have s_back := ok_shback (P := PySem.Challenge.rw_tabgrow_k14_cursors_go.prog) (w := w) (base := base) (mg := mg) T Xc a_Sheet_back
  have s_init := ok_shinit (P := PySem.Challenge.rw_tabgrow_k14_cursors_go.prog) (w := w) (base := base) (mg := mg) (cs := tfB.map (He.cT K)) T Xc a_Sheet_init g18 a18.kp b18 a18.mg_ g19 a19.kp b19 a19.mg_
  have c_at := ok_at (P := PySem.Challenge.rw_tabgrow_k14_cursors_go.prog) (w := w) (base := base) (mg := mg) Xc a_Cursor_at
  have c_page := ok_cupage (P := PySem.Challenge.rw_tabgrow_k14_cursors_go.prog) (w := w) (base := base) (mg := mg) Xc a_Cursor_page m_Sheet_page s_page b_Sheet_page
  have c_aside := ok_aside (P := PySem.Challenge.rw_tabgrow_k14_cursors_go.prog) (w := w) (base := base) (mg := mg) (cs := tfB.map (He.cT K)) Xc a_Cursor_aside m_Sheet_begins s_begins b_Sheet_begins
  have c_init := ok_cuinit (P := PySem.Challenge.rw_tabgrow_k14_cursors_go.prog) (w := w) (base := base) (mg := mg) (cs := tfB.map (He.cT K)) Xc FT a_Cursor_init mk_Sheet s_init b_Sheet_init gS
  have c_beside := ok_beside (P := PySem.Challenge.rw_tabgrow_k14_cursors_go.prog) (w := w) (base := base) (mg := mg) T Xc a_Cursor_beside m_Sheet_page s_page b_Sheet_page g38 a38.kp b38 a38.mg_
  have c_step := ok_step (P := PySem.Challenge.rw_tabgrow_k14_cursors_go.prog) (w := w) (base := base) (mg := mg) (cs := tfB.map (He.cT K)) Xc a_Cursor_step m_Cursor_beside c_beside b_Cursor_beside
  have c_left := ok_cleft (P := PySem.Challenge.rw_tabgrow_k14_cursors_go.prog) (w := w) (base := base) (mg := mg) (cs := tfB.map (He.cT K)) Xc a_Cursor_left m_Cursor_step c_step b_Cursor_step
  have c_right := ok_cright (P := PySem.Challenge.rw_tabgrow_k14_cursors_go.prog) (w := w) (base := base) (mg := mg) (cs := tfB.map (He.cT K)) Xc a_Cursor_right m_Cursor_step c_step b_Cursor_step
  have c_climb := ok_climb (P := PySem.Challenge.rw_tabgrow_k14_cursors_go.prog) (w := w) (base := base) (mg := mg) (cs := tfB.map (He.cT K)) T Xc a_Cursor_climb m_Sheet_page s_page b_Sheet_page m_Sheet_begins s_begins b_Sheet_begins m_Cursor_aside c_aside b_Cursor_aside g37 a37.kp b37 a37.mg_
  have c_up := ok_up (P := PySem.Challenge.rw_tabgrow_k14_cursors_go.prog) (w := w) (base := base) (mg := mg) (cs := tfB.map (He.cT K)) Xc a_Cursor_up m_Cursor_climb c_climb b_Cursor_climb
  have c_down := ok_down (P := PySem.Challenge.rw_tabgrow_k14_cursors_go.prog) (w := w) (base := base) (mg := mg) (cs := tfB.map (He.cT K)) Xc a_Cursor_down m_Cursor_climb c_climb b_Cursor_climb
  have c_back := ok_cuback (P := PySem.Challenge.rw_tabgrow_k14_cursors_go.prog) (w := w) (base := base) (mg := mg) (cs := tfB.map (He.cT K)) Xc FT a_Cursor_back m_Sheet_back s_back b_Sheet_back
  have g56 := ok_went (P := PySem.Challenge.rw_tabgrow_k14_cursors_go.prog) (w := w) (base := base) (mg := mg) (cs := tfB.map (He.cT K)) Xc a56.fn m_Cursor_left c_left b_Cursor_left m_Cursor_right c_right b_Cursor_right m_Cursor_up c_up b_Cursor_up m_Cursor_down c_down b_Cursor_down
  exact ok_law T Xc a57.fn g40 a40.kp b40 a40.mg_ g41 a41.kp b41 a41.mg_ g46 a46.kp b46 a46.mg_ g47 a47.kp b47 a47.mg_ g53 a53.kp b53 a53.mg_ g42 a42.kp b42 a42.mg_ g55 a55.kp b55 a55.mg_ g56 a56.kp b56 a56.mg_ mk_Cursor c_init b_Cursor_init gC m_Cursor_at c_at b_Cursor_at m_Cursor_aside c_aside b_Cursor_aside m_Cursor_page c_page b_Cursor_page m_Cursor_back c_back b_Cursor_back
end TG

namespace TG
open PySem PySem.Spec PyProof.Rows L2
abbrev R : PySem.W.OpenRow := PySem.W.OpenLaw.row PySem.Challenge.rw_tabgrow_k14_cursors_go
abbrev hk : PySem.W.Hook := He.hookX 4 faL fnL [] tfL exC
def ob (s : PySem.W.SharedT) : He.AlX := He.obsX 4 faL fnL [] tfL exC (HandSHeadRun.getT s)
theorem ob_eq (s : PySem.W.SharedT) : ob s = hk.obs s.abs := He.obsX_eq (HandSHeadRun.getT_eq s)
def loose0 : List Str := [PySem.Str.ofString "_wall", PySem.Str.ofString "GrowError", PySem.Str.ofString "BadPage", PySem.Str.ofString "BadStyle", PySem.Str.ofString "MOST_ROWS", PySem.Str.ofString "MOST_CELLS", PySem.Str.ofString "MOST_SIGNS", PySem.Str.ofString "MOST_GAP", PySem.Str.ofString "MOST_LEAST", PySem.Str.ofString "BLANK", PySem.Str.ofString "TILDE", PySem.Str.ofString "PERCENT", PySem.Str.ofString "is_whole", PySem.Str.ofString "is_sign", PySem.Str.ofString "is_text_of_signs", PySem.Str.ofString "is_row", PySem.Str.ofString "first_misfit", PySem.Str.ofString "check_page", PySem.Str.ofString "check_style", PySem.Str.ofString "stretches"]
def loose1 : List Str := [PySem.Str.ofString "closed_runs", PySem.Str.ofString "is_closed", PySem.Str.ofString "described", PySem.Str.ofString "stands_right", PySem.Str.ofString "is_figures", PySem.Str.ofString "laid", PySem.Str.ofString "closed_cells", PySem.Str.ofString "left_ends", PySem.Str.ofString "begins_of", PySem.Str.ofString "Sheet", PySem.Str.ofString "FIRST", PySem.Str.ofString "Cursor", PySem.Str.ofString "row_spots", PySem.Str.ofString "page_spots", PySem.Str.ofString "_law_begun", PySem.Str.ofString "_law_take", PySem.Str.ofString "_law_alike", PySem.Str.ofString "_law_sign", PySem.Str.ofString "_law_cell", PySem.Str.ofString "_law_row"]
def loose2 : List Str := [PySem.Str.ofString "_law_page", PySem.Str.ofString "_law_style", PySem.Str.ofString "_law_figures", PySem.Str.ofString "_law_mates", PySem.Str.ofString "_law_wide", PySem.Str.ofString "_law_turned", PySem.Str.ofString "_law_ends", PySem.Str.ofString "_law_begins", PySem.Str.ofString "_law_places", PySem.Str.ofString "_law_gone", PySem.Str.ofString "_law_went"]
def looseL : List Str := loose0 ++ loose1 ++ loose2
theorem run (w : World) : HandSHeadRun.RunEq R (PySem.W.view R.prog [58]) hk ob 4000 looseL w := by
  intro os
  kernel_rfl
end TG

open PySem PySem.W PySem.Calls PyProof.Rows
theorem PySem.Challenge.cw_tabgrow_k14_cursors_go_holds : PySem.Challenge.rw_tabgrow_k14_cursors_go.Holds := by
  w_on; o_law
  refine HandSHeadRun.head_any (r := OpenLaw.row PySem.Challenge.rw_tabgrow_k14_cursors_go) (q := view (OpenLaw.row PySem.Challenge.rw_tabgrow_k14_cursors_go).prog [58]) (H := TG.hk) (ob := TG.ob) (M := 4000) (loose := TG.looseL) (d := HandSHeadRun.topDef (OpenLaw.row PySem.Challenge.rw_tabgrow_k14_cursors_go).prog 58) (kwd := []) TG.ob_eq
    (by kernel_rfl) (fun s => by kernel_rfl) TG.run (by kernel_rfl) (by kernel_rfl) (by kernel_rfl) (by rfl) (by first | assumption | decide +kernel) (by decide +kernel) ⟨rfl, rfl, rfl, rfl, rfl, by decide +kernel⟩ ?hw ?hc
  case hw => w_witness2
  case hc =>
    refine LamX.walk_ofTsE (l := PySem.Challenge.rw_tabgrow_k14_cursors_go) (n := 63) (k := 20) (x := "_law_script") (CX := fun _ => L2.CX0) rfl (by decide) (by kernel_rfl) ⟨rfl, by decide, by decide⟩ ?F (fun _ _ _ _ _ z => z)
    intro w mg fa h Y G hmg0
    obtain ⟨K, KX, c⟩ := Y
    have hmg : mg ("law" : PySem.Str) = some (.ref fa) := by
      have e : (HandSHeadRun.topDef (OpenLaw.row PySem.Challenge.rw_tabgrow_k14_cursors_go).prog 58).name = ("law" : PySem.Str) := by kernel_rfl
      rw [← e]
      exact hmg0
    exact ⟨K, KX, TG.facts KX G hmg c⟩

