import PyProof.Rows.All
import Wide.All
import OpenK.AllK
import Wide.FinOn
import HandS.ForMost
import HandS.Exc
import HandS.GenList
import HandS.AnyAll
import HandS.IsInst
import HandS.StrMore
import HandS.Flow
import HandS.TupAny
import HandS.EndTab
import HandS.Walk
import HandS.Lambda
import HandS.Codes
import KE.KIntText
import KE.KxText
import KE.KStateDown
import HandS.Head0
import HandS.Head1
import HandS.Head2
import HandS.HeadEnd
import HandS.HeadHook1
import HandS.HeadHook2
import HandS.HeadHook3
import HandS.HeadHook4
import HandS.HeadWalk
import PyProof.WalkInts
import PyProof.ZipIter
import HandS.Zip
import HandS.Nested
import HandS.GenOver
import KE.KLam
import HandS.Replace
import HandS.ReplaceLit
import HandS.ReplaceDef
import PyProof.ToksMono
import HandS.ReplaceList
import HandS.ExcSuper
import HandS.ExcInit
import KE.KExcSuper
import KE.KSuper
import KE.KSuperObj
import HandS.FStr
import HandS.WordsExc
import HandS.ExcOwn
import PySem.Challenge.RW_tabgrow_k20_strokes
import PyProof.StrOps2
import KE.GoesEnum
import HandS.Iter
import HandS.Wide
import HandS.TupMul
import KE.GoesComp
import KE.GoesMore
import KE.KDictZip
import KE.KTurns
import HandS.TryMany
import HandS.Dict
import HandS.Small
import HandS.Conv
import HandS.More
import HandS.Deep
import HandS.Style
import HandS.ExcIs
import HandS.ExcField
import KE.KExcIs
set_option Elab.async false
set_option linter.all false
set_option maxRecDepth 1000000
set_option maxHeartbeats 20000000
namespace Gx
open PySem PySem.Spec PyProof.Rows L2 GenW
abbrev gE (X : Cx) (sc : Scope) (C : Addr) (code : Value) : Env :=
  genEnv sc (cloFrom X.env.cells sc.names []) C code builtinsNs X.env
/-- the context of the element -/
def gCx (X : Cx) (A : Around) (sc : Scope) (x : Str) (code : Value) (s4 : Shared) (H4 : Hp) (fp : List Addr) : Cx where
  prog := X.prog
  w := X.w
  K := X.K
  mg := X.mg
  base := X.base
  A := A.deeper (gE X sc s4.heap.objs.size code)
  N := [x]
  s_0 := s4
  H_0 := H4
  env := gE X sc s4.heap.objs.size code
  outer := X.stack
  stack := gE X sc s4.heap.objs.size code :: X.stack
  ex := fp
  fn := fun _ => false
  calm := true
  pn := []
  xe := fun _ _ => False
/-- the scope of a generator expression that captures nothing -/
structure GSc (sc : Scope) (x : Str) : Prop where
  kind : sc.kind = .function
  co : sc.isCoroutine = false
  cell : ∀ y ∈ sc.names, y.2 ≠ .cell
  free : ∀ y ∈ sc.names, y.2 ≠ .free
  dot : sc.names.lookup (".0" : Str) = some NameKind.local
  loc : sc.names.lookup x = some .local
section
variable {X : Cx} {pins : List (Addr × Obj)} {σ : L2.St} {H : Hp} {s : Shared} {A : Around} {sc : Scope} {x : Str} {code : Value} {fp : List Addr}
theorem no_cells (S : GSc sc x) (cells : List (Str × Addr)) {y : Str} {c : Addr} (h : (cloFrom cells sc.names []).lookup y = some c) : False := by
  rcases cloFrom_mem (PySem.mem_of_lookup h) with z | ⟨z, _⟩
  · cases z
  · exact S.free _ z rfl
theorem gx_inv (I : Inv X pins σ H s) (S : GSc sc x) (hd : A.handled = none) (hfr : A.frames = some X.stack) (hf : ∀ b ∈ fp, FpOk X pins H b)
    (hlt : ∀ b ∈ fp, b < s.heap.objs.size) {s5 : Shared} {m : Str → Option Value} (os : s5.os = s.os) (bare : AllBare s5.gens)
    (keep : ∀ b o, s.heap.get? b = some o → s5.heap.get? b = some o) (hns : s5.heap.Ns s.heap.objs.size m) :
    Inv (gCx X A sc x code s H fp) [] [none] H s5 := by
  have nc : ∀ {y : Str} {c : Addr}, (gCx X A sc x code s H fp).env.cells.lookup y = some c → False := fun {y c} h => no_cells S _ h
  refine ⟨⟨I.ok.mod, S.kind, I.ok.glob, rfl, Nat.le_refl _, fun y z c e _ => (nc e).elim, fun y hy => ?_, fun y c _ e => (nc e).elim, fun _ => hd,
      Around.frames_deeper hfr, .inr ⟨rfl, rfl⟩, fun b hb => ⟨Nat.ne_of_lt (hlt b hb), fun y c e => (nc e).elim⟩, I.bs, Nat.le_trans I.ok.bsz I.sz,
      fun b o e hb => ?_, fun b hb z => ?_, I.stack, I.stkFree⟩,
    os, bare, Un.kept keep, ⟨m, hns, fun i y v _ e2 _ => ?_⟩, fun y c e => (nc e).elim, I.hok.fresh (Nat.le_refl _), fun y c e => (nc e).elim,
    fun p hp => ?_, I.hok.kept keep, rfl⟩
  · rcases hy with z | z
    · exact absurd rfl (S.cell _ (PySem.mem_of_lookup (show sc.names.lookup y = some .cell from z)))
    · exact absurd rfl (S.free _ (PySem.mem_of_lookup (show sc.names.lookup y = some .free from z)))
  · rcases (hf b hb).2.2.2.1 with z | z
    · exact I.ok.noex b o e z
    · exact absurd (Nat.lt_of_lt_of_le (Heap.lt_size e) (Nat.le_trans I.ok.bsz z)) (Nat.lt_irrefl _)
  · rcases List.mem_cons.mp (I.stkSub b z) with q | q
    · exact (hf b hb).2.1 q
    · exact (hf b hb).2.2.1 q
  · match i, e2 with
    | 0, e2 => cases e2
    | i + 1, e2 => simp at e2
  · exact absurd (show p ∈ ([] : List (Addr × Obj)) from hp) (by simp)
/-- only the generators' states differ -/
theorem regens {s' : Shared} (I : Inv X pins σ H s) (os : s'.os = s.os) (hh : ∀ b o, s.heap.get? b = some o → s'.heap.get? b = some o) (hb : AllBare s'.gens) : Inv X pins σ H s' :=
  I.call' (ch := []) os (Un.kept hh) (I.hok.kept hh) hb fun b z => by simp at z
/-- the consumer's own list, if it has one -/
def Held (So : Option Addr) (Rel : Array Value → Prop) (ps : List (Addr × Obj)) : Prop :=
  match So with
  | none => ps = []
  | some S => ∃ acc c, ps = [(S, lstObj acc c)] ∧ Rel acc
structure Woke (So : Option Addr) (Rel : Array Value → Prop) (s s' : Shared) : Prop where
  os : s'.os = s.os
  bare : AllBare s'.gens
  keep : ∀ b o, So ≠ some b → s.heap.get? b = some o → s'.heap.get? b = some o
  own : ∀ S, So = some S → ∃ acc' c', s'.heap.get? S = some (lstObj acc' c') ∧ Rel acc'
theorem woken {Z : Cx} {q ps : List (Addr × Obj)} {So : Option Addr} {Rel Rel' : Array Value → Prop} {s' : Shared} (I : Inv Z (q ++ ps) σ H s) (hps : Held So Rel ps) (hq : ∀ p ∈ Z.pn ++ q, So ≠ some p.1)
    (hS : ∀ S, So = some S → Z.s_0.heap.objs.size ≤ S ∧ S ≠ Z.env.locals ∧ ∀ y c, Z.env.cells.lookup y = some c → c ≠ S) (k : Woke So Rel' s s') :
    ∃ ps', Held So Rel' ps' ∧ Inv Z (q ++ ps') σ H s' ∧ ∀ p ∈ ps', s'.heap.get? p.1 = some p.2 := by
  cases So with
  | none =>
    have e : ps = [] := hps
    subst e
    exact ⟨[], rfl, regens I k.os (fun b o e => k.keep b o (by simp) e) k.bare, fun p hp => by simp at hp⟩
  | some S =>
    obtain ⟨acc, c, e, _⟩ := hps
    subst e
    obtain ⟨h1, h2, h3, h4, _⟩ := I.pin (S, lstObj acc c) (List.mem_append_right _ (List.mem_append_right _ (List.mem_singleton.mpr rfl)))
    obtain ⟨acc', c', e', hR⟩ := k.own S rfl
    obtain ⟨g1, g2, g3⟩ := hS S rfl
    have I0 : Inv Z q σ H s := I.pins_of fun p hp => I.pin p (List.mem_append_right _ (List.mem_append_left _ hp))
    have nS : ∀ b u, H b = some u → b ≠ S := fun b u e z => by rw [z, h2] at e; cases e
    have kp : ∀ b o, b ≠ S → s.heap.get? b = some o → s'.heap.get? b = some o := fun b o hb e => k.keep b o (fun z => hb (Option.some.inj z).symm) e
    have ni : ∀ b : Addr, b ∉ [S] → b ≠ S := fun b hb e => hb (by rw [e]; exact List.mem_singleton.mpr rfl)
    have J : Inv Z q σ H s' := by
      refine I0.call' (ch := [S]) k.os ⟨fun b o e _ _ hx => kp b o (ni b hx) e, fun b o e _ _ hx => ⟨o.slots, kp b o (ni b hx) e⟩, fun _ _ _ n _ => n, fun b o e hx => ⟨o, kp b o (ni b hx) e⟩,
        fun _ _ e => e, fun _ _ _ e => e, fun _ _ e => ⟨#[], by rw [e]; simp⟩⟩ (fun b u e => ?_) k.bare fun b hb => ?_
      · refine (I0.hok b u e).stay (fun d v hd z => kp d v ?_ z) (fun _ z => z) fun _ _ z => z
        rcases hd with z | z
        · rw [z]; exact nS b u e
        · exact nS d _ z
      · have eb : b = S := List.mem_singleton.mp hb
        subst eb
        exact ⟨.inr g1, g2, g3, fun p hp z => hq p hp (by rw [z])⟩
    refine ⟨[(S, lstObj acc' c')], ⟨acc', c', rfl, hR⟩, J.pins_of fun p hp => ?_, fun p hp => by rw [List.mem_singleton.mp hp]; exact e'⟩
    rcases List.mem_append.mp hp with z | z
    · exact J.pin p (List.mem_append_right _ z)
    · rw [List.mem_singleton.mp z]
      exact ⟨e', h2, h3, h4, fun v z => by cases z⟩
abbrev WT := Nat → List V → Hp → Prop
/-- an item is handed out -/
def GYx (Z : Cx) (q : List (Addr × Obj)) (So : Option Addr) (Rel : List V → Array Value → Prop) (W : WT) (Ny : Nat → List V → V → Hp → Prop) : Protocol := fun n s₀ v s1 kap =>
  ∃ m ys y σ H ps, m < n + 1 ∧ RelV y v ∧ Held So (Rel ys) ps ∧ (∀ p ∈ ps, s₀.heap.get? p.1 = some p.2) ∧ Inv Z (q ++ ps) σ H s1 ∧ Ny m ys y H ∧ ∀ s', Woke So (Rel (ys ++ [y])) s1 s' → ∀ m', m' < m → W m' (ys ++ [y]) H → kap (.send .none) s'
def GFx (Z : Cx) (q : List (Addr × Obj)) (So : Option Addr) (Rel : List V → Array Value → Prop) (Ns : List V → Hp → Prop) (s₀ s1 : Shared) : Prop :=
  ∃ ys σ H ps, Held So (Rel ys) ps ∧ (∀ p ∈ ps, s₀.heap.get? p.1 = some p.2) ∧ Inv Z (q ++ ps) σ H s1 ∧ Ns ys H
abbrev GRx (Z : Cx) (q : List (Addr × Obj)) (So : Option Addr) (Rel : List V → Array Value → Prop) (Ns : List V → Hp → Prop) : GenEnd := fun n s₀ r s₁ =>
  ((r = .ok (.ret .none) ∨ r = .ok .next) ∧ (fun (_ : Nat) (t : Shared) s => GFx Z q So Rel Ns t s) n s₀ s₁) ∨ ∃ e, r = .error e ∧ (fun (_ : Value) (_ : Shared) => False) e s₁
theorem seg_turns {elt iter : Expr} {px : Pos} {pos : Pos} {it : Addr} {J : It} {tn : Nat → Heap → Prop} {te : TE} {W : WT} {Ny : Nat → List V → V → Hp → Prop} {Ns : List V → Hp → Prop} {s4 : Shared} {H4 : Hp}
    {q : List (Addr × Obj)} {So : Option Addr} {Rel : List V → Array Value → Prop}
    (S : GSc sc x) (T : Turn X.prog X.w X.K (.Name x px) J fp it tn)
    (stat : ∀ b ∈ fp, b ≠ s4.heap.objs.size ∧ b ∉ frs X.stack ∧ (∀ p ∈ q, p.1 ≠ b) ∧ So ≠ some b)
    (hq : ∀ p ∈ q, So ≠ some p.1) (hS : ∀ S', So = some S' → s4.heap.objs.size < S')
    (he : PE (gCx X A sc x code s4 H4 fp) elt te)
    (step : ∀ m ys H, W m ys H → (J.stop ys.length H ∧ Ns ys H) ∨ (J.go ys.length H ∧ ∀ v H', J.yld ys.length H v H' → te [some v] H' (Ny m ys))) :
    ∀ (n m : Nat) (ys : List V) (s₀ s : Shared) (σ : L2.St) (H : Hp) (ps : List (Addr × Obj)), m < n → Held So (Rel ys) ps → (∀ p ∈ ps, s₀.heap.get? p.1 = some p.2) → W m ys H → Inv (gCx X A sc x code s4 H4 fp) (q ++ ps) σ H s → tn ys.length s.heap → (∀ b ∈ fp, H b = none) →
      Seg (model X.prog X.w) A (GRx (gCx X A sc x code s4 H4 fp) q So Rel Ns) (GYx (gCx X A sc x code s4 H4 fp) q So Rel W Ny) n s₀
        (.compLoop (.GeneratorExp elt [⟨.Name x px, iter, [], 0⟩] sc pos) 0 (.ref it) .none (gE X sc s4.heap.objs.size code))
        ((model X.prog X.w).den (.compLoop (.GeneratorExp elt [⟨.Name x px, iter, [], 0⟩] sc pos) 0 (.ref it) .none (gE X sc s4.heap.objs.size code))) [] s := by
  have nc : ∀ {y : Str} {c : Addr}, (gCx X A sc x code s4 H4 fp).env.cells.lookup y = some c → False := fun {y c} h => no_cells S _ h
  intro n
  induction n with
  | zero => intro m _ _ _ _ _ _ hm; exact absurd hm (Nat.not_lt_zero _)
  | succ n ih =>
    intro m ys s₀ s σ H ps hm hps hs0 hW I htn hfn
    have fok : ∀ {H' : Hp}, (∀ b ∈ fp, H' b = none) → ∀ b ∈ fp, FpOk (gCx X A sc x code s4 H4 fp) (q ++ ps) H' b := fun {H'} hn b hb => by
      obtain ⟨a1, a2, a3, a4⟩ := stat b hb
      refine ⟨hn b hb, a1, a2, .inl hb, fun y c e => (nc e).elim, fun p hp => ?_⟩
      rcases List.mem_append.mp (show p ∈ q ++ ps from hp) with z | z
      · exact a3 p z
      · cases So with
        | none =>
          have e : ps = [] := hps
          rw [e] at z
          simp at z
        | some S' =>
          obtain ⟨acc, c, e, _⟩ := hps
          rw [e] at z
          rw [List.mem_singleton.mp z]
          exact fun w => a4 (by rw [← w])
    show Seg _ A _ _ _ s₀ _ ((compTurn (.GeneratorExp elt [⟨.Name x px, iter, [], 0⟩] sc pos) 0 (.ref it) .none (gE X sc s4.heap.objs.size code)).onRaise (leaving (gE X sc s4.heap.objs.size code))) [] s
    rw [compTurn_gen, Sem.onRaise_eq_wrap]
    refine seg_bind_wrap (wpAny_standAt ?_)
    rcases step m ys H hW with ⟨stop, qn⟩ | ⟨go, st⟩
    · refine seg_bind_wrap (thn (T.done (gCx X A sc x code s4 H4 fp) rfl rfl rfl rfl ys.length (q ++ ps) s σ H _ I (fok hfn) htn stop) fun r s5 ⟨hr, I5⟩ => ?_)
      subst hr
      exact seg_end (.ok .next) (.inl ⟨.inr rfl, ys, σ, H, ps, hps, hs0, I5, qn⟩)
    · refine seg_bind_wrap (thn (T.item (gCx X A sc x code s4 H4 fp) rfl rfl rfl rfl ys.length (q ++ ps) s σ H _ I (fok hfn) htn go) fun r s5 ⟨u, hr, h5⟩ => ?_)
      subst hr
      refine seg_bind_wrap (thn h5 fun _ s6 ⟨v, H6, I6, r6, y6, tn6, fn6⟩ => ?_)
      have I6' := I6.pinned (fok fn6) (T.obj _ _ tn6)
      have pg : PG (gCx X A sc x code s4 H4 fp) (.Name x px) (gName 0) := pg_name (i := 0) (List.nodup_cons.mpr ⟨by simp, List.nodup_nil⟩) rfl (.inl S.loc) (.inr S.loc)
      have eσ : σ.set 0 (some v) = [some v] := by
        have hl : σ.length = 1 := I.len
        match σ, hl with
        | [_], _ => rfl
      refine seg_bind_wrap (wpAny_mono (pg.run _ s6 σ H6 v u (fun σ' H' => σ' = [some v] ∧ H' = H6) I6' r6 ⟨eσ, rfl⟩) (fun _ s7 h7 => ?_) fun _ _ z => z.elim)
      obtain ⟨σ7, H7, I7, eσ7, eH7⟩ := h7
      subst eσ7 eH7
      simp only [List.forIn_nil]
      refine seg_bind_wrap (wpAny_pure ?_)
      simp only [if_true]
      have hy : ∀ v, yieldOut (gE X sc s4.heap.objs.size code) v = yieldValue v := fun v => by
        simp only [yieldOut, show (gE X sc s4.heap.objs.size code).scope.isCoroutine = false from S.co, Bool.false_eq_true, if_false]
      simp only [hy]
      rw [Sem.bind_eq_wrap', Sem.bind_eq_wrap', Sem.wrap_wrap, Sem.wrap_wrap]
      refine seg_wrap (wpAny_mono (he.run _ s7 [some v] H7 _ I7 (st v H7 y6)) (fun w s8 h8 => ?_) fun _ _ z => z.elim)
      obtain ⟨y, H8, I8, r8, ny⟩ := h8
      have fn8 : ∀ b ∈ fp, H8 b = none := fun b hb => by
        obtain ⟨o, e, d⟩ := T.obj _ _ tn6 b hb
        exact (I8.pin (b, o) (List.mem_append_right _ (List.mem_append_right _ (mem_pinsAt hb e)))).2.1
      have tn8 : tn (ys.length + 1) s8.heap := T.keep _ _ _ tn6 fun b hb o e => (I8.pin (b, o) (List.mem_append_right _ (List.mem_append_right _ (mem_pinsAt hb e)))).1
      refine seg_at (seg_yield rfl rfl rfl ⟨m, ys, y, [some v], H8, ps, hm, r8, hps, hs0, I8.unpinned, ny, fun s9 wk m' hm' w' => ?_⟩)
      obtain ⟨ps', hps', I9, e9⟩ := woken I8.unpinned hps (fun p hp => hq p hp) (fun S' e => ⟨Nat.le_of_lt (hS S' e), Nat.ne_of_gt (hS S' e), fun y c e => (nc e).elim⟩) wk
      refine seg_again rfl (ih m' (ys ++ [y]) s9 s9 [some v] H8 ps' (by omega) hps' e9 w' I9 ?_ fn8)
      rw [List.length_append, List.length_singleton]
      exact T.keep _ _ _ tn8 fun b hb o e => wk.keep b o (stat b hb).2.2.2 e
end
end Gx
namespace Gx
open PySem PySem.Spec PyProof.Rows L2 GenW
section
variable {X : Cx} {pins : List (Addr × Obj)} {σ : L2.St} {H : Hp} {s : Shared} {sc : Scope} {x : Str}
theorem seg_begin {A : Around} {elt iter : Expr} {px pos : Pos} {it : Addr} {J : It} {fp : List Addr} {tn : Nat → Heap → Prop} {cenv : Env} {R : GenEnd} {Y : Protocol} {n : Nat} {s₀ : Shared}
    (T : Turn X.prog X.w X.K (.Name x px) J fp it tn) (ht : tn 0 s.heap)
    (loop : Seg (model X.prog X.w) A R Y n s₀ (.compLoop (.GeneratorExp elt [⟨.Name x px, iter, [], 0⟩] sc pos) 0 (.ref it) .none cenv) ((model X.prog X.w).den (.compLoop (.GeneratorExp elt [⟨.Name x px, iter, [], 0⟩] sc pos) 0 (.ref it) .none cenv)) [] s) :
    Seg (model X.prog X.w) A R Y n s₀ (.compStart (.GeneratorExp elt [⟨.Name x px, iter, [], 0⟩] sc pos) 0 (.ref it) .none cenv) ((model X.prog X.w).den (.compStart (.GeneratorExp elt [⟨.Name x px, iter, [], 0⟩] sc pos) 0 (.ref it) .none cenv)) [] s := by
  show Seg _ A R Y n s₀ _ ((compStart (.GeneratorExp elt [⟨.Name x px, iter, [], 0⟩] sc pos) 0 (.ref it) .none cenv).onRaise (leaving cenv)) [] s
  unfold compStart
  rw [Sem.onRaise_eq_wrap]
  show Seg _ A R Y n s₀ _ ((ask >>= _).wrap _ _ _ _) [] s
  refine seg_bind_wrap (wpAny_askSetting ?_)
  split
  · exact seg_again rfl loop
  · first
      | exact seg_bind_wrap (wpAny_rule (seg_bind_wrap (wpAny_standAt (seg_bind_wrap (T.self _ 0 s _ _ ht (seg_again rfl loop))))))
      | (refine seg_bind_wrap (wpAny_rule ?_); show Seg _ A R Y n s₀ _ ((standAt iter.pos >>= _).wrap _ _ _ _) [] s; exact seg_bind_wrap (wpAny_standAt (seg_bind_wrap (T.self _ 0 s _ _ ht (seg_again rfl loop)))))
/-- the reading of a generator expression: W the state between two turns, by a measure, what was handed out, the heap -/
def tGen (P : Addr) (wi : TI) (te : TE) (NyOf : WT → Nat → List V → V → Hp → Prop) (Ns : List V → Hp → Prop) : L2.St → Hp → Prop := fun σ H =>
  wi σ H fun J H1 => GxR.TabG H1 P ∧ ∀ H2, GxR.Tabbed P H1 H2 → ∃ W : WT, (∃ m, W m [] H2) ∧ ∀ m ys H, W m ys H →
    (J.stop ys.length H ∧ Ns ys H) ∨ (J.go ys.length H ∧ ∀ v H', J.yld ys.length H v H' → te [some v] H' (NyOf W m ys))
theorem code_step {A : Around} {E : Value → Shared → Prop} {Q : Value → Shared → Prop} {c P : Addr} {gpos : Pos} (I : Inv X pins σ H s) (TB : GxR.TabB X.base X.mg c P) (hcode : X.env.code = .ref c) (hT : GxR.TabG H P)
    (h : ∀ (code : Value) (H3 : Hp) (s3 : Shared), GxR.Tabbed P H H3 → Inv X pins σ H3 s3 → (∀ b o, b ≠ P → s.heap.get? b = some o → s3.heap.get? b = some o) → Q code s3) :
    wpAny (model X.prog X.w) A (genexprCode X.env gpos (X.env.qual ++ "<genexpr>") sc) Q E s := by
  obtain ⟨ps, hP, ht⟩ := id hT
  have hPs : s.heap.get? P = some { cls := .none, data := .fields ps } := I.hok P _ hP
  have cd : PySem.W.CodeHd s.heap c P := TB.code.keeps I.bk
  cases hf : codeAmong gpos ps.toList with
  | none =>
    refine wpAny_genexprCodeX hcode (cd.code hPs ht) (cd.tab hPs) hf fun c' h' tk hx hge hlt hco' _ htab' _ => ?_
    obtain ⟨o1, vs, f1, tf, fl, tg, inF, tx, tt, op, _, _, _, _, _, _, _, _, _, htr, _⟩ := hco'
    have J := GxR.inv_tab (t' := tk) (g' := s.gens) (d' := s.drawn) I hP (fun b o hb e => hx b o hb e) htab'.2 I.bare
    exact h _ _ _ ⟨⟨_, upd_same, htr⟩, fun b hb => upd_ne hb⟩ J fun b o hb e => hx b o hb e
  | some cv =>
    refine wpAny_genexprCode_hit hcode (cd.code hPs ht) hf ?_
    exact h _ H s ⟨hT, fun _ _ => rfl⟩ I fun _ _ _ e => e
end
end Gx
namespace Gx
open PySem PySem.Spec PyProof.Rows L2 GenW
section
variable {X : Cx} {pins : List (Addr × Obj)} {σ : L2.St} {H : Hp} {s : Shared} {sc : Scope} {x : Str}
/-- a generator that has not begun, at a in s5 -/
def Begun1 (X : Cx) (pins : List (Addr × Obj)) (σ : L2.St) (k : Nat) (Rel : List V → Array Value → Prop) (NyOf : WT → Nat → List V → V → Hp → Prop) (Ns : List V → Hp → Prop) (a : Addr) (s5 : Shared) : Prop :=
  ∃ (g : Nat) (c : Code) (H4 : Hp), s5.heap.IsGen a g ∧ s5.gens[g]? = some (.fresh c) ∧ Inv X pins σ H4 s5 ∧ a < s5.heap.objs.size ∧
    ∀ (A : Around) (So : Option Addr) (s6 : Shared), Room (k + 1) A → A.frames = some X.stack → (∀ S, So = some S → s5.heap.objs.size ≤ S ∧ ∃ acc c, s6.heap.get? S = some (lstObj acc c) ∧ Rel [] acc) →
      (∀ b o, s5.heap.get? b = some o → s6.heap.get? b = some o) → s6.os = s5.os → AllBare s6.gens →
      ∃ (Z : Cx) (q : List (Addr × Obj)) (W : WT) (m0 : Nat),
        (∀ ps σz Hz s7, Inv Z (q ++ ps) σz Hz s7 → Inv X pins σ Hz s7 ∧ s7.heap.IsGen a g) ∧
        Seg (model X.prog X.w) A (GRx Z q So Rel Ns) (GYx Z q So Rel W (NyOf W)) (m0 + 1) s6 c ((model X.prog X.w).den c) [] s6
theorem gx_make {elt iter : Expr} {px gpos : Pos} {c P : Addr} {wi : TI} {te : TE} {k j : Nat} {Rel : List V → Array Value → Prop} {NyOf : WT → Nat → List V → V → Hp → Prop} {Ns : List V → Hp → Prop} {Q' : Value → Shared → Prop}
    (hr : Room j X.A) (TB : GxR.TabB X.base X.mg c P) (hcode : X.env.code = .ref c) (S : GSc sc x) (hi : PI X (.Name x px) iter wi)
    (he : ∀ (A : Around) (code : Value) (s4 : Shared) (H4 : Hp) (fp : List Addr), Room k (A.deeper (gE X sc s4.heap.objs.size code)) → PE (gCx X A sc x code s4 H4 fp) elt te)
    (hs : ∀ v, genFold iter X.env v = pure v) (I : Inv X pins σ H s) (h : tGen P wi te NyOf Ns σ H)
    (hQ : ∀ a s5, Begun1 X pins σ k Rel NyOf Ns a s5 → Q' (.ref a) s5) :
    wpAny (model X.prog X.w) X.A (eval (.GeneratorExp elt [⟨.Name x px, iter, [], 0⟩] sc gpos) X.env) Q' X.xe s := by
  refine wpAny_GeneratorExp_make S.co (closure_ok fun y hy z => absurd z (S.free y hy)) S.cell S.dot S.kind hr.depth ?_ hs
  refine thn (hi.run pins s σ H _ I h) fun xv s1 h1 => thn h1 fun itv s2 h2 => ?_
  obtain ⟨it, fp, tn, J, H2, e, I2, T, st2, f2, hT, hW⟩ := h2
  subst e
  refine ⟨I2.nolimit, code_step I2 TB hcode hT fun code H3 s3 hTb I3 kp3 => ?_⟩
  obtain ⟨bm, ob, e1, e2, e3, e4, e5, e6, e7, e8⟩ := TB.bm
  refine wpAny_builtinsFor (m := X.mg) (by rw [I3.ok.glob]; exact I3.mod.glob.keeps I3.bk) e1 e2 (I3.bk _ _ e5) e6 e7 e8 fun h' hn' hs' => ?_
  obtain ⟨W, ⟨m0, w0⟩, step⟩ := hW H3 hTb
  have hTP : H2 P ≠ none := by
    obtain ⟨ps, z, _⟩ := hT
    rw [z]; exact fun q => nomatch q
  have nP : ∀ b ∈ fp, b ≠ P := fun b hb z => hTP (by rw [← z]; exact (f2 b hb).1)
  have f3 : ∀ b ∈ fp, FpOk X pins H3 b := fun b hb => ⟨(hTb.2 b (nP b hb)).trans (f2 b hb).1, (f2 b hb).2⟩
  have tn3 : tn 0 s3.heap := T.keep _ _ _ st2 fun b hb o q => kp3 b o (nP b hb) q
  have lt3 : ∀ b ∈ fp, b < s3.heap.objs.size := fun b hb => by
    obtain ⟨o, q, _⟩ := T.obj _ _ tn3 b hb
    exact Heap.lt_size q
  have hsz : h'.objs.size = s3.heap.objs.size + 1 := by rw [hs'.1, Heap.size_push]
  have kp' : ∀ b o, s3.heap.get? b = some o → h'.get? b = some o := fun b o q => hs'.extBut b o (Nat.ne_of_lt (Heap.lt_size q)) (Heap.get?_push_of_some _ q)
  refine hQ _ _ ⟨s3.gens.size, _, H3, ⟨_, _, _, Heap.get?_push_size _ rfl, rfl, rfl, rfl⟩, Array.getElem?_push_size .., ?_, ?_, fun A So s6 hrA hfr hSo kp6 os6 b6 => ?_⟩
  · exact regens I3 rfl (fun b o q => Heap.get?_push_of_some _ (kp' b o q)) (AllBare.push I3.bare rfl)
  · show h'.objs.size < (h'.push _).objs.size
    rw [Heap.size_push]; exact Nat.lt_succ_self _
  · have kp36 : ∀ b o, s3.heap.get? b = some o → s6.heap.get? b = some o := fun b o q => kp6 b o (Heap.get?_push_of_some _ (kp' b o q))
    have hns6 : s6.heap.Ns s3.heap.objs.size (fun y => if y = ".0" then some (.ref it) else none) := by
      obtain ⟨o, es, ep, ho, r⟩ := hn'
      exact ⟨o, es, ep, kp6 _ _ (Heap.get?_push_of_some _ ho), r⟩
    have IZ := gx_inv (code := code) (A := A) I3 S hrA.hd hfr f3 lt3 (s5 := s6) os6 b6 kp36 hns6
    have big : ∀ b, s3.heap.objs.size < b → H3 b = none ∧ b ≠ s3.heap.objs.size ∧ b ∉ frs X.stack := fun b hb => by
      refine ⟨I3.hok.fresh (Nat.le_of_lt hb), Nat.ne_of_gt hb, fun z => ?_⟩
      rcases List.mem_cons.mp (I3.stkSub b z) with w | w
      · exact absurd (Nat.lt_trans (by rw [w]; exact I3.lt) hb) (Nat.lt_irrefl _)
      · exact I3.nofs (Nat.le_of_lt hb) w
    have ha : s3.heap.objs.size < h'.objs.size := by rw [hsz]; exact Nat.lt_succ_self _
    have hga := kp6 h'.objs.size _ (Heap.get?_push_size _ rfl)
    have hSb : ∀ S', So = some S' → h'.objs.size < S' := fun S' z => by
      have q := (hSo S' z).1
      have q' : (h'.push _).objs.size ≤ S' := q
      rw [Heap.size_push] at q'
      exact q'
    obtain ⟨ps, hps, IZ2⟩ : ∃ ps, Held So (Rel []) ps ∧ Inv (gCx X A sc x code s3 H3 fp) ([(h'.objs.size, _)] ++ ps) [none] H3 s6 := by
      cases So with
      | none =>
        refine ⟨[], rfl, IZ.pins_of fun p hp => ?_⟩
        rw [List.append_nil] at hp
        rw [List.mem_singleton.mp hp]
        obtain ⟨b1, b2, b3⟩ := big _ ha
        exact ⟨hga, b1, b2, b3, fun v z => by cases z⟩
      | some S' =>
        obtain ⟨_, acc, cc, q2, hR⟩ := hSo S' rfl
        refine ⟨[(S', lstObj acc cc)], ⟨acc, cc, rfl, hR⟩, IZ.pins_of fun p hp => ?_⟩
        rcases List.mem_append.mp hp with z | z
        · rw [List.mem_singleton.mp z]
          obtain ⟨b1, b2, b3⟩ := big _ ha
          exact ⟨hga, b1, b2, b3, fun v z => by cases z⟩
        · rw [List.mem_singleton.mp z]
          obtain ⟨b1, b2, b3⟩ := big _ (Nat.lt_trans ha (hSb S' rfl))
          exact ⟨q2, b1, b2, b3, fun v z => by cases z⟩
    have hSne : ∀ b, b ≤ h'.objs.size → So ≠ some b := fun b hb z => absurd (Nat.lt_of_lt_of_le (hSb b z) hb) (Nat.lt_irrefl _)
    refine ⟨gCx X A sc x code s3 H3 fp, [(h'.objs.size, { cls := .type "generator", data := .fields #[.int s3.gens.size 0, .str "<genexpr>" (s3.toks + 1), .str (X.env.qual ++ "<genexpr>") (s3.toks + 1 + 1)] })], W, m0, fun ps σz Hz s7 J7 => ⟨?_, ?_⟩, ?_⟩
    · refine I3.call' (ch := fp) J7.os J7.base J7.hok J7.bare fun b hb => ?_
      obtain ⟨_, a2, _, a4, a5, a6⟩ := f3 b hb
      exact ⟨a4, a2, a5, a6⟩
    · exact ⟨_, _, _, (J7.pin _ (List.mem_append_right _ (List.mem_append_left _ (List.mem_singleton.mpr rfl)))).1, rfl, rfl, rfl⟩
    · refine seg_begin T (T.keep _ _ _ tn3 fun b hb o q => kp36 b o q) ?_
      refine seg_turns S T (fun b hb => ⟨Nat.ne_of_lt (lt3 b hb), fun z => ?_, fun p hp z => ?_, hSne b (Nat.le_of_lt (Nat.lt_trans (lt3 b hb) ha))⟩) (fun p hp => ?_) (fun S' z => Nat.lt_trans ha (hSb S' z)) (he A code s3 H3 fp (hrA.deeper _)) step
        (m0 + 1) m0 [] s6 s6 [none] H3 ps (Nat.lt_succ_self _) hps (fun p hp => (IZ2.pin p (List.mem_append_right _ (List.mem_append_right _ hp))).1) w0 IZ2 (T.keep _ _ _ tn3 fun b hb o q => kp36 b o q) fun b hb => (f3 b hb).1
      · rcases List.mem_cons.mp (I3.stkSub b z) with w | w
        · exact (f3 b hb).2.1 w
        · exact (f3 b hb).2.2.1 w
      · rw [List.mem_singleton.mp hp] at z
        have q : h'.objs.size = b := z
        exact absurd (Nat.lt_trans (lt3 b hb) ha) (by rw [q]; exact Nat.lt_irrefl _)
      · rw [List.mem_singleton.mp hp]
        exact hSne _ (Nat.le_refl _)
end
end Gx
namespace Gx
open PySem PySem.Spec PyProof.Rows L2 GenW
section
variable {X : Cx} {pins : List (Addr × Obj)} {σ : L2.St} {H : Hp} {s : Shared} {sc : Scope} {x : Str}
def NyAll (Qb : Bool → Hp → Prop) (W : WT) : Nat → List V → V → Hp → Prop := fun m ys y H => ∃ b : Bool, y = .bl b ∧ if b = true then ∃ m', m' < m ∧ W m' (ys ++ [y]) H else Qb false H
abbrev noRel : List V → Array Value → Prop := fun _ _ => True
theorem all_turns {Z : Cx} {q : List (Addr × Obj)} {W : WT} {Qb : Bool → Hp → Prop} {A : Around} {a : Addr} {g : Nat} {Rr : Result → Shared → Prop} (hh : A.handled = none) (hd : A.depth < recursionLimit)
    (fin : ∀ ps σz Hz s7, Inv Z (q ++ ps) σz Hz s7 → Inv X pins σ Hz s7 ∧ s7.heap.IsGen a g)
    (hdone : ∀ b H' s', Inv X pins σ H' s' → Qb b H' → Rr (.ok (.ret (.bool b))) s') :
    ∀ (n : Nat) (s : Shared), s.heap.IsGen a g → s.heap.NoLimit →
      (∃ gs, s.gens[g]? = some gs ∧ gs.Goes (model X.prog X.w) A.in1.in1 (GRx Z q none noRel fun _ => Qb true) (GYx Z q none noRel W (NyAll Qb W)) n (.send .none) (s.setGen g .running)) →
      codeAny (model X.prog X.w) A (.builtin "all.loop" ⟨[.ref a], []⟩) Rr s := by
  intro n
  induction n using Nat.strongRecOn with
  | ind n ih =>
    intro s hg hl ⟨gs, hgs, hgo⟩
    have hgl : g < s.gens.size := (Array.getElem?_eq_some_iff.mp hgs).1
    refine codeAny_builtin F.entry_all_loop ?_; rw [Around.under_plainId F.plain_all_loop _]
    show wpAny _ A.in1 (pyNext (.ref a) >>= _) _ _ s
    refine wpAny_bind (wpAny_gsz (n := g + 1) hgl (next_genG (A := A.in1) hh hl hd hg hgs hgo (fun v s₁ gs' hbare hv => ?_) (fun s₁ hp h' hk => ?_) fun e s₁ he => he.elim))
    · intro hsz
      obtain ⟨m, ys, y, σz, Hz, ps, hm, rv, hps, _, J, ⟨b, eb, hb⟩, hkap⟩ := hv
      subst eb
      have eps : ps = [] := hps
      subst eps
      have ev : v = Value.bool b := rv
      subst ev
      obtain ⟨I1, g1⟩ := fin _ _ _ _ J
      have hsz1 : g < s₁.gens.size := by
        have q1 : (s₁.setGen g gs').gens.size = s₁.gens.size := setGen_size _ _ _
        have q2 : g + 1 ≤ (s₁.setGen g gs').gens.size := hsz
        omega
      have bare2 : AllBare (s₁.setGen g gs').gens := allBare_setGen I1.bare hbare
      refine wpAny_bind (wpAny_holding (wpAny_truthy_bool ?_))
      refine wpAny_bind (wpAny_letGo ?_)
      cases b with
      | true =>
        obtain ⟨m', hm', hw⟩ : ∃ m', m' < m ∧ W m' (ys ++ [V.bl true]) Hz := by simpa using hb
        simp only [if_true]
        cases n with
        | zero => omega
        | succ n =>
          refine wpAny_pure ⟨plainId_quiet F.plain_all_loop _, ih n (Nat.lt_succ_self n) (s₁.setGen g gs') g1 I1.nolimit ⟨gs', setGen_at hsz1, ?_⟩⟩
          exact hkap ((s₁.setGen g gs').setGen g .running) ⟨rfl, allBare_setGen bare2 rfl, fun b o _ e => e, fun S z => by cases z⟩ m' hm' hw
      | false =>
        have hq : Qb false Hz := by simpa using hb
        simp only [Bool.false_eq_true, if_false]
        exact wpAny_bind (wpAny_rule (wpAny_pure (hdone false Hz _ (regens I1 rfl (fun _ _ e => e) bare2) hq)))
    · intro hsz
      obtain ⟨ys, σz, Hz, ps, hps, _, J, hq⟩ := hp
      have eps : ps = [] := hps
      subst eps
      obtain ⟨I1, g1⟩ := fin _ _ _ _ J
      exact wpAny_bind (wpAny_rule (wpAny_pure (hdone true Hz _ (regens I1 rfl (fun b o e => hk b o e) (allBare_setGen I1.bare rfl)) hq)))
/-- all(elt for x in iter) -/
def tAllG (P : Addr) (wi : TI) (te : TE) : TE := fun σ H Q => tGen P wi te (NyAll fun b H => Q (.bl b) H) (fun _ H => Q (.bl true) H) σ H
theorem pe_allG {elt iter : Expr} {px p pos gpos : Pos} {c P : Addr} {wi : TI} {te : TE} {k : Nat}
    (hr : Room (k + 3) X.A) (hg : Gl X "all") (hm : X.mg "all" = none) (TB : GxR.TabB X.base X.mg c P) (hcode : X.env.code = .ref c) (S : GSc sc x) (hi : PI X (.Name x px) iter wi)
    (he : ∀ (A : Around) (code : Value) (s4 : Shared) (H4 : Hp) (fp : List Addr), Room k (A.deeper (gE X sc s4.heap.objs.size code)) → PE (gCx X A sc x code s4 H4 fp) elt te)
    (hs : ∀ v, genFold iter X.env v = pure v)
    (hst : starEach [.GeneratorExp elt [⟨.Name x px, iter, [], 0⟩] sc gpos] X.env = (false, eval (.GeneratorExp elt [⟨.Name x px, iter, [], 0⟩] sc gpos) X.env) :: starEach [] X.env := by rfl) :
    PE X (.Call (.Name "all" p) [.GeneratorExp elt [⟨.Name x px, iter, [], 0⟩] sc gpos] [] pos) (tAllG P wi te) := by
  refine ⟨fun pins s σ H Q I h => ?_⟩
  have hb : bootBuiltins "all" = some (.builtin "all") := by decide +kernel
  refine wpAny_Call_Name_kw (ld_blt I hg hm hb (PyProof.Rows.callWith_builtin1 ?_ hst (by rfl)))
  rw [hst]
  show wpAny _ _ (spliced ((false, eval (.GeneratorExp elt [⟨.Name x px, iter, [], 0⟩] sc gpos) X.env) :: backTo pos (starEach [] X.env))) _ _ s
  refine Calls.spliced_cons (gx_make (k := k) (Rel := noRel) hr TB hcode S hi he hs I h fun a s5 hB => Calls.spliced_nil ?_)
  obtain ⟨g, cd, H4, hgen, hfresh, I5, ha, wake⟩ := hB
  refine call_function_tree F.kind_all F.plain_all F.entry_all (F.args_all1 _) ?_
  unfold Builtin.«all»
  refine wpAny_bind (m := oneArg "all" _) (wpAny_pure (wpAny_bind (wpAny_pyIter_gen hgen ?_)))
  obtain ⟨Z, q, W, m0, fin, seg⟩ := wake X.A.in1.in1 none (s5.setGen g .running) ((hr.mono (by omega : k + 1 + 1 + 1 ≤ k + 3)).in1.in1) I.ok.frames (fun S z => by cases z) (fun _ _ e => e) rfl (allBare_setGen I5.bare rfl)
  refine wpAny_pure ⟨plainId_quiet F.plain_all_loop _, all_turns (Qb := fun b H => Q (.bl b) H) hr.hd hr.depth fin (fun b H' s' I' hq => ?_) (m0 + 1) s5 hgen I5.nolimit ⟨_, hfresh, rfl, seg⟩⟩
  exact ⟨.bl b, H', I', rfl, hq⟩
end
end Gx
namespace Gx
open PySem PySem.Spec PyProof.Rows L2 GenW
section
variable {X : Cx} {pins : List (Addr × Obj)} {σ : L2.St} {H : Hp} {s : Shared} {sc : Scope} {x : Str}
def MaxRel (ys : List V) (acc : Array Value) : Prop :=
  ∃ ns : List Int, ys = ns.map V.int ∧ ((ns = [] ∧ acc = #[]) ∨ ∃ b t, acc = #[.int b t, .int b t] ∧ b ∈ ns ∧ ∀ z ∈ ns, z ≤ b)
def NsMax (Qm : Int → Hp → Prop) : List V → Hp → Prop := fun ys H => ∃ ns : List Int, ys = ns.map V.int ∧ ns ≠ [] ∧ ∀ b, b ∈ ns → (∀ z ∈ ns, z ≤ b) → Qm b H
theorem map_int_inj {a b : List Int} (h : a.map V.int = b.map V.int) : a = b := by
  induction a generalizing b with
  | nil => cases b with
    | nil => rfl
    | cons _ _ => cases h
  | cons x a ih => cases b with
    | nil => cases h
    | cons y b =>
      rw [List.map_cons, List.map_cons] at h
      injection h with h1 h2
      injection h1 with h1
      rw [h1, ih h2]
theorem MaxRel.first {i : Int} {t : Tok} {ys : List V} (h : MaxRel ys #[]) : MaxRel (ys ++ [.int i]) #[.int i t, .int i t] := by
  obtain ⟨ns, rfl, h | ⟨b, u, e, _⟩⟩ := h
  · rw [h.1]
    exact ⟨[i], rfl, .inr ⟨i, t, rfl, by simp, by simp⟩⟩
  · have := congrArg Array.size e
    simp at this
theorem MaxRel.more {i b : Int} {t u : Tok} {ys : List V} (h : MaxRel ys #[.int b u, .int b u]) : MaxRel (ys ++ [.int i]) (if decide (i > b) = true then #[.int i t, .int i t] else #[.int b u, .int b u]) := by
  obtain ⟨ns, rfl, h | ⟨b', u', e, hb, hm⟩⟩ := h
  · have := congrArg Array.size h.2
    simp at this
  · have e' : b = b' := by
      have := congrArg (fun a : Array Value => a[0]?) e
      simp at this
      exact this.1
    subst e'
    refine ⟨ns ++ [i], by simp, .inr ?_⟩
    by_cases hi : i > b
    · rw [if_pos (decide_eq_true hi)]
      refine ⟨i, t, rfl, by simp, fun z hz => ?_⟩
      rcases List.mem_append.mp hz with q | q
      · exact Int.le_of_lt (Int.lt_of_le_of_lt (hm z q) hi)
      · rw [List.mem_singleton.mp q]; exact Int.le_refl _
    · rw [if_neg (by rw [decide_eq_false hi]; exact Bool.false_ne_true)]
      refine ⟨b, u, rfl, List.mem_append_left _ hb, fun z hz => ?_⟩
      rcases List.mem_append.mp hz with q | q
      · exact hm z q
      · rw [List.mem_singleton.mp q]; omega
theorem MaxRel.last {b : Int} {u : Tok} {ys : List V} {Qm : Int → Hp → Prop} (h : MaxRel ys #[.int b u, .int b u]) (q : NsMax Qm ys H) : Qm b H := by
  obtain ⟨ns, rfl, h | ⟨b', u', e, hb, hm⟩⟩ := h
  · have := congrArg Array.size h.2
    simp at this
  · have e' : b = b' := by
      have := congrArg (fun a : Array Value => a[0]?) e
      simp at this
      exact this.1
    subst e'
    obtain ⟨ms, e1, _, hq⟩ := q
    rw [map_int_inj e1] at hb hm
    exact hq b hb hm
theorem MaxRel.none {ys : List V} {Qm : Int → Hp → Prop} (h : MaxRel ys #[]) (q : NsMax Qm ys H) : False := by
  obtain ⟨ns, rfl, h | ⟨b', u', e, hb, hm⟩⟩ := h
  · obtain ⟨ms, e1, h2, _⟩ := q
    rw [h.1] at e1
    exact h2 (map_int_inj e1).symm
  · have := congrArg Array.size e
    simp at this
end
end Gx
namespace TG
open PySem L2
def top (i : Nat) : Stmt := PySem.Challenge.pw_tabgrow_k20_strokes.main.body.getD i (.Pass ⟨0, 0, 0, 0⟩)
abbrev s_is_sign : Stmt := top 19
abbrev s_is_text : Stmt := top 20
abbrev s_check_lines : Stmt := top 21
abbrev s_strokes : Stmt := top 24
abbrev s_line_at : Stmt := top 25
abbrev s_unlike_runs : Stmt := top 26
abbrev s_begun : Stmt := top 28
abbrev s_take : Stmt := top 29
abbrev s_alike : Stmt := top 30
abbrev s_told : Stmt := top 31
abbrev s_all : Stmt := top 32
abbrev s_sign : Stmt := top 33
abbrev s_line : Stmt := top 34
abbrev s_line_near : Stmt := top 35
abbrev s_lines_two : Stmt := top 36
abbrev s_odd_lines : Stmt := top 37
abbrev s_lstrokes : Stmt := top 38
abbrev s_law : Stmt := top 39
/-- the built-ins that the text calls are the built-ins still -/
structure Txt (mg : Str → Option Value) : Prop where
  isin : mg "isinstance" = none
  len : mg "len" = none
  range : mg "range" = none
  max : mg "max" = none
  min : mg "min" = none
  all : mg "all" = none
  str : mg "str" = none
  int : mg "int" = none
  bool : mg "bool" = none
  list : mg "list" = none
  tuple : mg "tuple" = none
  enum : mg "enumerate" = none
  ord : mg "ord" = none
def BoxAt (H : Hp) (b l : Addr) : Prop := ∃ (ns : List Int) (st : Int), H b = some (.lst [.ref l, .int st]) ∧ H l = some (.lst (ns.map V.int)) ∧ ns.length ≤ 63
/-- all but the box stays -/
def KB (b l : Addr) (H H' : Hp) : Prop := ∀ c o, H c = some o → c ≠ b → c ≠ l → H' c = some o
theorem KB.refl {b l : Addr} {H : Hp} : KB b l H H := fun _ _ h _ _ => h
theorem KB.trans {b l : Addr} {H H1 H2 : Hp} (x : KB b l H H1) (y : KB b l H1 H2) : KB b l H H2 := fun c o h n m => y c o (x c o h n m) n m
theorem box_ne {H : Hp} {b l : Addr} (x : BoxAt H b l) : b ≠ l := by
  obtain ⟨ns, st, h1, h2, _⟩ := x
  refine ne_of h1 h2 fun z => ?_
  injection z with z
  cases ns with
  | nil => cases z
  | cons n ns =>
    rw [List.map_cons] at z
    injection z with z _
    cases z
theorem nz {i : Int} (h : i ≠ 0) : i ≠ 0 := h
theorem at0 {α : Type} {v : α} {xs : List α} : atI (v :: xs) 0 = some v := atI_nat (j := 0) rfl
theorem ix0 {n : Nat} : ixN (n + 1) 0 = some 0 := by
  unfold ixN
  rw [if_pos (by decide), if_pos (by omega)]
  rfl
theorem small0 : ([] : List V).length ≤ sizeLine := Nat.zero_le _
theorem dp_ints {K : PySem.W.Frag} {H : Hp} : ∀ ns : List Int, DpAll K H (ns.map V.int) (ns.map PyData.int)
  | [] => .nil
  | n :: ns => .cons (.int n) (dp_ints ns)
theorem canAll_ints : ∀ ns : List Int, PyData.canLayAll0 (ns.map PyData.int) = true
  | [] => rfl
  | _ :: r => by simp [PyData.canLayAll0, PyData.canLay0, canAll_ints r]
theorem depthAll_ints : ∀ ns : List Int, PyData.depthAll (ns.map PyData.int) = 0
  | [] => rfl
  | _ :: r => by simp [PyData.depthAll, PyData.depth, depthAll_ints r]
theorem shaped_of_ints (ns : List Int) : SeqAt.shaped (.list (ns.map PyData.int)) = true := by
  simp [SeqAt.shaped, PyData.canLay0, PyData.depth, canAll_ints, depthAll_ints]
def spTake : Sp := fun vs H Q _ => ∃ (b l : Addr) (many : Int), vs = [.ref b, .int many] ∧ BoxAt H b l ∧ 0 < many ∧ many < 1073741824 ∧
  ∀ (r : Int) (H' : Hp), 0 ≤ r → r < many → BoxAt H' b l → KB b l H H' → Q (.int r) H'
section
variable {P : Program} {w : World} {K : PySem.W.Frag} {mg : Str → Option Value} {base : Heap}
theorem sc_take : FnScope ["_law_box", "_law_many", "_law_number"] ["_law_box", "_law_many"] (defScope s_take) := ⟨rfl, rfl, rfl, by decide +kernel, rfl, by decide +kernel, by decide +kernel⟩
theorem ok_take {f : Addr} {fd : FuncData} (F : Fun K "_law_take" "_law_take" s_take f fd) : FnOk P w K mg base CX0 1 f fd ["_law_box", "_law_many"] spTake := by
  refine F.ok sc_take (fun vs H Q E h => ?_) (fun cdv A outer s H vs Q E hr h => ?_)
  · obtain ⟨b, l, many, rfl, _⟩ := h
    rfl
  · obtain ⟨b, l, many, rfl, hB, m0, m1, k⟩ := h
    have nd := sc_take.nd
    have hu := hr.units
    refine ⟨_, pss_cons (ps_if (pt_cmpR (op_eqD hu) (pe_ix ix_list (pv 0) pe_int (fun _ _ => rfl)) (pe_lst pa_nil) (nomark _))
        (pss_cons (ps_asg (pe_op op_modN (pe_op op_mul (pe_ix ix_list (pv 0) pe_int (fun _ _ => rfl)) pe_int) pe_int) (pg_sub (pv 0) pe_int set_list))
          (pss_one (ps_ret (pe_op op_modN (pe_op op_fdivN (pe_ix ix_list (pv 0) pe_int (fun _ _ => rfl)) pe_int) (pv 1))))) pss_nil)
      (pss_cons (ps_set (i := 2) nd rfl (.inl rfl) (pe_ix ix_list (pe_ix ix_list (pv 0) pe_int (fun _ _ => rfl)) pe_int (fun _ _ => rfl)))
      (pss_cons (ps_asg (pe_op op_fdivN (pv 2) (pv 1)) (pg_sub (pe_ix ix_list (pv 0) pe_int (fun _ _ => rfl)) pe_int set_list))
      (pss_cons (ps_if (PW.pt (pw_or (pt_cmpR op_eq (pe_ix ix_list (pe_ix ix_list (pv 0) pe_int (fun _ _ => rfl)) pe_int (fun _ _ => rfl)) pe_int (nomark _)) (pw_or1 (pt_cmpR op_eq (pe_ix ix_list (pe_ix ix_list (pv 0) pe_int (fun _ _ => rfl)) pe_int (fun _ _ => rfl)) (pe_un un_neg pe_int) (nomark _)))))
          (pss_one (ps_expr (pe_bm PySem.F.plainAttrs_list PySem.F.slot_list_pop PySem.F.type_list_pop mt_popAt (pe_ix ix_list (pv 0) pe_int (fun _ _ => rfl)) (pa_cons pe_int pa_nil)))) pss_nil)
      (pss_one (ps_ret (pe_op op_modN (pv 2) (pv 1))))))), ?_⟩
    obtain ⟨ns, st, h1, h2, h3⟩ := id hB
    have nbl := box_ne hB
    have len2 : ∀ o, (upd H b o) l = some (.lst (ns.map V.int)) := fun o => by rw [upd_ne nbl.symm]; exact h2
    -- _law_box[0] == []
    refine ⟨_, rfl, b, _, 0, .ref l, rfl, rfl, SqL.of h1, rfl, small0, fun p np => ?_⟩
    have npb : b ≠ p := ne_of_none h1 np
    have npl : l ≠ p := ne_of_none h2 np
    have g1 : (upd H p (.lst [])) b = some (.lst [.ref l, .int st]) := by rw [upd_ne npb]; exact h1
    have g2 : (upd H p (.lst [])) l = some (.lst (ns.map V.int)) := by rw [upd_ne npl]; exact h2
    have kp : KB b l H (upd H p (.lst [])) := fun c o e _ _ => by rw [upd_ne (ne_of_none e np)]; exact e
    refine ⟨.list (ns.map PyData.int), .list [], .lst (SqL.of g2) (dp_ints ns), .lst (SqL.of upd_same) .nil, shaped_of_ints ns, rfl, _, rfl, ?_⟩
    cases ns with
    | nil =>
      refine iteT ?_
      refine ⟨_, rfl, b, _, 1, .int st, rfl, rfl, SqL.of g1, rfl, st, 48271, rfl, rfl, .inr (by decide), _, _, rfl, rfl, nz (by decide), _, rfl, b, _, 1, 1, rfl, rfl, g1, rfl, ?_⟩
      refine ⟨_, rfl, b, _, 1, _, rfl, rfl, SqL.of upd_same, rfl, _, _, rfl, rfl, ⟨by decide, by decide⟩, _, rfl, _, _, rfl, rfl, nz (by omega), ?_⟩
      refine k _ _ (Int.fmod_nonneg_of_pos _ m0) (Int.fmod_lt_of_pos _ m0) ⟨[], _, upd_same, by rw [upd_ne nbl.symm]; exact g2, h3⟩ fun c o e hc hl => ?_
      rw [upd_ne hc]
      exact kp c o e hc hl
    | cons n ns =>
      refine iteF ?_
      refine ⟨_, rfl, b, _, 0, .ref l, rfl, rfl, SqL.of g1, rfl, l, _, 0, .int n, rfl, rfl, SqL.of g2, at0, ?_⟩
      refine ⟨_, rfl, _, rfl, n, many, rfl, rfl, ⟨by omega, by omega⟩, _, rfl, b, _, 0, .ref l, rfl, rfl, SqL.of g1, rfl, l, _, 0, 0, rfl, rfl, g2, ix0, ?_⟩
      have j1 : ∀ o, (upd (upd H p (.lst [])) l o) b = some (.lst [.ref l, .int st]) := fun o => by rw [upd_ne nbl]; exact g1
      have kl : ∀ o, KB b l H (upd (upd H p (.lst [])) l o) := fun o c u e hc hl => by rw [upd_ne hl]; exact kp c u e hc hl
      have fin : ∀ ms : List Int, ms.length ≤ 63 → Q (.int (n.fmod many)) (upd (upd H p (.lst [])) l (.lst (ms.map V.int))) := fun ms hm =>
        k _ _ (Int.fmod_nonneg_of_pos _ m0) (Int.fmod_lt_of_pos _ m0) ⟨ms, st, j1 _, upd_same, hm⟩ (kl _)
      have e0 : (List.map V.int (n :: ns)).set 0 (V.int (n.fdiv many)) = List.map V.int (n.fdiv many :: ns) := rfl
      rw [e0]
      -- == 0 or == -1
      refine ⟨_, rfl, b, _, 0, .ref l, rfl, rfl, SqL.of (j1 _), rfl, l, _, 0, .int (n.fdiv many), rfl, rfl, SqL.of upd_same, at0, rfl, _, rfl, ?_⟩
      have done : ∀ H', (∃ ms : List Int, ms.length ≤ 63 ∧ H' = upd (upd H p (.lst [])) l (.lst (ms.map V.int))) → ∃ v, ([some (V.ref b), some (V.int many), some (V.int n)] : L2.St)[2]? = some (some v) ∧ ∃ v_1, ([some (V.ref b), some (V.int many), some (V.int n)] : L2.St)[1]? = some (some v_1) ∧ ∃ i j, v = V.int i ∧ v_1 = V.int j ∧ j ≠ 0 ∧ Q (V.int (i.fmod j)) H' := fun H' ⟨ms, hm, e⟩ => by
        subst e
        exact ⟨_, rfl, _, rfl, n, many, rfl, rfl, nz (by omega), fin ms hm⟩
      have pop : ∀ Z : VK, (∀ y H', H' = upd (upd H p (.lst [])) l (.lst (ns.map V.int)) → Z y H') → rPopAt (.ref l) [.int 0] (upd (upd H p (.lst [])) l (.lst (List.map V.int (n.fdiv many :: ns)))) Z := fun Z hZ =>
        ⟨l, _, 0, 0, _, rfl, rfl, upd_same, by decide, by decide, by simp [seqIndex?], rfl, hZ _ _ (by rw [upd_upd]; rfl)⟩
      have h3' : ns.length ≤ 63 := by simp at h3; omega
      by_cases hz : n.fdiv many = 0
      · rw [decide_eq_true (show V.int (n.fdiv many) = V.int 0 by rw [hz])]
        refine iteT (iteT ⟨_, rfl, b, _, 0, .ref l, rfl, rfl, SqL.of (j1 _), rfl, .inl ⟨rfl, _, SqL.of upd_same⟩, pop _ fun y H' e => done H' ⟨ns, h3', e⟩⟩)
      · rw [decide_eq_false (show ¬ V.int (n.fdiv many) = V.int 0 from fun z => hz (by injection z))]
        refine iteF ⟨_, rfl, b, _, 0, .ref l, rfl, rfl, SqL.of (j1 _), rfl, l, _, 0, .int (n.fdiv many), rfl, rfl, SqL.of upd_same, at0, 1, rfl, rfl, _, rfl, ?_⟩
        refine ite2 (fun _ => ⟨_, rfl, b, _, 0, .ref l, rfl, rfl, SqL.of (j1 _), rfl, .inl ⟨rfl, _, SqL.of upd_same⟩, pop _ fun y H' e => done H' ⟨ns, h3', e⟩⟩) fun _ => ?_
        exact done _ ⟨n.fdiv many :: ns, h3, rfl⟩
end
end TG
namespace TG
open PySem L2
section
variable {P : Program} {w : World} {K : PySem.W.Frag} {mg : Str → Option Value} {base : Heap}
def spBegun (K : PySem.W.Frag) : Sp := fun vs H Q _ => ∃ (a : Addr) (ns : List Int), vs = [.ref a] ∧ SqL K H a (ns.map V.int) ∧ ns.length ≤ 63 ∧
  ∀ (b l : Addr) (H' : Hp), BoxAt H' b l → Same H H' → H b = none → H l = none → Q (.ref b) H'
theorem sc_begun : FnScope ["_law_script", "_law_stirred", "_law_cell"] ["_law_script"] (defScope s_begun) := ⟨rfl, rfl, rfl, by decide +kernel, rfl, by decide +kernel, by decide +kernel⟩
theorem ok_begun {f : Addr} {fd : FuncData} (T : Txt mg) (F : Fun K "_law_begun" "_law_begun" s_begun f fd) : FnOk P w K mg base CX0 1 f fd ["_law_script"] (spBegun K) := by
  refine F.ok sc_begun (fun vs H Q E h => ?_) (fun cdv A outer s H vs Q E hr h => ?_)
  · obtain ⟨a, ns, rfl, _⟩ := h
    rfl
  · obtain ⟨a, ns, rfl, hS, hl, k⟩ := h
    have nd := sc_begun.nd
    refine ⟨_, pss_cons (ps_set (i := 1) nd rfl (.inl rfl) pe_int) (pss_cons (ps_for PassesOwn.never rfl (pi_list (pv 0)) (pg_name (i := 2) nd rfl (.inl rfl))
        (pss_one (ps_set (i := 1) nd rfl (.inl rfl) (pe_op op_modN (pe_op op_add (pe_op op_add (pe_op op_mul (pv 1) pe_int) (pe_op op_mul (pv 2) pe_int)) pe_int) pe_int))))
      (pss_one (ps_ret (pe_lst (pa_cons (pe_callTy call_list_of (by rfl) T.list (by decide +kernel) (pa_cons (pv 0) pa_nil))
        (pa_cons (pe_op op_mul (pv 1) (pe_callTy call_int1 (by rfl) T.int (by decide +kernel) (pa_cons (pe_cmpR op_gt (pe_callB call_len_seq (by rfl) T.len PySem.boot_len (pa_cons (pv 0) pa_nil)) pe_int (nomark _)) pa_nil))) pa_nil)))))), ?_⟩
    refine ⟨_, rfl, a, rfl, ⟨_, hS⟩, for_list (xs := ns.map V.int) (fun _ σ H1 => H1 = H ∧ ∃ st c, σ = [some (.ref a), some (.int st), c]) ⟨rfl, 0, _, rfl⟩ (fun i σ H1 _ p => by rw [p.1]; exact hS) ?_ ?_⟩
    · rintro i x σ H1 hx ⟨rfl, st, c, rfl⟩
      obtain ⟨n, rfl⟩ : ∃ n, x = V.int n := by
        rw [List.getElem?_map] at hx
        cases e : ns[i]? with
        | none => rw [e] at hx; cases hx
        | some n => rw [e] at hx; cases hx; exact ⟨n, rfl⟩
      exact ⟨_, rfl, st, 48271, rfl, rfl, .inr (by decide), _, rfl, n, 69621, rfl, rfl, .inr (by decide), _, _, rfl, rfl, _, 11, rfl, rfl, _, 2147483647, rfl, rfl, nz (by decide), rfl, _, _, rfl⟩
    · rintro σ H1 ⟨rfl, st, c, rfl⟩
      refine ⟨_, rfl, a, _, rfl, .inl hS, fun l nl => ?_⟩
      have hS2 : SqL K (upd H1 l (.lst (ns.map V.int))) a (ns.map V.int) := by
        rcases hS with (z | ⟨o, z⟩) | z
        · exact .inl (.inl (by rw [upd_ne (ne_of_none z nl)]; exact z))
        · exact .inl (.inr ⟨o, by rw [upd_ne (ne_of_none z nl)]; exact z⟩)
        · exact .inr z
      refine ⟨_, rfl, _, rfl, a, _, rfl, .inl hS2, _, 2, rfl, rfl, .inr ⟨_, rfl, st, _, rfl, rfl, .inr (by split <;> decide), (by show 2 ≤ sizeLine; decide), fun b nb => ?_⟩⟩
      have nb1 : H1 b = none := by
        by_cases e : b = l
        · rw [e, upd_same] at nb; cases nb
        · rw [upd_ne e] at nb; exact nb
      have nlb : l ≠ b := fun z => by rw [← z, upd_same] at nb; cases nb
      refine k b l _ ⟨ns, _, upd_same, by rw [upd_ne nlb, upd_same], hl⟩ (fun c o e => ?_) nb1 nl
      rw [upd_ne (ne_of_none e nb1), upd_ne (ne_of_none e nl)]
      exact e
mutual
def dok : PyData → Bool
  | .list xs | .tuple xs => decide (xs.length ≤ 9000) && dokAll xs
  | .dict _ => false
  | .none | .bool _ | .int _ | .str _ => true
def dokAll : List PyData → Bool
  | [] => true
  | x :: xs => dok x && dokAll xs
end
theorem dokAll_get : ∀ {ds : List PyData} {i : Nat} {d : PyData}, dokAll ds = true → ds[i]? = some d → dok d = true
  | [], _, _, _, h => by simp at h
  | x :: xs, 0, d, h, e => by
    simp only [dokAll, Bool.and_eq_true] at h
    cases e
    exact h.1
  | x :: xs, i + 1, d, h, e => by
    simp only [dokAll, Bool.and_eq_true] at h
    exact dokAll_get h.2 (by simpa using e)
theorem depthAll_get : ∀ {ds : List PyData} {i : Nat} {d : PyData}, ds[i]? = some d → d.depth ≤ PyData.depthAll ds
  | [], _, _, h => by simp at h
  | x :: xs, 0, d, e => by
    cases e
    simp only [PyData.depthAll]
    exact Nat.le_max_left _ _
  | x :: xs, i + 1, d, e => by
    simp only [PyData.depthAll]
    exact Nat.le_trans (depthAll_get (i := i) (by simpa using e)) (Nat.le_max_right _ _)
theorem dp_len {H : Hp} : ∀ {vs : List V} {ds : List PyData}, DpAll K H vs ds → vs.length = ds.length
  | [], [], _ => rfl
  | _ :: _, _ :: _, h => by
    cases h with
    | cons _ t => rw [List.length_cons, List.length_cons, dp_len t]
theorem dp_get {H : Hp} : ∀ {vs : List V} {ds : List PyData} {i : Nat} {v : V}, DpAll K H vs ds → vs[i]? = some v → ∃ d, ds[i]? = some d ∧ Dp K H v d
  | [], [], _, _, _, h => by simp at h
  | x :: vs, y :: ds, 0, v, h, e => by
    cases h with
    | cons h1 _ =>
      cases e
      exact ⟨y, rfl, h1⟩
  | x :: vs, y :: ds, i + 1, v, h, e => by
    cases h with
    | cons _ h2 => simpa using dp_get (i := i) h2 (by simpa using e)
theorem ty_list {H : Hp} {a : Addr} {xs : List V} (h : SqL K H a xs) : TyX K H (.ref a) (.type "list") := by
  rcases h with (z | ⟨o, z⟩) | ⟨o, its, n, z, c, _⟩
  · exact .base (.lst z)
  · exact .base (.frz z)
  · exact .kList z c
theorem ty_tup {H : Hp} {a : Addr} {xs : List V} (h : SqT K H a xs) : TyX K H (.ref a) (.type "tuple") := by
  rcases h with (z | ⟨o, z⟩) | ⟨o, its, n, z, c, _⟩
  · exact .base (.tup z)
  · exact .fTuple z
  · exact .kTuple z c
def spAlike (K : PySem.W.Frag) (n : Nat) : Sp := fun vs H Q _ => ∃ (x y : V) (d : PyData), vs = [x, y] ∧ Dp K H x d ∧ Dp K H y d ∧ d.depth < n ∧ dok d = true ∧ Q (.bl true) H
theorem sc_alike : FnScope ["_law_found", "_law_due", "_law_k"] ["_law_found", "_law_due"] (defScope s_alike) := ⟨rfl, rfl, rfl, by decide +kernel, rfl, by decide +kernel, by decide +kernel⟩
theorem ok_alike {f : Addr} {fd : FuncData} (T : Txt mg) (F : Fun K "_law_alike" "_law_alike" s_alike f fd) (b : Binds K fd ["_law_found", "_law_due"] []) (mgf : mg "_law_alike" = some (.ref f)) : ∀ n, FnOk P w K mg base CX0 (n + 1) f fd ["_law_found", "_law_due"] (spAlike K n) := by
  intro n
  induction n with
  | zero =>
    refine F.ok sc_alike (fun vs H Q E h => ?_) (fun cdv A outer s H vs Q E hr h => ?_)
    · obtain ⟨x, y, d, rfl, _⟩ := h
      rfl
    · obtain ⟨x, y, d, rfl, _, _, h, _⟩ := h
      exact absurd h (Nat.not_lt_zero _)
  | succ n G =>
    refine F.ok sc_alike (fun vs H Q E h => ?_) (fun cdv A outer s H vs Q E hr h => ?_)
    · obtain ⟨x, y, d, rfl, _⟩ := h
      rfl
    · obtain ⟨x, y, d, rfl, hx, hy, hd, hk, k⟩ := h
      have nd := sc_alike.nd
      refine ⟨_, pss_cons (ps_if (pt_cmpR op_isN (pv 1) pe_non (nomark _)) (pss_one (ps_ret (pe_cmpR op_isN (pv 0) pe_non (nomark _)))) pss_nil)
        (pss_cons (ps_if (pt_val (pe_callB call_isi (by rfl) T.isin (by decide +kernel) (pa_cons (pv 1) (pa_cons (pe_bltn (v := .ty "bool") (by rfl) T.bool (by decide +kernel) rfl) pa_nil)))) (pss_one (ps_ret (pe_and (pe_callB call_isi (by rfl) T.isin (by decide +kernel) (pa_cons (pv 0) (pa_cons (pe_bltn (v := .ty "bool") (by rfl) T.bool (by decide +kernel) rfl) pa_nil))) (pe_one (pe_cmpR op_eq (pv 0) (pv 1) (nomark _)))))) pss_nil)
        (pss_cons (ps_if (pt_val (pe_callB call_isi (by rfl) T.isin (by decide +kernel) (pa_cons (pv 1) (pa_cons (pe_bltn (v := .ty "int") (by rfl) T.int (by decide +kernel) rfl) pa_nil)))) (pss_one (ps_ret (pe_and (pe_callB call_isi (by rfl) T.isin (by decide +kernel) (pa_cons (pv 0) (pa_cons (pe_bltn (v := .ty "int") (by rfl) T.int (by decide +kernel) rfl) pa_nil))) (pe_and (pe_not (pe_callB call_isi (by rfl) T.isin (by decide +kernel) (pa_cons (pv 0) (pa_cons (pe_bltn (v := .ty "bool") (by rfl) T.bool (by decide +kernel) rfl) pa_nil)))) (pe_one (pe_cmpR op_eq (pv 0) (pv 1) (nomark _))))))) pss_nil)
        (pss_cons (ps_if (pt_val (pe_callB call_isi (by rfl) T.isin (by decide +kernel) (pa_cons (pv 1) (pa_cons (pe_bltn (v := .ty "str") (by rfl) T.str (by decide +kernel) rfl) pa_nil)))) (pss_one (ps_ret (pe_and (pe_callB call_isi (by rfl) T.isin (by decide +kernel) (pa_cons (pv 0) (pa_cons (pe_bltn (v := .ty "str") (by rfl) T.str (by decide +kernel) rfl) pa_nil))) (pe_one (pe_cmpR op_eq (pv 0) (pv 1) (nomark _)))))) pss_nil)
        (pss_cons (ps_if (PW.pt (pw_or (pt_cmpR op_ne (pe_callB call_isi (by rfl) T.isin (by decide +kernel) (pa_cons (pv 1) (pa_cons (pe_bltn (v := .ty "tuple") (by rfl) T.tuple (by decide +kernel) rfl) pa_nil))) (pe_callB call_isi (by rfl) T.isin (by decide +kernel) (pa_cons (pv 0) (pa_cons (pe_bltn (v := .ty "tuple") (by rfl) T.tuple (by decide +kernel) rfl) pa_nil))) (nomark _))
            (pw_or1 (pt_cmpR op_ne (pe_callB call_isi (by rfl) T.isin (by decide +kernel) (pa_cons (pv 1) (pa_cons (pe_bltn (v := .ty "list") (by rfl) T.list (by decide +kernel) rfl) pa_nil))) (pe_callB call_isi (by rfl) T.isin (by decide +kernel) (pa_cons (pv 0) (pa_cons (pe_bltn (v := .ty "list") (by rfl) T.list (by decide +kernel) rfl) pa_nil))) (nomark _))))) (pss_one (ps_ret pe_bl)) pss_nil)
        (pss_cons (ps_if (pt_cmpR op_ne (pe_callB call_len_seq (by rfl) T.len PySem.boot_len (pa_cons (pv 0) pa_nil)) (pe_callB call_len_seq (by rfl) T.len PySem.boot_len (pa_cons (pv 1) pa_nil)) (nomark _)) (pss_one (ps_ret pe_bl)) pss_nil)
        (pss_cons (ps_for PassesOwn.never rfl (pi_range1 (by rfl) T.range (pa_cons (pe_callB call_len_seq (by rfl) T.len PySem.boot_len (pa_cons (pv 1) pa_nil)) pa_nil)) (pg_name (i := 2) nd rfl (.inl rfl))
          (pss_one (ps_if (pt_not (pt_val (pe_call G hr (by rfl) mgf F.kp b .nil pass0 (pa_cons (pe_ix ix_seq (pv 0) (pv 2) (fun _ _ => rfl)) (pa_cons (pe_ix ix_seq (pv 1) (pv 2) (fun _ _ => rfl)) pa_nil))))) (pss_one (ps_ret pe_bl)) pss_nil)))
        (pss_one (ps_ret pe_bl)))))))), ?_⟩
      cases hx with
      | non =>
        cases hy
        exact ⟨_, rfl, rfl, true, rfl, iteT ⟨_, rfl, rfl, k⟩⟩
      | bl c =>
        cases hy
        exact ⟨_, rfl, rfl, false, rfl, iteF ⟨_, rfl, _, _, _, _, true, rfl, .ty _, (.base (.bl c)), kit_ty (by decide +kernel), true, rfl, iteT ⟨_, rfl, _, _, _, _, true, rfl, .ty _, (.base (.bl c)), kit_ty (by decide +kernel), true, rfl, iteT ⟨_, rfl, _, rfl, rfl, by simpa using k⟩⟩⟩⟩
      | int i =>
        cases hy
        exact ⟨_, rfl, rfl, false, rfl, iteF ⟨_, rfl, _, _, _, _, false, rfl, .ty _, (.base (.int i)), kit_ty (by decide +kernel), false, rfl, iteF ⟨_, rfl, _, _, _, _, true, rfl, .ty _, (.base (.int i)), kit_ty (by decide +kernel), true, rfl, iteT ⟨_, rfl, _, _, _, _, true, rfl, .ty _, (.base (.int i)), kit_ty (by decide +kernel), true, rfl, iteT
          ⟨_, rfl, _, _, _, _, false, rfl, .ty _, (.base (.int i)), kit_ty (by decide +kernel), false, rfl, true, rfl, iteT ⟨_, rfl, _, rfl, rfl, by simpa using k⟩⟩⟩⟩⟩⟩
      | str z =>
        cases hy
        exact ⟨_, rfl, rfl, false, rfl, iteF ⟨_, rfl, _, _, _, _, false, rfl, .ty _, (.base (.str z)), kit_ty (by decide +kernel), false, rfl, iteF ⟨_, rfl, _, _, _, _, false, rfl, .ty _, (.base (.str z)), kit_ty (by decide +kernel), false, rfl, iteF ⟨_, rfl, _, _, _, _, true, rfl, .ty _, (.base (.str z)), kit_ty (by decide +kernel), true, rfl, iteT
          ⟨_, rfl, _, _, _, _, true, rfl, .ty _, (.base (.str z)), kit_ty (by decide +kernel), true, rfl, iteT ⟨_, rfl, _, rfl, rfl, by simpa using k⟩⟩⟩⟩⟩⟩
      | @lst p xs ds sx ax =>
        cases hy with
        | @lst q ys _ sy ay =>
          refine ⟨_, rfl, rfl, false, rfl, iteF ⟨_, rfl, _, _, _, _, false, rfl, .ty _, (ty_list sy), kit_ty (by decide +kernel), false, rfl, iteF ⟨_, rfl, _, _, _, _, false, rfl, .ty _, (ty_list sy), kit_ty (by decide +kernel), false, rfl, iteF ⟨_, rfl, _, _, _, _, false, rfl, .ty _, (ty_list sy), kit_ty (by decide +kernel), false, rfl, iteF
            ⟨_, rfl, _, _, _, _, false, rfl, .ty _, (ty_list sy), kit_ty (by decide +kernel), _, rfl, _, _, _, _, false, rfl, .ty _, (ty_list sx), kit_ty (by decide +kernel), rfl, false, rfl, iteF ⟨_, rfl, _, _, _, _, true, rfl, .ty _, (ty_list sy), kit_ty (by decide +kernel), _, rfl, _, _, _, _, true, rfl, .ty _, (ty_list sx), kit_ty (by decide +kernel), rfl, false, rfl, iteF ?_⟩⟩⟩⟩⟩⟩
          simp only [dok, Bool.and_eq_true, decide_eq_true_eq] at hk
          simp only [PyData.depth] at hd
          have lx := dp_len ax
          have ly := dp_len ay
          refine ⟨_, rfl, p, xs, rfl, .inl sx, _, rfl, q, ys, rfl, .inl sy, rfl, false, by rw [lx, ly]; simp, iteF ?_⟩
          refine ⟨_, rfl, q, ys, rfl, .inl sy, _, rfl, by omega, by omega, for_range (n := (ys.length : Int).toNat) (fun _ σ H' => H' = H ∧ ∃ c, σ = [some (.ref p), some (.ref q), c]) ⟨rfl, _, rfl⟩ ?_ ?_⟩
          · rintro i σ H' hi ⟨rfl, c, rfl⟩
            have hi1 : i < xs.length := by omega
            have hi2 : i < ys.length := by omega
            obtain ⟨d1, e1, dx⟩ := dp_get ax (List.getElem?_eq_getElem hi1)
            obtain ⟨d2, e2, dy⟩ := dp_get ay (List.getElem?_eq_getElem hi2)
            rw [e1] at e2
            cases e2
            refine ⟨_, rfl, _, rfl, .inl ⟨p, xs, _, _, rfl, rfl, sx, by rw [Int.zero_add]; exact atI_nat (List.getElem?_eq_getElem hi1), ⟨_, rfl, _, rfl, .inl ⟨q, ys, _, _, rfl, rfl, sy, by rw [Int.zero_add]; exact atI_nat (List.getElem?_eq_getElem hi2), ?_⟩⟩⟩⟩
            exact ⟨_, _, d1, rfl, dx, dy, by have := depthAll_get e1; omega, dokAll_get hk.2 e1, true, rfl, iteF ⟨rfl, _, rfl⟩⟩
          · rintro σ H' ⟨rfl, c, rfl⟩
            exact k
      | @tup p xs ds sx ax =>
        cases hy with
        | @tup q ys _ sy ay =>
          refine ⟨_, rfl, rfl, false, rfl, iteF ⟨_, rfl, _, _, _, _, false, rfl, .ty _, (ty_tup sy), kit_ty (by decide +kernel), false, rfl, iteF ⟨_, rfl, _, _, _, _, false, rfl, .ty _, (ty_tup sy), kit_ty (by decide +kernel), false, rfl, iteF ⟨_, rfl, _, _, _, _, false, rfl, .ty _, (ty_tup sy), kit_ty (by decide +kernel), false, rfl, iteF
            ⟨_, rfl, _, _, _, _, true, rfl, .ty _, (ty_tup sy), kit_ty (by decide +kernel), _, rfl, _, _, _, _, true, rfl, .ty _, (ty_tup sx), kit_ty (by decide +kernel), rfl, false, rfl, iteF ⟨_, rfl, _, _, _, _, false, rfl, .ty _, (ty_tup sy), kit_ty (by decide +kernel), _, rfl, _, _, _, _, false, rfl, .ty _, (ty_tup sx), kit_ty (by decide +kernel), rfl, false, rfl, iteF ?_⟩⟩⟩⟩⟩⟩
          simp only [dok, Bool.and_eq_true, decide_eq_true_eq] at hk
          simp only [PyData.depth] at hd
          have lx := dp_len ax
          have ly := dp_len ay
          refine ⟨_, rfl, p, xs, rfl, .inr sx, _, rfl, q, ys, rfl, .inr sy, rfl, false, by rw [lx, ly]; simp, iteF ?_⟩
          refine ⟨_, rfl, q, ys, rfl, .inr sy, _, rfl, by omega, by omega, for_range (n := (ys.length : Int).toNat) (fun _ σ H' => H' = H ∧ ∃ c, σ = [some (.ref p), some (.ref q), c]) ⟨rfl, _, rfl⟩ ?_ ?_⟩
          · rintro i σ H' hi ⟨rfl, c, rfl⟩
            have hi1 : i < xs.length := by omega
            have hi2 : i < ys.length := by omega
            obtain ⟨d1, e1, dx⟩ := dp_get ax (List.getElem?_eq_getElem hi1)
            obtain ⟨d2, e2, dy⟩ := dp_get ay (List.getElem?_eq_getElem hi2)
            rw [e1] at e2
            cases e2
            refine ⟨_, rfl, _, rfl, .inr (.inl ⟨p, xs, _, _, rfl, rfl, sx, by rw [Int.zero_add]; exact atI_nat (List.getElem?_eq_getElem hi1), ⟨_, rfl, _, rfl, .inr (.inl ⟨q, ys, _, _, rfl, rfl, sy, by rw [Int.zero_add]; exact atI_nat (List.getElem?_eq_getElem hi2), ?_⟩)⟩⟩)⟩
            exact ⟨_, _, d1, rfl, dx, dy, by have := depthAll_get e1; omega, dokAll_get hk.2 e1, true, rfl, iteF ⟨rfl, _, rfl⟩⟩
          · rintro σ H' ⟨rfl, c, rfl⟩
            exact k
end
end TG
namespace Gx
open PySem PySem.Spec PyProof.Rows L2 GenW
section
variable {J : It} {n : Nat} {G : Hp → Prop} {Y : Nat → Hp → V → Hp → Prop}
/-- all over a walk whose i-th element is f i -/
theorem all_by (w : Walk J n G Y) {te : TE} {Q : VK} {H2 : Hp} (f : Nat → Bool) (Pv : Nat → Hp → Prop) (h0 : Pv 0 H2) (hG : ∀ i H, i ≤ n → Pv i H → G H)
    (hs : ∀ i v H H', i < n → Pv i H → Y i H v H' → ∀ Z : VK, (∀ H3, Pv (i + 1) H3 → Z (.bl (f i)) H3) → te [some v] H' Z)
    (hT : ∀ H, Pv n H → (∀ i, i < n → f i = true) → Q (.bl true) H) (hF : ∀ i H, i < n → f i = false → Pv (i + 1) H → Q (.bl false) H) :
    ∃ W : WT, (∃ m, W m [] H2) ∧ ∀ m ys H, W m ys H → (J.stop ys.length H ∧ (fun (_ : List V) H => Q (.bl true) H) ys H) ∨
      (J.go ys.length H ∧ ∀ v H', J.yld ys.length H v H' → te [some v] H' (NyAll (fun b H => Q (.bl b) H) W m ys)) := by
  refine ⟨fun m ys H => m = n - ys.length ∧ ys.length ≤ n ∧ Pv ys.length H ∧ ∀ i, i < ys.length → f i = true, ⟨n, by simp, Nat.zero_le _, h0, fun i hi => absurd hi (Nat.not_lt_zero _)⟩, ?_⟩
  rintro m ys H ⟨rfl, hl, hp, ht⟩
  have q := hG _ H hl hp
  by_cases hlt : ys.length < n
  · refine .inr ⟨w.goes _ H hlt q, fun v H' y => hs _ v H H' hlt hp (w.yields _ H v H' hlt q y) _ fun H3 p3 => ⟨f ys.length, rfl, ?_⟩⟩
    cases hf : f ys.length with
    | true =>
      refine iteT ⟨n - (ys.length + 1), by omega, by rw [List.length_append, List.length_singleton], by rw [List.length_append, List.length_singleton]; exact hlt, by rw [List.length_append, List.length_singleton]; exact p3, fun i hi => ?_⟩
      rw [List.length_append, List.length_singleton] at hi
      by_cases e : i = ys.length
      · rw [e]; exact hf
      · exact ht i (by omega)
    | false => exact iteF (hF _ H3 hlt hf p3)
  · have e : ys.length = n := by omega
    exact .inl ⟨by rw [e]; exact w.stops H q, hT H (e ▸ hp) fun i hi => ht i (by omega)⟩
end
def Tabs (cs : List (Addr × Addr)) (H : Hp) : Prop := ∀ p ∈ cs, GxR.TabG H p.2
theorem tab_ext {P : Addr} {H H' : Hp} (t : GxR.TabG H P) (x : GxR.Tabbed P H H') : LamX.ExtN H H' := fun b o e n => by
  by_cases hb : b = P
  · obtain ⟨ps, h1, _⟩ := t
    rw [hb, h1] at e
    cases e
    exact absurd rfl (n ps)
  · rw [x.2 b hb]; exact e
theorem tabs_tab {cs : List (Addr × Addr)} {P : Addr} {H H' : Hp} (t : Tabs cs H) (x : GxR.Tabbed P H H') : Tabs cs H' := fun p hp => by
  by_cases hb : p.2 = P
  · rw [hb]; exact x.1
  · obtain ⟨ps, h1, h2⟩ := t p hp
    exact ⟨ps, by rw [x.2 _ hb]; exact h1, h2⟩
/-- all but tables stays, the tables are tables -/
structure Ex (cs : List (Addr × Addr)) (H H' : Hp) : Prop where
  ext : LamX.ExtN H H'
  tab : Tabs cs H'
  old : ∀ b, H' b = none → H b = none
  oth : ∀ b o, H b = some o → (∀ p ∈ cs, p.2 ≠ b) → H' b = some o
theorem Ex.refl {cs : List (Addr × Addr)} {H : Hp} (t : Tabs cs H) : Ex cs H H := ⟨LamX.ExtN.refl H, t, fun _ h => h, fun _ _ e _ => e⟩
theorem Ex.trans {cs : List (Addr × Addr)} {H H1 H2 : Hp} (a : Ex cs H H1) (b : Ex cs H1 H2) : Ex cs H H2 := ⟨a.ext.trans b.ext, b.tab, fun c h => a.old c (b.old c h), fun c o e m => b.oth c o (a.oth c o e m) m⟩
theorem Ex.tabbed {cs : List (Addr × Addr)} {q : Addr × Addr} {H H' : Hp} (t : Tabs cs H) (m : q ∈ cs) (x : GxR.Tabbed q.2 H H') : Ex cs H H' := ⟨tab_ext (t q m) x, tabs_tab t x, fun b h => by
  by_cases hb : b = q.2
  · obtain ⟨ps, h1, _⟩ := x.1
    rw [hb, h1] at h
    cases h
  · rw [x.2 b hb] at h; exact h, fun b o e n => by
  rw [x.2 b (fun z => n q m z.symm)]
  exact e⟩
theorem upd_none {H : Hp} {a b : Addr} {o : HO} (h : upd H a o b = none) : H b = none ∧ b ≠ a := by
  by_cases hb : b = a
  · rw [hb, upd_same] at h; cases h
  · rw [upd_ne hb] at h; exact ⟨h, hb⟩
theorem Ex.laid {cs : List (Addr × Addr)} {H : Hp} {a : Addr} {o : HO} (t : Tabs cs H) (n : H a = none) : Ex cs H (upd H a o) :=
  ⟨fun b u e _ => by rw [upd_ne (ne_of_none e n)]; exact e, fun p hp => by
    obtain ⟨ps, h1, h2⟩ := t p hp
    exact ⟨ps, by rw [upd_ne (ne_of_none h1 n)]; exact h1, h2⟩, fun b h => (upd_none h).1, fun b u e _ => by
    rw [upd_ne (ne_of_none e n)]
    exact e⟩
/-- a new object, written again -/
theorem ex_new {cs : List (Addr × Addr)} {H H' : Hp} {D : Addr} {o : HO} (t : Tabs cs H) (e : Ex cs H H') (n : H D = none) : Ex cs H (upd H' D o) :=
  ⟨fun b u h m => by rw [upd_ne (ne_of_none h n)]; exact e.ext b u h m, fun p hp => by
    obtain ⟨ps, h1, _⟩ := t p hp
    obtain ⟨ps', h3, h4⟩ := e.tab p hp
    exact ⟨ps', by rw [upd_ne (ne_of_none h1 n)]; exact h3, h4⟩, fun b h => e.old b (upd_none h).1, fun b u h m => by
    rw [upd_ne (ne_of_none h n)]
    exact e.oth b u h m⟩
theorem Ex.lst {cs : List (Addr × Addr)} {H H' : Hp} {a : Addr} {xs : List V} (e : Ex cs H H') (h : H a = some (.lst xs)) : H' a = some (.lst xs) := e.ext _ _ h fun ps q => by cases q
theorem Ex.tup {cs : List (Addr × Addr)} {H H' : Hp} {a : Addr} {xs : List V} (e : Ex cs H H') (h : H a = some (.tup xs)) : H' a = some (.tup xs) := e.ext _ _ h fun ps q => by cases q
theorem Ex.sqL {cs : List (Addr × Addr)} {K : PySem.W.Frag} {H H' : Hp} {a : Addr} {xs : List V} (e : Ex cs H H') (h : SqL K H a xs) : SqL K H' a xs := by
  rcases h with (z | ⟨o, z⟩) | z
  · exact .inl (.inl (e.ext _ _ z fun ps q => by cases q))
  · exact .inl (.inr ⟨o, e.ext _ _ z fun ps q => by cases q⟩)
  · exact .inr z
theorem Ex.sqT {cs : List (Addr × Addr)} {K : PySem.W.Frag} {H H' : Hp} {a : Addr} {xs : List V} (e : Ex cs H H') (h : SqT K H a xs) : SqT K H' a xs := by
  rcases h with (z | ⟨o, z⟩) | z
  · exact .inl (.inl (e.ext _ _ z fun ps q => by cases q))
  · exact .inl (.inr ⟨o, e.ext _ _ z fun ps q => by cases q⟩)
  · exact .inr z
/-- a def whose code object is known -/
theorem fun_okT {P : Program} {w : World} {K : PySem.W.Frag} {mg : Str → Option Value} {base : Heap} {x qual : Str} {st : Stmt} {f c : Addr} {fd : FuncData} {N ps : List Str} {k : Nat} {sp : Sp} (F : Fun K x qual st f fd) (hc : fd.code = .ref c) (S : FnScope N ps (defScope st)) (len : ∀ vs H Q E, sp vs H Q E → vs.length = ps.length)
    (hbody : ∀ (A : Around) (outer : List Env) (s : Shared) (H : Hp) (vs : List V) (Q : VK) (E : XK), Room k (A.deeper (envOfC qual (defScope st) s.heap.objs.size f (.ref c))) → sp vs H Q E →
      ∃ t, PSs (cxOf CX0 P w K mg base N qual (defScope st) f (.ref c) A outer s H E).nox (defBody st) t ∧ t { nx := fun _ H' => Q .non H', rt := Q } (start N vs) H) : FnOk P w K mg base CX0 (k + 1) f fd ps sp := by
  obtain ⟨oc, od, kV, doc, pm, an, cdv, ct, osl, rfl, lk, hcd⟩ := F.ex
  have e : cdv = .ref c := hc
  subst e
  refine fn_of lk hcd S len fun A outer s H vs Q E hr hsp => ?_
  obtain ⟨t, h, q⟩ := hbody A outer s H vs Q E hr hsp
  exact ⟨t, h.nox, q⟩
end Gx
namespace TG
open PySem L2 Gx
def SgOk (c : Nat) : Prop := 32 ≤ c ∧ c ≤ 126 ∧ c ≠ 37
structure CellOk (z : Str) : Prop where
  len : z.length ≤ 10
  sg : ∀ c ∈ z.cps.toList, SgOk c
structure RowOk (r : List Str) : Prop where
  pos : 1 ≤ r.length
  len : r.length ≤ 6
  cells : ∀ z ∈ r, CellOk z
abbrev sV (r : List Str) : List V := r.map V.str
theorem line10 {n : Nat} (h : n ≤ 1000) : n ≤ sizeLine := Nat.le_trans h (by decide)
theorem dT {c : Prop} [Decidable c] (h : c) : V.bl (decide c) = V.bl true := by rw [decide_eq_true h]
theorem dF {c : Prop} [Decidable c] (h : ¬ c) : V.bl (decide c) = V.bl false := by rw [decide_eq_false h]
theorem qN {c : Prop} [Decidable c] {Q : VK} {H : Hp} (h : ¬ c) (k : Q (.bl true) H) : Q (.bl (!decide c)) H := by rw [decide_eq_false h]; exact k
structure Consts (mg : Str → Option Value) : Prop where
  blank : ∃ t, mg "BLANK" = some (.int 32 t)
  tilde : ∃ t, mg "TILDE" = some (.int 126 t)
  percent : ∃ t, mg "PERCENT" = some (.int 37 t)
section
variable {P : Program} {w : World} {K : PySem.W.Frag} {mg : Str → Option Value} {base : Heap}
def spSg : Sp := fun vs H Q _ => ∃ c : Nat, vs = [.str ⟨#[c]⟩] ∧ SgOk c ∧ Q (.bl true) H
theorem sc_sg : FnScope ["sign"] ["sign"] (defScope s_is_sign) := ⟨rfl, rfl, rfl, by decide +kernel, rfl, by decide +kernel, by decide +kernel⟩
theorem ok_sg {f : Addr} {fd : FuncData} (T : Txt mg) (N : Consts mg) (F : Fun K "is_sign" "is_sign" s_is_sign f fd) : FnOk P w K mg base CX0 1 f fd ["sign"] spSg := by
  refine F.ok sc_sg (fun vs H Q E h => ?_) (fun cdv A outer s H vs Q E hr h => ?_)
  · obtain ⟨c, rfl, _⟩ := h
    rfl
  · obtain ⟨c, rfl, ⟨h1, h2, h3⟩, k⟩ := h
    obtain ⟨t1, e1⟩ := N.blank
    obtain ⟨t2, e2⟩ := N.tilde
    obtain ⟨t3, e3⟩ := N.percent
    refine ⟨_, pss_one (ps_ret (pe_and (pe_chain op_le op_le (pe_glob (v := .int 32) rfl e1 ⟨_, rfl⟩) (pe_callB call_ord (by rfl) T.ord (by decide +kernel) (pa_cons (pv 0) pa_nil)) (pe_glob (v := .int 126) rfl e2 ⟨_, rfl⟩))
      (pe_one (pe_cmpR op_ne (pe_callB call_ord (by rfl) T.ord (by decide +kernel) (pa_cons (pv 0) pa_nil)) (pe_glob (v := .int 37) rfl e3 ⟨_, rfl⟩) (nomark _))))), ?_⟩
    refine ⟨_, rfl, _, rfl, rfl, 32, (c : Int), rfl, rfl, true, dT (show (32 : Int) ≤ c by omega), iteT ⟨(c : Int), 126, rfl, rfl, ?_⟩⟩
    have e4 : V.bl (decide ((c : Int) ≤ 126)) = V.bl true := dT (by omega)
    refine ⟨true, e4, iteT ⟨_, rfl, _, rfl, rfl, rfl, qN (fun z => ?_) k⟩⟩
    injection z with z
    exact h3 (Int.ofNat.inj z)
def spText (cs : List (Addr × Addr)) : Sp := fun vs H Q _ => ∃ (z : Str) (m : Int), vs = [.str z, .int m] ∧ Tabs cs H ∧ (z.length : Int) ≤ m ∧ z.length ≤ 1000 ∧ (∀ c ∈ z.cps.toList, SgOk c) ∧ ∀ H', Ex cs H H' → Q (.bl true) H'
theorem sc_text : FnScope ["value", "most"] ["value", "most"] (defScope s_is_text) := ⟨rfl, rfl, rfl, by decide +kernel, rfl, by decide +kernel, by decide +kernel⟩
theorem ok_text {f c Pt g : Addr} {fd fdg : FuncData} {cs : List (Addr × Addr)} (T : Txt mg) (F : Fun K "is_text_of_signs" "is_text_of_signs" s_is_text f fd) (hc : fd.code = .ref c) (TB : GxR.TabB base mg c Pt) (hm : (c, Pt) ∈ cs)
    (G : FnOk P w K mg base CX0 1 g fdg ["sign"] spSg) (kp : PySem.W.keepIn K (.ref g) = true) (bd : Binds K fdg ["sign"] []) (mgg : mg "is_sign" = some (.ref g)) : FnOk P w K mg base CX0 5 f fd ["value", "most"] (spText cs) := by
  refine fun_okT F hc sc_text (fun vs H Q E h => ?_) (fun A outer s H vs Q E hr h => ?_)
  · obtain ⟨z, m, rfl, _⟩ := h
    rfl
  · obtain ⟨z, m, rfl, hT, h1, h2, h3, k⟩ := h
    refine ⟨_, pss_one (ps_ret (pe_and (pe_callB call_isi (by rfl) T.isin (by decide +kernel) (pa_cons (pv 0) (pa_cons (pe_bltn (v := .ty "str") (by rfl) T.str (by decide +kernel) rfl) pa_nil)))
      (pe_and (pe_cmpR op_le (pe_callB call_len_str (by rfl) T.len PySem.boot_len (pa_cons (pv 0) pa_nil)) (pv 1) (nomark _))
        (pe_one (pe_allG (k := 1) (P := Pt) hr (by rfl) T.all TB rfl ⟨rfl, rfl, by decide +kernel, by decide +kernel, rfl, rfl⟩ (pi_str (pv 0)) (fun A' code s4 H4 fp hr' => pe_call G hr' (by rfl) mgg kp bd .nil pass0 (pa_cons (pv 0) pa_nil)) (fun _ => rfl)))))), ?_⟩
    refine ⟨_, rfl, _, _, _, _, true, rfl, .ty _, .base (.str z), kit_ty (by decide +kernel), true, rfl, iteT ⟨_, rfl, z, rfl, line10 h2, _, rfl, _, _, rfl, rfl, true, dT h1, iteT ⟨_, rfl, z, rfl, hT _ hm, fun H2 hH2 => ?_⟩⟩⟩
    refine all_by (w := walk_str (z := z)) (fun _ => true) (fun _ H' => H' = H2) rfl (fun _ _ _ _ => trivial) (fun i v H3 H4 hi e y Z hZ => ?_) (fun H3 e _ => ?_) (fun i H3 _ e _ => by cases e)
    · obtain ⟨rfl, c, hc, rfl⟩ := y
      subst e
      refine ⟨_, rfl, c, rfl, h3 c ?_, hZ _ rfl⟩
      exact List.mem_of_getElem? (by rw [Array.getElem?_toList]; exact hc)
    · subst e
      exact k _ (Ex.tabbed hT hm hH2)
end
end TG
namespace TG
open PySem L2 Gx
/-- a page: its rows' tuples at as -/
structure PageAt (K : PySem.W.Frag) (H : Hp) (a : Addr) (as : List Addr) (rows : List (List Str)) : Prop where
  lst : SqL K H a (as.map V.ref)
  len : as.length = rows.length
  row : ∀ (i : Nat) (p : Addr) (r : List Str), as[i]? = some p → rows[i]? = some r → SqT K H p (sV r)
structure PgOk (rows : List (List Str)) : Prop where
  pos : 1 ≤ rows.length
  len : rows.length ≤ 30
  rows : ∀ r ∈ rows, RowOk r
theorem PageAt.ex {K : PySem.W.Frag} {cs : List (Addr × Addr)} {H H' : Hp} {a : Addr} {as : List Addr} {rows : List (List Str)} (p : PageAt K H a as rows) (e : Ex cs H H') : PageAt K H' a as rows :=
  ⟨e.sqL p.lst, p.len, fun i q r h1 h2 => e.sqT (p.row i q r h1 h2)⟩
theorem get_map {α β : Type} {f : α → β} {xs : List α} {i : Nat} {y : β} (h : (xs.map f)[i]? = some y) : ∃ x, xs[i]? = some x ∧ y = f x := by
  rw [List.getElem?_map] at h
  cases e : xs[i]? with
  | none => rw [e] at h; cases h
  | some x => rw [e] at h; cases h; exact ⟨x, rfl, rfl⟩
section
variable {P : Program} {w : World} {K : PySem.W.Frag} {mg : Str → Option Value} {base : Heap} {cs : List (Addr × Addr)}
structure StyleAt (K : PySem.W.Frag) (H : Hp) (a : Addr) (gap least : Int) : Prop where
  tup : SqT K H a [.int gap, .int least]
  g0 : 0 ≤ gap
  g1 : gap ≤ 4
  l0 : 0 ≤ least
  l1 : least ≤ 12
end
end TG
namespace TG
open PySem L2 Gx
abbrev cl (z : Str) : List Nat := z.cps.toList
def restL (l : List Nat) : List Nat := if l.head? = some 45 then l.tail else l
def figB (z : Str) : Bool := decide (restL (cl z) ≠ []) && (restL (cl z)).all fun c => decide (48 ≤ c ∧ c ≤ 57)
section
variable {P : Program} {w : World} {K : PySem.W.Frag} {mg : Str → Option Value} {base : Heap} {cs : List (Addr × Addr)}
end
end TG
namespace TG
open PySem L2 Gx
def fillB (zs : List Str) : List Str := zs.filter fun z => decide (cl z ≠ [])
def rightB (zs : List Str) : Bool := decide (fillB zs ≠ []) && (fillB zs).all figB
section
variable {P : Program} {w : World} {K : PySem.W.Frag} {mg : Str → Option Value} {base : Heap} {cs : List (Addr × Addr)}
end
end TG
namespace TG
open PySem L2 Gx
def clB (rows : List (List Str)) (c i : Nat) : Bool := match rows[i]? with
  | some r => decide (c + 1 < r.length)
  | none => false
def hiB (rows : List (List Str)) (c i : Nat) : Nat := i + ((rows.drop i).takeWhile fun r => decide (c + 1 < r.length)).length
/-- pairs of numbers at ts -/
structure PairsAt (H : Hp) (ts : List Addr) (ps : List (Nat × Nat)) : Prop where
  len : ts.length = ps.length
  at_ : ∀ (i : Nat) (t : Addr) (p : Nat × Nat), ts[i]? = some t → ps[i]? = some p → H t = some (.tup [.int (p.1 : Nat), .int (p.2 : Nat)])
theorem PairsAt.keep {H H' : Hp} {ts : List Addr} {ps : List (Nat × Nat)} (h : PairsAt H ts ps) (k : ∀ b xs, H b = some (.tup xs) → H' b = some (.tup xs)) : PairsAt H' ts ps := ⟨h.len, fun i t p h1 h2 => k _ _ (h.at_ i t p h1 h2)⟩
section
variable {P : Program} {w : World} {K : PySem.W.Frag} {mg : Str → Option Value} {base : Heap} {cs : List (Addr × Addr)}
end
end TG
namespace TG
open PySem L2 Gx
abbrev nilS : Str := ⟨#[]⟩
def cellsB (rows : List (List Str)) (c b e : Nat) : List Str := ((rows.drop b).take (e - b)).map fun r => r.getD c nilS
def longB : List Str → Nat
  | [] => 0
  | z :: zs => max z.length (longB zs)
def widthB (zs : List Str) (gap least : Int) : Int := if least > (longB zs : Int) + gap then least else (longB zs : Int) + gap
def holdB (zs : List Str) (b : Nat) (gap least : Int) : List Int := if least < (longB zs : Int) + gap then ((List.range zs.length).filter fun i => decide ((zs.getD i nilS).length = longB zs)).map fun i => ((b + i : Nat) : Int) else []
section
variable {P : Program} {w : World} {K : PySem.W.Frag} {mg : Str → Option Value} {base : Heap} {cs : List (Addr × Addr)}
/-- the told tuple at t, its holders at h -/
def DescAt (H : Hp) (t h : Addr) (c b e : Nat) (zs : List Str) (gap least : Int) : Prop :=
  H t = some (.tup [.int (c : Nat), .int (b : Nat), .int (e : Nat), .int (widthB zs gap least), .bl (rightB zs), .ref h]) ∧ H h = some (.lst ((holdB zs b gap least).map V.int))
end
end TG
namespace TG
open PySem L2 Gx
/-- the told tuples at ts, their holders at hs -/
structure DescsAt (H : Hp) (ts hs : List Addr) (es : List (Nat × Nat × Nat)) (rows : List (List Str)) (gap least : Int) : Prop where
  len : ts.length = es.length
  len2 : hs.length = es.length
  at_ : ∀ (i : Nat) (t h : Addr) (q : Nat × Nat × Nat), ts[i]? = some t → hs[i]? = some h → es[i]? = some q → DescAt H t h q.1 q.2.1 q.2.2 (cellsB rows q.1 q.2.1 q.2.2) gap least
theorem DescsAt.keep {H H' : Hp} {ts hs : List Addr} {es : List (Nat × Nat × Nat)} {rows : List (List Str)} {gap least : Int} (x : DescsAt H ts hs es rows gap least) (k : ∀ b o, H b = some o → (b ∈ ts ∨ b ∈ hs) → (∀ ps, o ≠ .tbl ps) → H' b = some o) : DescsAt H' ts hs es rows gap least :=
  ⟨x.len, x.len2, fun i t h q h1 h2 h3 => ⟨k _ _ (x.at_ i t h q h1 h2 h3).1 (.inl (List.mem_of_getElem? h1)) (fun ps z => by cases z), k _ _ (x.at_ i t h q h1 h2 h3).2 (.inr (List.mem_of_getElem? h2)) (fun ps z => by cases z)⟩⟩
theorem StyleAt.ex {K : PySem.W.Frag} {cs : List (Addr × Addr)} {H H' : Hp} {a : Addr} {gap least : Int} (p : StyleAt K H a gap least) (e : Ex cs H H') : StyleAt K H' a gap least := ⟨e.sqT p.tup, p.g0, p.g1, p.l0, p.l1⟩
section
variable {P : Program} {w : World} {K : PySem.W.Frag} {mg : Str → Option Value} {base : Heap} {cs : List (Addr × Addr)}
end
end TG
namespace TG
open PySem L2 Gx
theorem cl_app (x y : Str) : cl (x ++ y) = cl x ++ cl y := TL.tl_append x y
theorem joinL_nil : ∀ l : List (List Nat), TL.joinL [] l = l.flatten
  | [] => rfl
  | [p] => by simp [TL.joinL]
  | p :: q :: r => by
    show p ++ ([] ++ TL.joinL [] (q :: r)) = _
    rw [joinL_nil (q :: r)]
    rfl
theorem cl_join (ys : List Str) : cl (Txt.join "" ys) = (ys.map cl).flatten := by
  have e : ("" : Str) = SX.S [] := by decide +kernel
  have e2 : ys = (ys.map cl).map SX.S := by
    rw [List.map_map]
    conv => lhs; rw [← List.map_id ys]
    exact List.map_congr_left fun y _ => (SX.S_tl y).symm
  rw [e]
  conv => lhs; rw [e2]
  rw [SX.join_S, joinL_nil]
theorem num_ok {n : Int} (h0 : 0 ≤ n) (h1 : n < 10 ^ 9) : (Str.ofString (toString n)).length ≤ 9 ∧ ∀ c ∈ cl (Str.ofString (toString n)), 48 ≤ c ∧ c ≤ 57 := by
  refine ⟨PyProof.Rows.toString_length_le h0 (by decide) h1, fun c hc => ?_⟩
  obtain ⟨m, rfl⟩ := Int.eq_ofNat_of_zero_le h0
  have hc' : c ∈ (Str.ofString (toString ((m : Nat) : Int))).cps.toList := hc
  rw [PySem.W.KIN.signs_num] at hc'
  obtain ⟨ch, hch, e⟩ := List.mem_map.mp hc'
  have r := PyProof.Rows.digit_range (Nat.isDigit_of_mem_toDigits (by decide) (by decide) hch)
  rw [← e]
  exact r
instance (c : Nat) : Decidable (SgOk c) := inferInstanceAs (Decidable (32 ≤ c ∧ c ≤ 126 ∧ c ≠ 37))
theorem sg_of {z : Str} (h : (z.cps.toList.all fun c => decide (SgOk c)) = true) : ∀ c ∈ cl z, SgOk c := fun c hc => of_decide_eq_true (List.all_eq_true.mp h c hc)
end TG
namespace TG
open PySem L2 Gx
abbrev everyS : Str := " !\"#$&'()*+,-./0123456789:;<=>?@ABCDEFGHIJKLMNOPQRSTUVWXYZ[\\]^_`abcdefghijklmnopqrstuvwxyz{|}~"
theorem every_ok : ∀ c ∈ cl everyS, SgOk c := sg_of (by decide +kernel)
theorem emp_len : (Str.ofString "").length = 0 := by decide +kernel
theorem every_len : (cl everyS).length = 94 := by decide +kernel
/-- one of a written list -/
theorem pick {α : Type} {xs : List α} {i : Int} (h0 : 0 ≤ i) (h1 : i < xs.length) : ∃ x, x ∈ xs ∧ atI xs i = some x := by
  obtain ⟨n, rfl⟩ := Int.eq_ofNat_of_zero_le h0
  have hn : n < xs.length := by have : ((n : Nat) : Int) < xs.length := h1; omega
  exact ⟨xs[n], List.getElem_mem hn, atI_nat (List.getElem?_eq_getElem hn)⟩
theorem len_cl (z : Str) : z.length = (cl z).length := by simp [Str.length, cl]
theorem box_new {H : Hp} {b l p : Addr} {o : HO} (x : BoxAt H b l) (n : H p = none) : BoxAt (upd H p o) b l := by
  obtain ⟨ns, st, h1, h2, h3⟩ := x
  exact ⟨ns, st, by rw [upd_ne (ne_of_none h1 n)]; exact h1, by rw [upd_ne (ne_of_none h2 n)]; exact h2, h3⟩
theorem new_ne {H : Hp} {b l p : Addr} (x : BoxAt H b l) (n : H p = none) : p ≠ b ∧ p ≠ l := by
  obtain ⟨ns, st, h1, h2, h3⟩ := x
  exact ⟨(ne_of_none h1 n).symm, (ne_of_none h2 n).symm⟩
theorem box_upd {H : Hp} {b l p : Addr} {o : HO} (x : BoxAt H b l) (h1 : p ≠ b) (h2 : p ≠ l) : BoxAt (upd H p o) b l := by
  obtain ⟨ns, st, g1, g2, g3⟩ := x
  exact ⟨ns, st, by rw [upd_ne h1.symm]; exact g1, by rw [upd_ne h2.symm]; exact g2, g3⟩
theorem kb_new {H : Hp} {b l p : Addr} {o : HO} (n : H p = none) : KB b l H (upd H p o) := fun c u e _ _ => by rw [upd_ne (ne_of_none e n)]; exact e
theorem kb_upd {H H' : Hp} {b l p : Addr} {o : HO} (x : KB b l H H') (n : H p = none) : KB b l H (upd H' p o) := fun c u e h1 h2 => by rw [upd_ne (ne_of_none e n)]; exact x c u e h1 h2
theorem atI_map {α β : Type} {f : α → β} {xs : List α} {i : Int} {x : α} (h : atI xs i = some x) : atI (xs.map f) i = some (f x) := by
  unfold atI at h ⊢
  rw [List.length_map]
  cases e : ixN xs.length i with
  | none => rw [e] at h; cases h
  | some j =>
    rw [e] at h
    have h' : xs[j]? = some x := h
    show (xs.map f)[j]? = some (f x)
    rw [List.getElem?_map, h']
    rfl
/-- a list of single signs at D -/
structure OnesAt (b l : Addr) (H : Hp) (D : Addr) (i : Nat) (H' : Hp) : Prop where
  box : BoxAt H' b l
  keep : KB b l H H'
  nD : H D = none
  db : D ≠ b
  dl : D ≠ l
  ones : ∃ cs : List Nat, cs.length = i ∧ (∀ c ∈ cs, SgOk c) ∧ H' D = some (.lst (sV (cs.map fun c => ⟨#[c]⟩)))
theorem OnesAt.start {b l : Addr} {H H1 : Hp} {D : Addr} (hB : BoxAt H1 b l) (x : KB b l H H1) (n : H1 D = none) (nb : BoxAt H b l) : OnesAt b l H D 0 (upd H1 D (.lst [])) := by
  obtain ⟨d1, d2⟩ := new_ne hB n
  have nD : H D = none := by
    cases e : H D with
    | none => rfl
    | some o => rw [x D o e d1 d2] at n; cases n
  exact ⟨box_new hB n, kb_upd x nD, nD, d1, d2, [], rfl, fun c h => by simp at h, upd_same⟩
theorem OnesAt.more {b l : Addr} {H H1 H2 : Hp} {D : Addr} {i c : Nat} (o : OnesAt b l H D i H1) (hc : SgOk c) (hB : BoxAt H2 b l) (x : KB b l H1 H2) :
    ∃ acc, H2 D = some (.lst acc) ∧ acc.length = i ∧ OnesAt b l H D (i + 1) (upd H2 D (.lst (acc ++ [.str ⟨#[c]⟩]))) := by
  obtain ⟨cs, h1, h2, h3⟩ := o.ones
  refine ⟨_, x D _ h3 o.db o.dl, by rw [List.length_map, List.length_map, h1], box_upd hB o.db o.dl, kb_upd (o.keep.trans x) o.nD, o.nD, o.db, o.dl, cs ++ [c], by rw [List.length_append, h1]; rfl, fun d hd => ?_, ?_⟩
  · rcases List.mem_append.mp hd with h | h
    · exact h2 d h
    · rw [List.mem_singleton.mp h]; exact hc
  · rw [upd_same]
    simp [sV]
theorem OnesAt.done {b l : Addr} {H H1 : Hp} {D : Addr} {i : Nat} (o : OnesAt b l H D i H1) : ∃ ys : List Str, H1 D = some (.lst (ys.map V.str)) ∧ ys.length = i ∧ (ys.map fun y => y.length).sum = i ∧ (i ≤ 10 → CellOk (Txt.join "" ys)) := by
  obtain ⟨cs, h1, h2, h3⟩ := o.ones
  refine ⟨_, h3, by rw [List.length_map, h1], ?_, fun hi => ?_⟩
  · rw [← h1]
    clear h1 h2 h3
    induction cs with
    | nil => rfl
    | cons c cs ih =>
      rw [List.map_cons, List.map_cons, List.sum_cons, ih, List.length_cons]
      show 1 + cs.length = cs.length + 1
      omega
  · have e : cl (Txt.join "" (cs.map fun c => (⟨#[c]⟩ : Str))) = cs := by
      rw [cl_join, List.map_map]
      clear h1 h2 h3
      induction cs with
      | nil => rfl
      | cons c cs ih =>
        rw [List.map_cons, List.flatten_cons, ih]
        rfl
    exact ⟨by rw [len_cl, e, h1]; exact hi, fun c hc => h2 c (by have hc : c ∈ cl _ := hc; rw [e] at hc; exact hc)⟩
section
variable {P : Program} {w : World} {K : PySem.W.Frag} {mg : Str → Option Value} {base : Heap} {cs : List (Addr × Addr)}
def spSign : Sp := fun vs H Q _ => ∃ (b l : Addr), vs = [.ref b] ∧ BoxAt H b l ∧ ∀ (c : Nat) (H' : Hp), SgOk c → BoxAt H' b l → KB b l H H' → Q (.str ⟨#[c]⟩) H'
theorem sc_sign : FnScope ["_law_box", "_law_every"] ["_law_box"] (defScope s_sign) := ⟨rfl, rfl, rfl, by decide +kernel, rfl, by decide +kernel, by decide +kernel⟩
theorem ok_sign {f g : Addr} {fd fdg : FuncData} (F : Fun K "_law_sign" "_law_sign" s_sign f fd)
    (G : FnOk P w K mg base CX0 1 g fdg ["_law_box", "_law_many"] spTake) (kp : PySem.W.keepIn K (.ref g) = true) (bd : Binds K fdg ["_law_box", "_law_many"] []) (mgg : mg "_law_take" = some (.ref g)) : FnOk P w K mg base CX0 2 f fd ["_law_box"] spSign := by
  refine F.ok sc_sign (fun vs H Q E h => ?_) (fun cdv A outer s H vs Q E hr h => ?_)
  · obtain ⟨b, l, rfl, _⟩ := h
    rfl
  · obtain ⟨b, l, rfl, hB, k⟩ := h
    have nd := sc_sign.nd
    refine ⟨_, pss_cons (ps_set (i := 1) nd rfl (.inl rfl) pe_str) (pss_one (ps_ret (pe_ix ix_str (pv 1) (pe_call G hr (by rfl) mgg kp bd .nil pass0 (pa_cons (pv 0) (pa_cons pe_int pa_nil))) (fun _ _ => rfl)))), ?_⟩
    refine ⟨_, rfl, _, rfl, b, l, 94, rfl, hB, by decide, by decide, fun r H1 r0 r1 hB1 x1 => ?_⟩
    obtain ⟨c, hc, e⟩ := pick (xs := cl everyS) r0 (by rw [every_len]; exact r1)
    exact ⟨everyS, r, c, rfl, rfl, line10 (by decide +kernel), e, k c H1 (every_ok c hc) hB1 x1⟩
end
end TG
namespace TG
open PySem L2 Gx
theorem new_old {b l p : Addr} {H H1 : Hp} (x : KB b l H H1) (hB : BoxAt H1 b l) (n : H1 p = none) : H p = none := by
  obtain ⟨d1, d2⟩ := new_ne hB n
  cases e : H p with
  | none => rfl
  | some o => rw [x p o e d1 d2] at n; cases n
/-- a list of cells at D -/
structure StrsAt (b l : Addr) (H : Hp) (D : Addr) (i : Nat) (H' : Hp) : Prop where
  box : BoxAt H' b l
  keep : KB b l H H'
  nD : H D = none
  db : D ≠ b
  dl : D ≠ l
  zsat : ∃ zs : List Str, zs.length = i ∧ (∀ z ∈ zs, CellOk z) ∧ H' D = some (.lst (sV zs))
theorem StrsAt.start {b l : Addr} {H H1 : Hp} {D : Addr} (hB : BoxAt H1 b l) (x : KB b l H H1) (n : H1 D = none) : StrsAt b l H D 0 (upd H1 D (.lst [])) := by
  obtain ⟨d1, d2⟩ := new_ne hB n
  have nD := new_old x hB n
  exact ⟨box_new hB n, kb_upd x nD, nD, d1, d2, [], rfl, fun c h => by simp at h, upd_same⟩
theorem StrsAt.more {b l : Addr} {H H1 H2 : Hp} {D : Addr} {i : Nat} {z : Str} (o : StrsAt b l H D i H1) (hc : CellOk z) (hB : BoxAt H2 b l) (x : KB b l H1 H2) :
    ∃ acc, H2 D = some (.lst acc) ∧ acc.length = i ∧ StrsAt b l H D (i + 1) (upd H2 D (.lst (acc ++ [.str z]))) := by
  obtain ⟨zs, h1, h2, h3⟩ := o.zsat
  refine ⟨_, x D _ h3 o.db o.dl, by rw [List.length_map, h1], box_upd hB o.db o.dl, kb_upd (o.keep.trans x) o.nD, o.nD, o.db, o.dl, zs ++ [z], by rw [List.length_append, h1]; rfl, fun d hd => ?_, ?_⟩
  · rcases List.mem_append.mp hd with h | h
    · exact h2 d h
    · rw [List.mem_singleton.mp h]; exact hc
  · rw [upd_same]
    simp [sV]
/-- a list of numbers at D, below m -/
structure IntsAt (b l : Addr) (H : Hp) (D : Addr) (i : Nat) (H' : Hp) : Prop where
  box : BoxAt H' b l
  keep : KB b l H H'
  nD : H D = none
  db : D ≠ b
  dl : D ≠ l
  isat : ∃ zs : List Int, zs.length = i ∧ H' D = some (.lst (zs.map V.int))
theorem IntsAt.start {b l : Addr} {H H1 : Hp} {D : Addr} (hB : BoxAt H1 b l) (x : KB b l H H1) (n : H1 D = none) : IntsAt b l H D 0 (upd H1 D (.lst [])) := by
  obtain ⟨d1, d2⟩ := new_ne hB n
  have nD := new_old x hB n
  exact ⟨box_new hB n, kb_upd x nD, nD, d1, d2, [], rfl, upd_same⟩
theorem IntsAt.more {b l : Addr} {H H1 H2 : Hp} {D : Addr} {i : Nat} {z : Int} (o : IntsAt b l H D i H1) (hB : BoxAt H2 b l) (x : KB b l H1 H2) :
    ∃ acc, H2 D = some (.lst acc) ∧ acc.length = i ∧ IntsAt b l H D (i + 1) (upd H2 D (.lst (acc ++ [.int z]))) := by
  obtain ⟨zs, h1, h3⟩ := o.isat
  refine ⟨_, x D _ h3 o.db o.dl, by rw [List.length_map, h1], box_upd hB o.db o.dl, kb_upd (o.keep.trans x) o.nD, o.nD, o.db, o.dl, zs ++ [z], by rw [List.length_append, h1]; rfl, ?_⟩
  rw [upd_same]
  simp
theorem ixm1 {n : Nat} : ixN (n + 1) (-1) = some n := by
  unfold ixN
  rw [if_neg (by decide), if_pos (by omega)]
  congr 1
  omega
theorem atm1 {α : Type} {xs : List α} {n : Nat} {v : α} (hl : xs.length = n + 1) (h : xs[n]? = some v) : atI xs (-1) = some v := by
  unfold atI
  rw [hl, ixm1]
  exact h
/-- rows' tuples -/
def RowsP (H : Hp) (as : List Addr) : Prop := ∀ p ∈ as, ∃ r, H p = some (.tup (sV r)) ∧ RowOk r
theorem RowsP.keep {H H' : Hp} {as : List Addr} (x : RowsP H as) (k : ∀ p xs, H p = some (.tup xs) → H' p = some (.tup xs)) : RowsP H' as := fun p hp => by
  obtain ⟨r, h1, h2⟩ := x p hp
  exact ⟨r, k _ _ h1, h2⟩
theorem RowsP.page {H : Hp} : ∀ {as : List Addr}, RowsP H as → ∃ rows : List (List Str), as.length = rows.length ∧ (∀ (i : Nat) (p : Addr) (r : List Str), as[i]? = some p → rows[i]? = some r → H p = some (.tup (sV r))) ∧ ∀ r ∈ rows, RowOk r
  | [], _ => ⟨[], rfl, fun i p r h => by simp at h, fun r h => by simp at h⟩
  | a :: as, x => by
    obtain ⟨rows, h1, h2, h3⟩ := RowsP.page (as := as) fun p hp => x p (List.mem_cons_of_mem _ hp)
    obtain ⟨r, g1, g2⟩ := x a List.mem_cons_self
    refine ⟨r :: rows, by rw [List.length_cons, List.length_cons, h1], fun i p q e1 e2 => ?_, fun q hq => ?_⟩
    · cases i with
      | zero => cases e1; cases e2; exact g1
      | succ i => exact h2 i p q (by simpa using e1) (by simpa using e2)
    · rcases List.mem_cons.mp hq with z | z
      · rw [z]; exact g2
      · exact h3 q z
section
variable {P : Program} {w : World} {K : PySem.W.Frag} {mg : Str → Option Value} {base : Heap} {cs : List (Addr × Addr)}
end
end TG
namespace TG
open PySem L2 Gx
theorem same_new {H : Hp} {p : Addr} {o : HO} (n : H p = none) : Same H (upd H p o) := fun c u h => by rw [upd_ne (ne_of_none h n)]; exact h
theorem same_sqL {K : PySem.W.Frag} {H H' : Hp} {a : Addr} {xs : List V} (e : Same H H') (h : SqL K H a xs) : SqL K H' a xs := by
  rcases h with (z | ⟨o, z⟩) | z
  · exact .inl (.inl (e _ _ z))
  · exact .inl (.inr ⟨o, e _ _ z⟩)
  · exact .inr z
theorem same_sqT {K : PySem.W.Frag} {H H' : Hp} {a : Addr} {xs : List V} (e : Same H H') (h : SqT K H a xs) : SqT K H' a xs := by
  rcases h with (z | ⟨o, z⟩) | z
  · exact .inl (.inl (e _ _ z))
  · exact .inl (.inr ⟨o, e _ _ z⟩)
  · exact .inr z
theorem PageAt.same {K : PySem.W.Frag} {H H' : Hp} {a : Addr} {as : List Addr} {rows : List (List Str)} (p : PageAt K H a as rows) (e : Same H H') : PageAt K H' a as rows :=
  ⟨same_sqL e p.lst, p.len, fun i q r h1 h2 => same_sqT e (p.row i q r h1 h2)⟩
theorem canAll_strs : ∀ {zs : List Str}, (∀ z ∈ zs, ∀ c ∈ cl z, SgOk c) → PyData.canLayAll0 (zs.map PyData.str) = true
  | [], _ => rfl
  | z :: zs, h => by
    rw [List.map_cons]
    simp only [PyData.canLayAll0, PyData.canLay0, Bool.and_eq_true]
    refine ⟨?_, canAll_strs fun y hy => h y (List.mem_cons_of_mem _ hy)⟩
    unfold PyData.strOk
    rw [← Array.all_toList, List.all_eq_true]
    intro c hc
    have := h z List.mem_cons_self c hc
    unfold SgOk at this
    exact decide_eq_true (by omega)
theorem depthAll_strs : ∀ zs : List Str, PyData.depthAll (zs.map PyData.str) = 0
  | [] => rfl
  | _ :: r => by simp [PyData.depthAll, PyData.depth, depthAll_strs r]
theorem dp_strs {K : PySem.W.Frag} {H : Hp} : ∀ zs : List Str, DpAll K H (sV zs) (zs.map PyData.str)
  | [] => .nil
  | z :: zs => .cons (.str z) (dp_strs zs)
section
variable {P : Program} {w : World} {K : PySem.W.Frag} {mg : Str → Option Value} {base : Heap} {cs : List (Addr × Addr)}
end
end TG
namespace TG
open PySem L2 Gx
def loB (rows : List (List Str)) (c : Nat) : Nat → Nat
  | 0 => 0
  | i + 1 => if clB rows c i = true then loB rows c i else i + 1
section
variable {P : Program} {w : World} {K : PySem.W.Frag} {mg : Str → Option Value} {base : Heap} {cs : List (Addr × Addr)}
end
end TG
namespace TG
open PySem L2 Gx
end TG
namespace TG
open PySem L2 Gx
def wB (rows : List (List Str)) (gap least : Int) (i c : Nat) : Int := widthB (cellsB rows c (loB rows c i) (hiB rows c i)) gap least
def rB (rows : List (List Str)) (i c : Nat) : Bool := rightB (cellsB rows c (loB rows c i) (hiB rows c i))
end TG
namespace TG
open PySem L2 Gx
section
variable {P : Program} {w : World} {K : PySem.W.Frag} {mg : Str → Option Value} {base : Heap} {cs : List (Addr × Addr)}
end
end TG
namespace TG
open PySem L2 Gx
/-- the list at l holds what is told of the first n closed cells of row i -/
def CellsAt (H : Hp) (rows : List (List Str)) (gap least : Int) (i n : Nat) (l : Addr) : Prop :=
  ∃ ts : List Addr, H l = some (.lst (ts.map V.ref)) ∧ ts.length = n ∧ ∀ (c : Nat) (t : Addr), ts[c]? = some t → H t = some (.tup [.int (wB rows gap least i c), .bl (rB rows i c)])
theorem CellsAt.ext {H H' : Hp} {rows : List (List Str)} {gap least : Int} {i n : Nat} {l : Addr} (x : CellsAt H rows gap least i n l) (e : LamX.ExtN H H') : CellsAt H' rows gap least i n l :=
  let ⟨ts, h1, h2, h3⟩ := x
  ⟨ts, e _ _ h1 (by intro ps z; cases z), h2, fun c t h => e _ _ (h3 c t h) (by intro ps z; cases z)⟩
theorem CellsAt.upd {H : Hp} {rows : List (List Str)} {gap least : Int} {i n : Nat} {l p : Addr} {xs : List V} {o : HO} (x : CellsAt H rows gap least i n l) (hp : H p = some (.lst xs)) (ne : l ≠ p) : CellsAt (upd H p o) rows gap least i n l :=
  let ⟨ts, h1, h2, h3⟩ := x
  ⟨ts, by rw [upd_ne ne]; exact h1, h2, fun c t h => by rw [upd_ne (ne_of (h3 c t h) hp (by intro z; cases z))]; exact h3 c t h⟩
section
variable {P : Program} {w : World} {K : PySem.W.Frag} {mg : Str → Option Value} {base : Heap} {cs : List (Addr × Addr)}
end
end TG
namespace TG
open PySem L2 Gx
/-- the list at r holds lists of numbers, f tells them -/
structure ToldAt (H : Hp) (r : Addr) (es : List Addr) (f : Nat → List Int) (n : Nat) : Prop where
  lst : H r = some (.lst (es.map V.ref))
  len : es.length = n
  nd : es.Nodup
  at_ : ∀ (i : Nat) (e : Addr), es[i]? = some e → H e = some (.lst ((f i).map V.int))
theorem ToldAt.ext {H H' : Hp} {r : Addr} {es : List Addr} {f : Nat → List Int} {n : Nat} (t : ToldAt H r es f n) (x : LamX.ExtN H H') : ToldAt H' r es f n :=
  ⟨x _ _ t.lst (by intro ps z; cases z), t.len, t.nd, fun i e h => x _ _ (t.at_ i e h) (by intro ps z; cases z)⟩
theorem tabs_ext {cs : List (Addr × Addr)} {H H' : Hp} (t : Tabs cs H) (x : Same H H') : Tabs cs H' := fun p hp => let ⟨ps, h1, h2⟩ := t p hp; ⟨ps, x _ _ h1, h2⟩
theorem same_ext {H H' : Hp} (x : Same H H') : LamX.ExtN H H' := fun b o e _ => x b o e
section
variable {P : Program} {w : World} {K : PySem.W.Frag} {mg : Str → Option Value} {base : Heap} {cs : List (Addr × Addr)}
end
end TG
namespace TG
open PySem L2 Gx
section
variable {P : Program} {w : World} {K : PySem.W.Frag} {mg : Str → Option Value} {base : Heap} {cs : List (Addr × Addr)}
end
end TG
namespace TG
open PySem L2 Gx
section
variable {P : Program} {w : World} {K : PySem.W.Frag} {mg : Str → Option Value} {base : Heap} {cs : List (Addr × Addr)}
end
end TG
namespace TG
open PySem L2 Gx
theorem ToldAt.go {H H' : Hp} {r : Addr} {es : List Addr} {f : Nat → List Int} {n : Nat} (t : ToldAt H r es f n) (x : Same H H') : ToldAt H' r es f n := t.ext (same_ext x)
section
variable {P : Program} {w : World} {K : PySem.W.Frag} {mg : Str → Option Value} {base : Heap} {cs : List (Addr × Addr)}
theorem StyleAt.same {H H' : Hp} {a : Addr} {gap least : Int} (p : StyleAt K H a gap least) (e : Same H H') : StyleAt K H' a gap least := ⟨same_sqT e p.tup, p.g0, p.g1, p.l0, p.l1⟩
end
end TG
namespace TG
open PySem L2 Gx
theorem ToldAt.congr {H : Hp} {r : Addr} {es : List Addr} {f g : Nat → List Int} {n : Nat} (t : ToldAt H r es f n) (e : ∀ i, i < n → f i = g i) : ToldAt H r es g n :=
  ⟨t.lst, t.len, t.nd, fun i u h => by rw [← e i (by rw [← t.len]; exact (List.getElem?_eq_some_iff.mp h).1)]; exact t.at_ i u h⟩
section
variable {P : Program} {w : World} {K : PySem.W.Frag} {mg : Str → Option Value} {base : Heap} {cs : List (Addr × Addr)}
end
end TG
namespace TG
open PySem L2 Gx
def rowsD (rows : List (List Str)) : List PyData := rows.map fun r => .tuple (r.map .str)
theorem tabs_kb {cs : List (Addr × Addr)} {b l : Addr} {H H' : Hp} (t : Tabs cs H) (B : BoxAt H b l) (x : KB b l H H') : Tabs cs H' := fun p hp => by
  obtain ⟨ps, h1, h2⟩ := t p hp
  obtain ⟨ns, st, e1, e2, _⟩ := B
  exact ⟨ps, x _ _ h1 (ne_of h1 e1 (by intro z; cases z)) (ne_of h1 e2 (by intro z; cases z)), h2⟩
theorem box_same {b l : Addr} {H H' : Hp} (B : BoxAt H b l) (x : Same H H') : BoxAt H' b l := let ⟨ns, st, h1, h2, h3⟩ := B; ⟨ns, st, x _ _ h1, x _ _ h2, h3⟩
theorem box_ext {b l : Addr} {H H' : Hp} (B : BoxAt H b l) (x : LamX.ExtN H H') : BoxAt H' b l := let ⟨ns, st, h1, h2, h3⟩ := B; ⟨ns, st, x _ _ h1 (by intro ps z; cases z), x _ _ h2 (by intro ps z; cases z), h3⟩
/-- what stands in a turn of the law: the box, the tables, the page and its copy, the style -/
structure PageT (cs : List (Addr × Addr)) (b l p q h : Addr) (as : List Addr) (rows : List (List Str)) (gap least : Int) (H : Hp) : Prop where
  box : BoxAt H b l
  tab : Tabs cs H
  pg : H p = some (.lst (as.map V.ref))
  hd : H h = some (.lst (as.map V.ref))
  al : as.length = rows.length
  row : ∀ (i : Nat) (a : Addr) (z : List Str), as[i]? = some a → rows[i]? = some z → H a = some (.tup (sV z))
  sty : H q = some (.tup [.int gap, .int least])
  g0 : 0 ≤ gap
  g1 : gap ≤ 4
  l0 : 0 ≤ least
  l1 : least ≤ 12
  ok : PgOk rows
theorem PageT.ext {cs : List (Addr × Addr)} {b l p q h : Addr} {as : List Addr} {rows : List (List Str)} {gap least : Int} {H H' : Hp} (t : PageT cs b l p q h as rows gap least H) (x : LamX.ExtN H H') (y : Tabs cs H') : PageT cs b l p q h as rows gap least H' :=
  ⟨box_ext t.box x, y, x _ _ t.pg (by intro ps z; cases z), x _ _ t.hd (by intro ps z; cases z), t.al, fun i a z h1 h2 => x _ _ (t.row i a z h1 h2) (by intro ps z; cases z), x _ _ t.sty (by intro ps z; cases z), t.g0, t.g1, t.l0, t.l1, t.ok⟩
end TG
namespace Zm
open PySem PySem.Spec PyProof.Rows L2
section
variable {P : Program} {w : World} {A : Around} {E : Value → Shared → Prop} {s : Shared} {z TI TO i1 i2 l1 l2 : Addr}
end
end Zm
namespace Zm
open PySem PySem.Spec PyProof.Rows L2
abbrev k1 (h : Heap) (a : Addr) : Heap := h.push { cls := .type "tuple_iterator", data := .fields #[.ref a, .int 0 0] }
abbrev k2 (h : Heap) (a b : Addr) : Heap := (k1 h a).push { cls := .type "list_iterator", data := .fields #[.ref b, .int 0 0] }
abbrev k3 (h : Heap) (a b : Addr) : Heap := (k2 h a b).push { cls := .type "tuple", data := .seq #[.ref h.objs.size, .ref (k1 h a).objs.size] }
abbrev k4 (h : Heap) (a b : Addr) : Heap := (k3 h a b).push { cls := .type "tuple", data := .seq #[.none, .none] }
abbrev k5 (h : Heap) (a b : Addr) : Heap := (k4 h a b).push { cls := .type "zip", data := .fields #[.none, .bool false, .bool false, .ref (k2 h a b).objs.size, .ref (k3 h a b).objs.size] }
theorem made (a b : Addr) (xs ys : Array Value) : Meets (Builtin.«zip.__new__» ⟨[.type "zip", .ref a, .ref b], []⟩) (fun _ R t => t.heap.IsTuple a xs ∧ t.heap.IsList b ys ∧ R (.ok (.ret (.ref (k4 t.heap a b).objs.size))) { t with heap := k5 t.heap a b }) :=
  .of_wp fun P w A R t h => by
    obtain ⟨hp, g, d, tk, os⟩ := t
    obtain ⟨u1, u2, h⟩ := h
    have hsub := sub_zip
    have v1 : Heap.IsTuple (Shared.heap ⟨hp, g, d, tk, os⟩) a xs := u1
    have v2 : Heap.IsList (Shared.heap ⟨hp.push { cls := .type "tuple_iterator", data := .fields #[.ref a, .int 0 0] }, g, d, tk, os⟩) b ys := Heap.IsList.push u2 _
    wp_walk using wpAny_pyIter_tuple v1, wpAny_pyIter_list v2
    exact ⟨_, rfl, h⟩
section
variable {P : Program} {w : World} {A : Around} {E : Value → Shared → Prop} {s : Shared}
end
end Zm
namespace TG
open PySem L2 Gx
structure Small (rows : List (List Str)) (gap least : Int) : Prop where
  ok : PgOk rows
  g0 : 0 ≤ gap
  g1 : gap ≤ 4
  l0 : 0 ≤ least
  l1 : least ≤ 12
section
variable {P : Program} {w : World} {K : PySem.W.Frag} {mg : Str → Option Value} {base : Heap} {cs : List (Addr × Addr)}
end
end TG
namespace TG
open PySem L2 Gx
section
variable {P : Program} {w : World} {K : PySem.W.Frag} {mg : Str → Option Value} {base : Heap} {cs : List (Addr × Addr)}
end
end TG
namespace Lv
open PySem PySem.Spec PyProof.Rows L2 NdefX GenW
/-- the object at f is the lambda F of the body e -/
def FnL (f : Addr) (F : NF) (e : Expr) : HO := .ext fun h => ∃ (od : Option Addr) (sl : Array (Option Value)) (pm ctv : Value), h.get? f = some (⟨.type "function", od, .func (PySem.W.kla_fn F.name F.qual F.params e F.scope F.cl pm (.ref F.c) ctv), sl⟩ : Obj)
theorem fnL_at {P : Program} {w : World} {H : Hp} {h : Heap} {f : Addr} {F : NF} {e : Expr} (hok : HOk P w H h) (q : H f = some (FnL f F e)) : ∃ (od : Option Addr) (sl : Array (Option Value)) (pm ctv : Value), h.get? f = some (⟨.type "function", od, .func (PySem.W.kla_fn F.name F.qual F.params e F.scope F.cl pm (.ref F.c) ctv), sl⟩ : Obj) := by
  have z := hok f _ q
  obtain ⟨z, _, _⟩ := z
  exact z
theorem fnL_ne {f : Addr} {F : NF} {e : Expr} (ps : Array Value) : FnL f F e ≠ .tbl ps := fun z => by
  unfold FnL at z
  cases z
section
variable {X : Cx} {pins : List (Addr × Obj)} {σ : L2.St} {H : Hp} {s : Shared}
theorem inv_lam {F : NF} {e : Expr} {tk : Nat} {pm ctv : Value} (I : Inv X pins σ H s) :
    Inv X pins σ (upd H s.heap.objs.size (FnL s.heap.objs.size F e)) { s with heap := s.heap.push (PySem.W.kla_obj F.name F.qual F.params e F.scope F.cl pm F.c ctv), toks := tk } := by
  refine I.laid (a := s.heap.objs.size) (fun b u q => Heap.get?_push_of_some _ q) (Nat.le_refl _) ?_
  have q : (s.heap.push (PySem.W.kla_obj F.name F.qual F.params e F.scope F.cl pm F.c ctv)).get? s.heap.objs.size = some (PySem.W.kla_obj F.name F.qual F.params e F.scope F.cl pm F.c ctv) := Heap.get?_push_size _ rfl
  exact ⟨⟨_, _, pm, ctv, q⟩, ⟨_, q⟩, fun h1 h2 ⟨od, sl, p, t, z⟩ st => ⟨od, sl, p, t, st _ z⟩⟩
/-- a lambda's object is made, its code object too, if the table has none yet -/
theorem lam_val {c P : Addr} {params : Arguments} {body : Expr} {scope : Scope} {pos : Pos} {E : Value → Shared → Prop} {Q : Value → Shared → Prop} (I : Inv X pins σ H s) (B : LamX.TabB X.base X.mg c P) (hcode : X.env.code = .ref c)
    (hT : LamX.TabS H P (X.env.qual ++ "<lambda>")) (hdef : defaultsOf params X.env = ([], [])) (hfree : ∀ y ∈ scope.names, y.2 = .free → ∃ c, X.env.cells.lookup y.1 = some c)
    (k : ∀ (f c' : Addr) (H1 : Hp) (s' : Shared), Inv X pins σ H1 s' → (∀ b o, H b = some o → b ≠ P → H1 b = some o) → (∀ b, H1 b = none → H b = none) → LamX.TabS H1 P (X.env.qual ++ "<lambda>") → H f = none →
      H1 f = some (FnL f ⟨"<lambda>", X.env.qual ++ "<lambda>", params, [], scope, cloFrom X.env.cells scope.names [], c'⟩ body) → H1 c' = some (LamX.CodeO c' (X.env.qual ++ "<lambda>")) → Q (.ref f) s') :
    wpAny (model X.prog X.w) X.A (eval (.Lambda params body scope pos) X.env) Q E s := by
  obtain ⟨ps, tP, tok, tin⟩ := hT
  have bP : s.heap.BuiltinsAt X.mg P := B.bm.keeps I.bk
  have gP : s.heap.get? P = some { cls := .none, data := .fields ps } := I.hok P _ tP
  have none3 : ∀ {G : Hp} {x y z : Addr} {o u v : HO} {b : Addr}, upd (upd (upd G x o) y u) z v b = none → G b = none := fun {G x y z o u v b} q => by
    have r1 := q
    unfold upd at r1
    split at r1
    · cases r1
    split at r1
    · cases r1
    split at r1
    · cases r1
    exact r1
  refine PySem.W.kla_eval hdef ?_
  cases hc : codeAmong pos ps.toList with
  | some cv =>
    obtain ⟨c', e, hco⟩ := tin pos cv hc
    subst e
    refine PySem.W.kla_makeFunctionHit (mg := X.mg) (c := c) (P := P) (ps := ps) (closure_ok hfree) I.ok.glob (I.mod.glob.keeps I.bk) hcode (B.code.keeps I.bk) gP tok hc bP fun ctv h' tk hx hsz => ?_
    have I1 : Inv X pins σ H { s with heap := h', toks := tk } := I.kept hx
    have nF : H h'.objs.size = none := I1.hok.fresh (Nat.le_refl _)
    have I2 := inv_lam (F := ⟨"<lambda>", X.env.qual ++ "<lambda>", params, [], scope, cloFrom X.env.cells scope.names [], c'⟩) (e := body) (tk := tk) (pm := (X.mg "__name__").getD .none) (ctv := ctv) I1
    refine k h'.objs.size c' _ _ I2 (fun b o q _ => by rw [upd_ne (ne_of_none q nF)]; exact q) (fun b q => ?_) ⟨ps, by rw [upd_ne (ne_of_none tP nF)]; exact tP, tok, fun p' cv' q => ?_⟩ nF upd_same (by rw [upd_ne (ne_of_none hco nF)]; exact hco)
    · unfold upd at q
      split at q
      · cases q
      · exact q
    · obtain ⟨c0, e1, e2⟩ := tin p' cv' q
      exact ⟨c0, e1, by rw [upd_ne (ne_of_none e2 nF)]; exact e2⟩
  | none =>
    refine PySem.W.kla_makeFunction (mg := X.mg) (c := c) (P := P) (ps := ps) (closure_ok hfree) I.ok.glob (I.mod.glob.keeps I.bk) hcode (B.code.keeps I.bk) gP tok hc B.gP bP fun c' ctv h' tk hx hge hlt hrec htb => ?_
    obtain ⟨c2, oc, vs, t, e2, hoc, hd, hv⟩ := hrec
    cases e2
    have nC : H c' = none := I.hok.fresh hge
    have I1 := LamX.inv_table (t' := tk) (more := #[rawInt pos.line, rawInt pos.col, .ref c']) (h' := h') I tP (fun b o hb q => hx b o hb q) htb hge ⟨oc, vs, t, hoc, hd, hv⟩
    have nF := I1.hok.fresh (Nat.le_refl _)
    have I2 := inv_lam (F := ⟨"<lambda>", X.env.qual ++ "<lambda>", params, [], scope, cloFrom X.env.cells scope.names [], c'⟩) (e := body) (tk := tk) (pm := (X.mg "__name__").getD .none) (ctv := ctv) I1
    have fC : h'.objs.size ≠ c' := Nat.ne_of_gt hlt
    have pC : P ≠ c' := ne_of_none tP nC
    have nF0 : H h'.objs.size = none := I.hok.fresh (Nat.le_trans hge (Nat.le_of_lt hlt))
    have pF : P ≠ h'.objs.size := ne_of_none tP nF0
    have eL : (ps ++ #[rawInt pos.line, rawInt pos.col, .ref c']).toList = ps.toList ++ [rawInt pos.line, rawInt pos.col, .ref c'] := by simp
    have kk : ∀ b o, H b = some o → b ≠ P → upd (upd (upd H P (.tbl (ps ++ #[rawInt pos.line, rawInt pos.col, .ref c']))) c' (LamX.CodeO c' (X.env.qual ++ "<lambda>"))) h'.objs.size (FnL h'.objs.size ⟨"<lambda>", X.env.qual ++ "<lambda>", params, [], scope, cloFrom X.env.cells scope.names [], c'⟩ body) b = some o := fun b o q hb => by
      rw [upd_ne (ne_of_none q nF0), upd_ne (ne_of_none q nC), upd_ne hb]
      exact q
    refine k h'.objs.size c' _ _ I2 kk (fun b q => none3 q) ⟨_, by rw [upd_ne pF, upd_ne pC, upd_same], by rw [eL]; exact PySem.TriplesOk_snoc _ _ _ _ tok, fun p' cv q => ?_⟩ nF0 upd_same (by rw [upd_ne fC.symm, upd_same])
    rw [eL] at q
    rcases LamX.among_app _ tok q with z | z
    · obtain ⟨c0, e1, e2⟩ := tin p' cv z
      exact ⟨c0, e1, kk _ _ e2 (fun y => by rw [y, tP] at e2; exact LamX.codeO_ne ps (Option.some.inj e2).symm)⟩
    · exact ⟨c', z, by rw [upd_ne fC.symm, upd_same]⟩
end
section
variable {P : Program} {w : World} {K : PySem.W.Frag} {mg : Str → Option Value} {base : Heap}
end
end Lv
namespace Tw
open PySem PySem.Spec PyProof.Rows L2
section
variable {X : Cx}
end
end Tw
namespace TG
open PySem L2 Gx PySem.Spec
def blk (c : Nat) : Bool := decide (c = 32)
abbrev bl (n : Nat) : List Nat := List.replicate n 32
theorem dw_head {l : List Nat} : ∀ {a : Nat} {r : List Nat}, l.dropWhile blk = a :: r → blk a = false := by
  induction l with
  | nil => intro a r h; cases h
  | cons b l ih =>
    intro a r h
    rw [List.dropWhile_cons] at h
    by_cases hb : blk b = true
    · rw [if_pos hb] at h; exact ih h
    · rw [if_neg hb] at h
      injection h with h _
      rw [← h]
      exact Bool.not_eq_true _ ▸ hb
theorem dw_eq (p : Nat → Bool) : ∀ l : List Nat, l.dropWhile p = l.drop (l.takeWhile p).length
  | [] => rfl
  | a :: l => by
    rw [List.dropWhile_cons, List.takeWhile_cons]
    by_cases h : p a = true
    · rw [if_pos h, if_pos h, List.length_cons, List.drop_succ_cons]
      exact dw_eq p l
    · rw [if_neg h, if_neg h]
      rfl
def ch (l : List Nat) (p : Nat) : Nat := l.getD p 32
end TG
namespace TG
open PySem L2 Gx
section
variable {rows : List (List Str)} {gap least : Int} (S : Small rows gap least) {i : Nat} {r : List Str} (hr : rows[i]? = some r)
include S hr
end
end TG
namespace TG
open PySem L2 Gx
end TG
namespace TG
open PySem L2 Gx
/-- lines that can be -/
structure LnOk (zs : List Str) : Prop where
  len : zs.length ≤ 30
  ln : ∀ z ∈ zs, z.length ≤ 200
  sg : ∀ z ∈ zs, ∀ c ∈ z.cps.toList, SgOk c
structure Consts2 (mg : Str → Option Value) : Prop where
  lines : ∃ t, mg "MOST_LINES" = some (.int 30 t)
  far : ∃ t, mg "FARTHEST" = some (.int 200 t)
section
variable {P : Program} {w : World} {K : PySem.W.Frag} {mg : Str → Option Value} {base : Heap} {cs : List (Addr × Addr)}
def spLines (K : PySem.W.Frag) (cs : List (Addr × Addr)) : Sp := fun vs H Q _ => ∃ (a : Addr) (zs : List Str), vs = [.ref a] ∧ Tabs cs H ∧ SqL K H a (sV zs) ∧ LnOk zs ∧ ∀ H', Ex cs H H' → Q .non H'
theorem sc_clines : FnScope ["lines", "number", "line"] ["lines"] (defScope s_check_lines) := ⟨rfl, rfl, rfl, by decide +kernel, rfl, by decide +kernel, by decide +kernel⟩
theorem ok_clines {f g : Addr} {fd fdg : FuncData} (T : Txt mg) (N : Consts2 mg) (F : Fun K "check_lines" "check_lines" s_check_lines f fd)
    (G : FnOk P w K mg base CX0 5 g fdg ["value", "most"] (spText cs)) (kp : PySem.W.keepIn K (.ref g) = true) (bd : Binds K fdg ["value", "most"] []) (mgg : mg "is_text_of_signs" = some (.ref g)) : FnOk P w K mg base CX0 6 f fd ["lines"] (spLines K cs) := by
  refine F.ok sc_clines (fun vs H Q E h => ?_) (fun cdv A outer s H vs Q E hr h => ?_)
  · obtain ⟨a, zs, rfl, _⟩ := h
    rfl
  · obtain ⟨a, zs, rfl, hT, hP, hO, k⟩ := h
    have nd := sc_clines.nd
    obtain ⟨t1, e1⟩ := N.lines
    obtain ⟨t2, e2⟩ := N.far
    refine ⟨_, pss_cons (ps_if (pt_not (pt_val (pe_callB call_isi (by rfl) T.isin (by decide +kernel) (pa_cons (pv 0) (pa_cons (pe_bltn (v := .ty "list") (by rfl) T.list (by decide +kernel) rfl) pa_nil))))) (pss_one ps_never) pss_nil)
      (pss_one (ps_for PassesOwn.never rfl (pi_enum (by rfl) T.enum (pa_cons (pv 0) pa_nil)) (pg_tup rfl (pgs_cons (pg_name (i := 1) nd rfl (.inl rfl)) (pgs_cons (pg_name (i := 2) nd rfl (.inl rfl)) pgs_nil)))
        (pss_one (ps_if (PW.pt (pw_or (pt_cmpR op_eq (pv 1) (pe_glob (v := .int 30) rfl e1 ⟨_, rfl⟩) (nomark _)) (pw_or1 (pt_not (pt_val (pe_call G hr (by rfl) mgg kp bd .nil pass0 (pa_cons (pv 2) (pa_cons (pe_glob (v := .int 200) rfl e2 ⟨_, rfl⟩) pa_nil)))))))) (pss_one ps_never) pss_nil)))), ?_⟩
    have hl : (sV zs).length = zs.length := List.length_map ..
    have := hO.len
    refine ⟨_, rfl, _, _, _, _, true, rfl, .ty _, ty_list hP, kit_ty (by decide +kernel), true, rfl, iteF ?_⟩
    refine ⟨_, rfl, a, _, rfl, hP, for_it (walk_enum (xs := sV zs)) (fun _ σ H' => Ex cs H H' ∧ σ[0]? = some (some (.ref a)) ∧ σ.length = 3) ⟨Ex.refl hT, rfl, rfl⟩ (fun i σ H' _ x => x.1.sqL hP) ?_ ?_⟩
    · rintro i x σ H3 H4 hi ⟨x3, s0, sl⟩ ⟨Tp, v, u, rfl, hn, rfl, hv, hu⟩
      cases hv
      obtain ⟨z, hz, rfl⟩ := get_map hu
      have hi2 : i < zs.length := by omega
      have hm := List.mem_of_getElem? hz
      have xl := Ex.laid (o := .tup [.int (i : Nat), .str z]) x3.tab hn
      refine ⟨Tp, _, rfl, .inl (.inl upd_same), rfl, _, _, rfl, _, _, rfl, rfl, ?_⟩
      have g1 : ((σ.set 1 (some (V.int (i : Nat)))).set 2 (some (V.str z)))[1]? = some (some (V.int (i : Nat))) := by
        rw [List.getElem?_set_ne (by decide)]
        exact List.getElem?_set_self (by omega)
      have g2 : ((σ.set 1 (some (V.int (i : Nat)))).set 2 (some (V.str z)))[2]? = some (some (V.str z)) := List.getElem?_set_self (by rw [List.length_set]; omega)
      have hz2 := hO.ln z hm
      refine ⟨_, g1, rfl, false, dF (fun z => by injection z with z; omega), iteF ⟨_, g2, z, 200, rfl, xl.tab, by omega, by omega, hO.sg z hm, fun H5 x5 => ⟨true, rfl, iteF ⟨(x3.trans xl).trans x5, ?_, ?_⟩⟩⟩⟩
      · rw [List.getElem?_set_ne (by decide), List.getElem?_set_ne (by decide)]; exact s0
      · rw [List.length_set, List.length_set]; exact sl
    · rintro σ H' ⟨x, _⟩
      exact k H' x
end
end TG
namespace TG
open PySem PySem.Spec PyProof.Rows L2 NdefX GenW Gx Lv
section
variable {P : Program} {w : World} {K : PySem.W.Frag} {mg : Str → Option Value} {base : Heap} {cs : List (Addr × Addr)}
theorem ex_code {H H' : Hp} {c : Addr} {q : Str} (x : Ex cs H H') (h : H c = some (LamX.CodeO c q)) : H' c = some (LamX.CodeO c q) := x.ext _ _ h fun ps => LamX.codeO_ne ps
end
end TG
namespace TG
open PySem PySem.Spec PyProof.Rows L2 NdefX GenW Gx Lv
theorem cutS_len (z : Str) (lo hi : Option Int) : (cutS z lo hi).length ≤ z.length := by
  have : (cutS z lo hi).cps.toList.length ≤ z.cps.toList.length := by
    unfold cutS
    simp only [List.length_take, List.length_drop, Array.length_toList]
    omega
  simpa [Str.length] using this
section
variable {P : Program} {w : World} {K : PySem.W.Frag} {mg : Str → Option Value} {base : Heap} {cs : List (Addr × Addr)}
end
end TG
namespace TG
open PySem PySem.Spec PyProof.Rows L2 NdefX GenW Gx Lv
abbrev LamT := Arguments × Expr × Scope
def sc00 : Scope := { kind := .function, names := [], isGenerator := false, isCoroutine := false }
section
variable {P : Program} {w : World} {K : PySem.W.Frag} {mg : Str → Option Value} {base : Heap} {cs : List (Addr × Addr)}
end
end TG
namespace TG
open PySem PySem.Spec PyProof.Rows L2 NdefX GenW Gx Lv
section
variable {P : Program} {w : World} {K : PySem.W.Frag} {mg : Str → Option Value} {base : Heap} {cs : List (Addr × Addr)}
/-- the lambdas' table at p is no table of cs -/
abbrev Apart (cs : List (Addr × Addr)) (p : Addr) : Prop := ∀ q ∈ cs, q.2 ≠ p
theorem tabS_ex {H H' : Hp} {p : Addr} {q : Str} (x : Ex cs H H') (ne : Apart cs p) (t : LamX.TabS H p q) : LamX.TabS H' p q := by
  obtain ⟨ps, h1, h2, h3⟩ := t
  refine ⟨ps, x.oth _ _ h1 ne, h2, fun pos cv hc => ?_⟩
  obtain ⟨c, e1, e2⟩ := h3 pos cv hc
  exact ⟨c, e1, ex_code x e2⟩
theorem tabG_of {H : Hp} {p : Addr} {q : Str} (t : LamX.TabS H p q) : GxR.TabG H p := by
  obtain ⟨ps, h1, h2, _⟩ := t
  exact ⟨ps, h1, h2⟩
theorem tabs_more {H : Hp} {c p : Addr} {q : Str} (T : Tabs cs H) (t : LamX.TabS H p q) : Tabs ((c, p) :: cs) H := fun r hr => by
  rcases List.mem_cons.mp hr with z | z
  · rw [z]; exact tabG_of t
  · exact T r z
theorem tabs_less {H : Hp} {c p : Addr} (T : Tabs ((c, p) :: cs) H) : Tabs cs H := fun r hr => T r (List.mem_cons_of_mem _ hr)
/-- what the program's functions do to the heap, told with the lambdas' table beside -/
theorem _root_.Gx.Ex.lift {H H' : Hp} {c p : Addr} {q : Str} (x : Ex cs H H') (ne : Apart cs p) (t : LamX.TabS H p q) : Ex ((c, p) :: cs) H H' :=
  ⟨x.ext, tabs_more x.tab (tabS_ex x ne t), x.old, fun b o h m => x.oth b o h fun r hr => m r (List.mem_cons_of_mem _ hr)⟩
theorem ex_lam {H H' : Hp} {c p : Addr} {q : Str} (T : Tabs cs H) (ne : Apart cs p) (t : LamX.TabS H p q) (k1 : ∀ b o, H b = some o → b ≠ p → H' b = some o) (k2 : ∀ b, H' b = none → H b = none) (t' : LamX.TabS H' p q) : Ex ((c, p) :: cs) H H' := by
  obtain ⟨ps, h1, _⟩ := t
  refine ⟨fun b o h n => k1 b o h fun z => ?_, tabs_more (fun r hr => ?_) t', k2, fun b o h m => k1 b o h fun z => m (c, p) List.mem_cons_self z.symm⟩
  · rw [z, h1] at h
    cases h
    exact n ps rfl
  · obtain ⟨ps2, h3, h4⟩ := T r hr
    exact ⟨ps2, k1 _ _ h3 (ne r hr), h4⟩
end
end TG
namespace TG
open PySem PySem.Spec PyProof.Rows L2 NdefX GenW Gx Lv
section
variable {P : Program} {w : World} {K : PySem.W.Frag} {mg : Str → Option Value} {base : Heap} {cs : List (Addr × Addr)}
end
end TG
namespace TG
open PySem PySem.Spec PyProof.Rows L2 NdefX GenW Gx Lv Tw
/-- rows told anew, cell by cell: so far -/
structure GrowR (cs : List (Addr × Addr)) (H : Hp) (D : Addr) (rows : List (List Str)) (f : Str → Str) (i : Nat) (H' : Hp) : Prop where
  ex : Ex cs H H'
  nD : H D = none
  sat : ∃ ps : List Addr, H' D = some (.lst (ps.map V.ref)) ∧ ps.length = i ∧ ∀ (j : Nat) (q : Addr) (r : List Str), ps[j]? = some q → rows[j]? = some r → H' q = some (.tup (sV (r.map f)))
theorem GrowR.start {cs : List (Addr × Addr)} {H : Hp} {D : Addr} {rows : List (List Str)} {f : Str → Str} (hT : Tabs cs H) (n : H D = none) : GrowR cs H D rows f 0 (upd H D (.lst [])) :=
  ⟨Ex.laid hT n, n, [], upd_same, rfl, fun j q r h => by cases h⟩
theorem GrowR.go {cs : List (Addr × Addr)} {H H1 H2 : Hp} {D : Addr} {rows : List (List Str)} {f : Str → Str} {i : Nat} (o : GrowR cs H D rows f i H1) (x : Ex cs H1 H2) : GrowR cs H D rows f i H2 := by
  obtain ⟨ps, h1, h2, h3⟩ := o.sat
  exact ⟨o.ex.trans x, o.nD, ps, x.lst h1, h2, fun j q r a b => x.tup (h3 j q r a b)⟩
theorem GrowR.more {cs : List (Addr × Addr)} {H H1 : Hp} {D t : Addr} {rows : List (List Str)} {f : Str → Str} {i : Nat} {r : List Str} (hT : Tabs cs H) (o : GrowR cs H D rows f i H1) (hr : rows[i]? = some r) (ht : H1 t = some (.tup (sV (r.map f)))) :
    ∃ acc, H1 D = some (.lst acc) ∧ acc.length = i ∧ GrowR cs H D rows f (i + 1) (upd H1 D (.lst (acc ++ [.ref t]))) := by
  obtain ⟨ps, h1, h2, h3⟩ := o.sat
  have nDt : t ≠ D := fun e => by rw [e, h1] at ht; cases ht
  refine ⟨_, h1, by rw [List.length_map, h2], ex_new hT o.ex o.nD, o.nD, ps ++ [t], by rw [upd_same, List.map_append]; rfl, by rw [List.length_append, h2]; rfl, fun j q r2 a b => ?_⟩
  by_cases hj : j < ps.length
  · rw [List.getElem?_append_left hj] at a
    have h0 := h3 j q r2 a b
    rw [upd_ne (fun e => by rw [e, h1] at h0; cases h0)]
    exact h0
  · have hl2 := (List.getElem?_eq_some_iff.mp a).1
    rw [List.length_append, List.length_singleton] at hl2
    have ej : j = i := by omega
    subst ej
    rw [List.getElem?_append_right (by omega), h2, Nat.sub_self] at a
    cases a
    rw [hr] at b
    cases b
    rw [upd_ne nDt]
    exact ht
/-- the cells of one row, so far -/
structure GrowC (cs : List (Addr × Addr)) (H : Hp) (D : Addr) (r : List Str) (f : Str → Str) (i : Nat) (H' : Hp) : Prop where
  ex : Ex cs H H'
  nD : H D = none
  sat : H' D = some (.lst (sV ((r.take i).map f)))
theorem GrowC.start {cs : List (Addr × Addr)} {H : Hp} {D : Addr} {r : List Str} {f : Str → Str} (hT : Tabs cs H) (n : H D = none) : GrowC cs H D r f 0 (upd H D (.lst [])) :=
  ⟨Ex.laid hT n, n, upd_same⟩
theorem GrowC.more {cs : List (Addr × Addr)} {H H1 : Hp} {D : Addr} {r : List Str} {f : Str → Str} {i : Nat} {z : Str} (hT : Tabs cs H) (o : GrowC cs H D r f i H1) (hz : r[i]? = some z) :
    H1 D = some (.lst (sV ((r.take i).map f))) ∧ GrowC cs H D r f (i + 1) (upd H1 D (.lst (sV ((r.take i).map f) ++ [.str (f z)]))) := by
  refine ⟨o.sat, ex_new hT o.ex o.nD, o.nD, ?_⟩
  rw [upd_same, List.take_add_one, hz]
  simp [sV]
theorem GrowC.all {cs : List (Addr × Addr)} {H H1 : Hp} {D : Addr} {r : List Str} {f : Str → Str} (o : GrowC cs H D r f r.length H1) : H1 D = some (.lst (sV (r.map f))) := by
  have := o.sat
  rwa [List.take_of_length_le (Nat.le_refl _)] at this
section
variable {P : Program} {w : World} {K : PySem.W.Frag} {mg : Str → Option Value} {base : Heap} {cs : List (Addr × Addr)}
def rowsBy (f : Str → Str) (rows : List (List Str)) : List (List Str) := rows.map fun r => r.map f
theorem GrowR.page {H H' : Hp} {D : Addr} {rows : List (List Str)} {f : Str → Str} (o : GrowR cs H D rows f rows.length H') : ∃ ps, PageAt K H' D ps (rowsBy f rows) := by
  obtain ⟨ps, h1, h2, h3⟩ := o.sat
  refine ⟨ps, SqL.of h1, by rw [h2]; exact (List.length_map ..).symm, fun i q r a b => ?_⟩
  obtain ⟨r0, hr, rfl⟩ := get_map b
  exact .inl (.inl (h3 i q r0 a hr))
end
end TG
namespace TG
open PySem L2 Gx Lv
section
variable {rows : List (List Str)} {gap least : Int} (S : Small rows gap least) {i : Nat} {r : List Str} (hr : rows[i]? = some r)
include S hr
end
end TG
namespace TG
open PySem PySem.Spec PyProof.Rows L2 NdefX GenW Gx Lv
section
variable {P : Program} {w : World} {K : PySem.W.Frag} {mg : Str → Option Value} {base : Heap} {cs : List (Addr × Addr)}
theorem dokAll_strs : ∀ zs : List Str, dokAll (zs.map PyData.str) = true
  | [] => rfl
  | z :: zs => by
    rw [List.map_cons]
    simp only [dokAll, dok, Bool.true_and]
    exact dokAll_strs zs
abbrev zD (zs : List Str) : PyData := .list (zs.map PyData.str)
theorem PageAt.exL {H H' : Hp} {a : Addr} {as : List Addr} {rows : List (List Str)} (p : PageAt K H a as rows) (e : Ex cs H H') : PageAt K H' a as rows := p.ex e
theorem StyleAt.exL {H H' : Hp} {a : Addr} {gap least : Int} (p : StyleAt K H a gap least) (e : Ex cs H H') : StyleAt K H' a gap least := ⟨e.sqT p.tup, p.g0, p.g1, p.l0, p.l1⟩
theorem tabS_kb {b l p : Addr} {q : Str} {H H' : Hp} (t : LamX.TabS H p q) (B : BoxAt H b l) (x : KB b l H H') : LamX.TabS H' p q := by
  obtain ⟨ps, h1, h2, h3⟩ := t
  obtain ⟨ns, st, e1, e2, _⟩ := B
  have cne : ∀ {c : Addr} {q : Str} {xs : List V}, LamX.CodeO c q ≠ .lst xs := fun {c q xs} z => by unfold LamX.CodeO at z; cases z
  refine ⟨ps, x _ _ h1 (ne_of h1 e1 (by intro z; cases z)) (ne_of h1 e2 (by intro z; cases z)), h2, fun pos cv hc => ?_⟩
  obtain ⟨c, g1, g2⟩ := h3 pos cv hc
  exact ⟨c, g1, x _ _ g2 (ne_of g2 e1 cne) (ne_of g2 e2 cne)⟩
end
end TG
namespace Xi
open PySem PySem.Spec PyProof.Rows L2 NdefX
abbrev mwr (x : Addr) : Obj := PySem.W.kxs_mw "ValueError.__init__" x
/-- the bound __init__ of ValueError, tracked -/
def mwO (u x : Addr) : HO := .ext fun h => h.get? u = some (mwr x)
theorem mwO_ok {P : Program} {w : World} {H : Hp} {h : Heap} {u x : Addr} (e : h.get? u = some (mwr x)) : ObjOk P w H h u (mwO u x) := ⟨e, ⟨_, e⟩, fun _ _ z k => k _ z⟩
theorem mwO_at {P : Program} {w : World} {H : Hp} {h : Heap} {u x : Addr} (hok : HOk P w H h) (e : H u = some (mwO u x)) : h.get? u = some (mwr x) := by
  obtain ⟨z, _, _⟩ := hok u _ e
  exact z
section
variable {prog : Program} {w : World} {A : Around} {E : Value → Shared → Prop} {h : Heap} {g : Array GenState} {d : Drawn} {t : Nat} {os : OsState}
variable {nm q : Str} {C N : Addr} {bs bm : List Value} {hdct : Bool} {sn : List Str} {sub : List Value} {ab : Bool} {col : Option Bool} {dd : Option Addr} {k0 k1 k2 k3 k5 : Option Value}
theorem mw_call {u e t0 : Addr} {rest : List Value} {Q : Value → Shared → Prop}
    (hC : h.get? C = some (excClassObj nm q C N bs bm hdct sn sub ab col dd k0 k1 k2 k3 k5 "ValueError.__new__")) (he : h.get? e = some (HandSPX.excO C t0)) (hu : h.get? u = some (mwr e)) (hr : rest.length ≤ sizeLine)
    (hk : ∀ h' t1, (∀ b o, b ≠ e → h.get? b = some o → h'.get? b = some o) → h'.get? e = some (HandSPX.excO C t1) → Q .none ⟨h', g, d, t, os⟩) :
    wpAny (model prog w) A (call (.ref u) rest) Q E ⟨h, g, d, t, os⟩ := by
  refine wpAny_call (codeAny_of_tree ?_)
  show wpAny _ A.in1 (callAny (.ref u) ⟨rest, []⟩) _ _ ⟨h, g, d, t, os⟩
  simp only [callAny]
  refine wpAny_bind (wpAny_load hu ?_)
  simp only [PySem.W.kxs_mw, (by decide : (Value.type "method-wrapper" == Value.type "method" || Value.type "method-wrapper" == Value.type "builtin_function_or_method" || Value.type "method-wrapper" == Value.type "method-wrapper") = true), if_true]
  refine PySem.W.KFB.if_so (by decide) (wpAny_bind (ESX.check_bound PySem.F.excBase_ValueError hC he rfl (wpAny_bind (wpAny_pure (wpAny_pure ?_)))))
  refine ⟨PySem.plainId_quiet PySem.F.excBase_ValueError.init.plain _, codeAny_builtin PySem.F.excBase_ValueError.initEntry ?_⟩
  rw [Around.under_plainId PySem.F.excBase_ValueError.init.plain _]
  wp_walk
  exact hk _ h.objs.size (fun b o hb ho => (Heap.get?_update_other _ _ (Ne.symm hb)).trans (Heap.get?_push_of_some _ ho)) (by rw [Heap.get?_update_self _ (Heap.get?_push_of_some _ he) rfl]; rfl)
end
/-- what the written part says of such a class at C, its __init__ at f -/
structure SupI (P : Program) (K : PySem.W.Frag) (mg : Str → Option Value) (C f cc : Addr) (F : NF) (x : Str) : Prop where
  lk : ∃ oc od osl doc pm ctv, K.lookup f = some ⟨oc, od, .func (F.fd doc pm ctv), osl⟩
  cl : F.cl = [(("__class__" : Str), cc)]
  cell : ∃ a b s, K.lookup cc = some ⟨a, b, .cell (some (.ref C)), s⟩
  code : ∃ a b vs s file tf, K.lookup F.c = some ⟨a, b, .fields vs, s⟩ ∧ vs[2]? = some (.str file tf) ∧ (P.main.file == file) = true
  codeIn : PySem.W.codeIn K (.ref F.c) F.qual = true
  cls : ∃ cd, PySem.W.clsIn K C = some cd ∧ PySem.W.alongIn K "__init__" ((cd.mro.dropWhile (· != .ref C)).drop 1) = some (some (.builtin "ValueError.__init__"))
  self : PySem.W.mroIn K C (.ref C) = some true
  subB : PySem.W.subIn K (.ref C) (.type "ValueError") = some true
  opq : PySem.W.nsIn K cStatics "thirdparty.any" = some none
  sup : mg "super" = none
  top : (P.main.scope.names.lookup ("super" : Str)).isSome = false
  par : ∃ ar ar2, F.params.posonlyargs ++ F.params.args = [ar, ar2] ∧ ar.arg = "self"
  sc : NScope ["self", x, "__class__"] ["self", x] ["__class__"] F.scope
  supk : F.scope.names.lookup ("super" : Str) = some .globalImplicit
  bind : ∀ (doc pm ctv : Value) (us : List Value), us.length = 2 → bindArgs (F.fd doc pm ctv) ⟨us, []⟩ = pure ((["self", x] : List Str).zip us)
end Xi
namespace Xi
open PySem PySem.Spec PyProof.Rows L2 NdefX
def spI (C : Addr) (fl : Str) : Sp := fun vs H Q _ => ∃ (a : Addr) (n : Int), vs = [.ref a, .int n] ∧ 0 ≤ n ∧ n ≤ 100000 ∧ H a = some (exo a C none) ∧
  ∀ (dx : Addr) (H' : Hp), H' a = some (exo a C (some dx)) → H' dx = some (exd dx [(fl, .int n)]) → H dx = none → dx ≠ a → (∀ b o, H b = some o → b ≠ a → H' b = some o) → Q .non H'
section
variable {P : Program} {w : World} {K : PySem.W.Frag} {mg : Str → Option Value} {base : Heap} {CX : CXT}
theorem cells_cls {C f cc : Addr} {F : NF} {x : Str} {A : Around} {outer : List Env} {s : Shared} {H : Hp} (S : SupI P K mg C f cc F x) (e0 : Env0 P w K mg base A outer s H) : CellsAt F.cl ["__class__"] [none] s.heap H := by
  obtain ⟨a, b, sl, hc⟩ := S.cell
  have h1 := e0.mod.kin _ _ hc
  obtain ⟨h2, h3⟩ := e0.bs _ _ h1
  rw [S.cl]
  have lk : ∀ {y : Str} {c : Addr}, ([(("__class__" : Str), cc)] : List (Str × Addr)).lookup y = some c → y = "__class__" ∧ c = cc := fun {y c} e => by
    rw [List.lookup_cons] at e
    cases q : (y == ("__class__" : Str)) with
    | true => rw [q] at e; exact ⟨eq_of_beq q, (Option.some.inj e).symm⟩
    | false => rw [q] at e; cases e
  refine ⟨rfl, fun y c e => ?_, fun y z c e1 e2 => (lk e1).1.trans (lk e2).1.symm, fun i y e => ?_⟩
  · obtain ⟨_, rfl⟩ := lk e
    exact ⟨h3, _, _, h2, rfl⟩
  · match i, e with
    | 0, e =>
      cases e
      exact ⟨cc, rfl, fun v e => by cases e⟩
    | i + 1, e => simp at e
theorem ok_sup {C f cc : Addr} {F : NF} {x fl : Str} {k : Nat} {oc : Value} {od : Option Addr} {osl : Array (Option Value)} {doc pm ctv : Value} {msg : Expr} {tm : TE} {p0 p1 p2 p3 p4 p5 p6 p7 p8 : Pos} (T : OexC K C) (S : SupI P K mg C f cc F x)
    (lk : K.lookup f = some ⟨oc, od, .func (F.fd doc pm ctv), osl⟩) (hno : PySem.W.findIn K (.ref C) fl = some none) (hdbg : (x == ("__debug__" : Str)) = false) (hcd : (x == ("__classdict__" : Str)) = false)
    (hb : F.body = [.Expr (.Call (.Attribute (.Call (.Name "super" p0) [] [] p1) "__init__" p2) [msg] [] p3) p4, .Assign [.Attribute (.Name "self" p5) fl p6] (.Name x p7) p8])
    (hm : ∀ (A : Around) (outer : List Env) (s : Shared) (H : Hp) (E : XK), PE (ncx CX P w K mg base ["self", x, "__class__"] F f A outer s H E) msg tm)
    (hmr : ∀ (a : Addr) (n : Int) (H : Hp) (Q : VK), 0 ≤ n → n ≤ 100000 → (∀ z : Str, Q (.str z) H) → tm (startF ["self", x, "__class__"] [.ref a, .int n] [none]) H Q)
    (hs1 : ∀ env : Env, swapsWith (.Call (.Attribute (.Call (.Name "super" p0) [] [] p1) "__init__" p2) [msg] [] p3) none p4.line env = pure false) (hs2 : ∀ env : Env, swapsWith (.Name x p7) (some (.Attribute (.Name "self" p5) fl p6)) p8.line env = pure false)
    (hst : ∀ env : Env, starEach [msg] env = [(false, eval msg env)])
    (hev : ∀ env : Env, ∃ pl : Sem Bool, eval (.Call (.Attribute (.Call (.Name "super" p0) [] [] p1) "__init__" p2) [msg] [] p3) env = (do
      let ov ← attributeBase (.Call (.Name "super" p0) [] [] p1) "__init__" env (eval (.Call (.Name "super" p0) [] [] p1) env)
      standAt p2.atName
      let (f, first) ← holding [ov] (getMethod ov "__init__" pl)
      callWith p3 f first (backTo p3 (starEach [msg] env)) [])) :
    FnOk P w K mg base CX (k + 1) f (F.fd doc pm ctv) ["self", x] (spI C fl) := by
  refine ⟨fun vs H Q E h => ?_, fun A outer s H args us vs Q E hr e0 hbd r hsp => ?_⟩
  · obtain ⟨a, n, rfl, _⟩ := h
    rfl
  · obtain ⟨a, n, rfl, n0, n1, ha, hk⟩ := hsp
    have KX : K.In s.heap := e0.mod.kin.keeps fun b o e => (e0.bs b o e).1
    have lim : s.heap.NoLimit := e0.mod.nolimit.keeps fun b o e => (e0.bs b o e).1
    have hul : us.length = 2 := r.length.symm
    obtain ⟨u0, u1, rfl⟩ : ∃ u0 u1, us = [u0, u1] := by
      match us, hul with
      | [u0, u1], _ => exact ⟨u0, u1, rfl⟩
    have ru0 : u0 = .ref a := by cases r with | cons h _ => exact h
    subst ru0
    refine PySem.ks_codeAny_call_defAt hr.depth (KX _ _ lk) rfl lim (PySem.W.codeRec_of KX S.codeIn) rfl hbd S.sc.nocell (fun ⟨y, _⟩ hy => S.sc.par y (List.of_mem_zip hy).1) (fun h₁ hns kp => ?_) S.sc.co S.sc.gen S.sc.kind
    have I : Inv (ncx CX P w K mg base ["self", x, "__class__"] F f A outer s H E) [] (startF ["self", x, "__class__"] [.ref a, .int n] [none]) H { s with heap := h₁, toks := s.toks + ((["self", x] : List Str).zip [Value.ref a, u1]).length } :=
      inv_startN S.sc hr.hd e0 rfl r (cells_cls S e0) hns kp
    show PySem.wpAt (model P w) (A.deeper (envF F f s.heap.objs.size)) (.func F.body (envF F f s.heap.objs.size)) (execs F.body (envF F f s.heap.objs.size)) _ _ _
    generalize hs₁ : ({ s with heap := h₁, toks := s.toks + ((["self", x] : List Str).zip [Value.ref a, u1]).length } : Shared) = s₁ at I ⊢
    have hself : s₁.heap.Ns s.heap.objs.size fun y => ((["self", x] : List Str).zip [Value.ref a, u1]).reverse.lookup y := by rw [← hs₁]; exact hns
    clear hs₁ hns kp
    rw [hb]
    obtain ⟨pl, hpl⟩ := hev (envF F f s.heap.objs.size)
    refine PySem.ks_wpAt_execs_cons (PySem.ks_wpAt_Expr_any (PySem.ks_wpAt_MethodCall ?_ hpl) (by unfold interactive; rw [show (envF F f s.heap.objs.size).scope = F.scope from rfl, S.sc.kind]; rfl) (hs1 _))
    obtain ⟨ar, ar2, hpar, har⟩ := S.par
    obtain ⟨ca, cb, cvs, csl, file, tf, hcode, hvs, hfile⟩ := S.code
    obtain ⟨la, lb, lsl, hcell⟩ := S.cell
    obtain ⟨cd, hcl, hal⟩ := S.cls
    have X1 : K.In s₁.heap := I.kIn
    obtain ⟨oD, hD1, hD2⟩ : ∃ oD, s₁.heap.get? C = some oD ∧ oD.data = .cls cd := by
      unfold PySem.W.clsIn at hcl
      split at hcl
      · rename_i ho
        cases hcl
        exact ⟨_, X1 _ _ ho, rfl⟩
      · cases hcl
    refine PySem.ks_wpAt_super_base (env := envF F f s.heap.objs.size) S.supk (S.sc.frk _ (List.mem_singleton.mpr rfl)) (by decide) rfl (X1 _ _ lk) rfl (by rw [show (F.fd doc pm ctv).params = F.params from rfl, hpar]; rfl) rfl (X1 _ _ hcode) rfl hvs hfile S.top ?_
    obtain ⟨mb, hmb, hmb2⟩ := I.mod.blt
    refine PySem.W.ks_loadName_global S.sc.kind S.supk (Calls.loadGlobal_builtin (mg := mg) (mb := mb) (v := .type "super") (I.mod.glob.keeps I.bk) S.sup (hmb.keeps I.bk) ((hmb2 "super" (by decide)).trans (by decide +kernel)) ⟨rfl, ?_⟩)
    refine wpAny_loadName_free S.sc.kind (S.sc.frk _ (List.mem_singleton.mpr rfl)) (c := cc) (by rw [show (envF F f s.heap.objs.size).cells = F.cl from rfl, S.cl]; rfl) ⟨_, X1 _ _ hcell, rfl⟩ ?_
    rw [har]
    refine wpAny_loadName_local S.sc.kind (S.sc.par "self" List.mem_cons_self) hself (v := .ref a) ?_ ?_
    · have h1 : (x == ("self" : Str)) = false ∨ (x == ("self" : Str)) = true := by cases (x == ("self" : Str)) <;> simp
      have hne : ("self" : Str) ≠ x := by
        have q := S.sc.nd
        intro z
        rw [← z] at q
        simp at q
      exact zip_look (ps := ["self", x]) (us := [Value.ref a, u1]) (i := 0) (by simp [hne]) rfl rfl
    obtain ⟨t1, ho⟩ := exo_at I.hok ha
    obtain ⟨hh, g, d, t, os⟩ := s₁
    refine PySem.ks_wpAny_isType_cls hD1 hD2 ⟨rfl, ?_⟩
    refine PySem.ks_wpAny_call_super hD1 hD2 ho rfl (fun c e => by cases e) (PySem.W.looks_mroIn X1 S.self) (fun h2 e2 kq => ?_)
    have I1 : Inv (ncx CX P w K mg base ["self", x, "__class__"] F f A outer s H E) [] (startF ["self", x, "__class__"] [.ref a, .int n] [none]) H ⟨h2, g, d, t, os⟩ := I.kept (t' := t) kq
    have X2 : K.In h2 := I1.kIn
    have ho2 := kq _ _ ho
    have IA : PySem.W.InstAt h2 a { cls := .ref C, dict := none, data := .fields #[.ref t1, .none, .none, .none, .bool false, .none] } C none := ⟨ho2, rfl, rfl, trivial⟩
    refine PySem.W.kxs_getMethod PySem.W.kxs_ValueError e2 (PySem.W.looks_opaque X2 S.opq) (l₀ := cd.mro) ((PySem.W.looks_clsIn X2 hcl).andThen .now) rfl X2 hal (IA.type.andThen (PySem.W.looks_subIn X2 S.subB)) (PySem.W.ks_ne X2 IA hcl) rfl ?_
    have I2 := I1.laid (a := h2.objs.size) (t' := t + 1) (o := mwO h2.objs.size a) (h' := h2.push (mwr a)) (fun b o e => Heap.get?_push_of_some _ e) (Nat.le_refl _) (mwO_ok (Heap.get?_push_size _ rfl))
    have nu : H h2.objs.size = none := I1.hok.fresh (Nat.le_refl _)
    have au : a ≠ h2.objs.size := fun z => by rw [← z, ha] at nu; cases nu
    have hn2 : H (h2.objs.size) = none := nu
    generalize hu : h2.objs.size = u at I2 nu au hn2 ⊢
    have ha2 : (upd H u (mwO u a)) a = some (exo a C none) := by rw [upd_ne au]; exact ha
    have hu2 : (upd H u (mwO u a)) u = some (mwO u a) := upd_same
    generalize hH2 : upd H u (mwO u a) = H2 at I2 ha2 hu2
    refine PySem.W.kxs_callWith (i := "ValueError.__init__") (x := a) (by rw [hst]; rfl) ?_
    have hp : PA (ncx CX P w K mg base ["self", x, "__class__"] F f A outer s H E) [msg] (tCons tm tNil) := pa_cons (hm A outer s H E) pa_nil (hst _)
    have hrun := hp.run p3 [] _ _ H2 (fun vs H3 => (∃ z, vs = [V.str z]) ∧ H3 = H2) I2 (hmr a n H2 _ n0 n1 fun z => ⟨⟨z, rfl⟩, rfl⟩)
    have hst2 : starEach [msg] (ncx CX P w K mg base ["self", x, "__class__"] F f A outer s H E).env = [(false, eval msg (envF F f s.heap.objs.size))] := hst _
    rw [hst2] at hrun
    rw [hst]
    refine Calls.evalArgs_plain (thn hrun fun us3 s3 h3 => ?_)
    obtain ⟨vs3, H3, I3, r3, ⟨z, ez⟩, eH⟩ := h3
    subst ez eH
    refine ⟨mwO_at I3.hok hu2, ?_⟩
    obtain ⟨nm, q, N, bs, bm, sn, sub, ab, col, dd, k0, k1, k2, k3, k5, hC, hbm⟩ := T.cls
    obtain ⟨t3, ho3⟩ := exo_at I3.hok ha2
    have hl3 : us3.length ≤ sizeLine := by rw [← Paired.length r3]; exact (by decide : (1 : Nat) ≤ sizeLine)
    have hC3 := I3.kIn _ _ hC
    have hu3 := mwO_at I3.hok hu2
    obtain ⟨h3, g3, d3, t3', os3⟩ := s3
    refine mw_call hC3 ho3 hu3 hl3 (fun h4 t4 k4 hx4 => ?_)
    have J := I3.write (t' := t3') (x := a) (e := a) (o := exo a C none) (by rw [ha2]; exact True.intro) (.inl rfl) k4 ⟨_, hx4⟩ (exo_ok hx4)
    have eu : upd H3 a (exo a C none) = H3 := by
      funext b
      by_cases hb : b = a
      · rw [hb, upd_same, ha2]
      · rw [upd_ne hb]
    rw [eu] at J
    show PySem.wpAt _ _ _ (execs [.Assign [.Attribute (.Name "self" p5) fl p6] (.Name x p7) p8] (envF F f s.heap.objs.size)) _ _ _
    have ht : PSs (ncx CX P w K mg base ["self", x, "__class__"] F f A outer s H E) [.Assign [.Attribute (.Name "self" p5) fl p6] (.Name x p7) p8] _ :=
      pss_one (ps_ost (pe_var (i := 0) rfl (.inl (S.sc.par "self" List.mem_cons_self))) (pe_var (i := 1) rfl (.inl (S.sc.par x (List.mem_cons_of_mem _ List.mem_cons_self))) hdbg hcd) (hs2 _))
    refine wpAt_of_wpAny (wpAny_mono (ht.run [] _ _ H3 { nx := fun _ H' => Q .non H', rt := Q } J ⟨_, rfl, _, rfl, a, C, rfl, T, hno, .inl ⟨ha2, fun dx hdx hda => ?_⟩⟩) (fun fl' s' hs => ?_) fun e s' hs => hs)
    · have hdx0 : H dx = none ∧ dx ≠ u := by
        rw [← hH2] at hdx
        by_cases e : dx = u
        · rw [e, upd_same] at hdx; cases hdx
        · rw [upd_ne e] at hdx; exact ⟨hdx, e⟩
      refine hk dx _ upd_same (by rw [upd_ne hda, upd_same]) hdx0.1 hda fun b o e hba => ?_
      rw [upd_ne hba, upd_ne (ne_of_none e hdx0.1), ← hH2, upd_ne (ne_of_none e nu)]
      exact e
    · cases fl' with
      | next =>
        obtain ⟨σ', H', J', q'⟩ := hs
        exact ⟨.non, H', J'.os, J'.bare, J'.base, J'.hok, rfl, q'⟩
      | ret u =>
        obtain ⟨v, σ', H', J', rv, q'⟩ := hs
        exact ⟨v, H', J'.os, J'.bare, J'.base, J'.hok, rv, q'⟩
      | brk =>
        obtain ⟨_, _, _, q'⟩ := hs
        exact False.elim q'
      | cont =>
        obtain ⟨_, _, _, q'⟩ := hs
        exact False.elim q'
end
end Xi
namespace TG
open PySem L2 Gx
def sgB (c : Nat) : Bool := decide (32 ≤ c) && decide (c ≤ 126) && decide (c ≠ 37)
theorem sgB_iff {c : Nat} : sgB c = true ↔ SgOk c := by
  unfold sgB SgOk
  simp only [Bool.and_eq_true, decide_eq_true_eq]
  omega
def textB (z : Str) (m : Int) : Bool := decide ((z.length : Int) ≤ m) && (cl z).all sgB
/-- what is no text -/
def NoText (K : PySem.W.Frag) (H : Hp) (v : V) : Prop := ∃ nm : String, TyX K H v (.type nm) ∧ kitB nm "str" = some false
section
variable {P : Program} {w : World} {K : PySem.W.Frag} {mg : Str → Option Value} {base : Heap} {cs : List (Addr × Addr)}
def spSg2 : Sp := fun vs H Q _ => ∃ c : Nat, vs = [.str ⟨#[c]⟩] ∧ Q (.bl (sgB c)) H
theorem ok_sg2 {f : Addr} {fd : FuncData} (T : Txt mg) (N : Consts mg) (F : Fun K "is_sign" "is_sign" s_is_sign f fd) : FnOk P w K mg base CX0 1 f fd ["sign"] spSg2 := by
  refine F.ok sc_sg (fun vs H Q E h => ?_) (fun cdv A outer s H vs Q E hr h => ?_)
  · obtain ⟨c, rfl, _⟩ := h
    rfl
  · obtain ⟨c, rfl, k⟩ := h
    obtain ⟨t1, e1⟩ := N.blank
    obtain ⟨t2, e2⟩ := N.tilde
    obtain ⟨t3, e3⟩ := N.percent
    refine ⟨_, pss_one (ps_ret (pe_and (pe_chain op_le op_le (pe_glob (v := .int 32) rfl e1 ⟨_, rfl⟩) (pe_callB call_ord (by rfl) T.ord (by decide +kernel) (pa_cons (pv 0) pa_nil)) (pe_glob (v := .int 126) rfl e2 ⟨_, rfl⟩))
      (pe_one (pe_cmpR op_ne (pe_callB call_ord (by rfl) T.ord (by decide +kernel) (pa_cons (pv 0) pa_nil)) (pe_glob (v := .int 37) rfl e3 ⟨_, rfl⟩) (nomark _))))), ?_⟩
    refine ⟨_, rfl, _, rfl, rfl, 32, (c : Int), rfl, rfl, ?_⟩
    by_cases h1 : 32 ≤ c
    · refine ⟨true, dT (show (32 : Int) ≤ c by omega), iteT ⟨(c : Int), 126, rfl, rfl, ?_⟩⟩
      by_cases h2 : c ≤ 126
      · have e4 : V.bl (decide ((c : Int) ≤ 126)) = V.bl true := dT (by omega)
        refine ⟨true, e4, iteT ⟨_, rfl, _, rfl, rfl, rfl, ?_⟩⟩
        have e5 : (!decide (V.int (c : Int) = V.int 37)) = sgB c := by
          unfold sgB
          rw [decide_eq_true h1, decide_eq_true h2]
          by_cases h3 : c = 37
          · subst h3
            rfl
          · rw [decide_eq_false (show ¬ V.int (c : Int) = V.int 37 from fun z => by injection z with z; exact h3 (by omega)), decide_eq_true (show c ≠ 37 from h3)]
            rfl
        show Q (.bl (!decide (V.int (c : Int) = V.int 37))) H
        rw [e5]
        exact k
      · have e4 : V.bl (decide ((c : Int) ≤ 126)) = V.bl false := dF (by omega)
        have e5 : sgB c = false := by
          unfold sgB
          rw [decide_eq_false h2, Bool.and_false, Bool.false_and]
        rw [e5] at k
        exact ⟨false, e4, iteF k⟩
    · have e5 : sgB c = false := by
        unfold sgB
        rw [decide_eq_false h1, Bool.false_and, Bool.false_and]
      rw [e5] at k
      refine ⟨false, dF (by omega), iteF ⟨false, ?_, iteF ?_⟩⟩
      · first | rfl | exact dF (by omega)
      · exact k
def spText2 (K : PySem.W.Frag) (cs : List (Addr × Addr)) : Sp := fun vs H Q _ => ∃ (v : V) (m : Int) (b : Bool), vs = [v, .int m] ∧ Tabs cs H ∧ ((NoText K H v ∧ b = false) ∨ ∃ z, v = .str z ∧ z.length ≤ 1000 ∧ b = textB z m) ∧ ∀ H', Ex cs H H' → Q (.bl b) H'
theorem ok_text2 {f c Pt g : Addr} {fd fdg : FuncData} (T : Txt mg) (F : Fun K "is_text_of_signs" "is_text_of_signs" s_is_text f fd) (hc : fd.code = .ref c) (TB : GxR.TabB base mg c Pt) (hm : (c, Pt) ∈ cs)
    (G : FnOk P w K mg base CX0 1 g fdg ["sign"] spSg2) (kp : PySem.W.keepIn K (.ref g) = true) (bd : Binds K fdg ["sign"] []) (mgg : mg "is_sign" = some (.ref g)) : FnOk P w K mg base CX0 5 f fd ["value", "most"] (spText2 K cs) := by
  refine fun_okT F hc sc_text (fun vs H Q E h => ?_) (fun A outer s H vs Q E hr h => ?_)
  · obtain ⟨v, m, b, rfl, _⟩ := h
    rfl
  · obtain ⟨v, m, b, rfl, hT, hv, k⟩ := h
    refine ⟨_, pss_one (ps_ret (pe_and (pe_callB call_isi (by rfl) T.isin (by decide +kernel) (pa_cons (pv 0) (pa_cons (pe_bltn (v := .ty "str") (by rfl) T.str (by decide +kernel) rfl) pa_nil)))
      (pe_and (pe_cmpR op_le (pe_callB call_len_str (by rfl) T.len PySem.boot_len (pa_cons (pv 0) pa_nil)) (pv 1) (nomark _))
        (pe_one (pe_allG (k := 1) (P := Pt) hr (by rfl) T.all TB rfl ⟨rfl, rfl, by decide +kernel, by decide +kernel, rfl, rfl⟩ (pi_str (pv 0)) (fun A' code s4 H4 fp hr' => pe_call G hr' (by rfl) mgg kp bd .nil pass0 (pa_cons (pv 0) pa_nil)) (fun _ => rfl)))))), ?_⟩
    rcases hv with ⟨⟨nm, ty, hk⟩, rfl⟩ | ⟨z, rfl, h2, rfl⟩
    · exact ⟨_, rfl, _, _, _, _, false, rfl, .ty _, ty, kit_ty hk, false, rfl, iteF (k _ (Ex.refl hT))⟩
    · refine ⟨_, rfl, _, _, _, _, true, rfl, .ty _, .base (.str z), kit_ty (by decide +kernel), true, rfl, iteT ⟨_, rfl, z, rfl, line10 h2, _, rfl, _, _, rfl, rfl, ?_⟩⟩
      by_cases h1 : (z.length : Int) ≤ m
      · have hB : textB z m = (cl z).all sgB := by
          unfold textB
          rw [decide_eq_true h1, Bool.true_and]
        refine ⟨true, dT h1, iteT ⟨_, rfl, z, rfl, hT _ hm, fun H2 hH2 => ?_⟩⟩
        have x2 := Ex.tabbed hT hm hH2
        refine all_by (w := walk_str (z := z)) (fun i => match (cl z)[i]? with | some c => sgB c | none => true) (fun _ H' => Ex cs H H') x2 (fun _ _ _ _ => trivial) (fun i v H3 H4 hi x y Z hZ => ?_) (fun H3 x hall => ?_) (fun i H3 hi hff x => ?_)
        · obtain ⟨rfl, c, hc, rfl⟩ := y
          have hc2 : (cl z)[i]? = some c := by rw [Array.getElem?_toList]; exact hc
          refine ⟨_, rfl, c, rfl, ?_⟩
          have := hZ _ x
          rw [hc2] at this
          exact this
        · have e : textB z m = true := by
            rw [hB, List.all_eq_true]
            intro c hcm
            obtain ⟨i, hi, e⟩ := List.getElem_of_mem hcm
            have q := hall i (by have := len_cl z; omega)
            rw [List.getElem?_eq_getElem hi, e] at q
            exact q
          rw [← e]
          exact k _ x
        · have e : textB z m = false := by
            rw [hB, Bool.eq_false_iff]
            intro q
            rw [List.all_eq_true] at q
            have hi2 : i < (cl z).length := by have := len_cl z; omega
            rw [List.getElem?_eq_getElem hi2] at hff
            have := q _ (List.getElem_mem hi2)
            rw [show sgB (cl z)[i] = false from hff] at this
            cases this
          rw [← e]
          exact k _ x
      · have e : textB z m = false := by
          unfold textB
          rw [decide_eq_false h1, Bool.false_and]
        rw [e] at k
        exact ⟨false, dF h1, iteF (k _ (Ex.refl hT))⟩
end
end TG
namespace TG
open PySem PySem.Spec PyProof.Rows L2 NdefX GenW Gx Lv
/-- a class of errors whose begin takes a number and keeps it as the field fl -/
structure RaiseC (P : Program) (w : World) (K : PySem.W.Frag) (mg : Str → Option Value) (base : Heap) (x fl : Str) (C fI : Addr) (fdI : FuncData) : Prop where
  oex : OexC K C
  iC : PySem.W.findIn K (.ref C) "__init__" = some (some (.ref fI))
  tI : PySem.W.typeIn K (.ref fI) = some (.type "function")
  ini : FnOk P w K mg base CX0 1 fI fdI ["self", fl] (Xi.spI C fl)
  bd : Binds K fdI ["self", fl] []
  mg_ : mg x = some (.ref C)
section
variable {P : Program} {w : World} {K : PySem.W.Frag} {mg : Str → Option Value} {base : Heap} {cs : List (Addr × Addr)}
theorem _root_.Gx.Ex.kept {H H' : Hp} (t : Tabs cs H) (k : ∀ b o, H b = some o → H' b = some o) : Ex cs H H' := by
  refine ⟨fun b o h _ => k b o h, fun p hp => ?_, fun b h => ?_, fun b o h _ => k b o h⟩
  · obtain ⟨ps, h1, h2⟩ := t p hp
    exact ⟨ps, k _ _ h1, h2⟩
  · cases e : H b with
    | none => rfl
    | some o =>
      rw [k b o e] at h
      cases h
/-- what a raise of such an error asks, in short -/
theorem raise_go {fl : Str} {C : Addr} {ta : TA} {σ : L2.St} {H : Hp} {n : Int} {E : XK} (hT : Tabs cs H) (n0 : 0 ≤ n) (n1 : n ≤ 100000) (h : ∀ Q : List V → Hp → Prop, Q [.int n] H → ta σ H Q)
    (k : ∀ (d : Addr) (H' : Hp), Ex cs H H' → H d = none → H' d = some (.xd [(fl, .int n)]) → E (.ref C) (some d) H') : tMkO C (Xi.spI C fl) [] ta σ H E := by
  refine h _ ⟨by simp, fun a na => ⟨a, n, rfl, n0, n1, upd_same, fun dx H' h1 h2 h3 h4 h5 => ⟨rfl, dx, _, h1, h2, ?_, ?_⟩⟩⟩
  · rw [upd_ne h4] at h3
    exact h3
  · have hd : H dx = none := by rw [upd_ne h4] at h3; exact h3
    refine k dx _ (Ex.kept hT fun b o hb => ?_) hd upd_same
    have ha : b ≠ a := ne_of_none hb na
    have hb2 : b ≠ dx := ne_of_none hb hd
    rw [upd_ne hb2, del_ne ha]
    exact h5 b o (by rw [upd_ne ha]; exact hb) ha
/-- lines of which the first that can't be is n -/
structure BadLn (K : PySem.W.Frag) (H : Hp) (xs : List V) (n : Nat) : Prop where
  lt : n < xs.length
  n30 : n ≤ 30
  ok : ∀ i, i < n → ∃ z, xs[i]? = some (.str z) ∧ z.length ≤ 1000 ∧ textB z 200 = true
  bad : n = 30 ∨ ∃ v, xs[n]? = some v ∧ (NoText K H v ∨ ∃ z, v = .str z ∧ z.length ≤ 1000 ∧ textB z 200 = false)
/-- what is no text stays none -/
def Stays (K : PySem.W.Frag) (cs : List (Addr × Addr)) (H : Hp) (xs : List V) : Prop := ∀ v ∈ xs, NoText K H v → ∀ H', Ex cs H H' → NoText K H' v
def spLinesX (K : PySem.W.Frag) (cs : List (Addr × Addr)) (C : Addr) : Sp := fun vs H _ E => ∃ (a : Addr) (xs : List V) (n : Nat), vs = [.ref a] ∧ Tabs cs H ∧ SqL K H a xs ∧ BadLn K H xs n ∧ Stays K cs H xs ∧
  ∀ (d : Addr) (H' : Hp), Ex cs H H' → H d = none → H' d = some (.xd [("line", .int (n : Nat))]) → E (.ref C) (some d) H'
theorem ok_clinesX {f g C fI : Addr} {fd fdg fdI : FuncData} (T : Txt mg) (N : Consts2 mg) (R : RaiseC P w K mg base "BadLines" "line" C fI fdI) (F : Fun K "check_lines" "check_lines" s_check_lines f fd)
    (G : FnOk P w K mg base CX0 5 g fdg ["value", "most"] (spText2 K cs)) (kp : PySem.W.keepIn K (.ref g) = true) (bd : Binds K fdg ["value", "most"] []) (mgg : mg "is_text_of_signs" = some (.ref g)) : FnOk P w K mg base (L2.CX P w) 6 f fd ["lines"] (spLinesX K cs C) := by
  refine F.okX sc_clines (fun vs H Q E h => ?_) (fun cdv A outer s H vs Q E hr h => ?_)
  · obtain ⟨a, xs, n, rfl, _⟩ := h
    rfl
  · obtain ⟨a, xs, n, rfl, hT, hP, hO, hst, k⟩ := h
    have nd := sc_clines.nd
    obtain ⟨t1, e1⟩ := N.lines
    obtain ⟨t2, e2⟩ := N.far
    have hr2 : Room 2 _ := hr.mono (by decide)
    refine ⟨_, pss_cons (ps_if (pt_not (pt_val (pe_callB call_isi (by rfl) T.isin (by decide +kernel) (pa_cons (pv 0) (pa_cons (pe_bltn (v := .ty "list") (by rfl) T.list (by decide +kernel) rfl) pa_nil))))) (pss_one ps_never) pss_nil)
      (pss_one (ps_for (passes_of rfl) rfl (pi_enum (by rfl) T.enum (pa_cons (pv 0) pa_nil)) (pg_tup rfl (pgs_cons (pg_name (i := 1) nd rfl (.inl rfl)) (pgs_cons (pg_name (i := 2) nd rfl (.inl rfl)) pgs_nil)))
        (pss_one (ps_if (PW.pt (pw_or (pt_cmpR op_eq (pv 1) (pe_glob (v := .int 30) rfl e1 ⟨_, rfl⟩) (nomark _)) (pw_or1 (pt_not (pt_val (pe_call G hr (by rfl) mgg kp bd .nil pass0 (pa_cons (pv 2) (pa_cons (pe_glob (v := .int 200) rfl e2 ⟨_, rfl⟩) pa_nil))))))))
          (pss_one (ps_raise rfl (takes_of rfl rfl rfl rfl) (pmk_oex R.oex R.iC R.tI R.ini hr2 R.bd .nil pass0 (by rfl) R.mg_ (pa_cons (pv 1) pa_nil)))) pss_nil)))), ?_⟩
    have hlt := hO.lt
    refine ⟨_, rfl, _, _, _, _, true, rfl, .ty _, ty_list hP, kit_ty (by decide +kernel), true, rfl, iteF ?_⟩
    refine ⟨_, rfl, a, _, rfl, hP, for_it (walk_enum (xs := xs)) (fun i σ H' => i ≤ n ∧ Ex cs H H' ∧ σ[0]? = some (some (.ref a)) ∧ σ.length = 3) ⟨Nat.zero_le _, Ex.refl hT, rfl, rfl⟩ (fun i σ H' _ x => x.2.1.sqL hP) ?_ ?_⟩
    · rintro i x σ H3 H4 hi ⟨hin, x3, s0, sl⟩ ⟨Tp, v, u, rfl, hn, rfl, hv, hu⟩
      cases hv
      have hu : xs[i]? = some u := hu
      have xl := Ex.laid (o := .tup [.int (i : Nat), u]) x3.tab hn
      have x4 := x3.trans xl
      have n30 := hO.n30
      refine ⟨Tp, _, rfl, .inl (.inl upd_same), rfl, _, _, rfl, _, _, rfl, rfl, ?_⟩
      have g1 : ((σ.set 1 (some (V.int (i : Nat)))).set 2 (some u))[1]? = some (some (V.int (i : Nat))) := by
        rw [List.getElem?_set_ne (by decide)]
        exact List.getElem?_set_self (by omega)
      have g2 : ((σ.set 1 (some (V.int (i : Nat)))).set 2 (some u))[2]? = some (some u) := List.getElem?_set_self (by rw [List.length_set]; omega)
      by_cases hlt2 : i < n
      · obtain ⟨z, hz, hz2, hz3⟩ := hO.ok i hlt2
        rw [hz] at hu
        cases hu
        refine ⟨_, g1, rfl, false, dF (fun z => by injection z with z; omega), iteF ⟨_, g2, .str z, 200, _, rfl, xl.tab, .inr ⟨z, rfl, hz2, rfl⟩, fun H5 x5 => ⟨_, rfl, ?_⟩⟩⟩
        rw [hz3]
        refine iteF ⟨by omega, x4.trans x5, ?_, ?_⟩
        · rw [List.getElem?_set_ne (by decide), List.getElem?_set_ne (by decide)]; exact s0
        · rw [List.length_set, List.length_set]; exact sl
      · have ein : i = n := by omega
        subst ein
        by_cases h30 : i = 30
        · refine ⟨_, g1, rfl, true, dT (by rw [h30]; rfl), iteT (iteT ?_)⟩
          refine raise_go (n := ((i : Nat) : Int)) xl.tab (by omega) (by omega) (fun Q q => ⟨_, g1, q⟩) fun d H' x5 nd5 hd5 => ?_
          exact k d H' (x4.trans x5) (x4.old _ nd5) hd5
        · refine ⟨_, g1, rfl, false, dF (fun z => by injection z with z; omega), iteF ?_⟩
          rcases hO.bad with z | ⟨v, hv, hbad⟩
          · exact absurd z h30
          rw [hv] at hu
          cases hu
          refine ⟨_, g2, _, 200, false, rfl, xl.tab, ?_, fun H5 x5 => ⟨false, rfl, iteT ?_⟩⟩
          · rcases hbad with q | ⟨z, rfl, q1, q2⟩
            · exact .inl ⟨hst _ (List.mem_of_getElem? hv) q _ x4, rfl⟩
            · exact .inr ⟨z, rfl, q1, q2.symm⟩
          · refine raise_go (n := ((i : Nat) : Int)) x5.tab (by omega) (by omega) (fun Q q => ⟨_, g1, q⟩) fun d H' x6 nd6 hd6 => ?_
            exact k d H' ((x4.trans x5).trans x6) ((x4.trans x5).old _ nd6) hd6
    · rintro σ H' ⟨hin, _⟩
      omega
end
end TG
namespace TG
open PySem PySem.Spec PyProof.Rows L2 NdefX GenW Gx Lv
section
variable {P : Program} {w : World} {K : PySem.W.Frag} {mg : Str → Option Value} {base : Heap} {cs : List (Addr × Addr)}
end
end TG
namespace TG
open PySem PySem.Spec PyProof.Rows L2 NdefX GenW Gx Lv
def initOf : Stmt → Stmt
  | .ClassDef _ _ _ [s] _ _ _ _ _ _ _ => s
  | s => s
abbrev iniL : Stmt := initOf (top 9)
abbrev nfI (c cc : Addr) : NF := ⟨"__init__", "BadLines.__init__", defArgs iniL, defBody iniL, defScope iniL, [("__class__", cc)], c⟩
theorem log_ok {n : Int} (h0 : 0 ≤ n) (h1 : n ≤ 100000) : n.natAbs.log2 < 1920 := by
  by_cases h : n.natAbs = 0
  · rw [h]; decide
  · refine (Nat.log2_lt h).mpr (Nat.lt_of_lt_of_le (show n.natAbs < 2 ^ 17 by omega) (Nat.pow_le_pow_right (by decide) (by decide)))
theorem app_len (x y : Str) : (x ++ y).length = x.length + y.length := by
  have h := congrArg List.length (cl_app x y)
  rw [List.length_append] at h
  simpa [cl, Str.length] using h
section
variable {P : Program} {w : World} {K : PySem.W.Frag} {mg : Str → Option Value} {base : Heap}
theorem sc_iniL : NScope ["self", "line", "__class__"] ["self", "line"] ["__class__"] (defScope iniL) := nscope_by (by decide +kernel)
theorem ok_iniL {C f cc c : Addr} {oc : Value} {od : Option Addr} {osl : Array (Option Value)} {doc pm ctv : Value} (T : OexC K C) (S : Xi.SupI P K mg C f cc (nfI c cc) "line") (lk : K.lookup f = some ⟨oc, od, .func ((nfI c cc).fd doc pm ctv), osl⟩)
    (hno : PySem.W.findIn K (.ref C) "line" = some none) : FnOk P w K mg base CX0 1 f ((nfI c cc).fd doc pm ctv) ["self", "line"] (Xi.spI C "line") := by
  refine Xi.ok_sup (k := 0) T S lk hno (by decide +kernel) (by decide +kernel) rfl (fun A outer s H E => pe_joined (.cons pe_str (.cons (pe_fmt (pv 1)) (.cons pe_str .nil)))) (fun a n H Q n0 n1 q => ?_) (fun env => rfl) (fun env => rfl) (fun env => rfl) (fun env => ⟨_, rfl⟩)
  have l1 : (Str.empty ++ ("the lines can't be from line " : Str)).length ≤ 100 := by decide +kernel
  have l2 : (Str.ofString (toString n)).length ≤ 9 := (num_ok n0 (by omega)).1
  have l3 : (" on" : Str).length = 3 := by decide +kernel
  have sz : (1000 : Nat) < sizeLine := by decide
  refine ⟨_, rfl, by omega, .int n, rfl, .inr ⟨n, rfl, log_ok n0 n1, _, rfl, ?_, _, rfl, ?_, q _⟩⟩
  · rw [app_len]
    have : (toString n : Str).length ≤ 9 := l2
    omega
  · rw [app_len, app_len]
    have : (toString n : Str).length ≤ 9 := l2
    omega
end
end TG
namespace TG
open PySem PySem.Spec PyProof.Rows L2 NdefX GenW Gx Lv
abbrev IniW : Type := Option (Str × Str × Arguments × FuncBody × Scope × Addr × List Str × Addr)
abbrev iniA (K : PySem.W.Frag) (x : Str) : Addr := He.ma K (He.ga K x) "__init__"
def iniW (K : PySem.W.Frag) (x : Str) : IniW := match K.lookup (iniA K x) with
  | some ⟨_, _, .func fd, _⟩ => some (fd.name, fd.qualname, fd.params, fd.body, fd.scope, fd.globals, fd.closure.map (·.1), fd.builtins)
  | _ => none
def oexB (K : PySem.W.Frag) (C : Addr) : Bool := match K.lookup C with
  | some ⟨.type "type", _, .cls cd, sl⟩ => (match cd.mro, sl.toList with
    | .ref C' :: bm, [_, _, _, _, some (.builtin n), _] => decide (C' = C) && decide (n = "ValueError.__new__") && (!cd.hasDel && (cd.hasDict && PySem.HandSPX.refsVE bm))
    | _, _ => false)
  | _ => false
theorem oexB_ok {K : PySem.W.Frag} {C : Addr} (h : oexB K C = true) : ∃ nm q N bs bm sn sub ab col dd k0 k1 k2 k3 k5, K.lookup C = some (excClassObj nm q C N bs bm true sn sub ab col dd k0 k1 k2 k3 k5 "ValueError.__new__") ∧ PySem.HandSPX.refsVE bm = true := by
  unfold oexB at h
  split at h
  · rename_i dd cd sl ho
    split at h
    · rename_i C' bm k0 k1 k2 k3 n k5 hm hs
      simp only [Bool.and_eq_true, decide_eq_true_eq, Bool.not_eq_true'] at h
      obtain ⟨⟨e1, e2⟩, hdel, hdict, ht⟩ := h
      subst e1 e2
      obtain ⟨nm, bs, mro, ns, qn, hd, sn, sub, ab, col, del⟩ := cd
      dsimp only at hm hdel hdict
      subst hm hdel hdict
      obtain ⟨l⟩ := sl
      dsimp only at hs
      subst hs
      exact ⟨nm, qn, ns, bs, bm, sn, sub, ab, col, dd, k0, k1, k2, k3, k5, ho, ht⟩
    · cases h
  · cases h
def cellB (K : PySem.W.Frag) (cc C : Addr) : Bool := match K.lookup cc with
  | some ⟨_, _, .cell (some (.ref a)), _⟩ => decide (a = C)
  | _ => false
theorem cellB_ok {K : PySem.W.Frag} {cc C : Addr} (h : cellB K cc C = true) : ∃ a b s, K.lookup cc = some ⟨a, b, .cell (some (.ref C)), s⟩ := by
  unfold cellB at h
  split at h
  · rename_i o1 o2 a sl e
    have := of_decide_eq_true h
    subst this
    exact ⟨_, _, _, e⟩
  · cases h
def fileB (K : PySem.W.Frag) (c : Addr) (main : Str) : Bool := match K.lookup c with
  | some ⟨_, _, .fields vs, _⟩ => (match (vs[2]? : Option Value) with
    | some (Value.str file _) => main == file
    | _ => false)
  | _ => false
theorem fileB_ok {K : PySem.W.Frag} {c : Addr} {main : Str} (h : fileB K c main = true) : ∃ a b vs s file tf, K.lookup c = some ⟨a, b, .fields vs, s⟩ ∧ vs[2]? = some (.str file tf) ∧ (main == file) = true := by
  unfold fileB at h
  split at h
  · rename_i o1 o2 vs sl e
    split at h
    · rename_i file tf hv
      exact ⟨_, _, vs, _, file, tf, e, hv, h⟩
    · cases h
  · cases h
def fnB (K : PySem.W.Frag) (C : Addr) (main : Str) (f : Addr) : Bool := match K.lookup f with
  | some ⟨_, _, .func fd, _⟩ => (match fd.closure, fd.code, fd.defaults, fd.kwdefaults, fd.annotations with
    | [(_, cc)], .ref c, .none, .none, none => cellB K cc C && (fileB K c main && PySem.W.codeIn K (.ref c) fd.qualname)
    | _, _, _, _, _ => false)
  | _ => false
def clsB (K : PySem.W.Frag) (C : Addr) : Bool := match PySem.W.clsIn K C with
  | some cd => decide (PySem.W.alongIn K "__init__" ((cd.mro.dropWhile (· != .ref C)).drop 1) = some (some (.builtin "ValueError.__init__")))
  | none => false
/-- the class x, whose begin keeps the field fl -/
def errB (main : Str) (x fl : Str) (K : PySem.W.Frag) : Bool :=
  oexB K (He.ga K x) && (He.eqO (PySem.W.nsIn K mainGlobals x) (some (some (.ref (He.ga K x)))) && (He.eqO (PySem.W.findIn K (.ref (He.ga K x)) "__setattr__") (some (some (.builtin "object.__setattr__"))) && (decide (PySem.W.subIn K (.ref (He.ga K x)) (.type "BaseException") = some true) && (decide (PySem.W.typeIn K (.ref (He.ga K x)) = some (.type "type")) && (PySem.W.keepIn K (.ref (He.ga K x)) &&
    (He.eqO (PySem.W.findIn K (.ref (He.ga K x)) "__init__") (some (some (.ref (iniA K x)))) && (decide (PySem.W.typeIn K (.ref (iniA K x)) = some (.type "function")) && (He.eqO (PySem.W.findIn K (.ref (He.ga K x)) fl) (some none) && (fnB K (He.ga K x) main (iniA K x) && (clsB K (He.ga K x) && (decide (PySem.W.mroIn K (He.ga K x) (.ref (He.ga K x)) = some true) &&
      (decide (PySem.W.subIn K (.ref (He.ga K x)) (.type "ValueError") = some true) && He.eqO (PySem.W.nsIn K cStatics "thirdparty.any") (some none)))))))))))))
theorem supk_iniL : (defScope iniL).names.lookup ("super" : Str) = some .globalImplicit := by decide +kernel
section
variable {P : Program} {w : World} {K : PySem.W.Frag} {mg : Str → Option Value} {base : Heap}
theorem binds_ini {cdd ccl : Addr} {doc pm ctv : Value} : Binds K ((nfI cdd ccl).fd doc pm ctv) ["self", "line"] [] := by
  refine Binds.all fun us hl => ?_
  match us, hl with
  | [_, _], _ => rfl
/-- the refusals BadLines, from what the head tells -/
theorem raise_lines {h : Heap} (X : K.In h) (G : h.Ns mainGlobals mg) (e : errB P.main.file "BadLines" "line" K = true)
    (hw : iniW K "BadLines" = (some ("__init__", "BadLines.__init__", defArgs iniL, .stmts (defBody iniL), defScope iniL, mainGlobals, ["__class__"], builtinsNs) : IniW)) (hs : mg "super" = none) (ht : (P.main.scope.names.lookup ("super" : Str)).isSome = false) :
    ∃ fdI, RaiseC P w K mg base "BadLines" "line" (He.ga K "BadLines") (iniA K "BadLines") fdI := by
  obtain ⟨c1, e⟩ := He.ba e
  obtain ⟨c2, e⟩ := He.ba e
  obtain ⟨c3, e⟩ := He.ba e
  obtain ⟨c4, e⟩ := He.ba e
  obtain ⟨c5, e⟩ := He.ba e
  obtain ⟨c6, e⟩ := He.ba e
  obtain ⟨c7, e⟩ := He.ba e
  obtain ⟨c8, e⟩ := He.ba e
  obtain ⟨c9, e⟩ := He.ba e
  obtain ⟨ca, e⟩ := He.ba e
  obtain ⟨cb, e⟩ := He.ba e
  obtain ⟨cc, e⟩ := He.ba e
  obtain ⟨cd, ce⟩ := He.ba e
  have T : OexC K (He.ga K "BadLines") := ⟨oexB_ok c1, He.eqO_ok c3, of_decide_eq_true c4, of_decide_eq_true c5, c6⟩
  unfold fnB at ca
  unfold iniW at hw
  split at ca
  · rename_i oc od fd osl lk
    rw [lk] at hw
    have hw := Option.some.inj hw
    split at ca
    · rename_i cy ccl cdd hcl hcode hdef hkw han
      obtain ⟨d1, d2⟩ := He.ba ca
      obtain ⟨d4, d3⟩ := He.ba d2
      obtain ⟨name, qual, params, body, scope, globals, closure, defaults, kwd, doc, pm, ann, code, ctv, bins⟩ := fd
      simp only [Prod.mk.injEq] at hw
      obtain ⟨w1, w2, w3, w4, w5, w6, w7, w8⟩ := hw
      dsimp only at hcl hcode hdef hkw han w1 w2 w3 w4 w5 w6 w7 w8 d3
      subst hcl hcode hdef hkw han w1 w2 w3 w4 w5 w6 w8
      have w7 : cy = "__class__" := by simpa using w7
      subst w7
      have S : Xi.SupI P K mg (He.ga K "BadLines") (iniA K "BadLines") ccl (nfI cdd ccl) "line" := by
        refine ⟨⟨oc, od, osl, doc, pm, ctv, lk⟩, rfl, cellB_ok d1, fileB_ok d4, d3, ?_, of_decide_eq_true cc, of_decide_eq_true cd, He.eqO_ok ce, hs, ht, ⟨_, _, rfl, rfl⟩, sc_iniL, supk_iniL, fun doc pm ctv us hl => ?_⟩
        · unfold clsB at cb
          split at cb
          · rename_i cd2 hcd
            exact ⟨cd2, hcd, of_decide_eq_true cb⟩
          · cases cb
        · match us, hl with
          | [_, _], _ => rfl
      exact ⟨_, T, He.eqO_ok c7, of_decide_eq_true c8, ok_iniL T S lk (He.eqO_ok c9), binds_ini, PySem.W.mg_of X G (He.eqO_ok c2)⟩
    · cases ca
  · cases ca
end
end TG
namespace TG
open PySem PySem.Spec PyProof.Rows L2
def rootsI (g : Addr → Option Obj) (n : Nat) : List Addr := cStatics :: He.asD g n
abbrev fragI (g : Addr → Option Obj) (n : Nat) : PySem.W.Frag := He.frT g (rootsI g n)
section
variable (n : Nat) (fa : List He.Fa) (fn : List He.DefD) (ts : List He.Tab) (tf : List He.Defn) (ex : PySem.W.Frag → Bool) (xs : List Str) (vals : List IniW)
def seenI (K : PySem.W.Frag) (g : Addr → Option Obj) : (He.AlT × Bool) × List IniW := ((He.obsT fa fn ts K, ex K && He.tabsB g tf K), xs.map (iniW K))
def obsI (g : Addr → Option Obj) : (He.AlT × Bool) × List IniW := seenI fa fn ts tf ex xs (fragI g n) g
theorem saysI {w : World} {h : Heap} (e : obsI n fa fn ts tf ex xs h.get? = ((He.valT fn ts w, true), vals)) : He.SaysX fa fn ts tf ex w h (fragI h.get? n) ∧ xs.map (iniW (fragI h.get? n)) = vals := by
  refine ⟨?_, congrArg Prod.snd e⟩
  have e1 : He.obsT fa fn ts (fragI h.get? n) = He.valT fn ts w := congrArg (fun z : (He.AlT × Bool) × List IniW => z.1.1) e
  have e2 : (ex (fragI h.get? n) && He.tabsB h.get? tf (fragI h.get? n)) = true := congrArg (fun z : (He.AlT × Bool) × List IniW => z.1.2) e
  obtain ⟨h1, h2⟩ := He.ba e2
  have at_ : ∀ p ∈ tf, PySem.W.codeHdIn (fragI h.get? n) (He.cT (fragI h.get? n) p).1 (He.cT (fragI h.get? n) p).2 = true ∧ ∃ o, h.get? (He.cT (fragI h.get? n) p).2 = some o ∧ He.emptyTab o = true := fun p hp => by
    obtain ⟨h3, h4⟩ := He.ba (List.all_eq_true.mp h2 p hp)
    cases q : h.get? (He.cT (fragI h.get? n) p).2 with
    | none => rw [q] at h4; cases h4
    | some o => rw [q] at h4; exact ⟨h3, o, rfl, h4⟩
  exact ⟨e1, h1, fun p hp => (at_ p hp).1, fun p hp => let ⟨_, o, q, z⟩ := at_ p hp; He.frT_none q z, fun p hp => let ⟨_, o, q, z⟩ := at_ p hp; by rw [q, He.emptyTab_eq z]⟩
def hookI : PySem.W.Hook where
  α := (He.AlT × Bool) × List IniW
  obs := fun s => obsI n fa fn ts tf ex xs s.heap.get?
  val := fun w => ((He.valT fn ts w, true), vals)
  says := fun w h => ∃ K : PySem.W.Frag, K.In h ∧ He.SaysX fa fn ts tf ex w h K ∧ xs.map (iniW K) = vals
  of := fun _ s e => ⟨_, He.frT_in, saysI n fa fn ts tf ex xs vals e⟩
  keeps := fun w h h' ⟨K, hK, c, e⟩ k => ⟨K, PySem.W.Frag.In.keeps hK k, ⟨c.t, c.more, c.hd, c.out, fun p hp => k _ _ (c.empty p hp)⟩, e⟩
theorem obsI_eq {g : Addr → Option Obj} {s : Shared} (h : ∀ a, g a = s.heap.get? a) : obsI n fa fn ts tf ex xs g = (hookI n fa fn ts tf ex xs vals).obs s := by
  have e : g = s.heap.get? := funext h
  rw [e]
  rfl
end
end TG
namespace TG
open PySem L2 Gx
section
variable {P : Program} {w : World} {K : PySem.W.Frag} {mg : Str → Option Value} {base : Heap} {cs : List (Addr × Addr)}
end
end TG
namespace TG
open PySem L2 Gx
section
variable {P : Program} {w : World} {K : PySem.W.Frag} {mg : Str → Option Value} {base : Heap} {cs : List (Addr × Addr)}
end
end TG
namespace TG
open PySem PySem.Spec PyProof.Rows L2 NdefX GenW Gx Lv
section
variable {P : Program} {w : World} {K : PySem.W.Frag} {mg : Str → Option Value} {base : Heap} {cs : List (Addr × Addr)}
end
end TG
namespace TG
open PySem PySem.Spec PyProof.Rows L2
abbrev cellF (o : Obj) : HO := .frz o (.own 0)
def addC (H : Hp) (cl : List (Addr × Obj)) : Hp := fun b => match cl.lookup b with
  | some o => some (cellF o)
  | none => H b
def delC (H : Hp) (cl : List (Addr × Obj)) : Hp := fun b => match cl.lookup b with
  | some _ => none
  | none => H b
theorem addC_in {H : Hp} {cl : List (Addr × Obj)} {b : Addr} {o : Obj} (h : cl.lookup b = some o) : addC H cl b = some (cellF o) := by unfold addC; rw [h]
theorem addC_out {H : Hp} {cl : List (Addr × Obj)} {b : Addr} (h : cl.lookup b = none) : addC H cl b = H b := by unfold addC; rw [h]
theorem delC_in {H : Hp} {cl : List (Addr × Obj)} {b : Addr} {o : Obj} (h : cl.lookup b = some o) : delC H cl b = none := by unfold delC; rw [h]
theorem delC_out {H : Hp} {cl : List (Addr × Obj)} {b : Addr} (h : cl.lookup b = none) : delC H cl b = H b := by unfold delC; rw [h]
section
variable {P : Program} {w : World}
theorem objOk_congr {H1 H2 : Hp} {h : Heap} {a : Addr} (k : ∀ b o, H1 b = some o → (∀ u v, o ≠ .frz u v) → H2 b = some o) : ∀ u : HO, ObjOk P w H1 h a u → ObjOk P w H2 h a u
  | .lst _, x => x
  | .tup _, x => x
  | .dK _, x => x
  | .dT _, ⟨x1, x2, xs, x3, x4⟩ => ⟨x1, x2, xs, x3.mono fun p q ⟨e1, e2, e3⟩ => ⟨e1, k _ _ e2 (fun u v z => by cases z), e3⟩, x4⟩
  | .set _ _, x => x
  | .ins _ _ _, ⟨x1, x2⟩ => ⟨k _ _ x1 (fun u v z => by cases z), x2⟩
  | .own _, x => x
  | .xd _, x => x
  | .rng _ _, x => x
  | .frz _ u, ⟨x1, x2⟩ => ⟨x1, objOk_congr k u x2⟩
  | .tbl _, x => x
  | .met _ _, x => x
  | .ext _, x => x
/-- the cells stand as they are told, and were untold -/
structure CellsIn (cl : List (Addr × Obj)) (base : Heap) (fs : List Addr) (h : Heap) : Prop where
  at_ : ∀ c o, cl.lookup c = some o → h.get? c = some o ∧ base.get? c = none ∧ c ∉ fs
theorem hok_add {H : Hp} {h : Heap} {cl : List (Addr × Obj)} (hk : HOk P w H h) (n : ∀ c o, cl.lookup c = some o → H c = none ∧ h.get? c = some o) : HOk P w (addC H cl) h := fun a o e => by
  cases q : cl.lookup a with
  | some u =>
    rw [addC_in q] at e
    cases e
    exact ⟨(n a u q).2, ⟨u, (n a u q).2⟩⟩
  | none =>
    rw [addC_out q] at e
    refine objOk_congr (fun b v hb _ => ?_) o (hk a o e)
    cases r : cl.lookup b with
    | some u => rw [(n b u r).1] at hb; cases hb
    | none => rw [addC_out r]; exact hb
theorem hok_del {H : Hp} {h : Heap} {cl : List (Addr × Obj)} (hk : HOk P w H h) (n : ∀ c o, cl.lookup c = some o → H c = some (cellF o)) : HOk P w (delC H cl) h := fun a o e => by
  cases q : cl.lookup a with
  | some u => rw [delC_in q] at e; cases e
  | none =>
    rw [delC_out q] at e
    refine objOk_congr (fun b v hb nf => ?_) o (hk a o e)
    cases r : cl.lookup b with
    | some u =>
      rw [n b u r] at hb
      cases hb
      exact absurd rfl (nf _ _)
    | none => rw [delC_out r]; exact hb
variable {K : PySem.W.Frag} {mg : Str → Option Value} {base : Heap} {A : Around} {outer : List Env} {s s' : Shared}
/-- told of: as a callee finds it -/
theorem env_add {H : Hp} {cl : List (Addr × Obj)} (e0 : Env0 P w K mg base A outer s H) (C : CellsIn cl base (frs outer) s.heap) (n : ∀ c o, cl.lookup c = some o → H c = none) : Env0 P w K mg base A outer s (addC H cl) := by
  refine ⟨e0.frames, e0.mod, fun b o hb => ⟨(e0.bs b o hb).1, ?_⟩, e0.bsz, e0.funs, fun b hb => ?_, hok_add e0.hok fun c o q => ⟨n c o q, (C.at_ c o q).1⟩, e0.bare⟩
  · cases r : cl.lookup b with
    | some u => rw [(C.at_ b u r).2.1] at hb; cases hb
    | none => rw [addC_out r]; exact (e0.bs b o hb).2
  · cases r : cl.lookup b with
    | some u => exact absurd hb (C.at_ b u r).2.2
    | none => rw [addC_out r]; exact e0.frf b hb
/-- untold of: as the frame that has the cells finds it -/
theorem env_del {H : Hp} {cl : List (Addr × Obj)} (e0 : Env0 P w K mg base A outer s H) (n : ∀ c o, cl.lookup c = some o → H c = some (cellF o)) : Env0 P w K mg base A outer s (delC H cl) := by
  refine ⟨e0.frames, e0.mod, fun b o hb => ⟨(e0.bs b o hb).1, ?_⟩, e0.bsz, e0.funs, fun b hb => ?_, hok_del e0.hok n, e0.bare⟩
  · cases r : cl.lookup b with
    | some u => exact delC_in r
    | none => rw [delC_out r]; exact (e0.bs b o hb).2
  · cases r : cl.lookup b with
    | some u => exact delC_in r
    | none => rw [delC_out r]; exact e0.frf b hb
theorem un_del {fs : List Addr} {H H' : Hp} {h h' : Heap} {cl : List (Addr × Obj)} (u : Un fs [] (addC H cl) H' h h') (hk : HOk P w H' h') (n : ∀ c o, cl.lookup c = some o → H c = none ∧ h.get? c = some o ∧ c ∉ fs) : Un fs [] H (delC H' cl) h h' := by
  have told : ∀ c o, cl.lookup c = some o → H' c = some (cellF o) := fun c o q => u.frzs c o _ (addC_in q)
  have out : ∀ {b : Addr} {o : HO}, H b = some o → cl.lookup b = none := fun {b o} hb => by
    cases r : cl.lookup b with
    | some v => rw [(n b v r).1] at hb; cases hb
    | none => rfl
  refine ⟨fun b o hb nb hf hx => ?_, fun b o hb nb hf hx => ?_, fun b o hb nb hx => ?_, fun b o hb hx => u.there b o hb hx, fun b xs hb => ?_, fun b o v hb => ?_, fun b ps hb => ?_⟩
  · cases r : cl.lookup b with
    | some v =>
      rw [(n b v r).2.1] at hb
      cases hb
      exact (hk b _ (told b _ r)).1
    | none => exact u.keep b o hb (by rw [addC_out r]; exact nb) hf hx
  · cases r : cl.lookup b with
    | some v => exact absurd hf (n b v r).2.2
    | none => exact u.slot b o hb (by rw [addC_out r]; exact nb) hf hx
  · cases r : cl.lookup b with
    | some v => exact delC_in r
    | none => rw [delC_out r]; exact u.free b o hb (by rw [addC_out r]; exact nb) hx
  · rw [delC_out (out hb)]
    exact u.tups b xs (by rw [addC_out (out hb)]; exact hb)
  · rw [delC_out (out hb)]
    exact u.frzs b o v (by rw [addC_out (out hb)]; exact hb)
  · obtain ⟨more, q⟩ := u.tbls b ps (by rw [addC_out (out hb)]; exact hb)
    exact ⟨more, by rw [delC_out (out hb)]; exact q⟩
/-- back from a callee that was told of the cells -/
theorem ce_del {H : Hp} {cl : List (Addr × Obj)} {Q : VK} {u : Value} (C : CellsIn cl base (frs outer) s.heap) (n : ∀ c o, cl.lookup c = some o → H c = none) (h : CE outer P w (addC H cl) s (fun v H' => (∀ c o, cl.lookup c = some o → H' c = some (cellF o)) → Q v (delC H' cl)) u s') : CE outer P w H s Q u s' := by
  obtain ⟨v, H', h1, h2, un, hk, r, q⟩ := h
  have told : ∀ c o, cl.lookup c = some o → H' c = some (cellF o) := fun c o e => un.frzs c o _ (addC_in e)
  exact ⟨v, delC H' cl, h1, h2, un_del un hk (fun c o e => ⟨n c o e, (C.at_ c o e).1, (C.at_ c o e).2.2⟩), hok_del hk told, r, q told⟩
theorem un_add {fs : List Addr} {H H' : Hp} {h h' : Heap} {cl : List (Addr × Obj)} (u : Un fs [] (delC H cl) H' h h') (n : ∀ c o, cl.lookup c = some o → H c = some (cellF o) ∧ h.get? c = some o ∧ c ∉ fs) : Un fs [] H (addC H' cl) h h' := by
  have frz : ∀ {b : Addr} {o : HO}, H b = some o → (∀ a v, o ≠ .frz a v) → cl.lookup b = none := fun {b o} hb nf => by
    cases r : cl.lookup b with
    | some v =>
      rw [(n b v r).1] at hb
      cases hb
      exact absurd rfl (nf _ _)
    | none => rfl
  refine ⟨fun b o hb nb hf hx => ?_, fun b o hb nb hf hx => ?_, fun b o hb nb hx => ?_, fun b o hb hx => u.there b o hb hx, fun b xs hb => ?_, fun b o v hb => ?_, fun b ps hb => ?_⟩
  · cases r : cl.lookup b with
    | some v => rw [(n b v r).1] at nb; cases nb
    | none => exact u.keep b o hb (by rw [delC_out r]; exact nb) hf hx
  · cases r : cl.lookup b with
    | some v => rw [(n b v r).1] at nb; cases nb
    | none => exact u.slot b o hb (by rw [delC_out r]; exact nb) hf hx
  · cases r : cl.lookup b with
    | some v => rw [(n b v r).1] at nb; cases nb
    | none => rw [addC_out r]; exact u.free b o hb (by rw [delC_out r]; exact nb) hx
  · have r := frz hb fun a v z => by cases z
    rw [addC_out r]
    exact u.tups b xs (by rw [delC_out r]; exact hb)
  · cases r : cl.lookup b with
    | some q =>
      rw [(n b q r).1] at hb
      rw [addC_in r]
      exact hb
    | none =>
      rw [addC_out r]
      exact u.frzs b o v (by rw [delC_out r]; exact hb)
  · have r := frz hb fun a v z => by cases z
    obtain ⟨more, q⟩ := u.tbls b ps (by rw [delC_out r]; exact hb)
    exact ⟨more, by rw [addC_out r]; exact q⟩
/-- behind the frame that has the cells: they are told of again -/
theorem ce_add {H : Hp} {cl : List (Addr × Obj)} {Q : VK} {u : Value} (hk0 : HOk P w H s.heap) (n : ∀ c o, cl.lookup c = some o → H c = some (cellF o) ∧ c ∉ frs outer) (h : CE outer P w (delC H cl) s (fun v H' => (∀ c o, cl.lookup c = some o → H' c = none) → Q v (addC H' cl)) u s') : CE outer P w H s Q u s' := by
  obtain ⟨v, H', h1, h2, un, hk, r, q⟩ := h
  have at0 : ∀ c o, cl.lookup c = some o → s.heap.get? c = some o := fun c o e => (hk0 c _ (n c o e).1).1
  refine ⟨v, addC H' cl, h1, h2, un_add un fun c o e => ⟨(n c o e).1, at0 c o e, (n c o e).2⟩, hok_add hk fun c o e => ?_, r, q fun c o e => un.free c o (at0 c o e) (delC_in e) (by simp)⟩
  exact ⟨un.free c o (at0 c o e) (delC_in e) (by simp), un.keep c o (at0 c o e) (delC_in e) (n c o e).2 (by simp)⟩
theorem cx_add {H : Hp} {cl : List (Addr × Obj)} {E : XK} {u : Value} (hk0 : HOk P w H s.heap) (n : ∀ c o, cl.lookup c = some o → H c = some (cellF o) ∧ c ∉ frs outer) (h : L2.CX P w outer (delC H cl) s (fun cls d H' => (∀ c o, cl.lookup c = some o → H' c = none) → E cls d (addC H' cl)) u s') : L2.CX P w outer H s E u s' := by
  obtain ⟨a, B, H', cls, d, e1, fly, hk, ub, na, h1, h2, q⟩ := h
  have at0 : ∀ c o, cl.lookup c = some o → s.heap.get? c = some o := fun c o e => (hk0 c _ (n c o e).1).1
  have atB : ∀ c o, cl.lookup c = some o → B.get? c = some o := fun c o e => ub.keep c o (at0 c o e) (delC_in e) (n c o e).2
  have frz : ∀ {b : Addr} {o : HO}, H b = some o → (∀ a v, o ≠ .frz a v) → cl.lookup b = none := fun {b o} hb nf => by
    cases r : cl.lookup b with
    | some v =>
      rw [(n b v r).1] at hb
      cases hb
      exact absurd rfl (nf _ _)
    | none => rfl
  refine ⟨a, B, addC H' cl, cls, d, e1, fly, hok_add hk fun c o e => ⟨ub.free c o (at0 c o e) (delC_in e), atB c o e⟩, ⟨fun b o hb nb hf => ?_, ub.slot, fun b o hb nb => ?_, ub.there, fun b xs hb => ?_, fun b o v hb => ?_, fun b ps hb => ?_⟩, ?_, h1, h2, q fun c o e => ub.free c o (at0 c o e) (delC_in e)⟩
  · cases r : cl.lookup b with
    | some v => rw [(n b v r).1] at nb; cases nb
    | none => exact ub.keep b o hb (by rw [delC_out r]; exact nb) hf
  · cases r : cl.lookup b with
    | some v => rw [(n b v r).1] at nb; cases nb
    | none => rw [addC_out r]; exact ub.free b o hb (by rw [delC_out r]; exact nb)
  · have r := frz hb fun a v z => by cases z
    rw [addC_out r]
    exact ub.tups b xs (by rw [delC_out r]; exact hb)
  · cases r : cl.lookup b with
    | some q =>
      rw [(n b q r).1] at hb
      rw [addC_in r]
      exact hb
    | none =>
      rw [addC_out r]
      exact ub.frzs b o v (by rw [delC_out r]; exact hb)
  · have r := frz hb fun a v z => by cases z
    obtain ⟨more, q⟩ := ub.tbls b ps (by rw [delC_out r]; exact hb)
    exact ⟨more, by rw [addC_out r]; exact q⟩
  · cases r : cl.lookup a with
    | some v =>
      have z := fly.2.1
      rw [atB a v r] at z
      cases z
    | none => rw [addC_out r]; exact na
end
end TG
namespace TG
open PySem PySem.Spec PyProof.Rows L2 NdefX GenW Gx Lv
/-- the captured names' cells, told of, hold these values -/
structure Caught (F : NF) (fr : List Str) (ws : List (Option V)) (cl : List (Addr × Obj)) (H : Hp) : Prop where
  len : ws.length = fr.length
  told : ∀ c o, cl.lookup c = some o → H c = some (cellF o)
  all : ∀ y c, F.cl.lookup y = some c → ∃ o v, cl.lookup c = some o ∧ o.data = .cell v
  inj : ∀ x y c, F.cl.lookup x = some c → F.cl.lookup y = some c → x = y
  has : ∀ (i : Nat) (y : Str), fr[i]? = some y → ∃ c, F.cl.lookup y = some c ∧ ∀ v, ws[i]? = some (some v) → ∃ o u, cl.lookup c = some o ∧ o.data = .cell (some u) ∧ RelV v u
section
variable {P : Program} {w : World} {K : PySem.W.Frag} {mg : Str → Option Value} {base : Heap}
structure LOkX (P : Program) (w : World) (K : PySem.W.Frag) (mg : Str → Option Value) (base : Heap) (k : Nat) (f : Addr) (F : NF) (e : Expr) (sp : Sp) : Prop where
  run : ∀ (A : Around) (outer : List Env) (s : Shared) (H : Hp) (Q : VK) (E : XK), Room k A → Env0 P w K mg base A outer s H → H f = some (FnL f F e) → H F.c = some (LamX.CodeO F.c F.qual) → sp [] H Q E →
    codeAny (model P w) A (.call (.ref f) ⟨[], []⟩) (CR (L2.CX P w) outer P w H s Q E) s
theorem lokx_of {k : Nat} {f : Addr} {F : NF} {e : Expr} {N fr : List Str} {sp : Sp} (S : NScope N [] fr F.scope) (hb : ∀ (pm ctv : Value), bindArgs (PySem.W.kla_fn F.name F.qual F.params e F.scope F.cl pm (.ref F.c) ctv) ⟨[], []⟩ = pure [])
    (hbody : ∀ (A : Around) (outer : List Env) (s : Shared) (H : Hp) (Q : VK) (E : XK), Room k (A.deeper (envF F f s.heap.objs.size)) → sp [] H Q E → ∃ (ws : List (Option V)) (cl : List (Addr × Obj)) (t : TE), Caught F fr ws cl H ∧
      PE (ncx (L2.CX P w) P w K mg base N F f A outer s (delC H cl) (fun cls d H' => (∀ c o, cl.lookup c = some o → H' c = none) → E cls d (addC H' cl))) e t ∧ t (startF N [] ws) (delC H cl) (fun v H' => (∀ c o, cl.lookup c = some o → H' c = none) → Q v (addC H' cl))) :
    LOkX P w K mg base (k + 1) f F e sp := by
  refine ⟨fun A outer s H Q E hr e0 hf hc hsp => ?_⟩
  have lim : s.heap.NoLimit := e0.mod.nolimit.keeps fun b o q => (e0.bs b o q).1
  obtain ⟨od, sl, pm, ctv, ho⟩ := fnL_at e0.hok hf
  obtain ⟨ws, cl, t, C, ht, hq⟩ := hbody A outer s H Q E (hr.deeper _) hsp
  have hnf : ∀ c o, cl.lookup c = some o → c ∉ frs outer := fun c o q hb => by
    have z := e0.frf c hb
    rw [C.told c o q] at z
    cases z
  have at0 : ∀ c o, cl.lookup c = some o → s.heap.get? c = some o := fun c o q => (e0.hok c _ (C.told c o q)).1
  refine codeAny_mono (R := CR (L2.CX P w) outer P w (delC H cl) s (fun v H' => (∀ c o, cl.lookup c = some o → H' c = none) → Q v (addC H' cl)) (fun cls d H' => (∀ c o, cl.lookup c = some o → H' c = none) → E cls d (addC H' cl))) ?_ fun r s' q => ?_
  · have e1 := env_del e0 C.told
    refine PySem.W.kla_callFunE hr.depth ho rfl S.co S.gen rfl (codeO_at e0.hok hc) ?_
    rw [hb pm ctv]
    refine wpAny_pure (wpAny_newFunctionEnv S.nocell (fun ⟨n, _⟩ hy => by cases hy) (fun h₁ hns hsb => ⟨lim.fresh _ hsb, ?_⟩) S.kind)
    have kp : ∀ b o, s.heap.get? b = some o → h₁.get? b = some o := fun b o q => hsb.extBut b o (Nat.ne_of_lt (Heap.lt_size q)) (Heap.get?_push_of_some _ q)
    have CA : NdefX.CellsAt F.cl fr ws s.heap (delC H cl) := by
      refine ⟨C.len, fun y c q => ?_, C.inj, fun i y q => ?_⟩
      · obtain ⟨o, v, h1, h2⟩ := C.all y c q
        exact ⟨delC_in h1, v, o, at0 c o h1, h2⟩
      · obtain ⟨c, h1, h2⟩ := C.has i y q
        refine ⟨c, h1, fun v hv => ?_⟩
        obtain ⟨o, u, h3, h4, h5⟩ := h2 v hv
        exact ⟨u, h5, o, at0 c o h3, h4⟩
    have I := inv_startN (CX := L2.CX P w) (P := P) (w := w) (E := fun cls d H' => (∀ c o, cl.lookup c = some o → H' c = none) → E cls d (addC H' cl)) (f := f) (tk := s.toks + (([] : List Str).zip ([] : List Value)).length) S hr.hd e1 (vs := []) (us := []) rfl .nil CA hns kp
    refine PySem.W.kla_codeExpr (wpAny_mono (ht.run [] _ (startF N [] ws) (delC H cl) _ I hq) (fun v s' q => ?_) fun e' s' q => q)
    obtain ⟨w', H', J, rv, q⟩ := q
    exact ⟨w', H', J.os, J.bare, J.base, J.hok, rv, q⟩
  · cases r with
    | error er => exact cx_add e0.hok (fun c o q => ⟨C.told c o q, hnf c o q⟩) q
    | ok fl =>
      cases fl with
      | ret u => exact ce_add e0.hok (fun c o q => ⟨C.told c o q, hnf c o q⟩) q
      | next => exact False.elim q
      | brk => exact False.elim q
      | cont => exact False.elim q
end
end TG
namespace TG
open PySem PySem.Spec PyProof.Rows L2 NdefX GenW Gx Lv
structure ToldC (cells : List (Str × Addr)) (N names : List Str) (σ : L2.St) (cl : List (Addr × Obj)) : Prop where
  all : ∀ y ∈ names, ∃ c o v, cells.lookup y = some c ∧ cl.lookup c = some o ∧ o.data = .cell v
  val : ∀ y ∈ names, ∀ c o, cells.lookup y = some c → cl.lookup c = some o → ∀ (i : Nat) (v : V), N[i]? = some y → σ[i]? = some (some v) → ∃ u, o.data = .cell (some u) ∧ RelV v u
  inj : ∀ y z c, cells.lookup y = some c → cells.lookup z = some c → y = z
theorem cells_list {h : Heap} {cells : List (Str × Addr)} : ∀ names : List Str, (∀ y ∈ names, ∃ c v, cells.lookup y = some c ∧ h.IsCell c v) →
    ∃ cl : List (Addr × Obj), (∀ c o, cl.lookup c = some o → h.get? c = some o ∧ ∃ y ∈ names, cells.lookup y = some c) ∧ ∀ y ∈ names, ∀ c, cells.lookup y = some c → ∃ o, cl.lookup c = some o
  | [], _ => ⟨[], ⟨fun c o e => by simp at e, fun y hy => by simp at hy⟩⟩
  | y :: names, k => by
    obtain ⟨cl, h1, h2⟩ := cells_list names fun z hz => k z (List.mem_cons_of_mem _ hz)
    obtain ⟨c, v, e1, o, e2, _⟩ := k y List.mem_cons_self
    refine ⟨(c, o) :: cl, fun c' o' e => ?_, fun z hz c' e => ?_⟩
    · rw [List.lookup_cons] at e
      by_cases q : c' = c
      · rw [q, beq_self_eq_true] at e
        cases e
        rw [q]
        exact ⟨e2, y, List.mem_cons_self, e1⟩
      · rw [beq_false_of_ne q] at e
        obtain ⟨g1, z, hz, g2⟩ := h1 c' o' e
        exact ⟨g1, z, List.mem_cons_of_mem _ hz, g2⟩
    · rw [List.lookup_cons]
      by_cases q : c' = c
      · rw [q, beq_self_eq_true]
        exact ⟨o, rfl⟩
      · rw [beq_false_of_ne q]
        rcases List.mem_cons.mp hz with r | r
        · rw [r, e1] at e
          exact absurd (Option.some.inj e).symm q
        · exact h2 z r c' e
def tCallC (cells : List (Str × Addr)) (N names : List Str) (sp : Sp) (t : TA) : TE := fun σ H Q => t σ H fun vs H1 => ∀ cl : List (Addr × Obj), ToldC cells N names σ cl → (∀ c o, cl.lookup c = some o → H1 c = none) →
  sp vs (addC H1 cl) (fun v H' => (∀ c o, cl.lookup c = some o → H' c = some (cellF o)) → Q v (delC H' cl)) (fun _ _ _ => False)
theorem pe_callC {X : Cx} {names : List Str} {k : Nat} {f : Addr} {fd : FuncData} {ps : List Str} {sp : Sp} {x : Str} {p pos : Pos} {e : Expr} {es : List Expr} {t : TA} (F : FnOk X.prog X.w X.K X.mg X.base CX0 k f fd ps sp) (hr : Room k X.A) (hg : Gl X x) (hm : X.mg x = some (.ref f)) (hk : PySem.W.keepIn X.K (.ref f) = true) (hb : Binds X.K fd ps [])
    (hfn : ∀ y ∈ names, X.fn y = true) (hcell : ∀ y ∈ names, X.env.kindOf y = some .cell) (ha : PA X (e :: es) t) (hdb : (x == ("__debug__" : Str)) = false := by decide) (he : starEach (e :: es) X.env = (false, eval e X.env) :: starEach es X.env := by rfl) (hpl : (backTo pos (starEach es X.env)).any (·.1) = false := by rfl) :
    PE X (.Call (.Name x p) (e :: es) [] pos) (tCallC X.env.cells X.N names sp t) := by
  refine ⟨fun pins s σ H Q I h => ?_⟩
  refine wpAny_Call_Name_kw (ld_glob I hg hm ?_ hdb)
  refine PySem.W.callWith_K (h₀ := X.base) I.ok.mod.kin hk (thn (ha.run pos pins s σ H _ I h) fun us s1 ⟨vs, H1, I1, r, q⟩ => ⟨I1.kIn, ?_⟩) he hpl
  show wpAny _ _ (call (.ref f) us) _ _ _
  have has : ∀ y ∈ names, ∃ c v, X.env.cells.lookup y = some c ∧ s1.heap.IsCell c v := fun y hy => by
    obtain ⟨c, hc⟩ := I1.ok.has y (.inl (hcell y hy))
    obtain ⟨v, hv⟩ := I1.cell y c hc
    exact ⟨c, v, hc, hv⟩
  obtain ⟨cl, c1, c2⟩ := cells_list names has
  have un : ∀ c o, cl.lookup c = some o → H1 c = none := fun c o e => by
    obtain ⟨_, y, _, hc⟩ := c1 c o e
    exact I1.freeC y c hc
  have C : CellsIn cl X.base (frs X.stack) s1.heap := ⟨fun c o e => by
    obtain ⟨g1, y, hy, hc⟩ := c1 c o e
    have ge := I1.ok.cab y c (hfn y hy) hc
    refine ⟨g1, ?_, fun hin => ?_⟩
    · cases z : X.base.get? c with
      | none => rfl
      | some u => exact absurd (Nat.lt_of_lt_of_le (Heap.lt_size (I1.ok.bs c u z).1) ge) (Nat.lt_irrefl _)
    · rcases List.mem_cons.mp (I1.stkSub c hin) with z | z
      · obtain ⟨m, hn, _⟩ := I1.loc
        obtain ⟨v, o2, q1, q2⟩ := I1.cell y c hc
        rw [z] at q1
        obtain ⟨o3, es3, ep3, q3, q4, _⟩ := hn
        rw [q1] at q3
        cases q3
        rw [q2] at q4
        cases q4
      · obtain ⟨_, o2, q1, _⟩ := I1.ok.funs.mem z
        exact absurd (Nat.lt_of_lt_of_le (Heap.lt_size q1) ge) (Nat.lt_irrefl _)⟩
  have T : ToldC X.env.cells X.N names σ cl := by
    refine ⟨fun y hy => ?_, fun y hy c o hc ho i v hN hs => ?_, I1.ok.inj⟩
    · obtain ⟨c, hc⟩ := I1.ok.has y (.inl (hcell y hy))
      obtain ⟨v, o2, q1, q2⟩ := I1.cell y c hc
      obtain ⟨o, ho⟩ := c2 y hy c hc
      have z := (c1 c o ho).1
      rw [q1] at z
      cases z
      exact ⟨c, _, v, hc, ho, q2⟩
    · obtain ⟨m, hn, loc⟩ := I1.loc
      obtain ⟨u, ru, lk⟩ := loc i y v hN hs (.inr (.inl (hcell y hy)))
      rcases lk with ⟨z, _⟩ | ⟨_, c', hc', o2, q1, q2⟩
      · rw [hcell y hy] at z; cases z
      · rw [hc] at hc'
        cases hc'
        have z := (c1 c o ho).1
        rw [q1] at z
        cases z
        exact ⟨u, q2, ru⟩
  have sq := q cl T un
  have hl : (us ++ []).length = ps.length := by rw [List.append_nil, ← r.length]; exact F.len _ _ _ _ sq
  have e1 := env_add I1.env0 C un
  have bd := hb s1 us I1.kIn hl
  rw [List.append_nil] at bd
  refine wpAny_call (codeAny_mono (F.run X.A X.stack s1 (addC H1 cl) ⟨us, []⟩ us vs _ _ hr e1 bd r sq) fun r' s' hq => ?_)
  cases r' with
  | error er => exact False.elim hq
  | ok fl =>
    cases fl with
    | ret u => exact I1.after (ce_del C un hq)
    | next => exact False.elim hq
    | brk => exact False.elim hq
    | cont => exact False.elim hq
end TG
namespace TG
open PySem PySem.Spec PyProof.Rows L2 NdefX GenW Gx Lv
/-- the reading of a lambda that captures cells of the frame -/
def tLamC (P : Addr) (q : Str) (params : Arguments) (body : Expr) (scope : Scope) (cl : List (Str × Addr)) : TE := fun _ H Q => LamX.TabS H P q ∧ ∀ (f c' : Addr) (H1 : Hp), (∀ b o, H b = some o → b ≠ P → H1 b = some o) → (∀ b, H1 b = none → H b = none) → LamX.TabS H1 P q → H f = none →
  H1 f = some (FnL f ⟨"<lambda>", q, params, [], scope, cl, c'⟩ body) → H1 c' = some (LamX.CodeO c' q) → Q (.ref f) H1
theorem pe_lamC {X : Cx} {c P : Addr} {params : Arguments} {body : Expr} {scope : Scope} {pos : Pos} (B : LamX.TabB X.base X.mg c P) (hcode : X.env.code = .ref c) (hdef : defaultsOf params X.env = ([], []))
    (hfr : ∀ y ∈ scope.names, y.2 = .free → X.env.kindOf y.1 = some .cell ∨ X.env.kindOf y.1 = some .free) :
    PE X (.Lambda params body scope pos) (tLamC P (X.env.qual ++ "<lambda>") params body scope (cloFrom X.env.cells scope.names [])) := by
  refine ⟨fun pins s σ H Q I h => ?_⟩
  obtain ⟨hT, h⟩ := h
  exact lam_val I B hcode hT hdef (fun y hy e => I.ok.has _ (hfr y hy e)) fun f c' H1 s' J k1 k2 t1 nf hf hc => ⟨.ref f, H1, J, rfl, h f c' H1 k1 k2 t1 nf hf hc⟩
end TG

namespace TG
open PySem PySem.Spec PyProof.Rows L2 Gx
theorem fold_one (c : Nat) : ∀ (n : Nat) (acc : Array Nat), (List.replicate n (#[c] : Array Nat)).foldl (fun a b => a ++ b) acc = acc ++ (List.replicate n c).toArray
  | 0, acc => by simp
  | n + 1, acc => by
    rw [List.replicate_succ, List.foldl_cons, fold_one c n]
    apply Array.toList_inj.mp
    simp [List.replicate_succ]
def repS (c : Nat) (n : Nat) : Str := ⟨(List.replicate n c).toArray⟩
theorem cl_repS (c n : Nat) : cl (repS c n) = List.replicate n c := by simp [cl, repS]
section
variable {X : Cx}
def rRepS : V → V → Hp → VK → Prop := fun x y H Q => ∃ (c : Nat) (n : Int), x = .str ⟨#[c]⟩ ∧ y = .int n ∧ 0 ≤ n ∧ n ≤ 1000 ∧ Q (.str (repS c n.toNat)) H
theorem op_repS : OpR X (binaryOp .Mult) rRepS := by
  intro pins s σ H x y v u Q I rx ry h
  obtain ⟨c, n, rfl, rfl, h0, h1, q⟩ := h
  obtain ⟨t, rfl⟩ := rx
  obtain ⟨t', rfl⟩ := ry
  have hs : ((⟨#[c]⟩ : Str).length) = 1 := rfl
  refine PySem.P.mul_str ?_ (fun _ _ => ?_) (fun _ _ => ?_) ?_
  · rw [decide_eq_false (by omega), decide_eq_false (by omega)]
    rfl
  · rw [hs]
    have : (1 : Int) ≤ (2 ^ 63 - 1) / n := Int.le_ediv_of_mul_le (by omega) (by omega)
    omega
  · rw [hs, Nat.one_mul]
    have sz : (1000 : Nat) < sizeLine := by decide
    exact decide_eq_false (by omega)
  · by_cases e : n < 1
    · rw [if_pos e]
      have e0 : n = 0 := by omega
      subst e0
      exact ⟨by decide, .str (repS c (0 : Int).toNat), H, I.tok _, ⟨_, rfl⟩, q⟩
    · rw [if_neg e]
      by_cases e1 : n = 1
      · subst e1
        rw [if_pos (by rfl)]
        exact (⟨.str (repS c (1 : Int).toNat), H, I, ⟨_, rfl⟩, q⟩ : EP X pins σ Q _ _)
      · rw [if_neg (by rw [hs]; simp [e1])]
        have hf : (⟨(List.replicate n.toNat (#[c] : Array Nat)).foldl (· ++ ·) #[]⟩ : Str) = repS c n.toNat := by
          unfold repS
          rw [fold_one]
          simp
        show Made.post (.str ⟨(List.replicate n.toNat (#[c] : Array Nat)).foldl (· ++ ·) #[]⟩) _ _
        rw [hf]
        have sz : (1000 : Nat) < sizeLine := by decide
        have hl : (repS c n.toNat).length = n.toNat := by unfold repS; simp [Str.length]
        exact ⟨by omega, .str (repS c n.toNat), H, I.tok _, ⟨_, rfl⟩, q⟩
end
end TG


namespace TG
open PySem PySem.Spec PyProof.Rows L2 NdefX GenW Gx Lv
/-! ### list.count, flat items -/
theorem cntU {y : V} : ∀ {ys : List V} {its : List Value}, Vals ys its → ys.all flatV = true → its.countP (eqU y) = ys.countP (fun z => eqV z y)
  | [], _, .nil, _ => rfl
  | z :: ys, _, .cons r t, f => by
    rw [List.all_cons, Bool.and_eq_true] at f
    rw [List.countP_cons, List.countP_cons, eqU_of r f.1, cntU t f.2]
def rCnt (K : PySem.W.Frag) : V → List V → Hp → VK → Prop := fun x xs H Q => ∃ (a : Addr) (ys : List V) (y : V), x = .ref a ∧ xs = [y] ∧ SqL K H a ys ∧ flatV y = true ∧ ys.all flatV = true ∧ Q (.int (ys.countP (fun z => eqV z y) : Nat)) H
theorem mt_cnt {X : Cx} : MtR X "list.count" (rCnt X.K) := by
  intro pins s σ H x xs v us Q I rx rxs h
  obtain ⟨a, ys, y, rfl, rfl, hs, fy, fys, q⟩ := h
  cases rx
  obtain ⟨u, rfl, ru⟩ := rxs.one
  obtain ⟨its, rv, ⟨⟨cls, dd, data, sl⟩, n, ho, hc, hdn, hd⟩, hlen⟩ := I.list hs
  simp only at hc hd
  subst hc hd
  have ec : its.toArray.toList.countP (eqU y) = ys.countP (fun z => eqV z y) := cntU rv fys
  refine call_meets PySem.F.slot_list_count ⟨_, ho, rfl⟩ PySem.F.entry_list_count (PySem.F.args_list_count_2 _ _) (SeqAt.list_countAt a its.toArray n dd sl u (eqU y)) ⟨ho, fun w hw => mem_eqAt ru fy rv fys w (by simpa using hw), ?_⟩
  refine ⟨.int (ys.countP (fun z => eqV z y) : Nat), H, I.tok _, ⟨s.toks, ?_⟩, q⟩
  rw [← ec]
/-! ### isinstance and fields of a caught error -/
/-- its dict, if it has one, is told of -/
def XdAt (H : Hp) (d : Option Addr) : Prop := d = none ∨ ∃ dd fs, d = some dd ∧ H dd = some (.xd fs)
def rIsX (K : PySem.W.Frag) (cls : Value) (d : Option Addr) (a : Addr) : List V → Hp → VK → Prop := fun xs H Q => ∃ (c : V) (cv : Value) (b : Bool) (D : Addr), xs = [.ref a, c] ∧ cls = .ref D ∧ ExcC K D ∧ (∀ u, RelV c u → u = cv) ∧ PySem.W.kitOne K (.ref D) cv = some b ∧ XdAt H d ∧ Q (.bl b) H
theorem isCls_of {K : PySem.W.Frag} {D : Addr} (h : PySem.W.hasDictIn K D = true) : (PySem.W.clsIn K D).isSome = true := by
  obtain ⟨cd, hc, _⟩ := PySem.W.any_some h
  rw [hc]
  rfl
section
variable {X : Cx} {a : Addr} {oe : Obj} {cls : Value} {d : Option Addr} {pn : List (Addr × Obj)}
theorem call_isX (hz : Zc cls d oe) (hf : ∃ vs, oe.data = .fields vs) : CallR (X.suite a ((a, oe) :: pn)) (.builtin "isinstance") (rIsX X.K cls d a) := by
  intro pins s σ H xs us Q I r h
  obtain ⟨c, cv, b, D, rfl, rfl, C, hcv, e, hd, q⟩ := h
  cases r with
  | cons rx rr =>
    cases rr with
    | cons rt rr =>
      cases rr
      cases rx
      have ec := hcv _ rt
      subst ec
      obtain ⟨hget, _⟩ := I.pin (a, oe) (List.mem_append.mpr (.inl List.mem_cons_self))
      obtain ⟨vs, hv⟩ := hf
      have nc : PySem.W.notCls oe = true := by
        unfold PySem.W.notCls
        rw [hv] <;> rfl
      have fin : ∀ tk, EP (X.suite a ((a, oe) :: pn)) pins σ Q (.bool b) { s with toks := tk } := fun tk => ⟨.bl b, H, I.kept (t' := tk) fun _ _ z => z, rfl, q⟩
      rcases hd with rfl | ⟨dd, fs, rfl, hdd⟩
      · have J : PySem.W.InstAt s.heap a oe D none := by
          obtain ⟨h1, h2⟩ := hz
          refine ⟨hget, h1, nc, ?_⟩
          rw [h2]
          trivial
        exact PySem.W.kia_one (PySem.W.kitx_exc (isCls_of C.hd) C.hg C.hk C.hs C.ha C.hn C.ht C.hm) I.kIn J e (fun z => nomatch z) fin
      · have hx : ObjOk X.prog X.w H s.heap dd (.xd fs) := I.hok dd _ hdd
        obtain ⟨mA, hns, _⟩ := hx
        obtain ⟨od, ho, _⟩ := lookIn_ns hns
        have J : PySem.W.InstAt s.heap a oe D (some od) := ⟨hget, hz.1, nc, by rw [hz.2]; exact ho⟩
        exact PySem.W.kia_one (PySem.W.kitx_exc (isCls_of C.hd) C.hg C.hk C.hs C.ha C.hn C.ht C.hm) I.kIn J e (fun z => nomatch z) fin
def tXfX (K : PySem.W.Frag) (a : Addr) (cls : Value) (d : Option Addr) (f : Str) (te : TE) : TE := fun σ H Q => ∃ C : Addr, XfC K C ∧ PySem.W.findIn K (.ref C) f = some none ∧ tXf a cls d C f te σ H Q
theorem pe_xfX {e : Expr} {te : TE} {pos : Pos} {n : Str} (hz : Zc cls d oe) (hf : ∃ vs, oe.data = .fields vs) (he : PE (X.suite a ((a, oe) :: pn)) e te) (hb : attributeBase e n X.env (eval e X.env) = eval e X.env := by rfl) :
    PE (X.suite a ((a, oe) :: pn)) (.Attribute e n pos) (tXfX X.K a cls d n te) := by
  refine ⟨fun pins s σ H Q I h => ?_⟩
  obtain ⟨C, T, hno, h⟩ := h
  exact (pe_xf T hno hz hf he hb).run pins s σ H Q I h
end
/-! ### rules for an except suite, whose readings don't speak of the error's object -/
section
variable {X : Cx} {a : Addr} {l : List (Addr × Obj)}
theorem ix_listU : IxR (X.suite a l) (rIxL X.K) := ix_list
theorem op_inU : OpR (X.suite a l) (compareOp .In) (rIn X.K false) := op_in_seq
theorem mt_cntU : MtR (X.suite a l) "list.count" (rCnt X.K) := mt_cnt
theorem mt_indexU : MtR (X.suite a l) "list.index" (rIndex X.K) := mt_index
theorem pe_bmU {T name id : String} {r : V → List V → Hp → VK → Prop} {o e : Expr} {es : List Expr} {to : TE} {t : L2.TA} {apos cpos : Pos} (pa : PlainAttrs T) (slot : Slot T (name : Str) id) (hty : typeOf (.builtin id) = pure (.type "method_descriptor")) (hm : MtR (X.suite a l) id r)
    (ho : PE (X.suite a l) o to) (ha : PA (X.suite a l) (e :: es) t) (hbase : attributeBase o (name : Str) X.env (eval o X.env) = eval o X.env := by rfl)
    (hfew : ((backTo cpos (starEach (e :: es) X.env)).all (fun x => !x.1) && (backToKw cpos (keywordEach [] X.env)).all (fun x => x.1.isSome) && decide ((e :: es).length + ([] : List Keyword).length + (if ([] : List Keyword).isEmpty then 0 else 1) < 30)) = true := by rfl)
    (hline : (apos.endLine == cpos.line) = true := by rfl) (hs : starEach (e :: es) X.env = (false, eval e X.env) :: starEach es X.env := by rfl) (hplain : (backTo cpos (starEach es X.env)).any (·.1) = false := by rfl) :
    PE (X.suite a l) (.Call (.Attribute o (name : Str) apos) (e :: es) [] cpos) (tBM X.K T r to t) := pe_bm pa slot hty hm ho ha hbase hfew hline hs hplain
end
theorem xfC_of {K : PySem.W.Frag} {C : Addr} (h : ExcC K C) : XfC K C := ⟨h.hg, h.hk, h.hs, h.hd⟩
/-! ### a call by name of a lambda without parameters, in a try -/
def tCallX (P : Program) (w : World) (K : PySem.W.Frag) (mg : Str → Option Value) (base : Heap) (k i : Nat) (W : WX) : TE := fun σ H Q => ∃ (f : Addr) (F : NF) (e : Expr) (sp : Sp), σ[i]? = some (some (.ref f)) ∧ H f = some (FnL f F e) ∧ H F.c = some (LamX.CodeO F.c F.qual) ∧ LOkX P w K mg base k f F e sp ∧ sp [] H Q (WE W σ)
theorem pe_callX {X : Cx} {W : WX} {i k : Nat} {x : Str} {p pos : Pos} {P : Program} {w : World} {K : PySem.W.Frag} {mg : Str → Option Value} {base : Heap} (eX : X.prog = P ∧ X.w = w ∧ X.K = K ∧ X.mg = mg ∧ X.base = base) (hr : Room k X.A) (tk : Takes X W) (hN : X.N[i]? = some x) (hv : Vis X.env.scope x) (hd : (x == ("__debug__" : Str)) = false := by decide) (hcd : (x == ("__classdict__" : Str)) = false := by decide) :
    PE X (.Call (.Name x p) [] [] pos) (tCallX P w K mg base k i W) := by
  obtain ⟨rfl, rfl, rfl, rfl, rfl⟩ := eX
  refine ⟨fun pins s σ H Q I h => ?_⟩
  obtain ⟨f, F, b, sp, hs, hf, hc, L, q⟩ := h
  refine wpAny_Call_Name_kw (thn ((pe_var (pos := p) hN hv hd hcd).run pins s σ H (fun v H1 => v = .ref f ∧ H1 = H) I ⟨.ref f, hs, rfl, rfl⟩) fun u s1 ⟨v, H1, I1, r1, q1⟩ => ?_)
  obtain ⟨ev, eH⟩ := q1
  subst ev eH
  obtain rfl : u = Value.ref f := r1
  have at_ : PySem.W.FnAt f s1.heap := by
    obtain ⟨od, sl, pm, ctv, ho⟩ := fnL_at I1.hok hf
    exact ⟨_, od, _, sl, ho⟩
  refine PySem.W.callWith_F0 (first := []) at_ ?_
  refine wpAny_call (codeAny_mono (L.run X.A X.stack s1 H1 Q (WE W σ) hr I1.env0 hf hc q) fun r' s' hq => ?_)
  cases r' with
  | error er => exact passAt tk σ pins H1 s1 er s' I1 hq
  | ok fl =>
    cases fl with
    | ret u => exact I1.after hq
    | next => exact False.elim hq
    | brk => exact False.elim hq
    | cont => exact False.elim hq
end TG


namespace TG
open PySem PySem.Spec PyProof.Rows L2 NdefX GenW Gx Lv
/-! ### cells told of, and what a lambda caught -/
theorem caught_of {cells : List (Str × Addr)} {N names fr : List Str} {σ : L2.St} {cl : List (Addr × Obj)} {F : NF} {ws : List (Option V)} {H : Hp} (T : ToldC cells N names σ cl) (hF : F.cl = cloFrom cells F.scope.names [])
    (hfr : ∀ y, (y, NameKind.free) ∈ F.scope.names → y ∈ fr) (hrf : ∀ y ∈ fr, (y, NameKind.free) ∈ F.scope.names) (hsub : ∀ y ∈ fr, y ∈ names) (len : ws.length = fr.length) (told : ∀ c o, cl.lookup c = some o → H c = some (cellF o))
    (hw : ∀ (i : Nat) (y : Str) (v : V), fr[i]? = some y → ws[i]? = some (some v) → ∃ j : Nat, N[j]? = some y ∧ σ[j]? = some (some v)) : Caught F fr ws cl H := by
  have at_ : ∀ y c, F.cl.lookup y = some c → y ∈ fr ∧ ∃ o v, cells.lookup y = some c ∧ cl.lookup c = some o ∧ o.data = .cell v := fun y c e => by
    rw [hF] at e
    rcases cloFrom_mem (PySem.mem_of_lookup e) with z | ⟨z, hc⟩
    · cases z
    · have hy := hfr y z
      obtain ⟨c', o, v, e1, e2, e3⟩ := T.all y (hsub y hy)
      rw [e1] at hc
      have hc : c = c' := hc
      subst hc
      exact ⟨hy, o, v, e1, e2, e3⟩
  refine ⟨len, told, fun y c e => ?_, fun x y c e1 e2 => ?_, fun i y e => ?_⟩
  · obtain ⟨_, o, v, _, h2, h3⟩ := at_ y c e
    exact ⟨o, v, h2, h3⟩
  · obtain ⟨_, _, _, h1, _⟩ := at_ x c e1
    obtain ⟨_, _, _, h2, _⟩ := at_ y c e2
    exact T.inj x y c h1 h2
  · have hy : y ∈ fr := List.mem_of_getElem? e
    have hm := cloFrom_has (cells := cells) (acc := []) (hrf y hy)
    have hs : ∃ c, F.cl.lookup y = some c := by
      rw [hF]
      cases q : (cloFrom cells F.scope.names []).lookup y with
      | some c => exact ⟨c, rfl⟩
      | none =>
        have := List.lookup_eq_none_iff.mp q _ hm
        simp at this
    obtain ⟨c, hc⟩ := hs
    obtain ⟨_, o, v0, h1, h2, h3⟩ := at_ y c hc
    refine ⟨c, hc, fun v hv => ?_⟩
    obtain ⟨j, hj1, hj2⟩ := hw i y v e hv
    obtain ⟨u, e1, e2⟩ := T.val y (hsub y hy) c o h1 h2 j v hj1 hj2
    exact ⟨o, u, h2, e1, e2⟩
section
variable {cs : List (Addr × Addr)} {H H' : Hp} {cl : List (Addr × Obj)}
theorem add_at (un : ∀ c o, cl.lookup c = some o → H c = none) {b : Addr} {o : HO} (h : H b = some o) : addC H cl b = some o := by
  cases r : cl.lookup b with
  | some u => rw [un b u r] at h; cases h
  | none => rw [addC_out r]; exact h
theorem del_at (un : ∀ c o, cl.lookup c = some o → H c = none) {b : Addr} {o : HO} (h : H b = some o) : cl.lookup b = none := by
  cases r : cl.lookup b with
  | some u => rw [un b u r] at h; cases h
  | none => rfl
theorem add_none {D : Addr} (h : addC H cl D = none) : cl.lookup D = none ∧ H D = none := by
  cases r : cl.lookup D with
  | some u => rw [addC_in r] at h; cases h
  | none => rw [addC_out r] at h; exact ⟨rfl, h⟩
theorem del_upd_add (un : ∀ c o, cl.lookup c = some o → H c = none) {D : Addr} {o : HO} (hD : cl.lookup D = none) : delC (upd (addC H cl) D o) cl = upd H D o := by
  funext b
  cases r : cl.lookup b with
  | some u =>
    rw [delC_in r, upd_ne (fun z => by rw [z, hD] at r; cases r)]
    exact (un b u r).symm
  | none =>
    rw [delC_out r]
    by_cases hb : b = D
    · rw [hb, upd_same, upd_same]
    · rw [upd_ne hb, upd_ne hb, addC_out r]
theorem tabs_add (un : ∀ c o, cl.lookup c = some o → H c = none) (t : Tabs cs H) : Tabs cs (addC H cl) := fun p hp => by
  obtain ⟨ps, h1, h2⟩ := t p hp
  exact ⟨ps, add_at un h1, h2⟩
/-- what came of a heap with the cells told, the cells untold again -/
theorem ex_del (un : ∀ c o, cl.lookup c = some o → H c = none) (told : ∀ c o, cl.lookup c = some o → H' c = some (cellF o)) (x : Ex cs (addC H cl) H') : Ex cs H (delC H' cl) := by
  refine ⟨fun b o h n => ?_, fun p hp => ?_, fun b h => ?_, fun b o h n => ?_⟩
  · rw [delC_out (del_at un h)]
    exact x.ext b o (add_at un h) n
  · obtain ⟨ps, h1, h2⟩ := x.tab p hp
    have r : cl.lookup p.2 = none := by
      cases r : cl.lookup p.2 with
      | none => rfl
      | some u => rw [told _ u r] at h1; cases h1
    exact ⟨ps, by rw [delC_out r]; exact h1, h2⟩
  · cases r : cl.lookup b with
    | some u => exact un b u r
    | none =>
      rw [delC_out r] at h
      exact (add_none (x.old b h)).2
  · rw [delC_out (del_at un h)]
    exact x.oth b o (add_at un h) n
end
end TG


namespace Dl
open PySem PySem.Spec PyProof.Rows L2 NdefX GenW Lv
/-! Lambdas of one parameter, whose default is a whole number, and that capture cells. -/
/-- the function's data, its defaults in a tuple -/
def fnD (name qual : Str) (params : Arguments) (body : Expr) (scope : Scope) (cl : List (Str × Addr)) (pm cdv ct : Value) (dV : Value) : FuncData :=
  { name := name, qualname := qual, params := params, body := .expr body, scope := scope, globals := mainGlobals, closure := cl, defaults := dV, kwdefaults := .none, pyModule := pm, code := cdv, closureTuple := ct, builtins := builtinsNs }
def objD (name qual : Str) (params : Arguments) (body : Expr) (scope : Scope) (cl : List (Str × Addr)) (pm : Value) (c' : Addr) (ct : Value) (dV : Value) : Obj := { cls := .type "function", data := .func (fnD name qual params body scope cl pm (.ref c') ct dV) }
theorem makeTail {M : Model} {A : Around} {E : Value → Shared → Prop} {s : Shared} {name qual : Str} {params : Arguments} {body : Expr} {scope : Scope} {env : Env} {c P : Addr} {ps : Array Value} {pos : Pos} {firstLine : Nat} {mg : Str → Option Value} {q : Str × Addr} {r : List (Str × Addr)} {dV : Value} {Q : Value → Shared → Prop}
    (hcl : closureFor scope env = pure (q :: r)) (hge0 : env.globals = mainGlobals) (hg : s.heap.Ns mainGlobals mg) (hcode : env.code = .ref c) (C : PySem.W.CodeHd s.heap c P) (hP : s.heap.get? P = some (PySem.W.tabObj ps)) (ht : TriplesOk ps.toList) (hnf : codeAmong pos ps.toList = none)
    (hgP : mainGlobals ≠ P) (hb : s.heap.BuiltinsAt mg P)
    (h : ∀ (c' : Nat) (ctv : Value) (h' : Heap) (tk : Nat), Heap.ExtBut P s.heap h' → s.heap.objs.size ≤ c' → c' < h'.objs.size → h'.CodeRec (.ref c') qual → h'.get? P = some (PySem.W.tabObj (ps ++ #[rawInt pos.line, rawInt pos.col, .ref c'])) →
      Q (.ref h'.objs.size) { heap := h'.push (objD name qual params body scope (q :: r) ((mg "__name__").getD .none) c' ctv dV), gens := s.gens, drawn := s.drawn, toks := tk, os := s.os }) :
    wpAny M A (PySem.makeTail name qual params (.expr body) scope env dV .none none pos firstLine) Q E s := by
  obtain ⟨bm, ob, hbm, hne0, hl, hneP, hbo, hcls, hdict, hdata⟩ := hb
  unfold PySem.makeTail
  rw [hcl, hge0]
  refine wpAny_bind (wpAny_pure ?_)
  rw [if_neg (by simp)]
  refine wpAny_bind (wpAny_newTextTuple ?_)
  refine wpAny_bind (wpAny_functionCodeX hcode (PySem.W.CodeHd.code (C.keeps fun b o e => Heap.get?_push_of_some _ e) (Heap.get?_push_of_some _ hP) ht) (PySem.W.CodeHd.tab (C.keeps fun b o e => Heap.get?_push_of_some _ e) (Heap.get?_push_of_some _ hP)) hnf fun c' h' tk hx hge hlt x hrec htb x_1 => ?_)
  have hg' := Heap.Ns.extBut (Heap.Ns.push hg _) hx hgP
  have hx' : Heap.ExtBut P s.heap h' := fun b o hb' e => hx b o hb' (Heap.get?_push_of_some _ e)
  have hge' : s.heap.objs.size ≤ c' := by
    have hge2 : s.heap.objs.size + 1 ≤ c' := by
      have := hge
      rw [Heap.size_push] at this
      exact this
    omega
  refine wpAny_bind (wpAny_builtinsFor hg' hbm hne0 (hx' bm ob hneP hbo) hcls hdict hdata (wpAny_bind (wpAny_nsGet hg' (wpAny_bind (wpAny_pure (wpAny_newObj_type (h c' _ h' tk hx' hge' hlt hrec htb.2) ?_))))))
  simp [sizeOk]
theorem makeTailHit {M : Model} {A : Around} {E : Value → Shared → Prop} {s : Shared} {name qual : Str} {params : Arguments} {body : Expr} {scope : Scope} {env : Env} {c P c' : Addr} {ps : Array Value} {pos : Pos} {firstLine : Nat} {mg : Str → Option Value} {q : Str × Addr} {r : List (Str × Addr)} {dV : Value} {Q : Value → Shared → Prop}
    (hcl : closureFor scope env = pure (q :: r)) (hge0 : env.globals = mainGlobals) (hg : s.heap.Ns mainGlobals mg) (hcode : env.code = .ref c) (C : PySem.W.CodeHd s.heap c P) (hP : s.heap.get? P = some (PySem.W.tabObj ps)) (ht : TriplesOk ps.toList) (hh : codeAmong pos ps.toList = some (.ref c'))
    (hb : s.heap.BuiltinsAt mg P)
    (h : ∀ (ctv : Value) (h' : Heap) (tk : Nat), (∀ (b : Addr) (o : Obj), s.heap.get? b = some o → h'.get? b = some o) → s.heap.objs.size ≤ h'.objs.size →
      Q (.ref h'.objs.size) { heap := h'.push (objD name qual params body scope (q :: r) ((mg "__name__").getD .none) c' ctv dV), gens := s.gens, drawn := s.drawn, toks := tk, os := s.os }) :
    wpAny M A (PySem.makeTail name qual params (.expr body) scope env dV .none none pos firstLine) Q E s := by
  obtain ⟨bm, ob, hbm, hne0, hl, hneP, hbo, hcls, hdict, hdata⟩ := hb
  unfold PySem.makeTail
  rw [hcl, hge0]
  refine wpAny_bind (wpAny_pure ?_)
  rw [if_neg (by simp)]
  refine wpAny_bind (wpAny_newTextTuple ?_)
  refine wpAny_bind (wpAny_functionCode_hit hcode (PySem.W.CodeHd.code (C.keeps fun b o e => Heap.get?_push_of_some _ e) (Heap.get?_push_of_some _ hP) ht) hh ?_)
  have hg' := Heap.Ns.push hg { cls := Value.type "tuple", data := Data.seq (List.map (fun x => Value.ref x.snd) ((q :: r).mergeSort fun a b => decide (a.fst.cps.toList ≤ b.fst.cps.toList))).toArray }
  refine wpAny_bind (wpAny_builtinsFor hg' hbm hne0 (Heap.get?_push_of_some _ hbo) hcls hdict hdata (wpAny_bind (wpAny_nsGet hg' (wpAny_bind (wpAny_pure (wpAny_newObj_type (h _ _ _ (fun b o e => Heap.get?_push_of_some _ e) (by rw [Heap.size_push]; exact Nat.le_succ _)) ?_))))))
  simp [sizeOk]
/-- the object at f is the lambda F of the body e, its defaults at t -/
def FnD (f : Addr) (F : NF) (e : Expr) (t : Addr) : HO := .ext fun h => ∃ (od : Option Addr) (sl : Array (Option Value)) (pm ctv : Value), h.get? f = some (⟨.type "function", od, .func (fnD F.name F.qual F.params e F.scope F.cl pm (.ref F.c) ctv (.ref t)), sl⟩ : Obj)
theorem fnD_at {P : Program} {w : World} {H : Hp} {h : Heap} {f : Addr} {F : NF} {e : Expr} {t : Addr} (hok : HOk P w H h) (q : H f = some (FnD f F e t)) : ∃ (od : Option Addr) (sl : Array (Option Value)) (pm ctv : Value), h.get? f = some (⟨.type "function", od, .func (fnD F.name F.qual F.params e F.scope F.cl pm (.ref F.c) ctv (.ref t)), sl⟩ : Obj) := by
  have z := hok f _ q
  obtain ⟨z, _, _⟩ := z
  exact z
theorem fnD_ne {f : Addr} {F : NF} {e : Expr} {t : Addr} (ps : Array Value) : FnD f F e t ≠ .tbl ps := fun z => by
  unfold FnD at z
  cases z
section
variable {X : Cx} {pins : List (Addr × Obj)} {σ : L2.St} {H : Hp} {s : Shared}
theorem inv_lamD {F : NF} {e : Expr} {t : Addr} {tk : Nat} {pm ctv : Value} (I : Inv X pins σ H s) :
    Inv X pins σ (upd H s.heap.objs.size (FnD s.heap.objs.size F e t)) { s with heap := s.heap.push (objD F.name F.qual F.params e F.scope F.cl pm F.c ctv (.ref t)), toks := tk } := by
  refine I.laid (a := s.heap.objs.size) (fun b u q => Heap.get?_push_of_some _ q) (Nat.le_refl _) ?_
  have q : (s.heap.push (objD F.name F.qual F.params e F.scope F.cl pm F.c ctv (.ref t))).get? s.heap.objs.size = some (objD F.name F.qual F.params e F.scope F.cl pm F.c ctv (.ref t)) := Heap.get?_push_size _ rfl
  exact ⟨⟨_, _, pm, ctv, q⟩, ⟨_, q⟩, fun h1 h2 ⟨od, sl, p, t, z⟩ st => ⟨od, sl, p, t, st _ z⟩⟩
theorem inv_tup0 {v : V} {u : Value} (I : Inv X pins σ H s) (r : RelV v u) :
    Inv X pins σ (upd H s.heap.objs.size (.tup [v])) { s with heap := s.heap.push { cls := Value.type "tuple", data := Data.seq [u].toArray } } :=
  I.laid (t' := s.toks) (fun b u e => Heap.get?_push_of_some _ e) (Nat.le_refl _) ⟨by show 1 ≤ sizeLine; decide, [u], .cons r .nil, _, Heap.get?_push_size s.heap rfl, rfl, 0, rfl⟩
/-- a lambda with one default is made -/
theorem lam_valD {c P : Addr} {params : Arguments} {body d : Expr} {scope : Scope} {pos : Pos} {Q : Value → Shared → Prop} {q0 : Str × Addr} {r0 : List (Str × Addr)} {v : V} (I : Inv X pins σ H s) (B : LamX.TabB X.base X.mg c P) (hcode : X.env.code = .ref c)
    (hT : LamX.TabS H P (X.env.qual ++ "<lambda>")) (hdef : params.defaults = [d]) (hkw : params.kw_defaults = []) (hko : params.kwonlyargs = []) (hd : PE X d (tC v)) (hfree : ∀ y ∈ scope.names, y.2 = .free → ∃ c, X.env.cells.lookup y.1 = some c) (hclo : cloFrom X.env.cells scope.names [] = q0 :: r0)
    (k : ∀ (f c' t : Addr) (H1 : Hp) (s' : Shared), Inv X pins σ H1 s' → (∀ b o, H b = some o → b ≠ P → H1 b = some o) → (∀ b, H1 b = none → H b = none) → LamX.TabS H1 P (X.env.qual ++ "<lambda>") → H f = none →
      H1 f = some (FnD f ⟨"<lambda>", X.env.qual ++ "<lambda>", params, [], scope, cloFrom X.env.cells scope.names [], c'⟩ body t) → H1 c' = some (LamX.CodeO c' (X.env.qual ++ "<lambda>")) → H1 t = some (.tup [v]) → Q (.ref f) s') :
    wpAny (model X.prog X.w) X.A (eval (.Lambda params body scope pos) X.env) Q X.xe s := by
  refine PySem.W.kdv_lam (by rw [hdef]; rfl) hkw ?_
  rw [hdef]
  show wpAny _ _ (evalAll (eval d X.env :: [])) _ _ _
  refine evalAll_cons (thn (hd.run pins s σ H (fun x H1 => x = v ∧ H1 = H) I ⟨rfl, rfl⟩) fun u s1 ⟨x, H1, I1, ru, ex, eH⟩ => ?_)
  subst ex
  subst eH
  refine wpAny_pure ?_
  rw [makeFunction_eq]
  simp only [List.isEmpty_cons, hko, List.zip_nil_left, List.filterMap_nil, List.isEmpty_nil, if_true, Bool.false_eq_true, if_false]
  refine wpAny_bind (wpAny_newTextTuple ?_)
  refine wpAny_bind (wpAny_pure ?_)
  refine wpAny_bind (wpAny_pure ?_)
  have I2 := inv_tup0 I1 ru
  have nt := I1.hok.fresh (Nat.le_refl s1.heap.objs.size)
  have ht2 : upd H1 s1.heap.objs.size (.tup [x]) s1.heap.objs.size = some (.tup [x]) := upd_same
  have kp2 : ∀ b o, H1 b = some o → upd H1 s1.heap.objs.size (.tup [x]) b = some o := fun b o e => by rw [upd_ne (ne_of_none e nt)]; exact e
  have np2 : ∀ b, upd H1 s1.heap.objs.size (.tup [x]) b = none → H1 b = none := fun b e => by
    unfold upd at e
    split at e
    · cases e
    · exact e
  obtain ⟨ps, tP0, tok, tin0⟩ := hT
  have tP := kp2 _ _ tP0
  have tin : ∀ pos cv, codeAmong pos ps.toList = some cv → ∃ c0, cv = .ref c0 ∧ upd H1 s1.heap.objs.size (.tup [x]) c0 = some (LamX.CodeO c0 (X.env.qual ++ "<lambda>")) := fun pos cv e => by
    obtain ⟨c0, e1, e2⟩ := tin0 pos cv e
    exact ⟨c0, e1, kp2 _ _ e2⟩
  generalize upd H1 s1.heap.objs.size (.tup [x]) = H2 at I2 ht2 kp2 np2 tP tin ⊢
  generalize s1.heap.objs.size = t at ht2 ⊢
  generalize hs2 : ({ heap := s1.heap.push { cls := Value.type "tuple", data := Data.seq [u].toArray }, gens := s1.gens, drawn := s1.drawn, toks := s1.toks, os := s1.os } : Shared) = s2 at I2 ⊢
  have bP : s2.heap.BuiltinsAt X.mg P := B.bm.keeps I2.bk
  have gP : s2.heap.get? P = some { cls := .none, data := .fields ps } := I2.hok P _ tP
  have none3 : ∀ {G : Hp} {x y z : Addr} {o u v : HO} {b : Addr}, upd (upd (upd G x o) y u) z v b = none → G b = none := fun {G x y z o u v b} q => by
    have r1 := q
    unfold upd at r1
    split at r1
    · cases r1
    split at r1
    · cases r1
    split at r1
    · cases r1
    exact r1
  have hclf : closureFor scope X.env = pure (q0 :: r0) := by rw [← hclo]; exact closure_ok hfree
  cases hc : codeAmong pos ps.toList with
  | some cv =>
    obtain ⟨c', e, hco⟩ := tin pos cv hc
    subst e
    refine makeTailHit (mg := X.mg) (c := c) (P := P) (ps := ps) hclf I2.ok.glob (I2.mod.glob.keeps I2.bk) hcode (B.code.keeps I2.bk) gP tok hc bP fun ctv h' tk hx2 hsz => ?_
    have I3 : Inv X pins σ H2 { s2 with heap := h', toks := tk } := I2.kept hx2
    have nF : H2 h'.objs.size = none := I3.hok.fresh (Nat.le_refl _)
    have I4 := inv_lamD (F := ⟨"<lambda>", X.env.qual ++ "<lambda>", params, [], scope, cloFrom X.env.cells scope.names [], c'⟩) (e := body) (t := t) (tk := tk) (pm := (X.mg "__name__").getD .none) (ctv := ctv) I3
    rw [hclo] at I4
    refine k h'.objs.size c' t _ _ I4 (fun b o q _ => by rw [upd_ne (ne_of_none (kp2 _ _ q) nF)]; exact kp2 _ _ q) (fun b q => np2 b ?_) ⟨ps, by rw [upd_ne (ne_of_none tP nF)]; exact tP, tok, fun p' cv' q => ?_⟩ (np2 _ nF) (by rw [upd_same, hclo]) (by rw [upd_ne (ne_of_none hco nF)]; exact hco) (by rw [upd_ne (ne_of_none ht2 nF)]; exact ht2)
    · unfold upd at q
      split at q
      · cases q
      · exact q
    · obtain ⟨c0, e1, e2⟩ := tin p' cv' q
      exact ⟨c0, e1, by rw [upd_ne (ne_of_none e2 nF)]; exact e2⟩
  | none =>
    refine makeTail (mg := X.mg) (c := c) (P := P) (ps := ps) hclf I2.ok.glob (I2.mod.glob.keeps I2.bk) hcode (B.code.keeps I2.bk) gP tok hc B.gP bP fun c' ctv h' tk hx2 hge hlt hrec htb => ?_
    obtain ⟨c2, oc, vs, t2, e2, hoc, hd2, hv⟩ := hrec
    cases e2
    have nC : H2 c' = none := I2.hok.fresh hge
    have I3 := LamX.inv_table (t' := tk) (more := #[rawInt pos.line, rawInt pos.col, .ref c']) (h' := h') I2 tP (fun b o hb q => hx2 b o hb q) htb hge ⟨oc, vs, t2, hoc, hd2, hv⟩
    have nF := I3.hok.fresh (Nat.le_refl _)
    have I4 := inv_lamD (F := ⟨"<lambda>", X.env.qual ++ "<lambda>", params, [], scope, cloFrom X.env.cells scope.names [], c'⟩) (e := body) (t := t) (tk := tk) (pm := (X.mg "__name__").getD .none) (ctv := ctv) I3
    rw [hclo] at I4
    have fC : h'.objs.size ≠ c' := Nat.ne_of_gt hlt
    have pC : P ≠ c' := ne_of_none tP nC
    have nF0 : H2 h'.objs.size = none := I2.hok.fresh (Nat.le_trans hge (Nat.le_of_lt hlt))
    have pF : P ≠ h'.objs.size := ne_of_none tP nF0
    have eL : (ps ++ #[rawInt pos.line, rawInt pos.col, .ref c']).toList = ps.toList ++ [rawInt pos.line, rawInt pos.col, .ref c'] := by simp
    have kk : ∀ b o, H2 b = some o → b ≠ P → upd (upd (upd H2 P (.tbl (ps ++ #[rawInt pos.line, rawInt pos.col, .ref c']))) c' (LamX.CodeO c' (X.env.qual ++ "<lambda>"))) h'.objs.size (FnD h'.objs.size ⟨"<lambda>", X.env.qual ++ "<lambda>", params, [], scope, q0 :: r0, c'⟩ body t) b = some o := fun b o q hb => by
      rw [upd_ne (ne_of_none q nF0), upd_ne (ne_of_none q nC), upd_ne hb]
      exact q
    refine k h'.objs.size c' t _ _ I4 (fun b o q hb => kk b o (kp2 _ _ q) hb) (fun b q => np2 b (none3 q)) ⟨_, by rw [upd_ne pF, upd_ne pC, upd_same], by rw [eL]; exact PySem.TriplesOk_snoc _ _ _ _ tok, fun p' cv q => ?_⟩ (np2 _ nF0) (by rw [upd_same, hclo]) (by rw [upd_ne fC.symm, upd_same]) (kk t _ ht2 fun e => by rw [e, tP] at ht2; cases ht2)
    rw [eL] at q
    rcases LamX.among_app _ tok q with z | z
    · obtain ⟨c0, e1, e2⟩ := tin p' cv z
      exact ⟨c0, e1, kk _ _ e2 (fun y => by rw [y, tP] at e2; exact LamX.codeO_ne ps (Option.some.inj e2).symm)⟩
    · exact ⟨c', z, by rw [upd_ne fC.symm, upd_same]⟩
end
end Dl


namespace Dl
open PySem PySem.Spec PyProof.Rows L2 NdefX GenW Lv
theorem bind1 {M : Model} {A : Around} {E : Value → Shared → Prop} {s : Shared} {name qual nm : Str} {params : Arguments} {body : Expr} {scope : Scope} {cl : List (Str × Addr)} {pm cdv ct u : Value} {t : Addr} {o : Obj} {n : Nat} {Q : List (Str × Value) → Shared → Prop}
    (hp : params.posonlyargs = []) (ha : params.args.map (·.arg) = [nm]) (hk : params.kwonlyargs = []) (hv : params.vararg = none) (hkw : params.kwarg = none) (ho : s.heap.get? t = some o) (hd : o.data = .seq #[u] n) (h : Q [(nm, u)] s) :
    wpAny M A (bindArgs (fnD name qual params body scope cl pm cdv ct (.ref t)) ⟨[], []⟩) Q E s := by
  unfold bindArgs
  simp only [fnD, hp, ha, hk, hv, hkw, List.map_nil, List.nil_append, List.zip_nil_right, List.forIn_nil]
  refine wpAny_bind (wpAny_pure ?_)
  refine wpAny_bind (wpAny_seqItems ho hd ?_)
  simp
  exact wpAny_pure h
end Dl

namespace TG
open PySem PySem.Spec PyProof.Rows L2 NdefX GenW Gx Lv Dl
/-! ### works: lambdas that are called without anything, with or without a default -/
structure LamW (P : Program) (w : World) (K : PySem.W.Frag) (mg : Str → Option Value) (base : Heap) (k : Nat) (f : Addr) (Hf : Hp → Prop) (sp : Sp) : Prop where
  at_ : ∀ {H : Hp} {h : Heap}, HOk P w H h → Hf H → PySem.W.FnAt f h
  run : ∀ (A : Around) (outer : List Env) (s : Shared) (H : Hp) (Q : VK) (E : XK), Room k A → Env0 P w K mg base A outer s H → Hf H → sp [] H Q E →
    codeAny (model P w) A (.call (.ref f) ⟨[], []⟩) (CR (L2.CX P w) outer P w H s Q E) s
/-- a lambda without parameters stands -/
def HfL (f : Addr) (F : NF) (e : Expr) (H : Hp) : Prop := H f = some (FnL f F e) ∧ H F.c = some (LamX.CodeO F.c F.qual)
/-- one with a default -/
def HfD (f : Addr) (F : NF) (e : Expr) (t : Addr) (v : V) (H : Hp) : Prop := H f = some (FnD f F e t) ∧ H F.c = some (LamX.CodeO F.c F.qual) ∧ H t = some (.tup [v])
theorem HfL.ex {cs : List (Addr × Addr)} {f : Addr} {F : NF} {e : Expr} {H H' : Hp} (h : HfL f F e H) (x : Ex cs H H') : HfL f F e H' :=
  ⟨x.ext _ _ h.1 fun ps => fnL_ne ps, x.ext _ _ h.2 fun ps => LamX.codeO_ne ps⟩
theorem HfD.ex {cs : List (Addr × Addr)} {f : Addr} {F : NF} {e : Expr} {t : Addr} {v : V} {H H' : Hp} (h : HfD f F e t v H) (x : Ex cs H H') : HfD f F e t v H' :=
  ⟨x.ext _ _ h.1 fun ps => fnD_ne ps, x.ext _ _ h.2.1 fun ps => LamX.codeO_ne ps, x.tup h.2.2⟩
section
variable {P : Program} {w : World} {K : PySem.W.Frag} {mg : Str → Option Value} {base : Heap}
theorem lamw_l {k : Nat} {f : Addr} {F : NF} {e : Expr} {sp : Sp} (L : LOkX P w K mg base k f F e sp) : LamW P w K mg base k f (HfL f F e) sp :=
  ⟨fun {H h} hok q => by
    obtain ⟨od, sl, pm, ctv, ho⟩ := fnL_at hok q.1
    exact ⟨_, od, _, sl, ho⟩, fun A outer s H Q E hr e0 h hsp => L.run A outer s H Q E hr e0 h.1 h.2 hsp⟩
theorem lamw_d {k : Nat} {f t : Addr} {F : NF} {e : Expr} {N fr : List Str} {nm : Str} {v : V} {sp : Sp} (S : NScope N [nm] fr F.scope) (hp : F.params.posonlyargs = []) (ha : F.params.args.map (·.arg) = [nm]) (hk : F.params.kwonlyargs = []) (hv : F.params.vararg = none) (hkw : F.params.kwarg = none) (hloc : F.scope.names.lookup nm = some .local)
    (hbody : ∀ (A : Around) (outer : List Env) (s : Shared) (H : Hp) (Q : VK) (E : XK), Room k (A.deeper (envF F f s.heap.objs.size)) → sp [] H Q E → ∃ (ws : List (Option V)) (cl : List (Addr × Obj)) (t : TE), Caught F fr ws cl H ∧
      PE (ncx (L2.CX P w) P w K mg base N F f A outer s (delC H cl) (fun cls d H' => (∀ c o, cl.lookup c = some o → H' c = none) → E cls d (addC H' cl))) e t ∧ t (startF N [v] ws) (delC H cl) (fun v H' => (∀ c o, cl.lookup c = some o → H' c = none) → Q v (addC H' cl))) :
    LamW P w K mg base (k + 1) f (HfD f F e t v) sp := by
  refine ⟨fun {H h} hok q => ?_, fun A outer s H Q E hr e0 hfd hsp => ?_⟩
  · obtain ⟨od, sl, pm, ctv, ho⟩ := fnD_at hok q.1
    exact ⟨_, od, _, sl, ho⟩
  obtain ⟨hf, hc, ht0⟩ := hfd
  have lim : s.heap.NoLimit := e0.mod.nolimit.keeps fun b o q => (e0.bs b o q).1
  obtain ⟨od, sl, pm, ctv, ho⟩ := fnD_at e0.hok hf
  obtain ⟨ws, cl, tm, C, ht, hq⟩ := hbody A outer s H Q E (hr.deeper _) hsp
  obtain ⟨_, us, rv, ot, hot, hoc, n, hod⟩ := e0.hok t _ ht0
  obtain ⟨u, rfl, ru⟩ : ∃ u, us = [u] ∧ RelV v u := by
    cases rv with
    | cons r rest => cases rest; exact ⟨_, rfl, r⟩
  have hnf : ∀ c o, cl.lookup c = some o → c ∉ frs outer := fun c o q hb => by
    have z := e0.frf c hb
    rw [C.told c o q] at z
    cases z
  have at0 : ∀ c o, cl.lookup c = some o → s.heap.get? c = some o := fun c o q => (e0.hok c _ (C.told c o q)).1
  refine codeAny_mono (R := CR (L2.CX P w) outer P w (delC H cl) s (fun v H' => (∀ c o, cl.lookup c = some o → H' c = none) → Q v (addC H' cl)) (fun cls d H' => (∀ c o, cl.lookup c = some o → H' c = none) → E cls d (addC H' cl))) ?_ fun r s' q => ?_
  · have e1 := env_del e0 C.told
    refine PySem.W.kla_callFunE hr.depth ho rfl S.co S.gen rfl (codeO_at e0.hok hc) ?_
    refine bind1 hp ha hk hv hkw hot hod ?_
    refine wpAny_newFunctionEnv S.nocell (fun ⟨n, _⟩ hy => by rw [List.mem_singleton] at hy; injection hy with h1 _; rw [h1]; exact hloc) (fun h₁ hns hsb => ⟨lim.fresh _ hsb, ?_⟩) S.kind
    have kp : ∀ b o, s.heap.get? b = some o → h₁.get? b = some o := fun b o q => hsb.extBut b o (Nat.ne_of_lt (Heap.lt_size q)) (Heap.get?_push_of_some _ q)
    have CA : NdefX.CellsAt F.cl fr ws s.heap (delC H cl) := by
      refine ⟨C.len, fun y c q => ?_, C.inj, fun i y q => ?_⟩
      · obtain ⟨o, v, h1, h2⟩ := C.all y c q
        exact ⟨delC_in h1, v, o, at0 c o h1, h2⟩
      · obtain ⟨c, h1, h2⟩ := C.has i y q
        refine ⟨c, h1, fun v hv => ?_⟩
        obtain ⟨o, u, h3, h4, h5⟩ := h2 v hv
        exact ⟨u, h5, o, at0 c o h3, h4⟩
    have I := inv_startN (CX := L2.CX P w) (P := P) (w := w) (E := fun cls d H' => (∀ c o, cl.lookup c = some o → H' c = none) → E cls d (addC H' cl)) (f := f) (tk := s.toks + (([nm] : List Str).zip ([u] : List Value)).length) S hr.hd e1 (vs := [v]) (us := [u]) rfl (.cons ru .nil) CA hns kp
    refine PySem.W.kla_codeExpr (wpAny_mono (ht.run [] _ (startF N [v] ws) (delC H cl) _ I hq) (fun v s' q => ?_) fun e' s' q => q)
    obtain ⟨w', H', J, rv, q⟩ := q
    exact ⟨w', H', J.os, J.bare, J.base, J.hok, rv, q⟩
  · cases r with
    | error er => exact cx_add e0.hok (fun c o q => ⟨C.told c o q, hnf c o q⟩) q
    | ok fl =>
      cases fl with
      | ret u => exact ce_add e0.hok (fun c o q => ⟨C.told c o q, hnf c o q⟩) q
      | next => exact False.elim q
      | brk => exact False.elim q
      | cont => exact False.elim q
end
/-! ### a call of such a work by a local's name, in a try -/
def tCallW (P : Program) (w : World) (K : PySem.W.Frag) (mg : Str → Option Value) (base : Heap) (k i : Nat) (W : WX) : TE := fun σ H Q => ∃ (f : Addr) (Hf : Hp → Prop) (sp : Sp), σ[i]? = some (some (.ref f)) ∧ Hf H ∧ LamW P w K mg base k f Hf sp ∧ sp [] H Q (WE W σ)
theorem pe_callW {X : Cx} {W : WX} {i k : Nat} {x : Str} {p pos : Pos} {P : Program} {w : World} {K : PySem.W.Frag} {mg : Str → Option Value} {base : Heap} (eX : X.prog = P ∧ X.w = w ∧ X.K = K ∧ X.mg = mg ∧ X.base = base) (hr : Room k X.A) (tk : Takes X W) (hN : X.N[i]? = some x) (hv : Vis X.env.scope x) (hd : (x == ("__debug__" : Str)) = false := by decide) (hcd : (x == ("__classdict__" : Str)) = false := by decide) :
    PE X (.Call (.Name x p) [] [] pos) (tCallW P w K mg base k i W) := by
  obtain ⟨rfl, rfl, rfl, rfl, rfl⟩ := eX
  refine ⟨fun pins s σ H Q I h => ?_⟩
  obtain ⟨f, Hf, sp, hs, hf, L, q⟩ := h
  refine wpAny_Call_Name_kw (thn ((pe_var (pos := p) hN hv hd hcd).run pins s σ H (fun v H1 => v = .ref f ∧ H1 = H) I ⟨.ref f, hs, rfl, rfl⟩) fun u s1 ⟨v, H1, I1, r1, q1⟩ => ?_)
  obtain ⟨ev, eH⟩ := q1
  subst ev eH
  obtain rfl : u = Value.ref f := r1
  have at_ := L.at_ I1.hok hf
  refine PySem.W.callWith_F0 (first := []) at_ ?_
  refine wpAny_call (codeAny_mono (L.run X.A X.stack s1 H1 Q (WE W σ) hr I1.env0 hf q) fun r' s' hq => ?_)
  cases r' with
  | error er => exact passAt tk σ pins H1 s1 er s' I1 hq
  | ok fl =>
    cases fl with
    | ret u => exact I1.after hq
    | next => exact False.elim hq
    | brk => exact False.elim hq
    | cont => exact False.elim hq
/-! ### such a lambda is made -/
def tLamD (P : Addr) (q : Str) (params : Arguments) (body : Expr) (scope : Scope) (cl : List (Str × Addr)) (v : V) : TE := fun _ H Q => LamX.TabS H P q ∧ ∀ (f c' t : Addr) (H1 : Hp), (∀ b o, H b = some o → b ≠ P → H1 b = some o) → (∀ b, H1 b = none → H b = none) → LamX.TabS H1 P q → H f = none →
  HfD f ⟨"<lambda>", q, params, [], scope, cl, c'⟩ body t v H1 → Q (.ref f) H1
theorem pe_lamD {X : Cx} {c P : Addr} {params : Arguments} {body d : Expr} {scope : Scope} {pos : Pos} {v : V} (B : LamX.TabB X.base X.mg c P) (hcode : X.env.code = .ref c) (hdef : params.defaults = [d]) (hkw : params.kw_defaults = []) (hko : params.kwonlyargs = []) (hd : PE X d (tC v))
    (hfr : ∀ y ∈ scope.names, y.2 = .free → X.env.kindOf y.1 = some .cell ∨ X.env.kindOf y.1 = some .free) (hne : ∃ y ∈ scope.names, y.2 = .free) :
    PE X (.Lambda params body scope pos) (tLamD P (X.env.qual ++ "<lambda>") params body scope (cloFrom X.env.cells scope.names []) v) := by
  refine ⟨fun pins s σ H Q I h => ?_⟩
  obtain ⟨hT, h⟩ := h
  have hfree : ∀ y ∈ scope.names, y.2 = .free → ∃ c, X.env.cells.lookup y.1 = some c := fun y hy e => I.ok.has _ (hfr y hy e)
  obtain ⟨y, hy, ey⟩ := hne
  obtain ⟨cy, hcy⟩ := hfree y hy ey
  cases hq : cloFrom X.env.cells scope.names [] with
  | nil =>
    have hm := @cloFrom_has X.env.cells scope.names [] y.1 (by rw [← ey]; exact hy)
    rw [hq] at hm
    cases hm
  | cons q0 r0 =>
    rw [hq] at h
    exact lam_valD I B hcode hT hdef hkw hko hd hfree hq fun f c' t H1 s' J k1 k2 t1 nf hf hc ht => ⟨.ref f, H1, J, rfl, h f c' t H1 k1 k2 t1 nf ⟨by rw [← hq]; exact hf, hc, ht⟩⟩
end TG


namespace TG
open PySem PySem.Spec PyProof.Rows L2
def excNm : List Str := ["BadPage", "BadStyle", "BadRow", "BadCell", "BadCount", "BadLines", "BadStep", "BadStroke", "BadText", "BadHand", "TooMuch"]
def excFl : List Str := ["row", "", "", "", "", "line", "number", "number", "row", "", ""]
abbrev nmE (j : Nat) : Str := excNm.getD j ""
abbrev flE (j : Nat) : Str := excFl.getD j ""
end TG

namespace TG
open PySem PySem.Spec PyProof.Rows L2 NdefX GenW Gx Lv Dl
/-! ### the eleven classes, and what _law_told tells of them -/
structure Errs (K : PySem.W.Frag) (mg : Str → Option Value) : Prop where
  mg_ : ∀ j, j < 11 → mg (nmE j) = some (.ref (He.ga K (nmE j)))
  grow : mg "GrowError" = some (.ref (He.ga K "GrowError"))
  exc : ∀ j, j < 11 → ExcC K (He.ga K (nmE j))
  sub : ∀ j, j < 11 → PySem.W.exmOne K (.ref (He.ga K (nmE j))) (.ref (He.ga K "GrowError")) = some true
  val : ∀ j, j < 11 → PySem.W.kitOne K (.ref (He.ga K (nmE j))) (.type "ValueError") = some true
  kit : ∀ i j, i < 11 → j < 11 → PySem.W.kitOne K (.ref (He.ga K (nmE i))) (.ref (He.ga K (nmE j))) = some (decide (i = j))
  fld : ∀ j, j < 11 → flE j ≠ "" → PySem.W.findIn K (.ref (He.ga K (nmE j))) (flE j) = some none
  ve : mg "ValueError" = none
/-- the error of the j-th class, whose value, if it has one, is n -/
structure ErrAt (K : PySem.W.Frag) (H : Hp) (j : Nat) (n : Int) (cls : Value) (d : Option Addr) : Prop where
  lt : j < 11
  cls : cls = .ref (He.ga K (nmE j))
  yes : flE j ≠ "" → ∃ dd, d = some dd ∧ H dd = some (.xd [(flE j, .int n)])
  no : flE j = "" → n = 0 ∧ d = none
theorem ErrAt.xd {K : PySem.W.Frag} {H : Hp} {j : Nat} {n : Int} {cls : Value} {d : Option Addr} (e : ErrAt K H j n cls d) : XdAt H d := by
  by_cases h : flE j = ""
  · exact .inl (e.no h).2
  · obtain ⟨dd, h1, h2⟩ := e.yes h
    exact .inr ⟨dd, _, h1, h2⟩
theorem Ex.xd {cs : List (Addr × Addr)} {H H' : Hp} {a : Addr} {fs : List (Str × V)} (e : Ex cs H H') (h : H a = some (.xd fs)) : H' a = some (.xd fs) := e.ext _ _ h fun ps q => by cases q
theorem ErrAt.ex {cs : List (Addr × Addr)} {K : PySem.W.Frag} {H H' : Hp} {j : Nat} {n : Int} {cls : Value} {d : Option Addr} (e : ErrAt K H j n cls d) (x : Ex cs H H') : ErrAt K H' j n cls d :=
  ⟨e.lt, e.cls, fun h => let ⟨dd, h1, h2⟩ := e.yes h; ⟨dd, h1, Ex.xd x h2⟩, e.no⟩
def kindsR (j m : Nat) : List V := (List.range m).map fun i => V.bl (decide (j = i))
theorem word_in : ∀ j, j < 11 → inV (.str (nmE j)) [.str "BadPage", .str "BadText"] = decide (j = 0 ∨ j = 8) := by decide +kernel
theorem word_in2 : ∀ j, j < 11 → inV (.str (nmE j)) [.str "BadStep", .str "BadStroke"] = decide (j = 6 ∨ j = 7) := by decide +kernel
theorem word_eq : ∀ j, j < 11 → decide (nmE j = "BadLines") = decide (j = 5) := by decide +kernel
theorem word_fl : ∀ j, j < 11 → ¬ (j = 0 ∨ j = 8) → ¬ j = 5 → ¬ (j = 6 ∨ j = 7) → flE j = "" := by decide +kernel
theorem kinds_cnt : ∀ j, j < 11 → (kindsR j 11).countP (fun z => eqV z (.bl true)) = 1 := by decide +kernel
theorem kinds_flat : ∀ j, j < 11 → (kindsR j 11).all flatV = true := by decide +kernel
theorem kinds_at : ∀ j, j < 11 → (kindsR j 11)[j]? = some (.bl true) := by decide +kernel
theorem kinds_no : ∀ j, j < 11 → ∀ m, m < j → (kindsR j 11)[m]? = some (.bl false) := by decide +kernel
section
variable {P : Program} {w : World} {K : PySem.W.Frag} {mg : Str → Option Value} {base : Heap} {cs : List (Addr × Addr)}
/-- _law_told: what a work gives, or the word and the number of what it raised -/
def spTellsW (P : Program) (w : World) (K : PySem.W.Frag) (mg : Str → Option Value) (base : Heap) (cs : List (Addr × Addr)) (kl : Nat) : Sp := fun vs H Q _ => ∃ (f : Addr) (Hf : Hp → Prop) (sp : Sp),
  vs = [.ref f] ∧ Hf H ∧ LamW P w K mg base kl f Hf sp ∧
  ∀ (Z : VK) (E : XK), (∀ v H', Q v H' → Z v H') → (∀ (cls : Value) (d : Option Addr) (H1 : Hp) (j : Nat) (n : Int), ErrAt K H1 j n cls d → Tabs cs H1 → (∀ (T : Addr) (H2 : Hp), Ex cs H1 H2 → H1 T = none → H2 T = some (.tup [.str (nmE j), .int n]) → Q (.ref T) H2) → E cls d H1) → sp [] H Z E
abbrev nmTold : List Str := ["_law_work", "e", "_law_kinds", "_law_words", "_law_word"]
theorem sc_tells : FnScope nmTold ["_law_work"] (defScope s_told) := ⟨rfl, rfl, rfl, by decide +kernel, rfl, by decide +kernel, by decide +kernel⟩
theorem names_get (j : Nat) : ∀ {H : Hp} {Q : VK} {a : Addr}, j < 11 → H a = some (.lst (excNm.map V.str)) → Q (.str (nmE j)) H → ∃ (p : Addr) (items : List V) (i : Int) (v : V), V.ref a = .ref p ∧ V.int (j : Nat) = .int i ∧ SqL K H p items ∧ atI items i = some v ∧ Q v H := fun {H Q a} hj ha q =>
  ⟨a, _, _, _, rfl, rfl, SqL.of ha, atI_nat (v := .str (nmE j)) (by
    rw [List.getElem?_map]
    have : excNm[j]? = some (nmE j) := by
      have h2 : j < excNm.length := hj
      rw [List.getElem?_eq_getElem h2]
      simp [nmE, List.getD, List.getElem?_eq_getElem h2]
    rw [this]
    rfl), q⟩
theorem ok_tellsW {f : Addr} {fd : FuncData} {kl : Nat} (T : Txt mg) (Er : Errs K mg) (F : Fun K "_law_told" "_law_told" s_told f fd) : FnOk P w K mg base CX0 (kl + 1) f fd ["_law_work"] (spTellsW P w K mg base cs kl) := by
  refine F.ok sc_tells (fun vs H Q E h => ?_) (fun cdv A outer s H vs Q E hr h => ?_)
  · obtain ⟨f, Hf, sp, rfl, _⟩ := h
    rfl
  · obtain ⟨fl, Hf, sp, rfl, hf, L, k⟩ := h
    have nd := sc_tells.nd
    refine ⟨_, pss_one (ps_try_as (i := 1) rfl rfl nd rfl rfl ⟨rfl, by decide, .inl Er.grow⟩ takes0 (fun W pn xe tk _ => pss_one (ps_ret (pe_callW (P := P) (w := w) (K := K) (mg := mg) (base := base) (k := kl) (i := 0) ⟨rfl, rfl, rfl, rfl, rfl⟩ hr tk rfl (.inl rfl))))
      (fun a oe cls d pn hz hf => 
        pss_cons (ps_set (i := 2) nd rfl (.inl rfl) (pe_lst (pa_cons (pe_callB (call_isX hz hf) (by rfl) T.isin (by decide +kernel) (pa_cons (pv 1) (pa_cons (pe_glob (v := .ref (He.ga K (nmE 0))) rfl (Er.mg_ 0 (by decide)) rfl) pa_nil)))
            (pa_cons (pe_callB (call_isX hz hf) (by rfl) T.isin (by decide +kernel) (pa_cons (pv 1) (pa_cons (pe_glob (v := .ref (He.ga K (nmE 1))) rfl (Er.mg_ 1 (by decide)) rfl) pa_nil)))
            (pa_cons (pe_callB (call_isX hz hf) (by rfl) T.isin (by decide +kernel) (pa_cons (pv 1) (pa_cons (pe_glob (v := .ref (He.ga K (nmE 2))) rfl (Er.mg_ 2 (by decide)) rfl) pa_nil)))
            (pa_cons (pe_callB (call_isX hz hf) (by rfl) T.isin (by decide +kernel) (pa_cons (pv 1) (pa_cons (pe_glob (v := .ref (He.ga K (nmE 3))) rfl (Er.mg_ 3 (by decide)) rfl) pa_nil))) pa_nil))))))
        (pss_cons (ps_set (i := 2) nd rfl (.inl rfl) (pe_op op_cat (pv 2) (pe_lst (pa_cons (pe_callB (call_isX hz hf) (by rfl) T.isin (by decide +kernel) (pa_cons (pv 1) (pa_cons (pe_glob (v := .ref (He.ga K (nmE 4))) rfl (Er.mg_ 4 (by decide)) rfl) pa_nil)))
            (pa_cons (pe_callB (call_isX hz hf) (by rfl) T.isin (by decide +kernel) (pa_cons (pv 1) (pa_cons (pe_glob (v := .ref (He.ga K (nmE 5))) rfl (Er.mg_ 5 (by decide)) rfl) pa_nil)))
            (pa_cons (pe_callB (call_isX hz hf) (by rfl) T.isin (by decide +kernel) (pa_cons (pv 1) (pa_cons (pe_glob (v := .ref (He.ga K (nmE 6))) rfl (Er.mg_ 6 (by decide)) rfl) pa_nil))) pa_nil))))))
        (pss_cons (ps_set (i := 2) nd rfl (.inl rfl) (pe_op op_cat (pv 2) (pe_lst (pa_cons (pe_callB (call_isX hz hf) (by rfl) T.isin (by decide +kernel) (pa_cons (pv 1) (pa_cons (pe_glob (v := .ref (He.ga K (nmE 7))) rfl (Er.mg_ 7 (by decide)) rfl) pa_nil)))
            (pa_cons (pe_callB (call_isX hz hf) (by rfl) T.isin (by decide +kernel) (pa_cons (pv 1) (pa_cons (pe_glob (v := .ref (He.ga K (nmE 8))) rfl (Er.mg_ 8 (by decide)) rfl) pa_nil)))
            (pa_cons (pe_callB (call_isX hz hf) (by rfl) T.isin (by decide +kernel) (pa_cons (pv 1) (pa_cons (pe_glob (v := .ref (He.ga K (nmE 9))) rfl (Er.mg_ 9 (by decide)) rfl) pa_nil))) pa_nil))))))
        (pss_cons (ps_expr (pe_bmU PySem.F.plainAttrs_list PySem.F.slot_list_append PySem.F.type_list_append mt_append (pv 2) (pa_cons (pe_callB (call_isX hz hf) (by rfl) T.isin (by decide +kernel) (pa_cons (pv 1) (pa_cons (pe_glob (v := .ref (He.ga K (nmE 10))) rfl (Er.mg_ 10 (by decide)) rfl) pa_nil))) pa_nil)))
        (pss_cons (ps_if (PW.pt (pw_or (pt_cmpR op_ne (pe_bmU PySem.F.plainAttrs_list PySem.F.slot_list_count PySem.F.type_list_count mt_cntU (pv 2) (pa_cons pe_bl pa_nil)) pe_int (nomark _))
            (pw_or1 (pt_not (pt_val (pe_callB (call_isX hz hf) (by rfl) T.isin (by decide +kernel) (pa_cons (pv 1) (pa_cons (pe_bltn (v := .ty "ValueError") (by rfl) Er.ve (by decide +kernel) rfl) pa_nil)))))))) (pss_one (ps_ret (pe_tup (pa_cons pe_str (pa_cons pe_int pa_nil))))) pss_nil)
        (pss_cons (ps_set (i := 3) nd rfl (.inl rfl) (pe_lst (pa_cons pe_str (pa_cons pe_str (pa_cons pe_str (pa_cons pe_str (pa_cons pe_str (pa_cons pe_str (pa_cons pe_str (pa_cons pe_str (pa_cons pe_str pa_nil)))))))))))
        (pss_cons (ps_set (i := 4) nd rfl (.inl rfl) (pe_ix ix_listU (pe_op op_cat (pv 3) (pe_lst (pa_cons pe_str (pa_cons pe_str pa_nil)))) (pe_bmU PySem.F.plainAttrs_list PySem.F.slot_list_index PySem.F.type_list_index mt_indexU (pv 2) (pa_cons pe_bl pa_nil)) (fun _ _ => rfl)))
        (pss_cons (ps_if (pt_cmpR op_inU (pv 4) (pe_tup (pa_cons pe_str (pa_cons pe_str pa_nil))) (by with_unfolding_all rfl)) (pss_one (ps_ret (pe_tup (pa_cons (pv 4) (pa_cons (pe_xfX hz hf (pv 1)) pa_nil))))) pss_nil)
        (pss_cons (ps_if (pt_cmpR op_eq (pv 4) pe_str (nomark _)) (pss_one (ps_ret (pe_tup (pa_cons (pv 4) (pa_cons (pe_xfX hz hf (pv 1)) pa_nil))))) pss_nil)
        (pss_one (ps_ret (pe_tup (pa_cons (pv 4) (pa_cons (pe_ifExp (pt_cmpR op_inU (pv 4) (pe_tup (pa_cons pe_str (pa_cons pe_str pa_nil))) (by with_unfolding_all rfl)) (pe_xfX hz hf (pv 1)) pe_int) pa_nil))))))))))))))), ?_⟩
    refine ⟨fl, Hf, sp, rfl, hf, L, k _ _ (fun v H' q => q) fun cls d H1 j n he hT kq => ?_⟩
    refine ⟨true, by rw [he.cls]; exact Er.sub j he.lt, fun _ a na => ?_, fun q => nomatch q⟩
    have szl : (1000 : Nat) < sizeLine := by decide
    refine ⟨_, rfl, _, .ref (He.ga K (nmE 0)), _, _, rfl, he.cls, Er.exc j he.lt, fun u r => r, Er.kit j 0 he.lt (by decide), he.xd, ⟨_, rfl, _, .ref (He.ga K (nmE 1)), _, _, rfl, he.cls, Er.exc j he.lt, fun u r => r, Er.kit j 1 he.lt (by decide), he.xd, ⟨_, rfl, _, .ref (He.ga K (nmE 2)), _, _, rfl, he.cls, Er.exc j he.lt, fun u r => r, Er.kit j 2 he.lt (by decide), he.xd, ⟨_, rfl, _, .ref (He.ga K (nmE 3)), _, _, rfl, he.cls, Er.exc j he.lt, fun u r => r, Er.kit j 3 he.lt (by decide), he.xd, (by show 4 ≤ sizeLine; decide), fun l1 n1 => ?_⟩⟩⟩⟩
    have x1 : Ex cs H1 (upd H1 l1 (.lst ([V.bl (decide (j = 0)), V.bl (decide (j = 1)), V.bl (decide (j = 2)), V.bl (decide (j = 3))]))) := Ex.laid hT n1
    have h1 : upd H1 l1 (.lst ([V.bl (decide (j = 0)), V.bl (decide (j = 1)), V.bl (decide (j = 2)), V.bl (decide (j = 3))])) l1 = some (.lst ([V.bl (decide (j = 0)), V.bl (decide (j = 1)), V.bl (decide (j = 2)), V.bl (decide (j = 3))])) := upd_same
    generalize upd H1 l1 (.lst ([V.bl (decide (j = 0)), V.bl (decide (j = 1)), V.bl (decide (j = 2)), V.bl (decide (j = 3))])) = H2 at x1 h1 ⊢
    have he1 := he.ex x1
    refine ⟨_, rfl, ⟨_, rfl, _, .ref (He.ga K (nmE 4)), _, _, rfl, he1.cls, Er.exc j he1.lt, fun u r => r, Er.kit j 4 he1.lt (by decide), he1.xd, ⟨_, rfl, _, .ref (He.ga K (nmE 5)), _, _, rfl, he1.cls, Er.exc j he1.lt, fun u r => r, Er.kit j 5 he1.lt (by decide), he1.xd, ⟨_, rfl, _, .ref (He.ga K (nmE 6)), _, _, rfl, he1.cls, Er.exc j he1.lt, fun u r => r, Er.kit j 6 he1.lt (by decide), he1.xd, (by show 3 ≤ sizeLine; decide), fun l2 n2 => ?_⟩⟩⟩⟩
    have x2 : Ex cs H2 (upd H2 l2 (.lst ([V.bl (decide (j = 4)), V.bl (decide (j = 5)), V.bl (decide (j = 6))]))) := Ex.laid x1.tab n2
    have h2 : upd H2 l2 (.lst ([V.bl (decide (j = 4)), V.bl (decide (j = 5)), V.bl (decide (j = 6))])) l2 = some (.lst ([V.bl (decide (j = 4)), V.bl (decide (j = 5)), V.bl (decide (j = 6))])) := upd_same
    generalize upd H2 l2 (.lst ([V.bl (decide (j = 4)), V.bl (decide (j = 5)), V.bl (decide (j = 6))])) = H3 at x2 h2 ⊢
    refine ⟨l1, l2, _, _, rfl, rfl, x2.lst h1, h2, by show 7 ≤ sizeLine; decide, fun l3 n3 => ?_⟩
    have x3 : Ex cs H3 (upd H3 l3 (.lst ([V.bl (decide (j = 0)), V.bl (decide (j = 1)), V.bl (decide (j = 2)), V.bl (decide (j = 3))] ++ [V.bl (decide (j = 4)), V.bl (decide (j = 5)), V.bl (decide (j = 6))]))) := Ex.laid x2.tab n3
    have h3 : upd H3 l3 (.lst ([V.bl (decide (j = 0)), V.bl (decide (j = 1)), V.bl (decide (j = 2)), V.bl (decide (j = 3))] ++ [V.bl (decide (j = 4)), V.bl (decide (j = 5)), V.bl (decide (j = 6))])) l3 = some (.lst ([V.bl (decide (j = 0)), V.bl (decide (j = 1)), V.bl (decide (j = 2)), V.bl (decide (j = 3))] ++ [V.bl (decide (j = 4)), V.bl (decide (j = 5)), V.bl (decide (j = 6))])) := upd_same
    generalize upd H3 l3 (.lst ([V.bl (decide (j = 0)), V.bl (decide (j = 1)), V.bl (decide (j = 2)), V.bl (decide (j = 3))] ++ [V.bl (decide (j = 4)), V.bl (decide (j = 5)), V.bl (decide (j = 6))])) = H4 at x3 h3 ⊢
    have he3 := (he1.ex x2).ex x3
    refine ⟨_, rfl, ⟨_, rfl, _, .ref (He.ga K (nmE 7)), _, _, rfl, he3.cls, Er.exc j he3.lt, fun u r => r, Er.kit j 7 he3.lt (by decide), he3.xd, ⟨_, rfl, _, .ref (He.ga K (nmE 8)), _, _, rfl, he3.cls, Er.exc j he3.lt, fun u r => r, Er.kit j 8 he3.lt (by decide), he3.xd, ⟨_, rfl, _, .ref (He.ga K (nmE 9)), _, _, rfl, he3.cls, Er.exc j he3.lt, fun u r => r, Er.kit j 9 he3.lt (by decide), he3.xd, (by show 3 ≤ sizeLine; decide), fun l4 n4 => ?_⟩⟩⟩⟩
    have x4 : Ex cs H4 (upd H4 l4 (.lst ([V.bl (decide (j = 7)), V.bl (decide (j = 8)), V.bl (decide (j = 9))]))) := Ex.laid x3.tab n4
    have h4 : upd H4 l4 (.lst ([V.bl (decide (j = 7)), V.bl (decide (j = 8)), V.bl (decide (j = 9))])) l4 = some (.lst ([V.bl (decide (j = 7)), V.bl (decide (j = 8)), V.bl (decide (j = 9))])) := upd_same
    generalize upd H4 l4 (.lst ([V.bl (decide (j = 7)), V.bl (decide (j = 8)), V.bl (decide (j = 9))])) = H5 at x4 h4 ⊢
    refine ⟨l3, l4, _, _, rfl, rfl, x4.lst h3, h4, by show 10 ≤ sizeLine; decide, fun l5 n5 => ?_⟩
    have x5 : Ex cs H5 (upd H5 l5 (.lst (([V.bl (decide (j = 0)), V.bl (decide (j = 1)), V.bl (decide (j = 2)), V.bl (decide (j = 3))] ++ [V.bl (decide (j = 4)), V.bl (decide (j = 5)), V.bl (decide (j = 6))]) ++ [V.bl (decide (j = 7)), V.bl (decide (j = 8)), V.bl (decide (j = 9))]))) := Ex.laid x4.tab n5
    have h5 : upd H5 l5 (.lst (([V.bl (decide (j = 0)), V.bl (decide (j = 1)), V.bl (decide (j = 2)), V.bl (decide (j = 3))] ++ [V.bl (decide (j = 4)), V.bl (decide (j = 5)), V.bl (decide (j = 6))]) ++ [V.bl (decide (j = 7)), V.bl (decide (j = 8)), V.bl (decide (j = 9))])) l5 = some (.lst (([V.bl (decide (j = 0)), V.bl (decide (j = 1)), V.bl (decide (j = 2)), V.bl (decide (j = 3))] ++ [V.bl (decide (j = 4)), V.bl (decide (j = 5)), V.bl (decide (j = 6))]) ++ [V.bl (decide (j = 7)), V.bl (decide (j = 8)), V.bl (decide (j = 9))])) := upd_same
    generalize upd H5 l5 (.lst (([V.bl (decide (j = 0)), V.bl (decide (j = 1)), V.bl (decide (j = 2)), V.bl (decide (j = 3))] ++ [V.bl (decide (j = 4)), V.bl (decide (j = 5)), V.bl (decide (j = 6))]) ++ [V.bl (decide (j = 7)), V.bl (decide (j = 8)), V.bl (decide (j = 9))])) = H6 at x5 h5 ⊢
    have y5 := (((x1.trans x2).trans x3).trans x4).trans x5
    have he5 := he.ex y5
    have n50 : H1 l5 = none := (((x1.trans x2).trans x3).trans x4).old _ n5
    refine ⟨_, rfl, .inl ⟨rfl, _, SqL.of h5⟩, ⟨_, rfl, _, .ref (He.ga K (nmE 10)), _, _, rfl, he5.cls, Er.exc j he5.lt, fun u r => r, Er.kit j 10 he5.lt (by decide), he5.xd, l5, _, _, rfl, rfl, h5, by show 10 < sizeLine; decide, ?_⟩⟩
    have x6 : Ex cs H1 (upd H6 l5 (.lst (kindsR j 11))) := ex_new hT y5 n50
    have h6 : upd H6 l5 (.lst (kindsR j 11)) l5 = some (.lst (kindsR j 11)) := upd_same
    show tSeq _ _ _ _ (upd H6 l5 (.lst (kindsR j 11)))
    generalize upd H6 l5 (.lst (kindsR j 11)) = H7 at x6 h6 ⊢
    have he6 := he.ex x6
    have hj := he.lt
    -- one of them, and a ValueError
    refine ⟨_, rfl, .inl ⟨rfl, _, SqL.of h6⟩, l5, _, .bl true, rfl, rfl, SqL.of h6, rfl, kinds_flat j hj, rfl, false, ?_, iteF ?_⟩
    · rw [kinds_cnt j hj]
      rfl
    refine ⟨_, rfl, _, .type "ValueError", true, _, rfl, he.cls, Er.exc j hj, fun u r => r, Er.val j hj, he6.xd, true, rfl, iteF ?_⟩
    -- its name
    refine ⟨by show 9 ≤ sizeLine; decide, fun l7 n7 => ?_⟩
    have x7 := x6.trans (Ex.laid (o := .lst [V.str "BadPage", V.str "BadStyle", V.str "BadRow", V.str "BadCell", V.str "BadCount", V.str "BadLines", V.str "BadStep", V.str "BadStroke", V.str "BadText"]) x6.tab n7)
    have h7 : upd H7 l7 (.lst [V.str "BadPage", V.str "BadStyle", V.str "BadRow", V.str "BadCell", V.str "BadCount", V.str "BadLines", V.str "BadStep", V.str "BadStroke", V.str "BadText"]) l7 = some (.lst [V.str "BadPage", V.str "BadStyle", V.str "BadRow", V.str "BadCell", V.str "BadCount", V.str "BadLines", V.str "BadStep", V.str "BadStroke", V.str "BadText"]) := upd_same
    have h67 : upd H7 l7 (.lst [V.str "BadPage", V.str "BadStyle", V.str "BadRow", V.str "BadCell", V.str "BadCount", V.str "BadLines", V.str "BadStep", V.str "BadStroke", V.str "BadText"]) l5 = some (.lst (kindsR j 11)) := by rw [upd_ne (ne_of_none h6 n7)]; exact h6
    generalize upd H7 l7 (.lst [V.str "BadPage", V.str "BadStyle", V.str "BadRow", V.str "BadCell", V.str "BadCount", V.str "BadLines", V.str "BadStep", V.str "BadStroke", V.str "BadText"]) = H8 at x7 h7 h67 ⊢
    refine ⟨_, rfl, by show 2 ≤ sizeLine; decide, fun l8 n8 => ?_⟩
    have x8 := x7.trans (Ex.laid (o := .lst [V.str "BadHand", V.str "TooMuch"]) x7.tab n8)
    refine ⟨l7, l8, _, _, rfl, rfl, by rw [upd_ne (ne_of_none h7 n8)]; exact h7, upd_same, by show 11 ≤ sizeLine; decide, fun l9 n9 => ?_⟩
    have x9 := x8.trans (Ex.laid (o := .lst ([V.str "BadPage", V.str "BadStyle", V.str "BadRow", V.str "BadCell", V.str "BadCount", V.str "BadLines", V.str "BadStep", V.str "BadStroke", V.str "BadText"] ++ [V.str "BadHand", V.str "TooMuch"])) x8.tab n9)
    have h9 : upd (upd H8 l8 (.lst [V.str "BadHand", V.str "TooMuch"])) l9 (.lst ([V.str "BadPage", V.str "BadStyle", V.str "BadRow", V.str "BadCell", V.str "BadCount", V.str "BadLines", V.str "BadStep", V.str "BadStroke", V.str "BadText"] ++ [V.str "BadHand", V.str "TooMuch"])) l9 = some (.lst ([V.str "BadPage", V.str "BadStyle", V.str "BadRow", V.str "BadCell", V.str "BadCount", V.str "BadLines", V.str "BadStep", V.str "BadStroke", V.str "BadText"] ++ [V.str "BadHand", V.str "TooMuch"])) := upd_same
    have h69 : upd (upd H8 l8 (.lst [V.str "BadHand", V.str "TooMuch"])) l9 (.lst ([V.str "BadPage", V.str "BadStyle", V.str "BadRow", V.str "BadCell", V.str "BadCount", V.str "BadLines", V.str "BadStep", V.str "BadStroke", V.str "BadText"] ++ [V.str "BadHand", V.str "TooMuch"])) l5 = some (.lst (kindsR j 11)) := by
      have e := upd_ne (H := H8) (o := HO.lst [V.str "BadHand", V.str "TooMuch"]) (ne_of_none h67 n8)
      rw [upd_ne (ne_of_none (e.trans h67) n9), e]
      exact h67
    refine ⟨_, rfl, .inl ⟨rfl, _, SqL.of h69⟩, l5, _, .bl true, j, .bl true, rfl, rfl, SqL.of h69, rfl, kinds_flat j hj, kinds_at j hj, rfl, fun m z hm hz => ?_, ?_⟩
    · rw [kinds_no j hj m hm] at hz
      cases hz
      rfl
    refine names_get j hj (h9.trans rfl) ?_
    generalize upd (upd H8 l8 (.lst [V.str "BadHand", V.str "TooMuch"])) l9 (.lst ([V.str "BadPage", V.str "BadStyle", V.str "BadRow", V.str "BadCell", V.str "BadCount", V.str "BadLines", V.str "BadStep", V.str "BadStroke", V.str "BadText"] ++ [V.str "BadHand", V.str "TooMuch"])) = H9 at x9
    clear h9 h69 h7 h67 n8 n9 n7 x8 x7 h6 he6 h5 n5 x5 he5 n50 y5
    have fin : ∀ {H' : Hp}, Ex cs H1 H' → ∀ T, H' T = none → Q (.ref T) (upd H' T (.tup [.str (nmE j), .int n])) := fun {H'} x T nT => kq T _ (x.trans (Ex.laid x.tab nT)) (x.old _ nT) upd_same
    have fld : ∀ {H' : Hp} {f : Str} {Z : VK}, Ex cs H1 H' → flE j = f → f ≠ "" → Z (.int n) H' → ∃ C : Addr, XfC K C ∧ PySem.W.findIn K (.ref C) f = some none ∧ ∃ v, ([some (V.ref fl), some (V.ref a), some (V.ref l5), some (V.ref l7), some (V.str (nmE j))] : L2.St)[1]? = some (some v) ∧ v = .ref a ∧ cls = .ref C ∧ ∃ (dd : Addr) (fs : List (Str × V)) (v : V), d = some dd ∧ H' dd = some (.xd fs) ∧ fs.lookup f = some v ∧ Z v H' := fun {H' f Z} x e ne q => by
      subst e
      obtain ⟨dd, e1, e2⟩ := (he.ex x).yes ne
      exact ⟨_, xfC_of (Er.exc j hj), Er.fld j hj ne, _, rfl, rfl, he.cls, dd, _, .int n, e1, e2, by simp [List.lookup], q⟩
    refine ⟨_, rfl, by show 2 ≤ sizeLine; decide, fun t1 nt1 => ⟨t1, _, rfl, .inr (SqT.of upd_same), rfl, rfl, _, rfl, ?_⟩⟩
    have xa := x9.trans (Ex.laid (o := .tup [.str "BadPage", .str "BadText"]) x9.tab nt1)
    show if inV (.str (nmE j)) [.str "BadPage", .str "BadText"] = true then _ else _
    rw [word_in j hj]
    by_cases c1 : j = 0 ∨ j = 8
    · rw [decide_eq_true c1]
      refine iteT ⟨_, rfl, ?_⟩
      refine fld xa (by rcases c1 with rfl | rfl <;> rfl) (by decide) ⟨by show 2 ≤ sizeLine; decide, fun T nT => fin xa T nT⟩
    · rw [decide_eq_false c1]
      refine iteF ⟨_, rfl, rfl, _, rfl, ?_⟩
      have e5 : decide (V.str (nmE j) = V.str "BadLines") = decide (j = 5) := by
        rw [← word_eq j hj]
        by_cases q : nmE j = "BadLines"
        · rw [decide_eq_true q, decide_eq_true (by rw [q])]
        · rw [decide_eq_false q, decide_eq_false (fun z => q (by injection z))]
      rw [e5]
      by_cases c2 : j = 5
      · rw [decide_eq_true c2]
        refine iteT ⟨_, rfl, ?_⟩
        refine fld xa (by rw [c2]; rfl) (by decide) ⟨by show 2 ≤ sizeLine; decide, fun T nT => fin xa T nT⟩
      · rw [decide_eq_false c2]
        refine iteF ⟨_, rfl, _, rfl, by show 2 ≤ sizeLine; decide, fun t2 nt2 => ⟨t2, _, rfl, .inr (SqT.of upd_same), rfl, rfl, _, rfl, ?_⟩⟩
        have xb := xa.trans (Ex.laid (o := .tup [.str "BadStep", .str "BadStroke"]) xa.tab nt2)
        show if inV (.str (nmE j)) [.str "BadStep", .str "BadStroke"] = true then _ else _
        rw [word_in2 j hj]
        by_cases c3 : j = 6 ∨ j = 7
        · rw [decide_eq_true c3]
          refine iteT ?_
          refine fld xb (by rcases c3 with rfl | rfl <;> rfl) (by decide) ⟨by show 2 ≤ sizeLine; decide, fun T nT => fin xb T nT⟩
        · rw [decide_eq_false c3]
          have e0 := (he.no (word_fl j hj c1 c2 c3)).1
          subst e0
          exact iteF ⟨by show 2 ≤ sizeLine; decide, fun T nT => fin xb T nT⟩
end
end TG

namespace TG
open PySem PySem.Spec PyProof.Rows L2 NdefX GenW Gx Lv Dl
/-! ### _law_all of several works, each refused alike and without a change -/
section
variable {P : Program} {w : World} {K : PySem.W.Frag} {mg : Str → Option Value} {base : Heap} {cs : List (Addr × Addr)}
/-- a work that is refused with the j-th class and n, in every heap that grew out of this one -/
def Ref (P : Program) (w : World) (K : PySem.W.Frag) (mg : Str → Option Value) (base : Heap) (cs : List (Addr × Addr)) (kl : Nat) (j : Nat) (n : Int) (H : Hp) (f : Addr) : Prop := ∃ (Hf : Hp → Prop) (sp : Sp), LamW P w K mg base kl f Hf sp ∧
  ∀ H1, Ex cs H H1 → Hf H1 ∧ ∀ (Z : VK) (E : XK), (∀ (cls : Value) (d : Option Addr) (H2 : Hp), ErrAt K H2 j n cls d → Ex cs H1 H2 → E cls d H2) → sp [] H1 Z E
theorem Ref.ex {kl j : Nat} {n : Int} {H H' : Hp} {f : Addr} (r : Ref P w K mg base cs kl j n H f) (x : Ex cs H H') : Ref P w K mg base cs kl j n H' f := by
  obtain ⟨Hf, sp, L, k⟩ := r
  exact ⟨Hf, sp, L, fun H1 y => k H1 (x.trans y)⟩
def spAllW (P : Program) (w : World) (K : PySem.W.Frag) (mg : Str → Option Value) (base : Heap) (cs : List (Addr × Addr)) (kl : Nat) : Sp := fun vs H Q _ => ∃ (a dd : Addr) (fs : List Addr) (j : Nat) (n : Int),
  vs = [.ref a, .ref dd] ∧ Tabs cs H ∧ H a = some (.lst (fs.map V.ref)) ∧ H dd = some (.tup [.str (nmE j), .int n]) ∧ (∀ f ∈ fs, Ref P w K mg base cs kl j n H f) ∧ ∀ H', Ex cs H H' → Q (.bl true) H'
abbrev nmAll : List Str := ["_law_works", "_law_due", "_law_work"]
theorem sc_all : FnScope nmAll ["_law_works", "_law_due"] (defScope s_all) := ⟨rfl, rfl, rfl, by decide +kernel, rfl, by decide +kernel, by decide +kernel⟩
theorem ok_allW {f g1 g2 : Addr} {fd fd1 fd2 : FuncData} {kl : Nat} (hkl : 5 ≤ kl + 1) (F : Fun K "_law_all" "_law_all" s_all f fd)
    (G1 : FnOk P w K mg base CX0 5 g1 fd1 ["_law_found", "_law_due"] (spAlike K 4)) (k1 : PySem.W.keepIn K (.ref g1) = true) (b1 : Binds K fd1 ["_law_found", "_law_due"] []) (m1 : mg "_law_alike" = some (.ref g1))
    (G2 : FnOk P w K mg base CX0 (kl + 1) g2 fd2 ["_law_work"] (spTellsW P w K mg base cs kl)) (k2 : PySem.W.keepIn K (.ref g2) = true) (b2 : Binds K fd2 ["_law_work"] []) (m2 : mg "_law_told" = some (.ref g2)) :
    FnOk P w K mg base CX0 (kl + 2) f fd ["_law_works", "_law_due"] (spAllW P w K mg base cs kl) := by
  refine F.ok sc_all (fun vs H Q E h => ?_) (fun cdv A outer s H vs Q E hr h => ?_)
  · obtain ⟨a, dd, fs, j, n, rfl, _⟩ := h
    rfl
  · obtain ⟨a, dd, fs, j, n, rfl, hT, ha, hdd, hR, k⟩ := h
    have nd := sc_all.nd
    have hu := hr.units
    have r5 : Room 5 _ := hr.mono hkl
    refine ⟨_, pss_one (ps_ret (pe_cmpR (op_eqD hu) (pe_lc (own := [("_law_work", 2)]) (g := gName 2) rfl nd (pi_list (pv 0)) (blkOk_by (own := [("_law_work", 2)]) (N := nmAll) (sc := defScope s_all) (by decide +kernel))
        (fun _ _ _ _ _ => pg_name (i := 2) nd rfl (Or.inl rfl)) (fun _ _ _ _ _ => pts_one (pt_not (pt_val (pe_call G1 r5 (by rfl) m1 k1 b1 .nil pass0 (pa_cons (pe_call G2 hr (by rfl) m2 k2 b2 .nil pass0 (pa_cons (pv 2) pa_nil)) (pa_cons (pv 1) pa_nil)))))) (fun _ _ _ _ _ => pv 2)) (pe_lst pa_nil) (nomark _))), ?_⟩
    refine ⟨_, rfl, a, rfl, ⟨_, SqL.of ha⟩, fun D nD => ?_⟩
    refine lc_list (xs := fs.map V.ref) (fun i H' => Ex cs H H' ∧ H' D = some (.lst [])) ⟨Ex.laid hT nD, upd_same⟩ (fun i H' _ x => SqL.of (x.1.lst ha)) ?_ ?_
    · rintro i x H' hx ⟨xe, hD⟩
      rw [List.getElem?_map] at hx
      cases hg : fs[i]? with
      | none => rw [hg] at hx; cases hx
      | some fl =>
        rw [hg] at hx
        cases hx
        obtain ⟨Hf, sp, L, kk⟩ := hR fl (List.mem_of_getElem? hg)
        obtain ⟨hf, run⟩ := kk H' xe
        refine ⟨rfl, _, rfl, fl, Hf, sp, rfl, hf, L, fun Z E hZ hE => run Z E fun cls d H1 he x1 => hE cls d H1 j n he x1.tab fun T H2 x2 nT hTt => ?_⟩
        have e2 : H2 dd = some (.tup [.str (nmE j), .int n]) := x2.tup (x1.tup (xe.tup hdd))
        exact ⟨_, rfl, _, _, .tuple [.str (nmE j), .int n], rfl, .tup (SqT.of hTt) (.cons (.str _) (.cons (.int _) .nil)), .tup (SqT.of e2) (.cons (.str _) (.cons (.int _) .nil)), by simp [PyData.depth, PyData.depthAll], by simp [dok, dokAll], true, rfl, iteF ⟨(xe.trans x1).trans x2, x2.lst (x1.lst hD)⟩⟩
    · rintro H' ⟨xe, hD⟩
      refine ⟨small0, fun p np => ?_⟩
      have xp := Ex.laid (o := .lst []) xe.tab np
      exact ⟨.list [], .list [], .lst (SqL.of (xp.lst hD)) .nil, .lst (SqL.of upd_same) .nil, rfl, rfl, k _ (xe.trans xp)⟩
end
end TG

namespace TG
open PySem PySem.Spec PyProof.Rows L2 Gx
/-! ### what is told of a def, told otherwise -/
section
variable {P : Program} {w : World} {K : PySem.W.Frag} {mg : Str → Option Value} {base : Heap} {k : Nat} {f : Addr} {fd : FuncData} {ps : List Str} {sp sp1 sp2 : Sp}
/-- a def that may raise, where it doesn't -/
def noE (sp : Sp) : Sp := fun vs H Q _ => sp vs H Q fun _ _ _ => False
theorem fn0_of (F : FnOk P w K mg base (L2.CX P w) k f fd ps sp) : FnOk P w K mg base CX0 k f fd ps (noE sp) := by
  refine ⟨fun vs H Q E h => F.len vs H Q _ h, fun A outer s H args us vs Q E hr e0 b r h => ?_⟩
  refine codeAny_mono (F.run A outer s H args us vs Q (fun _ _ _ => False) hr e0 b r h) fun r' s' hq => ?_
  cases r' with
  | error er =>
    obtain ⟨a, B, H', cls, d, _, _, _, _, _, _, _, z⟩ := hq
    exact z.elim
  | ok fl =>
    cases fl with
    | ret u => exact hq
    | next => exact hq
    | brk => exact False.elim hq
    | cont => exact False.elim hq
def orSp (sp1 sp2 : Sp) : Sp := fun vs H Q E => sp1 vs H Q E ∨ sp2 vs H Q E
theorem fn_or {CX : L2.CXT} (F1 : FnOk P w K mg base CX k f fd ps sp1) (F2 : FnOk P w K mg base CX k f fd ps sp2) : FnOk P w K mg base CX k f fd ps (orSp sp1 sp2) := by
  refine ⟨fun vs H Q E h => h.elim (F1.len vs H Q E) (F2.len vs H Q E), fun A outer s H args us vs Q E hr e0 b r h => ?_⟩
  rcases h with h | h
  · exact F1.run A outer s H args us vs Q E hr e0 b r h
  · exact F2.run A outer s H args us vs Q E hr e0 b r h
end
end TG


namespace TGK
open TG
open PySem PySem.Spec PyProof.Rows L2 NdefX GenW Gx Lv Dl
/-! ### works in general -/
abbrev LamT := Arguments × Expr × Scope
def sc00 : Scope := { kind := .function, names := [], isGenerator := false, isCoroutine := false }
def lam00 : LamT := ({ posonlyargs := [], args := [], vararg := none, kwonlyargs := [], kw_defaults := [], kwarg := none, defaults := [] }, .Name "x" ⟨0, 0, 0, 0⟩, sc00)
def lamOf : Expr → LamT
  | .Lambda p b sc _ => (p, b, sc)
  | _ => lam00
def stAt (l : List Stmt) (i : Nat) : Stmt := l.getD i (.Pass ⟨0, 0, 0, 0⟩)
/-- what a lambda's body wants, of what it caught -/
abbrev RW := List (Option V) → Hp → VK → XK → Prop
def spLamR (fr : List Str) (R : RW) (F : NF) : Sp := fun vs H Q E => vs = [] ∧ ∃ (ws : List (Option V)) (cl : List (Addr × Obj)), Caught F fr ws cl H ∧
  R ws (delC H cl) (fun v H' => (∀ c o, cl.lookup c = some o → H' c = none) → Q v (addC H' cl)) (fun cls d H' => (∀ c o, cl.lookup c = some o → H' c = none) → E cls d (addC H' cl))
theorem del_add {H : Hp} {cl : List (Addr × Obj)} (un : ∀ c o, cl.lookup c = some o → H c = none) : delC (addC H cl) cl = H := by
  funext b
  cases r : cl.lookup b with
  | some u => rw [delC_in r, un b u r]
  | none => rw [delC_out r, addC_out r]
theorem hfL_add {f : Addr} {F : NF} {e : Expr} {H : Hp} {cl : List (Addr × Obj)} (un : ∀ c o, cl.lookup c = some o → H c = none) (h : HfL f F e H) : HfL f F e (addC H cl) := ⟨add_at un h.1, add_at un h.2⟩
theorem hfD_add {f t : Addr} {F : NF} {e : Expr} {v : V} {H : Hp} {cl : List (Addr × Obj)} (un : ∀ c o, cl.lookup c = some o → H c = none) (h : HfD f F e t v H) : HfD f F e t v (addC H cl) := ⟨add_at un h.1, add_at un h.2.1, add_at un h.2.2⟩
/-! ### a lambda that is refused -/
theorem cell_ne (o : Obj) : ∀ ps, cellF o ≠ .tbl ps := fun ps z => by
  unfold cellF at z
  cases z
section
variable {cs : List (Addr × Addr)} {H H1 H2 : Hp} {cl : List (Addr × Obj)}
theorem ex_del (un : ∀ c o, cl.lookup c = some o → H c = none) (x : Ex cs (addC H cl) H1) : Ex cs H (delC H1 cl) := by
  have nl : ∀ {b : Addr} {o : HO}, H b = some o → cl.lookup b = none := fun {b o} h => by
    cases r : cl.lookup b with
    | none => rfl
    | some u => rw [un b u r] at h; cases h
  refine ⟨fun b o h n => ?_, fun r hr => ?_, fun b hb => ?_, fun b o h m => ?_⟩
  · rw [delC_out (nl h)]
    exact x.ext _ _ (by rw [addC_out (nl h)]; exact h) n
  · obtain ⟨ps, h1, h2⟩ := x.tab r hr
    refine ⟨ps, ?_, h2⟩
    cases e : cl.lookup r.2 with
    | none => rw [delC_out e]; exact h1
    | some u =>
      have := x.ext _ _ (addC_in (H := H) e) (cell_ne u)
      rw [h1] at this
      injection this with this
      exact absurd this.symm (cell_ne u ps)
  · cases e : cl.lookup b with
    | none =>
      rw [delC_out e] at hb
      have := x.old _ hb
      rw [addC_out e] at this
      exact this
    | some u => exact un b u e
  · rw [delC_out (nl h)]
    exact x.oth _ _ (by rw [addC_out (nl h)]; exact h) m
theorem ex_add (told : ∀ c o, cl.lookup c = some o → H1 c = some (cellF o)) (hu : ∀ c o, cl.lookup c = some o → H2 c = none) (x : Ex cs (delC H1 cl) H2) : Ex cs H1 (addC H2 cl) := by
  refine ⟨fun b o h n => ?_, fun r hr => ?_, fun b hb => ?_, fun b o h m => ?_⟩
  · cases e : cl.lookup b with
    | none => rw [addC_out e]; exact x.ext _ _ (by rw [delC_out e]; exact h) n
    | some u =>
      rw [told b u e] at h
      cases h
      exact addC_in e
  · obtain ⟨ps, h1, h2⟩ := x.tab r hr
    exact ⟨ps, add_at hu h1, h2⟩
  · cases e : cl.lookup b with
    | none =>
      rw [addC_out e] at hb
      have := x.old _ hb
      rw [delC_out e] at this
      exact this
    | some u => rw [addC_in e] at hb; cases hb
  · cases e : cl.lookup b with
    | none => rw [addC_out e]; exact x.oth _ _ (by rw [delC_out e]; exact h) m
    | some u =>
      rw [told b u e] at h
      cases h
      exact addC_in e
end
section
variable {P : Program} {w : World} {K : PySem.W.Frag} {mg : Str → Option Value} {base : Heap} {cs : List (Addr × Addr)}
theorem err_add {H : Hp} {cl : List (Addr × Obj)} {j : Nat} {n : Int} {cls : Value} {d : Option Addr} (hu : ∀ c o, cl.lookup c = some o → H c = none) (e : ErrAt K H j n cls d) : ErrAt K (addC H cl) j n cls d :=
  ⟨e.lt, e.cls, fun h => let ⟨dd, h1, h2⟩ := e.yes h; ⟨dd, h1, add_at hu h2⟩, e.no⟩
/-- a lambda whose body is refused, as a work of _law_all -/
theorem ref_of {kl j : Nat} {n : Int} {cells : List (Str × Addr)} {N N' ps fr names : List Str} {σ : L2.St} {cl : List (Addr × Obj)} {H : Hp} {f c' : Addr} {lc : List (Str × Addr)} {lam : LamT} {Hf : Hp → Prop} {qn : Str} {R : RW} {ws : List (Option V)} (sc : NScope N' ps fr lam.2.2) (hps : ∀ y, (y, NameKind.free) ∈ lam.2.2.names → y ∈ fr) (hsub : ∀ y ∈ fr, y ∈ names)
    (T : ToldC cells N names σ cl) (un : ∀ c o, cl.lookup c = some o → H c = none) (hF : lc = cloFrom cells lam.2.2.names []) (hl : ws.length = fr.length) (hw : ∀ (i : Nat) (y : Str) (v : V), fr[i]? = some y → ws[i]? = some (some v) → ∃ j : Nat, N[j]? = some y ∧ σ[j]? = some (some v))
    (hk : ∀ H1, Ex cs (addC H cl) H1 → Hf H1) (L : LamW P w K mg base kl f Hf (spLamR fr R ⟨"<lambda>", qn, lam.1, [], lam.2.2, lc, c'⟩))
    (run : ∀ H1, Ex cs H H1 → (∀ c o, cl.lookup c = some o → H1 c = none) → ∀ (Z : VK) (E' : XK), (∀ (cls : Value) (d : Option Addr) (H2 : Hp), ErrAt K H2 j n cls d → Ex cs H1 H2 → E' cls d H2) → R ws H1 Z E') :
    Ref P w K mg base cs kl j n (addC H cl) f := by
  refine ⟨Hf, _, L, fun H1 x => ⟨hk H1 x, fun Z E hE => ?_⟩⟩
  have told : ∀ c o, cl.lookup c = some o → H1 c = some (cellF o) := fun c o q => x.ext _ _ (addC_in q) (cell_ne o)
  refine ⟨rfl, ws, cl, caught_of T hF hps (fun y hy => PySem.mem_of_lookup (sc.frk y hy)) hsub hl told (fun i y v q1 q2 => hw i y v q1 q2), ?_⟩
  exact run (delC H1 cl) (ex_del un x) (fun c o q => delC_in q) _ _ fun cls d H2 he x2 hu => hE cls d _ (err_add hu he) (ex_add told hu x2)
end
end TGK

namespace TGK
open TG
open PySem PySem.Spec PyProof.Rows L2 NdefX GenW Gx Lv Dl
/-! ### a lambda is tried; what it gives, or the word of what it raised -/
theorem add_del {H : Hp} {cl : List (Addr × Obj)} (told : ∀ c o, cl.lookup c = some o → H c = some (cellF o)) : addC (delC H cl) cl = H := by
  funext b
  cases r : cl.lookup b with
  | some u => rw [addC_in r, told b u r]
  | none => rw [addC_out r, delC_out r]
section
variable {P : Program} {w : World} {K : PySem.W.Frag} {mg : Str → Option Value} {base : Heap} {cs : List (Addr × Addr)}
theorem tellsR {kl : Nat} {cells : List (Str × Addr)} {N N' ps fr names : List Str} {σ : L2.St} {cl : List (Addr × Obj)} {H : Hp} {f c' : Addr} {lc : List (Str × Addr)} {lam : LamT} {Hf : Hp → Prop} {Q0 : VK} {E : XK} {qn : Str} {R : RW} {ws : List (Option V)} (sc : NScope N' ps fr lam.2.2) (hps : ∀ y, (y, NameKind.free) ∈ lam.2.2.names → y ∈ fr) (hsub : ∀ y ∈ fr, y ∈ names)
    (T : ToldC cells N names σ cl) (un : ∀ c o, cl.lookup c = some o → H c = none) (hF : lc = cloFrom cells lam.2.2.names []) (hl : ws.length = fr.length) (hw : ∀ (i : Nat) (y : Str) (v : V), fr[i]? = some y → ws[i]? = some (some v) → ∃ j : Nat, N[j]? = some y ∧ σ[j]? = some (some v))
    (hf : Hf (addC H cl)) (L : LamW P w K mg base kl f Hf (spLamR fr R ⟨"<lambda>", qn, lam.1, [], lam.2.2, lc, c'⟩))
    (run : ∀ (Z : VK) (E' : XK), (∀ v H', ((∀ c o, cl.lookup c = some o → H' c = none) → Q0 v (addC H' cl)) → Z v H') →
      (∀ (j : Nat) (H' : Hp), j < 11 → flE j = "" → Tabs cs H' → (∀ (T : Addr) (H2 : Hp), Ex cs H' H2 → H' T = none → (∀ c o, cl.lookup c = some o → H2 c = none) → H2 T = some (.tup [.str (nmE j), .int 0]) → Q0 (.ref T) (addC H2 cl)) → E' (.ref (He.ga K (nmE j))) none H') → R ws H Z E') :
    spTellsW P w K mg base cs kl [.ref f] (addC H cl) Q0 E := by
  refine ⟨f, Hf, _, rfl, hf, L, fun Z E2 hZ hE => ?_⟩
  refine ⟨rfl, ws, cl, caught_of T hF hps (fun y hy => PySem.mem_of_lookup (sc.frk y hy)) hsub hl (fun c o q => addC_in q) (fun i y v q1 q2 => hw i y v q1 q2), ?_⟩
  rw [del_add un]
  refine run _ _ (fun v H' q hu => hZ _ _ (q hu)) fun j H' hj hfl hT kq hu => hE _ _ (addC H' cl) j 0 ⟨hj, rfl, fun n => absurd hfl n, fun _ => ⟨rfl, rfl⟩⟩ (fun r hr => ?_) fun T H2 x2 nT hTt => ?_
  · obtain ⟨ps, h1, h2⟩ := hT r hr
    exact ⟨ps, add_at hu h1, h2⟩
  · have told : ∀ c o, cl.lookup c = some o → H2 c = some (cellF o) := fun c o q => x2.ext _ _ (addC_in q) (cell_ne o)
    have nl : cl.lookup T = none := by
      cases e : cl.lookup T with
      | none => rfl
      | some u => rw [addC_in e] at nT; cases nT
    have q := kq T (delC H2 cl) (ex_del hu x2) (by rw [addC_out nl] at nT; exact nT) (fun c o q => delC_in q) (by rw [delC_out nl]; exact hTt)
    rw [add_del told] at q
    exact q
end
end TGK

namespace TG
open PySem PySem.Spec PyProof.Rows L2 NdefX GenW Gx Lv
def spTakeW : Sp := fun vs H Q _ => ∃ (b l : Addr) (many : Int), vs = [.ref b, .int many] ∧ BoxAt H b l ∧ 0 < many ∧ many < 4611686018427387904 ∧
  ∀ (r : Int) (H' : Hp), 0 ≤ r → r < many → BoxAt H' b l → KB b l H H' → Q (.int r) H'
section
variable {P : Program} {w : World} {K : PySem.W.Frag} {mg : Str → Option Value} {base : Heap}
theorem ok_takeW {f : Addr} {fd : FuncData} (F : Fun K "_law_take" "_law_take" s_take f fd) : FnOk P w K mg base CX0 1 f fd ["_law_box", "_law_many"] spTakeW := by
  refine F.ok sc_take (fun vs H Q E h => ?_) (fun cdv A outer s H vs Q E hr h => ?_)
  · obtain ⟨b, l, many, rfl, _⟩ := h
    rfl
  · obtain ⟨b, l, many, rfl, hB, m0, m1, k⟩ := h
    have nd := sc_take.nd
    have hu := hr.units
    refine ⟨_, pss_cons (ps_if (pt_cmpR (op_eqD hu) (pe_ix ix_list (pv 0) pe_int (fun _ _ => rfl)) (pe_lst pa_nil) (nomark _))
        (pss_cons (ps_asg (pe_op op_modN (pe_op op_mul (pe_ix ix_list (pv 0) pe_int (fun _ _ => rfl)) pe_int) pe_int) (pg_sub (pv 0) pe_int set_list))
          (pss_one (ps_ret (pe_op op_modN (pe_op op_fdivN (pe_ix ix_list (pv 0) pe_int (fun _ _ => rfl)) pe_int) (pv 1))))) pss_nil)
      (pss_cons (ps_set (i := 2) nd rfl (.inl rfl) (pe_ix ix_list (pe_ix ix_list (pv 0) pe_int (fun _ _ => rfl)) pe_int (fun _ _ => rfl)))
      (pss_cons (ps_asg (pe_op op_fdivW (pv 2) (pv 1)) (pg_sub (pe_ix ix_list (pv 0) pe_int (fun _ _ => rfl)) pe_int set_list))
      (pss_cons (ps_if (PW.pt (pw_or (pt_cmpR op_eq (pe_ix ix_list (pe_ix ix_list (pv 0) pe_int (fun _ _ => rfl)) pe_int (fun _ _ => rfl)) pe_int (nomark _)) (pw_or1 (pt_cmpR op_eq (pe_ix ix_list (pe_ix ix_list (pv 0) pe_int (fun _ _ => rfl)) pe_int (fun _ _ => rfl)) (pe_un un_neg pe_int) (nomark _)))))
          (pss_one (ps_expr (pe_bm PySem.F.plainAttrs_list PySem.F.slot_list_pop PySem.F.type_list_pop mt_popAt (pe_ix ix_list (pv 0) pe_int (fun _ _ => rfl)) (pa_cons pe_int pa_nil)))) pss_nil)
      (pss_one (ps_ret (pe_op op_modN (pv 2) (pv 1))))))), ?_⟩
    obtain ⟨ns, st, h1, h2, h3⟩ := id hB
    have nbl := box_ne hB
    have len2 : ∀ o, (upd H b o) l = some (.lst (ns.map V.int)) := fun o => by rw [upd_ne nbl.symm]; exact h2
    -- _law_box[0] == []
    refine ⟨_, rfl, b, _, 0, .ref l, rfl, rfl, SqL.of h1, rfl, small0, fun p np => ?_⟩
    have npb : b ≠ p := ne_of_none h1 np
    have npl : l ≠ p := ne_of_none h2 np
    have g1 : (upd H p (.lst [])) b = some (.lst [.ref l, .int st]) := by rw [upd_ne npb]; exact h1
    have g2 : (upd H p (.lst [])) l = some (.lst (ns.map V.int)) := by rw [upd_ne npl]; exact h2
    have kp : KB b l H (upd H p (.lst [])) := fun c o e _ _ => by rw [upd_ne (ne_of_none e np)]; exact e
    refine ⟨.list (ns.map PyData.int), .list [], .lst (SqL.of g2) (dp_ints ns), .lst (SqL.of upd_same) .nil, shaped_of_ints ns, rfl, _, rfl, ?_⟩
    cases ns with
    | nil =>
      refine iteT ?_
      refine ⟨_, rfl, b, _, 1, .int st, rfl, rfl, SqL.of g1, rfl, st, 48271, rfl, rfl, .inr (by decide), _, _, rfl, rfl, nz (by decide), _, rfl, b, _, 1, 1, rfl, rfl, g1, rfl, ?_⟩
      refine ⟨_, rfl, b, _, 1, _, rfl, rfl, SqL.of upd_same, rfl, _, _, rfl, rfl, ⟨by decide, by decide⟩, _, rfl, _, _, rfl, rfl, nz (by omega), ?_⟩
      refine k _ _ (Int.fmod_nonneg_of_pos _ m0) (Int.fmod_lt_of_pos _ m0) ⟨[], _, upd_same, by rw [upd_ne nbl.symm]; exact g2, h3⟩ fun c o e hc hl => ?_
      rw [upd_ne hc]
      exact kp c o e hc hl
    | cons n ns =>
      refine iteF ?_
      refine ⟨_, rfl, b, _, 0, .ref l, rfl, rfl, SqL.of g1, rfl, l, _, 0, .int n, rfl, rfl, SqL.of g2, at0, ?_⟩
      refine ⟨_, rfl, _, rfl, n, many, rfl, rfl, wide_div m0 (show many.natAbs < 2 ^ 64 by omega) (by decide) (by decide), _, rfl, b, _, 0, .ref l, rfl, rfl, SqL.of g1, rfl, l, _, 0, 0, rfl, rfl, g2, ix0, ?_⟩
      have j1 : ∀ o, (upd (upd H p (.lst [])) l o) b = some (.lst [.ref l, .int st]) := fun o => by rw [upd_ne nbl]; exact g1
      have kl : ∀ o, KB b l H (upd (upd H p (.lst [])) l o) := fun o c u e hc hl => by rw [upd_ne hl]; exact kp c u e hc hl
      have fin : ∀ ms : List Int, ms.length ≤ 63 → Q (.int (n.fmod many)) (upd (upd H p (.lst [])) l (.lst (ms.map V.int))) := fun ms hm =>
        k _ _ (Int.fmod_nonneg_of_pos _ m0) (Int.fmod_lt_of_pos _ m0) ⟨ms, st, j1 _, upd_same, hm⟩ (kl _)
      have e0 : (List.map V.int (n :: ns)).set 0 (V.int (n / many)) = List.map V.int (n / many :: ns) := rfl
      rw [e0]
      -- == 0 or == -1
      refine ⟨_, rfl, b, _, 0, .ref l, rfl, rfl, SqL.of (j1 _), rfl, l, _, 0, .int (n / many), rfl, rfl, SqL.of upd_same, at0, rfl, _, rfl, ?_⟩
      have done : ∀ H', (∃ ms : List Int, ms.length ≤ 63 ∧ H' = upd (upd H p (.lst [])) l (.lst (ms.map V.int))) → ∃ v, ([some (V.ref b), some (V.int many), some (V.int n)] : L2.St)[2]? = some (some v) ∧ ∃ v_1, ([some (V.ref b), some (V.int many), some (V.int n)] : L2.St)[1]? = some (some v_1) ∧ ∃ i j, v = V.int i ∧ v_1 = V.int j ∧ j ≠ 0 ∧ Q (V.int (i.fmod j)) H' := fun H' ⟨ms, hm, e⟩ => by
        subst e
        exact ⟨_, rfl, _, rfl, n, many, rfl, rfl, nz (by omega), fin ms hm⟩
      have pop : ∀ Z : VK, (∀ y H', H' = upd (upd H p (.lst [])) l (.lst (ns.map V.int)) → Z y H') → rPopAt (.ref l) [.int 0] (upd (upd H p (.lst [])) l (.lst (List.map V.int (n / many :: ns)))) Z := fun Z hZ =>
        ⟨l, _, 0, 0, _, rfl, rfl, upd_same, by decide, by decide, by simp [seqIndex?], rfl, hZ _ _ (by rw [upd_upd]; rfl)⟩
      have h3' : ns.length ≤ 63 := by simp at h3; omega
      by_cases hz : n / many = 0
      · rw [decide_eq_true (show V.int (n / many) = V.int 0 by rw [hz])]
        refine iteT (iteT ⟨_, rfl, b, _, 0, .ref l, rfl, rfl, SqL.of (j1 _), rfl, .inl ⟨rfl, _, SqL.of upd_same⟩, pop _ fun y H' e => done H' ⟨ns, h3', e⟩⟩)
      · rw [decide_eq_false (show ¬ V.int (n / many) = V.int 0 from fun z => hz (by injection z))]
        refine iteF ⟨_, rfl, b, _, 0, .ref l, rfl, rfl, SqL.of (j1 _), rfl, l, _, 0, .int (n / many), rfl, rfl, SqL.of upd_same, at0, 1, rfl, rfl, _, rfl, ?_⟩
        refine ite2 (fun _ => ⟨_, rfl, b, _, 0, .ref l, rfl, rfl, SqL.of (j1 _), rfl, .inl ⟨rfl, _, SqL.of upd_same⟩, pop _ fun y H' e => done H' ⟨ns, h3', e⟩⟩) fun _ => ?_
        exact done _ ⟨n / many :: ns, h3, rfl⟩
end
end TG

namespace TG
open PySem PySem.Spec PyProof.Rows L2 NdefX GenW Gx Lv
section
variable {X : Cx} {P : Program} {w : World} {K : PySem.W.Frag} {mg : Str → Option Value} {base : Heap} {cs : List (Addr × Addr)}
theorem sp32 : V.str (" " : Str) = V.str ⟨#[32]⟩ := by decide +kernel
def Sg (z : Str) : Prop := ∀ c ∈ cl z, SgOk c
theorem Sg.app {x y : Str} (h1 : Sg x) (h2 : Sg y) : Sg (x ++ y) := fun c hc => by
  have hc : c ∈ cl (x ++ y) := hc
  rw [cl_app] at hc
  rcases List.mem_append.mp hc with h | h
  · exact h1 c h
  · exact h2 c h
theorem Sg.rep (n : Nat) : Sg (repS 32 n) := fun c hc => by
  have hc : c ∈ cl (repS 32 n) := hc
  rw [cl_repS] at hc
  rw [(List.mem_replicate.mp hc).2]
  unfold SgOk
  omega
theorem rep_len (c n : Nat) : (repS c n).length = n := by rw [len_cl, cl_repS, List.length_replicate]
theorem app_len2 (x y : Str) : (x ++ y).length = x.length + y.length := by rw [len_cl, cl_app, List.length_append, ← len_cl, ← len_cl]
theorem Sg.cut {z : Str} (h : Sg z) (lo hi : Option Int) : Sg (cutS z lo hi) := fun c hc => by
  refine h c ?_
  have hc : c ∈ (cutS z lo hi).cps.toList := hc
  unfold cutS at hc
  simp only at hc
  exact List.mem_of_mem_drop (List.mem_of_mem_take hc)
theorem cut_to (z : Str) (n : Nat) : (cutS z none (some (n : Int))).length ≤ n := by
  have : (cutS z none (some (n : Int))).cps.toList.length ≤ n := by
    unfold cutS
    simp only [List.length_take, List.length_drop, Array.length_toList]
    have := HT.sIx_nat (n := z.length) (d := z.length) (k := n)
    rw [this]
    omega
  simpa [Str.length] using this
theorem dw_nil : ∀ {l : List Nat}, l.dropWhile blk = [] → ∀ c ∈ l, blk c = true
  | [], _, c, hc => by cases hc
  | a :: l, h, c, hc => by
    rw [List.dropWhile_cons] at h
    by_cases e : blk a = true
    · rw [if_pos e] at h
      rcases List.mem_cons.mp hc with z | z
      · rw [z]; exact e
      · exact dw_nil h c z
    · rw [if_neg e] at h
      cases h
theorem str_eq {x y : Str} (h : cl x = cl y) : x = y := by
  obtain ⟨⟨p⟩⟩ := x
  obtain ⟨⟨q⟩⟩ := y
  have h : p = q := h
  rw [h]
theorem map_cl_inj : ∀ {a b : List Str}, a.map cl = b.map cl → a = b
  | [], [], _ => rfl
  | [], _ :: _, h => by cases h
  | _ :: _, [], h => by cases h
  | x :: a, y :: b, h => by
    rw [List.map_cons, List.map_cons] at h
    injection h with h1 h2
    have e : x = y := by
      obtain ⟨⟨p⟩⟩ := x
      obtain ⟨⟨q⟩⟩ := y
      have h1 : p = q := h1
      rw [h1]
    rw [e, map_cl_inj h2]
theorem sign_eq (d : Nat) : decide (V.str ⟨#[d]⟩ = V.str " ") = decide (d = 32) := by
  rw [sp32]
  by_cases h : d = 32
  · rw [decide_eq_true h, h, decide_eq_true rfl]
  · rw [decide_eq_false h, decide_eq_false]
    intro q
    injection q with q
    injection q with q
    have := congrArg Array.toList q
    simp at this
    exact h this
theorem cl_nil : cl ("" : Str) = [] := by decide +kernel
theorem len_nil : ("" : Str).length = 0 := by decide +kernel
def lamIf : Stmt → LamT
  | .If (.UnaryOp _ (.Call _ [.List [.Lambda p b sc _] _, _] _ _) _) _ _ _ => (p, b, sc)
  | _ => ({ posonlyargs := [], args := [], vararg := none, kwonlyargs := [], kw_defaults := [], kwarg := none, defaults := [] }, .Name "x" ⟨0, 0, 0, 0⟩, sc00)
def forBody : Stmt → List Stmt
  | .For _ _ b _ _ => b
  | _ => []
def stAt (l : List Stmt) (i : Nat) : Stmt := l.getD i (.Pass ⟨0, 0, 0, 0⟩)
theorem sg_text {z : Str} (h1 : z.length ≤ 200) (h2 : Sg z) : textB z 200 = true := by
  unfold textB
  rw [decide_eq_true (show (z.length : Int) ≤ 200 by omega), Bool.true_and, List.all_eq_true]
  intro c hc
  exact sgB_iff.mpr (h2 c hc)
theorem noText_str {H : Hp} {z : Str} (h : NoText K H (.str z)) : False := by
  obtain ⟨nm, ty, hk⟩ := h
  cases ty with
  | base t =>
    cases t
    revert hk
    decide +kernel
/-- texts, and what is no text however the heap grows -/
def Firm (K : PySem.W.Frag) (cs : List (Addr × Addr)) (H : Hp) (xs : List V) : Prop := ∀ v ∈ xs, (∃ z, v = .str z) ∨ ∀ H', Ex cs H H' → NoText K H' v
theorem Firm.ex {H H' : Hp} {xs : List V} (f : Firm K cs H xs) (x : Ex cs H H') : Firm K cs H' xs := fun v hv => by
  rcases f v hv with h | h
  · exact .inl h
  · exact .inr fun H2 x2 => h H2 (x.trans x2)
theorem Firm.stays {H : Hp} {xs : List V} (f : Firm K cs H xs) : Stays K cs H xs := fun v hv hn H' x => by
  rcases f v hv with ⟨z, rfl⟩ | h
  · exact (noText_str hn).elim
  · exact h H' x
theorem BadLn.ex {H H' : Hp} {xs : List V} {n : Nat} (b : BadLn K H xs n) (f : Firm K cs H xs) (x : Ex cs H H') : BadLn K H' xs n :=
  ⟨b.lt, b.n30, b.ok, by
    rcases b.bad with h | ⟨v, hv, h | h⟩
    · exact .inl h
    · exact .inr ⟨v, hv, .inl (f.stays v (List.mem_of_getElem? hv) h H' x)⟩
    · exact .inr ⟨v, hv, .inr h⟩⟩
theorem told_upd {H : Hp} {cl : List (Addr × Obj)} {D : Addr} {o : HO} (h : cl.lookup D = none) : ∀ c u, cl.lookup c = some u → upd (addC H cl) D o c = some (cellF u) := fun c u e => by
  rw [upd_ne (fun z => by rw [z, h] at e; cases e)]
  exact addC_in e
theorem told_ex {H H' : Hp} {cl : List (Addr × Obj)} (x : Ex cs (addC H cl) H') : ∀ c o, cl.lookup c = some o → H' c = some (cellF o) := fun c o e => x.ext _ _ (addC_in e) fun ps z => by cases z
def repW (z : Str) (n : Nat) : Str := ⟨(List.replicate n z.cps).foldl (· ++ ·) #[]⟩
def rRepW : V → V → Hp → VK → Prop := fun x y H Q => ∃ (z : Str) (n : Int), x = .str z ∧ y = .int n ∧ 2 ≤ n ∧ n ≤ 200 ∧ 1 ≤ z.length ∧ z.length ≤ 5 ∧ Q (.str (repW z n.toNat)) H
theorem foldl_len : ∀ (n : Nat) (z acc : Array Nat), ((List.replicate n z).foldl (· ++ ·) acc).size = acc.size + n * z.size
  | 0, z, acc => by simp
  | n + 1, z, acc => by
    rw [List.replicate_succ, List.foldl_cons, foldl_len n z (acc ++ z), Array.size_append, Nat.succ_mul]
    omega
theorem repW_len (z : Str) (n : Nat) : (repW z n).length = n * z.length := by
  have h := foldl_len n z.cps #[]
  have e : (repW z n).length = ((List.replicate n z.cps).foldl (· ++ ·) #[]).size := rfl
  rw [e, h]
  show (#[] : Array Nat).size + n * z.cps.size = n * z.length
  simp [Str.length]
theorem op_repW : OpR X (binaryOp .Mult) rRepW := by
  intro pins s σ H x y v u Q I rx ry h
  obtain ⟨z, n, rfl, rfl, h0, h1, h2, h3, q⟩ := h
  obtain ⟨t, rfl⟩ := rx
  obtain ⟨t', rfl⟩ := ry
  have szl : (1000 : Nat) < sizeLine := by decide
  have hm : z.length * n.toNat ≤ 1000 := by
    have := Nat.mul_le_mul h3 (show n.toNat ≤ 200 by omega)
    omega
  have hn1 : ¬ n < 1 := by omega
  have hc : (n == 1 || z.length == 0) = false := by
    rw [Bool.or_eq_false_iff]
    exact ⟨by simp; omega, by simp; omega⟩
  refine PySem.P.mul_str ?_ (fun _ _ => ?_) (fun _ _ => ?_) ?_
  · rw [decide_eq_false (by omega), decide_eq_false (by omega)]
    rfl
  · have : (5 : Int) ≤ (2 ^ 63 - 1) / n := Int.le_ediv_of_mul_le (by omega) (by omega)
    omega
  · exact decide_eq_false (by omega)
  · rw [if_neg hn1, if_neg (by rw [hc]; exact Bool.false_ne_true)]
    have hl : (repW z n.toNat).length ≤ sizeLine := by
      rw [repW_len, Nat.mul_comm]
      omega
    exact ⟨hl, .str (repW z n.toNat), H, I.tok _, ⟨_, rfl⟩, q⟩
structure LnsAt (b l : Addr) (H : Hp) (D : Addr) (i : Nat) (H' : Hp) : Prop where
  box : BoxAt H' b l
  keep : KB b l H H'
  nD : H D = none
  db : D ≠ b
  dl : D ≠ l
  lns : ∃ zs : List Str, zs.length = i ∧ (∀ z ∈ zs, z.length ≤ 200 ∧ Sg z) ∧ H' D = some (.lst (sV zs))
theorem LnsAt.start {b l : Addr} {H H1 : Hp} {D : Addr} (hB : BoxAt H1 b l) (x : KB b l H H1) (n : H1 D = none) : LnsAt b l H D 0 (upd H1 D (.lst [])) := by
  obtain ⟨d1, d2⟩ := new_ne hB n
  have nD : H D = none := by
    cases e : H D with
    | none => rfl
    | some o => rw [x D o e d1 d2] at n; cases n
  exact ⟨box_new hB n, kb_upd x nD, nD, d1, d2, [], rfl, fun c h => by simp at h, upd_same⟩
theorem LnsAt.more {b l : Addr} {H H1 H2 : Hp} {D : Addr} {i : Nat} {z : Str} (o : LnsAt b l H D i H1) (hz : z.length ≤ 200 ∧ Sg z) (hB : BoxAt H2 b l) (x : KB b l H1 H2) :
    ∃ acc, H2 D = some (.lst acc) ∧ acc.length = i ∧ LnsAt b l H D (i + 1) (upd H2 D (.lst (acc ++ [.str z]))) := by
  obtain ⟨zs, h1, h2, h3⟩ := o.lns
  refine ⟨_, x D _ h3 o.db o.dl, by rw [List.length_map, h1], box_upd hB o.db o.dl, kb_upd (o.keep.trans x) o.nD, o.nD, o.db, o.dl, zs ++ [z], by rw [List.length_append, h1]; rfl, fun d hd => ?_, ?_⟩
  · rcases List.mem_append.mp hd with h | h
    · exact h2 d h
    · rw [List.mem_singleton.mp h]; exact hz
  · rw [upd_same]
    simp [sV]
theorem dok_parts {rows : List (List Str)} (hl : rows.length ≤ 9000) (h : ∀ r ∈ rows, r.length ≤ 9000) : dok (.list (rowsD rows)) = true := by
  have key : ∀ rs : List (List Str), (∀ r ∈ rs, r.length ≤ 9000) → dokAll (rowsD rs) = true := by
    intro rs
    induction rs with
    | nil => intro _; rfl
    | cons r rs ih =>
      intro h
      have h1 := h r List.mem_cons_self
      show dokAll (PyData.tuple (r.map .str) :: rowsD rs) = true
      simp only [dokAll, dok, Bool.and_eq_true, decide_eq_true_eq, List.length_map]
      exact ⟨⟨h1, dokAll_strs r⟩, ih fun q hq => h q (List.mem_cons_of_mem _ hq)⟩
  show (decide ((rowsD rows).length ≤ 9000) && dokAll (rowsD rows)) = true
  rw [key rows h, Bool.and_true, decide_eq_true_eq]
  unfold rowsD
  rw [List.length_map]
  exact hl
theorem cut_from (xs : List V) (n : Nat) : cutV xs (some ((n : Nat) : Int)) none = xs.drop n := by
  unfold cutV
  rw [HT.sIx_none, HT.sIx_nat]
  by_cases h : n ≤ xs.length
  · rw [Nat.min_eq_left h, List.take_of_length_le]
    rw [List.length_drop]
    exact Nat.le_refl _
  · rw [Nat.min_eq_right (by omega), Nat.sub_self, List.take_zero, List.drop_eq_nil_of_le (by omega)]
end
end TG

namespace TG
/-! ### stretches of places that differ, as long as no more than two like ones lie between -/
/-- begin and last place of each, of the first n places -/
def runsF (D : Nat → Bool) : Nat → List (Nat × Nat)
  | 0 => []
  | k + 1 => if D k then (match (runsF D k).getLast? with
      | some (b, l) => if k ≤ l + 3 then (runsF D k).dropLast ++ [(b, k)] else runsF D k ++ [(k, k)]
      | none => [(k, k)]) else runsF D k
theorem runsF_no {D : Nat → Bool} {k : Nat} (h : D k = false) : runsF D (k + 1) = runsF D k := by
  unfold runsF
  rw [if_neg (by rw [h]; exact Bool.false_ne_true)]
  cases k <;> rfl
theorem runsF_first {D : Nat → Bool} {k : Nat} (h : D k = true) (e : runsF D k = []) : runsF D (k + 1) = [(k, k)] := by
  rw [runsF, if_pos h, e]
  rfl
theorem runsF_on {D : Nat → Bool} {k b l : Nat} {F : List (Nat × Nat)} (h : D k = true) (e : runsF D k = F ++ [(b, l)]) (g : k ≤ l + 3) : runsF D (k + 1) = F ++ [(b, k)] := by
  rw [runsF, if_pos h, e, List.getLast?_concat]
  show (if k ≤ l + 3 then _ else _) = _
  rw [if_pos g, List.dropLast_concat]
theorem runsF_off {D : Nat → Bool} {k b l : Nat} {F : List (Nat × Nat)} (h : D k = true) (e : runsF D k = F ++ [(b, l)]) (g : ¬ k ≤ l + 3) : runsF D (k + 1) = (F ++ [(b, l)]) ++ [(k, k)] := by
  rw [runsF, if_pos h, e, List.getLast?_concat]
  show (if k ≤ l + 3 then _ else _) = _
  rw [if_neg g]
theorem runsF_past {D : Nat → Bool} {L : Nat} (h : ∀ k, L ≤ k → D k = false) : ∀ n, L ≤ n → runsF D n = runsF D L
  | 0, hn => by rw [Nat.le_zero.mp hn]
  | n + 1, hn => by
    by_cases e : L = n + 1
    · rw [e]
    · rw [runsF_no (h n (by omega))]
      exact runsF_past h n (by omega)
theorem runsF_eq {D D' : Nat → Bool} : ∀ {n : Nat}, (∀ k, k < n → D k = D' k) → runsF D n = runsF D' n
  | 0, _ => rfl
  | n + 1, h => by
    have ih := runsF_eq (D := D) (D' := D') (n := n) fun k hk => h k (by omega)
    rw [runsF, runsF, ih, h n (by omega)]
/-- each lies within, and is no wider than what lies ahead of n -/
theorem runsF_in {D : Nat → Bool} : ∀ (n : Nat) (p : Nat × Nat), p ∈ runsF D n → p.1 ≤ p.2 ∧ p.2 < n
  | 0, p, h => nomatch h
  | n + 1, p, h => by
    have ih := runsF_in (D := D) n
    have wk : ∀ q ∈ runsF D n, q.1 ≤ q.2 ∧ q.2 < n + 1 := fun q hq => ⟨(ih q hq).1, Nat.lt_succ_of_lt (ih q hq).2⟩
    cases hD : D n with
    | false => rw [runsF_no hD] at h; exact wk p h
    | true =>
      cases hl : (runsF D n).getLast? with
      | none =>
        rw [List.getLast?_eq_none_iff] at hl
        rw [runsF_first hD hl] at h
        rw [List.mem_singleton.mp h]
        exact ⟨Nat.le_refl _, Nat.lt_succ_self _⟩
      | some q =>
        obtain ⟨F, e⟩ := List.getLast?_eq_some_iff.mp hl
        obtain ⟨b, l⟩ := q
        by_cases g : n ≤ l + 3
        · rw [runsF_on hD e g] at h
          rcases List.mem_append.mp h with h | h
          · exact wk p (by rw [e]; exact List.mem_append_left _ h)
          · rw [List.mem_singleton.mp h]
            have := ih (b, l) (by rw [e]; exact List.mem_append_right _ (List.mem_singleton.mpr rfl))
            exact ⟨by show b ≤ n; have h1 := this.1; have h2 := this.2; simp only at h1 h2; omega, Nat.lt_succ_self _⟩
        · rw [runsF_off hD e g] at h
          rcases List.mem_append.mp h with h | h
          · exact wk p (by rw [e]; exact h)
          · rw [List.mem_singleton.mp h]
            exact ⟨Nat.le_refl _, Nat.lt_succ_self _⟩
theorem runsF_len {D : Nat → Bool} : ∀ n : Nat, (runsF D n).length ≤ n
  | 0 => Nat.le_refl _
  | n + 1 => by
    have ih := runsF_len (D := D) n
    cases hD : D n with
    | false => rw [runsF_no hD]; omega
    | true =>
      cases hl : (runsF D n).getLast? with
      | none =>
        rw [List.getLast?_eq_none_iff] at hl
        rw [runsF_first hD hl]
        show 1 ≤ n + 1
        omega
      | some q =>
        obtain ⟨F, e⟩ := List.getLast?_eq_some_iff.mp hl
        obtain ⟨b, l⟩ := q
        rw [e, List.length_append, List.length_singleton] at ih
        by_cases g : n ≤ l + 3
        · rw [runsF_on hD e g, List.length_append, List.length_singleton]; omega
        · rw [runsF_off hD e g, List.length_append, List.length_append, List.length_singleton, List.length_singleton]; omega
/-- the other way to find them: what is closed, what is open -/
def OpenF (D : Nat → Bool) (k : Nat) (F : List (Nat × Nat)) : Option (Nat × Nat) → Prop
  | some p => runsF D k = F ++ [p]
  | none => runsF D k = F ∧ ∀ F' b l, F = F' ++ [(b, l)] → l + 3 < k
theorem OpenF.start {D : Nat → Bool} : OpenF D 0 [] none := ⟨rfl, fun F' b l e => by cases F' <;> cases e⟩
theorem OpenF.shut {D : Nat → Bool} {k b l : Nat} {F : List (Nat × Nat)} (o : OpenF D k F (some (b, l))) (h : l + 3 < k) : OpenF D k (F ++ [(b, l)]) none :=
  ⟨o, fun F' b' l' e => by
    have := (List.append_inj' e rfl).2
    cases this
    exact h⟩
theorem OpenF.like {D : Nat → Bool} {k : Nat} {F : List (Nat × Nat)} {p : Option (Nat × Nat)} (o : OpenF D k F p) (h : D k = false) : OpenF D (k + 1) F p := by
  cases p with
  | some p =>
    show runsF D (k + 1) = _
    rw [runsF_no h]
    exact o
  | none =>
    obtain ⟨a, b⟩ := o
    exact ⟨by rw [runsF_no h]; exact a, fun F' b' l e => Nat.lt_succ_of_lt (b F' b' l e)⟩
theorem OpenF.more {D : Nat → Bool} {k b l : Nat} {F : List (Nat × Nat)} (o : OpenF D k F (some (b, l))) (h : D k = true) (g : ¬ l + 3 < k) : OpenF D (k + 1) F (some (b, k)) := runsF_on h o (by omega)
theorem OpenF.new {D : Nat → Bool} {k : Nat} {F : List (Nat × Nat)} (o : OpenF D k F none) (h : D k = true) : OpenF D (k + 1) F (some (k, k)) := by
  obtain ⟨a, b⟩ := o
  show runsF D (k + 1) = _
  cases hl : F.getLast? with
  | none =>
    rw [List.getLast?_eq_none_iff] at hl
    rw [hl] at a ⊢
    exact runsF_first h a
  | some q =>
    obtain ⟨F', e⟩ := List.getLast?_eq_some_iff.mp hl
    obtain ⟨b', l⟩ := q
    have := b F' b' l e
    rw [runsF_off h (a.trans e) (by omega), e]
end TG

namespace EnT
open PySem PySem.Spec PyProof.Rows L2
/-! ### enumerate over a tuple -/
theorem newClass_enum (v : Value) : Builtin.SmallTypes.newClass "enumerate" { pos := [Value.type "enumerate", v] } = pure (Value.type "enumerate", [v]) := by
  simp [Builtin.SmallTypes.newClass, show isType (Value.type "enumerate") = pure true from rfl, sub_enumerate]
theorem meets_enum1 (v : Value) (o : Obj) (H : Heap → Prop) (b : Begins v o H) : Meets (Builtin.«enumerate.__new__» { pos := [Value.type "enumerate", v] }) fun _ R s =>
    H s.heap ∧ R (Except.ok (Flow.ret (Value.ref (s.heap.push o).objs.size))) { heap := (s.heap.push o).push { cls := Value.type "enumerate", data := Data.fields #[Value.none, Value.bool false, Value.ref s.heap.objs.size, rawInt 0, Value.none, Value.none] }, gens := s.gens, drawn := s.drawn, toks := s.toks, os := s.os } := by
  intro prog w A R s ⟨h1, h2⟩
  unfold Builtin.«enumerate.__new__»
  rw [newClass_enum]
  refine wpAny_bind (wpAny_pure ?_)
  simp only [beq_self_eq_true, if_true]
  have key : ∀ s' : Shared, s' = s → wpAny (model prog w) A.in1 (do
      let __do_lift ← pyIter v
      let __do_lift ← Builtin.SmallTypes.newRecord (Value.type "enumerate") (Builtin.SmallTypes.ownedTupleFields ++ [__do_lift, rawInt 0, Value.none, Value.none])
      ret __do_lift) (fun fin s' => match fin with
          | Fin.done f => R (Except.ok f) s'
          | Fin.again c' => c'.quiet = true ∧ codeAny (model prog w) A c' R s') (fun e s' => R (Except.error e) s') s' := by
    rintro s' rfl
    refine wpAny_bind (b.iter prog w A.in1 _ s' _ h1 (wpAny_bind ?_))
    refine wpAny_newObj_type (T := "enumerate") (data := Data.fields #[Value.none, Value.bool false, Value.ref s'.heap.objs.size, rawInt 0, Value.none, Value.none]) (dict := none) ?_
    exact wpAny_pure h2
  refine wpAny_bind ?_
  unfold Builtin.SmallTypes.calledThroughType
  refine wpAny_bind (wpAny_stack fun st _ _ _ => ?_)
  refine wpAny_pure ?_
  exact iteInduction (motive := fun m => wpAny (model prog w) A.in1 m _ _ s) (fun _ => key s rfl) (fun _ => key s rfl)
theorem ao1 (obj v : Value) : argsOk "object.__init__" { pos := obj :: [v] } := by
  constructor <;> rfl
theorem call_enum1 {prog : Program} {w : World} {A : Around} {E : Value → Shared → Prop} {s : Shared} {v : Value} {o : Obj} {H : Heap → Prop} {Q : Value → Shared → Prop} (b : Begins v o H) (h : H s.heap)
    (k : ∀ h' : Heap, IsEnum h' (s.heap.objs.size + 1) s.heap.objs.size 0 Value.none → h'.get? s.heap.objs.size = some o → h'.objs.size = s.heap.objs.size + 2 → (∀ (b : Addr) (o : Obj), s.heap.get? b = some o → h'.get? b = some o) →
      Q (.ref (s.heap.objs.size + 1)) { s with heap := h' }) : wpAny (model prog w) A (call (Value.type "enumerate") [v]) Q E s := by
  have e1 : (s.heap.push o).objs.size = s.heap.objs.size + 1 := Array.size_push ..
  refine callType_new F.called_enumerate (by decide) (F.typeCall_enumerate_1 v) (F.newCall_enumerate_1 v) (fun obj => ao1 obj v) F.entry_enumerate_new (meets_enum1 v o H b) ⟨h, ?_⟩
  have n1 : ∀ (b : Addr) (u : Obj), s.heap.get? b = some u → (s.heap.push o).get? b = some u := fun b u q => Heap.get?_push_of_some _ q
  have g1 : (s.heap.push o).get? s.heap.objs.size = some o := Heap.get?_push_size _ b.free
  have g2 : ((s.heap.push o).push { cls := Value.type "enumerate", data := Data.fields #[Value.none, Value.bool false, Value.ref s.heap.objs.size, rawInt 0, Value.none, Value.none] }).get? (s.heap.push o).objs.size = some { cls := Value.type "enumerate", data := Data.fields #[Value.none, Value.bool false, Value.ref s.heap.objs.size, rawInt 0, Value.none, Value.none] } := Heap.get?_push_size _ rfl
  refine ⟨⟨_, g2, rfl⟩, ?_⟩
  rw [e1] at g2 ⊢
  exact k _ g2 (Heap.get?_push_of_some _ g1) (by show (Array.push _ _).size = _; rw [Array.size_push]; show (s.heap.objs.push o).size + 1 = _; rw [Array.size_push]) fun b u q => Heap.get?_push_of_some _ (n1 b u q)
/-- as Ite, over a tuple -/
def Itet (K : PySem.W.Frag) (a : Addr) : It where
  go := fun i H => ∃ xs x, SqT K H a xs ∧ xs[i]? = some x
  yld := fun i H v H' => ∃ (T : Addr) (x : V), v = .ref T ∧ H T = none ∧ H' = upd H T (.tup [.int (i : Nat), x]) ∧ ∀ xs : List V, SqT K H a xs → xs[i]? = some x
  stop := fun i H => ∃ xs, SqT K H a xs ∧ xs.length = i
theorem vals_get {xs : List V} {us : List Value} (h : Vals xs us) : ∀ {i : Nat} {x : V} {u : Value}, xs[i]? = some x → us.toArray[i]? = some u → RelV x u := by
  induction h with
  | nil => intro i x u e _; cases e
  | cons r _ ih =>
    intro i x u e1 e2
    cases i with
    | zero =>
      simp at e1 e2
      rw [← e1, ← e2]
      exact r
    | succ i =>
      simp at e1 e2
      exact ih e1 (by simpa using e2)
theorem turn_enumT {P : Program} {w : World} {K : PySem.W.Frag} {elts : List Expr} {kk : Nat} {tpos : Pos} (a e it : Addr) (nei : e ≠ it) (nai : a ≠ it) (nae : a ≠ e) :
    Turn P w K (.Tuple elts kk tpos) (Itet K a) [e, it] e fun i h => (∃ old, IsEnum h e it (i : Nat) old) ∧ h.IsTupleIter it a i := by
  have hni : e ∉ [it, a] := fun z => by
    simp only [List.mem_cons, List.not_mem_nil, or_false] at z
    rcases z with z | z
    · exact nei z
    · exact nae z.symm
  refine ⟨List.mem_cons_self, fun i h hh b hb => ?_, fun i h h' hh k => ?_, ?_, ?_, fun A i s Q E hh q => ?_⟩
  · obtain ⟨⟨old, h1⟩, o, h2, h3, h4⟩ := hh
    simp only [List.mem_cons, List.not_mem_nil, or_false] at hb
    rcases hb with rfl | rfl
    · exact ⟨_, h1, fun v z => by cases z⟩
    · exact ⟨o, h2, fun v z => by rw [h4] at z; cases z⟩
  · obtain ⟨⟨old, h1⟩, o, h2, h3⟩ := hh
    exact ⟨⟨old, k e (by simp) _ h1⟩, o, k it (by simp) _ h2, h3⟩
  · intro X hP hw hK hc i pins s σ H E I hfp hh hgo
    subst hP hw hK
    obtain ⟨⟨old, hE⟩, hI⟩ := hh
    obtain ⟨xs, x, hS, hx⟩ := hgo
    obtain ⟨its, hv, ht, hl⟩ := I.tuple hS
    have W := WalksT.enumerateD (Draws.tuple (prog := X.prog) (w := X.w) (A := X.A.in1) (I.ok.hd hc) it a nai its.toArray) e nei hni (by simp)
    have hlen := hv.length
    have hi : i < xs.length := (List.getElem?_eq_some_iff.mp hx).1
    refine W.item i s _ E (by simp; omega) ⟨⟨old, hE⟩, hI, ht⟩ fun T vals h' tk hPt hsz hT hMid hk => ⟨_, rfl, ?_⟩
    refine W.go elts kk tpos i T _ _ E hMid fun h'' hSt hk2 => ?_
    obtain ⟨t, u, hu, rfl⟩ := hPt
    have hTn : H T = none := I.hok.fresh hsz
    have hTw := W.apart i T h' hMid
    have hT2 : h''.IsTuple T #[.int (i : Nat) t, u] := by
      obtain ⟨o, q1, q2⟩ := hT
      exact ⟨o, hk2 T o hTw q1, q2⟩
    refine ⟨.ref T, upd H T (.tup [.int (i : Nat), x]), I.turnedNew (ch := [e, it]) (fun b o hb q => hk2 b o hb (hk b o hb q)) hfp hsz ?_, rfl, ⟨T, x, rfl, hTn, rfl, fun ys hy => ?_⟩, ⟨hSt.1, hSt.2.1⟩, fun b hb => ?_⟩
    · simp only [ObjOk]
      exact ⟨by show 2 ≤ sizeLine; decide, [_, _], .cons ⟨t, rfl⟩ (.cons (vals_get hv hx hu) .nil), hT2⟩
    · rw [I.tuple_inj hy hS]; exact hx
    · rw [upd_ne fun z : b = T => hTw (by rw [← z]; exact hb)]
      exact (hfp b hb).1
  · intro X hP hw hK hc i pins s σ H E I hfp hh hst
    subst hP hw hK
    obtain ⟨⟨old, hE⟩, hI⟩ := hh
    obtain ⟨xs, hS, rfl⟩ := hst
    obtain ⟨its, hv, ht, hl⟩ := I.tuple hS
    have W := WalksT.enumerateD (Draws.tuple (prog := X.prog) (w := X.w) (A := X.A.in1) (I.ok.hd hc) it a nai its.toArray) e nei hni (by simp)
    have hlen := hv.length
    have en : its.toArray.size = xs.length := by simp; omega
    rw [en] at W
    exact W.done s _ E ⟨⟨old, hE⟩, hI, ht⟩ fun h' tk hk => ⟨rfl, I.turnedL (ch := [e, it]) hk hfp⟩
  · obtain ⟨⟨old, hE⟩, _⟩ := hh
    exact wpAny_pyIter_enum hE q
def iEnumT (K : PySem.W.Frag) (te : TE) : TI := fun σ H R => te σ H fun v H1 => ∃ a xs, v = .ref a ∧ SqT K H1 a xs ∧ R (Itet K a) H1
theorem pi_enumT {X : Cx} {e : Expr} {te : TE} {p pos tpos : Pos} {elts : List Expr} {kk : Nat} (hg : Gl X "enumerate") (hm : X.mg "enumerate" = none) (he : PE X e te) (hs : starEach [e] X.env = [(false, eval e X.env)] := by rfl) :
    PI X (.Tuple elts kk tpos) (.Call (.Name "enumerate" p) [e] [] pos) (iEnumT X.K te) := by
  refine ⟨fun pins s σ H R I h => ?_⟩
  refine wpAny_Call_Name_kw (ld_blt I hg hm boot_enumerate ?_)
  rw [hs]
  refine callWith_type1 (thn (he.run pins s σ H _ I h) fun v s1 ⟨x, H1, I1, r, a, xs, ex, hS, hR⟩ => ?_)
  subst ex
  obtain rfl : v = .ref a := r
  obtain ⟨its, hv, ht, hl⟩ := I1.tuple hS
  refine call_enum1 (begins_tuple a its.toArray) ht fun h' hE hit hsz hk => ?_
  have ha : a < s1.heap.objs.size := by
    obtain ⟨o, q, _⟩ := ht
    exact Heap.lt_size q
  refine wpAny_pyIter_enum hE ⟨s1.heap.objs.size + 1, [s1.heap.objs.size + 1, s1.heap.objs.size], _, Itet X.K a, H1, rfl, I1.kept hk, turn_enumT a (s1.heap.objs.size + 1) s1.heap.objs.size (Nat.succ_ne_self _) (Nat.ne_of_lt ha) (Nat.ne_of_lt (Nat.lt_succ_of_lt ha)), ⟨⟨_, hE⟩, _, hit, rfl, rfl⟩, fun b hb => ?_, hR⟩
  simp only [List.mem_cons, List.not_mem_nil, or_false] at hb
  rcases hb with rfl | rfl
  · exact I1.fpOk (Nat.le_succ _) (I1.hok.fresh (Nat.le_succ _))
  · exact I1.fpOk (Nat.le_refl _) (I1.hok.fresh (Nat.le_refl _))
theorem walk_enumT {K : PySem.W.Frag} {a : Addr} {xs : List V} : Walk (Itet K a) xs.length (fun H => SqT K H a xs) (YPair (fun i => some (.int (i : Nat))) fun i => xs[i]?) := by
  refine ⟨fun i H hi h => ?_, fun H h => ⟨xs, h, rfl⟩, fun i H x H' hi h hy => ?_⟩
  · exact ⟨xs, xs[i], h, List.getElem?_eq_getElem hi⟩
  · obtain ⟨T, v, rfl, hn, rfl, hx⟩ := hy
    exact ⟨T, _, v, rfl, hn, rfl, rfl, hx xs h⟩
end EnT

namespace EnT
open PySem PySem.Spec PyProof.Rows L2
/-! ### enumerate(zip(xs, ys)) over two lists -/
section
variable {prog : Program} {w : World} {A : Around} {E : Value → Shared → Prop} {s : Shared}
abbrev ZipU (h : Heap) (z TI TO : Addr) (p q : Value) : Prop := h.get? z = some { cls := .type "zip", dict := none, data := .fields #[p, q, .bool false, .ref TI, .ref TO], slots := #[] }
/-- a zip between two turns: its tuple is in, or out (and perhaps let go) -/
def ZipAt (h : Heap) (z TI TO i1 i2 l1 l2 : Addr) (i : Nat) : Prop := (ZipU h z TI TO .none (.bool false) ∨ ∃ (T : Addr) (f : Bool), ZipU h z TI TO (rawInt T) (.bool f)) ∧ IsPair h TI (.ref i1) (.ref i2) ∧ (∃ x y, IsPair h TO x y) ∧ h.IsListIter i1 l1 i ∧ h.IsListIter i2 l2 i
theorem tuple_gone {z TI TO T : Addr} {f : Bool} {R : Bool → Shared → Prop} (zz : ZipU s.heap z TI TO (rawInt T) (.bool f)) (no : s.heap.get? T = none) (k : R true s) : wpAny (model prog w) A (Builtin.SmallTypes.ownedTupleIsFree (.ref z)) R E s := by
  unfold Builtin.SmallTypes.ownedTupleIsFree
  refine wpAny_bind (wpAny_field zz rfl (x := rawInt T) rfl ?_)
  show wpAny _ _ (loadIfAlive ((T : Int).toNat) >>= _) _ _ s
  rw [Int.toNat_natCast]
  have gone : ∀ {R' : Option Obj → Shared → Prop}, R' none s → wpAny (model prog w) A (loadIfAlive T) R' E s := fun {R'} q => by
    have q' : R' (s.heap.get? T) s := by rw [no]; exact q
    exact fun _ _ _ => q'
  refine wpAny_bind (gone ?_)
  simp only [Option.isNone_none, if_true]
  exact wpAny_pure k
theorem zip_item_any {z TI TO i1 i2 l1 l2 : Addr} {k1 k2 : Nat} {xs ys : Array Value} {x y a b p q : Value} {Q : Value → Shared → Prop} (D : ZipApart z TI TO i1 i2 l1 l2)
    (zz : ZipU s.heap z TI TO p q) (fr : ∀ R : Bool → Shared → Prop, R true s → wpAny (model prog w) A (Builtin.SmallTypes.ownedTupleIsFree (.ref z)) R E s) (pI : IsPair s.heap TI (.ref i1) (.ref i2)) (pO : IsPair s.heap TO a b)
    (t1 : s.heap.IsListIter i1 l1 k1) (t2 : s.heap.IsListIter i2 l2 k2) (m1 : s.heap.IsList l1 xs) (m2 : s.heap.IsList l2 ys) (gx : xs[k1]? = some x) (gy : ys[k2]? = some y)
    (hQ : ∀ h', IsZip h' z TI TO (rawInt s.heap.objs.size) → IsPair h' TO x y → h'.IsListIter i1 l1 (k1 + 1) → h'.IsListIter i2 l2 (k2 + 1) → IsPair h' s.heap.objs.size x y → h'.objs.size = s.heap.objs.size + 1 →
      (∀ c o, c ≠ z → c ≠ TO → c ≠ i1 → c ≠ i2 → s.heap.get? c = some o → h'.get? c = some o) → Q (.ref s.heap.objs.size) { s with heap := h' }) :
    wpAny (model prog w) A (Builtin.«zip.__next__» ⟨[.ref z], []⟩) (fun fin s' => ∃ v, fin = .done (.ret v) ∧ Q v s') E s := by
  show wpAny _ _ (field (.ref z) 2 >>= _) _ _ s
  refine wpAny_bind (wpAny_field zz rfl (x := .bool false) rfl ?_)
  show wpAny _ _ (field (.ref z) 3 >>= _) _ _ s
  refine wpAny_bind (wpAny_field zz rfl (x := .ref TI) rfl ?_)
  refine wpAny_bind (wpAny_seqItems pI rfl ?_)
  show wpAny _ _ (Builtin.SmallTypes.ownedTupleIsFree (.ref z) >>= _) _ _ s
  refine wpAny_bind (fr _ ?_)
  simp only [if_true]
  refine wpAny_bind (wpAny_rule (wpAny_bind (wpAny_field zz rfl (x := .ref TO) rfl ?_)))
  refine wpAny_bind (wpAny_setField_rec zz (by simp) fun g1 z1 s1 => ?_)
  replace z1 : ZipU g1 z TI TO .ellipsis q := z1
  refine wpAny_bind ?_
  simp only [List.zipIdx_cons, List.zipIdx_nil, List.forIn_cons, List.forIn_nil]
  refine wpAny_bind (wpAny_bind (wpAny_onRaise ?_))
  show wpAny _ _ (Builtin.SmallTypes.nextOf (.ref i1) >>= _) _ _ { s with heap := g1 }
  refine wpAny_bind (wpAny_nextOf_list_item (s := { s with heap := g1 }) (t1.extBut s1.extBut D.i1z) (m1.extBut s1.extBut D.l1z) gx fun g2 u1 s2 => wpAny_pure ?_)
  have o2 : IsPair g2 TO a b := s2.extBut _ _ D.TOi1 (s1.extBut _ _ D.TOz pO)
  refine wpAny_bind (wpAny_seqItems (s := { s with heap := g2 }) o2 rfl (wpAny_bind (wpAny_updateSeq_pair (s := { s with heap := g2 }) o2 fun g3 o3 s3 => ?_)))
  replace o3 : IsPair g3 TO x b := o3
  refine wpAny_bind (wpAny_letGo (wpAny_pure (wpAny_bind (wpAny_bind (wpAny_onRaise ?_)))))
  show wpAny _ _ (Builtin.SmallTypes.nextOf (.ref i2) >>= _) _ _ { s with heap := g3 }
  refine wpAny_bind (wpAny_nextOf_list_item (s := { s with heap := g3 }) (((t2.extBut s1.extBut D.i2z).extBut s2.extBut D.i12.symm).extBut s3.extBut D.TOi2.symm) (((m2.extBut s1.extBut D.l2z).extBut s2.extBut D.l2i1).extBut s3.extBut D.l2TO) gy fun g4 u2 s4 => wpAny_pure ?_)
  have o4 : IsPair g4 TO x b := s4.extBut _ _ D.TOi2 o3
  refine wpAny_bind (wpAny_seqItems (s := { s with heap := g4 }) o4 rfl (wpAny_bind (wpAny_updateSeq_pair (s := { s with heap := g4 }) o4 fun g5 o5 s5 => ?_)))
  replace o5 : IsPair g5 TO x y := o5
  refine wpAny_bind (wpAny_letGo (wpAny_pure (wpAny_pure (wpAny_bind (wpAny_seqItems (s := { s with heap := g5 }) o5 rfl (wpAny_bind (wpAny_newTuple ?_)))))))
  have z5 : ZipU g5 z TI TO .ellipsis q := s5.extBut _ _ D.TOz.symm (s4.extBut _ _ D.i2z.symm (s3.extBut _ _ D.TOz.symm (s2.extBut _ _ D.i1z.symm z1)))
  have sz5 : g5.objs.size = s.heap.objs.size := by rw [s5.1, s4.1, s3.1, s2.1, s1.1]
  have up5 : ∀ c o, c ≠ z → c ≠ TO → c ≠ i1 → c ≠ i2 → s.heap.get? c = some o → g5.get? c = some o := fun c o c1 c2 c3 c4 e => s5.extBut _ _ c2 (s4.extBut _ _ c4 (s3.extBut _ _ c2 (s2.extBut _ _ c3 (s1.extBut _ _ c1 e))))
  have v1 : g5.IsListIter i1 l1 (k1 + 1) := ((u1.extBut s3.extBut D.TOi1.symm).extBut s4.extBut D.i12).extBut s5.extBut D.TOi1.symm
  have v2 : g5.IsListIter i2 l2 (k2 + 1) := u2.extBut s5.extBut D.TOi2.symm
  have ltz : z < g5.objs.size := Heap.lt_size z5
  show wpAny _ _ (Builtin.SmallTypes.ownedTupleHandOut (.ref z) (.ref g5.objs.size) >>= _) _ _ { s with heap := g5.push { cls := .type "tuple", data := .seq #[x, y] } }
  refine wpAny_bind ?_
  unfold Builtin.SmallTypes.ownedTupleHandOut
  have z6 : ZipU (g5.push { cls := .type "tuple", data := .seq #[x, y] }) z TI TO .ellipsis q := Heap.get?_push_of_some _ z5
  refine wpAny_bind (wpAny_setField_rec (s := { s with heap := g5.push { cls := .type "tuple", data := .seq #[x, y] } }) z6 (by simp) fun g7 z7 s7 => ?_)
  replace z7 : ZipU g7 z TI TO (rawInt g5.objs.size) q := z7
  refine wpAny_setField_rec (s := { s with heap := g7 }) z7 (by simp) fun g8 z8 s8 => ?_
  replace z8 : IsZip g8 z TI TO (rawInt g5.objs.size) := z8
  have up8 : ∀ c o, c ≠ z → g5.get? c = some o → g8.get? c = some o := fun c o c1 e => s8.extBut _ _ c1 (s7.extBut _ _ c1 (Heap.get?_push_of_some _ e))
  have T8 : IsPair g8 g5.objs.size x y := s8.extBut _ _ (Nat.ne_of_gt ltz) (s7.extBut _ _ (Nat.ne_of_gt ltz) (Heap.get?_push_size _ rfl))
  have sz8 : g8.objs.size = g5.objs.size + 1 := by rw [s8.1, s7.1, Heap.size_push]
  rw [sz5] at z8 T8 sz8
  refine wpAny_pure ⟨_, rfl, ?_⟩
  show Q (.ref g5.objs.size) { s with heap := g8 }
  rw [sz5]
  exact hQ g8 z8 (up8 _ _ D.TOz o5) (v1.at fun o e => up8 _ o D.i1z e) (v2.at fun o e => up8 _ o D.i2z e) T8 sz8 fun c o c1 c2 c3 c4 e => up8 c o c1 (up5 c o c1 c2 c3 c4 e)
theorem zip_end_any {z TI TO i1 i2 l1 l2 : Addr} {k1 k2 : Nat} {xs ys : Array Value} {a b p q : Value} {Q : Fin → Shared → Prop} (hh : A.handled = none) (D : ZipApart z TI TO i1 i2 l1 l2)
    (zz : ZipU s.heap z TI TO p q) (fr : ∀ R : Bool → Shared → Prop, R true s → wpAny (model prog w) A (Builtin.SmallTypes.ownedTupleIsFree (.ref z)) R E s) (pI : IsPair s.heap TI (.ref i1) (.ref i2)) (pO : IsPair s.heap TO a b)
    (t1 : s.heap.IsListIter i1 l1 k1) (t2 : s.heap.IsListIter i2 l2 k2) (m1 : s.heap.IsList l1 xs) (m2 : s.heap.IsList l2 ys) (ge : xs[k1]? = none ∨ ys[k2]? = none)
    (hE : ∀ h' e, (∀ c o, c ≠ z → c ≠ TO → c ≠ i1 → c ≠ i2 → s.heap.get? c = some o → h'.get? c = some o) → (∃ o, h'.get? e = some o ∧ o.cls = .type "StopIteration") → E (.ref e) { s with heap := h' }) :
    wpAny (model prog w) A (Builtin.«zip.__next__» ⟨[.ref z], []⟩) Q E s := by
  show wpAny _ _ (field (.ref z) 2 >>= _) _ _ s
  refine wpAny_bind (wpAny_field zz rfl (x := .bool false) rfl ?_)
  show wpAny _ _ (field (.ref z) 3 >>= _) _ _ s
  refine wpAny_bind (wpAny_field zz rfl (x := .ref TI) rfl (wpAny_bind (wpAny_seqItems pI rfl ?_)))
  show wpAny _ _ (Builtin.SmallTypes.ownedTupleIsFree (.ref z) >>= _) _ _ s
  refine wpAny_bind (fr _ ?_)
  simp only [if_true]
  refine wpAny_bind (wpAny_rule (wpAny_bind (wpAny_field zz rfl (x := .ref TO) rfl (wpAny_bind (wpAny_setField_rec zz (by simp) fun g1 z1 s1 => ?_)))))
  replace z1 : ZipU g1 z TI TO .ellipsis q := z1
  refine wpAny_bind ?_
  simp only [List.zipIdx_cons, List.zipIdx_nil, List.forIn_cons, List.forIn_nil]
  refine wpAny_bind (wpAny_bind (wpAny_onRaise ?_))
  show wpAny _ _ (Builtin.SmallTypes.nextOf (.ref i1) >>= _) _ _ { s with heap := g1 }
  cases gx : xs[k1]? with
  | none =>
    refine wpAny_bind (wpAny_nextOf_list_end (s := { s with heap := g1 }) hh (t1.extBut s1.extBut D.i1z) (m1.extBut s1.extBut D.l1z) gx fun g2 er s2 he => ?_)
    obtain ⟨oe, ho, hc⟩ := he
    have z2 : ZipU g2 z TI TO .ellipsis q := s2 _ _ D.i1z.symm z1
    have ez : er ≠ z := fun x => by subst x; rw [z2] at ho; cases ho; simp at hc
    exact wpAny_setField_rec (s := { s with heap := g2 }) z2 (by simp) fun g3 _ s3 => hE g3 er (fun c o c1 _ c3 _ x => s3.extBut _ _ c1 (s2 _ _ c3 (s1.extBut _ _ c1 x))) ⟨oe, s3.extBut _ _ ez ho, hc⟩
  | some x =>
    have gy : ys[k2]? = none := by rcases ge with h | h; (rw [gx] at h; cases h); exact h
    refine wpAny_bind (wpAny_nextOf_list_item (s := { s with heap := g1 }) (t1.extBut s1.extBut D.i1z) (m1.extBut s1.extBut D.l1z) gx fun g2 u1 s2 => wpAny_pure ?_)
    have o2 : IsPair g2 TO a b := s2.extBut _ _ D.TOi1 (s1.extBut _ _ D.TOz pO)
    refine wpAny_bind (wpAny_seqItems (s := { s with heap := g2 }) o2 rfl (wpAny_bind (wpAny_updateSeq_pair (s := { s with heap := g2 }) o2 fun g3 o3 s3 => ?_)))
    refine wpAny_bind (wpAny_letGo (wpAny_pure (wpAny_bind (wpAny_bind (wpAny_onRaise ?_)))))
    show wpAny _ _ (Builtin.SmallTypes.nextOf (.ref i2) >>= _) _ _ { s with heap := g3 }
    refine wpAny_bind (wpAny_nextOf_list_end (s := { s with heap := g3 }) hh (((t2.extBut s1.extBut D.i2z).extBut s2.extBut D.i12.symm).extBut s3.extBut D.TOi2.symm) (((m2.extBut s1.extBut D.l2z).extBut s2.extBut D.l2i1).extBut s3.extBut D.l2TO) gy fun g4 er s4 he => ?_)
    obtain ⟨oe, ho, hc⟩ := he
    have z4 : ZipU g4 z TI TO .ellipsis q := s4 _ _ D.i2z.symm (s3.extBut _ _ D.TOz.symm (s2.extBut _ _ D.i1z.symm z1))
    have ez : er ≠ z := fun x => by subst x; rw [z4] at ho; cases ho; simp at hc
    exact wpAny_setField_rec (s := { s with heap := g4 }) z4 (by simp) fun g5 _ s5 => hE g5 er (fun c o c1 c2 c3 c4 x => s5.extBut _ _ c1 (s4 _ _ c4 (s3.extBut _ _ c2 (s2.extBut _ _ c3 (s1.extBut _ _ c1 x))))) ⟨oe, s5.extBut _ _ ez ho, hc⟩
/-- one pair is drawn -/
theorem zip_draw {z TI TO i1 i2 l1 l2 : Addr} {i : Nat} {xs ys : Array Value} {x y : Value} {Q : Value → Shared → Prop} (D : ZipApart z TI TO i1 i2 l1 l2) (st : ZipAt s.heap z TI TO i1 i2 l1 l2 i)
    (m1 : s.heap.IsList l1 xs) (m2 : s.heap.IsList l2 ys) (gx : xs[i]? = some x) (gy : ys[i]? = some y)
    (hQ : ∀ h', ZipAt h' z TI TO i1 i2 l1 l2 (i + 1) → IsPair h' s.heap.objs.size x y → h'.objs.size = s.heap.objs.size + 1 →
      (∀ c o, c ≠ z → c ≠ TO → c ≠ i1 → c ≠ i2 → s.heap.get? c = some o → h'.get? c = some o) → Q (.ref s.heap.objs.size) { s with heap := h' }) :
    wpAny (model prog w) A (Builtin.SmallTypes.nextOf (.ref z)) Q E s := by
  obtain ⟨hz, pI, ⟨a, b, pO⟩, t1, t2⟩ := st
  have ty : s.TypeIs (.ref z) "zip" := by
    rcases hz with h | ⟨_, _, h⟩
    · exact ⟨_, h, rfl⟩
    · exact ⟨_, h, rfl⟩
  unfold Builtin.SmallTypes.nextOf
  refine wpAny_bind (wpAny_callSpecial?_slot (name := Str.ofString "__next__") ty F.slot_zip_next (wpAny_call_entry F.slot_zip_next ty F.entry_zip_next ?_ (F.args_zip_next_1 _)))
  have keepI : ∀ {h' : Heap}, (∀ c o, c ≠ z → c ≠ TO → c ≠ i1 → c ≠ i2 → s.heap.get? c = some o → h'.get? c = some o) → IsPair h' TI (.ref i1) (.ref i2) := fun k => k _ _ D.TIz D.TITO D.TIi1 D.TIi2 pI
  rcases hz with h | ⟨T, f, h⟩
  · refine zip_item_any D h (fun R k => ?_) pI pO t1 t2 m1 m2 gx gy fun h' b1 b2 b3 b4 b5 b6 b7 => wpAny_pure (hQ h' ⟨.inr ⟨_, _, b1⟩, keepI b7, ⟨_, _, b2⟩, b3, b4⟩ b5 b6 b7)
    unfold Builtin.SmallTypes.ownedTupleIsFree
    exact wpAny_bind (wpAny_field h rfl (x := .none) rfl (wpAny_pure k))
  · cases al : s.heap.get? T with
    | none => exact zip_item_any D h (fun R k => tuple_gone h al k) pI pO t1 t2 m1 m2 gx gy fun h' b1 b2 b3 b4 b5 b6 b7 => wpAny_pure (hQ h' ⟨.inr ⟨_, _, b1⟩, keepI b7, ⟨_, _, b2⟩, b3, b4⟩ b5 b6 b7)
    | some oT => exact zip_next_item_held D h al pI t1 t2 m1 m2 gx gy fun h' b1 b3 b4 b5 b6 b7 => wpAny_pure (hQ h' ⟨.inr ⟨_, _, b1⟩, keepI fun c o c1 _ c3 c4 e => b7 c o c1 c3 c4 e, ⟨_, _, b7 _ _ D.TOz D.TOi1 D.TOi2 pO⟩, b3, b4⟩ b5 b6 fun c o c1 _ c3 c4 e => b7 c o c1 c3 c4 e)
theorem zip_over {z TI TO i1 i2 l1 l2 : Addr} {i : Nat} {xs ys : Array Value} {Q : Value → Shared → Prop} (hh : A.handled = none) (D : ZipApart z TI TO i1 i2 l1 l2) (st : ZipAt s.heap z TI TO i1 i2 l1 l2 i)
    (m1 : s.heap.IsList l1 xs) (m2 : s.heap.IsList l2 ys) (ge : xs[i]? = none ∨ ys[i]? = none)
    (hE : ∀ h' e, (∀ c o, c ≠ z → c ≠ TO → c ≠ i1 → c ≠ i2 → s.heap.get? c = some o → h'.get? c = some o) → (∃ o, h'.get? e = some o ∧ o.cls = .type "StopIteration") → E (.ref e) { s with heap := h' }) :
    wpAny (model prog w) A (Builtin.SmallTypes.nextOf (.ref z)) Q E s := by
  obtain ⟨hz, pI, ⟨a, b, pO⟩, t1, t2⟩ := st
  have ty : s.TypeIs (.ref z) "zip" := by
    rcases hz with h | ⟨_, _, h⟩
    · exact ⟨_, h, rfl⟩
    · exact ⟨_, h, rfl⟩
  unfold Builtin.SmallTypes.nextOf
  refine wpAny_bind (wpAny_callSpecial?_slot (name := Str.ofString "__next__") ty F.slot_zip_next (wpAny_call_entry F.slot_zip_next ty F.entry_zip_next ?_ (F.args_zip_next_1 _)))
  rcases hz with h | ⟨T, f, h⟩
  · refine zip_end_any hh D h (fun R k => ?_) pI pO t1 t2 m1 m2 ge hE
    unfold Builtin.SmallTypes.ownedTupleIsFree
    exact wpAny_bind (wpAny_field h rfl (x := .none) rfl (wpAny_pure k))
  · cases al : s.heap.get? T with
    | none => exact zip_end_any hh D h (fun R k => tuple_gone h al k) pI pO t1 t2 m1 m2 ge hE
    | some oT => exact zip_next_end_held hh D h al pI t1 t2 m1 m2 ge fun h' e b1 b2 => hE h' e (fun c o c1 _ c3 c4 e => b1 c o c1 c3 c4 e) b2
/-- a turn of enumerate over anything that is drawn -/
theorem enum_turn {e it : Addr} {i : Nat} {old x : Value} {G : Heap → Prop} {Q : Option Value → Shared → Prop} (he : IsEnum s.heap e it (i : Nat) old)
    (draw : ∀ (B : Around) (E' : Value → Shared → Prop) (R : Value → Shared → Prop), (∀ h1, G h1 → IsEnum h1 e it (i : Nat) old → R x { s with heap := h1 }) → wpAny (model prog w) B (Builtin.SmallTypes.nextOf (.ref it)) R E' s)
    (hQ : ∀ h1 h', G h1 → IsEnumOut h' e it ((i : Int) + 1) x h1.objs.size → h'.get? h1.objs.size = some { cls := .type "tuple", data := .seq #[.int i s.toks, x] } → h'.objs.size = h1.objs.size + 1 →
      (∀ b o, b ≠ e → h1.get? b = some o → h'.get? b = some o) → Q (some (.ref h1.objs.size)) { s with heap := h', toks := s.toks + 1 }) :
    wpAny (model prog w) A (pyNext (.ref e)) Q E s := by
  have ty : s.TypeIs (.ref e) "enumerate" := ⟨_, he, rfl⟩
  unfold pyNext
  refine wpAny_bind (wpAny_attempt (wpAny_callSpecial?_slot (name := Str.ofString "__next__") ty F.slot_enumerate_next (wpAny_call_entry F.slot_enumerate_next ty F.entry_enumerate_next ?_ (F.args_enumerate_next_1 _))))
  show wpAny _ _ (field (.ref e) 2 >>= _) _ _ s
  refine wpAny_bind (wpAny_field he rfl (x := .ref it) rfl (wpAny_bind (draw _ _ _ fun h1 hG e1 => ?_)))
  show wpAny _ _ (field (.ref e) 3 >>= _) _ _ { s with heap := h1 }
  refine wpAny_bind (wpAny_field (s := { s with heap := h1 }) e1 rfl (x := rawInt i) rfl ?_)
  show wpAny _ _ (field (.ref e) 4 >>= _) _ _ { s with heap := h1 }
  refine wpAny_bind (wpAny_field (s := { s with heap := h1 }) e1 rfl (x := .none) rfl ?_)
  show wpAny _ _ (mkInt i >>= _) _ _ { s with heap := h1 }
  refine wpAny_bind (wpAny_mkInt ?_)
  show wpAny _ _ (setField (.ref e) 3 (rawInt ((i : Int) + 1)) >>= _) _ _ { s with heap := h1, toks := s.toks + 1 }
  refine wpAny_bind (wpAny_setField_rec (s := { s with heap := h1, toks := s.toks + 1 }) e1 (by simp) fun h2 e2 s2 => ?_)
  replace e2 : IsEnum h2 e it ((i : Int) + 1) old := e2
  show wpAny _ _ (setField (.ref e) 4 .none >>= _) _ _ { s with heap := h2, toks := s.toks + 1 }
  refine wpAny_bind (wpAny_setField_rec (s := { s with heap := h2, toks := s.toks + 1 }) e2 (by simp) fun h3 e3 s3 => ?_)
  replace e3 : IsEnum h3 e it ((i : Int) + 1) old := e3
  show wpAny _ _ (newTuple [.int i s.toks, x] >>= _) _ _ { s with heap := h3, toks := s.toks + 1 }
  refine wpAny_bind (wpAny_newTuple ?_)
  have e4 : IsEnum (h3.push { cls := .type "tuple", data := .seq #[.int i s.toks, x] }) e it ((i : Int) + 1) old := Heap.get?_push_of_some _ e3
  have t4 : (h3.push { cls := .type "tuple", data := .seq #[.int i s.toks, x] }).get? h3.objs.size = some { cls := .type "tuple", data := .seq #[.int i s.toks, x] } := Heap.get?_push_size _ rfl
  have n4 : (h3.push { cls := .type "tuple", data := .seq #[.int i s.toks, x] }).objs.size = h3.objs.size + 1 := Heap.size_push ..
  have k4 : ∀ b o, b ≠ e → h1.get? b = some o → (h3.push { cls := .type "tuple", data := .seq #[.int i s.toks, x] }).get? b = some o := fun b o hb q => Heap.get?_push_of_some _ (s3.extBut b o hb (s2.extBut b o hb q))
  have z3 : h3.objs.size = h1.objs.size := by rw [s3.1, s2.1]
  rw [z3] at t4 n4
  have le : e < h1.objs.size := Heap.lt_size e1
  show wpAny _ _ (Builtin.SmallTypes.ownedTupleIsFree (.ref e) >>= _) _ _ { s with heap := h3.push { cls := .type "tuple", data := .seq #[.int i s.toks, x] }, toks := s.toks + 1 }
  rw [z3]
  generalize h3.push { cls := .type "tuple", data := .seq #[.int i s.toks, x] } = h4 at e4 t4 n4 k4 ⊢
  refine wpAny_bind ?_
  unfold Builtin.SmallTypes.ownedTupleIsFree
  refine wpAny_bind (wpAny_field (s := { s with heap := h4, toks := s.toks + 1 }) e4 rfl (x := .none) rfl (wpAny_pure ?_))
  simp only [if_true]
  refine wpAny_bind (wpAny_rule (wpAny_bind (wpAny_field (s := { s with heap := h4, toks := s.toks + 1 }) e4 rfl (x := old) rfl ?_)))
  refine wpAny_bind (wpAny_setField_rec (s := { s with heap := h4, toks := s.toks + 1 }) e4 (by simp) fun h5 e5 s5 => ?_)
  replace e5 : IsEnum h5 e it ((i : Int) + 1) x := e5
  show wpAny _ _ (Builtin.SmallTypes.ownedTupleHandOut (.ref e) (.ref h1.objs.size) >>= _) _ _ { s with heap := h5, toks := s.toks + 1 }
  refine wpAny_bind ?_
  unfold Builtin.SmallTypes.ownedTupleHandOut
  refine wpAny_bind (wpAny_setField_rec (s := { s with heap := h5, toks := s.toks + 1 }) e5 (by simp) fun h6 e6 s6 => ?_)
  replace e6 : IsEnumOut h6 e it ((i : Int) + 1) x h1.objs.size := e6
  refine wpAny_setField_rec (s := { s with heap := h6, toks := s.toks + 1 }) e6 (by simp) fun h7 e7 s7 => ?_
  replace e7 : IsEnumOut h7 e it ((i : Int) + 1) x h1.objs.size := e7
  refine wpAny_bind (wpAny_letGo (wpAny_pure ⟨_, rfl, wpAny_pure (hQ h1 h7 hG e7 ?_ ?_ ?_)⟩))
  · exact s7.extBut _ _ (Nat.ne_of_gt le) (s6.extBut _ _ (Nat.ne_of_gt le) (s5.extBut _ _ (Nat.ne_of_gt le) t4))
  · rw [s7.1, s6.1, s5.1, n4]
  · exact fun b o hb q => s7.extBut b o hb (s6.extBut b o hb (s5.extBut b o hb (k4 b o hb q)))
theorem enum_over {e it : Addr} {i : Nat} {old : Value} {G : Heap → Prop} {Q : Option Value → Shared → Prop} (he : IsEnum s.heap e it (i : Nat) old)
    (draw : ∀ (B : Around) (E' : Value → Shared → Prop) (R : Value → Shared → Prop), B.handled = A.handled → (∀ h1 er, G h1 → (∃ o, h1.get? er = some o ∧ o.cls = .type "StopIteration") → E' (.ref er) { s with heap := h1 }) → wpAny (model prog w) B (Builtin.SmallTypes.nextOf (.ref it)) R E' s)
    (hQ : ∀ h1, G h1 → Q none { s with heap := h1 }) : wpAny (model prog w) A (pyNext (.ref e)) Q E s := by
  have ty : s.TypeIs (.ref e) "enumerate" := ⟨_, he, rfl⟩
  unfold pyNext
  refine wpAny_bind (wpAny_attempt (wpAny_callSpecial?_slot (name := Str.ofString "__next__") ty F.slot_enumerate_next (wpAny_call_entry F.slot_enumerate_next ty F.entry_enumerate_next ?_ (F.args_enumerate_next_1 _))))
  show wpAny _ _ (field (.ref e) 2 >>= _) _ _ s
  refine wpAny_bind (wpAny_field he rfl (x := .ref it) rfl (wpAny_bind (draw _ _ _ rfl fun h1 er hG hx => ?_)))
  obtain ⟨o, ho, hc⟩ := hx
  exact wpAny_bind (wpAny_isInstance (T := "StopIteration") (b := true) ⟨o, ho, hc⟩ isSubtype_stop (wpAny_pure (hQ h1 hG)))
end
/-- the lists at a and b as they stand at each turn, the items in new pairs, these behind their number -/
def Itez (K : PySem.W.Frag) (a b : Addr) : It where
  go := fun i H => ∃ (xs ys : List V) (x y : V), SqL K H a xs ∧ SqL K H b ys ∧ xs[i]? = some x ∧ ys[i]? = some y
  yld := fun i H v H' => ∃ (S T : Addr) (x y : V), v = .ref T ∧ H S = none ∧ upd H S (.tup [x, y]) T = none ∧ H' = upd (upd H S (.tup [x, y])) T (.tup [.int (i : Nat), .ref S]) ∧ (∀ xs, SqL K H a xs → xs[i]? = some x) ∧ ∀ ys, SqL K H b ys → ys[i]? = some y
  stop := fun i H => ∃ xs ys : List V, SqL K H a xs ∧ SqL K H b ys ∧ (xs.length ≤ i ∨ ys.length ≤ i)
theorem turn_ez {P : Program} {w : World} {K : PySem.W.Frag} {elts : List Expr} {kk : Nat} {tpos : Pos} {a b e z TI TO i1 i2 : Addr} (D : ZipApart z TI TO i1 i2 a b) (ne : e ∉ [z, TI, TO, i1, i2]) :
    Turn P w K (.Tuple elts kk tpos) (Itez K a b) [e, z, TI, TO, i1, i2] e fun i h => (∃ old, IsEnum h e z (i : Nat) old) ∧ ZipAt h z TI TO i1 i2 a b i where
  mem := List.mem_cons_self ..
  obj := fun i h st c hc => by
    obtain ⟨⟨old, he⟩, hz, pI, ⟨x, y, pO⟩, ⟨o1, e1, _, d1⟩, ⟨o2, e2, _, d2⟩⟩ := st
    simp only [List.mem_cons, List.not_mem_nil, or_false] at hc
    rcases hc with q | q | q | q | q | q
    · rw [q]; exact ⟨_, he, fun v q => nomatch q⟩
    · rw [q]
      rcases hz with h | ⟨_, _, h⟩
      · exact ⟨_, h, fun v q => nomatch q⟩
      · exact ⟨_, h, fun v q => nomatch q⟩
    · rw [q]; exact ⟨_, pI, fun v q => nomatch q⟩
    · rw [q]; exact ⟨_, pO, fun v q => nomatch q⟩
    · rw [q]; exact ⟨o1, e1, fun v q => by rw [d1] at q; cases q⟩
    · rw [q]; exact ⟨o2, e2, fun v q => by rw [d2] at q; cases q⟩
  keep := fun i h h' st k => by
    obtain ⟨⟨old, he⟩, hz, pI, ⟨x, y, pO⟩, h1, h2⟩ := st
    refine ⟨⟨old, k e (by simp) _ he⟩, ?_, k TI (by simp) _ pI, ⟨x, y, k TO (by simp) _ pO⟩, h1.at fun o q => k i1 (by simp) o q, h2.at fun o q => k i2 (by simp) o q⟩
    rcases hz with h | ⟨T, f, h⟩
    · exact .inl (k z (by simp) _ h)
    · exact .inr ⟨T, f, k z (by simp) _ h⟩
  item := by
    intro X hP hw hK hc i pins s σ H E I hf st hg
    subst hP hw hK
    obtain ⟨⟨old, he⟩, zt⟩ := st
    obtain ⟨xs, ys, x, y, hqx, hqy, hx, hy⟩ := hg
    obtain ⟨its, rv, p, _⟩ := I.list hqx
    obtain ⟨its2, rv2, p2, _⟩ := I.list hqy
    obtain ⟨u, hu, ru⟩ := rv.get hx
    obtain ⟨u2, hu2, ru2⟩ := rv2.get hy
    have nez : e ≠ z := fun q => ne (by simp [q])
    have neO : e ≠ TO := fun q => ne (by simp [q])
    have ne1 : e ≠ i1 := fun q => ne (by simp [q])
    have ne2 : e ≠ i2 := fun q => ne (by simp [q])
    have lt : ∀ {c o}, s.heap.get? c = some o → c < s.heap.objs.size := fun q => Heap.lt_size q
    have fpl : ∀ c ∈ [e, z, TI, TO, i1, i2], c < s.heap.objs.size := fun c hcm => by
      obtain ⟨hz, pI, ⟨x, y, pO⟩, ⟨_, e1, _⟩, ⟨_, e2, _⟩⟩ := zt
      simp only [List.mem_cons, List.not_mem_nil, or_false] at hcm
      rcases hcm with q | q | q | q | q | q
      · rw [q]; exact lt he
      · rw [q]
        rcases hz with h | ⟨_, _, h⟩
        · exact lt h
        · exact lt h
      · rw [q]; exact lt pI
      · rw [q]; exact lt pO
      · rw [q]; exact lt e1
      · rw [q]; exact lt e2
    refine enum_turn (x := .ref s.heap.objs.size) (G := fun h1 => ZipAt h1 z TI TO i1 i2 a b (i + 1) ∧ IsPair h1 s.heap.objs.size u u2 ∧ h1.objs.size = s.heap.objs.size + 1 ∧ ∀ c o, c ≠ z → c ≠ TO → c ≠ i1 → c ≠ i2 → s.heap.get? c = some o → h1.get? c = some o) he
      (fun B E' R k => zip_draw D zt p.isList p2.isList (x := u) (y := u2) (by simpa using hu) (by simpa using hu2) fun h1 g1 g2 g3 g4 => k h1 ⟨g1, g2, g3, g4⟩ (g4 e _ nez neO ne1 ne2 he)) fun h1 h' hG ho hT hsz hk => ⟨_, rfl, ?_⟩
    obtain ⟨g1, g2, g3, g4⟩ := hG
    refine wpAny_letOwnedTupleGo_enum (s := { s with heap := h', toks := s.toks + 1 }) ho fun h'' he'' sb => ?_
    have kk2 : ∀ c o, c ≠ e → h1.get? c = some o → h''.get? c = some o := fun c o hne q => (sb.2 c hne).trans (hk c o hne q)
    have I1 : Inv X pins σ (upd H s.heap.objs.size (.tup [x, y])) { s with heap := h1 } :=
      I.turnedNew (t' := s.toks) (ch := [z, TO, i1, i2]) (fun c o hb q => g4 c o (fun q' => hb (by simp [q'])) (fun q' => hb (by simp [q'])) (fun q' => hb (by simp [q'])) (fun q' => hb (by simp [q'])) q) (fun c hcm => hf c (by
        simp only [List.mem_cons, List.not_mem_nil, or_false] at hcm ⊢
        rcases hcm with q | q | q | q <;> simp [q])) (Nat.le_refl _)
        ⟨by show 2 ≤ sizeLine; decide, [u, u2], .cons ru (.cons ru2 .nil), ⟨_, g2, rfl, _, rfl⟩⟩
    have nS : H s.heap.objs.size = none := I.hok.fresh (Nat.le_refl _)
    have hel : e < s.heap.objs.size := lt he
    have fe := hf e (List.mem_cons_self ..)
    have T2 : h''.get? h1.objs.size = some { cls := .type "tuple", data := .seq #[.int i s.toks, .ref s.heap.objs.size] } := (sb.2 _ (Nat.ne_of_gt (Nat.lt_of_lt_of_le hel (by rw [g3]; exact Nat.le_succ _)))).trans hT
    have I2 : Inv X pins σ (upd (upd H s.heap.objs.size (.tup [x, y])) h1.objs.size (.tup [.int (i : Nat), .ref s.heap.objs.size])) { s with heap := h'', toks := s.toks + 1 } :=
      I1.turnedNew (t' := s.toks + 1) (ch := [e]) (fun c o hb q => kk2 c o (by simpa using hb) q) (fun c hcm => by
        have hce : c = e := by simpa using hcm
        subst hce
        exact ⟨by rw [upd_ne (Nat.ne_of_lt hel)]; exact fe.1, fe.2⟩) (Nat.le_refl _)
        ⟨by show 2 ≤ sizeLine; decide, [.int i s.toks, .ref s.heap.objs.size], .cons ⟨s.toks, rfl⟩ (.cons rfl .nil), ⟨_, T2, rfl, _, rfl⟩⟩
    refine ⟨.ref h1.objs.size, _, I2, rfl, ⟨s.heap.objs.size, h1.objs.size, x, y, rfl, nS, I1.hok.fresh (Nat.le_refl _), rfl, fun l hl => by rw [I.list_inj hl hqx]; exact hx, fun l hl => by rw [I.list_inj hl hqy]; exact hy⟩, ⟨⟨_, he''⟩, ?_⟩, fun c hcm => ?_⟩
    · obtain ⟨hz, pI, ⟨x', y', pO⟩, h1', h2'⟩ := g1
      have nTI : TI ≠ e := fun q => ne (by simp [q])
      refine ⟨?_, kk2 _ _ nTI pI, ⟨x', y', kk2 _ _ neO.symm pO⟩, h1'.at fun o q => kk2 i1 o ne1.symm q, h2'.at fun o q => kk2 i2 o ne2.symm q⟩
      rcases hz with h | ⟨T, f, h⟩
      · exact .inl (kk2 z _ nez.symm h)
      · exact .inr ⟨T, f, kk2 z _ nez.symm h⟩
    · have hlt := fpl c hcm
      rw [upd_ne (Nat.ne_of_lt (Nat.lt_of_lt_of_le hlt (by rw [g3]; exact Nat.le_succ _))), upd_ne (Nat.ne_of_lt hlt)]
      exact (hf c hcm).1
  done := by
    intro X hP hw hK hc i pins s σ H E I hf st hg
    subst hP hw hK
    obtain ⟨⟨old, he⟩, zt⟩ := st
    obtain ⟨xs, ys, hqx, hqy, hend⟩ := hg
    obtain ⟨its, rv, p, _⟩ := I.list hqx
    obtain ⟨its2, rv2, p2, _⟩ := I.list hqy
    have l1 := rv.length
    have l2 := rv2.length
    have ge : its.toArray[i]? = none ∨ its2.toArray[i]? = none := by
      rcases hend with q | q
      · exact .inl (by simp; omega)
      · exact .inr (by simp; omega)
    refine enum_over (G := fun h1 => ∀ c o, c ≠ z → c ≠ TO → c ≠ i1 → c ≠ i2 → s.heap.get? c = some o → h1.get? c = some o) he (fun B E' R hB k => zip_over (hB.trans (I.ok.hd hc)) D zt p.isList p2.isList ge fun h' er g1 g2 => k h' er g1 g2) fun h1 g4 => ⟨rfl, ?_⟩
    exact I.turnedL (t' := s.toks) (ch := [z, TO, i1, i2]) (fun c o hb q => g4 c o (fun q' => hb (by simp [q'])) (fun q' => hb (by simp [q'])) (fun q' => hb (by simp [q'])) (fun q' => hb (by simp [q'])) q) (fun c hcm => hf c (by
        simp only [List.mem_cons, List.not_mem_nil, or_false] at hcm ⊢
        rcases hcm with q | q | q | q <;> simp [q]))
  self := fun A i s Q E st h => let ⟨⟨_, he⟩, _⟩ := st; wpAny_pyIter_enum he h
/-- enumerate(zip(..)) begins -/
theorem zip_iter_any {prog : Program} {w : World} {A : Around} {E : Value → Shared → Prop} {s : Shared} {z TI TO : Addr} {Q : Value → Shared → Prop} (hz : IsZip s.heap z TI TO .none) (h : Q (.ref z) s) : wpAny (model prog w) A (pyIter (.ref z)) Q E s := wpAny_pyIter_zip hz h
theorem meets_enumZ (z TI TO : Addr) : Meets (Builtin.«enumerate.__new__» { pos := [Value.type "enumerate", .ref z] }) fun _ R s =>
    IsZip s.heap z TI TO .none ∧ R (Except.ok (Flow.ret (Value.ref s.heap.objs.size))) { heap := s.heap.push { cls := Value.type "enumerate", data := Data.fields #[Value.none, Value.bool false, Value.ref z, rawInt 0, Value.none, Value.none] }, gens := s.gens, drawn := s.drawn, toks := s.toks, os := s.os } := by
  intro prog w A R s ⟨h1, h2⟩
  unfold Builtin.«enumerate.__new__»
  rw [newClass_enum]
  refine wpAny_bind (wpAny_pure ?_)
  simp only [beq_self_eq_true, if_true]
  have key : ∀ s' : Shared, s' = s → wpAny (model prog w) A.in1 (do
      let __do_lift ← pyIter (.ref z)
      let __do_lift ← Builtin.SmallTypes.newRecord (Value.type "enumerate") (Builtin.SmallTypes.ownedTupleFields ++ [__do_lift, rawInt 0, Value.none, Value.none])
      ret __do_lift) (fun fin s' => match fin with
          | Fin.done f => R (Except.ok f) s'
          | Fin.again c' => c'.quiet = true ∧ codeAny (model prog w) A c' R s') (fun e s' => R (Except.error e) s') s' := by
    rintro s' rfl
    refine wpAny_bind (zip_iter_any h1 (wpAny_bind ?_))
    refine wpAny_newObj_type (T := "enumerate") (data := Data.fields #[Value.none, Value.bool false, Value.ref z, rawInt 0, Value.none, Value.none]) (dict := none) ?_
    exact wpAny_pure h2
  refine wpAny_bind ?_
  unfold Builtin.SmallTypes.calledThroughType
  refine wpAny_bind (wpAny_stack fun st _ _ _ => ?_)
  refine wpAny_pure ?_
  exact iteInduction (motive := fun m => wpAny (model prog w) A.in1 m _ _ s) (fun _ => key s rfl) (fun _ => key s rfl)
theorem call_enumZ {prog : Program} {w : World} {A : Around} {E : Value → Shared → Prop} {s : Shared} {z TI TO : Addr} {Q : Value → Shared → Prop} (h : IsZip s.heap z TI TO .none)
    (k : ∀ h' : Heap, IsEnum h' s.heap.objs.size z 0 Value.none → (∀ (b : Addr) (o : Obj), s.heap.get? b = some o → h'.get? b = some o) → Q (.ref s.heap.objs.size) { s with heap := h' }) : wpAny (model prog w) A (call (Value.type "enumerate") [.ref z]) Q E s := by
  refine callType_new F.called_enumerate (by decide) (F.typeCall_enumerate_1 (.ref z)) (F.newCall_enumerate_1 (.ref z)) (fun obj => ao1 obj (.ref z)) F.entry_enumerate_new (meets_enumZ z TI TO) ⟨h, ?_⟩
  have g2 : (s.heap.push { cls := Value.type "enumerate", data := Data.fields #[Value.none, Value.bool false, Value.ref z, rawInt 0, Value.none, Value.none] }).get? s.heap.objs.size = some { cls := Value.type "enumerate", data := Data.fields #[Value.none, Value.bool false, Value.ref z, rawInt 0, Value.none, Value.none] } := Heap.get?_push_size _ rfl
  exact ⟨⟨_, g2, rfl⟩, k _ g2 fun b u q => Heap.get?_push_of_some _ q⟩
def iEnumZip (K : PySem.W.Frag) (ta : TA) : TI := fun σ H R => ta σ H fun vs H1 => ∃ a b xs ys, vs = [.ref a, .ref b] ∧ SqL K H1 a xs ∧ SqL K H1 b ys ∧ R (Itez K a b) H1
theorem pi_enumZip {X : Cx} {e e2 : Expr} {ta : TA} {p pos p2 pos2 tpos : Pos} {elts : List Expr} {kk : Nat} (hg : Gl X "enumerate") (hm : X.mg "enumerate" = none) (hgz : Gl X "zip") (hmz : X.mg "zip" = none) (ha : PA X [e, e2] ta)
    (ho : starEach [.Call (.Name "zip" p2) [e, e2] [] pos2] X.env = [(false, eval (.Call (.Name "zip" p2) [e, e2] [] pos2) X.env)] := by rfl)
    (hs : starEach [e, e2] X.env = (false, eval e X.env) :: starEach [e2] X.env := by rfl) (hpl : (backTo pos2 (starEach [e2] X.env)).any (·.1) = false := by rfl) :
    PI X (.Tuple elts kk tpos) (.Call (.Name "enumerate" p) [.Call (.Name "zip" p2) [e, e2] [] pos2] [] pos) (iEnumZip X.K ta) := by
  refine ⟨fun pins s σ H R I h => ?_⟩
  refine wpAny_Call_Name_kw (ld_blt I hg hm boot_enumerate ?_)
  rw [ho]
  refine callWith_type1 (Call_ (ld_blt I hgz hmz PyProof.Rows.boot_zip (PyProof.Rows.callWith_type1 (thn (ha.run pos2 pins s σ H _ I h) fun us s1 ⟨vs, H1, I1, r1, q1⟩ => ?_) hs hpl)))
  obtain ⟨a, b, xs, ys, ex, hqx, hqy, q⟩ := q1
  subst ex
  cases r1 with
  | cons r rr =>
    cases rr with
    | cons r' rr =>
      cases rr
      cases r
      cases r'
      obtain ⟨its, rv, p1, _⟩ := I1.list hqx
      obtain ⟨its2, rv2, p2, _⟩ := I1.list hqy
      have la : a < s1.heap.objs.size := p1.lt
      have lb : b < s1.heap.objs.size := p2.lt
      refine call_zip_2 p1.isList p2.isList fun h1 hz hTI hTO t1 t2 hsz hk => ?_
      refine call_enumZ (s := { s1 with heap := h1 }) hz fun h' hE hk2 => wpAny_pyIter_enum hE ?_
      have I2 : Inv X pins σ H1 { s1 with heap := h' } := I1.kept (t' := s1.toks) fun c o q => hk2 c o (hk c o q)
      have es : ({ s1 with heap := h1 } : Shared).heap.objs.size = s1.heap.objs.size + 5 := hsz
      rw [es] at hE ⊢
      refine ⟨s1.heap.objs.size + 5, [s1.heap.objs.size + 5, s1.heap.objs.size + 4, s1.heap.objs.size + 2, s1.heap.objs.size + 3, s1.heap.objs.size, s1.heap.objs.size + 1], _, _, H1, rfl, I2, turn_ez (PySem.W.ktu_apart s1.heap.objs.size a b la lb) ?_, ⟨⟨_, hE⟩, .inl (hk2 _ _ hz), hk2 _ _ hTI, ⟨_, _, hk2 _ _ hTO⟩, t1.at fun o q => hk2 _ o q, t2.at fun o q => hk2 _ o q⟩, fun c hcm => ?_, q⟩
      · have five : ∀ n : Nat, n + 5 ∉ [n + 4, n + 2, n + 3, n, n + 1] := fun n => by simp
        exact five _
      · have all : ∀ n c : Nat, c ∈ [n + 5, n + 4, n + 2, n + 3, n, n + 1] → n ≤ c := fun n c h => by
          simp only [List.mem_cons, List.not_mem_nil, or_false] at h
          omega
        have hle := all _ _ hcm
        exact I1.fpOk hle (I1.hok.fresh hle)
theorem walk_ez {K : PySem.W.Frag} {a b : Addr} {xs ys : List V} (hl : xs.length = ys.length) : Walk (Itez K a b) xs.length (fun H => SqL K H a xs ∧ SqL K H b ys) (fun i H v H' => ∃ (S T : Addr) (x y : V), v = .ref T ∧ H S = none ∧ upd H S (.tup [x, y]) T = none ∧ H' = upd (upd H S (.tup [x, y])) T (.tup [.int (i : Nat), .ref S]) ∧ xs[i]? = some x ∧ ys[i]? = some y) := by
  refine ⟨fun i H hi h => ?_, fun H h => ⟨xs, ys, h.1, h.2, .inl (Nat.le_refl _)⟩, fun i H x H' hi h hy => ?_⟩
  · have h2 : i < ys.length := by omega
    exact ⟨xs, ys, xs[i], ys[i], h.1, h.2, List.getElem?_eq_getElem hi, List.getElem?_eq_getElem h2⟩
  · obtain ⟨S, T, v, u, rfl, hn, hn2, rfl, hx, hy⟩ := hy
    exact ⟨S, T, v, u, rfl, hn, hn2, rfl, hx xs h.1, hy ys h.2⟩
end EnT

namespace ZT
open PySem PySem.Spec PyProof.Rows L2 EnT
/-! ### enumerate(zip(x, y)) over two texts -/
section
variable {prog : Program} {w : World} {A : Around} {E : Value → Shared → Prop} {s : Shared}
abbrev Ti (h : Heap) (i : Addr) (x : Str) (t : Tok) (k : Nat) : Prop := h.IsStrIter i (strIterType x) x t k
abbrev sg (c : Nat) (t : Tok) : Value := .str ⟨#[c]⟩ t
theorem txt_item {it : Addr} {x : Str} {t : Tok} {i c : Nat} {Q : Value → Shared → Prop} (hit : Ti s.heap it x t i) (hx : x.cps[i]? = some c)
    (hQ : ∀ h', Ti h' it x t (i + 1) → Heap.SameBut it s.heap h' → Q (sg c s.toks) { s with heap := h', toks := s.toks + 1 }) : wpAny (model prog w) A (Builtin.SmallTypes.nextOf (.ref it)) Q E s := by
  by_cases ha : x.cps.all (· < 128) = true
  · have e : strIterType x = "str_ascii_iterator" := if_pos ha
    unfold Ti at hit hQ
    rw [e] at hit hQ
    exact wpAny_nextOf_ascii_item hit hx hQ
  · have e : strIterType x = "str_iterator" := if_neg ha
    unfold Ti at hit hQ
    rw [e] at hit hQ
    exact wpAny_nextOf_wide_item hit hx hQ
theorem txt_end {it : Addr} {x : Str} {t : Tok} {i : Nat} {Q : Value → Shared → Prop} (hh : A.handled = none) (hit : Ti s.heap it x t i) (hx : x.cps[i]? = none)
    (hE : ∀ h' e, Heap.ExtBut it s.heap h' → (∃ o, h'.get? e = some o ∧ o.cls = .type "StopIteration") → E (.ref e) { s with heap := h' }) : wpAny (model prog w) A (Builtin.SmallTypes.nextOf (.ref it)) Q E s := by
  by_cases ha : x.cps.all (· < 128) = true
  · have e : strIterType x = "str_ascii_iterator" := if_pos ha
    unfold Ti at hit
    rw [e] at hit
    exact wpAny_nextOf_ascii_end hh hit hx hE
  · have e : strIterType x = "str_iterator" := if_neg ha
    unfold Ti at hit
    rw [e] at hit
    exact wpAny_nextOf_wide_end hh hit hx hE
theorem ti_at {h h' : Heap} {i : Addr} {x : Str} {t : Tok} {k : Nat} (y : Ti h i x t k) (g : ∀ o, h.get? i = some o → h'.get? i = some o) : Ti h' i x t k := by
  obtain ⟨o, e, q⟩ := y
  exact ⟨o, g o e, q⟩
/-- a zip of two texts between two turns -/
def ZipAt (h : Heap) (z TI TO i1 i2 : Addr) (x1 : Str) (t1 : Tok) (x2 : Str) (t2 : Tok) (i : Nat) : Prop := (ZipU h z TI TO .none (.bool false) ∨ ∃ (T : Addr) (f : Bool), ZipU h z TI TO (rawInt T) (.bool f)) ∧ IsPair h TI (.ref i1) (.ref i2) ∧ (∃ x y, IsPair h TO x y) ∧ Ti h i1 x1 t1 i ∧ Ti h i2 x2 t2 i
abbrev Kp (s : Shared) (h' : Heap) (z TO i1 i2 : Addr) : Prop := ∀ c o, c ≠ z → c ≠ TO → c ≠ i1 → c ≠ i2 → s.heap.get? c = some o → h'.get? c = some o
theorem item_any {z TI TO i1 i2 l1 l2 : Addr} {k1 k2 c1 c2 : Nat} {x1 x2 : Str} {t1 t2 : Tok} {a b p q : Value} {Q : Value → Shared → Prop} (D : ZipApart z TI TO i1 i2 l1 l2)
    (zz : ZipU s.heap z TI TO p q) (fr : ∀ R : Bool → Shared → Prop, R true s → wpAny (model prog w) A (Builtin.SmallTypes.ownedTupleIsFree (.ref z)) R E s) (pI : IsPair s.heap TI (.ref i1) (.ref i2)) (pO : IsPair s.heap TO a b)
    (h1 : Ti s.heap i1 x1 t1 k1) (h2 : Ti s.heap i2 x2 t2 k2) (gx : x1.cps[k1]? = some c1) (gy : x2.cps[k2]? = some c2)
    (hQ : ∀ h', IsZip h' z TI TO (rawInt s.heap.objs.size) → IsPair h' TO (sg c1 s.toks) (sg c2 (s.toks + 1)) → Ti h' i1 x1 t1 (k1 + 1) → Ti h' i2 x2 t2 (k2 + 1) → IsPair h' s.heap.objs.size (sg c1 s.toks) (sg c2 (s.toks + 1)) → h'.objs.size = s.heap.objs.size + 1 →
      Kp s h' z TO i1 i2 → Q (.ref s.heap.objs.size) { s with heap := h', toks := s.toks + 1 + 1 }) :
    wpAny (model prog w) A (Builtin.«zip.__next__» ⟨[.ref z], []⟩) (fun fin s' => ∃ v, fin = .done (.ret v) ∧ Q v s') E s := by
  show wpAny _ _ (field (.ref z) 2 >>= _) _ _ s
  refine wpAny_bind (wpAny_field zz rfl (x := .bool false) rfl ?_)
  show wpAny _ _ (field (.ref z) 3 >>= _) _ _ s
  refine wpAny_bind (wpAny_field zz rfl (x := .ref TI) rfl (wpAny_bind (wpAny_seqItems pI rfl ?_)))
  show wpAny _ _ (Builtin.SmallTypes.ownedTupleIsFree (.ref z) >>= _) _ _ s
  refine wpAny_bind (fr _ ?_)
  simp only [if_true]
  refine wpAny_bind (wpAny_rule (wpAny_bind (wpAny_field zz rfl (x := .ref TO) rfl (wpAny_bind (wpAny_setField_rec zz (by simp) fun g1 z1 s1 => ?_)))))
  replace z1 : ZipU g1 z TI TO .ellipsis q := z1
  refine wpAny_bind ?_
  simp only [List.zipIdx_cons, List.zipIdx_nil, List.forIn_cons, List.forIn_nil]
  refine wpAny_bind (wpAny_bind (wpAny_onRaise ?_))
  show wpAny _ _ (Builtin.SmallTypes.nextOf (.ref i1) >>= _) _ _ { s with heap := g1 }
  refine wpAny_bind (txt_item (s := { s with heap := g1 }) (h1.extBut s1.extBut D.i1z) gx fun g2 u1 s2 => wpAny_pure ?_)
  show wpAny _ _ _ _ _ { s with heap := g2, toks := s.toks + 1 }
  have o2 : IsPair g2 TO a b := s2.extBut _ _ D.TOi1 (s1.extBut _ _ D.TOz pO)
  refine wpAny_bind (wpAny_seqItems (s := { s with heap := g2, toks := s.toks + 1 }) o2 rfl (wpAny_bind (wpAny_updateSeq_pair (s := { s with heap := g2, toks := s.toks + 1 }) o2 fun g3 o3 s3 => ?_)))
  replace o3 : IsPair g3 TO (sg c1 s.toks) b := o3
  refine wpAny_bind (wpAny_letGo (wpAny_pure (wpAny_bind (wpAny_bind (wpAny_onRaise ?_)))))
  show wpAny _ _ (Builtin.SmallTypes.nextOf (.ref i2) >>= _) _ _ { s with heap := g3, toks := s.toks + 1 }
  refine wpAny_bind (txt_item (s := { s with heap := g3, toks := s.toks + 1 }) (((h2.extBut s1.extBut D.i2z).extBut s2.extBut D.i12.symm).extBut s3.extBut D.TOi2.symm) gy fun g4 u2 s4 => wpAny_pure ?_)
  show wpAny _ _ _ _ _ { s with heap := g4, toks := s.toks + 1 + 1 }
  have o4 : IsPair g4 TO (sg c1 s.toks) b := s4.extBut _ _ D.TOi2 o3
  refine wpAny_bind (wpAny_seqItems (s := { s with heap := g4, toks := s.toks + 1 + 1 }) o4 rfl (wpAny_bind (wpAny_updateSeq_pair (s := { s with heap := g4, toks := s.toks + 1 + 1 }) o4 fun g5 o5 s5 => ?_)))
  replace o5 : IsPair g5 TO (sg c1 s.toks) (sg c2 (s.toks + 1)) := o5
  refine wpAny_bind (wpAny_letGo (wpAny_pure (wpAny_pure (wpAny_bind (wpAny_seqItems (s := { s with heap := g5, toks := s.toks + 1 + 1 }) o5 rfl (wpAny_bind (wpAny_newTuple ?_)))))))
  have z5 : ZipU g5 z TI TO .ellipsis q := s5.extBut _ _ D.TOz.symm (s4.extBut _ _ D.i2z.symm (s3.extBut _ _ D.TOz.symm (s2.extBut _ _ D.i1z.symm z1)))
  have sz5 : g5.objs.size = s.heap.objs.size := by rw [s5.1, s4.1, s3.1, s2.1, s1.1]
  have up5 : ∀ c o, c ≠ z → c ≠ TO → c ≠ i1 → c ≠ i2 → s.heap.get? c = some o → g5.get? c = some o := fun c o c1 c2 c3 c4 e => s5.extBut _ _ c2 (s4.extBut _ _ c4 (s3.extBut _ _ c2 (s2.extBut _ _ c3 (s1.extBut _ _ c1 e))))
  have v1 : Ti g5 i1 x1 t1 (k1 + 1) := ((u1.extBut s3.extBut D.TOi1.symm).extBut s4.extBut D.i12).extBut s5.extBut D.TOi1.symm
  have v2 : Ti g5 i2 x2 t2 (k2 + 1) := u2.extBut s5.extBut D.TOi2.symm
  have ltz : z < g5.objs.size := Heap.lt_size z5
  generalize sg c1 s.toks = w1 at *
  generalize sg c2 (s.toks + 1) = w2 at *
  show wpAny _ _ (Builtin.SmallTypes.ownedTupleHandOut (.ref z) (.ref g5.objs.size) >>= _) _ _ { s with heap := g5.push { cls := .type "tuple", data := .seq #[w1, w2] }, toks := s.toks + 1 + 1 }
  refine wpAny_bind ?_
  unfold Builtin.SmallTypes.ownedTupleHandOut
  have z6 : ZipU (g5.push { cls := .type "tuple", data := .seq #[w1, w2] }) z TI TO .ellipsis q := Heap.get?_push_of_some _ z5
  refine wpAny_bind (wpAny_setField_rec (s := { s with heap := g5.push { cls := .type "tuple", data := .seq #[w1, w2] }, toks := s.toks + 1 + 1 }) z6 (by simp) fun g7 z7 s7 => ?_)
  replace z7 : ZipU g7 z TI TO (rawInt g5.objs.size) q := z7
  refine wpAny_setField_rec (s := { s with heap := g7, toks := s.toks + 1 + 1 }) z7 (by simp) fun g8 z8 s8 => ?_
  replace z8 : IsZip g8 z TI TO (rawInt g5.objs.size) := z8
  have up8 : ∀ c o, c ≠ z → g5.get? c = some o → g8.get? c = some o := fun c o c1 e => s8.extBut _ _ c1 (s7.extBut _ _ c1 (Heap.get?_push_of_some _ e))
  have T8 : IsPair g8 g5.objs.size w1 w2 := s8.extBut _ _ (Nat.ne_of_gt ltz) (s7.extBut _ _ (Nat.ne_of_gt ltz) (Heap.get?_push_size _ rfl))
  have sz8 : g8.objs.size = g5.objs.size + 1 := by rw [s8.1, s7.1, Heap.size_push]
  rw [sz5] at z8 T8 sz8
  refine wpAny_pure ⟨_, rfl, ?_⟩
  show Q (.ref g5.objs.size) { s with heap := g8, toks := s.toks + 1 + 1 }
  rw [sz5]
  exact hQ g8 z8 (up8 _ _ D.TOz o5) (ti_at v1 fun o e => up8 _ o D.i1z e) (ti_at v2 fun o e => up8 _ o D.i2z e) T8 sz8 fun c o c1 c2 c3 c4 e => up8 c o c1 (up5 c o c1 c2 c3 c4 e)
theorem item_held {z TI TO T i1 i2 l1 l2 : Addr} {f : Bool} {oT : Obj} {k1 k2 c1 c2 : Nat} {x1 x2 : Str} {t1 t2 : Tok} {Q : Value → Shared → Prop} (D : ZipApart z TI TO i1 i2 l1 l2)
    (hz : IsZipHeld s.heap z TI TO T f) (hT : s.heap.get? T = some oT) (hTI : IsPair s.heap TI (.ref i1) (.ref i2))
    (h1 : Ti s.heap i1 x1 t1 k1) (h2 : Ti s.heap i2 x2 t2 k2) (gx : x1.cps[k1]? = some c1) (gy : x2.cps[k2]? = some c2)
    (hQ : ∀ h', IsZipHeld h' z TI TO T true → Ti h' i1 x1 t1 (k1 + 1) → Ti h' i2 x2 t2 (k2 + 1) → IsPair h' s.heap.objs.size (sg c1 s.toks) (sg c2 (s.toks + 1)) → h'.objs.size = s.heap.objs.size + 1 →
      (∀ c o, c ≠ z → c ≠ i1 → c ≠ i2 → s.heap.get? c = some o → h'.get? c = some o) → Q (.ref s.heap.objs.size) { s with heap := h', toks := s.toks + 1 + 1 }) :
    wpAny (model prog w) A (Builtin.«zip.__next__» ⟨[.ref z], []⟩) (fun fin s' => ∃ v, fin = .done (.ret v) ∧ Q v s') E s := by
  show wpAny _ _ (field (.ref z) 2 >>= _) _ _ _
  refine wpAny_bind (wpAny_field hz rfl (x := .bool false) rfl ?_)
  show wpAny _ _ (field (.ref z) 3 >>= _) _ _ _
  refine wpAny_bind (wpAny_field hz rfl (x := .ref TI) rfl (wpAny_bind (wpAny_seqItems hTI rfl ?_)))
  show wpAny _ _ (Builtin.SmallTypes.ownedTupleIsFree (.ref z) >>= _) _ _ _
  refine wpAny_bind (wpAny_tupleHeld_zip hz hT fun g1 z1 s1 => ?_)
  simp only [Bool.false_eq_true, if_false]
  refine wpAny_bind ?_
  rw [← Array.forIn_toList]
  simp only [List.forIn_cons, List.forIn_nil]
  refine wpAny_bind (wpAny_bind (wpAny_holding ?_))
  show wpAny _ _ (Builtin.SmallTypes.nextOf (.ref i1) >>= _) _ _ _
  refine wpAny_bind (txt_item (s := { s with heap := g1 }) (h1.extBut s1.extBut D.i1z) gx fun g2 u1 s2 => wpAny_pure (wpAny_pure ?_))
  refine wpAny_bind (wpAny_bind (wpAny_holding ?_))
  show wpAny _ _ (Builtin.SmallTypes.nextOf (.ref i2) >>= _) _ _ _
  refine wpAny_bind (txt_item (s := { s with heap := g2, toks := s.toks + 1 }) ((h2.extBut s1.extBut D.i2z).extBut s2.extBut D.i12.symm) gy fun g3 u2 s3 => wpAny_pure (wpAny_pure (wpAny_pure ?_)))
  show wpAny _ _ (newTuple [sg c1 s.toks, sg c2 (s.toks + 1)] >>= _) _ _ _
  refine wpAny_bind (wpAny_newTuple ?_)
  have hsz : g3.objs.size = s.heap.objs.size := by rw [s3.1, s2.1, s1.1]
  have z3 : IsZipHeld g3 z TI TO T true := s3.extBut _ _ D.i2z.symm (s2.extBut _ _ D.i1z.symm z1)
  have hk : ∀ c o, c ≠ z → c ≠ i1 → c ≠ i2 → s.heap.get? c = some o → g3.get? c = some o := fun c o c1 c2 c3 e => s3.extBut _ _ c3 (s2.extBut _ _ c2 (s1.extBut _ _ c1 e))
  have v1 : Ti g3 i1 x1 t1 (k1 + 1) := u1.extBut s3.extBut D.i12
  refine wpAny_pure ⟨_, rfl, ?_⟩
  show Q (.ref g3.objs.size) _
  generalize sg c1 s.toks = w1 at *
  generalize sg c2 (s.toks + 1) = w2 at *
  have hp : IsPair (g3.push { cls := .type "tuple", data := .seq #[w1, w2] }) g3.objs.size w1 w2 := Heap.get?_push_size _ rfl
  have hz4 : (g3.push { cls := .type "tuple", data := .seq #[w1, w2] }).objs.size = g3.objs.size + 1 := Heap.size_push ..
  rw [hsz] at hp hz4 ⊢
  exact hQ _ (Heap.get?_push_of_some _ z3) (ti_at v1 fun o e => Heap.get?_push_of_some _ e) (ti_at u2 fun o e => Heap.get?_push_of_some _ e) hp hz4 fun c o c1 c2 c3 e => Heap.get?_push_of_some _ (hk c o c1 c2 c3 e)
/-- one pair of signs is drawn -/
theorem zip_draw {z TI TO i1 i2 l1 l2 : Addr} {i c1 c2 : Nat} {x1 x2 : Str} {t1 t2 : Tok} {Q : Value → Shared → Prop} (D : ZipApart z TI TO i1 i2 l1 l2) (st : ZT.ZipAt s.heap z TI TO i1 i2 x1 t1 x2 t2 i)
    (gx : x1.cps[i]? = some c1) (gy : x2.cps[i]? = some c2)
    (hQ : ∀ h', ZT.ZipAt h' z TI TO i1 i2 x1 t1 x2 t2 (i + 1) → IsPair h' s.heap.objs.size (sg c1 s.toks) (sg c2 (s.toks + 1)) → h'.objs.size = s.heap.objs.size + 1 → Kp s h' z TO i1 i2 → Q (.ref s.heap.objs.size) { s with heap := h', toks := s.toks + 1 + 1 }) :
    wpAny (model prog w) A (Builtin.SmallTypes.nextOf (.ref z)) Q E s := by
  obtain ⟨hz, pI, ⟨a, b, pO⟩, h1, h2⟩ := st
  have ty : s.TypeIs (.ref z) "zip" := by
    rcases hz with h | ⟨_, _, h⟩
    · exact ⟨_, h, rfl⟩
    · exact ⟨_, h, rfl⟩
  unfold Builtin.SmallTypes.nextOf
  refine wpAny_bind (wpAny_callSpecial?_slot (name := Str.ofString "__next__") ty F.slot_zip_next (wpAny_call_entry F.slot_zip_next ty F.entry_zip_next ?_ (F.args_zip_next_1 _)))
  have keepI : ∀ {h' : Heap}, Kp s h' z TO i1 i2 → IsPair h' TI (.ref i1) (.ref i2) := fun k => k _ _ D.TIz D.TITO D.TIi1 D.TIi2 pI
  rcases hz with h | ⟨T, f, h⟩
  · refine item_any D h (fun R k => ?_) pI pO h1 h2 gx gy fun h' b1 b2 b3 b4 b5 b6 b7 => wpAny_pure (hQ h' ⟨.inr ⟨_, _, b1⟩, keepI b7, ⟨_, _, b2⟩, b3, b4⟩ b5 b6 b7)
    unfold Builtin.SmallTypes.ownedTupleIsFree
    exact wpAny_bind (wpAny_field h rfl (x := .none) rfl (wpAny_pure k))
  · cases al : s.heap.get? T with
    | none => exact item_any D h (fun R k => tuple_gone h al k) pI pO h1 h2 gx gy fun h' b1 b2 b3 b4 b5 b6 b7 => wpAny_pure (hQ h' ⟨.inr ⟨_, _, b1⟩, keepI b7, ⟨_, _, b2⟩, b3, b4⟩ b5 b6 b7)
    | some oT => exact item_held D h al pI h1 h2 gx gy fun h' b1 b3 b4 b5 b6 b7 => wpAny_pure (hQ h' ⟨.inr ⟨_, _, b1⟩, keepI fun c o c1 _ c3 c4 e => b7 c o c1 c3 c4 e, ⟨_, _, b7 _ _ D.TOz D.TOi1 D.TOi2 pO⟩, b3, b4⟩ b5 b6 fun c o c1 _ c3 c4 e => b7 c o c1 c3 c4 e)
abbrev Stop (h : Heap) (e : Addr) : Prop := ∃ o, h.get? e = some o ∧ o.cls = .type "StopIteration"
theorem end_any {z TI TO i1 i2 l1 l2 : Addr} {k1 k2 : Nat} {x1 x2 : Str} {t1 t2 : Tok} {a b p q : Value} {Q : Fin → Shared → Prop} (hh : A.handled = none) (D : ZipApart z TI TO i1 i2 l1 l2)
    (zz : ZipU s.heap z TI TO p q) (fr : ∀ R : Bool → Shared → Prop, R true s → wpAny (model prog w) A (Builtin.SmallTypes.ownedTupleIsFree (.ref z)) R E s) (pI : IsPair s.heap TI (.ref i1) (.ref i2)) (pO : IsPair s.heap TO a b)
    (h1 : Ti s.heap i1 x1 t1 k1) (h2 : Ti s.heap i2 x2 t2 k2) (ge : x1.cps[k1]? = none ∨ x2.cps[k2]? = none)
    (hE : ∀ h' e tk, Kp s h' z TO i1 i2 → Stop h' e → E (.ref e) { s with heap := h', toks := tk }) :
    wpAny (model prog w) A (Builtin.«zip.__next__» ⟨[.ref z], []⟩) Q E s := by
  show wpAny _ _ (field (.ref z) 2 >>= _) _ _ s
  refine wpAny_bind (wpAny_field zz rfl (x := .bool false) rfl ?_)
  show wpAny _ _ (field (.ref z) 3 >>= _) _ _ s
  refine wpAny_bind (wpAny_field zz rfl (x := .ref TI) rfl (wpAny_bind (wpAny_seqItems pI rfl ?_)))
  show wpAny _ _ (Builtin.SmallTypes.ownedTupleIsFree (.ref z) >>= _) _ _ s
  refine wpAny_bind (fr _ ?_)
  simp only [if_true]
  refine wpAny_bind (wpAny_rule (wpAny_bind (wpAny_field zz rfl (x := .ref TO) rfl (wpAny_bind (wpAny_setField_rec zz (by simp) fun g1 z1 s1 => ?_)))))
  replace z1 : ZipU g1 z TI TO .ellipsis q := z1
  refine wpAny_bind ?_
  simp only [List.zipIdx_cons, List.zipIdx_nil, List.forIn_cons, List.forIn_nil]
  refine wpAny_bind (wpAny_bind (wpAny_onRaise ?_))
  show wpAny _ _ (Builtin.SmallTypes.nextOf (.ref i1) >>= _) _ _ { s with heap := g1 }
  cases gx : x1.cps[k1]? with
  | none =>
    refine wpAny_bind (txt_end (s := { s with heap := g1 }) hh (h1.extBut s1.extBut D.i1z) gx fun g2 er s2 he => ?_)
    obtain ⟨oe, ho, hc⟩ := he
    have z2 : ZipU g2 z TI TO .ellipsis q := s2 _ _ D.i1z.symm z1
    have ez : er ≠ z := fun x => by subst x; rw [z2] at ho; cases ho; simp at hc
    exact wpAny_setField_rec (s := { s with heap := g2 }) z2 (by simp) fun g3 _ s3 => hE g3 er s.toks (fun c o c1 _ c3 _ x => s3.extBut _ _ c1 (s2 _ _ c3 (s1.extBut _ _ c1 x))) ⟨oe, s3.extBut _ _ ez ho, hc⟩
  | some c1 =>
    have gy : x2.cps[k2]? = none := by rcases ge with h | h; (rw [gx] at h; cases h); exact h
    refine wpAny_bind (txt_item (s := { s with heap := g1 }) (h1.extBut s1.extBut D.i1z) gx fun g2 u1 s2 => wpAny_pure ?_)
    show wpAny _ _ _ _ _ { s with heap := g2, toks := s.toks + 1 }
    have o2 : IsPair g2 TO a b := s2.extBut _ _ D.TOi1 (s1.extBut _ _ D.TOz pO)
    refine wpAny_bind (wpAny_seqItems (s := { s with heap := g2, toks := s.toks + 1 }) o2 rfl (wpAny_bind (wpAny_updateSeq_pair (s := { s with heap := g2, toks := s.toks + 1 }) o2 fun g3 o3 s3 => ?_)))
    refine wpAny_bind (wpAny_letGo (wpAny_pure (wpAny_bind (wpAny_bind (wpAny_onRaise ?_)))))
    show wpAny _ _ (Builtin.SmallTypes.nextOf (.ref i2) >>= _) _ _ { s with heap := g3, toks := s.toks + 1 }
    refine wpAny_bind (txt_end (s := { s with heap := g3, toks := s.toks + 1 }) hh (((h2.extBut s1.extBut D.i2z).extBut s2.extBut D.i12.symm).extBut s3.extBut D.TOi2.symm) gy fun g4 er s4 he => ?_)
    obtain ⟨oe, ho, hc⟩ := he
    have z4 : ZipU g4 z TI TO .ellipsis q := s4 _ _ D.i2z.symm (s3.extBut _ _ D.TOz.symm (s2.extBut _ _ D.i1z.symm z1))
    have ez : er ≠ z := fun x => by subst x; rw [z4] at ho; cases ho; simp at hc
    exact wpAny_setField_rec (s := { s with heap := g4, toks := s.toks + 1 }) z4 (by simp) fun g5 _ s5 => hE g5 er (s.toks + 1) (fun c o c1 c2 c3 c4 x => s5.extBut _ _ c1 (s4 _ _ c4 (s3.extBut _ _ c2 (s2.extBut _ _ c3 (s1.extBut _ _ c1 x))))) ⟨oe, s5.extBut _ _ ez ho, hc⟩
theorem end_held {z TI TO T i1 i2 l1 l2 : Addr} {f : Bool} {oT : Obj} {k1 k2 : Nat} {x1 x2 : Str} {t1 t2 : Tok} {Q : Fin → Shared → Prop} (hh : A.handled = none) (D : ZipApart z TI TO i1 i2 l1 l2)
    (hz : IsZipHeld s.heap z TI TO T f) (hT : s.heap.get? T = some oT) (hTI : IsPair s.heap TI (.ref i1) (.ref i2))
    (h1 : Ti s.heap i1 x1 t1 k1) (h2 : Ti s.heap i2 x2 t2 k2) (ge : x1.cps[k1]? = none ∨ x2.cps[k2]? = none)
    (hE : ∀ h' e tk, (∀ c o, c ≠ z → c ≠ i1 → c ≠ i2 → s.heap.get? c = some o → h'.get? c = some o) → Stop h' e → E (.ref e) { s with heap := h', toks := tk }) :
    wpAny (model prog w) A (Builtin.«zip.__next__» ⟨[.ref z], []⟩) Q E s := by
  show wpAny _ _ (field (.ref z) 2 >>= _) _ _ _
  refine wpAny_bind (wpAny_field hz rfl (x := .bool false) rfl ?_)
  show wpAny _ _ (field (.ref z) 3 >>= _) _ _ _
  refine wpAny_bind (wpAny_field hz rfl (x := .ref TI) rfl (wpAny_bind (wpAny_seqItems hTI rfl ?_)))
  show wpAny _ _ (Builtin.SmallTypes.ownedTupleIsFree (.ref z) >>= _) _ _ _
  refine wpAny_bind (wpAny_tupleHeld_zip hz hT fun g1 z1 s1 => ?_)
  simp only [Bool.false_eq_true, if_false]
  refine wpAny_bind ?_
  rw [← Array.forIn_toList]
  simp only [List.forIn_cons, List.forIn_nil]
  refine wpAny_bind (wpAny_bind (wpAny_holding ?_))
  show wpAny _ _ (Builtin.SmallTypes.nextOf (.ref i1) >>= _) _ _ _
  cases gx : x1.cps[k1]? with
  | none =>
    refine wpAny_bind (txt_end (s := { s with heap := g1 }) hh (h1.extBut s1.extBut D.i1z) gx fun g2 e s2 he => ?_)
    exact hE g2 e s.toks (fun c o c1 c2 _ x => s2 _ _ c2 (s1.extBut _ _ c1 x)) he
  | some c1 =>
    have gy : x2.cps[k2]? = none := by rcases ge with h | h; (rw [gx] at h; cases h); exact h
    refine wpAny_bind (txt_item (s := { s with heap := g1 }) (h1.extBut s1.extBut D.i1z) gx fun g2 u1 s2 => wpAny_pure (wpAny_pure ?_))
    refine wpAny_bind (wpAny_bind (wpAny_holding ?_))
    show wpAny _ _ (Builtin.SmallTypes.nextOf (.ref i2) >>= _) _ _ _
    refine wpAny_bind (txt_end (s := { s with heap := g2, toks := s.toks + 1 }) hh ((h2.extBut s1.extBut D.i2z).extBut s2.extBut D.i12.symm) gy fun g3 e s3 he => ?_)
    exact hE g3 e (s.toks + 1) (fun c o c1 c2 c3 x => s3 _ _ c3 (s2.extBut _ _ c2 (s1.extBut _ _ c1 x))) he
theorem zip_over {z TI TO i1 i2 l1 l2 : Addr} {i : Nat} {x1 x2 : Str} {t1 t2 : Tok} {Q : Value → Shared → Prop} (hh : A.handled = none) (D : ZipApart z TI TO i1 i2 l1 l2) (st : ZT.ZipAt s.heap z TI TO i1 i2 x1 t1 x2 t2 i)
    (ge : x1.cps[i]? = none ∨ x2.cps[i]? = none) (hE : ∀ h' e tk, Kp s h' z TO i1 i2 → Stop h' e → E (.ref e) { s with heap := h', toks := tk }) :
    wpAny (model prog w) A (Builtin.SmallTypes.nextOf (.ref z)) Q E s := by
  obtain ⟨hz, pI, ⟨a, b, pO⟩, h1, h2⟩ := st
  have ty : s.TypeIs (.ref z) "zip" := by
    rcases hz with h | ⟨_, _, h⟩
    · exact ⟨_, h, rfl⟩
    · exact ⟨_, h, rfl⟩
  unfold Builtin.SmallTypes.nextOf
  refine wpAny_bind (wpAny_callSpecial?_slot (name := Str.ofString "__next__") ty F.slot_zip_next (wpAny_call_entry F.slot_zip_next ty F.entry_zip_next ?_ (F.args_zip_next_1 _)))
  rcases hz with h | ⟨T, f, h⟩
  · refine end_any hh D h (fun R k => ?_) pI pO h1 h2 ge hE
    unfold Builtin.SmallTypes.ownedTupleIsFree
    exact wpAny_bind (wpAny_field h rfl (x := .none) rfl (wpAny_pure k))
  · cases al : s.heap.get? T with
    | none => exact end_any hh D h (fun R k => tuple_gone h al k) pI pO h1 h2 ge hE
    | some oT => exact end_held hh D h al pI h1 h2 ge fun h' e tk b1 b2 => hE h' e tk (fun c o c1 _ c3 c4 e => b1 c o c1 c3 c4 e) b2
theorem enum_turnT {e it : Addr} {i : Nat} {old x : Value} {G : Heap → Prop} {Q : Option Value → Shared → Prop} (he : IsEnum s.heap e it (i : Nat) old)
    (draw : ∀ (B : Around) (E' : Value → Shared → Prop) (R : Value → Shared → Prop), (∀ h1 tk, G h1 → IsEnum h1 e it (i : Nat) old → R x { s with heap := h1, toks := tk }) → wpAny (model prog w) B (Builtin.SmallTypes.nextOf (.ref it)) R E' s)
    (hQ : ∀ h1 h' tk, G h1 → IsEnumOut h' e it ((i : Int) + 1) x h1.objs.size → h'.get? h1.objs.size = some { cls := .type "tuple", data := .seq #[.int i tk, x] } → h'.objs.size = h1.objs.size + 1 →
      (∀ b o, b ≠ e → h1.get? b = some o → h'.get? b = some o) → Q (some (.ref h1.objs.size)) { s with heap := h', toks := tk + 1 }) :
    wpAny (model prog w) A (pyNext (.ref e)) Q E s := by
  have ty : s.TypeIs (.ref e) "enumerate" := ⟨_, he, rfl⟩
  unfold pyNext
  refine wpAny_bind (wpAny_attempt (wpAny_callSpecial?_slot (name := Str.ofString "__next__") ty F.slot_enumerate_next (wpAny_call_entry F.slot_enumerate_next ty F.entry_enumerate_next ?_ (F.args_enumerate_next_1 _))))
  show wpAny _ _ (field (.ref e) 2 >>= _) _ _ s
  refine wpAny_bind (wpAny_field he rfl (x := .ref it) rfl (wpAny_bind (draw _ _ _ fun h1 tk hG e1 => ?_)))
  show wpAny _ _ (field (.ref e) 3 >>= _) _ _ { s with heap := h1, toks := tk }
  refine wpAny_bind (wpAny_field (s := { s with heap := h1, toks := tk }) e1 rfl (x := rawInt i) rfl ?_)
  show wpAny _ _ (field (.ref e) 4 >>= _) _ _ { s with heap := h1, toks := tk }
  refine wpAny_bind (wpAny_field (s := { s with heap := h1, toks := tk }) e1 rfl (x := .none) rfl ?_)
  show wpAny _ _ (mkInt i >>= _) _ _ { s with heap := h1, toks := tk }
  refine wpAny_bind (wpAny_mkInt ?_)
  show wpAny _ _ (setField (.ref e) 3 (rawInt ((i : Int) + 1)) >>= _) _ _ { s with heap := h1, toks := tk + 1 }
  refine wpAny_bind (wpAny_setField_rec (s := { s with heap := h1, toks := tk + 1 }) e1 (by simp) fun h2 e2 s2 => ?_)
  replace e2 : IsEnum h2 e it ((i : Int) + 1) old := e2
  show wpAny _ _ (setField (.ref e) 4 .none >>= _) _ _ { s with heap := h2, toks := tk + 1 }
  refine wpAny_bind (wpAny_setField_rec (s := { s with heap := h2, toks := tk + 1 }) e2 (by simp) fun h3 e3 s3 => ?_)
  replace e3 : IsEnum h3 e it ((i : Int) + 1) old := e3
  show wpAny _ _ (newTuple [.int i tk, x] >>= _) _ _ { s with heap := h3, toks := tk + 1 }
  refine wpAny_bind (wpAny_newTuple ?_)
  have e4 : IsEnum (h3.push { cls := .type "tuple", data := .seq #[.int i tk, x] }) e it ((i : Int) + 1) old := Heap.get?_push_of_some _ e3
  have t4 : (h3.push { cls := .type "tuple", data := .seq #[.int i tk, x] }).get? h3.objs.size = some { cls := .type "tuple", data := .seq #[.int i tk, x] } := Heap.get?_push_size _ rfl
  have n4 : (h3.push { cls := .type "tuple", data := .seq #[.int i tk, x] }).objs.size = h3.objs.size + 1 := Heap.size_push ..
  have k4 : ∀ b o, b ≠ e → h1.get? b = some o → (h3.push { cls := .type "tuple", data := .seq #[.int i tk, x] }).get? b = some o := fun b o hb q => Heap.get?_push_of_some _ (s3.extBut b o hb (s2.extBut b o hb q))
  have z3 : h3.objs.size = h1.objs.size := by rw [s3.1, s2.1]
  rw [z3] at t4 n4
  have le : e < h1.objs.size := Heap.lt_size e1
  show wpAny _ _ (Builtin.SmallTypes.ownedTupleIsFree (.ref e) >>= _) _ _ { s with heap := h3.push { cls := .type "tuple", data := .seq #[.int i tk, x] }, toks := tk + 1 }
  rw [z3]
  generalize h3.push { cls := .type "tuple", data := .seq #[.int i tk, x] } = h4 at e4 t4 n4 k4 ⊢
  refine wpAny_bind ?_
  unfold Builtin.SmallTypes.ownedTupleIsFree
  refine wpAny_bind (wpAny_field (s := { s with heap := h4, toks := tk + 1 }) e4 rfl (x := .none) rfl (wpAny_pure ?_))
  simp only [if_true]
  refine wpAny_bind (wpAny_rule (wpAny_bind (wpAny_field (s := { s with heap := h4, toks := tk + 1 }) e4 rfl (x := old) rfl ?_)))
  refine wpAny_bind (wpAny_setField_rec (s := { s with heap := h4, toks := tk + 1 }) e4 (by simp) fun h5 e5 s5 => ?_)
  replace e5 : IsEnum h5 e it ((i : Int) + 1) x := e5
  show wpAny _ _ (Builtin.SmallTypes.ownedTupleHandOut (.ref e) (.ref h1.objs.size) >>= _) _ _ { s with heap := h5, toks := tk + 1 }
  refine wpAny_bind ?_
  unfold Builtin.SmallTypes.ownedTupleHandOut
  refine wpAny_bind (wpAny_setField_rec (s := { s with heap := h5, toks := tk + 1 }) e5 (by simp) fun h6 e6 s6 => ?_)
  replace e6 : IsEnumOut h6 e it ((i : Int) + 1) x h1.objs.size := e6
  refine wpAny_setField_rec (s := { s with heap := h6, toks := tk + 1 }) e6 (by simp) fun h7 e7 s7 => ?_
  replace e7 : IsEnumOut h7 e it ((i : Int) + 1) x h1.objs.size := e7
  refine wpAny_bind (wpAny_letGo (wpAny_pure ⟨_, rfl, wpAny_pure (hQ h1 h7 tk hG e7 ?_ ?_ ?_)⟩))
  · exact s7.extBut _ _ (Nat.ne_of_gt le) (s6.extBut _ _ (Nat.ne_of_gt le) (s5.extBut _ _ (Nat.ne_of_gt le) t4))
  · rw [s7.1, s6.1, s5.1, n4]
  · exact fun b o hb q => s7.extBut b o hb (s6.extBut b o hb (s5.extBut b o hb (k4 b o hb q)))
theorem enum_overT {e it : Addr} {i : Nat} {old : Value} {G : Heap → Prop} {Q : Option Value → Shared → Prop} (he : IsEnum s.heap e it (i : Nat) old)
    (draw : ∀ (B : Around) (E' : Value → Shared → Prop) (R : Value → Shared → Prop), B.handled = A.handled → (∀ h1 er tk, G h1 → (∃ o, h1.get? er = some o ∧ o.cls = .type "StopIteration") → E' (.ref er) { s with heap := h1, toks := tk }) → wpAny (model prog w) B (Builtin.SmallTypes.nextOf (.ref it)) R E' s)
    (hQ : ∀ h1 tk, G h1 → Q none { s with heap := h1, toks := tk }) : wpAny (model prog w) A (pyNext (.ref e)) Q E s := by
  have ty : s.TypeIs (.ref e) "enumerate" := ⟨_, he, rfl⟩
  unfold pyNext
  refine wpAny_bind (wpAny_attempt (wpAny_callSpecial?_slot (name := Str.ofString "__next__") ty F.slot_enumerate_next (wpAny_call_entry F.slot_enumerate_next ty F.entry_enumerate_next ?_ (F.args_enumerate_next_1 _))))
  show wpAny _ _ (field (.ref e) 2 >>= _) _ _ s
  refine wpAny_bind (wpAny_field he rfl (x := .ref it) rfl (wpAny_bind (draw _ _ _ rfl fun h1 er tk hG hx => ?_)))
  obtain ⟨o, ho, hc⟩ := hx
  exact wpAny_bind (wpAny_isInstance (T := "StopIteration") (b := true) ⟨o, ho, hc⟩ isSubtype_stop (wpAny_pure (hQ h1 tk hG)))
end
/-- two texts, sign beside sign, behind their number -/
def Itzt (x1 x2 : Str) : It where
  go := fun i _ => i < x1.cps.size ∧ i < x2.cps.size
  yld := fun i H v H' => ∃ (S T : Addr) (c1 c2 : Nat), v = .ref T ∧ H S = none ∧ upd H S (.tup [.str ⟨#[c1]⟩, .str ⟨#[c2]⟩]) T = none ∧ H' = upd (upd H S (.tup [.str ⟨#[c1]⟩, .str ⟨#[c2]⟩])) T (.tup [.int (i : Nat), .ref S]) ∧ x1.cps[i]? = some c1 ∧ x2.cps[i]? = some c2
  stop := fun i _ => x1.cps.size ≤ i ∨ x2.cps.size ≤ i
theorem turn_zt {P : Program} {w : World} {K : PySem.W.Frag} {elts : List Expr} {kk : Nat} {tpos : Pos} {e z TI TO i1 i2 l1 l2 : Addr} {x1 x2 : Str} {t1 t2 : Tok} (D : ZipApart z TI TO i1 i2 l1 l2) (ne : e ∉ [z, TI, TO, i1, i2]) :
    Turn P w K (.Tuple elts kk tpos) (Itzt x1 x2) [e, z, TI, TO, i1, i2] e fun i h => (∃ old, IsEnum h e z (i : Nat) old) ∧ ZT.ZipAt h z TI TO i1 i2 x1 t1 x2 t2 i where
  mem := List.mem_cons_self ..
  obj := fun i h st c hc => by
    obtain ⟨⟨old, he⟩, hz, pI, ⟨x, y, pO⟩, ⟨o1, e1, _, d1⟩, ⟨o2, e2, _, d2⟩⟩ := st
    simp only [List.mem_cons, List.not_mem_nil, or_false] at hc
    rcases hc with q | q | q | q | q | q
    · rw [q]; exact ⟨_, he, fun v q => nomatch q⟩
    · rw [q]
      rcases hz with h | ⟨_, _, h⟩
      · exact ⟨_, h, fun v q => nomatch q⟩
      · exact ⟨_, h, fun v q => nomatch q⟩
    · rw [q]; exact ⟨_, pI, fun v q => nomatch q⟩
    · rw [q]; exact ⟨_, pO, fun v q => nomatch q⟩
    · rw [q]; exact ⟨o1, e1, fun v q => by rw [d1] at q; cases q⟩
    · rw [q]; exact ⟨o2, e2, fun v q => by rw [d2] at q; cases q⟩
  keep := fun i h h' st k => by
    obtain ⟨⟨old, he⟩, hz, pI, ⟨x, y, pO⟩, h1, h2⟩ := st
    refine ⟨⟨old, k e (by simp) _ he⟩, ?_, k TI (by simp) _ pI, ⟨x, y, k TO (by simp) _ pO⟩, ti_at h1 fun o q => k i1 (by simp) o q, ti_at h2 fun o q => k i2 (by simp) o q⟩
    rcases hz with h | ⟨T, f, h⟩
    · exact .inl (k z (by simp) _ h)
    · exact .inr ⟨T, f, k z (by simp) _ h⟩
  item := by
    intro X hP hw hK hc i pins s σ H E I hf st hg
    subst hP hw hK
    obtain ⟨⟨old, he⟩, zt⟩ := st
    obtain ⟨hg1, hg2⟩ := hg
    obtain ⟨c1, hc1⟩ : ∃ c, x1.cps[i]? = some c := ⟨_, Array.getElem?_eq_getElem hg1⟩
    obtain ⟨c2, hc2⟩ : ∃ c, x2.cps[i]? = some c := ⟨_, Array.getElem?_eq_getElem hg2⟩
    have nez : e ≠ z := fun q => ne (by simp [q])
    have neO : e ≠ TO := fun q => ne (by simp [q])
    have ne1 : e ≠ i1 := fun q => ne (by simp [q])
    have ne2 : e ≠ i2 := fun q => ne (by simp [q])
    have lt : ∀ {c o}, s.heap.get? c = some o → c < s.heap.objs.size := fun q => Heap.lt_size q
    have fpl : ∀ c ∈ [e, z, TI, TO, i1, i2], c < s.heap.objs.size := fun c hcm => by
      obtain ⟨hz, pI, ⟨x, y, pO⟩, ⟨_, e1, _⟩, ⟨_, e2, _⟩⟩ := zt
      simp only [List.mem_cons, List.not_mem_nil, or_false] at hcm
      rcases hcm with q | q | q | q | q | q
      · rw [q]; exact lt he
      · rw [q]
        rcases hz with h | ⟨_, _, h⟩
        · exact lt h
        · exact lt h
      · rw [q]; exact lt pI
      · rw [q]; exact lt pO
      · rw [q]; exact lt e1
      · rw [q]; exact lt e2
    refine enum_turnT (x := .ref s.heap.objs.size) (G := fun h1 => ZT.ZipAt h1 z TI TO i1 i2 x1 t1 x2 t2 (i + 1) ∧ IsPair h1 s.heap.objs.size (sg c1 s.toks) (sg c2 (s.toks + 1)) ∧ h1.objs.size = s.heap.objs.size + 1 ∧ Kp s h1 z TO i1 i2) he
      (fun B E' R k => ZT.zip_draw D zt hc1 hc2 fun h1 g1 g2 g3 g4 => k h1 _ ⟨g1, g2, g3, g4⟩ (g4 e _ nez neO ne1 ne2 he)) fun h1 h' tk hG ho hT hsz hk => ⟨_, rfl, ?_⟩
    obtain ⟨g1, g2, g3, g4⟩ := hG
    refine wpAny_letOwnedTupleGo_enum (s := { s with heap := h', toks := tk + 1 }) ho fun h'' he'' sb => ?_
    have kk2 : ∀ c o, c ≠ e → h1.get? c = some o → h''.get? c = some o := fun c o hne q => (sb.2 c hne).trans (hk c o hne q)
    have I1 : Inv X pins σ (upd H s.heap.objs.size (.tup [.str ⟨#[c1]⟩, .str ⟨#[c2]⟩])) { s with heap := h1, toks := tk } :=
      I.turnedNew (t' := tk) (ch := [z, TO, i1, i2]) (fun c o hb q => g4 c o (fun q' => hb (by simp [q'])) (fun q' => hb (by simp [q'])) (fun q' => hb (by simp [q'])) (fun q' => hb (by simp [q'])) q) (fun c hcm => hf c (by
        simp only [List.mem_cons, List.not_mem_nil, or_false] at hcm ⊢
        rcases hcm with q | q | q | q <;> simp [q])) (Nat.le_refl _)
        ⟨by show 2 ≤ sizeLine; decide, [sg c1 s.toks, sg c2 (s.toks + 1)], .cons ⟨_, rfl⟩ (.cons ⟨_, rfl⟩ .nil), ⟨_, g2, rfl, _, rfl⟩⟩
    have nS : H s.heap.objs.size = none := I.hok.fresh (Nat.le_refl _)
    have hel : e < s.heap.objs.size := lt he
    have fe := hf e (List.mem_cons_self ..)
    have T2 : h''.get? h1.objs.size = some { cls := .type "tuple", data := .seq #[.int i tk, .ref s.heap.objs.size] } := (sb.2 _ (Nat.ne_of_gt (Nat.lt_of_lt_of_le hel (by rw [g3]; exact Nat.le_succ _)))).trans hT
    have I2 : Inv X pins σ (upd (upd H s.heap.objs.size (.tup [.str ⟨#[c1]⟩, .str ⟨#[c2]⟩])) h1.objs.size (.tup [.int (i : Nat), .ref s.heap.objs.size])) { s with heap := h'', toks := tk + 1 } :=
      I1.turnedNew (t' := tk + 1) (ch := [e]) (fun c o hb q => kk2 c o (by simpa using hb) q) (fun c hcm => by
        have hce : c = e := by simpa using hcm
        subst hce
        exact ⟨by rw [upd_ne (Nat.ne_of_lt hel)]; exact fe.1, fe.2⟩) (Nat.le_refl _)
        ⟨by show 2 ≤ sizeLine; decide, [.int i tk, .ref s.heap.objs.size], .cons ⟨tk, rfl⟩ (.cons rfl .nil), ⟨_, T2, rfl, _, rfl⟩⟩
    refine ⟨.ref h1.objs.size, _, I2, rfl, ⟨s.heap.objs.size, h1.objs.size, c1, c2, rfl, nS, I1.hok.fresh (Nat.le_refl _), rfl, hc1, hc2⟩, ⟨⟨_, he''⟩, ?_⟩, fun c hcm => ?_⟩
    · obtain ⟨hz, pI, ⟨x', y', pO⟩, h1', h2'⟩ := g1
      have nTI : TI ≠ e := fun q => ne (by simp [q])
      refine ⟨?_, kk2 _ _ nTI pI, ⟨x', y', kk2 _ _ neO.symm pO⟩, ti_at h1' fun o q => kk2 i1 o ne1.symm q, ti_at h2' fun o q => kk2 i2 o ne2.symm q⟩
      rcases hz with h | ⟨T, f, h⟩
      · exact .inl (kk2 z _ nez.symm h)
      · exact .inr ⟨T, f, kk2 z _ nez.symm h⟩
    · have hlt := fpl c hcm
      rw [upd_ne (Nat.ne_of_lt (Nat.lt_of_lt_of_le hlt (by rw [g3]; exact Nat.le_succ _))), upd_ne (Nat.ne_of_lt hlt)]
      exact (hf c hcm).1
  done := by
    intro X hP hw hK hc i pins s σ H E I hf st hg
    subst hP hw hK
    obtain ⟨⟨old, he⟩, zt⟩ := st
    have ge : x1.cps[i]? = none ∨ x2.cps[i]? = none := hg.imp (fun q => Array.getElem?_eq_none q) fun q => Array.getElem?_eq_none q
    refine enum_overT (G := fun h1 => Kp s h1 z TO i1 i2) he (fun B E' R hB k => ZT.zip_over (hB.trans (I.ok.hd hc)) D zt ge fun h' er tk g1 g2 => k h' er tk g1 g2) fun h1 tk g4 => ⟨rfl, ?_⟩
    exact I.turnedL (t' := tk) (ch := [z, TO, i1, i2]) (fun c o hb q => g4 c o (fun q' => hb (by simp [q'])) (fun q' => hb (by simp [q'])) (fun q' => hb (by simp [q'])) (fun q' => hb (by simp [q'])) q) (fun c hcm => hf c (by
        simp only [List.mem_cons, List.not_mem_nil, or_false] at hcm ⊢
        rcases hcm with q | q | q | q <;> simp [q]))
  self := fun A i s Q E st h => let ⟨⟨_, he⟩, _⟩ := st; wpAny_pyIter_enum he h
def iEnumZipS (ta : TA) : TI := fun σ H R => ta σ H fun vs H1 => ∃ x1 x2, vs = [.str x1, .str x2] ∧ R (Itzt x1 x2) H1
theorem pi_enumZipS {X : Cx} {e e2 : Expr} {ta : TA} {p pos p2 pos2 tpos : Pos} {elts : List Expr} {kk : Nat} (hg : Gl X "enumerate") (hm : X.mg "enumerate" = none) (hgz : Gl X "zip") (hmz : X.mg "zip" = none) (ha : PA X [e, e2] ta)
    (ho : starEach [.Call (.Name "zip" p2) [e, e2] [] pos2] X.env = [(false, eval (.Call (.Name "zip" p2) [e, e2] [] pos2) X.env)] := by rfl)
    (hs : starEach [e, e2] X.env = (false, eval e X.env) :: starEach [e2] X.env := by rfl) (hpl : (backTo pos2 (starEach [e2] X.env)).any (·.1) = false := by rfl) :
    PI X (.Tuple elts kk tpos) (.Call (.Name "enumerate" p) [.Call (.Name "zip" p2) [e, e2] [] pos2] [] pos) (iEnumZipS ta) := by
  refine ⟨fun pins s σ H R I h => ?_⟩
  refine wpAny_Call_Name_kw (ld_blt I hg hm boot_enumerate ?_)
  rw [ho]
  refine callWith_type1 (Call_ (ld_blt I hgz hmz PyProof.Rows.boot_zip (PyProof.Rows.callWith_type1 (thn (ha.run pos2 pins s σ H _ I h) fun us s1 ⟨vs, H1, I1, r1, q1⟩ => ?_) hs hpl)))
  obtain ⟨x1, x2, ex, q⟩ := q1
  subst ex
  cases r1 with
  | cons r rr =>
    cases rr with
    | cons r' rr =>
      cases rr
      obtain ⟨t1, rfl⟩ := r
      obtain ⟨t2, rfl⟩ := r'
      refine zip_begins2 (begins_text x1 t1) (begins_text x2 t2) trivial trivial fun h1 hz hTI hTO g1 g2 hsz hk => ?_
      refine call_enumZ (s := { s1 with heap := h1 }) hz fun h' hE hk2 => wpAny_pyIter_enum hE ?_
      have I2 : Inv X pins σ H1 { s1 with heap := h' } := I1.kept (t' := s1.toks) fun c o q => hk2 c o (hk c o q)
      have es : ({ s1 with heap := h1 } : Shared).heap.objs.size = s1.heap.objs.size + 5 := hsz
      rw [es] at hE ⊢
      have hpos : 0 < s1.heap.objs.size := Nat.lt_of_le_of_lt (Nat.zero_le _) I1.lt
      refine ⟨s1.heap.objs.size + 5, [s1.heap.objs.size + 5, s1.heap.objs.size + 4, s1.heap.objs.size + 2, s1.heap.objs.size + 3, s1.heap.objs.size, s1.heap.objs.size + 1], _, _, H1, rfl, I2, turn_zt (t1 := t1) (t2 := t2) (PySem.W.ktu_apart s1.heap.objs.size 0 0 hpos hpos) ?_, ⟨⟨_, hE⟩, .inl (hk2 _ _ hz), hk2 _ _ hTI, ⟨_, _, hk2 _ _ hTO⟩, ⟨_, hk2 _ _ g1, rfl, rfl⟩, ⟨_, hk2 _ _ g2, rfl, rfl⟩⟩, fun c hcm => ?_, q⟩
      · have five : ∀ n : Nat, n + 5 ∉ [n + 4, n + 2, n + 3, n, n + 1] := fun n => by simp
        exact five _
      · have all : ∀ n c : Nat, c ∈ [n + 5, n + 4, n + 2, n + 3, n, n + 1] → n ≤ c := fun n c h => by
          simp only [List.mem_cons, List.not_mem_nil, or_false] at h
          omega
        have hle := all _ _ hcm
        exact I1.fpOk hle (I1.hok.fresh hle)
theorem walk_zt {x1 x2 : Str} (hl : x1.cps.size = x2.cps.size) : Walk (Itzt x1 x2) x1.cps.size (fun _ => True) (fun i H v H' => ∃ (S T : Addr) (c1 c2 : Nat), v = .ref T ∧ H S = none ∧ upd H S (.tup [.str ⟨#[c1]⟩, .str ⟨#[c2]⟩]) T = none ∧ H' = upd (upd H S (.tup [.str ⟨#[c1]⟩, .str ⟨#[c2]⟩])) T (.tup [.int (i : Nat), .ref S]) ∧ x1.cps[i]? = some c1 ∧ x2.cps[i]? = some c2) := by
  refine ⟨fun i H hi h => ⟨hi, by omega⟩, fun H h => .inl (Nat.le_refl _), fun i H x H' hi h hy => hy⟩
end ZT

namespace TG
open PySem PySem.Spec PyProof.Rows L2 Gx EnT
theorem same_tr {H H1 H2 : Hp} (x : Same H H1) (y : Same H1 H2) : Same H H2 := fun b u e => y b u (x b u e)
structure TupL (H0 : Hp) (D : Addr) (l : List (List V)) (H : Hp) : Prop where
  sm : Same H0 H
  nD : H0 D = none
  ts : ∃ ts : List Addr, H D = some (.lst (ts.map V.ref)) ∧ ts.length = l.length ∧ ∀ (j : Nat) (t : Addr) (v : List V), ts[j]? = some t → l[j]? = some v → H t = some (.tup v)
theorem TupL.start {H0 : Hp} {D : Addr} (n : H0 D = none) : TupL H0 D [] (upd H0 D (.lst [])) := ⟨same_new n, n, [], upd_same, rfl, fun j t v h => by cases h⟩
theorem TupL.grow {H0 H H' : Hp} {D : Addr} {l : List (List V)} (o : TupL H0 D l H) (x : Same H H') : TupL H0 D l H' := by
  obtain ⟨ts, h1, h2, h3⟩ := o.ts
  exact ⟨fun b u e => x b u (o.sm b u e), o.nD, ts, x _ _ h1, h2, fun j t v e1 e2 => x _ _ (h3 j t v e1 e2)⟩
theorem TupL.more {H0 H : Hp} {D t : Addr} {l : List (List V)} {v : List V} (o : TupL H0 D l H) (ht : H t = some (.tup v)) : ∃ acc, H D = some (.lst acc) ∧ acc.length = l.length ∧ TupL H0 D (l ++ [v]) (upd H D (.lst (acc ++ [.ref t]))) := by
  obtain ⟨ts, h1, h2, h3⟩ := o.ts
  have tD : ∀ {t : Addr} {v : List V}, H t = some (.tup v) → t ≠ D := fun {t v} h z => by rw [z, h1] at h; cases h
  refine ⟨_, h1, by rw [List.length_map, h2], fun b u e => by rw [upd_ne (ne_of_none e o.nD)]; exact o.sm b u e, o.nD, ts ++ [t], by rw [upd_same]; simp, by rw [List.length_append, List.length_append, h2]; rfl, fun j s u e1 e2 => ?_⟩
  by_cases hj : j < ts.length
  · rw [List.getElem?_append_left hj] at e1
    rw [List.getElem?_append_left (by rw [← h2]; exact hj)] at e2
    have := h3 j s u e1 e2
    rw [upd_ne (tD this)]
    exact this
  · have hl := (List.getElem?_eq_some_iff.mp e1).1
    rw [List.length_append, List.length_singleton] at hl
    have ej : j = ts.length := by omega
    subst ej
    rw [List.getElem?_append_right (Nat.le_refl _), Nat.sub_self] at e1
    rw [h2, List.getElem?_append_right (Nat.le_refl _), Nat.sub_self] at e2
    cases e1
    cases e2
    rw [upd_ne (tD ht)]
    exact ht
theorem TupL.lst {H0 H : Hp} {D : Addr} {l : List (List V)} (o : TupL H0 D l H) : ∃ acc, H D = some (.lst acc) ∧ acc.length = l.length := by
  obtain ⟨ts, h1, h2, _⟩ := o.ts
  exact ⟨_, h1, by rw [List.length_map, h2]⟩
/-- the last -/
theorem TupL.peek {H0 H : Hp} {D : Addr} {l : List (List V)} {v0 : List V} (o : TupL H0 D (l ++ [v0]) H) : ∃ (acc : List V) (t0 : Addr), H D = some (.lst acc) ∧ acc.length = l.length + 1 ∧ acc[l.length]? = some (.ref t0) ∧ H t0 = some (.tup v0) := by
  obtain ⟨ts, h1, h2, h3⟩ := o.ts
  rw [List.length_append, List.length_singleton] at h2
  obtain ⟨t0, e0⟩ : ∃ t0, ts[l.length]? = some t0 := ⟨_, List.getElem?_eq_getElem (by omega)⟩
  exact ⟨_, t0, h1, by rw [List.length_map, h2], by rw [List.getElem?_map, e0]; rfl, h3 l.length t0 v0 e0 (by rw [List.getElem?_append_right (Nat.le_refl _), Nat.sub_self]; rfl)⟩
/-- the last is another -/
theorem TupL.last {H0 H : Hp} {D t : Addr} {l : List (List V)} {v0 v : List V} (o : TupL H0 D (l ++ [v0]) H) (ht : H t = some (.tup v)) : ∃ (acc : List V) (t0 : Addr), H D = some (.lst acc) ∧ acc.length = l.length + 1 ∧ acc[l.length]? = some (.ref t0) ∧ H t0 = some (.tup v0) ∧ TupL H0 D (l ++ [v]) (upd H D (.lst (acc.set l.length (.ref t)))) := by
  obtain ⟨ts, h1, h2, h3⟩ := o.ts
  rw [List.length_append, List.length_singleton] at h2
  have tD : ∀ {t : Addr} {v : List V}, H t = some (.tup v) → t ≠ D := fun {t v} h z => by rw [z, h1] at h; cases h
  obtain ⟨t0, e0⟩ : ∃ t0, ts[l.length]? = some t0 := ⟨_, List.getElem?_eq_getElem (by omega)⟩
  have g0 := h3 l.length t0 v0 e0 (by rw [List.getElem?_append_right (Nat.le_refl _), Nat.sub_self]; rfl)
  refine ⟨_, t0, h1, by rw [List.length_map, h2], by rw [List.getElem?_map, e0]; rfl, g0, fun b u e => by rw [upd_ne (ne_of_none e o.nD)]; exact o.sm b u e, o.nD, ts.set l.length t, by rw [upd_same, List.map_set], by rw [List.length_set, List.length_append, h2]; rfl, fun j s u e1 e2 => ?_⟩
  by_cases hj : j = l.length
  · subst hj
    rw [List.getElem?_set_self (by omega)] at e1
    rw [List.getElem?_append_right (Nat.le_refl _), Nat.sub_self] at e2
    cases e1
    cases e2
    rw [upd_ne (tD ht)]
    exact ht
  · rw [List.getElem?_set_ne (fun e => hj e.symm)] at e1
    have hl := (List.getElem?_eq_some_iff.mp e1).1
    rw [List.getElem?_append_left (by omega)] at e2
    have := h3 j s u e1 (by rw [List.getElem?_append_left (by omega)]; exact e2)
    rw [upd_ne (tD this)]
    exact this
end TG

namespace TG
open PySem PySem.Spec PyProof.Rows L2 NdefX GenW Gx Lv EnT
section
variable {P : Program} {w : World} {K : PySem.W.Frag} {mg : Str → Option Value} {base : Heap} {cs : List (Addr × Addr)}
abbrev s_unlike : Stmt := top 26
def dif (x1 x2 : Str) : Nat → Bool := fun k => decide (x1.cps[k]? ≠ x2.cps[k]?)
abbrev rV (p : Nat × Nat) : List V := [.int (p.1 : Nat), .int ((p.2 + 1 : Nat) : Int)]
def runV (D : Nat → Bool) (n : Nat) : List (List V) := (runsF D n).map rV
def spUR : Sp := fun vs H Q _ => ∃ x1 x2 : Str, vs = [.str x1, .str x2] ∧ x1.cps.size = x2.cps.size ∧ x1.cps.size ≤ 1000 ∧ ∀ (D : Addr) (H' : Hp), TupL H D (runV (dif x1 x2) x1.cps.size) H' → Q (.ref D) H'
abbrev nmUR : List Str := ["old", "new", "runs", "place", "sign", "other"]
theorem sc_UR : FnScope nmUR ["old", "new"] (defScope s_unlike) := ⟨rfl, rfl, rfl, by decide +kernel, rfl, by decide +kernel, by decide +kernel⟩
theorem ok_UR {f : Addr} {fd : FuncData} (T : Txt mg) (hz : mg "zip" = none) (eA : ∃ t, mg "MOST_ALIKE" = some (.int 2 t)) (F : Fun K "unlike_runs" "unlike_runs" s_unlike f fd) : FnOk P w K mg base CX0 1 f fd ["old", "new"] spUR := by
  refine F.ok sc_UR (fun vs H Q E h => ?_) (fun cdv A outer s H vs Q E hr h => ?_)
  · obtain ⟨x1, x2, rfl, _⟩ := h
    rfl
  · obtain ⟨x1, x2, rfl, hsz, hle, k⟩ := h
    have nd := sc_UR.nd
    have szl : (9000 : Nat) < sizeLine := by decide
    obtain ⟨tA, eA⟩ := eA
    refine ⟨_, pss_cons (ps_set (i := 2) nd rfl (.inl rfl) (pe_lst pa_nil))
      (pss_cons (ps_for PassesOwn.never rfl (ZT.pi_enumZipS (by rfl) T.enum (by rfl) hz (pa_cons (pv 0) (pa_cons (pv 1) pa_nil)))
        (pg_tup rfl (pgs_cons (pg_name (i := 3) nd rfl (.inl rfl)) (pgs_cons (pg_tup rfl (pgs_cons (pg_name (i := 4) nd rfl (.inl rfl)) (pgs_cons (pg_name (i := 5) nd rfl (.inl rfl)) pgs_nil))) pgs_nil)))
        (pss_cons (ps_if (pt_cmpR op_eq (pv 4) (pv 5) (nomark _)) (pss_one ps_continue) pss_nil)
        (pss_one (ps_if (PW.pt (pw_and (pt_cmpR op_gt (pe_callB call_len_seq (by rfl) T.len PySem.boot_len (pa_cons (pv 2) pa_nil)) pe_int (nomark _)) (pw_and1 (pt_cmpR op_le (pe_op op_sub (pv 3) (pe_ix ix_tup (pe_ix ix_list (pv 2) (pe_un un_neg pe_int) (fun _ _ => rfl)) pe_int (fun _ _ => rfl))) (pe_glob (v := .int 2) rfl eA ⟨_, rfl⟩) (nomark _)))))
          (pss_one (ps_asg (pe_tup (pa_cons (pe_ix ix_tup (pe_ix ix_list (pv 2) (pe_un un_neg pe_int) (fun _ _ => rfl)) pe_int (fun _ _ => rfl)) (pa_cons (pe_op op_add (pv 3) pe_int) pa_nil))) (pg_sub (pv 2) (pe_un un_neg pe_int) set_list)))
          (pss_one (ps_expr (pe_bm PySem.F.plainAttrs_list PySem.F.slot_list_append PySem.F.type_list_append mt_append (pv 2) (pa_cons (pe_tup (pa_cons (pv 3) (pa_cons (pe_op op_add (pv 3) pe_int) pa_nil))) pa_nil))))))))
      (pss_one (ps_ret (pv 2)))), ?_⟩
    refine ⟨small0, fun D nD => ?_⟩
    have o0 := TupL.start nD
    refine ⟨_, rfl, _, rfl, x1, x2, rfl, for_it (ZT.walk_zt hsz) (fun j σ H' => TupL H D (runV (dif x1 x2) j) H' ∧ ∃ c3 c4 c5 : Option V, σ = [some (.str x1), some (.str x2), some (.ref D), c3, c4, c5]) ⟨o0, none, none, none, rfl⟩ (fun j σ H' _ x => trivial) ?_ ?_⟩
    rotate_left
    · rintro σ H1 ⟨o1, c3, c4, c5, rfl⟩
      exact ⟨_, rfl, k D H1 o1⟩
    rintro j v σ H2 H3 hj ⟨o2, c3, c4, c5, rfl⟩ ⟨S, T', c1, c2, rfl, nS, nT, rfl, hx, hy⟩
    have x3 := same_tr (same_new (o := .tup [.str ⟨#[c1]⟩, .str ⟨#[c2]⟩]) nS) (same_new (o := .tup [.int (j : Nat), .ref S]) nT)
    have hS : upd (upd H2 S (.tup [.str ⟨#[c1]⟩, .str ⟨#[c2]⟩])) T' (.tup [.int (j : Nat), .ref S]) S = some (.tup [.str ⟨#[c1]⟩, .str ⟨#[c2]⟩]) := by rw [upd_ne (ne_of_none upd_same nT), upd_same]
    have o3 := o2.grow x3
    have hT3 : upd (upd H2 S (.tup [.str ⟨#[c1]⟩, .str ⟨#[c2]⟩])) T' (.tup [.int (j : Nat), .ref S]) T' = some (.tup [.int (j : Nat), .ref S]) := upd_same
    generalize upd (upd H2 S (.tup [.str ⟨#[c1]⟩, .str ⟨#[c2]⟩])) T' (.tup [.int (j : Nat), .ref S]) = H3 at x3 hS o3 hT3 ⊢
    refine ⟨T', _, rfl, SqT.of hT3, rfl, _, _, rfl, _, _, rfl, ⟨S, _, rfl, SqT.of hS, rfl, _, _, rfl, _, _, rfl, rfl, rfl, ?_⟩⟩
    have hlj := runsF_len (D := dif x1 x2) j
    by_cases hne : c1 = c2
    · have hD : dif x1 x2 j = false := decide_eq_false (by rw [hx, hy, hne]; exact fun h => h rfl)
      have o4 : TupL H D (runV (dif x1 x2) (j + 1)) H3 := by
        unfold runV
        rw [runsF_no hD]
        exact o3
      exact ⟨_, rfl, _, rfl, rfl, true, dT (by rw [hne]), iteT ⟨o4, _, _, _, rfl⟩⟩
    · have hD : dif x1 x2 j = true := decide_eq_true (by rw [hx, hy]; exact fun h => hne (Option.some.inj h))
      refine ⟨_, rfl, _, rfl, rfl, false, dF (fun e => hne (by injection e with e; injection e with e; simpa using e)), iteF ?_⟩
      have app : ∀ (R2 : List (Nat × Nat)), runsF (dif x1 x2) (j + 1) = R2 ++ [(j, j)] → runsF (dif x1 x2) j = R2 → ∀ (t : Addr), H3 t = none → ∃ acc, upd H3 t (.tup [.int (j : Nat), .int ((j : Nat) + 1)]) D = some (.lst acc) ∧ acc.length < sizeLine ∧ TupL H D (runV (dif x1 x2) (j + 1)) (upd (upd H3 t (.tup [.int (j : Nat), .int ((j : Nat) + 1)])) D (.lst (acc ++ [.ref t]))) := fun R2 e1 e2 t nt => by
        obtain ⟨acc, w1, w2, w3⟩ := (o3.grow (same_new (o := .tup [.int (j : Nat), .int ((j : Nat) + 1)]) nt)).more (t := t) (v := [.int (j : Nat), .int ((j : Nat) + 1)]) upd_same
        refine ⟨acc, w1, ?_, ?_⟩
        · rw [w2]
          unfold runV
          rw [List.length_map]
          omega
        · have e3 : runV (dif x1 x2) (j + 1) = runV (dif x1 x2) j ++ [[.int (j : Nat), .int ((j : Nat) + 1)]] := by
            unfold runV
            rw [e1, e2, List.map_append]
            rfl
          rw [e3]
          exact w3
      cases hl : (runsF (dif x1 x2) j).getLast? with
      | none =>
        rw [List.getLast?_eq_none_iff] at hl
        obtain ⟨acc0, w1, w2⟩ := o3.lst
        have w0 : acc0.length = 0 := by rw [w2]; unfold runV; rw [hl]; rfl
        refine ⟨_, rfl, D, _, rfl, .inl (SqL.of w1), _, _, rfl, rfl, false, dF (by rw [w0]; decide), iteF (iteF ?_)⟩
        refine ⟨_, rfl, .inl ⟨rfl, _, SqL.of w1⟩, _, rfl, _, rfl, _, _, rfl, rfl, by show 2 ≤ sizeLine; decide, fun t nt => ?_⟩
        obtain ⟨acc, v1, v2, v3⟩ := app [] (runsF_first hD hl) hl t nt
        exact ⟨D, acc, _, rfl, rfl, v1, v2, v3, _, _, _, rfl⟩
      | some q =>
        obtain ⟨F, e⟩ := List.getLast?_eq_some_iff.mp hl
        obtain ⟨b, l⟩ := q
        have eV : runV (dif x1 x2) j = F.map rV ++ [rV (b, l)] := by unfold runV; rw [e, List.map_append]; rfl
        rw [eV] at o3
        obtain ⟨acc0, t0, w1, w2, w3, w4⟩ := o3.peek
        rw [List.length_map] at w2 w3
        have wl : acc0.length ≤ j := by
          rw [e, List.length_append, List.length_singleton] at hlj
          omega
        refine ⟨_, rfl, D, _, rfl, .inl (SqL.of w1), _, _, rfl, rfl, true, dT (by rw [w2]; omega), iteT ?_⟩
        refine ⟨_, rfl, _, rfl, 1, rfl, D, _, -1, .ref t0, rfl, rfl, SqL.of w1, atm1 w2 w3, t0, _, 1, .int ((l + 1 : Nat) : Int), rfl, rfl, SqT.of w4, rfl, _, _, rfl, rfl, ?_⟩
        by_cases g : j ≤ l + 3
        · refine ⟨_, _, rfl, rfl, true, dT (by omega), iteT ?_⟩
          refine ⟨_, rfl, 1, rfl, D, _, -1, .ref t0, rfl, rfl, SqL.of w1, atm1 w2 w3, t0, _, 0, .int (b : Nat), rfl, rfl, SqT.of w4, rfl, _, rfl, _, _, rfl, rfl, by show 2 ≤ sizeLine; decide, fun t nt => ?_⟩
          have o4 := o3.grow (same_new (o := .tup [.int (b : Nat), .int ((j : Nat) + 1)]) nt)
          obtain ⟨acc, t1, u1, u2, u3, u4, u5⟩ := o4.last (t := t) (v := [.int (b : Nat), .int ((j : Nat) + 1)]) upd_same
          rw [List.length_map] at u2 u5
          refine ⟨_, rfl, 1, rfl, D, _, -1, F.length, rfl, rfl, u1, by rw [u2]; exact ixm1, ?_, _, _, _, rfl⟩
          have e3 : runV (dif x1 x2) (j + 1) = F.map rV ++ [[.int (b : Nat), .int ((j : Nat) + 1)]] := by
            unfold runV
            rw [runsF_on hD e g, List.map_append]
            rfl
          rw [e3]
          exact u5
        · refine ⟨_, _, rfl, rfl, false, dF (by omega), iteF ?_⟩
          refine ⟨_, rfl, .inl ⟨rfl, _, SqL.of w1⟩, _, rfl, _, rfl, _, _, rfl, rfl, by show 2 ≤ sizeLine; decide, fun t nt => ?_⟩
          obtain ⟨acc, v1, v2, v3⟩ := app (F ++ [(b, l)]) (runsF_off hD e g) e t nt
          exact ⟨D, acc, _, rfl, rfl, v1, v2, v3, _, _, _, rfl⟩
end
end TG

namespace TG
open PySem PySem.Spec PyProof.Rows L2 NdefX GenW Gx Lv
/-! ### lines as signs at places, blank where there is none -/
theorem str_clE {x y : Str} (h : cl x = cl y) : x = y := by
  obtain ⟨⟨x⟩⟩ := x
  obtain ⟨⟨y⟩⟩ := y
  have h : x = y := h
  rw [h]
/-- without blanks at the end -/
def rsL (l : List Nat) : List Nat := (l.reverse.dropWhile blk).reverse
theorem ch_bl (l : List Nat) (n k : Nat) : ch (l ++ bl n) k = ch l k := by
  unfold ch
  rw [List.getD_eq_getElem?_getD, List.getD_eq_getElem?_getD]
  by_cases h : k < l.length
  · rw [List.getElem?_append_left h]
  · rw [List.getElem?_append_right (by omega), List.getElem?_eq_none (show l.length ≤ k by omega)]
    cases e : (bl n)[k - l.length]? with
    | none => rfl
    | some c => rw [(List.mem_replicate.mp (List.mem_of_getElem? e)).2]; rfl
theorem rs_split (l : List Nat) : ∃ n, l = rsL l ++ bl n := by
  refine ⟨(l.reverse.takeWhile blk).length, ?_⟩
  have h : l.reverse.takeWhile blk = bl (l.reverse.takeWhile blk).length := List.eq_replicate_iff.mpr ⟨rfl, fun c hc => by
    have := List.all_eq_true.mp (List.all_takeWhile (p := blk) (l := l.reverse)) c hc
    exact of_decide_eq_true this⟩
  have e : l.reverse = l.reverse.takeWhile blk ++ l.reverse.dropWhile blk := List.takeWhile_append_dropWhile.symm
  have e2 : l = (l.reverse.dropWhile blk).reverse ++ (l.reverse.takeWhile blk).reverse := by
    rw [← List.reverse_append, ← e, List.reverse_reverse]
  unfold rsL
  rw [h, List.reverse_replicate] at e2
  exact e2
theorem ch_rs (l : List Nat) (k : Nat) : ch (rsL l) k = ch l k := by
  obtain ⟨n, h⟩ := rs_split l
  have : ch l k = ch (rsL l ++ bl n) k := congrArg (fun x => ch x k) h
  rw [this, ch_bl]
/-- it ends in no blank -/
def NoB (l : List Nat) : Prop := ∀ c, l.getLast? = some c → c ≠ 32
theorem rs_nob (l : List Nat) : NoB (rsL l) := fun c h => by
  unfold rsL at h
  rw [List.getLast?_reverse] at h
  cases e : l.reverse.dropWhile blk with
  | nil => rw [e] at h; cases h
  | cons a r =>
    rw [e] at h
    cases h
    have := dw_head e
    exact of_decide_eq_false this
theorem nob_len {a b : List Nat} (hb : NoB b) (h : ∀ k, ch a k = ch b k) : b.length ≤ a.length := by
  refine Nat.le_of_not_lt fun hl => ?_
  have e : b[b.length - 1]? = b.getLast? := (List.getLast?_eq_getElem? ..).symm
  have hi : b.length - 1 < b.length := by omega
  rw [List.getElem?_eq_getElem hi] at e
  have := h (b.length - 1)
  unfold ch at this
  rw [List.getD_eq_getElem?_getD, List.getD_eq_getElem?_getD, List.getElem?_eq_none (show a.length ≤ b.length - 1 by omega), List.getElem?_eq_getElem hi] at this
  exact hb _ e.symm this.symm
theorem nob_eq {a b : List Nat} (ha : NoB a) (hb : NoB b) (h : ∀ k, ch a k = ch b k) : a = b := by
  have l1 := nob_len hb h
  have l2 := nob_len ha fun k => (h k).symm
  refine List.ext_getElem (by omega) fun i h1 h2 => ?_
  have := h i
  unfold ch at this
  rw [List.getD_eq_getElem?_getD, List.getD_eq_getElem?_getD, List.getElem?_eq_getElem h1, List.getElem?_eq_getElem h2] at this
  exact this
theorem rs_ext {a b : List Nat} (h : ∀ k, ch a k = ch b k) : rsL a = rsL b := nob_eq (rs_nob a) (rs_nob b) fun k => by rw [ch_rs, ch_rs, h]
theorem rs_of {a b : List Nat} (hb : NoB b) (h : ∀ k, ch a k = ch b k) : rsL a = b := nob_eq (rs_nob a) hb fun k => by rw [ch_rs, h]
theorem rs_len (l : List Nat) : (rsL l).length ≤ l.length := by
  obtain ⟨n, h⟩ := rs_split l
  have := congrArg List.length h
  rw [List.length_append] at this
  omega
theorem rs_mem {l : List Nat} {c : Nat} (h : c ∈ rsL l) : c ∈ l := by
  obtain ⟨n, e⟩ := rs_split l
  rw [e]
  exact List.mem_append_left _ h
theorem cl_rstrip (z : Str) : cl (Txt.rstripChars z " ") = rsL (cl z) := by
  have eg : (fun c : Nat => ((" " : Str).cps.contains c)) = blk := by
    funext c
    have e : (" " : Str) = ⟨#[32]⟩ := by decide +kernel
    rw [e]
    unfold blk
    rw [Bool.eq_iff_iff]
    simp
  unfold Txt.rstripChars
  rw [PyProof.Rows.stripBy_eq]
  show (Builtin.Str.strSub z _ _).cps.toList = _
  rw [StrLaws.strSub_toList]
  have eg2 : (" " : Str).cps.contains = blk := eg
  rw [eg2]
  unfold stripHi stripLo
  simp only [Bool.false_eq_true, if_false, if_true, List.drop_zero, Nat.sub_zero]
  show List.take (z.length - ((cl z).reverse.takeWhile blk).length) (cl z) = rsL (cl z)
  unfold rsL
  rw [dw_eq blk (cl z).reverse, List.reverse_drop, List.reverse_reverse, List.length_reverse, len_cl]
/-! ### a stroke is laid on -/
def covL (l : List Nat) (b : Nat) (s : List Nat) : List Nat := l.take b ++ bl (b - l.length) ++ s ++ l.drop (b + s.length)
def cvF (f : Nat → Nat) (b : Nat) (s : List Nat) : Nat → Nat := fun k => if b ≤ k ∧ k < b + s.length then ch s (k - b) else f k
theorem ch_cov (l : List Nat) (b : Nat) (s : List Nat) (k : Nat) : ch (covL l b s) k = cvF (ch l) b s k := by
  have h1 : (l.take b ++ bl (b - l.length)).length = b := by
    rw [List.length_append, List.length_take, List.length_replicate]
    omega
  unfold cvF covL
  unfold ch
  simp only [List.getD_eq_getElem?_getD]
  by_cases k1 : k < b
  · rw [if_neg (by omega), List.append_assoc, List.getElem?_append_left (by rw [h1]; exact k1)]
    by_cases k2 : k < l.length
    · rw [List.getElem?_append_left (by rw [List.length_take]; omega), List.getElem?_take_of_lt k1]
    · rw [List.getElem?_append_right (by rw [List.length_take]; omega), List.getElem?_eq_none (show l.length ≤ k by omega)]
      cases e : (bl (b - l.length))[k - (l.take b).length]? with
      | none => rfl
      | some c => rw [(List.mem_replicate.mp (List.mem_of_getElem? e)).2]; rfl
  · by_cases k2 : k < b + s.length
    · rw [if_pos ⟨by omega, k2⟩, List.append_assoc, List.getElem?_append_right (by rw [h1]; omega), h1, List.getElem?_append_left (by omega)]
    · rw [if_neg (by omega), List.append_assoc, List.getElem?_append_right (by rw [h1]; omega), h1, List.getElem?_append_right (by omega), List.getElem?_drop]
      congr 2
      omega
theorem cov_len (l : List Nat) (b : Nat) (s : List Nat) : (covL l b s).length = max l.length (b + s.length) := by
  unfold covL
  simp only [List.length_append, List.length_take, List.length_replicate, List.length_drop]
  omega
theorem cl_ljust (z : Str) (b : Nat) : cl (Txt.ljust z ((b : Nat) : Int)) = cl z ++ bl (b - (cl z).length) := by
  unfold Txt.ljust
  rw [len_cl]
  by_cases h : ((b : Nat) : Int) ≤ (((cl z).length : Nat) : Int)
  · rw [if_pos h, show b - (cl z).length = 0 by omega]
    exact (List.append_nil _).symm
  · rw [if_neg h]
    unfold Builtin.Str.padded
    simp [cl, bl]
end TG

namespace TG
open PySem PySem.Spec PyProof.Rows L2 NdefX GenW Gx Lv EnT
section
variable {P : Program} {w : World} {K : PySem.W.Frag} {mg : Str → Option Value} {base : Heap} {cs : List (Addr × Addr)}
abbrev lnA (zs : List Str) (n : Nat) : Str := zs.getD n nilS
def spLA (K : PySem.W.Frag) : Sp := fun vs H Q _ => ∃ (a : Addr) (zs : List Str) (n : Nat), vs = [.ref a, .int (n : Nat)] ∧ SqL K H a (sV zs) ∧ Q (.str (lnA zs n)) H
theorem sc_LA : FnScope ["lines", "number"] ["lines", "number"] (defScope s_line_at) := ⟨rfl, rfl, rfl, by decide +kernel, rfl, by decide +kernel, by decide +kernel⟩
theorem ok_LA {f : Addr} {fd : FuncData} (T : Txt mg) (F : Fun K "line_at" "line_at" s_line_at f fd) : FnOk P w K mg base CX0 1 f fd ["lines", "number"] (spLA K) := by
  refine F.ok sc_LA (fun vs H Q E h => ?_) (fun cdv A outer s H vs Q E hr h => ?_)
  · obtain ⟨a, zs, n, rfl, _⟩ := h
    rfl
  · obtain ⟨a, zs, n, rfl, hS, k⟩ := h
    have nd := sc_LA.nd
    refine ⟨_, (pss_cons (ps_if (pt_cmpR op_lt (pv 1) (pe_callB call_len_seq (by rfl) T.len PySem.boot_len (pa_cons (pv 0) pa_nil)) (nomark _)) (pss_one (ps_ret (pe_ix ix_list (pv 0) (pv 1) (fun _ _ => rfl)))) pss_nil)
      (pss_one (ps_ret pe_str))), ?_⟩
    have ll : (sV zs).length = zs.length := List.length_map ..
    by_cases h : n < zs.length
    · refine ⟨_, rfl, _, rfl, a, _, rfl, .inl hS, _, _, rfl, rfl, true, dT (by rw [ll]; omega), iteT ⟨_, rfl, _, rfl, a, _, _, .str (lnA zs n), rfl, rfl, hS, atI_nat ?_, k⟩⟩
      rw [List.getElem?_map, List.getElem?_eq_getElem h]
      unfold lnA
      rw [List.getD_eq_getElem?_getD, List.getElem?_eq_getElem h]
      rfl
    · refine ⟨_, rfl, _, rfl, a, _, rfl, .inl hS, _, _, rfl, rfl, false, dF (by rw [ll]; omega), iteF ?_⟩
      have e : lnA zs n = nilS := by
        unfold lnA
        rw [List.getD_eq_getElem?_getD, List.getElem?_eq_none (by omega)]
        rfl
      rw [e] at k
      exact k
def oldP (z w : Str) : Str := Txt.ljust z ((w.length : Nat) : Int)
def newP (z w : Str) : Str := Txt.ljust w (((oldP z w).length : Nat) : Int)
def skR (z w : Str) : List (Nat × Nat) := runsF (dif (oldP z w) (newP z w)) (oldP z w).cps.size
abbrev skE (i : Nat) (x : Str) (p : Nat × Nat) : List V := [.int (i : Nat), .int (p.1 : Nat), .str (cutS x (some (p.1 : Nat)) (some ((p.2 + 1 : Nat) : Int)))]
def skL (zs ws : List Str) (i : Nat) : List (List V) := (skR (lnA zs i) (lnA ws i)).map (skE i (newP (lnA zs i) (lnA ws i)))
def skV (zs ws : List Str) (n : Nat) : List (List V) := (List.range n).flatMap (skL zs ws)
theorem skV_succ (zs ws : List Str) (n : Nat) : skV zs ws (n + 1) = skV zs ws n ++ skL zs ws n := by
  unfold skV
  rw [List.range_succ, List.flatMap_append]
  simp
theorem TupL.join {H0 H : Hp} {D : Addr} {l l2 : List (List V)} {ts2 : List Addr} (o : TupL H0 D l H) (t2 : ts2.length = l2.length) (t3 : ∀ (j : Nat) (t : Addr) (v : List V), ts2[j]? = some t → l2[j]? = some v → H t = some (.tup v)) :
    ∃ ts1 : List Addr, H D = some (.lst (ts1.map V.ref)) ∧ ts1.length = l.length ∧ TupL H0 D (l ++ l2) (upd H D (.lst (ts1.map V.ref ++ ts2.map V.ref))) := by
  obtain ⟨ts, h1, h2, h3⟩ := o.ts
  have tD : ∀ {t : Addr} {v : List V}, H t = some (.tup v) → t ≠ D := fun {t v} h z => by rw [z, h1] at h; cases h
  refine ⟨ts, h1, h2, fun b u e => by rw [upd_ne (ne_of_none e o.nD)]; exact o.sm b u e, o.nD, ts ++ ts2, by rw [upd_same, List.map_append], by rw [List.length_append, List.length_append, h2, t2], fun j s u e1 e2 => ?_⟩
  by_cases hj : j < ts.length
  · rw [List.getElem?_append_left hj] at e1
    rw [List.getElem?_append_left (by rw [← h2]; exact hj)] at e2
    have := h3 j s u e1 e2
    rw [upd_ne (tD this)]
    exact this
  · rw [List.getElem?_append_right (by omega)] at e1
    rw [List.getElem?_append_right (by omega), ← h2] at e2
    have := t3 _ s u e1 e2
    rw [upd_ne (tD this)]
    exact this
theorem lnA_len {xs : List Str} (h : LnOk xs) (i : Nat) : (lnA xs i).length ≤ 200 := by
  unfold lnA
  by_cases hl : i < xs.length
  · rw [List.getD_eq_getElem?_getD, List.getElem?_eq_getElem hl]
    exact h.ln _ (List.getElem_mem hl)
  · rw [List.getD_eq_getElem?_getD, List.getElem?_eq_none (by omega)]
    exact Nat.zero_le _
theorem oldP_len (z w : Str) : (oldP z w).length = max z.length w.length := by
  unfold oldP
  rw [len_cl, cl_ljust, List.length_append, List.length_replicate, ← len_cl]
  omega
theorem skL_len {zs ws : List Str} (hz : LnOk zs) (hw : LnOk ws) (i : Nat) : (skL zs ws i).length ≤ 200 := by
  unfold skL skR
  rw [List.length_map]
  have h1 := runsF_len (D := dif (oldP (lnA zs i) (lnA ws i)) (newP (lnA zs i) (lnA ws i))) (oldP (lnA zs i) (lnA ws i)).cps.size
  have h2 : (oldP (lnA zs i) (lnA ws i)).cps.size = (oldP (lnA zs i) (lnA ws i)).length := rfl
  have h3 := oldP_len (lnA zs i) (lnA ws i)
  have h4 := lnA_len hz i
  have h5 := lnA_len hw i
  omega
theorem skV_len {zs ws : List Str} (hz : LnOk zs) (hw : LnOk ws) : ∀ n : Nat, (skV zs ws n).length ≤ 200 * n
  | 0 => Nat.le_refl _
  | n + 1 => by
    rw [skV_succ, List.length_append]
    have := skV_len hz hw n
    have := skL_len hz hw n
    omega
def spSK (K : PySem.W.Frag) (cs : List (Addr × Addr)) : Sp := fun vs H Q _ => ∃ (a b : Addr) (zs ws : List Str), vs = [.ref a, .ref b] ∧ Tabs cs H ∧ SqL K H a (sV zs) ∧ LnOk zs ∧ SqL K H b (sV ws) ∧ LnOk ws ∧
  ∀ (D : Addr) (H1 H' : Hp), Ex cs H H1 → TupL H1 D (skV zs ws (max zs.length ws.length)) H' → Q (.ref D) H'
abbrev nmSK : List Str := ["before", "later", "told", "number", "old", "new", "begin", "end"]
theorem sc_SK : FnScope nmSK ["before", "later"] (defScope s_strokes) := ⟨rfl, rfl, rfl, by decide +kernel, rfl, by decide +kernel, by decide +kernel⟩
theorem ok_SK {f gC gL gU : Addr} {fd fdC fdL fdU : FuncData} (T : Txt mg) (F : Fun K "strokes" "strokes" s_strokes f fd)
    (C : FnOk P w K mg base CX0 6 gC fdC ["lines"] (spLines K cs)) (kC : PySem.W.keepIn K (.ref gC) = true) (bC : Binds K fdC ["lines"] []) (mC : mg "check_lines" = some (.ref gC))
    (L : FnOk P w K mg base CX0 1 gL fdL ["lines", "number"] (spLA K)) (kL : PySem.W.keepIn K (.ref gL) = true) (bL : Binds K fdL ["lines", "number"] []) (mL : mg "line_at" = some (.ref gL))
    (U : FnOk P w K mg base CX0 1 gU fdU ["old", "new"] spUR) (kU : PySem.W.keepIn K (.ref gU) = true) (bU : Binds K fdU ["old", "new"] []) (mU : mg "unlike_runs" = some (.ref gU)) :
    FnOk P w K mg base CX0 7 f fd ["before", "later"] (spSK K cs) := by
  refine F.ok sc_SK (fun vs H Q E h => ?_) (fun cdv A outer s H vs Q E hr h => ?_)
  · obtain ⟨a, b, _, _, rfl, _⟩ := h
    rfl
  · obtain ⟨a, b, zs, ws, rfl, hT, hA, hzs, hB, hws, k⟩ := h
    have nd := sc_SK.nd
    have r1 : Room 1 _ := hr.mono (by decide)
    have r6 : Room 6 _ := hr
    have szl : (9000 : Nat) < sizeLine := by decide
    refine ⟨_, (pss_cons (ps_expr (pe_call C r6 (by rfl) mC kC bC .nil pass0 (pa_cons (pv 0) pa_nil)))
      (pss_cons (ps_expr (pe_call C r6 (by rfl) mC kC bC .nil pass0 (pa_cons (pv 1) pa_nil)))
      (pss_cons (ps_set (i := 2) nd rfl (.inl rfl) (pe_lst pa_nil))
      (pss_cons (ps_for PassesOwn.never rfl (pi_range1 (by rfl) T.range (pa_cons (pe_callB (call_max2 rfl) (by rfl) T.max (by decide +kernel) (pa_cons (pe_callB call_len_seq (by rfl) T.len PySem.boot_len (pa_cons (pv 0) pa_nil)) (pa_cons (pe_callB call_len_seq (by rfl) T.len PySem.boot_len (pa_cons (pv 1) pa_nil)) pa_nil))) pa_nil)) (pg_name (i := 3) nd rfl (.inr rfl))
      (pss_cons (ps_set (i := 4) nd rfl (.inl rfl) (pe_call L r1 (by rfl) mL kL bL .nil pass0 (pa_cons (pv 0) (pa_cons (pv 3) pa_nil))))
      (pss_cons (ps_set (i := 5) nd rfl (.inr rfl) (pe_call L r1 (by rfl) mL kL bL .nil pass0 (pa_cons (pv 1) (pa_cons (pv 3) pa_nil))))
      (pss_cons (ps_set (i := 4) nd rfl (.inl rfl) (pe_bm PySem.F.plainAttrs_str PySem.F.slot_str_ljust PySem.F.type_str_ljust mt_ljust (pv 4) (pa_cons (pe_callB call_len_str (by rfl) T.len PySem.boot_len (pa_cons (pv 5) pa_nil)) pa_nil)))
      (pss_cons (ps_set (i := 5) nd rfl (.inr rfl) (pe_bm PySem.F.plainAttrs_str PySem.F.slot_str_ljust PySem.F.type_str_ljust mt_ljust (pv 5) (pa_cons (pe_callB call_len_str (by rfl) T.len PySem.boot_len (pa_cons (pv 4) pa_nil)) pa_nil)))
      (pss_one (ps_aug (i := 2) nd rfl (.inl rfl) (pe_lc (own := [("begin", 6), ("end", 7)]) (g := gTup K 2 (gCons (gName 6) (gCons (gName 7) gNil))) (tt := tYes) rfl nd (pi_list (pe_call U r1 (by rfl) mU kU bU .nil pass0 (pa_cons (pv 4) (pa_cons (pv 5) pa_nil)))) (blkOk_by (own := [("begin", 6), ("end", 7)]) (N := nmSK) (sc := defScope s_strokes) (by decide +kernel)) (fun _ _ _ _ _ => pg_tup rfl (pgs_cons (pg_name (i := 6) nd rfl (Or.inl rfl)) (pgs_cons (pg_name (i := 7) nd rfl (Or.inl rfl)) pgs_nil))) (fun _ _ _ _ _ => pts_nil) (fun _ _ _ _ _ => (pe_tup (pa_cons (pv 3) (pa_cons (pv 6) (pa_cons (pe_slice sl_str (pv 5) (po_some (pv 6)) (po_some (pv 7))) pa_nil)))))) iop_ext)))))))
      (pss_one (ps_ret (pv 2))))))), ?_⟩
    refine ⟨_, rfl, a, zs, rfl, hT, hA, hzs, fun H1 x1 => ?_⟩
    refine ⟨_, rfl, b, ws, rfl, x1.tab, x1.sqL hB, hws, fun H2 x2 => ?_⟩
    have x := x1.trans x2
    refine ⟨small0, fun D nD => ?_⟩
    have o0 := TupL.start nD
    have hA := x.sqL hA
    have hB := x2.sqL (x1.sqL hB)
    have lz : (sV zs).length = zs.length := List.length_map ..
    have lw : (sV ws).length = ws.length := List.length_map ..
    have hz30 := hzs.len
    have hw30 := hws.len
    refine ⟨_, rfl, a, _, rfl, .inl (same_sqL o0.sm hA), _, rfl, b, _, rfl, .inl (same_sqL o0.sm hB), _, _, rfl, ?_⟩
    have em : (if (((sV ws).length : Nat) : Int) > (((sV zs).length : Nat) : Int) then (((sV ws).length : Nat) : Int) else (((sV zs).length : Nat) : Int)) = ((max zs.length ws.length : Nat) : Int) := by
      rw [lz, lw]
      split <;> omega
    rw [em]
    generalize hN : max zs.length ws.length = N at k ⊢
    have hN30 : N ≤ 30 := by omega
    refine ⟨_, rfl, by omega, by omega, for_range (n := N) (fun i σ H' => TupL H2 D (skV zs ws i) H' ∧ ∃ c3 c4 c5 c6 c7 : Option V, σ = [some (.ref a), some (.ref b), some (.ref D), c3, c4, c5, c6, c7]) ⟨o0, none, none, none, none, none, rfl⟩ ?_ ?_⟩
    rotate_left
    · rintro σ H3 ⟨o1, c3, c4, c5, c6, c7, rfl⟩
      exact ⟨_, rfl, k D H2 H3 x o1⟩
    rintro i σ H3 hi ⟨o1, c3, c4, c5, c6, c7, rfl⟩
    have e0 : (0 : Int) + ((i : Nat) : Int) = ((i : Nat) : Int) := by omega
    rw [e0]
    refine ⟨_, rfl, _, rfl, a, zs, i, rfl, same_sqL o1.sm hA, ?_⟩
    refine ⟨_, rfl, _, rfl, b, ws, i, rfl, same_sqL o1.sm hB, ?_⟩
    have l1 : ∀ {xs : List Str}, LnOk xs → (lnA xs i).length ≤ 200 := fun {xs} h => by
      unfold lnA
      by_cases hl : i < xs.length
      · rw [List.getD_eq_getElem?_getD, List.getElem?_eq_getElem hl]
        exact h.ln _ (List.getElem_mem hl)
      · rw [List.getD_eq_getElem?_getD, List.getElem?_eq_none (by omega)]
        exact Nat.zero_le _
    have hz2 := l1 hzs
    have hw2 := l1 hws
    have lo : (oldP (lnA zs i) (lnA ws i)).length = max (lnA zs i).length (lnA ws i).length := by
      unfold oldP
      rw [len_cl, cl_ljust, List.length_append, List.length_replicate, ← len_cl]
      omega
    have lnw : (newP (lnA zs i) (lnA ws i)).length = (oldP (lnA zs i) (lnA ws i)).length := by
      unfold newP
      rw [len_cl (z := Txt.ljust _ _), cl_ljust, List.length_append, List.length_replicate, ← len_cl]
      omega
    have pk : ∀ n : Nat, n ≤ 200 → PadOk ((n : Nat) : Int) = true := fun n hn => by
      unfold PadOk fitsSsize Builtin.Str.tooLong
      have e1 : ((n : Nat) : Int).toNat = n := Int.toNat_natCast n
      rw [e1, decide_eq_false (show ¬ n > sizeLine by omega)]
      simp
      omega
    refine ⟨_, rfl, rfl, _, rfl, lnA ws i, rfl, by omega, lnA zs i, _, rfl, rfl, pk _ hw2, ?_⟩
    refine ⟨_, rfl, rfl, _, rfl, oldP (lnA zs i) (lnA ws i), rfl, by omega, lnA ws i, _, rfl, rfl, pk _ (by omega), ?_⟩
    have e1 : Txt.ljust (lnA zs i) (((lnA ws i).length : Nat) : Int) = oldP (lnA zs i) (lnA ws i) := rfl
    have e2 : Txt.ljust (lnA ws i) (((oldP (lnA zs i) (lnA ws i)).length : Nat) : Int) = newP (lnA zs i) (lnA ws i) := rfl
    try rw [e2]
    try rw [e1]
    have eo : (oldP (lnA zs i) (lnA ws i)).cps.size = (oldP (lnA zs i) (lnA ws i)).length := rfl
    have en : (newP (lnA zs i) (lnA ws i)).cps.size = (newP (lnA zs i) (lnA ws i)).length := rfl
    have lo2 : (oldP (lnA zs i) (lnA ws i)).length ≤ 200 := by omega
    have hsk : skL zs ws i = (runsF (dif (oldP (lnA zs i) (lnA ws i)) (newP (lnA zs i) (lnA ws i))) (oldP (lnA zs i) (lnA ws i)).cps.size).map (skE i (newP (lnA zs i) (lnA ws i))) := rfl
    generalize oldP (lnA zs i) (lnA ws i) = zo at *
    generalize newP (lnA zs i) (lnA ws i) = zn at *
    refine ⟨_, rfl, _, rfl, _, rfl, zo, zn, rfl, by omega, by omega, fun D1 H4 o4 => ?_⟩
    obtain ⟨ts, w1, w2, w3⟩ := o4.ts
    generalize hR : runsF (dif zo zn) zo.cps.size = R at *
    have hRl : R.length ≤ 200 := by
      have := runsF_len (D := dif zo zn) zo.cps.size
      rw [hR] at this
      omega
    have hRi : ∀ p ∈ R, p.1 ≤ p.2 ∧ p.2 < 200 := fun p hp => by
      have := runsF_in (D := dif zo zn) zo.cps.size p (by rw [hR]; exact hp)
      omega
    have hts : ts.length = R.length := by
      rw [w2]
      unfold runV
      rw [hR, List.length_map]
    have o1 := o1.grow o4.sm
    refine ⟨D1, rfl, ⟨_, SqL.of w1⟩, fun D2 nD2 => lc_list (xs := ts.map V.ref) (fun j H' => TupL H4 D2 ((R.take j).map (skE i zn)) H') (TupL.start nD2) (fun j H' _ x => SqL.of (x.sm _ _ w1)) ?_ ?_⟩
    · rintro j v H5 hv o5
      obtain ⟨t, ht, rfl⟩ := get_map hv
      have hj : j < R.length := by rw [← hts]; exact (List.getElem?_eq_some_iff.mp ht).1
      obtain ⟨p, hp⟩ : ∃ p, R[j]? = some p := ⟨_, List.getElem?_eq_getElem hj⟩
      have htt := o5.sm _ _ (w3 j t (rV p) ht (by unfold runV; rw [hR, List.getElem?_map, hp]; rfl))
      obtain ⟨p1, p2⟩ := hRi p (List.mem_of_getElem? hp)
      refine ⟨t, _, rfl, SqT.of htt, rfl, _, _, rfl, _, _, rfl, rfl, rfl, ?_⟩
      refine ⟨_, rfl, _, rfl, _, rfl, _, rfl, _, rfl, _, rfl, _, rfl, zn, rfl, by omega, by show 3 ≤ sizeLine; decide, fun t5 nt5 => ?_⟩
      have o6 := o5.grow (same_new (o := .tup (skE i zn p)) nt5)
      obtain ⟨acc, u1, u2, u3⟩ := o6.more (t := t5) (v := skE i zn p) upd_same
      refine ⟨acc, u1, by rw [u2, List.length_map, List.length_take]; omega, ?_⟩
      have e3 : (R.take (j + 1)).map (skE i zn) = (R.take j).map (skE i zn) ++ [skE i zn p] := by
        rw [List.take_succ, hp, List.map_append]
        rfl
      rw [e3]
      exact u3
    · rintro H5 o5
      obtain ⟨ts2, y1, y2, y3⟩ := o5.ts
      have elen : (ts.map V.ref).length = R.length := by rw [List.length_map, hts]
      rw [elen, List.take_of_length_le (Nat.le_refl _), List.length_map] at y2
      rw [elen, List.take_of_length_le (Nat.le_refl _)] at y3
      obtain ⟨ts1, v1, v2, v3⟩ := (o1.grow o5.sm).join (l2 := skL zs ws i) (ts2 := ts2) (by rw [hsk, List.length_map]; exact y2) (by rw [hsk]; exact y3)
      rw [← skV_succ] at v3
      refine ⟨D, D2, _, _, rfl, rfl, v1, y1, ?_, v3, _, _, _, _, _, rfl⟩
      rw [List.length_map, List.length_map, v2, y2]
      have := skV_len hzs hws i
      omega
end
end TG

namespace TG
open PySem PySem.Spec PyProof.Rows L2 NdefX GenW Gx Lv EnT
/-! ### the law's own way of strokes, and the program's -/
def difF (z w : Str) : Nat → Bool := fun k => decide (ch (cl z) k ≠ ch (cl w) k)
theorem ch_at {l : List Nat} {k : Nat} (h : k < l.length) : l[k]? = some (ch l k) := by
  unfold ch
  rw [List.getD_eq_getElem?_getD, List.getElem?_eq_getElem h]
  rfl
theorem cps_at (z : Str) (k : Nat) : z.cps[k]? = (cl z)[k]? := (Array.getElem?_toList).symm
theorem old_cl (z w : Str) : cl (oldP z w) = cl z ++ bl ((cl w).length - (cl z).length) := by
  unfold oldP
  rw [cl_ljust, len_cl w]
theorem new_cl (z w : Str) : cl (newP z w) = cl w ++ bl ((cl (oldP z w)).length - (cl w).length) := by
  unfold newP
  rw [cl_ljust, len_cl (oldP z w)]
theorem dif_ch {z w : Str} {k : Nat} (h : k < (oldP z w).length) : dif (oldP z w) (newP z w) k = difF z w k := by
  have h1 : k < (cl (oldP z w)).length := by rw [← len_cl]; exact h
  have h2 : k < (cl (newP z w)).length := by
    rw [new_cl, List.length_append, List.length_replicate]
    omega
  unfold dif difF
  rw [cps_at, cps_at, ch_at h1, ch_at h2, old_cl, new_cl, ch_bl, ch_bl]
  exact decide_eq_decide.mpr ⟨fun e f => e (by rw [f]), fun e f => e (Option.some.inj f)⟩
theorem ch_past {l : List Nat} {k : Nat} (h : l.length ≤ k) : ch l k = 32 := by
  unfold ch
  rw [List.getD_eq_getElem?_getD, List.getElem?_eq_none h]
  rfl
theorem difF_past {z w : Str} {k : Nat} (h : (oldP z w).length ≤ k) : difF z w k = false := by
  rw [oldP_len, len_cl, len_cl] at h
  unfold difF
  rw [ch_past (by omega), ch_past (by omega)]
  exact decide_eq_false (fun e => e rfl)
theorem runs_same {z w : Str} {n : Nat} (h : (oldP z w).length ≤ n) : runsF (difF z w) n = skR z w := by
  rw [runsF_past (L := (oldP z w).length) (fun k hk => difF_past hk) n h]
  exact (runsF_eq fun k hk => (dif_ch hk).symm)
/-- the same stretch of the line, however far blanks stand behind it -/
theorem cut_two (z : Str) {a b : Nat} (h : a ≤ b) (hb : b ≤ z.length) : cl (cutS z (some ((a : Nat) : Int)) (some ((b : Nat) : Int))) = ((cl z).drop a).take (b - a) := by
  have hz : z.length = (cl z).length := len_cl z
  unfold cutS
  rw [HT.sIx_nat, HT.sIx_nat, Nat.min_eq_left (by omega), Nat.min_eq_left (by omega)]
theorem new_len (z w : Str) : (newP z w).length = (oldP z w).length := by
  have h := oldP_len z w
  rw [len_cl (newP z w), new_cl, List.length_append, List.length_replicate]
  have h1 := len_cl (oldP z w)
  have h2 := len_cl w
  omega
theorem cut_same {z w y : Str} (hy : cl y = cl w ++ bl 400) (h200 : (oldP z w).length ≤ 200) {a b : Nat} (h : a ≤ b) (hb : b ≤ (oldP z w).length) :
    cutS y (some ((a : Nat) : Int)) (some ((b : Nat) : Int)) = cutS (newP z w) (some ((a : Nat) : Int)) (some ((b : Nat) : Int)) := by
  have ly : y.length = (cl w).length + 400 := by rw [len_cl, hy, List.length_append, List.length_replicate]
  have ln := new_len z w
  refine str_clE ?_
  rw [cut_two y h (by omega), cut_two (newP z w) h (by omega), hy, new_cl]
  have h1 := len_cl (oldP z w)
  refine List.ext_getElem? fun i => ?_
  by_cases hi : i < b - a
  · rw [List.getElem?_take_of_lt hi, List.getElem?_take_of_lt hi, List.getElem?_drop, List.getElem?_drop]
    by_cases hw : a + i < (cl w).length
    · rw [List.getElem?_append_left hw, List.getElem?_append_left hw]
    · rw [List.getElem?_append_right (by omega), List.getElem?_append_right (by omega), List.getElem?_replicate, List.getElem?_replicate, if_pos (by omega), if_pos (by omega)]
  · rw [List.getElem?_eq_none (by rw [List.length_take]; omega), List.getElem?_eq_none (by rw [List.length_take]; omega)]
end TG

namespace TG
open PySem PySem.Spec PyProof.Rows L2 NdefX GenW Gx Lv EnT
section
variable {P : Program} {w : World} {K : PySem.W.Frag} {mg : Str → Option Value} {base : Heap} {cs : List (Addr × Addr)}
abbrev s_lawStrokes : Stmt := top 38
def spLS : Sp := fun vs H Q _ => ∃ (a b : Addr) (zs ws : List Str), vs = [.ref a, .ref b] ∧ H a = some (.lst (sV zs)) ∧ LnOk zs ∧ H b = some (.lst (sV ws)) ∧ LnOk ws ∧
  ∀ (D : Addr) (H' : Hp), TupL H D (skV zs ws (max zs.length ws.length)) H' → Q (.ref D) H'
abbrev nmLS : List Str := ["_law_before", "_law_later", "_law_found", "_law_number", "_law_one", "_law_other", "_law_begin", "_law_last", "_law_k"]
theorem sc_LS : FnScope nmLS ["_law_before", "_law_later"] (defScope s_lawStrokes) := ⟨rfl, rfl, rfl, by decide +kernel, rfl, by decide +kernel, by decide +kernel⟩
theorem rep_one1 : ∀ (n : Nat) (v : V), (List.replicate n [v]).flatten = List.replicate n v
  | 0, _ => rfl
  | n + 1, v => by
    rw [List.replicate_succ, List.flatten_cons, rep_one1 n v, List.replicate_succ]
    rfl
theorem lineAt (zs : List Str) {i : Nat} (h : i < zs.length + 31) : (zs ++ List.replicate 31 ("" : Str))[i]? = some (lnA zs i) := by
  unfold lnA
  rw [List.getD_eq_getElem?_getD]
  by_cases hl : i < zs.length
  · rw [List.getElem?_append_left hl, List.getElem?_eq_getElem hl]
    rfl
  · rw [List.getElem?_append_right (by omega), List.getElem?_replicate, if_pos (by omega), List.getElem?_eq_none (by omega)]
    rfl
theorem ok_LS {f : Addr} {fd : FuncData} (T : Txt mg) (F : Fun K "_law_strokes" "_law_strokes" s_lawStrokes f fd) : FnOk P w K mg base CX0 1 f fd ["_law_before", "_law_later"] spLS := by
  refine F.ok sc_LS (fun vs H Q E h => ?_) (fun cdv A outer s H vs Q E hr h => ?_)
  · obtain ⟨a, b, _, _, rfl, _⟩ := h
    rfl
  · obtain ⟨a, b, zs, ws, rfl, ha, hzs, hb, hws, k⟩ := h
    have nd := sc_LS.nd
    have szl : (9000 : Nat) < sizeLine := by decide
    refine ⟨_, (pss_cons (ps_set (i := 2) nd rfl (.inl rfl) (pe_lst pa_nil))
      (pss_cons (ps_for PassesOwn.never rfl (pi_range1 (by rfl) T.range (pa_cons (pe_callB (call_max2 rfl) (by rfl) T.max (by decide +kernel) (pa_cons (pe_callB call_len_seq (by rfl) T.len PySem.boot_len (pa_cons (pv 0) pa_nil)) (pa_cons (pe_callB call_len_seq (by rfl) T.len PySem.boot_len (pa_cons (pv 1) pa_nil)) pa_nil))) pa_nil)) (pg_name (i := 3) nd rfl (.inl rfl))
      (pss_cons (ps_set (i := 4) nd rfl (.inl rfl) (pe_op op_add_str (pe_ix ix_list (pe_op op_cat (pv 0) (pe_op op_rep (pe_lst (pa_cons pe_str pa_nil)) pe_int)) (pv 3) (fun _ _ => rfl)) (pe_op op_repS pe_str pe_int)))
      (pss_cons (ps_set (i := 5) nd rfl (.inl rfl) (pe_op op_add_str (pe_ix ix_list (pe_op op_cat (pv 1) (pe_op op_rep (pe_lst (pa_cons pe_str pa_nil)) pe_int)) (pv 3) (fun _ _ => rfl)) (pe_op op_repS pe_str pe_int)))
      (pss_cons (ps_asg (pe_tup (pa_cons pe_non (pa_cons pe_int pa_nil))) (pg_tup rfl (pgs_cons (pg_name (i := 6) nd rfl (.inl rfl)) (pgs_cons (pg_name (i := 7) nd rfl (.inl rfl)) pgs_nil))))
      (pss_one (ps_for PassesOwn.never rfl (pi_range1 (by rfl) T.range (pa_cons pe_int pa_nil)) (pg_name (i := 8) nd rfl (.inl rfl))
      (pss_cons (ps_if (PW.pt (pw_and (pt_cmpR op_notN (pv 6) pe_non (nomark _)) (pw_and1 (pt_cmpR op_gt (pe_op op_sub (pv 8) (pv 7)) pe_int (nomark _))))) (pss_cons (ps_expr (pe_bm PySem.F.plainAttrs_list PySem.F.slot_list_append PySem.F.type_list_append mt_append (pv 2) (pa_cons (pe_tup (pa_cons (pv 3) (pa_cons (pv 6) (pa_cons (pe_slice sl_str (pv 5) (po_some (pv 6)) (po_some (pe_op op_add (pv 7) pe_int))) pa_nil)))) pa_nil)))
      (pss_one (ps_set (i := 6) nd rfl (.inl rfl) pe_non))) pss_nil)
      (pss_one (ps_if (pt_cmpR op_ne (pe_ix ix_str (pv 4) (pv 8) (fun _ _ => rfl)) (pe_ix ix_str (pv 5) (pv 8) (fun _ _ => rfl)) (nomark _)) (pss_one (ps_par (i := 6) (j := 7) rfl nd rfl rfl (by decide) rfl rfl (pa_cons (pe_ix ix_list (pe_lst (pa_cons (pv 6) (pa_cons (pv 8) pa_nil))) (pe_callTy call_int1 (by rfl) T.int (by decide +kernel) (pa_cons (pe_cmpR op_isN (pv 6) pe_non (nomark _)) pa_nil)) (fun _ _ => rfl)) (pa_cons (pv 8) pa_nil)) (by rfl))) pss_nil)))))))))
      (pss_one (ps_ret (pv 2))))), ?_⟩
    refine ⟨small0, fun D nD => ?_⟩
    have o0 := TupL.start nD
    have lz : (sV zs).length = zs.length := List.length_map ..
    have lw : (sV ws).length = ws.length := List.length_map ..
    have hz30 := hzs.len
    have hw30 := hws.len
    refine ⟨_, rfl, a, _, rfl, .inl (SqL.of (o0.sm _ _ ha)), _, rfl, b, _, rfl, .inl (SqL.of (o0.sm _ _ hb)), _, _, rfl, ?_⟩
    have em : (if (((sV ws).length : Nat) : Int) > (((sV zs).length : Nat) : Int) then (((sV ws).length : Nat) : Int) else (((sV zs).length : Nat) : Int)) = ((max zs.length ws.length : Nat) : Int) := by
      rw [lz, lw]
      split <;> omega
    rw [em]
    generalize hN : max zs.length ws.length = N at k ⊢
    have hN30 : N ≤ 30 := by omega
    refine ⟨_, rfl, by omega, by omega, for_range (n := N) (fun i σ H' => TupL H D (skV zs ws i) H' ∧ ∃ c3 c4 c5 c6 c7 c8 : Option V, σ = [some (.ref a), some (.ref b), some (.ref D), c3, c4, c5, c6, c7, c8]) ⟨o0, none, none, none, none, none, none, rfl⟩ ?_ ?_⟩
    rotate_left
    · rintro σ H3 ⟨o1, c3, c4, c5, c6, c7, c8, rfl⟩
      exact ⟨_, rfl, k D H3 o1⟩
    rintro i σ H1 hi ⟨o1, c3, c4, c5, c6, c7, c8, rfl⟩
    have e0 : (0 : Int) + ((i : Nat) : Int) = ((i : Nat) : Int) := by omega
    rw [e0]
    have e31 : (List.replicate (31 : Int).toNat [V.str ""]).flatten = sV (List.replicate 31 ("" : Str)) := by
      rw [rep_one1]
      show _ = List.map V.str _
      rw [List.map_replicate]
      rfl
    have ec : ∀ xs : List Str, sV xs ++ sV (List.replicate 31 ("" : Str)) = sV (xs ++ List.replicate 31 ("" : Str)) := fun xs => by
      show List.map V.str _ ++ List.map V.str _ = List.map V.str _
      rw [List.map_append]
    refine ⟨_, rfl, by show 1 ≤ sizeLine; decide, fun q2 n2 => ⟨q2, 31, _, rfl, rfl, upd_same, by decide, by decide, by show 1 * 31 ≤ sizeLine; decide, fun q3 n3 => ?_⟩⟩
    rw [e31]
    have o1 := o1.grow (same_new (o := .lst [V.str ""]) n2)
    generalize upd H1 q2 (.lst [V.str ""]) = Ha at o1 n3 ⊢
    have o1 := o1.grow (same_new (o := .lst (sV (List.replicate 31 ("" : Str)))) n3)
    have h3 := upd_same (H := Ha) (a := q3) (o := .lst (sV (List.replicate 31 ("" : Str))))
    generalize upd Ha q3 (.lst (sV (List.replicate 31 ("" : Str)))) = Hb at o1 h3 ⊢
    refine ⟨a, q3, _, _, rfl, rfl, o1.sm _ _ ha, h3, by rw [List.length_map, List.length_map, List.length_replicate]; omega, fun q4 n4 => ?_⟩
    rw [ec]
    have o1 := o1.grow (same_new (o := .lst (sV (zs ++ List.replicate 31 ("" : Str)))) n4)
    have h4 := upd_same (H := Hb) (a := q4) (o := .lst (sV (zs ++ List.replicate 31 ("" : Str))))
    generalize upd Hb q4 (.lst (sV (zs ++ List.replicate 31 ("" : Str)))) = Hc at o1 h4 ⊢
    have ez : ((zs ++ List.replicate 31 ("" : Str)))[i]? = some (lnA zs i) := lineAt zs (by have := hzs.len; omega)
    have hl2 := lnA_len hzs i
    refine ⟨_, rfl, q4, _, _, .str (lnA zs i), rfl, rfl, SqL.of h4, atI_nat (by rw [List.getElem?_map, ez]; rfl), 32, 400, sp32, rfl, by decide, by decide, _, _, rfl, rfl, by rw [rep_len]; show _ + 400 ≤ sizeLine; omega, ?_⟩
    obtain ⟨y1, hyy1, ey1⟩ : ∃ y : Str, cl y = cl (lnA zs i) ++ bl 400 ∧ lnA zs i ++ repS 32 (400 : Int).toNat = y := ⟨_, by rw [cl_app, cl_repS]; rfl, rfl⟩
    rw [ey1]
    clear ey1 n2 n3 n4 h3 h4 ez
    refine ⟨_, rfl, by show 1 ≤ sizeLine; decide, fun q2 n2 => ⟨q2, 31, _, rfl, rfl, upd_same, by decide, by decide, by show 1 * 31 ≤ sizeLine; decide, fun q3 n3 => ?_⟩⟩
    rw [e31]
    have o1 := o1.grow (same_new (o := .lst [V.str ""]) n2)
    generalize upd Hc q2 (.lst [V.str ""]) = Hd1 at o1 n3 ⊢
    have o1 := o1.grow (same_new (o := .lst (sV (List.replicate 31 ("" : Str)))) n3)
    have h3 := upd_same (H := Hd1) (a := q3) (o := .lst (sV (List.replicate 31 ("" : Str))))
    generalize upd Hd1 q3 (.lst (sV (List.replicate 31 ("" : Str)))) = He at o1 h3 ⊢
    refine ⟨b, q3, _, _, rfl, rfl, o1.sm _ _ hb, h3, by rw [List.length_map, List.length_map, List.length_replicate]; omega, fun q4 n4 => ?_⟩
    rw [ec]
    have o1 := o1.grow (same_new (o := .lst (sV (ws ++ List.replicate 31 ("" : Str)))) n4)
    have h4 := upd_same (H := He) (a := q4) (o := .lst (sV (ws ++ List.replicate 31 ("" : Str))))
    generalize upd He q4 (.lst (sV (ws ++ List.replicate 31 ("" : Str)))) = Hf at o1 h4 ⊢
    have ez : ((ws ++ List.replicate 31 ("" : Str)))[i]? = some (lnA ws i) := lineAt ws (by have := hws.len; omega)
    have hl2 := lnA_len hws i
    refine ⟨_, rfl, q4, _, _, .str (lnA ws i), rfl, rfl, SqL.of h4, atI_nat (by rw [List.getElem?_map, ez]; rfl), 32, 400, sp32, rfl, by decide, by decide, _, _, rfl, rfl, by rw [rep_len]; show _ + 400 ≤ sizeLine; omega, ?_⟩
    obtain ⟨y2, hyy2, ey2⟩ : ∃ y : Str, cl y = cl (lnA ws i) ++ bl 400 ∧ lnA ws i ++ repS 32 (400 : Int).toNat = y := ⟨_, by rw [cl_app, cl_repS]; rfl, rfl⟩
    rw [ey2]
    clear ey2 n2 n3 n4 h3 h4 ez
    refine ⟨by show 2 ≤ sizeLine; decide, fun t0 nt0 => ?_⟩
    have o1 := o1.grow (same_new (o := .tup [V.non, V.int 0]) nt0)
    have ht0 := upd_same (H := Hf) (a := t0) (o := .tup [V.non, V.int 0])
    generalize upd Hf t0 (.tup [V.non, V.int 0]) = Hg at o1 ht0 ⊢
    refine ⟨t0, _, rfl, .inl (.inl ht0), rfl, _, _, rfl, _, _, rfl, rfl, ?_⟩
    clear ht0 nt0
    have hz2 := lnA_len hzs i
    have hw2 := lnA_len hws i
    have hsk : skL zs ws i = (skR (lnA zs i) (lnA ws i)).map (skE i (newP (lnA zs i) (lnA ws i))) := rfl
    generalize lnA zs i = zz at *
    generalize lnA ws i = ww at *
    have L200 : (oldP zz ww).length ≤ 200 := by rw [oldP_len]; omega
    have lny1 : y1.length = zz.length + 400 := by rw [len_cl, hyy1, List.length_append, List.length_replicate, ← len_cl]
    have lny2 : y2.length = ww.length + 400 := by rw [len_cl, hyy2, List.length_append, List.length_replicate, ← len_cl]
    refine ⟨_, rfl, by decide, by decide, for_range (n := 204) (fun k σ H' => ∃ (FF : List (Nat × Nat)) (op : Option (Nat × Nat)) (bv lv : V) (c8 : Option V), σ = [some (.ref a), some (.ref b), some (.ref D), some (.int (i : Nat)), some (.str y1), some (.str y2), some bv, some lv, c8] ∧
      TupL H D (skV zs ws i ++ FF.map (skE i (newP zz ww))) H' ∧ OpenF (difF zz ww) k FF op ∧ ((op = none ∧ bv = .non ∧ ∃ m : Nat, lv = .int (m : Nat)) ∨ ∃ b l : Nat, op = some (b, l) ∧ bv = .int (b : Nat) ∧ lv = .int (l : Nat) ∧ b ≤ l ∧ l < (oldP zz ww).length ∧ k ≤ l + 4))
      ⟨[], none, .non, .int 0, _, rfl, by rw [List.map_nil, List.append_nil]; exact o1, OpenF.start, .inl ⟨rfl, rfl, 0, rfl⟩⟩ ?_ ?_⟩
    rotate_left
    · rintro σ H3 ⟨FF, op, bv, lv, c8, rfl, o2, op2, h2⟩
      have hop : op = none := by
        rcases h2 with ⟨e, _⟩ | ⟨b', l, _, _, _, h3, h4, h5⟩
        · exact e
        · omega
      subst hop
      have eF : runsF (difF zz ww) 204 = FF := op2.1
      rw [runs_same (by omega)] at eF
      refine ⟨?_, _, _, _, _, _, _, rfl⟩
      rw [skV_succ, hsk, eF]
      exact o2
    clear o1
    rintro kk σ H3 hkk ⟨FF, op, bv, lv, c8, rfl, o2, op2, h2⟩
    have ek : (0 : Int) + ((kk : Nat) : Int) = ((kk : Nat) : Int) := by omega
    rw [ek]
    have c1 : atI y1.cps.toList ((kk : Nat) : Int) = some (ch (cl zz) kk) := atI_nat (by
      show (cl y1)[kk]? = _
      have hl : kk < (cl y1).length := by rw [← len_cl]; omega
      rw [ch_at hl, hyy1, ch_bl])
    have c2 : atI y2.cps.toList ((kk : Nat) : Int) = some (ch (cl ww) kk) := atI_nat (by
      show (cl y2)[kk]? = _
      have hl : kk < (cl y2).length := by rw [← len_cl]; omega
      rw [ch_at hl, hyy2, ch_bl])
    rcases h2 with ⟨e, eb, m, el⟩ | ⟨b', l, e, eb, el, h3, h4, h5⟩
    · subst e eb el
      refine ⟨_, rfl, rfl, false, rfl, iteF (iteF ?_)⟩
      refine ⟨_, rfl, _, rfl, y1, _, _, rfl, rfl, by omega, c1, _, rfl, _, rfl, y2, _, _, rfl, rfl, by omega, c2, ?_⟩
      by_cases hne : ch (cl zz) kk = ch (cl ww) kk
      · have hD : difF zz ww kk = false := decide_eq_false (fun h => h hne)
        exact ⟨rfl, false, by rw [hne, decide_eq_true rfl]; rfl, iteF ⟨_, _, _, _, _, rfl, o2, OpenF.like op2 hD, .inl ⟨rfl, rfl, m, rfl⟩⟩⟩
      · have hD : difF zz ww kk = true := decide_eq_true hne
        have hko : kk < (oldP zz ww).length := by
          refine Nat.lt_of_not_le fun h => ?_
          rw [difF_past h] at hD
          cases hD
        refine ⟨rfl, true, by rw [decide_eq_false (fun h => hne (by injection h with h; injection h with h; simpa using h))]; rfl, iteT ⟨_, rfl, _, rfl, by show 2 ≤ sizeLine; decide, fun q nq => ?_⟩⟩
        have o3 := TupL.grow o2 (same_new (o := .lst [.non, .int (kk : Nat)]) nq)
        refine ⟨_, rfl, rfl, .inr ⟨_, rfl, q, _, _, .int (kk : Nat), rfl, rfl, SqL.of upd_same, rfl, _, rfl, _, _, rfl, ?_⟩⟩
        exact ⟨_, _, _, _, _, rfl, o3, OpenF.new op2 hD, .inr ⟨kk, kk, rfl, rfl, rfl, Nat.le_refl _, hko, by omega⟩⟩
    · subst e eb el
      refine ⟨_, rfl, rfl, true, rfl, iteT ⟨_, rfl, _, rfl, _, _, rfl, rfl, ?_⟩⟩
      have h6 : l < kk := (runsF_in kk (b', l) (by rw [show runsF (difF zz ww) kk = _ from op2]; exact List.mem_append_right _ (List.mem_singleton.mpr rfl))).2
      by_cases g : l + 3 < kk
      · refine ⟨_, _, rfl, rfl, true, dT (by omega), iteT ?_⟩
        obtain ⟨acc0, w1, _⟩ := o2.lst
        refine ⟨_, rfl, .inl ⟨rfl, _, SqL.of w1⟩, _, rfl, _, rfl, _, rfl, _, rfl, _, rfl, _, rfl, _, _, rfl, rfl, _, rfl, y2, rfl, by omega, by show 3 ≤ sizeLine; decide, fun t5 nt5 => ?_⟩
        have eS : cutS y2 (some ((b' : Nat) : Int)) (some (((l : Nat) : Int) + 1)) = cutS (newP zz ww) (some ((b' : Nat) : Int)) (some ((l + 1 : Nat) : Int)) := cut_same hyy2 L200 (b := l + 1) (by omega) (by omega)
        rw [eS]
        have o4 := o2.grow (same_new (o := .tup (skE i (newP zz ww) (b', l))) nt5)
        obtain ⟨acc, u1, u2, u3⟩ := o4.more (t := t5) (v := skE i (newP zz ww) (b', l)) upd_same
        have hFl := runsF_len (D := difF zz ww) kk
        rw [show runsF (difF zz ww) kk = FF ++ [(b', l)] from op2, List.length_append, List.length_singleton] at hFl
        refine ⟨D, acc, _, rfl, rfl, u1, ?_, ?_⟩
        · have := skV_len hzs hws i
          rw [u2, List.length_append, List.length_map]
          omega
        have e3 : skV zs ws i ++ FF.map (skE i (newP zz ww)) ++ [skE i (newP zz ww) (b', l)] = skV zs ws i ++ (FF ++ [(b', l)]).map (skE i (newP zz ww)) := by
          rw [List.map_append, List.append_assoc]
          rfl
        rw [e3] at u3
        have o5 := u3
        have op5 : OpenF (difF zz ww) kk (FF ++ [(b', l)]) none := OpenF.shut op2 g
        generalize upd (upd H3 t5 (.tup (skE i (newP zz ww) (b', l)))) D (.lst (acc ++ [.ref t5])) = H5 at o5 ⊢
        refine ⟨_, rfl, _, rfl, y1, _, _, rfl, rfl, by omega, c1, _, rfl, _, rfl, y2, _, _, rfl, rfl, by omega, c2, ?_⟩
        by_cases hne : ch (cl zz) kk = ch (cl ww) kk
        · have hD : difF zz ww kk = false := decide_eq_false (fun h => h hne)
          exact ⟨rfl, false, by rw [hne, decide_eq_true rfl]; rfl, iteF ⟨_, _, _, _, _, rfl, o5, OpenF.like op5 hD, .inl ⟨rfl, rfl, l, rfl⟩⟩⟩
        · have hD : difF zz ww kk = true := decide_eq_true hne
          have hko : kk < (oldP zz ww).length := by
            refine Nat.lt_of_not_le fun h => ?_
            rw [difF_past h] at hD
            cases hD
          refine ⟨rfl, true, by rw [decide_eq_false (fun h => hne (by injection h with h; injection h with h; simpa using h))]; rfl, iteT ⟨_, rfl, _, rfl, by show 2 ≤ sizeLine; decide, fun q nq => ?_⟩⟩
          have o3 := TupL.grow o5 (same_new (o := .lst [.non, .int (kk : Nat)]) nq)
          refine ⟨_, rfl, rfl, .inr ⟨_, rfl, q, _, _, .int (kk : Nat), rfl, rfl, SqL.of upd_same, rfl, _, rfl, _, _, rfl, ?_⟩⟩
          exact ⟨_, _, _, _, _, rfl, o3, OpenF.new op5 hD, .inr ⟨kk, kk, rfl, rfl, rfl, Nat.le_refl _, hko, by omega⟩⟩
      · refine ⟨_, _, rfl, rfl, false, dF (by omega), iteF ?_⟩
        refine ⟨_, rfl, _, rfl, y1, _, _, rfl, rfl, by omega, c1, _, rfl, _, rfl, y2, _, _, rfl, rfl, by omega, c2, ?_⟩
        by_cases hne : ch (cl zz) kk = ch (cl ww) kk
        · have hD : difF zz ww kk = false := decide_eq_false (fun h => h hne)
          exact ⟨rfl, false, by rw [hne, decide_eq_true rfl]; rfl, iteF ⟨_, _, _, _, _, rfl, o2, OpenF.like op2 hD, .inr ⟨b', l, rfl, rfl, rfl, h3, h4, by omega⟩⟩⟩
        · have hD : difF zz ww kk = true := decide_eq_true hne
          have hko : kk < (oldP zz ww).length := by
            refine Nat.lt_of_not_le fun h => ?_
            rw [difF_past h] at hD
            cases hD
          refine ⟨rfl, true, by rw [decide_eq_false (fun h => hne (by injection h with h; injection h with h; simpa using h))]; rfl, iteT ⟨_, rfl, _, rfl, by show 2 ≤ sizeLine; decide, fun q nq => ?_⟩⟩
          have o3 := TupL.grow o2 (same_new (o := .lst [.int (b' : Nat), .int (kk : Nat)]) nq)
          refine ⟨_, rfl, rfl, .inr ⟨_, rfl, q, _, _, .int (b' : Nat), rfl, rfl, SqL.of upd_same, rfl, _, rfl, _, _, rfl, ?_⟩⟩
          exact ⟨_, _, _, _, _, rfl, o3, OpenF.more op2 hD g, .inr ⟨b', kk, rfl, rfl, rfl, by omega, hko, by omega⟩⟩
end
end TG

namespace TG
open PySem PySem.Spec PyProof.Rows L2 NdefX GenW Gx Lv EnT
section
variable {P : Program} {w : World} {K : PySem.W.Frag} {mg : Str → Option Value} {base : Heap} {cs : List (Addr × Addr)} {C : Addr}
/-! ### strokes of lines that can't be -/
def spSKL (K : PySem.W.Frag) (cs : List (Addr × Addr)) (C : Addr) : Sp := fun vs H _ E => ∃ (a : Addr) (u : V) (xs : List V) (n : Nat), vs = [.ref a, u] ∧ Tabs cs H ∧ SqL K H a xs ∧ BadLn K H xs n ∧ Stays K cs H xs ∧
  ∀ (d : Addr) (H' : Hp), Ex cs H H' → H d = none → H' d = some (.xd [("line", .int (n : Nat))]) → E (.ref C) (some d) H'
theorem ok_SKL {f g1 : Addr} {fd fd1 : FuncData} (F : Fun K "strokes" "strokes" s_strokes f fd)
    (G1 : FnOk P w K mg base (L2.CX P w) 6 g1 fd1 ["lines"] (spLinesX K cs C)) (k1 : PySem.W.keepIn K (.ref g1) = true) (b1 : Binds K fd1 ["lines"] []) (m1 : mg "check_lines" = some (.ref g1)) : FnOk P w K mg base (L2.CX P w) 7 f fd ["before", "later"] (spSKL K cs C) := by
  refine F.okX sc_SK (fun vs H Q E h => ?_) (fun cdv A outer s H vs Q E hr h => ?_)
  · obtain ⟨a, u, xs, n, rfl, _⟩ := h
    rfl
  · obtain ⟨a, u, xs, n, rfl, hT, ha, hb, hs, k⟩ := h
    have r6 : Room 6 _ := hr
    refine ⟨_, (pss_cons (ps_expr (pe_callS G1 r6 (by rfl) m1 k1 b1 (fun σ => passAt (takes_of rfl rfl rfl rfl) σ) (pa_cons (pv 0) pa_nil)))
      (pss_cons ps_never
      (pss_cons ps_never
      (pss_cons ps_never
      (pss_one ps_never))))), ?_⟩
    exact ⟨_, rfl, a, xs, n, rfl, hT, ha, hb, hs, k⟩
def spSKR (K : PySem.W.Frag) (cs : List (Addr × Addr)) (C : Addr) : Sp := fun vs H _ E => ∃ (e a : Addr) (zs : List Str) (xs : List V) (n : Nat), vs = [.ref e, .ref a] ∧ Tabs cs H ∧ SqL K H e (sV zs) ∧ LnOk zs ∧ SqL K H a xs ∧ BadLn K H xs n ∧ Firm K cs H xs ∧
  ∀ (d : Addr) (H' : Hp), Ex cs H H' → H d = none → H' d = some (.xd [("line", .int (n : Nat))]) → E (.ref C) (some d) H'
theorem ok_SKR {f g1 : Addr} {fd fd1 : FuncData} (F : Fun K "strokes" "strokes" s_strokes f fd)
    (G0 : FnOk P w K mg base CX0 6 g1 fd1 ["lines"] (spLines K cs)) (G1 : FnOk P w K mg base (L2.CX P w) 6 g1 fd1 ["lines"] (spLinesX K cs C)) (k1 : PySem.W.keepIn K (.ref g1) = true) (b1 : Binds K fd1 ["lines"] []) (m1 : mg "check_lines" = some (.ref g1)) : FnOk P w K mg base (L2.CX P w) 7 f fd ["before", "later"] (spSKR K cs C) := by
  refine F.okX sc_SK (fun vs H Q E h => ?_) (fun cdv A outer s H vs Q E hr h => ?_)
  · obtain ⟨e, a, zs, xs, n, rfl, _⟩ := h
    rfl
  · obtain ⟨e, a, zs, xs, n, rfl, hT, he, hz, ha, hb, hs, k⟩ := h
    have r6 : Room 6 _ := hr
    refine ⟨_, (pss_cons (ps_expr (pe_call G0 r6 (by rfl) m1 k1 b1 .nil pass0 (pa_cons (pv 0) pa_nil)))
      (pss_cons (ps_expr (pe_callS G1 r6 (by rfl) m1 k1 b1 (fun σ => passAt (takes_of rfl rfl rfl rfl) σ) (pa_cons (pv 1) pa_nil)))
      (pss_cons ps_never
      (pss_cons ps_never
      (pss_one ps_never))))), ?_⟩
    refine ⟨_, rfl, e, zs, rfl, hT, he, hz, fun H1 x1 => ?_⟩
    exact ⟨_, rfl, a, xs, n, rfl, x1.tab, x1.sqL ha, hb.ex hs x1, fun v hv hn H' x => (hs.ex x1).stays v hv hn H' x, fun d H2 x2 nd hd => k d H2 (x1.trans x2) (x1.old _ nd) hd⟩
end
end TG

namespace TG
open PySem PySem.Spec PyProof.Rows L2 NdefX GenW Gx Lv EnT
section
variable {P : Program} {w : World} {K : PySem.W.Frag} {mg : Str → Option Value} {base : Heap} {cs : List (Addr × Addr)}
abbrev s_near : Stmt := top 35
def OkS (z : Str) : Prop := ∀ c ∈ cl z, SgOk c
theorem OkS.cut {z : Str} (h : OkS z) (lo hi : Option Int) : OkS (cutS z lo hi) := fun c hc => h c (by
  have e : cl (cutS z lo hi) = ((z.cps.toList.drop (HT.sIx z.length 0 lo)).take (HT.sIx z.length z.length hi - HT.sIx z.length 0 lo)) := rfl
  rw [e] at hc
  exact List.mem_of_mem_drop (List.mem_of_mem_take hc))
theorem OkS.app {x y : Str} (h : OkS x) (g : OkS y) : OkS (x ++ y) := fun c hc => by
  rw [cl_app] at hc
  exact (List.mem_append.mp hc).elim (h c) (g c)
theorem cut_two_len (y : Str) {a b : Nat} (h : a ≤ b) : (cutS y none (some ((a : Nat) : Int))).length + (cutS y (some ((b : Nat) : Int)) none).length ≤ y.length := by
  unfold cutS Str.length
  simp only [HT.sIx_none, HT.sIx_nat, List.size_toArray, List.length_take, List.length_drop, Array.length_toList]
  omega
def spNear : Sp := fun vs H Q _ => ∃ (b l : Addr) (z : Str), vs = [.ref b, .str z] ∧ BoxAt H b l ∧ z.length ≤ 200 ∧ OkS z ∧ ∀ (z' : Str) (H' : Hp), BoxAt H' b l → KB b l H H' → z'.length ≤ 200 → OkS z' → Q (.str z') H'
abbrev nmNR : List Str := ["_law_box", "_law_line_here", "_law_found", "_law_turn", "_law_k", "_law_way"]
theorem sc_NR : FnScope nmNR ["_law_box", "_law_line_here"] (defScope s_near) := ⟨rfl, rfl, rfl, by decide +kernel, rfl, by decide +kernel, by decide +kernel⟩
theorem ok_NR {f gG gN : Addr} {fd fdG fdN : FuncData} (T : Txt mg) (F : Fun K "_law_line_near" "_law_line_near" s_near f fd)
    (G : FnOk P w K mg base CX0 1 gG fdG ["_law_box", "_law_many"] spTakeW) (kG : PySem.W.keepIn K (.ref gG) = true) (bG : Binds K fdG ["_law_box", "_law_many"] []) (mG : mg "_law_take" = some (.ref gG))
    (N : FnOk P w K mg base CX0 2 gN fdN ["_law_box"] spSign) (kN : PySem.W.keepIn K (.ref gN) = true) (bN : Binds K fdN ["_law_box"] []) (mN : mg "_law_sign" = some (.ref gN)) :
    FnOk P w K mg base CX0 3 f fd ["_law_box", "_law_line_here"] spNear := by
  refine F.ok sc_NR (fun vs H Q E h => ?_) (fun cdv A outer s H vs Q E hr h => ?_)
  · obtain ⟨b, l, z, rfl, _⟩ := h
    rfl
  · obtain ⟨b, l, z, rfl, hB, hz, hok, k⟩ := h
    have nd := sc_NR.nd
    have r1 : Room 1 _ := hr.mono (by decide)
    have r2 : Room 2 _ := hr
    have szl : (9000 : Nat) < sizeLine := by decide
    refine ⟨_, (pss_cons (ps_set (i := 2) nd rfl (.inl rfl) (pv 1))
      (pss_cons (ps_for PassesOwn.never rfl (pi_range1 (by rfl) T.range (pa_cons (pe_call G r1 (by rfl) mG kG bG .nil pass0 (pa_cons (pv 0) (pa_cons pe_int pa_nil))) pa_nil)) (pg_name (i := 3) nd rfl (.inl rfl))
      (pss_cons (ps_par (i := 4) (j := 5) rfl nd rfl rfl (by decide) rfl rfl (pa_cons (pe_call G r1 (by rfl) mG kG bG .nil pass0 (pa_cons (pv 0) (pa_cons (pe_op op_add (pe_callB call_len_str (by rfl) T.len PySem.boot_len (pa_cons (pv 2) pa_nil)) pe_int) pa_nil))) (pa_cons (pe_call G r1 (by rfl) mG kG bG .nil pass0 (pa_cons (pv 0) (pa_cons pe_int pa_nil))) pa_nil)) (by rfl))
      (pss_cons (ps_if (pt_cmpR op_lt (pv 5) pe_int (nomark _)) (pss_one (ps_set (i := 2) nd rfl (.inl rfl) (pe_op op_add_str (pe_op op_add_str (pe_slice sl_str (pv 2) po_none (po_some (pv 4))) (pe_ix ix_list (pe_lst (pa_cons (pe_call N r2 (by rfl) mN kN bN .nil pass0 (pa_cons (pv 0) pa_nil)) (pa_cons pe_str (pa_cons pe_str pa_nil)))) (pv 5) (fun _ _ => rfl))) (pe_slice sl_str (pv 2) (po_some (pe_op op_add (pv 4) pe_int)) po_none)))) pss_nil)
      (pss_cons (ps_if (pt_cmpR op_eq (pv 5) pe_int (nomark _)) (pss_one (ps_set (i := 2) nd rfl (.inl rfl) (pe_op op_add_str (pe_op op_add_str (pe_slice sl_str (pv 2) po_none (po_some (pv 4))) (pe_slice sl_str pe_str po_none (po_some (pe_call G r1 (by rfl) mG kG bG .nil pass0 (pa_cons (pv 0) (pa_cons pe_int pa_nil)))))) (pe_slice sl_str (pv 2) (po_some (pv 4)) po_none)))) pss_nil)
      (pss_one (ps_if (pt_cmpR op_eq (pv 5) pe_int (nomark _)) (pss_one (ps_set (i := 2) nd rfl (.inl rfl) (pe_ix ix_list (pe_lst (pa_cons (pe_slice sl_str (pv 2) po_none (po_some (pv 4))) (pa_cons (pe_op op_add_str (pe_slice sl_str (pv 2) po_none (po_some (pv 4))) (pe_slice sl_str (pv 2) (po_some (pe_op op_add (pe_op op_add (pv 4) pe_int) (pe_call G r1 (by rfl) mG kG bG .nil pass0 (pa_cons (pv 0) (pa_cons pe_int pa_nil))))) po_none)) pa_nil))) (pe_call G r1 (by rfl) mG kG bG .nil pass0 (pa_cons (pv 0) (pa_cons pe_int pa_nil))) (fun _ _ => rfl)))) pss_nil))))))
      (pss_one (ps_ret (pe_slice sl_str (pv 2) po_none (po_some pe_int)))))), ?_⟩
    refine ⟨_, rfl, _, rfl, b, l, 6, rfl, hB, by decide, by decide, fun tn H1 t0 t1 hB1 x1 => ⟨_, rfl, by omega, by omega, for_range (n := tn.toNat) (fun i σ H' => ∃ (y : Str) (c3 c4 c5 : Option V), σ = [some (.ref b), some (.str z), some (.str y), c3, c4, c5] ∧ BoxAt H' b l ∧ KB b l H H' ∧ y.length ≤ 200 + 3 * i ∧ OkS y)
      ⟨z, none, none, none, rfl, hB1, x1, by omega, hok⟩ ?_ ?_⟩⟩
    rotate_left
    · rintro σ H2 ⟨y, c3, c4, c5, rfl, hB2, x2, hy, oy⟩
      refine ⟨_, rfl, _, rfl, y, rfl, by omega, ?_⟩
      have h200 : (cutS y none (some ((200 : Nat) : Int))).length ≤ 200 := by
        unfold cutS Str.length
        rw [HT.sIx_none, HT.sIx_nat]
        simp only [List.size_toArray, List.length_take]
        omega
      exact k _ H2 hB2 x2 h200 (oy.cut _ _)
    rintro i σ H2 hi ⟨y, c3, c4, c5, rfl, hB2, x2, hy, oy⟩
    have hi6 : i < 6 := by omega
    refine ⟨_, rfl, _, rfl, y, rfl, by omega, _, _, rfl, rfl, b, l, _, rfl, hB2, by omega, by omega, fun kv H3 k0 k1 hB3 x3 => ⟨_, rfl, b, l, 5, rfl, hB3, by decide, by decide, fun way H4 w0 w1 hB4 x4 => ⟨_, _, rfl, ?_⟩⟩⟩
    have x5 := (x2.trans x3).trans x4
    clear x2 x3 x4 hB2 hB3
    obtain ⟨kn, rfl⟩ := Int.eq_ofNat_of_zero_le k0
    have dfi : ∀ {a b : Int}, a ≠ b → V.bl (decide (V.int a = V.int b)) = V.bl false := fun h => dF (fun e => h (by injection e))
    by_cases h3 : way < 3
    · refine ⟨_, rfl, _, _, rfl, rfl, true, dT h3, iteT ?_⟩
      refine ⟨_, rfl, _, rfl, _, rfl, y, rfl, by omega, _, rfl, b, l, rfl, hB4, fun c H5 hc hB5 x6 => ⟨by show 3 ≤ sizeLine; decide, fun q nq => ?_⟩⟩
      obtain ⟨s1, hs1, es1⟩ := pick (xs := [(⟨#[c]⟩ : Str), " ", "a"]) (i := way) w0 h3
      have os1 : OkS s1 ∧ s1.length = 1 := by
        simp only [List.mem_cons, List.not_mem_nil, or_false] at hs1
        rcases hs1 with e | e | e <;> rw [e]
        · exact ⟨fun d hd => by rw [show cl (⟨#[c]⟩ : Str) = [c] from rfl, List.mem_singleton] at hd; rw [hd]; exact hc, rfl⟩
        · exact ⟨sg_of (by decide +kernel), by decide +kernel⟩
        · exact ⟨sg_of (by decide +kernel), by decide +kernel⟩
      have q1 := cutS_len y none (some ((kn : Nat) : Int))
      have q2 := cutS_len y (some (((kn : Nat) : Int) + 1)) none
      refine ⟨_, rfl, q, _, _, .str s1, rfl, rfl, SqL.of upd_same, atI_map (f := V.str) es1, _, _, rfl, rfl, by rw [os1.2]; omega, _, rfl, _, rfl, _, _, rfl, rfl, _, rfl, y, rfl, by omega, _, _, rfl, rfl, by rw [app_len2, os1.2]; omega, ?_⟩
      refine ⟨_, rfl, rfl, false, dfi (by omega), iteF ⟨_, rfl, rfl, false, dfi (by omega), iteF ?_⟩⟩
      have q3 : (cutS y none (some ((kn : Nat) : Int))).length + (cutS y (some (((kn : Nat) : Int) + 1)) none).length ≤ y.length := cut_two_len y (b := kn + 1) (Nat.le_succ _)
      exact ⟨_, _, _, _, rfl, box_new hB5 nq, (x5.trans x6).trans (kb_new nq), by rw [app_len2, app_len2, os1.2]; omega, ((oy.cut _ _).app os1.1).app (oy.cut _ _)⟩
    by_cases h4 : way = 3
    · refine ⟨_, rfl, _, _, rfl, rfl, false, dF h3, iteF ⟨_, rfl, rfl, true, dT (by rw [h4]), iteT ?_⟩⟩
      have q1 := cutS_len y none (some ((kn : Nat) : Int))
      have q2 := cutS_len y (some ((kn : Nat) : Int)) none
      refine ⟨_, rfl, _, rfl, _, rfl, y, rfl, by omega, _, rfl, b, l, 4, rfl, hB4, by decide, by decide, fun u H5 u0 u1 hB5 x6 => ?_⟩
      have q4 := cutS_len "ab " none (some u)
      have q5 : ("ab " : Str).length = 3 := by decide +kernel
      refine ⟨_, rfl, "ab ", rfl, by rw [q5]; omega, _, _, rfl, rfl, by omega, ?_⟩
      refine ⟨_, rfl, _, rfl, _, rfl, y, rfl, by omega, _, _, rfl, rfl, by rw [app_len2]; omega, ?_⟩
      refine ⟨_, rfl, rfl, false, dfi (by omega), iteF ?_⟩
      have q3 := cut_two_len y (Nat.le_refl kn)
      exact ⟨_, _, _, _, rfl, hB5, x5.trans x6, by rw [app_len2, app_len2]; omega, ((oy.cut _ _).app (OkS.cut (sg_of (by decide +kernel)) _ _)).app (oy.cut _ _)⟩
    · refine ⟨_, rfl, _, _, rfl, rfl, false, dF h3, iteF ⟨_, rfl, rfl, false, dfi h4, iteF ⟨_, rfl, rfl, true, dT (by rw [show way = 4 by omega]), iteT ?_⟩⟩⟩
      have q1 := cutS_len y none (some ((kn : Nat) : Int))
      refine ⟨_, rfl, _, rfl, _, rfl, y, rfl, by omega, _, rfl, _, rfl, _, rfl, y, rfl, by omega, _, rfl, _, rfl, _, _, rfl, rfl, _, rfl, b, l, 9, rfl, hB4, by decide, by decide, fun u H5 u0 u1 hB5 x6 => ?_⟩
      have q2 := cutS_len y (some (((kn : Nat) : Int) + 1 + u)) none
      refine ⟨_, _, rfl, rfl, _, rfl, y, rfl, by omega, _, _, rfl, rfl, by omega, by show 2 ≤ sizeLine; decide, fun q nq => ?_⟩
      refine ⟨_, rfl, b, l, 2, rfl, box_new hB5 nq, by decide, by decide, fun zi H6 z0 z1 hB6 x7 => ?_⟩
      obtain ⟨nb, nl⟩ := new_ne hB5 nq
      obtain ⟨s1, hs1, es1⟩ := pick (xs := [cutS y none (some ((kn : Nat) : Int)), cutS y none (some ((kn : Nat) : Int)) ++ cutS y (some (((kn : Nat) : Int) + 1 + u)) none]) (i := zi) z0 z1
      refine ⟨q, _, _, .str s1, rfl, rfl, SqL.of (x7 _ _ upd_same nb nl), atI_map (f := V.str) es1, ?_⟩
      obtain ⟨un, rfl⟩ := Int.eq_ofNat_of_zero_le u0
      have q3 : (cutS y none (some ((kn : Nat) : Int))).length + (cutS y (some (((kn : Nat) : Int) + 1 + ((un : Nat) : Int))) none).length ≤ y.length := cut_two_len y (b := kn + 1 + un) (by omega)
      have hs2 : s1.length ≤ y.length ∧ OkS s1 := by
        simp only [List.mem_cons, List.not_mem_nil, or_false] at hs1
        rcases hs1 with e | e <;> rw [e]
        · exact ⟨q1, oy.cut _ _⟩
        · exact ⟨by rw [app_len2]; exact q3, (oy.cut _ _).app (oy.cut _ _)⟩
      exact ⟨_, _, _, _, rfl, hB6, ((x5.trans x6).trans (kb_new nq)).trans x7, by omega, hs2.2⟩
end
end TG

namespace TG
open PySem PySem.Spec PyProof.Rows L2 NdefX GenW Gx Lv Dl
section
variable {P : Program} {w : World} {K : PySem.W.Frag} {mg : Str → Option Value} {base : Heap} {cs : List (Addr × Addr)}
theorem sg_nil : Sg ("" : Str) := fun c hc => by
  have hc : c ∈ cl ("" : Str) := hc
  rw [cl_nil] at hc
  cases hc
def spLineD : Sp := fun vs H Q _ => ∃ (b l : Addr), vs = [.ref b] ∧ BoxAt H b l ∧ ∀ (z : Str) (H' : Hp), z.length ≤ 200 → Sg z → BoxAt H' b l → KB b l H H' → Q (.str z) H'
abbrev nmLine : List Str := ["_law_box", "_law_found", "_law_turn", "_law_word", "_law_k"]
theorem sc_line : FnScope nmLine ["_law_box"] (defScope s_line) := ⟨rfl, rfl, rfl, by decide +kernel, rfl, by decide +kernel, by decide +kernel⟩
theorem ok_line {f g g2 : Addr} {fd fdg fd2 : FuncData} (T : Txt mg) (F : Fun K "_law_line" "_law_line" s_line f fd)
    (G : FnOk P w K mg base CX0 1 g fdg ["_law_box", "_law_many"] spTake) (kp : PySem.W.keepIn K (.ref g) = true) (bd : Binds K fdg ["_law_box", "_law_many"] []) (mgg : mg "_law_take" = some (.ref g))
    (G2 : FnOk P w K mg base CX0 2 g2 fd2 ["_law_box"] spSign) (kp2 : PySem.W.keepIn K (.ref g2) = true) (bd2 : Binds K fd2 ["_law_box"] []) (mg2 : mg "_law_sign" = some (.ref g2)) : FnOk P w K mg base CX0 3 f fd ["_law_box"] spLineD := by
  refine F.ok sc_line (fun vs H Q E h => ?_) (fun cdv A outer s H vs Q E hr h => ?_)
  · obtain ⟨b, l, rfl, _⟩ := h
    rfl
  · obtain ⟨b, l, rfl, hB, k⟩ := h
    have nd := sc_line.nd
    have hr1 : Room 1 _ := hr.mono (by decide)
    have szl : (9000 : Nat) < sizeLine := by decide
    refine ⟨_, pss_cons (ps_set (i := 1) nd rfl (.inl rfl) pe_str)
      (pss_cons (ps_for PassesOwn.never rfl (pi_range1 (by rfl) T.range (pa_cons (pe_call G hr1 (by rfl) mgg kp bd .nil pass0 (pa_cons (pv 0) (pa_cons (pe_ix ix_list (pe_lst (pa_cons pe_int (pa_cons pe_int (pa_cons pe_int pa_nil)))) (pe_call G hr1 (by rfl) mgg kp bd .nil pass0 (pa_cons (pv 0) (pa_cons pe_int pa_nil))) (fun _ _ => rfl)) pa_nil))) pa_nil)) (pg_name (i := 2) nd rfl (.inl rfl))
        (pss_cons (ps_set (i := 3) nd rfl (.inl rfl) (pe_join pe_str (pe_lc (own := [("_law_k", 4)]) (g := gName 4) (tt := tYes) rfl nd (pi_range1 (by rfl) T.range (pa_cons (pe_call G hr1 (by rfl) mgg kp bd .nil pass0 (pa_cons (pv 0) (pa_cons pe_int pa_nil))) pa_nil)) (blkOk_by (own := [("_law_k", 4)]) (N := nmLine) (sc := defScope s_line) (by decide +kernel)) (fun _ _ _ _ _ => pg_name (i := 4) nd rfl (Or.inl rfl)) (fun _ _ _ _ _ => pts_nil) (fun s1 H1 C1 cl1 fp1 => pe_call G2 hr (by rfl) mg2 kp2 bd2 .nil pass0 (pa_cons (pv 0) pa_nil)))))
        (pss_one (ps_set (i := 1) nd rfl (.inl rfl) (pe_op op_add_str (pe_op op_add_str (pv 1) (pv 3)) (pe_op op_repS pe_str (pe_call G hr1 (by rfl) mgg kp bd .nil pass0 (pa_cons (pv 0) (pa_cons (pe_ix ix_list (pe_lst (pa_cons pe_int (pa_cons pe_int (pa_cons pe_int pa_nil)))) (pe_call G hr1 (by rfl) mgg kp bd .nil pass0 (pa_cons (pv 0) (pa_cons pe_int pa_nil))) (fun _ _ => rfl)) pa_nil)))))))))
      (pss_one (ps_ret (pe_slice sl_str (pv 1) po_none (po_some pe_int))))), ?_⟩
    refine ⟨_, rfl, line10 (by decide), fun p0 np0 => ⟨_, rfl, b, l, 3, rfl, box_new hB np0, by decide, by decide, fun r0 H2 r00 r01 hB2 x2 => ?_⟩⟩
    obtain ⟨nb0, nl0⟩ := new_ne hB np0
    have hp0 := x2 p0 _ upd_same nb0 nl0
    have y2 := (kb_new (b := b) (l := l) (o := .lst [V.int 4, V.int 9, V.int 30]) np0).trans x2
    obtain ⟨m0, hm0, em0⟩ := pick (xs := [(4 : Int), 9, 30]) (i := r0) r00 r01
    have hm02 : 0 < m0 ∧ m0 ≤ 30 := by
      simp only [List.mem_cons, List.not_mem_nil, or_false] at hm0
      omega
    refine ⟨p0, _, _, .int m0, rfl, rfl, SqL.of hp0, atI_map (f := V.int) em0, b, l, m0, rfl, hB2, hm02.1, by omega, fun t H5 t0 t1 hB5 x5 => ⟨_, rfl, by omega, by omega, ?_⟩⟩
    have x5 := y2.trans x5
    clear y2 x2 hB2 hp0 hm0 em0 nb0 nl0 np0
    refine for_range (n := t.toNat) (fun i σ H' => ∃ (z : Str) (c2 c3 c4 : Option V), σ = [some (.ref b), some (.str z), c2, c3, c4] ∧ z.length ≤ 47 * i ∧ Sg z ∧ BoxAt H' b l ∧ KB b l H H') ⟨_, none, none, none, rfl, by rw [len_nil]; exact Nat.zero_le _, sg_nil, hB5, x5⟩ ?_ ?_
    · rintro i σ H6 hi ⟨z, c2, c3, c4, rfl, hz, sz, hB6, y6⟩
      refine ⟨⟨_, rfl⟩, _, rfl, b, l, 8, rfl, hB6, by decide, by decide, fun u H7 u0 u1 hB7 x7 => ⟨u, rfl, by omega, by omega, fun D nD => ?_⟩⟩
      refine lc_range (n := u.toNat) (fun i H' => OnesAt b l H D i H') (OnesAt.start hB7 (y6.trans x7) nD hB) ?_ ?_
      · rintro i H8 hi o
        refine ⟨rfl, _, rfl, b, l, rfl, o.box, fun c H9 hc hB9 x9 => ?_⟩
        obtain ⟨acc, hacc, hl, o2⟩ := o.more (c := c) hc hB9 x9
        exact ⟨acc, hacc, by omega, o2⟩
      · rintro H8 o
        obtain ⟨ys, hD, h1, h2, h3⟩ := o.done
        have ck := h3 (by omega)
        have jl : (Txt.join "" ys).length ≤ 7 := by
          have e : (Txt.join "" ys).length = (ys.map fun y => y.length).sum := by
            rw [len_cl, cl_join]
            clear h1 h2 h3 hD ck o
            induction ys with
            | nil => rfl
            | cons y ys ih => rw [List.map_cons, List.flatten_cons, List.length_append, ih, List.map_cons, List.sum_cons, ← len_cl]
          rw [e, h2]
          omega
        have hBo := o.box
        have ko := o.keep
        clear o
        refine ⟨_, D, ys, rfl, rfl, .inl (SqL.of hD), by rw [h2, emp_len]; omega, ?_⟩
        refine ⟨_, rfl, _, rfl, _, _, rfl, rfl, by omega, ?_⟩
        refine ⟨_, rfl, line10 (by decide), fun p np => ⟨_, rfl, b, l, 3, rfl, box_new hBo np, by decide, by decide, fun r H2 r0 r1 hB2 x2 => ?_⟩⟩
        obtain ⟨nb, nl⟩ := new_ne hBo np
        have hp2 := x2 p _ upd_same nb nl
        have y2 := (kb_new (b := b) (l := l) (o := .lst [V.int 2, V.int 6, V.int 40]) np).trans x2
        obtain ⟨m, hm, em⟩ := pick (xs := [(2 : Int), 6, 40]) (i := r) r0 r1
        have hm2 : 0 < m ∧ m ≤ 40 := by
          simp only [List.mem_cons, List.not_mem_nil, or_false] at hm
          omega
        refine ⟨p, _, _, .int m, rfl, rfl, SqL.of hp2, atI_map (f := V.int) em, b, l, m, rfl, hB2, hm2.1, by omega, fun n H3 n0 n1 hB3 x3 => ⟨32, n, sp32, rfl, n0, by omega, _, _, rfl, rfl, by rw [rep_len, app_len2]; omega, ?_⟩⟩
        refine ⟨_, _, _, _, rfl, ?_, (sz.app ck.sg).app (Sg.rep _), hB3, ko.trans (y2.trans x3)⟩
        rw [app_len2, app_len2, rep_len]
        omega
    · rintro σ H6 ⟨z, c2, c3, c4, rfl, hz, sz, hB6, y6⟩
      refine ⟨_, rfl, 200, rfl, z, rfl, by omega, ?_⟩
      exact k _ H6 (cut_to z 200) (sz.cut _ _) hB6 y6
/-! ### left ends drawn -/
end
end TG

namespace TG
open PySem PySem.Spec PyProof.Rows L2 NdefX GenW Gx Lv EnT
section
variable {P : Program} {w : World} {K : PySem.W.Frag} {mg : Str → Option Value} {base : Heap} {cs : List (Addr × Addr)}
abbrev s_two : Stmt := top 36
def spTwo : Sp := fun vs H Q _ => ∃ (b l : Addr), vs = [.ref b] ∧ BoxAt H b l ∧ ∀ (T A B : Addr) (zs ws : List Str) (H' : Hp), BoxAt H' b l → KB b l H H' → H' T = some (.tup [.ref A, .ref B]) → H' A = some (.lst (sV zs)) → H' B = some (.lst (sV ws)) → (A ≠ b ∧ A ≠ l) → (B ≠ b ∧ B ≠ l) → LnOk zs → LnOk ws → Q (.ref T) H'
abbrev nmTwo : List Str := ["_law_box", "_law_one", "_law_other", "_law_turn", "_law_k", "_law_line_here"]
theorem sc_two : FnScope nmTwo ["_law_box"] (defScope s_two) := ⟨rfl, rfl, rfl, by decide +kernel, rfl, by decide +kernel, by decide +kernel⟩
theorem LnsAt.draw {b l : Addr} {H H1 H2 : Hp} {D : Addr} {i : Nat} (o : LnsAt b l H D i H1) (hB : BoxAt H2 b l) (x : KB b l H1 H2) : LnsAt b l H D i H2 :=
  ⟨hB, o.keep.trans x, o.nD, o.db, o.dl, by
    obtain ⟨zs, h1, h2, h3⟩ := o.lns
    exact ⟨zs, h1, h2, x _ _ h3 o.db o.dl⟩⟩
theorem ok_two {f gG gL gN : Addr} {fd fdG fdL fdN : FuncData} (T : Txt mg) (F : Fun K "_law_lines_two" "_law_lines_two" s_two f fd)
    (G : FnOk P w K mg base CX0 1 gG fdG ["_law_box", "_law_many"] spTakeW) (kG : PySem.W.keepIn K (.ref gG) = true) (bG : Binds K fdG ["_law_box", "_law_many"] []) (mG : mg "_law_take" = some (.ref gG))
    (L : FnOk P w K mg base CX0 3 gL fdL ["_law_box"] spLineD) (kL : PySem.W.keepIn K (.ref gL) = true) (bL : Binds K fdL ["_law_box"] []) (mL : mg "_law_line" = some (.ref gL))
    (N : FnOk P w K mg base CX0 3 gN fdN ["_law_box", "_law_line_here"] spNear) (kN : PySem.W.keepIn K (.ref gN) = true) (bN : Binds K fdN ["_law_box", "_law_line_here"] []) (mN : mg "_law_line_near" = some (.ref gN)) :
    FnOk P w K mg base CX0 4 f fd ["_law_box"] spTwo := by
  refine F.ok sc_two (fun vs H Q E h => ?_) (fun cdv A outer s H vs Q E hr h => ?_)
  · obtain ⟨b, l, rfl, _⟩ := h
    rfl
  · obtain ⟨b, l, rfl, hB, k⟩ := h
    have nd := sc_two.nd
    have r1 : Room 1 _ := hr.mono (by decide)
    have r3 : Room 3 _ := hr
    have szl : (9000 : Nat) < sizeLine := by decide
    refine ⟨_, (pss_cons (ps_setLc (i := 1) (own := [("_law_k", 4)]) (g := gName 4) (tt := tYes) rfl nd rfl rfl (sw_true rfl rfl rfl (by decide +kernel)) (pi_range1 (by rfl) T.range (pa_cons (pe_call G r1 (by rfl) mG kG bG .nil pass0 (pa_cons (pv 0) (pa_cons (pe_ix ix_list (pe_lst (pa_cons pe_int (pa_cons pe_int (pa_cons pe_int pa_nil)))) (pe_call G r1 (by rfl) mG kG bG .nil pass0 (pa_cons (pv 0) (pa_cons pe_int pa_nil))) (fun _ _ => rfl)) pa_nil))) pa_nil)) (blkOk_by (own := [("_law_k", 4)]) (N := nmTwo) (sc := defScope s_two) (by decide +kernel)) (fun _ _ _ _ _ => pg_name (i := 4) nd rfl (Or.inl rfl)) (fun _ _ _ _ _ => pts_nil) (fun _ _ _ _ _ => (pe_call L r3 (by rfl) mL kL bL .nil pass0 (pa_cons (pv 0) pa_nil))))
      (pss_cons (ps_setLc (i := 2) (own := [("_law_line_here", 5)]) (g := gName 5) (tt := tYes) rfl nd rfl rfl (sw_true rfl rfl rfl (by decide +kernel)) (pi_list (pv 1)) (blkOk_by (own := [("_law_line_here", 5)]) (N := nmTwo) (sc := defScope s_two) (by decide +kernel)) (fun _ _ _ _ _ => pg_name (i := 5) nd rfl (Or.inl rfl)) (fun _ _ _ _ _ => pts_nil) (fun _ _ _ _ _ => (pe_ix (r := rIxL K) ix_list (pe_lst (pa_cons (pv 5) (pa_cons (pe_call N r3 (by rfl) mN kN bN .nil pass0 (pa_cons (pv 0) (pa_cons (pv 5) pa_nil))) (pa_cons (pe_call L r3 (by rfl) mL kL bL .nil pass0 (pa_cons (pv 0) pa_nil)) pa_nil)))) (pe_callB (call_min2 rfl) (by rfl) T.min (by decide +kernel) (pa_cons pe_int (pa_cons (pe_call G r1 (by rfl) mG kG bG .nil pass0 (pa_cons (pv 0) (pa_cons pe_int pa_nil))) pa_nil))) (fun _ _ => rfl))))
      (pss_cons (ps_for PassesOwn.never rfl (pi_range1 (by rfl) T.range (pa_cons (pe_call G r1 (by rfl) mG kG bG .nil pass0 (pa_cons (pv 0) (pa_cons pe_int pa_nil))) pa_nil)) (pg_name (i := 3) nd rfl (.inl rfl))
      (pss_one (ps_if (pt_cmpR op_lt (pe_callB call_len_seq (by rfl) T.len PySem.boot_len (pa_cons (pv 2) pa_nil)) pe_int (nomark _)) (pss_one (ps_expr (pe_bm PySem.F.plainAttrs_list PySem.F.slot_list_append PySem.F.type_list_append mt_append (pv 2) (pa_cons (pe_call L r3 (by rfl) mL kL bL .nil pass0 (pa_cons (pv 0) pa_nil)) pa_nil)))) pss_nil)))
      (pss_one (ps_ret (pe_tup (pa_cons (pv 1) (pa_cons (pe_slice sl_list (pv 2) (po_some (pe_op op_fdivN (pe_call G r1 (by rfl) mG kG bG .nil pass0 (pa_cons (pv 0) (pa_cons pe_int pa_nil))) pe_int)) po_none) pa_nil)))))))), ?_⟩
    refine ⟨_, rfl, by show 3 ≤ sizeLine; decide, fun q0 nq0 => ⟨_, rfl, b, l, 3, rfl, box_new hB nq0, by decide, by decide, fun z0 H2 z00 z01 hB2 x2 => ?_⟩⟩
    obtain ⟨nb0, nl0⟩ := new_ne hB nq0
    have hq := x2 q0 _ upd_same nb0 nl0
    obtain ⟨m, hm, em⟩ := pick (xs := [(4 : Int), 12, 31]) (i := z0) z00 z01
    have hm2 : 0 < m ∧ m ≤ 31 := by
      simp only [List.mem_cons, List.not_mem_nil, or_false] at hm
      omega
    refine ⟨q0, _, _, .int m, rfl, rfl, SqL.of hq, atI_map (f := V.int) em, b, l, m, rfl, hB2, hm2.1, by omega, fun tn H3 t0 t1 hB3 x3 => ⟨_, rfl, by omega, by omega, fun D nD => ?_⟩⟩
    have x1 := ((kb_new (b := b) (l := l) nq0).trans x2).trans x3
    clear hq hm em x2 x3 hB2 nq0 nb0 nl0 z00 z01
    refine lc_range (n := tn.toNat) (fun i H' => LnsAt b l H D i H') (LnsAt.start hB3 x1 nD) ?_ ?_
    · rintro i H4 hi r
      refine ⟨rfl, _, rfl, b, l, rfl, r.box, fun z H5 hz sz hB5 x5 => ?_⟩
      obtain ⟨acc, hacc, hl, r2⟩ := r.more ⟨hz, sz⟩ hB5 x5
      exact ⟨acc, hacc, by omega, r2⟩
    rintro H4 r
    obtain ⟨zs, hzl, hzs, hD⟩ := r.lns
    have lnz : LnOk zs := ⟨by omega, fun z hz => (hzs z hz).1, fun z hz => (hzs z hz).2⟩
    refine ⟨_, rfl, D, rfl, ⟨_, SqL.of hD⟩, fun D2 nD2 => lc_list (xs := sV zs) (fun j H' => LnsAt b l H4 D2 j H') (LnsAt.start r.box KB.refl nD2) (fun j H' _ x => SqL.of (x.keep _ _ hD r.db r.dl)) ?_ ?_⟩
    · rintro j v H5 hv r2
      obtain ⟨z, hz, rfl⟩ := get_map hv
      have hz1 := hzs z (List.mem_of_getElem? hz)
      refine ⟨rfl, _, rfl, _, rfl, _, rfl, b, l, z, rfl, r2.box, hz1.1, hz1.2, fun z' H6 hB6 x6 h6 o6 => ?_⟩
      refine ⟨_, rfl, b, l, rfl, hB6, fun z2 H7 hz2 sz2 hB7 x7 => ⟨by show 3 ≤ sizeLine; decide, fun q nq => ?_⟩⟩
      obtain ⟨nb, nl⟩ := new_ne hB7 nq
      refine ⟨_, rfl, b, l, 5, rfl, box_new hB7 nq, by decide, by decide, fun u H8 u0 u1 hB8 x8 => ⟨2, u, rfl, ?_⟩⟩
      obtain ⟨s1, hs1, es1⟩ := pick (xs := [z, z', z2]) (i := if u < 2 then u else 2) (by split <;> omega) (by show _ < (3 : Int); split <;> omega)
      refine ⟨q, _, _, .str s1, rfl, rfl, SqL.of (x8 _ _ upd_same nb nl), atI_map (f := V.str) es1, ?_⟩
      have hs2 : s1.length ≤ 200 ∧ Sg s1 := by
        simp only [List.mem_cons, List.not_mem_nil, or_false] at hs1
        rcases hs1 with e | e | e <;> rw [e]
        · exact hz1
        · exact ⟨h6, o6⟩
        · exact ⟨hz2, sz2⟩
      obtain ⟨acc, ha, hl, r3⟩ := r2.more hs2 hB8 (((x6.trans x7).trans (kb_new nq)).trans x8)
      have hj := (List.getElem?_eq_some_iff.mp hv).1
      rw [List.length_map] at hj
      exact ⟨acc, ha, by omega, r3⟩
    · rintro H5 r2
      rw [List.length_map] at r2
      have dD : ∀ {H' : Hp}, KB b l H4 H' → H' D = some (.lst (sV zs)) := fun x => x _ _ hD r.db r.dl
      have rk := r.keep
      have dlD := r.db
      have dlD2 := r.dl
      refine ⟨_, rfl, b, l, 4, rfl, r2.box, by decide, by decide, fun wn H6 w0 w1 hB6 x6 => ⟨_, rfl, by omega, by omega, ?_⟩⟩
      have r3 := r2.draw hB6 x6
      clear hB6 x6 r2
      refine for_range (n := wn.toNat) (fun i σ H' => ∃ (j : Nat) (c3 c4 c5 : Option V), σ = [some (.ref b), some (.ref D), some (.ref D2), c3, c4, c5] ∧ j ≤ 30 ∧ LnsAt b l H4 D2 j H') ⟨_, _, _, _, rfl, by omega, r3⟩ ?_ ?_
      · rintro i σ H7 hi ⟨j, c3, c4, c5, rfl, hj, r4⟩
        obtain ⟨ys, hyl, hys, hD2⟩ := r4.lns
        refine ⟨_, rfl, D2, _, rfl, .inl (SqL.of hD2), ?_⟩
        rw [List.length_map, hyl]
        by_cases g : j < 30
        · refine ⟨_, _, rfl, rfl, true, dT (by omega), iteT ?_⟩
          refine ⟨_, rfl, .inl ⟨rfl, _, SqL.of hD2⟩, _, rfl, b, l, rfl, r4.box, fun z H8 hz sz hB8 x8 => ?_⟩
          obtain ⟨acc, ha, hl, r5⟩ := r4.more ⟨hz, sz⟩ hB8 x8
          exact ⟨D2, acc, _, rfl, rfl, ha, by omega, j + 1, _, _, _, rfl, by omega, r5⟩
        · exact ⟨_, _, rfl, rfl, false, dF (by omega), iteF ⟨j, _, _, _, rfl, hj, r4⟩⟩
      · rintro σ H7 ⟨j, c3, c4, c5, rfl, hj, r4⟩
        refine ⟨_, rfl, _, rfl, _, rfl, b, l, 3, rfl, r4.box, by decide, by decide, fun u H8 u0 u1 hB8 x8 => ⟨u, 2, rfl, rfl, ⟨by decide, by decide⟩, ?_⟩⟩
        have r5 := r4.draw hB8 x8
        clear x8 hB8 r4
        obtain ⟨ys, hyl, hys, hD2⟩ := r5.lns
        obtain ⟨n, hn⟩ : ∃ n : Nat, u.fdiv 2 = ((n : Nat) : Int) := by
          have : u = 0 ∨ u = 1 ∨ u = 2 := by omega
          rcases this with e | e | e
          · exact ⟨0, by rw [e]; decide⟩
          · exact ⟨0, by rw [e]; decide⟩
          · exact ⟨1, by rw [e]; decide⟩
        refine ⟨_, rfl, D2, _, rfl, SqL.of hD2, fun q nq => ?_⟩
        rw [hn, cut_from]
        obtain ⟨nb, nl⟩ := new_ne r5.box nq
        refine ⟨by show 2 ≤ sizeLine; decide, fun tt nt => ?_⟩
        have nDq : D ≠ q := fun e => by have := dD r5.keep; rw [e, nq] at this; cases this
        have nDt : D ≠ tt := fun e => by have := (kb_new (b := b) (l := l) (o := .lst ((sV ys).drop n)) nq) _ _ (dD r5.keep) dlD dlD2; rw [e, nt] at this; cases this
        have nqt : q ≠ tt := fun e => by rw [← e, upd_same] at nt; cases nt
        refine k tt D q zs (ys.drop n) _ (box_new (box_new r5.box nq) nt) (((rk.trans r5.keep).trans (kb_new nq)).trans (kb_new nt)) upd_same ?_ ?_ ⟨dlD, dlD2⟩ ⟨nb, nl⟩ lnz ?_
        · rw [upd_ne nDt, upd_ne nDq]
          exact dD r5.keep
        · rw [upd_ne nqt, upd_same]
          show _ = some (HO.lst (List.map V.str (ys.drop n)))
          rw [List.map_drop]
        · exact ⟨by rw [List.length_drop]; omega, fun z hz => (hys z (List.mem_of_mem_drop hz)).1, fun z hz => (hys z (List.mem_of_mem_drop hz)).2⟩
end
end TG

namespace TG
open PySem PySem.Spec PyProof.Rows L2 NdefX GenW Gx Lv Dl
/-! ### what stands beside the box -/
section
variable {b l : Addr} {H0 H H' : Hp}
def Hd (b l : Addr) (H : Hp) (c : Addr) (o : HO) : Prop := H c = some o ∧ c ≠ b ∧ c ≠ l
theorem Hd.kb {c : Addr} {o : HO} (h : Hd b l H c o) (x : KB b l H H') : Hd b l H' c o := ⟨x _ _ h.1 h.2.1 h.2.2, h.2⟩
structure Stp (b l : Addr) (H0 H : Hp) : Prop where
  box : BoxAt H b l
  kb : KB b l H0 H
theorem Stp.new {p : Addr} {o : HO} (s : Stp b l H0 H) (n : H p = none) : Stp b l H0 (upd H p o) ∧ Hd b l (upd H p o) p o ∧ KB b l H (upd H p o) := by
  obtain ⟨n1, n2⟩ := new_ne s.box n
  exact ⟨⟨box_new s.box n, s.kb.trans (kb_new n)⟩, ⟨upd_same, n1, n2⟩, kb_new n⟩
theorem Stp.go {H' : Hp} (s : Stp b l H0 H) (hB : BoxAt H' b l) (x : KB b l H H') : Stp b l H0 H' := ⟨hB, s.kb.trans x⟩
end
section
variable {P : Program} {w : World} {K : PySem.W.Frag} {mg : Str → Option Value} {base : Heap} {cs : List (Addr × Addr)}
theorem cut_up' (xs : List V) (n : Nat) : cutV xs none (some ((n : Nat) : Int)) = xs.take n := by
  unfold cutV
  rw [HT.sIx_none, HT.sIx_nat]
  simp
theorem rep_one (z : V) (n : Nat) : (List.replicate n [z]).flatten = List.replicate n z := by
  induction n with
  | zero => rfl
  | succ n ih => rw [List.replicate_succ, List.flatten_cons, ih, List.replicate_succ]; rfl
theorem nt_non {H : Hp} : NoText K H .non := ⟨"NoneType", .base .non, by decide +kernel⟩
def spOddL (K : PySem.W.Frag) (cs : List (Addr × Addr)) : Sp := fun vs H Q _ => ∃ (b l D : Addr) (zs : List Str), vs = [.ref b, .ref D] ∧ BoxAt H b l ∧ Hd b l H D (.lst (sV zs)) ∧ LnOk zs ∧
  ∀ (q L : Addr) (xs : List V) (n : Nat) (H' : Hp), BoxAt H' b l → KB b l H H' → H' q = some (.tup [.ref L, .int (n : Nat)]) → Hd b l H' L (.lst xs) → (∀ H2, KB b l H' H2 → BadLn K H2 xs n) → (∀ H2, KB b l H' H2 → Firm K cs H2 xs) → xs.length ≤ 100 → Q (.ref q) H'
abbrev nmOddL : List Str := ["_law_box", "_law_lines", "_law_at", "_law_odd"]
theorem sc_oddL : FnScope nmOddL ["_law_box", "_law_lines"] (defScope s_odd_lines) := ⟨rfl, rfl, rfl, by decide +kernel, rfl, by decide +kernel, by decide +kernel⟩
theorem ok_oddL {f g : Addr} {fd fdg : FuncData} (T : Txt mg) (F : Fun K "_law_odd_lines" "_law_odd_lines" s_odd_lines f fd)
    (G : FnOk P w K mg base CX0 1 g fdg ["_law_box", "_law_many"] spTakeW) (kG : PySem.W.keepIn K (.ref g) = true) (bG : Binds K fdg ["_law_box", "_law_many"] []) (mG : mg "_law_take" = some (.ref g)) : FnOk P w K mg base CX0 2 f fd ["_law_box", "_law_lines"] (spOddL K cs) := by
  refine F.ok sc_oddL (fun vs H Q E h => ?_) (fun cdv A outer s H vs Q E hr h => ?_)
  · obtain ⟨b, l, D, zs, rfl, _⟩ := h
    rfl
  · obtain ⟨b, l, D, zs, rfl, hB, hD, hZ, k⟩ := h
    have nd := sc_oddL.nd
    have szl : (9000 : Nat) < sizeLine := by decide
    refine ⟨_, (pss_cons (ps_set (i := 2) nd rfl (.inl rfl) (pe_call G hr (by rfl) mG kG bG .nil pass0 (pa_cons (pv 0) (pa_cons (pe_op op_add (pe_callB call_len_seq (by rfl) T.len PySem.boot_len (pa_cons (pv 1) pa_nil)) pe_int) pa_nil))))
      (pss_cons (ps_set (i := 3) nd rfl (.inl rfl) (pe_ix ix_list (pe_lst (pa_cons pe_non (pa_cons pe_str (pa_cons pe_str (pa_cons (pe_tup (pa_cons pe_str pa_nil)) (pa_cons (pe_op op_repW pe_str pe_int) (pa_cons pe_int pa_nil))))))) (pe_call G hr (by rfl) mG kG bG .nil pass0 (pa_cons (pv 0) (pa_cons pe_int pa_nil))) (fun _ _ => rfl)))
      (pss_cons (ps_if (pt_cmpR op_eq (pe_call G hr (by rfl) mG kG bG .nil pass0 (pa_cons (pv 0) (pa_cons pe_int pa_nil))) pe_int (nomark _)) (pss_one (ps_ret (pe_tup (pa_cons (pe_op op_cat (pe_slice sl_list (pe_op op_cat (pv 1) (pe_op op_rep (pe_lst (pa_cons pe_str pa_nil)) pe_int)) po_none (po_some (pe_op op_add pe_int (pe_call G hr (by rfl) mG kG bG .nil pass0 (pa_cons (pv 0) (pa_cons pe_int pa_nil)))))) (pe_lst (pa_cons pe_str (pa_cons pe_str pa_nil)))) (pa_cons pe_int pa_nil))))) pss_nil)
      (pss_one (ps_ret (pe_tup (pa_cons (pe_op op_cat (pe_op op_cat (pe_op op_cat (pe_slice sl_list (pv 1) po_none (po_some (pv 2))) (pe_lst (pa_cons (pv 3) pa_nil))) (pe_slice sl_list (pv 1) (po_some (pv 2)) po_none)) (pe_op op_rep (pe_lst (pa_cons pe_non pa_nil)) (pe_call G hr (by rfl) mG kG bG .nil pass0 (pa_cons (pv 0) (pa_cons pe_int pa_nil))))) (pa_cons (pe_callB (call_min2 rfl) (by rfl) T.min (by decide +kernel) (pa_cons (pv 2) (pa_cons pe_int pa_nil))) pa_nil)))))))), ?_⟩
    have hle := hZ.len
    have s0 : Stp b l H H := ⟨hB, fun c o h _ _ => h⟩
    refine ⟨_, rfl, _, rfl, D, _, rfl, .inl (SqL.of hD.1), _, _, rfl, rfl, b, l, _, rfl, hB, by rw [List.length_map]; omega, by rw [List.length_map]; omega, fun at_ H1 a0 a1 hB1 x1 => ?_⟩
    obtain ⟨n, rfl⟩ := Int.eq_ofNat_of_zero_le a0
    rw [List.length_map] at a1
    have hn : n ≤ zs.length := by omega
    have s3 := s0.go hB1 x1
    have hD3 := hD.kb s3.kb
    clear hD hB hB1 x1 s0 a0
    refine ⟨by show 1 ≤ sizeLine; decide, fun tt ntt => ⟨_, 101, rfl, rfl, by decide, by decide, by decide +kernel, by decide +kernel, by show 6 ≤ sizeLine; decide, fun ol nol => ⟨_, rfl, b, l, 6, rfl, ?_⟩⟩⟩
    obtain ⟨s4, ht4, x4⟩ := s3.new (o := .tup [.str "a"]) ntt
    generalize upd H1 tt (.tup [.str "a"]) = H4 at s4 ht4 x4 nol ⊢
    obtain ⟨s5, ho5, x5⟩ := s4.new (o := .lst [V.non, .str "a\nb", .str "\t", .ref tt, .str (repW "ab" (101 : Int).toNat), .int 5]) nol
    generalize upd H4 ol (.lst [V.non, .str "a\nb", .str "\t", .ref tt, .str (repW "ab" (101 : Int).toNat), .int 5]) = H5 at s5 ho5 x5 ⊢
    refine ⟨s5.box, by decide, by decide, fun r H6 r0 r1 hB6 x6 => ?_⟩
    have s6 := s5.go hB6 x6
    have y6 := (x4.trans x5).trans x6
    have hD6 := hD3.kb y6
    have ht6 := (ht4.kb x5).kb x6
    have ho6 := ho5.kb x6
    clear ht4 ho5 x4 x5 x6 y6 hD3 s3 s4 s5 hB6
    obtain ⟨v, hv, ev⟩ := pick (xs := [V.non, .str "a\nb", .str "\t", .ref tt, .str (repW "ab" (101 : Int).toNat), .int 5]) (i := r) r0 r1
    refine ⟨ol, _, _, v, rfl, rfl, SqL.of ho6.1, ev, ?_⟩
    have odd : (∀ H', H' tt = some (.tup [.str "a"]) → NoText K H' v) ∨ ∃ z, v = .str z ∧ z.length ≤ 1000 ∧ textB z 200 = false := by
      simp only [List.mem_cons, List.not_mem_nil, or_false] at hv
      rcases hv with rfl | rfl | rfl | rfl | rfl | rfl
      · exact .inl fun H' _ => ⟨_, .base .non, by decide +kernel⟩
      · exact .inr ⟨_, rfl, by decide +kernel, by decide +kernel⟩
      · exact .inr ⟨_, rfl, by decide +kernel, by decide +kernel⟩
      · exact .inl fun H' x => ⟨_, .base (.tup x), by decide +kernel⟩
      · have e : (repW "ab" (101 : Int).toNat).length = 202 := by rw [repW_len]; decide +kernel
        refine .inr ⟨_, rfl, by omega, ?_⟩
        unfold textB
        rw [e]
        rfl
      · exact .inl fun H' _ => ⟨_, .base (.int 5), by decide +kernel⟩
    clear hv ev ho6
    have good : ∀ z ∈ zs, z.length ≤ 1000 ∧ textB z 200 = true := fun z hz => by
      have := hZ.ln z hz
      exact ⟨by omega, sg_text (hZ.ln z hz) fun c hc => hZ.sg z hz c hc⟩
    refine ⟨_, rfl, b, l, 5, rfl, s6.box, by decide, by decide, fun w0 H7 w00 w01 hB7 x7 => ⟨rfl, ?_⟩⟩
    have s7 := s6.go hB7 x7
    have hD7 := hD6.kb x7
    have ht7 := ht6.kb x7
    clear s6 hD6 ht6 x7 hB7
    by_cases hw : w0 = 0
    · refine ⟨true, dT (by rw [hw]), iteT ?_⟩
      refine ⟨_, rfl, by show 1 ≤ sizeLine; decide, fun q1 n1 => ⟨q1, 31, _, rfl, rfl, upd_same, by decide, by decide, by show 1 * 31 ≤ sizeLine; decide, fun q2 n2 => ?_⟩⟩
      obtain ⟨s8, h8, x8⟩ := s7.new (o := .lst [.str "a"]) n1
      generalize upd H7 q1 (.lst [.str "a"]) = H8 at s8 h8 x8 n2 ⊢
      have e31 : (List.replicate (31 : Int).toNat [V.str "a"]).flatten = sV (List.replicate 31 ("a" : Str)) := by
        rw [rep_one]
        show _ = List.map V.str _
        rw [List.map_replicate]
        rfl
      rw [e31]
      obtain ⟨s9, h9, x9⟩ := s8.new (o := .lst (sV (List.replicate 31 ("a" : Str)))) n2
      generalize upd H8 q2 (.lst (sV (List.replicate 31 ("a" : Str)))) = H9 at s9 h9 x9 ⊢
      have hD9 := (hD7.kb x8).kb x9
      have lr : (sV (List.replicate 31 ("a" : Str))).length = 31 := by rw [List.length_map, List.length_replicate]
      have lz : (sV zs).length = zs.length := List.length_map ..
      refine ⟨D, q2, _, _, rfl, rfl, hD9.1, h9.1, by rw [lz, lr]; omega, fun q3 n3 => ?_⟩
      have ec : sV zs ++ sV (List.replicate 31 ("a" : Str)) = sV (zs ++ List.replicate 31 ("a" : Str)) := by
        show List.map V.str _ ++ List.map V.str _ = List.map V.str _
        rw [List.map_append]
      rw [ec]
      obtain ⟨s10, h10, x10⟩ := s9.new (o := .lst (sV (zs ++ List.replicate 31 ("a" : Str)))) n3
      generalize upd H9 q3 (.lst (sV (zs ++ List.replicate 31 ("a" : Str)))) = H10 at s10 h10 x10 ⊢
      refine ⟨_, rfl, b, l, 3, rfl, s10.box, by decide, by decide, fun u H11 u0 u1 hB11 x11 => ⟨31, u, rfl, rfl, _, rfl, q3, _, rfl, SqL.of (h10.kb x11).1, fun q4 n4 => ?_⟩⟩
      have s11 := s10.go hB11 x11
      obtain ⟨m, rfl⟩ := Int.eq_ofNat_of_zero_le u0
      have em : (31 : Int) + ((m : Nat) : Int) = ((31 + m : Nat) : Int) := by omega
      have e5 : cutV (sV (zs ++ List.replicate 31 ("a" : Str))) none (some ((31 : Int) + ((m : Nat) : Int))) = sV ((zs ++ List.replicate 31 ("a" : Str)).take (31 + m)) := by
        rw [em, cut_up']
        show List.take _ (List.map V.str _) = List.map V.str _
        rw [List.map_take]
      rw [e5]
      obtain ⟨s12, h12, x12⟩ := s11.new (o := .lst (sV ((zs ++ List.replicate 31 ("a" : Str)).take (31 + m)))) n4
      generalize upd H11 q4 (.lst (sV ((zs ++ List.replicate 31 ("a" : Str)).take (31 + m)))) = H12 at s12 h12 x12 ⊢
      refine ⟨by show 2 ≤ sizeLine; decide, fun q5 n5 => ?_⟩
      obtain ⟨s13, h13, x13⟩ := s12.new (o := .lst [.str "", .str ""]) n5
      generalize upd H12 q5 (.lst [.str "", .str ""]) = H13 at s13 h13 x13 ⊢
      have lt2 : 31 ≤ ((zs ++ List.replicate 31 ("a" : Str)).take (31 + m)).length ∧ ((zs ++ List.replicate 31 ("a" : Str)).take (31 + m)).length ≤ 33 := by
        rw [List.length_take, List.length_append, List.length_replicate]
        omega
      refine ⟨q4, q5, _, _, rfl, rfl, (h12.kb x13).1, h13.1, by rw [List.length_map]; show _ + 2 ≤ sizeLine; omega, fun q6 n6 => ?_⟩
      have e6 : sV ((zs ++ List.replicate 31 ("a" : Str)).take (31 + m)) ++ [V.str "", V.str ""] = sV ((zs ++ List.replicate 31 ("a" : Str)).take (31 + m) ++ (["", ""] : List Str)) := by
        show List.map V.str _ ++ _ = List.map V.str _
        rw [List.map_append]
        rfl
      rw [e6]
      have gd : ∀ z ∈ (zs ++ List.replicate 31 ("a" : Str)).take (31 + m) ++ (["", ""] : List Str), z.length ≤ 1000 ∧ textB z 200 = true := fun z hz => by
        rcases List.mem_append.mp hz with e | e
        · rcases List.mem_append.mp (List.mem_of_mem_take e) with e | e
          · exact good z e
          · rw [(List.mem_replicate.mp e).2]; decide +kernel
        · simp only [List.mem_cons, List.not_mem_nil, or_false] at e
          rcases e with e | e <;> rw [e] <;> decide +kernel
      have lf : ((zs ++ List.replicate 31 ("a" : Str)).take (31 + m) ++ (["", ""] : List Str)).length = ((zs ++ List.replicate 31 ("a" : Str)).take (31 + m)).length + 2 := by rw [List.length_append]; rfl
      generalize (zs ++ List.replicate 31 ("a" : Str)).take (31 + m) ++ (["", ""] : List Str) = ys at gd lf ⊢
      obtain ⟨s14, h14, x14⟩ := s13.new (o := .lst (sV ys)) n6
      generalize upd H13 q6 (.lst (sV ys)) = H14 at s14 h14 x14 ⊢
      refine ⟨by show 2 ≤ sizeLine; decide, fun q7 n7 => ?_⟩
      obtain ⟨s15, h15, x15⟩ := s14.new (o := .tup [.ref q6, .int 30]) n7
      refine k q7 q6 (sV ys) 30 _ s15.box s15.kb h15.1 (h14.kb x15) (fun H2 y => ⟨by rw [List.length_map]; omega, Nat.le_refl _, fun i hi => ?_, .inl rfl⟩) (fun H2 y v hv => ?_) (by rw [List.length_map]; omega)
      · have hi2 : i < ys.length := by omega
        refine ⟨ys[i], by rw [List.getElem?_map, List.getElem?_eq_getElem hi2]; rfl, gd _ (List.getElem_mem hi2)⟩
      · obtain ⟨z, _, rfl⟩ := List.mem_map.mp hv
        exact .inl ⟨z, rfl⟩
    · refine ⟨false, dF (fun e => hw (by injection e)), iteF ?_⟩
      refine ⟨_, rfl, _, rfl, _, rfl, D, _, rfl, SqL.of hD7.1, fun q1 n1 => ?_⟩
      have c1 : cutV (sV zs) none (some ((n : Nat) : Int)) = sV (zs.take n) := by
        rw [cut_up']
        show List.take _ (List.map V.str _) = List.map V.str _
        rw [List.map_take]
      have c2 : cutV (sV zs) (some ((n : Nat) : Int)) none = sV (zs.drop n) := by
        rw [cut_from]
        show List.drop _ (List.map V.str _) = List.map V.str _
        rw [List.map_drop]
      have lt1 : (sV (zs.take n)).length = n := by rw [List.length_map, List.length_take]; omega
      have lt2 : (sV (zs.drop n)).length = zs.length - n := by rw [List.length_map, List.length_drop]
      rw [c1]
      obtain ⟨s8, h8, x8⟩ := s7.new (o := .lst (sV (zs.take n))) n1
      generalize upd H7 q1 (.lst (sV (zs.take n))) = H8 at s8 h8 x8 ⊢
      refine ⟨_, rfl, by show 1 ≤ sizeLine; decide, fun q2 n2 => ?_⟩
      obtain ⟨s9, h9, x9⟩ := s8.new (o := .lst [v]) n2
      generalize upd H8 q2 (.lst [v]) = H9 at s9 h9 x9 ⊢
      refine ⟨q1, q2, _, _, rfl, rfl, (h8.kb x9).1, h9.1, by rw [lt1]; show n + 1 ≤ sizeLine; omega, fun q3 n3 => ?_⟩
      obtain ⟨s10, h10, x10⟩ := s9.new (o := .lst (sV (zs.take n) ++ [v])) n3
      generalize upd H9 q3 (.lst (sV (zs.take n) ++ [v])) = H10 at s10 h10 x10 ⊢
      have hD10 := ((hD7.kb x8).kb x9).kb x10
      refine ⟨_, rfl, _, rfl, _, rfl, D, _, rfl, SqL.of hD10.1, fun q4 n4 => ?_⟩
      rw [c2]
      obtain ⟨s11, h11, x11⟩ := s10.new (o := .lst (sV (zs.drop n))) n4
      generalize upd H10 q4 (.lst (sV (zs.drop n))) = H11 at s11 h11 x11 ⊢
      refine ⟨q3, q4, _, _, rfl, rfl, (h10.kb x11).1, h11.1, by rw [List.length_append, lt1, lt2]; show n + 1 + (zs.length - n) ≤ sizeLine; omega, fun q5 n5 => ?_⟩
      obtain ⟨s12, h12, x12⟩ := s11.new (o := .lst (sV (zs.take n) ++ [v] ++ sV (zs.drop n))) n5
      generalize upd H11 q5 (.lst (sV (zs.take n) ++ [v] ++ sV (zs.drop n))) = H12 at s12 h12 x12 ⊢
      refine ⟨by show 1 ≤ sizeLine; decide, fun q6 n6 => ?_⟩
      obtain ⟨s13, h13, x13⟩ := s12.new (o := .lst [.non]) n6
      generalize upd H12 q6 (.lst [.non]) = H13 at s13 h13 x13 ⊢
      refine ⟨_, rfl, b, l, 2, rfl, s13.box, by decide, by decide, fun u H14 u0 u1 hB14 x14 => ?_⟩
      have s14 := s13.go hB14 x14
      obtain ⟨m, rfl⟩ := Int.eq_ofNat_of_zero_le u0
      refine ⟨q6, _, _, rfl, rfl, (h13.kb x14).1, by omega, by omega, by show 1 * _ ≤ sizeLine; omega, fun q7 n7 => ?_⟩
      have e7 : (List.replicate (((m : Nat) : Int)).toNat [V.non]).flatten = List.replicate m V.non := by rw [rep_one, Int.toNat_natCast]
      rw [e7]
      obtain ⟨s15, h15, x15⟩ := s14.new (o := .lst (List.replicate m V.non)) n7
      generalize upd H14 q7 (.lst (List.replicate m V.non)) = H15 at s15 h15 x15 ⊢
      have h12' := ((h12.kb x13).kb x14).kb x15
      have ll : (sV (zs.take n) ++ [v] ++ sV (zs.drop n)).length = zs.length + 1 := by
        rw [List.length_append, List.length_append, lt1, lt2]
        show n + 1 + (zs.length - n) = _
        omega
      refine ⟨q5, q7, _, _, rfl, rfl, h12'.1, h15.1, by rw [ll, List.length_replicate]; omega, fun q8 n8 => ?_⟩
      obtain ⟨s16, h16, x16⟩ := s15.new (o := .lst (sV (zs.take n) ++ [v] ++ sV (zs.drop n) ++ List.replicate m V.non)) n8
      generalize upd H15 q8 (.lst (sV (zs.take n) ++ [v] ++ sV (zs.drop n) ++ List.replicate m V.non)) = H16 at s16 h16 x16 ⊢
      refine ⟨_, rfl, _, _, rfl, ?_⟩
      have emin : (if (30 : Int) < ((n : Nat) : Int) then (30 : Int) else ((n : Nat) : Int)) = ((n : Nat) : Int) := if_neg (by omega)
      rw [emin]
      refine ⟨by show 2 ≤ sizeLine; decide, fun q9 n9 => ?_⟩
      obtain ⟨s17, h17, x17⟩ := s16.new (o := .tup [.ref q8, .int (n : Nat)]) n9
      have ht17 := (((((((((ht7.kb x8).kb x9).kb x10).kb x11).kb x12).kb x13).kb x14).kb x15).kb x16).kb x17
      have l1 : (sV (zs.take n) ++ [v] ++ sV (zs.drop n) ++ List.replicate m V.non).length = zs.length + 1 + m := by rw [List.length_append, ll, List.length_replicate]
      have gv : (sV (zs.take n) ++ [v] ++ sV (zs.drop n) ++ List.replicate m V.non)[n]? = some v := by
        rw [List.getElem?_append_left (by rw [ll]; omega), List.getElem?_append_left (by rw [List.length_append, lt1]; show n < n + 1; omega), List.getElem?_append_right (by rw [lt1]; exact Nat.le_refl _), lt1, Nat.sub_self]
        rfl
      refine k q9 q8 _ n _ s17.box s17.kb h17.1 (h16.kb x17) (fun H2 y => ⟨by rw [l1]; omega, by omega, fun i hi => ?_, .inr ⟨v, gv, ?_⟩⟩) (fun H2 y u hu => ?_) (by rw [l1]; omega)
      · have hi2 : i < zs.length := by omega
        refine ⟨zs[i], ?_, good _ (List.getElem_mem hi2)⟩
        rw [List.append_assoc, List.append_assoc, List.getElem?_append_left (by rw [lt1]; exact hi), List.getElem?_map, List.getElem?_take_of_lt hi, List.getElem?_eq_getElem hi2]
        rfl
      · rcases odd with q | q
        · exact .inl (q _ (ht17.kb y).1)
        · exact .inr q
      · have fz : ∀ z ∈ zs, V.str z = V.str z := fun _ _ => rfl
        rcases List.mem_append.mp hu with e | e
        · rcases List.mem_append.mp e with e | e
          · rcases List.mem_append.mp e with e | e
            · obtain ⟨z, _, rfl⟩ := List.mem_map.mp e
              exact .inl ⟨z, rfl⟩
            · rw [List.mem_singleton.mp e]
              rcases odd with q | ⟨z, q, _⟩
              · exact .inr fun H' x => q H' (x.tup (ht17.kb y).1)
              · exact .inl ⟨z, q⟩
          · obtain ⟨z, _, rfl⟩ := List.mem_map.mp e
            exact .inl ⟨z, rfl⟩
        · rw [(List.mem_replicate.mp e).2]
          exact .inr fun H' _ => nt_non
end
end TG

namespace TG
open PySem PySem.Spec PyProof.Rows L2 NdefX GenW Gx Lv Dl EnT
section
variable {b l : Addr} {H H' : Hp}
theorem Hd.gw {c : Addr} {o : HO} (h : Hd b l H c o) (x : LamX.ExtN H H') (n : ∀ ps, o ≠ .tbl ps) : Hd b l H' c o := ⟨x _ _ h.1 n, h.2⟩
end
/-! ### what stands in the law -/
abbrev qS : Str := ("law" : Str) ++ ".<locals>." ++ "<lambda>"
structure SitP (cs : List (Addr × Addr)) (b l p : Addr) (H : Hp) : Prop where
  box : BoxAt H b l
  tab : Tabs cs H
  l2 : LamX.TabS H p qS
section
variable {cs : List (Addr × Addr)} {b l c p : Addr} {H H' : Hp}
theorem SitP.ex (o : SitP cs b l p H) (ne : Apart cs p) (x : Ex cs H H') : SitP cs b l p H' := ⟨box_ext o.box x.ext, x.tab, tabS_ex x ne o.l2⟩
theorem SitP.draw (o : SitP cs b l p H) (x : KB b l H H') (hB : BoxAt H' b l) : SitP cs b l p H' := ⟨hB, tabs_kb o.tab o.box x, tabS_kb o.l2 o.box x⟩
theorem SitP.lam (o : SitP cs b l p H) (ne : Apart cs p) (k1 : ∀ b o, H b = some o → b ≠ p → H' b = some o) (k2 : ∀ b, H' b = none → H b = none) (t : LamX.TabS H' p qS) : SitP cs b l p H' ∧ Ex ((c, p) :: cs) H H' := by
  have x := ex_lam (c := c) o.tab ne o.l2 k1 k2 t
  exact ⟨⟨box_ext o.box x.ext, tabs_less x.tab, t⟩, x⟩
end
section
variable {cs : List (Addr × Addr)} {b l c p : Addr} {K : PySem.W.Frag} {H H' : Hp}
theorem SitP.new (o : SitP cs b l p H) (ne : Apart cs p) {q : Addr} {u : HO} (n : H q = none) : SitP cs b l p (upd H q u) ∧ Hd b l (upd H q u) q u ∧ Ex cs H (upd H q u) := by
  have x := Ex.laid (o := u) o.tab n
  obtain ⟨d1, d2⟩ := new_ne o.box n
  exact ⟨o.ex ne x, ⟨upd_same, d1, d2⟩, x⟩
/-- tuples of plain things in a list -/
def vD : V → PyData
  | .int i => .int i
  | .str z => .str z
  | .bl b => .bool b
  | _ => .none
def vDs (v : List V) : PyData := .tuple (v.map vD)
def PlainT (v : List V) : Prop := v.length ≤ 9 ∧ ∀ x ∈ v, (∃ i, x = .int i) ∨ ∃ z, x = .str z
theorem dp_plain : ∀ {v : List V}, (∀ x ∈ v, (∃ i, x = V.int i) ∨ ∃ z, x = V.str z) → DpAll K H v (v.map vD)
  | [], _ => .nil
  | x :: v, h => .cons (by
      rcases h x List.mem_cons_self with ⟨i, rfl⟩ | ⟨z, rfl⟩
      · exact .int i
      · exact .str z) (dp_plain fun y hy => h y (List.mem_cons_of_mem _ hy))
theorem dp_tups {ts : List Addr} {ls : List (List V)} (hl : ts.length = ls.length) (hp : ∀ v ∈ ls, PlainT v) (h : ∀ (j : Nat) (t : Addr) (v : List V), ts[j]? = some t → ls[j]? = some v → H t = some (.tup v)) : DpAll K H (ts.map V.ref) (ls.map vDs) := by
  induction ts generalizing ls with
  | nil =>
    cases ls with
    | nil => exact .nil
    | cons v ls => cases hl
  | cons t ts ih =>
    cases ls with
    | nil => cases hl
    | cons v ls => exact .cons (.tup (SqT.of (h 0 t v rfl rfl)) (dp_plain (hp v List.mem_cons_self).2)) (ih (by simpa using hl) (fun u hu => hp u (List.mem_cons_of_mem _ hu)) fun j t' v' e1 e2 => h (j + 1) t' v' (by simpa using e1) (by simpa using e2))
theorem dep_plain : ∀ v : List V, PyData.depthAll (v.map vD) = 0
  | [] => rfl
  | x :: v => by
    rw [List.map_cons]
    have h : (vD x).depth = 0 := by cases x <;> rfl
    simp only [PyData.depthAll, h, dep_plain v, Nat.max_self]
theorem dep_tups : ∀ ls : List (List V), PyData.depthAll (ls.map vDs) ≤ 1
  | [] => Nat.zero_le _
  | v :: ls => by
    rw [List.map_cons]
    have h := dep_tups ls
    have h2 : (vDs v).depth = 1 := by
      unfold vDs
      simp only [PyData.depth, dep_plain]
    simp only [PyData.depthAll, h2]
    omega
theorem dok_plain : ∀ v : List V, dokAll (v.map vD) = true
  | [] => rfl
  | x :: v => by
    rw [List.map_cons]
    have h : dok (vD x) = true := by cases x <;> rfl
    simp only [dokAll, h, dok_plain v, Bool.and_self]
theorem dok_tups : ∀ {ls : List (List V)}, (∀ v ∈ ls, PlainT v) → dokAll (ls.map vDs) = true
  | [], _ => rfl
  | v :: ls, h => by
    rw [List.map_cons]
    have h1 : dok (vDs v) = true := by
      unfold vDs
      simp only [dok, dok_plain, Bool.and_true, List.length_map]
      exact decide_eq_true (by have := (h v List.mem_cons_self).1; omega)
    simp only [dokAll, h1, dok_tups fun u hu => h u (List.mem_cons_of_mem _ hu), Bool.and_self]
theorem plain_sk (zs ws : List Str) (n : Nat) : ∀ v ∈ skV zs ws n, PlainT v := by
  intro v hv
  unfold skV at hv
  obtain ⟨i, _, hv⟩ := List.mem_flatMap.mp hv
  unfold skL at hv
  obtain ⟨p, _, rfl⟩ := List.mem_map.mp hv
  refine ⟨by show 3 ≤ 9; decide, fun x hx => ?_⟩
  simp only [List.mem_cons, List.not_mem_nil, or_false] at hx
  rcases hx with rfl | rfl | rfl
  · exact .inl ⟨_, rfl⟩
  · exact .inl ⟨_, rfl⟩
  · exact .inr ⟨_, rfl⟩
theorem TupL.dp {H0 : Hp} {D : Addr} {ls : List (List V)} (o : TupL H0 D ls H) (hp : ∀ v ∈ ls, PlainT v) : Dp K H (.ref D) (.list (ls.map vDs)) := by
  obtain ⟨ts, h1, h2, h3⟩ := o.ts
  exact .lst (SqL.of h1) (dp_tups h2 hp h3)
/-- tuples in a list that stand beside the box -/
def TupB (b l : Addr) (H : Hp) (D : Addr) (ls : List (List V)) : Prop := ∃ ts : List Addr, Hd b l H D (.lst (ts.map V.ref)) ∧ ts.length = ls.length ∧ ∀ (j : Nat) (t : Addr) (v : List V), ts[j]? = some t → ls[j]? = some v → Hd b l H t (.tup v)
theorem TupB.of {H0 : Hp} {D : Addr} {ls : List (List V)} (o : TupL H0 D ls H) (B0 : BoxAt H0 b l) : TupB b l H D ls := by
  obtain ⟨ts, h1, h2, h3⟩ := o.ts
  have nD := new_ne B0 o.nD
  have B := box_same B0 o.sm
  obtain ⟨ns, s1, e1, e2, _⟩ := B
  have nt : ∀ {t : Addr} {v : List V}, H t = some (.tup v) → t ≠ b ∧ t ≠ l := fun h => ⟨(fun z => by rw [z, e1] at h; cases h), fun z => by rw [z, e2] at h; cases h⟩
  exact ⟨ts, ⟨h1, nD⟩, h2, fun j t v q1 q2 => ⟨h3 j t v q1 q2, nt (h3 j t v q1 q2)⟩⟩
theorem TupB.gw {D : Addr} {ls : List (List V)} (o : TupB b l H D ls) (x : LamX.ExtN H H') : TupB b l H' D ls := by
  obtain ⟨ts, h1, h2, h3⟩ := o
  exact ⟨ts, h1.gw x (fun ps z => nomatch z), h2, fun j t v q1 q2 => (h3 j t v q1 q2).gw x fun ps z => nomatch z⟩
theorem TupB.kb {D : Addr} {ls : List (List V)} (o : TupB b l H D ls) (x : KB b l H H') : TupB b l H' D ls := by
  obtain ⟨ts, h1, h2, h3⟩ := o
  exact ⟨ts, h1.kb x, h2, fun j t v q1 q2 => (h3 j t v q1 q2).kb x⟩
theorem TupB.dp {D : Addr} {ls : List (List V)} (o : TupB b l H D ls) (hp : ∀ v ∈ ls, PlainT v) : Dp K H (.ref D) (.list (ls.map vDs)) := by
  obtain ⟨ts, h1, h2, h3⟩ := o
  exact .lst (SqL.of h1.1) (dp_tups h2 hp fun j t v q1 q2 => (h3 j t v q1 q2).1)
/-- lines of which one is none -/
structure OddB (K : PySem.W.Frag) (cs : List (Addr × Addr)) (b l L : Addr) (xs : List V) (n : Nat) (H : Hp) : Prop where
  hL : Hd b l H L (.lst xs)
  bad : BadLn K H xs n
  firm : Firm K cs H xs
theorem OddB.ex {L : Addr} {xs : List V} {n : Nat} (o : OddB K cs b l L xs n H) (x : Ex cs H H') : OddB K cs b l L xs n H' := ⟨o.hL.gw x.ext (fun ps z => nomatch z), o.bad.ex o.firm x, o.firm.ex x⟩
theorem tabs_addC {H : Hp} {cl : List (Addr × Obj)} (t : Tabs cs H) (un : ∀ c o, cl.lookup c = some o → H c = none) : Tabs cs (addC H cl) := fun q hq => by
  obtain ⟨u, g1, g2⟩ := t q hq
  exact ⟨u, add_at un g1, g2⟩
end
/-! ### the law's own works -/
def noE0 : Expr := .Name "x" ⟨0, 0, 0, 0⟩
def eNth (l : List Expr) (i : Nat) : Expr := l.getD i noE0
def eEls : Expr → List Expr
  | .List es _ => es
  | _ => []
def eArgs : Expr → List Expr
  | .UnaryOp _ (.Call _ es _ _) _ => es
  | _ => []
def ifT : Stmt → Expr
  | .If t _ _ _ => t
  | _ => noE0
def forB : Stmt → List Stmt
  | .For _ _ b _ _ => b
  | _ => []
def asV : Stmt → Expr
  | .Assign _ v _ => v
  | _ => noE0
abbrev frA : List Str := ["_law_bad", "_law_other"]
abbrev frB : List Str := ["_law_bad", "_law_worse"]
abbrev frD : List Str := ["_law_bad"]
abbrev frC : List Str := ["_law_bad", "_law_other", "_law_worse"]
abbrev bodyL : List Stmt := forB (TGK.stAt (defBody s_law) 1)
abbrev la1 : TGK.LamT := TGK.lamOf (eNth (eEls (asV (TGK.stAt bodyL 6))) 0)
theorem sc_a1 : NScope frA [] frA la1.2.2 := nscope_by (by decide +kernel)
theorem kl_a1 : ∀ y ∈ la1.2.2.names, y.2 = .free → (defScope s_law).names.lookup y.1 = some .cell := by decide +kernel
abbrev la2 : TGK.LamT := TGK.lamOf (eNth (eEls (asV (TGK.stAt bodyL 6))) 1)
theorem sc_a2 : NScope ["_law_a", "_law_bad", "_law_worse"] ["_law_a"] frB la2.2.2 := nscope_by (by decide +kernel)
theorem kl_a2 : ∀ y ∈ la2.2.2.names, y.2 = .free → (defScope s_law).names.lookup y.1 = some .cell := by decide +kernel
abbrev la3 : TGK.LamT := TGK.lamOf (eNth (eEls (asV (TGK.stAt bodyL 6))) 2)
theorem sc_a3 : NScope ["_law_b", "_law_bad"] ["_law_b"] frD la3.2.2 := nscope_by (by decide +kernel)
theorem kl_a3 : ∀ y ∈ la3.2.2.names, y.2 = .free → (defScope s_law).names.lookup y.1 = some .cell := by decide +kernel
theorem key_a2 : la2.2.2.names.lookup ("_law_a" : Str) = some .local := by decide +kernel
theorem key_a3 : la3.2.2.names.lookup ("_law_b" : Str) = some .local := by decide +kernel
theorem kc_frC : ∀ y ∈ frC, (defScope s_law).names.lookup y = some .cell := by decide +kernel
theorem sub_AC : ∀ y ∈ frA, y ∈ frC := by decide +kernel
theorem sub_BC : ∀ y ∈ frB, y ∈ frC := by decide +kernel
theorem sub_DC : ∀ y ∈ frD, y ∈ frC := by decide +kernel
/-- strokes of what was caught -/
def rP (sp : Sp) : TGK.RW := fun ws H Q E => ∃ x y : V, ws = [some x, some y] ∧ sp [x, y] H Q E
def rE (sp : Sp) : TGK.RW := fun ws H Q E => ∃ x : V, ws = [some x] ∧ ∀ e, H e = none → sp [.ref e, x] (upd H e (.lst [])) Q E
section
variable {P : Program} {w : World} {K : PySem.W.Frag} {mg : Str → Option Value} {base : Heap} {cs : List (Addr × Addr)}
theorem lok_a1 {k : Nat} {q : Str} {c' f g : Addr} {fdg : FuncData} {lc : List (Str × Addr)} {sp : Sp} (G : FnOk P w K mg base (L2.CX P w) k g fdg ["before", "later"] sp) (kg : PySem.W.keepIn K (.ref g) = true) (bd : Binds K fdg ["before", "later"] []) (mP : mg "strokes" = some (.ref g)) :
    LamW P w K mg base (k + 1) f (HfL f ⟨"<lambda>", q, la1.1, [], la1.2.2, lc, c'⟩ la1.2.1) (TGK.spLamR frA (rP sp) ⟨"<lambda>", q, la1.1, [], la1.2.2, lc, c'⟩) := by
  refine lamw_l (lokx_of (N := frA) (fr := frA) sc_a1 (fun pm ctv => rfl) fun A outer s H Q E hr h => ?_)
  obtain ⟨_, ws, cl, hC, x, y, rfl, hsp⟩ := h
  refine ⟨_, cl, _, hC, pe_callS G hr (by rfl) mP kg bd (fun σ => passAt (takes_of rfl rfl rfl rfl) σ) (pa_cons (pv 0) (pa_cons (pv 1) pa_nil)), ?_⟩
  exact ⟨_, rfl, _, rfl, hsp⟩
theorem lok_a2 {k : Nat} {q : Str} {c' f g t : Addr} {fdg : FuncData} {lc : List (Str × Addr)} {v : V} {sp : Sp} (G : FnOk P w K mg base (L2.CX P w) k g fdg ["before", "later"] sp) (kg : PySem.W.keepIn K (.ref g) = true) (bd : Binds K fdg ["before", "later"] []) (mP : mg "strokes" = some (.ref g)) :
    LamW P w K mg base (k + 1) f (HfD f ⟨"<lambda>", q, la2.1, [], la2.2.2, lc, c'⟩ la2.2.1 t v) (TGK.spLamR frB (rP sp) ⟨"<lambda>", q, la2.1, [], la2.2.2, lc, c'⟩) := by
  refine lamw_d (N := ["_law_a", "_law_bad", "_law_worse"]) (fr := frB) (nm := "_law_a") sc_a2 rfl rfl rfl rfl rfl key_a2 fun A outer s H Q E hr h => ?_
  obtain ⟨_, ws, cl, hC, x, y, rfl, hsp⟩ := h
  refine ⟨_, cl, _, hC, pe_callS G hr (by rfl) mP kg bd (fun σ => passAt (takes_of rfl rfl rfl rfl) σ) (pa_cons (pv 1) (pa_cons (pv 2) pa_nil)), ?_⟩
  exact ⟨_, rfl, _, rfl, hsp⟩
theorem lok_a3 {k : Nat} {q : Str} {c' f g t : Addr} {fdg : FuncData} {lc : List (Str × Addr)} {v : V} {sp : Sp} (G : FnOk P w K mg base (L2.CX P w) k g fdg ["before", "later"] sp) (kg : PySem.W.keepIn K (.ref g) = true) (bd : Binds K fdg ["before", "later"] []) (mP : mg "strokes" = some (.ref g)) :
    LamW P w K mg base (k + 1) f (HfD f ⟨"<lambda>", q, la3.1, [], la3.2.2, lc, c'⟩ la3.2.1 t v) (TGK.spLamR frD (rE sp) ⟨"<lambda>", q, la3.1, [], la3.2.2, lc, c'⟩) := by
  refine lamw_d (N := ["_law_b", "_law_bad"]) (fr := frD) (nm := "_law_b") sc_a3 rfl rfl rfl rfl rfl key_a3 fun A outer s H Q E hr h => ?_
  obtain ⟨_, ws, cl, hC, x, rfl, hsp⟩ := h
  refine ⟨_, cl, _, hC, pe_callS G hr (by rfl) mP kg bd (fun σ => passAt (takes_of rfl rfl rfl rfl) σ) (pa_cons (pe_lst pa_nil) (pa_cons (pv 1) pa_nil)), ?_⟩
  exact ⟨small0, fun e ne => ⟨_, rfl, hsp e ne⟩⟩
theorem err_line {H : Hp} {n : Int} {d : Addr} (h : H d = some (.xd [("line", .int n)])) : ErrAt K H 5 n (.ref (He.ga K (nmE 5))) (some d) := ⟨by decide, rfl, fun _ => ⟨d, rfl, h⟩, fun z => absurd z (by decide)⟩
end
end TG

namespace TG
open PySem PySem.Spec PyProof.Rows L2 NdefX GenW Gx Lv Dl EnT
section
variable {P : Program} {w : World} {K : PySem.W.Frag} {mg : Str → Option Value} {base : Heap} {cs : List (Addr × Addr)} {CL p : Addr}
theorem HfLgw {f : Addr} {F : _} {e : _} {H H' : Hp} (h : HfL f F e H) (x : LamX.ExtN H H') : HfL f F e H' := ⟨x _ _ h.1 fnL_ne, x _ _ h.2 LamX.codeO_ne⟩
theorem HfDgw {f t : Addr} {F : _} {e : _} {v : V} {H H' : Hp} (h : HfD f F e t v H) (x : LamX.ExtN H H') : HfD f F e t v H' := ⟨x _ _ h.1 fnD_ne, x _ _ h.2.1 LamX.codeO_ne, x _ _ h.2.2 fun ps z => nomatch z⟩
/-- both lists, what was handed in, what is due -/
structure SitS (cs : List (Addr × Addr)) (b l p D1 D2 q1 q2 hh dr : Addr) (zs ws : List Str) (H : Hp) : Prop where
  s : SitP cs b l p H
  h1 : Hd b l H D1 (.lst (sV zs))
  h2 : Hd b l H D2 (.lst (sV ws))
  g1 : Hd b l H q1 (.lst (sV zs))
  g2 : Hd b l H q2 (.lst (sV ws))
  hh : Hd b l H hh (.tup [.ref q1, .ref q2])
  due : TupB b l H dr (skV zs ws (max zs.length ws.length))
section
variable {b l D1 D2 q1 q2 hh dr : Addr} {zs ws : List Str} {H H' : Hp}
theorem SitS.ex (o : SitS cs b l p D1 D2 q1 q2 hh dr zs ws H) (ne : Apart cs p) (x : Ex cs H H') : SitS cs b l p D1 D2 q1 q2 hh dr zs ws H' :=
  ⟨o.s.ex ne x, o.h1.gw x.ext (fun ps z => nomatch z), o.h2.gw x.ext (fun ps z => nomatch z), o.g1.gw x.ext (fun ps z => nomatch z), o.g2.gw x.ext (fun ps z => nomatch z), o.hh.gw x.ext (fun ps z => nomatch z), o.due.gw x.ext⟩
theorem SitS.draw (o : SitS cs b l p D1 D2 q1 q2 hh dr zs ws H) (x : KB b l H H') (hB : BoxAt H' b l) : SitS cs b l p D1 D2 q1 q2 hh dr zs ws H' :=
  ⟨o.s.draw x hB, o.h1.kb x, o.h2.kb x, o.g1.kb x, o.g2.kb x, o.hh.kb x, o.due.kb x⟩
end
theorem pair_ok {zs ws : List Str} (h1 : LnOk zs) (h2 : LnOk ws) : SeqAt.shaped (.tuple [zD zs, zD ws]) = true ∧ PyData.eqv (.tuple [zD zs, zD ws]) (.tuple [zD zs, zD ws]) = true := by
  have hc : PyData.canLay0 (.tuple [zD zs, zD ws]) = true := by
    have c1 : PyData.canLay0 (zD zs) = true := canAll_strs h1.sg
    have c2 : PyData.canLay0 (zD ws) = true := canAll_strs h2.sg
    simp only [PyData.canLay0, zD] at c1 c2
    simp only [PyData.canLay0, PyData.canLayAll0, zD, c1, c2, Bool.and_true]
  refine ⟨?_, SeqAt.eqv_refl _ hc⟩
  unfold SeqAt.shaped
  rw [hc]
  simp only [Bool.true_and, PyData.depth, PyData.depthAll, zD, depthAll_strs]
  decide
def spLaw (K : PySem.W.Frag) (cs : List (Addr × Addr)) (p : Addr) : Sp := fun vs H Q _ => ∃ (a : Addr) (ns : List Int), vs = [.ref a] ∧ Tabs cs H ∧ LamX.TabS H p qS ∧ SqL K H a (ns.map V.int) ∧ ns.length ≤ 63 ∧ ∀ H', Q (.bl true) H'
abbrev nmLaw : List Str := ["_law_script", "_law_box", "_law_turn", "_law_one", "_law_due", "_law_handed", "_law_again", "_law_found", "_law_at", "_law_works", "_law_bad", "_law_other", "_law_worse"]
theorem sc_law : FnScope nmLaw ["_law_script"] (defScope s_law) := ⟨rfl, rfl, rfl, by decide +kernel, rfl, by decide +kernel, by decide +kernel⟩
theorem ln_nil : LnOk [] := ⟨by decide, fun z h => (nomatch h), fun z h => (nomatch h)⟩
theorem ok_law {f cd g1 g3 g4 g6 g7 g9 gA : Addr} {fd fd1 fd3 fd4 fd6 fd7 fd9 fdA : FuncData} (T : Txt mg) (eL : CL = He.ga K (nmE 5)) (ne : Apart cs p) (F : Fun K "law" "law" s_law f fd) (hcode : fd.code = .ref cd) (TB : LamX.TabB base mg cd p)
    (G1 : FnOk P w K mg base CX0 1 g1 fd1 ["_law_script"] (spBegun K)) (k1 : PySem.W.keepIn K (.ref g1) = true) (b1 : Binds K fd1 ["_law_script"] []) (m1 : mg "_law_begun" = some (.ref g1))
    (G3 : FnOk P w K mg base CX0 4 g3 fd3 ["_law_box"] spTwo) (k3 : PySem.W.keepIn K (.ref g3) = true) (b3 : Binds K fd3 ["_law_box"] []) (m3 : mg "_law_lines_two" = some (.ref g3))
    (G4 : FnOk P w K mg base CX0 1 g4 fd4 ["_law_before", "_law_later"] spLS) (k4 : PySem.W.keepIn K (.ref g4) = true) (b4 : Binds K fd4 ["_law_before", "_law_later"] []) (m4 : mg "_law_strokes" = some (.ref g4))
    (G6 : FnOk P w K mg base CX0 7 g6 fd6 ["before", "later"] (spSK K cs)) (G6L : FnOk P w K mg base (L2.CX P w) 7 g6 fd6 ["before", "later"] (spSKL K cs CL)) (G6R : FnOk P w K mg base (L2.CX P w) 7 g6 fd6 ["before", "later"] (spSKR K cs CL)) (k6 : PySem.W.keepIn K (.ref g6) = true) (b6 : Binds K fd6 ["before", "later"] []) (m6 : mg "strokes" = some (.ref g6))
    (G7 : FnOk P w K mg base CX0 5 g7 fd7 ["_law_found", "_law_due"] (spAlike K 4)) (k7 : PySem.W.keepIn K (.ref g7) = true) (b7 : Binds K fd7 ["_law_found", "_law_due"] []) (m7 : mg "_law_alike" = some (.ref g7))
    (G9 : FnOk P w K mg base CX0 2 g9 fd9 ["_law_box", "_law_lines"] (spOddL K ((cd, p) :: cs))) (k9 : PySem.W.keepIn K (.ref g9) = true) (b9 : Binds K fd9 ["_law_box", "_law_lines"] []) (m9 : mg "_law_odd_lines" = some (.ref g9))
    (GA : FnOk P w K mg base CX0 10 gA fdA ["_law_works", "_law_due"] (spAllW P w K mg base cs 8)) (kA : PySem.W.keepIn K (.ref gA) = true) (bA : Binds K fdA ["_law_works", "_law_due"] []) (mA : mg "_law_all" = some (.ref gA)) :
    FnOk P w K mg base CX0 11 f fd ["_law_script"] (spLaw K cs p) := by
  refine fun_okT F hcode sc_law (fun vs H Q E h => ?_) (fun A outer s H vs Q E hr h => ?_)
  · obtain ⟨a, ns, rfl, _⟩ := h
    rfl
  · obtain ⟨sc, ns, rfl, hT, hL2, hS, hl, k⟩ := h
    have nd := sc_law.nd
    have hu := hr.units
    have r1 : Room 1 _ := hr.mono (by decide)
    have r2 : Room 2 _ := hr.mono (by decide)
    have r4 : Room 4 _ := hr.mono (by decide)
    have r5 : Room 5 _ := hr.mono (by decide)
    have r7 : Room 7 _ := hr.mono (by decide)
    refine ⟨_, (pss_cons (ps_set (i := 1) nd rfl (.inl rfl) (pe_call G1 r1 (by rfl) m1 k1 b1 .nil pass0 (pa_cons (pv 0) pa_nil)))
      (pss_cons (ps_for PassesOwn.never rfl (pi_range1 (by rfl) T.range (pa_cons pe_int pa_nil)) (pg_name (i := 2) nd rfl (.inl rfl))
      (pss_cons (ps_asg (pe_call G3 r4 (by rfl) m3 k3 b3 .nil pass0 (pa_cons (pv 1) pa_nil)) (pg_tup rfl (pgs_cons (pg_name (i := 3) nd rfl (.inl rfl)) (pgs_cons (pg_name (i := 11) nd rfl (.inr rfl)) pgs_nil))))
      (pss_cons (ps_set (i := 4) nd rfl (.inl rfl) (pe_call G4 r1 (by rfl) m4 k4 b4 .nil pass0 (pa_cons (pv 3) (pa_cons (pv 11) pa_nil))))
      (pss_cons (ps_set (i := 5) nd rfl (.inl rfl) (pe_tup (pa_cons (pe_callTy call_list_of (by rfl) T.list (by decide +kernel) (pa_cons (pv 3) pa_nil)) (pa_cons (pe_callTy call_list_of (by rfl) T.list (by decide +kernel) (pa_cons (pv 11) pa_nil)) pa_nil))))
      (pss_cons (ps_for PassesOwn.never rfl (pi_range1 (by rfl) T.range (pa_cons pe_int pa_nil)) (pg_name (i := 6) nd rfl (.inl rfl))
      (pss_cons (ps_set (i := 7) nd rfl (.inl rfl) (pe_call G6 r7 (by rfl) m6 k6 b6 .nil pass0 (pa_cons (pe_ix ix_tup (pv 5) pe_int (fun _ _ => rfl)) (pa_cons (pe_ix ix_tup (pv 5) pe_int (fun _ _ => rfl)) pa_nil))))
      (pss_cons (ps_if (PW.pt (pw_or (pt_not (pt_val (pe_call G7 r5 (by rfl) m7 k7 b7 .nil pass0 (pa_cons (pv 7) (pa_cons (pv 4) pa_nil))))) (pw_or1 (pt_cmpR (op_neD hu) (pv 5) (pe_tup (pa_cons (pv 3) (pa_cons (pv 11) pa_nil))) (nomark _))))) (pss_one (ps_ret pe_bl)) pss_nil)
      (pss_one (ps_expr (pe_bm PySem.F.plainAttrs_list PySem.F.slot_list_append PySem.F.type_list_append mt_append (pv 7) (pa_cons (pe_tup pa_nil) pa_nil)))))))
      (pss_cons (ps_asg (pe_call G9 r2 (by rfl) m9 k9 b9 .nil pass0 (pa_cons (pv 1) (pa_cons (pv 3) pa_nil))) (pg_tup rfl (pgs_cons (pg_name (i := 10) nd rfl (.inr rfl)) (pgs_cons (pg_name (i := 8) nd rfl (.inl rfl)) pgs_nil))))
      (pss_cons (ps_set (i := 12) nd rfl (.inr rfl) (pe_ix ix_tup (pe_call G9 r2 (by rfl) m9 k9 b9 .nil pass0 (pa_cons (pv 1) (pa_cons (pv 11) pa_nil))) pe_int (fun _ _ => rfl)))
      (pss_cons (ps_set (i := 9) nd rfl (.inl rfl) (pe_lst (pa_cons (pe_lamC TB rfl rfl fun y hy e => .inl (kl_a1 y hy e)) (pa_cons (pe_lamD (v := .int 0) TB rfl rfl rfl rfl pe_int (fun y hy e => .inl (kl_a2 y hy e)) ⟨("_law_bad", .free), by decide +kernel, rfl⟩) (pa_cons (pe_lamD (v := .int 0) TB rfl rfl rfl rfl pe_int (fun y hy e => .inl (kl_a3 y hy e)) ⟨("_law_bad", .free), by decide +kernel, rfl⟩) pa_nil)))))
      (pss_one (ps_if (pt_not (pt_val (pe_callC (names := frC) GA hr (by rfl) mA kA bA (fun _ _ => rfl) kc_frC (pa_cons (pv 9) (pa_cons (pe_tup (pa_cons pe_str (pa_cons (pv 8) pa_nil))) pa_nil))))) (pss_one (ps_ret pe_bl)) pss_nil))))))))))
      (pss_one (ps_ret (pe_cmpR (op_eqD hu) (pe_call G6 r7 (by rfl) m6 k6 b6 .nil pass0 (pa_cons (pe_lst pa_nil) (pa_cons (pe_lst pa_nil) pa_nil))) (pe_lst pa_nil) (nomark _)))))), ?_⟩
    have szl : (9000 : Nat) < sizeLine := by decide
    refine ⟨_, rfl, sc, ns, rfl, hS, hl, fun b l H1 hB1 x1 nb nl => ⟨_, rfl, by decide, by decide, for_range (n := 3) (fun _ σ H' => ∃ (c2 c3 c4 c5 c6 c7 c8 c9 c10 c11 c12 : Option V), σ = [some (.ref sc), some (.ref b), c2, c3, c4, c5, c6, c7, c8, c9, c10, c11, c12] ∧ SitP cs b l p H')
      ⟨none, none, none, none, none, none, none, none, none, none, none, rfl, ⟨hB1, tabs_ext hT x1, hL2.ext x1⟩⟩ ?_ ?_⟩⟩
    rotate_left
    · rintro σ H' ⟨c2, c3, c4, c5, c6, c7, c8, c9, c10, c11, c12, rfl, o⟩
      refine ⟨small0, fun e1 n1 => ⟨small0, fun e2 n2 => ?_⟩⟩
      obtain ⟨o, he1, y1⟩ := o.new (u := .lst []) ne n1
      generalize upd H' e1 (.lst []) = H2 at o he1 n2 ⊢
      obtain ⟨o, he2, y2⟩ := o.new (u := .lst []) ne n2
      have he1 := he1.gw y2.ext fun ps z => nomatch z
      generalize upd H2 e2 (.lst []) = H3 at o he1 he2 ⊢
      refine ⟨e1, e2, [], [], rfl, o.tab, SqL.of he1.1, ln_nil, SqL.of he2.1, ln_nil, fun D H4 H5 x4 t5 => ⟨small0, fun e3 n3 => ?_⟩⟩
      have t6 := t5.grow (same_new (o := .lst []) n3)
      refine ⟨.list [], .list [], t6.dp (plain_sk _ _ _), .lst (SqL.of upd_same) .nil, by decide, by decide, ?_⟩
      exact k _
    clear hB1 x1 nb nl hT hL2 hS hl
    rintro i σ H1 hi ⟨c2, c3, c4, c5, c6, c7, c8, c9, c10, c11, c12, rfl, o⟩
    -- two lists
    refine ⟨_, rfl, b, l, rfl, o.box, fun tt D1 D2 zs ws H2 hB2 x2 htt h1 h2 d1 d2 lz lw => ?_⟩
    have o := o.draw x2 hB2
    have h1 : Hd b l H2 D1 (.lst (sV zs)) := ⟨h1, d1⟩
    have h2 : Hd b l H2 D2 (.lst (sV ws)) := ⟨h2, d2⟩
    refine ⟨tt, _, rfl, .inl (.inl htt), rfl, _, _, rfl, _, _, rfl, rfl, ?_⟩
    clear x2 hB2 htt d1 d2
    -- what is due
    refine ⟨_, rfl, _, rfl, D1, D2, zs, ws, rfl, h1.1, lz, h2.1, lw, fun dr H3 o3 => ?_⟩
    have kb3 : KB b l H2 H3 := fun c u h _ _ => o3.sm c u h
    have due := TupB.of o3 o.box
    have o := o.draw kb3 (box_same o.box o3.sm)
    have h1 := h1.kb kb3
    have h2 := h2.kb kb3
    clear kb3 o3
    -- handed in
    refine ⟨_, rfl, D1, _, rfl, .inl (SqL.of h1.1), fun q1 n1 => ?_⟩
    obtain ⟨o, g1, y1⟩ := o.new (u := .lst (sV zs)) ne n1
    have h1 := h1.gw y1.ext fun ps z => nomatch z
    have h2 := h2.gw y1.ext fun ps z => nomatch z
    have due := due.gw y1.ext
    generalize upd H3 q1 (.lst (sV zs)) = H4 at o g1 h1 h2 due ⊢
    clear y1 n1
    refine ⟨_, rfl, D2, _, rfl, .inl (SqL.of h2.1), fun q2 n2 => ?_⟩
    obtain ⟨o, g2, y1⟩ := o.new (u := .lst (sV ws)) ne n2
    have h1 := h1.gw y1.ext fun ps z => nomatch z
    have h2 := h2.gw y1.ext fun ps z => nomatch z
    have g1 := g1.gw y1.ext fun ps z => nomatch z
    have due := due.gw y1.ext
    generalize upd H4 q2 (.lst (sV ws)) = H5 at o g1 g2 h1 h2 due ⊢
    clear y1 n2
    refine ⟨by show 2 ≤ sizeLine; decide, fun hh nh => ?_⟩
    obtain ⟨o, ghh, y1⟩ := o.new (u := .tup [.ref q1, .ref q2]) ne nh
    have h1 := h1.gw y1.ext fun ps z => nomatch z
    have h2 := h2.gw y1.ext fun ps z => nomatch z
    have g1 := g1.gw y1.ext fun ps z => nomatch z
    have g2 := g2.gw y1.ext fun ps z => nomatch z
    have due := due.gw y1.ext
    have o : SitS cs b l p D1 D2 q1 q2 hh dr zs ws (upd H5 hh (.tup [.ref q1, .ref q2])) := ⟨o, h1, h2, g1, g2, ghh, due⟩
    generalize upd H5 hh (.tup [.ref q1, .ref q2]) = H6 at o ⊢
    clear h1 h2 g1 g2 ghh due y1 nh
    have lsk : (skV zs ws (max zs.length ws.length)).length ≤ 6000 := by
      have e1 := skV_len lz lw (max zs.length ws.length)
      have e2 := lz.len
      have e3 := lw.len
      omega
    have pls := plain_sk zs ws (max zs.length ws.length)
    refine ⟨_, rfl, by decide, by decide, for_range (n := 2) (D := { nx := _, rt := Q, bk := fun _ _ => True, ct := fun _ _ => True }) (fun _ σ H' => ∃ (c6 c7 : Option V), σ = [some (.ref sc), some (.ref b), some (.int (0 + (i : Nat))), some (.ref D1), some (.ref dr), some (.ref hh), c6, c7, c8, c9, c10, some (.ref D2), c12] ∧ SitS cs b l p D1 D2 q1 q2 hh dr zs ws H')
      ⟨c6, c7, rfl, o⟩ ?_ ?_⟩
    · clear o
      rintro j σ H7 hj ⟨c6, c7, rfl, o⟩
      refine ⟨_, rfl, hh, _, 0, .ref q1, rfl, rfl, SqT.of o.hh.1, rfl, _, rfl, hh, _, 1, .ref q2, rfl, rfl, SqT.of o.hh.1, rfl, q1, q2, zs, ws, rfl, o.s.tab, SqL.of o.g1.1, lz, SqL.of o.g2.1, lw, fun r H8 H9 x8 t9 => ?_⟩
      have o := o.ex ne x8
      have nr := t9.nD
      have kb9 : KB b l H8 H9 := fun c u h _ _ => t9.sm c u h
      have B9 := box_same o.s.box t9.sm
      have o9 := o.draw kb9 B9
      refine ⟨_, rfl, _, rfl, _, _, .list ((skV zs ws (max zs.length ws.length)).map vDs), rfl, t9.dp pls, o9.due.dp pls, ?_, ?_, true, rfl, iteF ⟨_, rfl, _, rfl, _, rfl, by show 2 ≤ sizeLine; decide, fun tt ntt => ?_⟩⟩
      · have := dep_tups (skV zs ws (max zs.length ws.length))
        simp only [PyData.depth]
        omega
      · simp only [dok, Bool.and_eq_true]
        exact ⟨decide_eq_true (by rw [List.length_map]; omega), dok_tups pls⟩
      obtain ⟨sp, htt, xt⟩ := o9.s.new (u := .tup [.ref D1, .ref D2]) ne ntt
      have t10 := t9.grow (same_new (o := .tup [.ref D1, .ref D2]) ntt)
      have o10 := o9.ex ne xt
      generalize upd H9 tt (.tup [.ref D1, .ref D2]) = H10 at sp htt xt t10 o10 ⊢
      obtain ⟨s1, s2⟩ := pair_ok lz lw
      refine ⟨.tuple [zD zs, zD ws], .tuple [zD zs, zD ws], .tup (SqT.of o10.hh.1) (.cons (.lst (SqL.of o10.g1.1) (dp_strs zs)) (.cons (.lst (SqL.of o10.g2.1) (dp_strs ws)) .nil)),
        .tup (SqT.of htt.1) (.cons (.lst (SqL.of o10.h1.1) (dp_strs zs)) (.cons (.lst (SqL.of o10.h2.1) (dp_strs ws)) .nil)), s1, s1, ?_⟩
      rw [s2]
      refine ⟨false, rfl, iteF ?_⟩
      obtain ⟨acc, w1, w2⟩ := t10.lst
      refine ⟨_, rfl, .inl ⟨rfl, _, SqL.of w1⟩, small0, fun qe nqe => ?_⟩
      have t11 := t10.grow (same_new (o := .tup []) nqe)
      obtain ⟨acc, w1, w2⟩ := t11.lst
      refine ⟨r, acc, _, rfl, rfl, w1, by rw [w2]; omega, ?_⟩
      have kb : KB b l H8 (upd (upd H10 qe (.tup [])) r (.lst (acc ++ [.ref qe]))) := kb_upd (fun c u h _ _ => t11.sm c u h) nr
      obtain ⟨r1, r2⟩ := new_ne o.s.box nr
      exact ⟨_, _, rfl, o.draw kb (box_upd (box_same o.s.box t11.sm) r1 r2)⟩
    clear o
    rintro σ H7 ⟨c6, c7, rfl, o⟩
    -- lines of which one is none
    refine ⟨_, rfl, _, rfl, b, l, D1, zs, rfl, o.s.box, o.h1, lz, fun tq L xs nb H8 hB8 x8 htq hL hbad hfirm hlen => ?_⟩
    have o := o.draw x8 hB8
    refine ⟨tq, _, rfl, .inl (.inl htq), rfl, _, _, rfl, _, _, rfl, rfl, ?_⟩
    clear x8 hB8 htq
    refine ⟨_, rfl, _, rfl, b, l, D2, ws, rfl, o.s.box, o.h2, lw, fun tq2 LW xs2 nb2 H9 hB9 x9 htq2 hLW _ _ _ => ⟨tq2, _, 0, .ref LW, rfl, rfl, SqT.of htq2, rfl, ?_⟩⟩
    have ob : OddB K ((cd, p) :: cs) b l L xs nb H9 := ⟨hL.kb x9, hbad H9 x9, hfirm H9 x9⟩
    have o := o.s.draw x9 hB9
    clear x9 hB9 htq2 hLW hL hbad hfirm hlen lsk pls
    -- the works
    refine ⟨o.l2, fun f1 d1 Ha k1 k2 t11 nf1 hf1 hc1 => ?_⟩
    obtain ⟨o, xx⟩ := o.lam (c := cd) ne k1 k2 t11
    have ob := ob.ex xx
    have g1 : HfL f1 ⟨"<lambda>", qS, la1.1, [], la1.2.2, cloFrom (cxOf CX0 P w K mg base nmLaw "law" (defScope s_law) f (.ref cd) A outer s H E).nox.env.cells la1.2.2.names [], d1⟩ la1.2.1 _ := ⟨hf1, hc1⟩
    clear xx k1 k2 t11 nf1 hf1 hc1
    refine ⟨o.l2, fun f2 d2 u2 Hb k1 k2 t11 nf2 hf2 => ?_⟩
    obtain ⟨o, xx⟩ := o.lam (c := cd) ne k1 k2 t11
    have ob := ob.ex xx
    have g1 := HfLgw g1 xx.ext
    have g2 : HfD f2 ⟨"<lambda>", qS, la2.1, [], la2.2.2, cloFrom (cxOf CX0 P w K mg base nmLaw "law" (defScope s_law) f (.ref cd) A outer s H E).nox.env.cells la2.2.2.names [], d2⟩ la2.2.1 u2 (.int 0) _ := hf2
    clear xx k1 k2 t11 nf2 hf2
    refine ⟨o.l2, fun f3 d3 u3 Hc k1 k2 t11 nf3 hf3 => ?_⟩
    obtain ⟨o, xx⟩ := o.lam (c := cd) ne k1 k2 t11
    have ob := ob.ex xx
    have g1 := HfLgw g1 xx.ext
    have g2 := HfDgw g2 xx.ext
    have g3 : HfD f3 ⟨"<lambda>", qS, la3.1, [], la3.2.2, cloFrom (cxOf CX0 P w K mg base nmLaw "law" (defScope s_law) f (.ref cd) A outer s H E).nox.env.cells la3.2.2.names [], d3⟩ la3.2.1 u3 (.int 0) _ := hf3
    clear xx k1 k2 t11 nf3 hf3
    refine ⟨by show 3 ≤ sizeLine; decide, fun w1 nw1 => ?_⟩
    obtain ⟨o', hw1, xx⟩ := o.new (u := .lst [V.ref f1, V.ref f2, V.ref f3]) ne nw1
    have ob := ob.ex (xx.lift (c := cd) ne o.l2)
    have o := o'
    have g1 := HfLgw g1 xx.ext
    have g2 := HfDgw g2 xx.ext
    have g3 := HfDgw g3 xx.ext
    clear o' 
    generalize upd Hc w1 (.lst [V.ref f1, V.ref f2, V.ref f3]) = Hd_ at o ob hw1 g1 g2 g3 ⊢
    clear xx nw1
    refine ⟨_, rfl, _, rfl, by show 2 ≤ sizeLine; decide, fun dd ndd cl Tc un => ?_⟩
    obtain ⟨o', hdd, xx⟩ := o.new (u := .tup [V.str "BadLines", V.int (nb : Nat)]) ne ndd
    have ob := ob.ex (xx.lift (c := cd) ne o.l2)
    have o := o'
    have hw1 := hw1.gw xx.ext fun ps z => nomatch z
    have g1 := HfLgw g1 xx.ext
    have g2 := HfDgw g2 xx.ext
    have g3 := HfDgw g3 xx.ext
    clear o'
    generalize upd Hd_ dd (.tup [V.str "BadLines", V.int (nb : Nat)]) = He_ at o ob hw1 hdd g1 g2 g3 un ⊢
    clear xx ndd
    have go : ∀ (u : V) (H1 : Hp), Ex cs He_ H1 → ∀ E2 : XK, (∀ (cls : Value) (d : Option Addr) (H2 : Hp), ErrAt K H2 5 (nb : Nat) cls d → Ex cs H1 H2 → E2 cls d H2) → ∀ Z, spSKL K cs CL [.ref L, u] H1 Z E2 := fun u H1 x1 E2 hE Z => by
      have xv := x1.lift (c := cd) ne o.l2
      have ob1 := ob.ex xv
      have l1 := tabS_ex x1 ne o.l2
      exact ⟨L, u, xs, nb, rfl, x1.tab, SqL.of ob1.hL.1, ob1.bad, fun v hv hn H' x => ob1.firm.stays v hv hn H' (x.lift ne l1), fun d H2 x2 nd hd => by rw [eL]; exact hE _ _ _ (err_line hd) x2⟩
    refine ⟨w1, dd, [f1, f2, f3], 5, (nb : Nat), rfl, tabs_addC o.tab un, add_at un hw1.1, add_at un hdd.1, fun f hf => ?_, fun H' x told => ⟨true, rfl, iteF ?_⟩⟩
    · simp only [List.mem_cons, List.not_mem_nil, or_false] at hf
      rcases hf with e | e | e <;> rw [e]
      · refine TGK.ref_of (ws := [some (.ref L), some (.ref D2)]) sc_a1 (fun y hy => sc_a1.free (y, .free) hy rfl) (sub_AC) Tc un rfl rfl (fun i y v q1 q2 => by
          match i, q1, q2 with
          | 0, q1, q2 => cases q1; cases q2; exact ⟨10, rfl, rfl⟩
          | 1, q1, q2 => cases q1; cases q2; exact ⟨11, rfl, rfl⟩
          | i + 2, q1, _ => simp at q1) (fun H1 x => ⟨x.ext _ _ (add_at un g1.1) fnL_ne, x.ext _ _ (add_at un g1.2) LamX.codeO_ne⟩) (lok_a1 G6L k6 b6 m6) (fun H1 x1 _ Z E2 hE => ⟨_, _, rfl, ?_⟩)
        exact go _ H1 x1 E2 hE Z
      · refine TGK.ref_of (ws := [some (.ref L), some (.ref LW)]) sc_a2 (fun y hy => sc_a2.free (y, .free) hy rfl) (sub_BC) Tc un rfl rfl (fun i y v q1 q2 => by
          match i, q1, q2 with
          | 0, q1, q2 => cases q1; cases q2; exact ⟨10, rfl, rfl⟩
          | 1, q1, q2 => cases q1; cases q2; exact ⟨12, rfl, rfl⟩
          | i + 2, q1, _ => simp at q1) (fun H1 x => ⟨x.ext _ _ (add_at un g2.1) fnD_ne, x.ext _ _ (add_at un g2.2.1) LamX.codeO_ne, x.tup (add_at un g2.2.2)⟩) (lok_a2 G6L k6 b6 m6) (fun H1 x1 _ Z E2 hE => ⟨_, _, rfl, ?_⟩)
        exact go _ H1 x1 E2 hE Z
      · refine TGK.ref_of (ws := [some (.ref L)]) sc_a3 (fun y hy => sc_a3.free (y, .free) hy rfl) (sub_DC) Tc un rfl rfl (fun i y v q1 q2 => by
          match i, q1, q2 with
          | 0, q1, q2 => cases q1; cases q2; exact ⟨10, rfl, rfl⟩
          | i + 1, q1, _ => simp at q1) (fun H1 x => ⟨x.ext _ _ (add_at un g3.1) fnD_ne, x.ext _ _ (add_at un g3.2.1) LamX.codeO_ne, x.tup (add_at un g3.2.2)⟩) (lok_a3 G6R k6 b6 m6) (fun H1 x1 _ Z E2 hE => ⟨_, rfl, fun e1 n1 => ?_⟩)
        have xn := Ex.laid (o := .lst []) x1.tab n1
        have x2 := x1.trans xn
        have l1 := tabS_ex x2 ne o.l2
        have ob1 := ob.ex (x2.lift (c := cd) ne o.l2)
        refine ⟨e1, L, [], xs, nb, rfl, x2.tab, SqL.of upd_same, ln_nil, SqL.of ob1.hL.1, ob1.bad, fun v hv => ?_, fun d H2 x3 nd hd => by rw [eL]; exact hE _ _ _ (err_line hd) (xn.trans x3)⟩
        rcases ob1.firm v hv with q | q
        · exact .inl q
        · exact .inr fun H' x => q H' (x.lift ne l1)
    have o := o.ex ne (TGK.ex_del un x)
    exact ⟨_, _, _, _, _, _, _, _, _, _, _, rfl, o⟩
end
end TG

namespace TG
open PySem PySem.Spec PyProof.Rows L2
/-! ### the head -/
def dd (i : Nat) (x : Str) : He.DefD := ⟨(x, none), x, x, defArgs (top i), defBody (top i), defScope (top i), [], []⟩
def fnL : List He.DefD := [dd 19 "is_sign", dd 20 "is_text_of_signs", dd 21 "check_lines", dd 24 "strokes", dd 25 "line_at", dd 26 "unlike_runs", dd 28 "_law_begun", dd 29 "_law_take", dd 30 "_law_alike", dd 31 "_law_told", dd 32 "_law_all", dd 33 "_law_sign", dd 34 "_law_line", dd 35 "_law_line_near", dd 36 "_law_lines_two", dd 37 "_law_odd_lines", dd 38 "_law_strokes", dd 39 "law"]
def faL : List He.Fa := [.glo "is_sign", .glo "is_text_of_signs", .glo "check_lines", .glo "strokes", .glo "line_at", .glo "unlike_runs", .glo "_law_begun", .glo "_law_take", .glo "_law_alike", .glo "_law_told", .glo "_law_all", .glo "_law_sign", .glo "_law_line", .glo "_law_line_near", .glo "_law_lines_two", .glo "_law_odd_lines", .glo "_law_strokes", .glo "law", .int "BLANK" 32, .int "TILDE" 126, .int "PERCENT" 37, .int "MOST_LINES" 30, .int "FARTHEST" 200, .free "isinstance", .free "len", .free "range", .free "max", .free "min", .free "all", .free "str", .free "int", .free "bool", .free "list", .free "tuple", .free "enumerate", .free "ord", .free "zip", .int "MOST_ALIKE" 2, .glo "GrowError", .glo "BadPage", .glo "BadStyle", .glo "BadRow", .glo "BadCell", .glo "BadCount", .glo "BadLines", .glo "BadStep", .glo "BadStroke", .glo "BadText", .glo "BadHand", .glo "TooMuch", .free "ValueError", .free "super"]
def tfB : List He.Defn := [("is_text_of_signs", none)]
def lmL : List He.Defn := [("law", none)]
def tfL : List He.Defn := tfB ++ lmL
def exL : PySem.W.Frag → Bool := fun K => (lmL.all fun r => (tfB.all fun q => decide ((He.cT K q).2 ≠ (He.cT K r).2)) && (lmL.all fun q => decide (q = r) || decide ((He.cT K q).2 ≠ (He.cT K r).2)))
theorem subL {K : PySem.W.Frag} {q : Addr × Addr} (h : q ∈ tfB.map (He.cT K)) : q ∈ tfL.map (He.cT K) := by
  unfold tfL
  rw [List.map_append]
  exact List.mem_append_left _ h
theorem memL {K : PySem.W.Frag} {r : He.Defn} (h : r ∈ lmL) : He.cT K r ∈ tfL.map (He.cT K) := by
  unfold tfL
  rw [List.map_append]
  exact List.mem_append_right _ (List.mem_map_of_mem h)
theorem ne_of_ex {K : PySem.W.Frag} (h : exL K = true) {r : He.Defn} (hr : r ∈ lmL) : Apart (tfB.map (He.cT K)) (He.cT K r).2 := fun q hq => by
  obtain ⟨d, hd, rfl⟩ := List.mem_map.mp hq
  have z := (Bool.and_eq_true_iff.mp (List.all_eq_true.mp h r hr)).1
  have z := List.all_eq_true.mp z d hd
  simpa using z
theorem ne_of_ex2 {K : PySem.W.Frag} (h : exL K = true) {r q : He.Defn} (hr : r ∈ lmL) (hq : q ∈ lmL) (n : q ≠ r) : (He.cT K q).2 ≠ (He.cT K r).2 := by
  have z := (Bool.and_eq_true_iff.mp (List.all_eq_true.mp h r hr)).2
  have z := List.all_eq_true.mp z q hq
  simpa [n] using z
theorem fun_of {K : PySem.W.Frag} {x : Str} {st : Stmt} {f : Addr} {fd : FuncData} (F : FunD K x x (defArgs st) (defBody st) (defScope st) [] [] f fd) : Fun K x x st f fd := by
  obtain ⟨⟨oc, od, dV, kV, doc, pm, an, cdv, ct, osl, e, lk, hcd, hd, _⟩, kp⟩ := F
  rcases hd with ⟨_, hd⟩ | ⟨hd, _⟩
  · subst hd
    exact ⟨⟨oc, od, kV, doc, pm, an, cdv, ct, osl, e, lk, hcd⟩, kp⟩
  · exact absurd rfl hd
/-- a def of the top, by its name -/
structure At (K : PySem.W.Frag) (mg : Str → Option Value) (x : Str) (st : Stmt) (fd : FuncData) : Prop where
  mg_ : mg x = some (.ref (He.ga K x))
  fn : Fun K x x st (He.ga K x) fd
theorem At.kp {K : PySem.W.Frag} {mg : Str → Option Value} {x : Str} {st : Stmt} {fd : FuncData} (a : At K mg x st fd) : PySem.W.keepIn K (.ref (He.ga K x)) = true := a.fn.kp
theorem at_of {fa : List He.Fa} {fn : List He.DefD} {K : PySem.W.Frag} {h : Heap} {mg : Str → Option Value} (X : K.In h) (G : h.Ns mainGlobals mg) (c : He.SaysD fa fn K) {i : Nat} {x : Str} (hd : dd i x ∈ fn) (hf : He.Fa.glo x ∈ fa) : ∃ fd, At K mg x (top i) fd := by
  obtain ⟨fd, F⟩ := c.defs hd
  exact ⟨fd, He.glo_ok X G (c.facts hf), fun_of F⟩
theorem code_of {K : PySem.W.Frag} {mg : Str → Option Value} {x : Str} {st : Stmt} {fd : FuncData} (a : At K mg x st fd) : fd.code = .ref (He.cT K (x, none)).1 := by
  obtain ⟨oc, od, kV, doc, pm, an, cdv, ct, osl, e, lk, hcd⟩ := a.fn.ex
  obtain ⟨c, hc⟩ := He.codeIn_ref hcd
  have e2 : fd.code = .ref c := by rw [e, ← hc]
  have e3 : He.codeOf K (x, none) = c := He.codeOf_eq (p := (x, none)) lk e2
  show fd.code = .ref (He.codeOf K (x, none))
  rw [e3, e2]
theorem tab_conv {base : Heap} {mg : Str → Option Value} {c P : Addr} (t : LamX.TabB base mg c P) : GxR.TabB base mg c P := ⟨t.code, t.bm, t.gP⟩

theorem txt_of {K : PySem.W.Frag} {h : Heap} {mg : Str → Option Value} (X : K.In h) (G : h.Ns mainGlobals mg) (c : He.SaysD faL fnL K) : Txt mg := by
  constructor
  all_goals exact He.free_ok X G (c.facts (by simp [faL]))
theorem consts_of {K : PySem.W.Frag} {h : Heap} {mg : Str → Option Value} (X : K.In h) (G : h.Ns mainGlobals mg) (c : He.SaysD faL fnL K) : Consts mg := by
  constructor
  all_goals exact He.int_ok X G (c.facts (by simp [faL]))
theorem consts2_of {K : PySem.W.Frag} {h : Heap} {mg : Str → Option Value} (X : K.In h) (G : h.Ns mainGlobals mg) (c : He.SaysD faL fnL K) : Consts2 mg := by
  constructor
  all_goals exact He.int_ok X G (c.facts (by simp [faL]))
def excCB (K : PySem.W.Frag) (D : Addr) : Bool :=
  He.eqO (PySem.W.findIn K (.ref D) "__getattribute__") (some (some (.builtin "BaseException.__getattribute__"))) && (He.eqO (PySem.W.findIn K (.ref D) "__getattr__") (some none) && (decide (PySem.W.subIn K (.ref D) (.type "BaseException") = some true) && (PySem.W.hasDictIn K D && (He.eqO (PySem.W.findIn K (.ref D) "__class__") (some (some (.builtin "object.__class__"))) &&
    (He.eqO (PySem.W.specialIn K (.builtin "object.__class__") "__get__") (some (some (.builtin "getset_descriptor.__get__"))) && (decide (PySem.W.takesIn K (.builtin "object.__class__") = some true) && decide (PySem.W.mroIn K D (.type "object") = some true)))))))
theorem excCB_ok {K : PySem.W.Frag} {D : Addr} (h : excCB K D = true) : ExcC K D := by
  obtain ⟨h1, h⟩ := He.ba h
  obtain ⟨h2, h⟩ := He.ba h
  obtain ⟨h3, h⟩ := He.ba h
  obtain ⟨h4, h⟩ := He.ba h
  obtain ⟨h5, h⟩ := He.ba h
  obtain ⟨h6, h⟩ := He.ba h
  obtain ⟨h7, h8⟩ := He.ba h
  exact ⟨He.eqO_ok h1, He.eqO_ok h2, of_decide_eq_true h3, h4, He.eqO_ok h5, He.eqO_ok h6, of_decide_eq_true h7, of_decide_eq_true h8⟩
def errsB (K : PySem.W.Frag) : Bool := (List.range 11).all fun j => excCB K (He.ga K (nmE j)) && (decide (PySem.W.exmOne K (.ref (He.ga K (nmE j))) (.ref (He.ga K "GrowError")) = some true) && (decide (PySem.W.kitOne K (.ref (He.ga K (nmE j))) (.type "ValueError") = some true) &&
  (((List.range 11).all fun i => decide (PySem.W.kitOne K (.ref (He.ga K (nmE j))) (.ref (He.ga K (nmE i))) = some (decide (j = i)))) && (decide (flE j = "") || He.eqO (PySem.W.findIn K (.ref (He.ga K (nmE j))) (flE j)) (some none)))))
theorem errs_of {K : PySem.W.Frag} {h : Heap} {mg : Str → Option Value} (X : K.In h) (G : h.Ns mainGlobals mg) (c : He.SaysD faL fnL K) (e : errsB K = true) : Errs K mg := by
  have at_ : ∀ j, j < 11 → _ := fun j hj => List.all_eq_true.mp e j (List.mem_range.mpr hj)
  refine ⟨fun j hj => ?_, He.glo_ok X G (c.facts (by simp [faL])), fun j hj => excCB_ok (He.ba (at_ j hj)).1, fun j hj => of_decide_eq_true (He.ba (He.ba (at_ j hj)).2).1, fun j hj => of_decide_eq_true (He.ba (He.ba (He.ba (at_ j hj)).2).2).1, fun i j hi hj => ?_, fun j hj hn => ?_, He.free_ok X G (c.facts (by simp [faL]))⟩
  · have : ∀ x ∈ excNm, mg x = some (.ref (He.ga K x)) := by
      intro x hx
      simp only [excNm, List.mem_cons, List.not_mem_nil, or_false] at hx
      rcases hx with rfl | rfl | rfl | rfl | rfl | rfl | rfl | rfl | rfl | rfl | rfl <;> exact He.glo_ok X G (c.facts (by simp [faL]))
    refine this _ ?_
    have h2 : j < excNm.length := hj
    simp only [nmE, List.getD, List.getElem?_eq_getElem h2, Option.getD_some]
    exact List.getElem_mem h2
  · have z := (He.ba (He.ba (He.ba (He.ba (at_ i hi)).2).2).2).1
    exact of_decide_eq_true (List.all_eq_true.mp z j (List.mem_range.mpr hj))
  · have z := (He.ba (He.ba (He.ba (He.ba (at_ j hj)).2).2).2).2
    rcases Bool.or_eq_true_iff.mp z with q | q
    · exact absurd (of_decide_eq_true q) hn
    · exact He.eqO_ok q
def exT (K : PySem.W.Frag) : Bool := exL K && (errB PySem.Challenge.rw_tabgrow_k20_strokes.prog.main.file "BadLines" "line" K && errsB K)
abbrev valsT : List IniW := [(some ("__init__", "BadLines.__init__", defArgs iniL, .stmts (defBody iniL), defScope iniL, mainGlobals, ["__class__"], builtinsNs) : IniW)]
theorem triples_nil : TriplesOk (#[] : Array Value).toList := trivial
theorem facts {w : World} {K : PySem.W.Frag} {h : Heap} {mg : Str → Option Value} {f : Addr} (X : K.In h) (G : h.Ns mainGlobals mg) (hfa : mg ("law" : Str) = some (.ref f)) (c : He.SaysX faL fnL [] tfL exT w h K) (hv : (["BadLines"] : List Str).map (iniW K) = valsT) :
    LamX.LawAtS PySem.Challenge.rw_tabgrow_k20_strokes w K CX0 11 63 "_law_script" mg f h := by
  have cd := c.t.d
  have T := txt_of X G cd
  have N := consts_of X G cd
  have N2 := consts2_of X G cd
  obtain ⟨me, mr⟩ := He.ba c.more
  obtain ⟨mr, ms⟩ := He.ba mr
  have Er := errs_of X G cd ms
  have ne := ne_of_ex me (r := ("law", none)) (by simp [lmL])
  have hz : mg "zip" = none := He.free_ok X G (cd.facts (by simp [faL]))
  have eA : ∃ t, mg "MOST_ALIKE" = some (.int 2 t) := He.int_ok X G (cd.facts (by simp [faL]))
  obtain ⟨d19, a19⟩ := at_of X G cd (i := 19) (x := "is_sign") (by simp [fnL]) (by simp [faL])
  have b19 := a19.fn.binds (ps := ["sign"]) fun _ _ _ _ _ _ us hl => match us, hl with | [_], _ => rfl
  obtain ⟨d20, a20⟩ := at_of X G cd (i := 20) (x := "is_text_of_signs") (by simp [fnL]) (by simp [faL])
  have b20 := a20.fn.binds (ps := ["value", "most"]) fun _ _ _ _ _ _ us hl => match us, hl with | [_, _], _ => rfl
  obtain ⟨d21, a21⟩ := at_of X G cd (i := 21) (x := "check_lines") (by simp [fnL]) (by simp [faL])
  have b21 := a21.fn.binds (ps := ["lines"]) fun _ _ _ _ _ _ us hl => match us, hl with | [_], _ => rfl
  obtain ⟨d24, a24⟩ := at_of X G cd (i := 24) (x := "strokes") (by simp [fnL]) (by simp [faL])
  have b24 := a24.fn.binds (ps := ["before", "later"]) fun _ _ _ _ _ _ us hl => match us, hl with | [_, _], _ => rfl
  obtain ⟨d25, a25⟩ := at_of X G cd (i := 25) (x := "line_at") (by simp [fnL]) (by simp [faL])
  have b25 := a25.fn.binds (ps := ["lines", "number"]) fun _ _ _ _ _ _ us hl => match us, hl with | [_, _], _ => rfl
  obtain ⟨d26, a26⟩ := at_of X G cd (i := 26) (x := "unlike_runs") (by simp [fnL]) (by simp [faL])
  have b26 := a26.fn.binds (ps := ["old", "new"]) fun _ _ _ _ _ _ us hl => match us, hl with | [_, _], _ => rfl
  obtain ⟨d28, a28⟩ := at_of X G cd (i := 28) (x := "_law_begun") (by simp [fnL]) (by simp [faL])
  have b28 := a28.fn.binds (ps := ["_law_script"]) fun _ _ _ _ _ _ us hl => match us, hl with | [_], _ => rfl
  obtain ⟨d29, a29⟩ := at_of X G cd (i := 29) (x := "_law_take") (by simp [fnL]) (by simp [faL])
  have b29 := a29.fn.binds (ps := ["_law_box", "_law_many"]) fun _ _ _ _ _ _ us hl => match us, hl with | [_, _], _ => rfl
  obtain ⟨d30, a30⟩ := at_of X G cd (i := 30) (x := "_law_alike") (by simp [fnL]) (by simp [faL])
  have b30 := a30.fn.binds (ps := ["_law_found", "_law_due"]) fun _ _ _ _ _ _ us hl => match us, hl with | [_, _], _ => rfl
  obtain ⟨d31, a31⟩ := at_of X G cd (i := 31) (x := "_law_told") (by simp [fnL]) (by simp [faL])
  have b31 := a31.fn.binds (ps := ["_law_work"]) fun _ _ _ _ _ _ us hl => match us, hl with | [_], _ => rfl
  obtain ⟨d32, a32⟩ := at_of X G cd (i := 32) (x := "_law_all") (by simp [fnL]) (by simp [faL])
  have b32 := a32.fn.binds (ps := ["_law_works", "_law_due"]) fun _ _ _ _ _ _ us hl => match us, hl with | [_, _], _ => rfl
  obtain ⟨d33, a33⟩ := at_of X G cd (i := 33) (x := "_law_sign") (by simp [fnL]) (by simp [faL])
  have b33 := a33.fn.binds (ps := ["_law_box"]) fun _ _ _ _ _ _ us hl => match us, hl with | [_], _ => rfl
  obtain ⟨d34, a34⟩ := at_of X G cd (i := 34) (x := "_law_line") (by simp [fnL]) (by simp [faL])
  have b34 := a34.fn.binds (ps := ["_law_box"]) fun _ _ _ _ _ _ us hl => match us, hl with | [_], _ => rfl
  obtain ⟨d35, a35⟩ := at_of X G cd (i := 35) (x := "_law_line_near") (by simp [fnL]) (by simp [faL])
  have b35 := a35.fn.binds (ps := ["_law_box", "_law_line_here"]) fun _ _ _ _ _ _ us hl => match us, hl with | [_, _], _ => rfl
  obtain ⟨d36, a36⟩ := at_of X G cd (i := 36) (x := "_law_lines_two") (by simp [fnL]) (by simp [faL])
  have b36 := a36.fn.binds (ps := ["_law_box"]) fun _ _ _ _ _ _ us hl => match us, hl with | [_], _ => rfl
  obtain ⟨d37, a37⟩ := at_of X G cd (i := 37) (x := "_law_odd_lines") (by simp [fnL]) (by simp [faL])
  have b37 := a37.fn.binds (ps := ["_law_box", "_law_lines"]) fun _ _ _ _ _ _ us hl => match us, hl with | [_, _], _ => rfl
  obtain ⟨d38, a38⟩ := at_of X G cd (i := 38) (x := "_law_strokes") (by simp [fnL]) (by simp [faL])
  have b38 := a38.fn.binds (ps := ["_law_before", "_law_later"]) fun _ _ _ _ _ _ us hl => match us, hl with | [_, _], _ => rfl
  obtain ⟨d39, a39⟩ := at_of X G cd (i := 39) (x := "law") (by simp [fnL]) (by simp [faL])
  have b39 := a39.fn.binds (ps := ["_law_script"]) fun _ _ _ _ _ _ us hl => match us, hl with | [_], _ => rfl
  have e := hfa.symm.trans a39.mg_
  cases e
  refine ⟨d39, tfL.map (He.cT K), spLaw K (tfB.map (He.cT K)) (He.cT K ("law", none)).2, fun p hp => ?_, fun p hp => ?_, fun p hp => ?_, fun s u => ?_, fun H a ns hl _ hT hS => ⟨a, ns, rfl, fun p hp => ⟨_, hT p (subL hp), triples_nil⟩, LamX.TabS.nil (hT _ (memL (r := ("law", none)) (by simp [lmL]))), hS, hl, fun _ => rfl⟩, fun base KB _ TB => ?_⟩
  · obtain ⟨p', hp', rfl⟩ := List.mem_map.mp hp
    exact c.empty p' hp'
  · obtain ⟨p', hp', rfl⟩ := List.mem_map.mp hp
    exact c.out p' hp'
  · obtain ⟨p', hp', rfl⟩ := List.mem_map.mp hp
    exact PySem.W.codeHd_of_K X (c.hd p' hp')
  · obtain ⟨oc, od, kV, doc, pm, an, cdv, ct, osl, e, _, _⟩ := a39.fn.ex
    rw [e]
    exact .of_eq rfl
  obtain ⟨fdI, R⟩ := raise_lines (P := PySem.Challenge.rw_tabgrow_k20_strokes.prog) (w := w) (base := base) X G mr (by simpa using hv) (He.free_ok X G (cd.facts (by simp [faL]))) (by decide +kernel)
  have m20 : He.cT K ("is_text_of_signs", none) ∈ tfB.map (He.cT K) := List.mem_map.mpr ⟨_, by simp [tfB], rfl⟩
  have t20 := tab_conv (TB _ (subL m20))
  have g28 := ok_begun (P := PySem.Challenge.rw_tabgrow_k20_strokes.prog) (w := w) (base := base) (mg := mg) T a28.fn 
  have g29_w := ok_takeW (P := PySem.Challenge.rw_tabgrow_k20_strokes.prog) (w := w) (base := base) (mg := mg)  a29.fn 
  have g29 := ok_take (P := PySem.Challenge.rw_tabgrow_k20_strokes.prog) (w := w) (base := base) (mg := mg)  a29.fn 
  have g33 := ok_sign (P := PySem.Challenge.rw_tabgrow_k20_strokes.prog) (w := w) (base := base) (mg := mg)  a33.fn g29 a29.kp b29 a29.mg_
  have g34 := ok_line (P := PySem.Challenge.rw_tabgrow_k20_strokes.prog) (w := w) (base := base) (mg := mg) T a34.fn g29 a29.kp b29 a29.mg_ g33 a33.kp b33 a33.mg_
  have g35 := ok_NR (P := PySem.Challenge.rw_tabgrow_k20_strokes.prog) (w := w) (base := base) (mg := mg) T a35.fn g29_w a29.kp b29 a29.mg_ g33 a33.kp b33 a33.mg_
  have g36 := ok_two (P := PySem.Challenge.rw_tabgrow_k20_strokes.prog) (w := w) (base := base) (mg := mg) T a36.fn g29_w a29.kp b29 a29.mg_ g34 a34.kp b34 a34.mg_ g35 a35.kp b35 a35.mg_
  have g38 := ok_LS (P := PySem.Challenge.rw_tabgrow_k20_strokes.prog) (w := w) (base := base) (mg := mg) T a38.fn 
  have g19 := ok_sg (P := PySem.Challenge.rw_tabgrow_k20_strokes.prog) (w := w) (base := base) (mg := mg) T N a19.fn 
  have g20 := ok_text (P := PySem.Challenge.rw_tabgrow_k20_strokes.prog) (w := w) (base := base) (mg := mg) T a20.fn (code_of a20) t20 m20 g19 a19.kp b19 a19.mg_
  have g21 := ok_clines (P := PySem.Challenge.rw_tabgrow_k20_strokes.prog) (w := w) (base := base) (mg := mg) (cs := tfB.map (He.cT K)) T N2 a21.fn g20 a20.kp b20 a20.mg_
  have g25 := ok_LA (P := PySem.Challenge.rw_tabgrow_k20_strokes.prog) (w := w) (base := base) (mg := mg) T a25.fn 
  have g26 := ok_UR (P := PySem.Challenge.rw_tabgrow_k20_strokes.prog) (w := w) (base := base) (mg := mg) T hz eA a26.fn 
  have g24 := ok_SK (P := PySem.Challenge.rw_tabgrow_k20_strokes.prog) (w := w) (base := base) (mg := mg) (cs := tfB.map (He.cT K)) T a24.fn g21 a21.kp b21 a21.mg_ g25 a25.kp b25 a25.mg_ g26 a26.kp b26 a26.mg_
  have g19_2 := ok_sg2 (P := PySem.Challenge.rw_tabgrow_k20_strokes.prog) (w := w) (base := base) (mg := mg) T N a19.fn 
  have g20_2 := ok_text2 (P := PySem.Challenge.rw_tabgrow_k20_strokes.prog) (w := w) (base := base) (mg := mg) (cs := tfB.map (He.cT K)) T a20.fn (code_of a20) t20 m20 g19_2 a19.kp b19 a19.mg_
  have g21_x := ok_clinesX (P := PySem.Challenge.rw_tabgrow_k20_strokes.prog) (w := w) (base := base) (mg := mg) (cs := tfB.map (He.cT K)) T N2 R a21.fn g20_2 a20.kp b20 a20.mg_
  have g24_L := ok_SKL (P := PySem.Challenge.rw_tabgrow_k20_strokes.prog) (w := w) (base := base) (mg := mg) (cs := tfB.map (He.cT K))  a24.fn g21_x a21.kp b21 a21.mg_
  have g24_R := ok_SKR (P := PySem.Challenge.rw_tabgrow_k20_strokes.prog) (w := w) (base := base) (mg := mg) (cs := tfB.map (He.cT K))  a24.fn g21 g21_x a21.kp b21 a21.mg_
  have g30 := ok_alike (P := PySem.Challenge.rw_tabgrow_k20_strokes.prog) (w := w) (base := base) (mg := mg) T a30.fn b30 a30.mg_ 4
  have g37 := ok_oddL (P := PySem.Challenge.rw_tabgrow_k20_strokes.prog) (w := w) (base := base) (mg := mg) (cs := ((He.cT K ("law", none)).1, (He.cT K ("law", none)).2) :: tfB.map (He.cT K)) T a37.fn g29_w a29.kp b29 a29.mg_
  have g31 := ok_tellsW (P := PySem.Challenge.rw_tabgrow_k20_strokes.prog) (w := w) (base := base) (mg := mg) (cs := tfB.map (He.cT K)) (kl := 8) T Er a31.fn 
  have g32 := ok_allW (P := PySem.Challenge.rw_tabgrow_k20_strokes.prog) (w := w) (base := base) (mg := mg) (kl := 8) (by decide) a32.fn g30 a30.kp b30 a30.mg_ g31 a31.kp b31 a31.mg_
  exact ok_law T rfl ne a39.fn (code_of a39) (TB _ (memL (r := ("law", none)) (by simp [lmL]))) g28 a28.kp b28 a28.mg_ g36 a36.kp b36 a36.mg_ g38 a38.kp b38 a38.mg_ g24 g24_L g24_R a24.kp b24 a24.mg_ g30 a30.kp b30 a30.mg_ g37 a37.kp b37 a37.mg_ g32 a32.kp b32 a32.mg_
end TG


namespace TG
open PySem PySem.Spec PyProof.Rows L2
abbrev R : PySem.W.OpenRow := PySem.W.OpenLaw.row PySem.Challenge.rw_tabgrow_k20_strokes
abbrev hk : PySem.W.Hook := hookI 4 faL fnL [] tfL exT ["BadLines"] valsT
def ob (s : PySem.W.SharedT) : (He.AlT × Bool) × List IniW := obsI 4 faL fnL [] tfL exT ["BadLines"] (HandSHeadRun.getT s)
theorem ob_eq (s : PySem.W.SharedT) : ob s = hk.obs s.abs := obsI_eq 4 faL fnL [] tfL exT ["BadLines"] valsT (HandSHeadRun.getT_eq s)
def loose0 : List Str := [PySem.Str.ofString "GrowError", PySem.Str.ofString "BadPage", PySem.Str.ofString "BadStyle", PySem.Str.ofString "BadRow", PySem.Str.ofString "BadCell", PySem.Str.ofString "BadCount", PySem.Str.ofString "BadHand", PySem.Str.ofString "TooMuch", PySem.Str.ofString "BadLines", PySem.Str.ofString "BadStep", PySem.Str.ofString "BadStroke", PySem.Str.ofString "BadText", PySem.Str.ofString "MOST_LINES", PySem.Str.ofString "FARTHEST", PySem.Str.ofString "BLANK", PySem.Str.ofString "TILDE", PySem.Str.ofString "PERCENT", PySem.Str.ofString "is_sign", PySem.Str.ofString "is_text_of_signs", PySem.Str.ofString "check_lines"]
def loose1 : List Str := [PySem.Str.ofString "MOST_ALIKE", PySem.Str.ofString "strokes", PySem.Str.ofString "line_at", PySem.Str.ofString "unlike_runs", PySem.Str.ofString "_law_begun", PySem.Str.ofString "_law_take", PySem.Str.ofString "_law_alike", PySem.Str.ofString "_law_told", PySem.Str.ofString "_law_all", PySem.Str.ofString "_law_sign", PySem.Str.ofString "_law_line", PySem.Str.ofString "_law_line_near", PySem.Str.ofString "_law_lines_two", PySem.Str.ofString "_law_odd_lines", PySem.Str.ofString "_law_strokes"]
def looseL : List Str := loose0 ++ loose1
theorem run (w : World) : HandSHeadRun.RunEq R (PySem.W.view R.prog [39]) hk ob 4000 looseL w := by
  intro os
  kernel_rfl
end TG


open PySem PySem.W PySem.Calls PyProof.Rows
theorem PySem.Challenge.cw_tabgrow_k20_strokes_holds : PySem.Challenge.rw_tabgrow_k20_strokes.Holds := by
  w_on; o_law
  refine HandSHeadRun.head_any (r := OpenLaw.row PySem.Challenge.rw_tabgrow_k20_strokes) (q := view (OpenLaw.row PySem.Challenge.rw_tabgrow_k20_strokes).prog [39]) (H := TG.hk) (ob := TG.ob) (M := 4000) (loose := TG.looseL) (d := HandSHeadRun.topDef (OpenLaw.row PySem.Challenge.rw_tabgrow_k20_strokes).prog 39) (kwd := []) TG.ob_eq
    (by kernel_rfl) (fun s => by kernel_rfl) TG.run (by kernel_rfl) (by kernel_rfl) (by kernel_rfl) (by rfl) (by first | assumption | decide +kernel) (by decide +kernel) ⟨rfl, rfl, rfl, rfl, rfl, by decide +kernel⟩ ?hw ?hc
  case hw => w_witness2
  case hc =>
    refine LamX.walk_ofTsE (l := PySem.Challenge.rw_tabgrow_k20_strokes) (n := 63) (k := 11) (x := "_law_script") (CX := fun _ => L2.CX0) rfl (by decide) (by kernel_rfl) ⟨rfl, by decide, by decide⟩ ?F (fun _ _ _ _ _ z => z)
    intro w mg fa h Y G hmg0
    obtain ⟨K, KX, c, hv⟩ := Y
    have hmg : mg ("law" : PySem.Str) = some (.ref fa) := by
      have e : (HandSHeadRun.topDef (OpenLaw.row PySem.Challenge.rw_tabgrow_k20_strokes).prog 39).name = ("law" : PySem.Str) := by kernel_rfl
      rw [← e]
      exact hmg0
    exact ⟨K, KX, TG.facts KX G hmg c hv⟩

