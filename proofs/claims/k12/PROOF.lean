import PyProof.Rows.All
import Wide.All
import OpenK.AllK
import Wide.FinOn
import HandS.ForMost
import HandS.Exc
import HandS.GenList
import HandS.AnyAll
import HandS.IsInst
import HandS.StrMore
import HandS.Flow
import HandS.TupAny
import HandS.EndTab
import HandS.Walk
import HandS.Lambda
import HandS.Codes
import KE.KIntText
import KE.KxText
import KE.KStateDown
import HandS.Head0
import HandS.Head1
import HandS.Head2
import HandS.HeadEnd
import HandS.HeadHook1
import HandS.HeadHook2
import HandS.HeadHook3
import HandS.HeadHook4
import HandS.HeadWalk
import PyProof.WalkInts
import PyProof.ZipIter
import HandS.Zip
import HandS.Nested
import HandS.GenOver
import KE.KLam
import PySem.Challenge.RW_tabgrow_k12_sheets_refused
import KE.GoesEnum
import HandS.Iter
import HandS.Wide
import HandS.TupMul
import KE.GoesComp
import HandS.TryMany
import HandS.Dict
import HandS.Small
import HandS.Conv
import HandS.More
import HandS.Deep
import HandS.Style
import HandS.WordsExc
import HandS.ExcInit
import HandS.ExcOwn
import HandS.FStr
import HandS.ExcIs
import HandS.ExcField
import KE.KExcIs
import KE.KExcSuper
import KE.KSuper
import KE.KSuperObj
import HandS.TryOnly
import KE.KDictZip
import KE.KTurns
set_option Elab.async false
set_option linter.all false
set_option maxRecDepth 1000000
set_option maxHeartbeats 20000000
namespace Gx
open PySem PySem.Spec PyProof.Rows L2 GenW
abbrev gE (X : Cx) (sc : Scope) (C : Addr) (code : Value) : Env :=
  genEnv sc (cloFrom X.env.cells sc.names []) C code builtinsNs X.env
/-- the context of the element -/
def gCx (X : Cx) (A : Around) (sc : Scope) (x : Str) (code : Value) (s4 : Shared) (H4 : Hp) (fp : List Addr) : Cx where
  prog := X.prog
  w := X.w
  K := X.K
  mg := X.mg
  base := X.base
  A := A.deeper (gE X sc s4.heap.objs.size code)
  N := [x]
  s_0 := s4
  H_0 := H4
  env := gE X sc s4.heap.objs.size code
  outer := X.stack
  stack := gE X sc s4.heap.objs.size code :: X.stack
  ex := fp
  fn := fun _ => false
  calm := true
  pn := []
  xe := fun _ _ => False
/-- the scope of a generator expression that captures nothing -/
structure GSc (sc : Scope) (x : Str) : Prop where
  kind : sc.kind = .function
  co : sc.isCoroutine = false
  cell : ∀ y ∈ sc.names, y.2 ≠ .cell
  free : ∀ y ∈ sc.names, y.2 ≠ .free
  dot : sc.names.lookup (".0" : Str) = some NameKind.local
  loc : sc.names.lookup x = some .local
section
variable {X : Cx} {pins : List (Addr × Obj)} {σ : L2.St} {H : Hp} {s : Shared} {A : Around} {sc : Scope} {x : Str} {code : Value} {fp : List Addr}
theorem no_cells (S : GSc sc x) (cells : List (Str × Addr)) {y : Str} {c : Addr} (h : (cloFrom cells sc.names []).lookup y = some c) : False := by
  rcases cloFrom_mem (PySem.mem_of_lookup h) with z | ⟨z, _⟩
  · cases z
  · exact S.free _ z rfl
theorem gx_inv (I : Inv X pins σ H s) (S : GSc sc x) (hd : A.handled = none) (hfr : A.frames = some X.stack) (hf : ∀ b ∈ fp, FpOk X pins H b)
    (hlt : ∀ b ∈ fp, b < s.heap.objs.size) {s5 : Shared} {m : Str → Option Value} (os : s5.os = s.os) (bare : AllBare s5.gens)
    (keep : ∀ b o, s.heap.get? b = some o → s5.heap.get? b = some o) (hns : s5.heap.Ns s.heap.objs.size m) :
    Inv (gCx X A sc x code s H fp) [] [none] H s5 := by
  have nc : ∀ {y : Str} {c : Addr}, (gCx X A sc x code s H fp).env.cells.lookup y = some c → False := fun {y c} h => no_cells S _ h
  refine ⟨⟨I.ok.mod, S.kind, I.ok.glob, rfl, Nat.le_refl _, fun y z c e _ => (nc e).elim, fun y hy => ?_, fun y c _ e => (nc e).elim, fun _ => hd,
      Around.frames_deeper hfr, .inr ⟨rfl, rfl⟩, fun b hb => ⟨Nat.ne_of_lt (hlt b hb), fun y c e => (nc e).elim⟩, I.bs, Nat.le_trans I.ok.bsz I.sz,
      fun b o e hb => ?_, fun b hb z => ?_, I.stack, I.stkFree⟩,
    os, bare, Un.kept keep, ⟨m, hns, fun i y v _ e2 _ => ?_⟩, fun y c e => (nc e).elim, I.hok.fresh (Nat.le_refl _), fun y c e => (nc e).elim,
    fun p hp => ?_, I.hok.kept keep, rfl⟩
  · rcases hy with z | z
    · exact absurd rfl (S.cell _ (PySem.mem_of_lookup (show sc.names.lookup y = some .cell from z)))
    · exact absurd rfl (S.free _ (PySem.mem_of_lookup (show sc.names.lookup y = some .free from z)))
  · rcases (hf b hb).2.2.2.1 with z | z
    · exact I.ok.noex b o e z
    · exact absurd (Nat.lt_of_lt_of_le (Heap.lt_size e) (Nat.le_trans I.ok.bsz z)) (Nat.lt_irrefl _)
  · rcases List.mem_cons.mp (I.stkSub b z) with q | q
    · exact (hf b hb).2.1 q
    · exact (hf b hb).2.2.1 q
  · match i, e2 with
    | 0, e2 => cases e2
    | i + 1, e2 => simp at e2
  · exact absurd (show p ∈ ([] : List (Addr × Obj)) from hp) (by simp)
/-- only the generators' states differ -/
theorem regens {s' : Shared} (I : Inv X pins σ H s) (os : s'.os = s.os) (hh : ∀ b o, s.heap.get? b = some o → s'.heap.get? b = some o) (hb : AllBare s'.gens) : Inv X pins σ H s' :=
  I.call' (ch := []) os (Un.kept hh) (I.hok.kept hh) hb fun b z => by simp at z
/-- the consumer's own list, if it has one -/
def Held (So : Option Addr) (Rel : Array Value → Prop) (ps : List (Addr × Obj)) : Prop :=
  match So with
  | none => ps = []
  | some S => ∃ acc c, ps = [(S, lstObj acc c)] ∧ Rel acc
structure Woke (So : Option Addr) (Rel : Array Value → Prop) (s s' : Shared) : Prop where
  os : s'.os = s.os
  bare : AllBare s'.gens
  keep : ∀ b o, So ≠ some b → s.heap.get? b = some o → s'.heap.get? b = some o
  own : ∀ S, So = some S → ∃ acc' c', s'.heap.get? S = some (lstObj acc' c') ∧ Rel acc'
theorem woken {Z : Cx} {q ps : List (Addr × Obj)} {So : Option Addr} {Rel Rel' : Array Value → Prop} {s' : Shared} (I : Inv Z (q ++ ps) σ H s) (hps : Held So Rel ps) (hq : ∀ p ∈ Z.pn ++ q, So ≠ some p.1)
    (hS : ∀ S, So = some S → Z.s_0.heap.objs.size ≤ S ∧ S ≠ Z.env.locals ∧ ∀ y c, Z.env.cells.lookup y = some c → c ≠ S) (k : Woke So Rel' s s') :
    ∃ ps', Held So Rel' ps' ∧ Inv Z (q ++ ps') σ H s' ∧ ∀ p ∈ ps', s'.heap.get? p.1 = some p.2 := by
  cases So with
  | none =>
    have e : ps = [] := hps
    subst e
    exact ⟨[], rfl, regens I k.os (fun b o e => k.keep b o (by simp) e) k.bare, fun p hp => by simp at hp⟩
  | some S =>
    obtain ⟨acc, c, e, _⟩ := hps
    subst e
    obtain ⟨h1, h2, h3, h4, _⟩ := I.pin (S, lstObj acc c) (List.mem_append_right _ (List.mem_append_right _ (List.mem_singleton.mpr rfl)))
    obtain ⟨acc', c', e', hR⟩ := k.own S rfl
    obtain ⟨g1, g2, g3⟩ := hS S rfl
    have I0 : Inv Z q σ H s := I.pins_of fun p hp => I.pin p (List.mem_append_right _ (List.mem_append_left _ hp))
    have nS : ∀ b u, H b = some u → b ≠ S := fun b u e z => by rw [z, h2] at e; cases e
    have kp : ∀ b o, b ≠ S → s.heap.get? b = some o → s'.heap.get? b = some o := fun b o hb e => k.keep b o (fun z => hb (Option.some.inj z).symm) e
    have ni : ∀ b : Addr, b ∉ [S] → b ≠ S := fun b hb e => hb (by rw [e]; exact List.mem_singleton.mpr rfl)
    have J : Inv Z q σ H s' := by
      refine I0.call' (ch := [S]) k.os ⟨fun b o e _ _ hx => kp b o (ni b hx) e, fun b o e _ _ hx => ⟨o.slots, kp b o (ni b hx) e⟩, fun _ _ _ n _ => n, fun b o e hx => ⟨o, kp b o (ni b hx) e⟩,
        fun _ _ e => e, fun _ _ _ e => e, fun _ _ e => ⟨#[], by rw [e]; simp⟩⟩ (fun b u e => ?_) k.bare fun b hb => ?_
      · refine (I0.hok b u e).stay (fun d v hd z => kp d v ?_ z) (fun _ z => z) fun _ _ z => z
        rcases hd with z | z
        · rw [z]; exact nS b u e
        · exact nS d _ z
      · have eb : b = S := List.mem_singleton.mp hb
        subst eb
        exact ⟨.inr g1, g2, g3, fun p hp z => hq p hp (by rw [z])⟩
    refine ⟨[(S, lstObj acc' c')], ⟨acc', c', rfl, hR⟩, J.pins_of fun p hp => ?_, fun p hp => by rw [List.mem_singleton.mp hp]; exact e'⟩
    rcases List.mem_append.mp hp with z | z
    · exact J.pin p (List.mem_append_right _ z)
    · rw [List.mem_singleton.mp z]
      exact ⟨e', h2, h3, h4, fun v z => by cases z⟩
abbrev WT := Nat → List V → Hp → Prop
/-- an item is handed out -/
def GYx (Z : Cx) (q : List (Addr × Obj)) (So : Option Addr) (Rel : List V → Array Value → Prop) (W : WT) (Ny : Nat → List V → V → Hp → Prop) : Protocol := fun n s₀ v s1 kap =>
  ∃ m ys y σ H ps, m < n + 1 ∧ RelV y v ∧ Held So (Rel ys) ps ∧ (∀ p ∈ ps, s₀.heap.get? p.1 = some p.2) ∧ Inv Z (q ++ ps) σ H s1 ∧ Ny m ys y H ∧ ∀ s', Woke So (Rel (ys ++ [y])) s1 s' → ∀ m', m' < m → W m' (ys ++ [y]) H → kap (.send .none) s'
def GFx (Z : Cx) (q : List (Addr × Obj)) (So : Option Addr) (Rel : List V → Array Value → Prop) (Ns : List V → Hp → Prop) (s₀ s1 : Shared) : Prop :=
  ∃ ys σ H ps, Held So (Rel ys) ps ∧ (∀ p ∈ ps, s₀.heap.get? p.1 = some p.2) ∧ Inv Z (q ++ ps) σ H s1 ∧ Ns ys H
abbrev GRx (Z : Cx) (q : List (Addr × Obj)) (So : Option Addr) (Rel : List V → Array Value → Prop) (Ns : List V → Hp → Prop) : GenEnd := fun n s₀ r s₁ =>
  ((r = .ok (.ret .none) ∨ r = .ok .next) ∧ (fun (_ : Nat) (t : Shared) s => GFx Z q So Rel Ns t s) n s₀ s₁) ∨ ∃ e, r = .error e ∧ (fun (_ : Value) (_ : Shared) => False) e s₁
theorem seg_turns {elt iter : Expr} {px : Pos} {pos : Pos} {it : Addr} {J : It} {tn : Nat → Heap → Prop} {te : TE} {W : WT} {Ny : Nat → List V → V → Hp → Prop} {Ns : List V → Hp → Prop} {s4 : Shared} {H4 : Hp}
    {q : List (Addr × Obj)} {So : Option Addr} {Rel : List V → Array Value → Prop}
    (S : GSc sc x) (T : Turn X.prog X.w X.K (.Name x px) J fp it tn)
    (stat : ∀ b ∈ fp, b ≠ s4.heap.objs.size ∧ b ∉ frs X.stack ∧ (∀ p ∈ q, p.1 ≠ b) ∧ So ≠ some b)
    (hq : ∀ p ∈ q, So ≠ some p.1) (hS : ∀ S', So = some S' → s4.heap.objs.size < S')
    (he : PE (gCx X A sc x code s4 H4 fp) elt te)
    (step : ∀ m ys H, W m ys H → (J.stop ys.length H ∧ Ns ys H) ∨ (J.go ys.length H ∧ ∀ v H', J.yld ys.length H v H' → te [some v] H' (Ny m ys))) :
    ∀ (n m : Nat) (ys : List V) (s₀ s : Shared) (σ : L2.St) (H : Hp) (ps : List (Addr × Obj)), m < n → Held So (Rel ys) ps → (∀ p ∈ ps, s₀.heap.get? p.1 = some p.2) → W m ys H → Inv (gCx X A sc x code s4 H4 fp) (q ++ ps) σ H s → tn ys.length s.heap → (∀ b ∈ fp, H b = none) →
      Seg (model X.prog X.w) A (GRx (gCx X A sc x code s4 H4 fp) q So Rel Ns) (GYx (gCx X A sc x code s4 H4 fp) q So Rel W Ny) n s₀
        (.compLoop (.GeneratorExp elt [⟨.Name x px, iter, [], 0⟩] sc pos) 0 (.ref it) .none (gE X sc s4.heap.objs.size code))
        ((model X.prog X.w).den (.compLoop (.GeneratorExp elt [⟨.Name x px, iter, [], 0⟩] sc pos) 0 (.ref it) .none (gE X sc s4.heap.objs.size code))) [] s := by
  have nc : ∀ {y : Str} {c : Addr}, (gCx X A sc x code s4 H4 fp).env.cells.lookup y = some c → False := fun {y c} h => no_cells S _ h
  intro n
  induction n with
  | zero => intro m _ _ _ _ _ _ hm; exact absurd hm (Nat.not_lt_zero _)
  | succ n ih =>
    intro m ys s₀ s σ H ps hm hps hs0 hW I htn hfn
    have fok : ∀ {H' : Hp}, (∀ b ∈ fp, H' b = none) → ∀ b ∈ fp, FpOk (gCx X A sc x code s4 H4 fp) (q ++ ps) H' b := fun {H'} hn b hb => by
      obtain ⟨a1, a2, a3, a4⟩ := stat b hb
      refine ⟨hn b hb, a1, a2, .inl hb, fun y c e => (nc e).elim, fun p hp => ?_⟩
      rcases List.mem_append.mp (show p ∈ q ++ ps from hp) with z | z
      · exact a3 p z
      · cases So with
        | none =>
          have e : ps = [] := hps
          rw [e] at z
          simp at z
        | some S' =>
          obtain ⟨acc, c, e, _⟩ := hps
          rw [e] at z
          rw [List.mem_singleton.mp z]
          exact fun w => a4 (by rw [← w])
    show Seg _ A _ _ _ s₀ _ ((compTurn (.GeneratorExp elt [⟨.Name x px, iter, [], 0⟩] sc pos) 0 (.ref it) .none (gE X sc s4.heap.objs.size code)).onRaise (leaving (gE X sc s4.heap.objs.size code))) [] s
    rw [compTurn_gen, Sem.onRaise_eq_wrap]
    refine seg_bind_wrap (wpAny_standAt ?_)
    rcases step m ys H hW with ⟨stop, qn⟩ | ⟨go, st⟩
    · refine seg_bind_wrap (thn (T.done (gCx X A sc x code s4 H4 fp) rfl rfl rfl rfl ys.length (q ++ ps) s σ H _ I (fok hfn) htn stop) fun r s5 ⟨hr, I5⟩ => ?_)
      subst hr
      exact seg_end (.ok .next) (.inl ⟨.inr rfl, ys, σ, H, ps, hps, hs0, I5, qn⟩)
    · refine seg_bind_wrap (thn (T.item (gCx X A sc x code s4 H4 fp) rfl rfl rfl rfl ys.length (q ++ ps) s σ H _ I (fok hfn) htn go) fun r s5 ⟨u, hr, h5⟩ => ?_)
      subst hr
      refine seg_bind_wrap (thn h5 fun _ s6 ⟨v, H6, I6, r6, y6, tn6, fn6⟩ => ?_)
      have I6' := I6.pinned (fok fn6) (T.obj _ _ tn6)
      have pg : PG (gCx X A sc x code s4 H4 fp) (.Name x px) (gName 0) := pg_name (i := 0) (List.nodup_cons.mpr ⟨by simp, List.nodup_nil⟩) rfl (.inl S.loc) (.inr S.loc)
      have eσ : σ.set 0 (some v) = [some v] := by
        have hl : σ.length = 1 := I.len
        match σ, hl with
        | [_], _ => rfl
      refine seg_bind_wrap (wpAny_mono (pg.run _ s6 σ H6 v u (fun σ' H' => σ' = [some v] ∧ H' = H6) I6' r6 ⟨eσ, rfl⟩) (fun _ s7 h7 => ?_) fun _ _ z => z.elim)
      obtain ⟨σ7, H7, I7, eσ7, eH7⟩ := h7
      subst eσ7 eH7
      simp only [List.forIn_nil]
      refine seg_bind_wrap (wpAny_pure ?_)
      simp only [if_true]
      have hy : ∀ v, yieldOut (gE X sc s4.heap.objs.size code) v = yieldValue v := fun v => by
        simp only [yieldOut, show (gE X sc s4.heap.objs.size code).scope.isCoroutine = false from S.co, Bool.false_eq_true, if_false]
      simp only [hy]
      rw [Sem.bind_eq_wrap', Sem.bind_eq_wrap', Sem.wrap_wrap, Sem.wrap_wrap]
      refine seg_wrap (wpAny_mono (he.run _ s7 [some v] H7 _ I7 (st v H7 y6)) (fun w s8 h8 => ?_) fun _ _ z => z.elim)
      obtain ⟨y, H8, I8, r8, ny⟩ := h8
      have fn8 : ∀ b ∈ fp, H8 b = none := fun b hb => by
        obtain ⟨o, e, d⟩ := T.obj _ _ tn6 b hb
        exact (I8.pin (b, o) (List.mem_append_right _ (List.mem_append_right _ (mem_pinsAt hb e)))).2.1
      have tn8 : tn (ys.length + 1) s8.heap := T.keep _ _ _ tn6 fun b hb o e => (I8.pin (b, o) (List.mem_append_right _ (List.mem_append_right _ (mem_pinsAt hb e)))).1
      refine seg_at (seg_yield rfl rfl rfl ⟨m, ys, y, [some v], H8, ps, hm, r8, hps, hs0, I8.unpinned, ny, fun s9 wk m' hm' w' => ?_⟩)
      obtain ⟨ps', hps', I9, e9⟩ := woken I8.unpinned hps (fun p hp => hq p hp) (fun S' e => ⟨Nat.le_of_lt (hS S' e), Nat.ne_of_gt (hS S' e), fun y c e => (nc e).elim⟩) wk
      refine seg_again rfl (ih m' (ys ++ [y]) s9 s9 [some v] H8 ps' (by omega) hps' e9 w' I9 ?_ fn8)
      rw [List.length_append, List.length_singleton]
      exact T.keep _ _ _ tn8 fun b hb o e => wk.keep b o (stat b hb).2.2.2 e
end
end Gx
namespace Gx
open PySem PySem.Spec PyProof.Rows L2 GenW
section
variable {X : Cx} {pins : List (Addr × Obj)} {σ : L2.St} {H : Hp} {s : Shared} {sc : Scope} {x : Str}
theorem seg_begin {A : Around} {elt iter : Expr} {px pos : Pos} {it : Addr} {J : It} {fp : List Addr} {tn : Nat → Heap → Prop} {cenv : Env} {R : GenEnd} {Y : Protocol} {n : Nat} {s₀ : Shared}
    (T : Turn X.prog X.w X.K (.Name x px) J fp it tn) (ht : tn 0 s.heap)
    (loop : Seg (model X.prog X.w) A R Y n s₀ (.compLoop (.GeneratorExp elt [⟨.Name x px, iter, [], 0⟩] sc pos) 0 (.ref it) .none cenv) ((model X.prog X.w).den (.compLoop (.GeneratorExp elt [⟨.Name x px, iter, [], 0⟩] sc pos) 0 (.ref it) .none cenv)) [] s) :
    Seg (model X.prog X.w) A R Y n s₀ (.compStart (.GeneratorExp elt [⟨.Name x px, iter, [], 0⟩] sc pos) 0 (.ref it) .none cenv) ((model X.prog X.w).den (.compStart (.GeneratorExp elt [⟨.Name x px, iter, [], 0⟩] sc pos) 0 (.ref it) .none cenv)) [] s := by
  show Seg _ A R Y n s₀ _ ((compStart (.GeneratorExp elt [⟨.Name x px, iter, [], 0⟩] sc pos) 0 (.ref it) .none cenv).onRaise (leaving cenv)) [] s
  unfold compStart
  rw [Sem.onRaise_eq_wrap]
  show Seg _ A R Y n s₀ _ ((ask >>= _).wrap _ _ _ _) [] s
  refine seg_bind_wrap (wpAny_askSetting ?_)
  split
  · exact seg_again rfl loop
  · first
      | exact seg_bind_wrap (wpAny_rule (seg_bind_wrap (wpAny_standAt (seg_bind_wrap (T.self _ 0 s _ _ ht (seg_again rfl loop))))))
      | (refine seg_bind_wrap (wpAny_rule ?_); show Seg _ A R Y n s₀ _ ((standAt iter.pos >>= _).wrap _ _ _ _) [] s; exact seg_bind_wrap (wpAny_standAt (seg_bind_wrap (T.self _ 0 s _ _ ht (seg_again rfl loop)))))
/-- the reading of a generator expression: W the state between two turns, by a measure, what was handed out, the heap -/
def tGen (P : Addr) (wi : TI) (te : TE) (NyOf : WT → Nat → List V → V → Hp → Prop) (Ns : List V → Hp → Prop) : L2.St → Hp → Prop := fun σ H =>
  wi σ H fun J H1 => GxR.TabG H1 P ∧ ∀ H2, GxR.Tabbed P H1 H2 → ∃ W : WT, (∃ m, W m [] H2) ∧ ∀ m ys H, W m ys H →
    (J.stop ys.length H ∧ Ns ys H) ∨ (J.go ys.length H ∧ ∀ v H', J.yld ys.length H v H' → te [some v] H' (NyOf W m ys))
theorem code_step {A : Around} {E : Value → Shared → Prop} {Q : Value → Shared → Prop} {c P : Addr} {gpos : Pos} (I : Inv X pins σ H s) (TB : GxR.TabB X.base X.mg c P) (hcode : X.env.code = .ref c) (hT : GxR.TabG H P)
    (h : ∀ (code : Value) (H3 : Hp) (s3 : Shared), GxR.Tabbed P H H3 → Inv X pins σ H3 s3 → (∀ b o, b ≠ P → s.heap.get? b = some o → s3.heap.get? b = some o) → Q code s3) :
    wpAny (model X.prog X.w) A (genexprCode X.env gpos (X.env.qual ++ "<genexpr>") sc) Q E s := by
  obtain ⟨ps, hP, ht⟩ := id hT
  have hPs : s.heap.get? P = some { cls := .none, data := .fields ps } := I.hok P _ hP
  have cd : PySem.W.CodeHd s.heap c P := TB.code.keeps I.bk
  cases hf : codeAmong gpos ps.toList with
  | none =>
    refine wpAny_genexprCodeX hcode (cd.code hPs ht) (cd.tab hPs) hf fun c' h' tk hx hge hlt hco' _ htab' _ => ?_
    obtain ⟨o1, vs, f1, tf, fl, tg, inF, tx, tt, op, _, _, _, _, _, _, _, _, _, htr, _⟩ := hco'
    have J := GxR.inv_tab (t' := tk) (g' := s.gens) (d' := s.drawn) I hP (fun b o hb e => hx b o hb e) htab'.2 I.bare
    exact h _ _ _ ⟨⟨_, upd_same, htr⟩, fun b hb => upd_ne hb⟩ J fun b o hb e => hx b o hb e
  | some cv =>
    refine wpAny_genexprCode_hit hcode (cd.code hPs ht) hf ?_
    exact h _ H s ⟨hT, fun _ _ => rfl⟩ I fun _ _ _ e => e
end
end Gx
namespace Gx
open PySem PySem.Spec PyProof.Rows L2 GenW
section
variable {X : Cx} {pins : List (Addr × Obj)} {σ : L2.St} {H : Hp} {s : Shared} {sc : Scope} {x : Str}
/-- a generator that has not begun, at a in s5 -/
def Begun1 (X : Cx) (pins : List (Addr × Obj)) (σ : L2.St) (k : Nat) (Rel : List V → Array Value → Prop) (NyOf : WT → Nat → List V → V → Hp → Prop) (Ns : List V → Hp → Prop) (a : Addr) (s5 : Shared) : Prop :=
  ∃ (g : Nat) (c : Code) (H4 : Hp), s5.heap.IsGen a g ∧ s5.gens[g]? = some (.fresh c) ∧ Inv X pins σ H4 s5 ∧ a < s5.heap.objs.size ∧
    ∀ (A : Around) (So : Option Addr) (s6 : Shared), Room (k + 1) A → A.frames = some X.stack → (∀ S, So = some S → s5.heap.objs.size ≤ S ∧ ∃ acc c, s6.heap.get? S = some (lstObj acc c) ∧ Rel [] acc) →
      (∀ b o, s5.heap.get? b = some o → s6.heap.get? b = some o) → s6.os = s5.os → AllBare s6.gens →
      ∃ (Z : Cx) (q : List (Addr × Obj)) (W : WT) (m0 : Nat),
        (∀ ps σz Hz s7, Inv Z (q ++ ps) σz Hz s7 → Inv X pins σ Hz s7 ∧ s7.heap.IsGen a g) ∧
        Seg (model X.prog X.w) A (GRx Z q So Rel Ns) (GYx Z q So Rel W (NyOf W)) (m0 + 1) s6 c ((model X.prog X.w).den c) [] s6
theorem gx_make {elt iter : Expr} {px gpos : Pos} {c P : Addr} {wi : TI} {te : TE} {k j : Nat} {Rel : List V → Array Value → Prop} {NyOf : WT → Nat → List V → V → Hp → Prop} {Ns : List V → Hp → Prop} {Q' : Value → Shared → Prop}
    (hr : Room j X.A) (TB : GxR.TabB X.base X.mg c P) (hcode : X.env.code = .ref c) (S : GSc sc x) (hi : PI X (.Name x px) iter wi)
    (he : ∀ (A : Around) (code : Value) (s4 : Shared) (H4 : Hp) (fp : List Addr), Room k (A.deeper (gE X sc s4.heap.objs.size code)) → PE (gCx X A sc x code s4 H4 fp) elt te)
    (hs : ∀ v, genFold iter X.env v = pure v) (I : Inv X pins σ H s) (h : tGen P wi te NyOf Ns σ H)
    (hQ : ∀ a s5, Begun1 X pins σ k Rel NyOf Ns a s5 → Q' (.ref a) s5) :
    wpAny (model X.prog X.w) X.A (eval (.GeneratorExp elt [⟨.Name x px, iter, [], 0⟩] sc gpos) X.env) Q' X.xe s := by
  refine wpAny_GeneratorExp_make S.co (closure_ok fun y hy z => absurd z (S.free y hy)) S.cell S.dot S.kind hr.depth ?_ hs
  refine thn (hi.run pins s σ H _ I h) fun xv s1 h1 => thn h1 fun itv s2 h2 => ?_
  obtain ⟨it, fp, tn, J, H2, e, I2, T, st2, f2, hT, hW⟩ := h2
  subst e
  refine ⟨I2.nolimit, code_step I2 TB hcode hT fun code H3 s3 hTb I3 kp3 => ?_⟩
  obtain ⟨bm, ob, e1, e2, e3, e4, e5, e6, e7, e8⟩ := TB.bm
  refine wpAny_builtinsFor (m := X.mg) (by rw [I3.ok.glob]; exact I3.mod.glob.keeps I3.bk) e1 e2 (I3.bk _ _ e5) e6 e7 e8 fun h' hn' hs' => ?_
  obtain ⟨W, ⟨m0, w0⟩, step⟩ := hW H3 hTb
  have hTP : H2 P ≠ none := by
    obtain ⟨ps, z, _⟩ := hT
    rw [z]; exact fun q => nomatch q
  have nP : ∀ b ∈ fp, b ≠ P := fun b hb z => hTP (by rw [← z]; exact (f2 b hb).1)
  have f3 : ∀ b ∈ fp, FpOk X pins H3 b := fun b hb => ⟨(hTb.2 b (nP b hb)).trans (f2 b hb).1, (f2 b hb).2⟩
  have tn3 : tn 0 s3.heap := T.keep _ _ _ st2 fun b hb o q => kp3 b o (nP b hb) q
  have lt3 : ∀ b ∈ fp, b < s3.heap.objs.size := fun b hb => by
    obtain ⟨o, q, _⟩ := T.obj _ _ tn3 b hb
    exact Heap.lt_size q
  have hsz : h'.objs.size = s3.heap.objs.size + 1 := by rw [hs'.1, Heap.size_push]
  have kp' : ∀ b o, s3.heap.get? b = some o → h'.get? b = some o := fun b o q => hs'.extBut b o (Nat.ne_of_lt (Heap.lt_size q)) (Heap.get?_push_of_some _ q)
  refine hQ _ _ ⟨s3.gens.size, _, H3, ⟨_, _, _, Heap.get?_push_size _ rfl, rfl, rfl, rfl⟩, Array.getElem?_push_size .., ?_, ?_, fun A So s6 hrA hfr hSo kp6 os6 b6 => ?_⟩
  · exact regens I3 rfl (fun b o q => Heap.get?_push_of_some _ (kp' b o q)) (AllBare.push I3.bare rfl)
  · show h'.objs.size < (h'.push _).objs.size
    rw [Heap.size_push]; exact Nat.lt_succ_self _
  · have kp36 : ∀ b o, s3.heap.get? b = some o → s6.heap.get? b = some o := fun b o q => kp6 b o (Heap.get?_push_of_some _ (kp' b o q))
    have hns6 : s6.heap.Ns s3.heap.objs.size (fun y => if y = ".0" then some (.ref it) else none) := by
      obtain ⟨o, es, ep, ho, r⟩ := hn'
      exact ⟨o, es, ep, kp6 _ _ (Heap.get?_push_of_some _ ho), r⟩
    have IZ := gx_inv (code := code) (A := A) I3 S hrA.hd hfr f3 lt3 (s5 := s6) os6 b6 kp36 hns6
    have big : ∀ b, s3.heap.objs.size < b → H3 b = none ∧ b ≠ s3.heap.objs.size ∧ b ∉ frs X.stack := fun b hb => by
      refine ⟨I3.hok.fresh (Nat.le_of_lt hb), Nat.ne_of_gt hb, fun z => ?_⟩
      rcases List.mem_cons.mp (I3.stkSub b z) with w | w
      · exact absurd (Nat.lt_trans (by rw [w]; exact I3.lt) hb) (Nat.lt_irrefl _)
      · exact I3.nofs (Nat.le_of_lt hb) w
    have ha : s3.heap.objs.size < h'.objs.size := by rw [hsz]; exact Nat.lt_succ_self _
    have hga := kp6 h'.objs.size _ (Heap.get?_push_size _ rfl)
    have hSb : ∀ S', So = some S' → h'.objs.size < S' := fun S' z => by
      have q := (hSo S' z).1
      have q' : (h'.push _).objs.size ≤ S' := q
      rw [Heap.size_push] at q'
      exact q'
    obtain ⟨ps, hps, IZ2⟩ : ∃ ps, Held So (Rel []) ps ∧ Inv (gCx X A sc x code s3 H3 fp) ([(h'.objs.size, _)] ++ ps) [none] H3 s6 := by
      cases So with
      | none =>
        refine ⟨[], rfl, IZ.pins_of fun p hp => ?_⟩
        rw [List.append_nil] at hp
        rw [List.mem_singleton.mp hp]
        obtain ⟨b1, b2, b3⟩ := big _ ha
        exact ⟨hga, b1, b2, b3, fun v z => by cases z⟩
      | some S' =>
        obtain ⟨_, acc, cc, q2, hR⟩ := hSo S' rfl
        refine ⟨[(S', lstObj acc cc)], ⟨acc, cc, rfl, hR⟩, IZ.pins_of fun p hp => ?_⟩
        rcases List.mem_append.mp hp with z | z
        · rw [List.mem_singleton.mp z]
          obtain ⟨b1, b2, b3⟩ := big _ ha
          exact ⟨hga, b1, b2, b3, fun v z => by cases z⟩
        · rw [List.mem_singleton.mp z]
          obtain ⟨b1, b2, b3⟩ := big _ (Nat.lt_trans ha (hSb S' rfl))
          exact ⟨q2, b1, b2, b3, fun v z => by cases z⟩
    have hSne : ∀ b, b ≤ h'.objs.size → So ≠ some b := fun b hb z => absurd (Nat.lt_of_lt_of_le (hSb b z) hb) (Nat.lt_irrefl _)
    refine ⟨gCx X A sc x code s3 H3 fp, [(h'.objs.size, { cls := .type "generator", data := .fields #[.int s3.gens.size 0, .str "<genexpr>" (s3.toks + 1), .str (X.env.qual ++ "<genexpr>") (s3.toks + 1 + 1)] })], W, m0, fun ps σz Hz s7 J7 => ⟨?_, ?_⟩, ?_⟩
    · refine I3.call' (ch := fp) J7.os J7.base J7.hok J7.bare fun b hb => ?_
      obtain ⟨_, a2, _, a4, a5, a6⟩ := f3 b hb
      exact ⟨a4, a2, a5, a6⟩
    · exact ⟨_, _, _, (J7.pin _ (List.mem_append_right _ (List.mem_append_left _ (List.mem_singleton.mpr rfl)))).1, rfl, rfl, rfl⟩
    · refine seg_begin T (T.keep _ _ _ tn3 fun b hb o q => kp36 b o q) ?_
      refine seg_turns S T (fun b hb => ⟨Nat.ne_of_lt (lt3 b hb), fun z => ?_, fun p hp z => ?_, hSne b (Nat.le_of_lt (Nat.lt_trans (lt3 b hb) ha))⟩) (fun p hp => ?_) (fun S' z => Nat.lt_trans ha (hSb S' z)) (he A code s3 H3 fp (hrA.deeper _)) step
        (m0 + 1) m0 [] s6 s6 [none] H3 ps (Nat.lt_succ_self _) hps (fun p hp => (IZ2.pin p (List.mem_append_right _ (List.mem_append_right _ hp))).1) w0 IZ2 (T.keep _ _ _ tn3 fun b hb o q => kp36 b o q) fun b hb => (f3 b hb).1
      · rcases List.mem_cons.mp (I3.stkSub b z) with w | w
        · exact (f3 b hb).2.1 w
        · exact (f3 b hb).2.2.1 w
      · rw [List.mem_singleton.mp hp] at z
        have q : h'.objs.size = b := z
        exact absurd (Nat.lt_trans (lt3 b hb) ha) (by rw [q]; exact Nat.lt_irrefl _)
      · rw [List.mem_singleton.mp hp]
        exact hSne _ (Nat.le_refl _)
end
end Gx
namespace Gx
open PySem PySem.Spec PyProof.Rows L2 GenW
section
variable {X : Cx} {pins : List (Addr × Obj)} {σ : L2.St} {H : Hp} {s : Shared} {sc : Scope} {x : Str}
def NyAll (Qb : Bool → Hp → Prop) (W : WT) : Nat → List V → V → Hp → Prop := fun m ys y H => ∃ b : Bool, y = .bl b ∧ if b = true then ∃ m', m' < m ∧ W m' (ys ++ [y]) H else Qb false H
abbrev noRel : List V → Array Value → Prop := fun _ _ => True
theorem all_turns {Z : Cx} {q : List (Addr × Obj)} {W : WT} {Qb : Bool → Hp → Prop} {A : Around} {a : Addr} {g : Nat} {Rr : Result → Shared → Prop} (hh : A.handled = none) (hd : A.depth < recursionLimit)
    (fin : ∀ ps σz Hz s7, Inv Z (q ++ ps) σz Hz s7 → Inv X pins σ Hz s7 ∧ s7.heap.IsGen a g)
    (hdone : ∀ b H' s', Inv X pins σ H' s' → Qb b H' → Rr (.ok (.ret (.bool b))) s') :
    ∀ (n : Nat) (s : Shared), s.heap.IsGen a g → s.heap.NoLimit →
      (∃ gs, s.gens[g]? = some gs ∧ gs.Goes (model X.prog X.w) A.in1.in1 (GRx Z q none noRel fun _ => Qb true) (GYx Z q none noRel W (NyAll Qb W)) n (.send .none) (s.setGen g .running)) →
      codeAny (model X.prog X.w) A (.builtin "all.loop" ⟨[.ref a], []⟩) Rr s := by
  intro n
  induction n using Nat.strongRecOn with
  | ind n ih =>
    intro s hg hl ⟨gs, hgs, hgo⟩
    have hgl : g < s.gens.size := (Array.getElem?_eq_some_iff.mp hgs).1
    refine codeAny_builtin F.entry_all_loop ?_; rw [Around.under_plainId F.plain_all_loop _]
    show wpAny _ A.in1 (pyNext (.ref a) >>= _) _ _ s
    refine wpAny_bind (wpAny_gsz (n := g + 1) hgl (next_genG (A := A.in1) hh hl hd hg hgs hgo (fun v s₁ gs' hbare hv => ?_) (fun s₁ hp h' hk => ?_) fun e s₁ he => he.elim))
    · intro hsz
      obtain ⟨m, ys, y, σz, Hz, ps, hm, rv, hps, _, J, ⟨b, eb, hb⟩, hkap⟩ := hv
      subst eb
      have eps : ps = [] := hps
      subst eps
      have ev : v = Value.bool b := rv
      subst ev
      obtain ⟨I1, g1⟩ := fin _ _ _ _ J
      have hsz1 : g < s₁.gens.size := by
        have q1 : (s₁.setGen g gs').gens.size = s₁.gens.size := setGen_size _ _ _
        have q2 : g + 1 ≤ (s₁.setGen g gs').gens.size := hsz
        omega
      have bare2 : AllBare (s₁.setGen g gs').gens := allBare_setGen I1.bare hbare
      refine wpAny_bind (wpAny_holding (wpAny_truthy_bool ?_))
      refine wpAny_bind (wpAny_letGo ?_)
      cases b with
      | true =>
        obtain ⟨m', hm', hw⟩ : ∃ m', m' < m ∧ W m' (ys ++ [V.bl true]) Hz := by simpa using hb
        simp only [if_true]
        cases n with
        | zero => omega
        | succ n =>
          refine wpAny_pure ⟨plainId_quiet F.plain_all_loop _, ih n (Nat.lt_succ_self n) (s₁.setGen g gs') g1 I1.nolimit ⟨gs', setGen_at hsz1, ?_⟩⟩
          exact hkap ((s₁.setGen g gs').setGen g .running) ⟨rfl, allBare_setGen bare2 rfl, fun b o _ e => e, fun S z => by cases z⟩ m' hm' hw
      | false =>
        have hq : Qb false Hz := by simpa using hb
        simp only [Bool.false_eq_true, if_false]
        exact wpAny_bind (wpAny_rule (wpAny_pure (hdone false Hz _ (regens I1 rfl (fun _ _ e => e) bare2) hq)))
    · intro hsz
      obtain ⟨ys, σz, Hz, ps, hps, _, J, hq⟩ := hp
      have eps : ps = [] := hps
      subst eps
      obtain ⟨I1, g1⟩ := fin _ _ _ _ J
      exact wpAny_bind (wpAny_rule (wpAny_pure (hdone true Hz _ (regens I1 rfl (fun b o e => hk b o e) (allBare_setGen I1.bare rfl)) hq)))
/-- all(elt for x in iter) -/
def tAllG (P : Addr) (wi : TI) (te : TE) : TE := fun σ H Q => tGen P wi te (NyAll fun b H => Q (.bl b) H) (fun _ H => Q (.bl true) H) σ H
theorem pe_allG {elt iter : Expr} {px p pos gpos : Pos} {c P : Addr} {wi : TI} {te : TE} {k : Nat}
    (hr : Room (k + 3) X.A) (hg : Gl X "all") (hm : X.mg "all" = none) (TB : GxR.TabB X.base X.mg c P) (hcode : X.env.code = .ref c) (S : GSc sc x) (hi : PI X (.Name x px) iter wi)
    (he : ∀ (A : Around) (code : Value) (s4 : Shared) (H4 : Hp) (fp : List Addr), Room k (A.deeper (gE X sc s4.heap.objs.size code)) → PE (gCx X A sc x code s4 H4 fp) elt te)
    (hs : ∀ v, genFold iter X.env v = pure v)
    (hst : starEach [.GeneratorExp elt [⟨.Name x px, iter, [], 0⟩] sc gpos] X.env = (false, eval (.GeneratorExp elt [⟨.Name x px, iter, [], 0⟩] sc gpos) X.env) :: starEach [] X.env := by rfl) :
    PE X (.Call (.Name "all" p) [.GeneratorExp elt [⟨.Name x px, iter, [], 0⟩] sc gpos] [] pos) (tAllG P wi te) := by
  refine ⟨fun pins s σ H Q I h => ?_⟩
  have hb : bootBuiltins "all" = some (.builtin "all") := by decide +kernel
  refine wpAny_Call_Name_kw (ld_blt I hg hm hb (PyProof.Rows.callWith_builtin1 ?_ hst (by rfl)))
  rw [hst]
  show wpAny _ _ (spliced ((false, eval (.GeneratorExp elt [⟨.Name x px, iter, [], 0⟩] sc gpos) X.env) :: backTo pos (starEach [] X.env))) _ _ s
  refine Calls.spliced_cons (gx_make (k := k) (Rel := noRel) hr TB hcode S hi he hs I h fun a s5 hB => Calls.spliced_nil ?_)
  obtain ⟨g, cd, H4, hgen, hfresh, I5, ha, wake⟩ := hB
  refine call_function_tree F.kind_all F.plain_all F.entry_all (F.args_all1 _) ?_
  unfold Builtin.«all»
  refine wpAny_bind (m := oneArg "all" _) (wpAny_pure (wpAny_bind (wpAny_pyIter_gen hgen ?_)))
  obtain ⟨Z, q, W, m0, fin, seg⟩ := wake X.A.in1.in1 none (s5.setGen g .running) ((hr.mono (by omega : k + 1 + 1 + 1 ≤ k + 3)).in1.in1) I.ok.frames (fun S z => by cases z) (fun _ _ e => e) rfl (allBare_setGen I5.bare rfl)
  refine wpAny_pure ⟨plainId_quiet F.plain_all_loop _, all_turns (Qb := fun b H => Q (.bl b) H) hr.hd hr.depth fin (fun b H' s' I' hq => ?_) (m0 + 1) s5 hgen I5.nolimit ⟨_, hfresh, rfl, seg⟩⟩
  exact ⟨.bl b, H', I', rfl, hq⟩
end
end Gx
namespace Gx
open PySem PySem.Spec PyProof.Rows L2 GenW
section
variable {X : Cx} {pins : List (Addr × Obj)} {σ : L2.St} {H : Hp} {s : Shared} {sc : Scope} {x : Str}
theorem cmp_gt {prog : Program} {w : World} {A : Around} {E : Value → Shared → Prop} {i j : Int} {t u : Tok} {Q : Value → Shared → Prop} (h : Q (.bool (decide (i > j))) s) :
    wpAny (model prog w) A (richCompare .Gt (.int i t) (.int j u)) Q E s :=
  CmpOf.ints_gt (P := fun n v => ∃ t, v = .int (if n = 0 then i else j) t) (fun n => if n = 0 then i else j) (fun _ _ h => h) 0 1 _ _ s Q E ⟨t, rfl⟩ ⟨u, rfl⟩ h
def MaxRel (ys : List V) (acc : Array Value) : Prop :=
  ∃ ns : List Int, ys = ns.map V.int ∧ ((ns = [] ∧ acc = #[]) ∨ ∃ b t, acc = #[.int b t, .int b t] ∧ b ∈ ns ∧ ∀ z ∈ ns, z ≤ b)
def NyMax (W : WT) : Nat → List V → V → Hp → Prop := fun m ys y H => ∃ i : Int, y = .int i ∧ ∃ m', m' < m ∧ W m' (ys ++ [y]) H
def NsMax (Qm : Int → Hp → Prop) : List V → Hp → Prop := fun ys H => ∃ ns : List Int, ys = ns.map V.int ∧ ns ≠ [] ∧ ∀ b, b ∈ ns → (∀ z ∈ ns, z ≤ b) → Qm b H
theorem map_int_inj {a b : List Int} (h : a.map V.int = b.map V.int) : a = b := by
  induction a generalizing b with
  | nil => cases b with
    | nil => rfl
    | cons _ _ => cases h
  | cons x a ih => cases b with
    | nil => cases h
    | cons y b =>
      rw [List.map_cons, List.map_cons] at h
      injection h with h1 h2
      injection h1 with h1
      rw [h1, ih h2]
theorem MaxRel.first {i : Int} {t : Tok} {ys : List V} (h : MaxRel ys #[]) : MaxRel (ys ++ [.int i]) #[.int i t, .int i t] := by
  obtain ⟨ns, rfl, h | ⟨b, u, e, _⟩⟩ := h
  · rw [h.1]
    exact ⟨[i], rfl, .inr ⟨i, t, rfl, by simp, by simp⟩⟩
  · have := congrArg Array.size e
    simp at this
theorem MaxRel.more {i b : Int} {t u : Tok} {ys : List V} (h : MaxRel ys #[.int b u, .int b u]) : MaxRel (ys ++ [.int i]) (if decide (i > b) = true then #[.int i t, .int i t] else #[.int b u, .int b u]) := by
  obtain ⟨ns, rfl, h | ⟨b', u', e, hb, hm⟩⟩ := h
  · have := congrArg Array.size h.2
    simp at this
  · have e' : b = b' := by
      have := congrArg (fun a : Array Value => a[0]?) e
      simp at this
      exact this.1
    subst e'
    refine ⟨ns ++ [i], by simp, .inr ?_⟩
    by_cases hi : i > b
    · rw [if_pos (decide_eq_true hi)]
      refine ⟨i, t, rfl, by simp, fun z hz => ?_⟩
      rcases List.mem_append.mp hz with q | q
      · exact Int.le_of_lt (Int.lt_of_le_of_lt (hm z q) hi)
      · rw [List.mem_singleton.mp q]; exact Int.le_refl _
    · rw [if_neg (by rw [decide_eq_false hi]; exact Bool.false_ne_true)]
      refine ⟨b, u, rfl, List.mem_append_left _ hb, fun z hz => ?_⟩
      rcases List.mem_append.mp hz with q | q
      · exact hm z q
      · rw [List.mem_singleton.mp q]; omega
theorem MaxRel.last {b : Int} {u : Tok} {ys : List V} {Qm : Int → Hp → Prop} (h : MaxRel ys #[.int b u, .int b u]) (q : NsMax Qm ys H) : Qm b H := by
  obtain ⟨ns, rfl, h | ⟨b', u', e, hb, hm⟩⟩ := h
  · have := congrArg Array.size h.2
    simp at this
  · have e' : b = b' := by
      have := congrArg (fun a : Array Value => a[0]?) e
      simp at this
      exact this.1
    subst e'
    obtain ⟨ms, e1, _, hq⟩ := q
    rw [map_int_inj e1] at hb hm
    exact hq b hb hm
theorem MaxRel.none {ys : List V} {Qm : Int → Hp → Prop} (h : MaxRel ys #[]) (q : NsMax Qm ys H) : False := by
  obtain ⟨ns, rfl, h | ⟨b', u', e, hb, hm⟩⟩ := h
  · obtain ⟨ms, e1, h2, _⟩ := q
    rw [h.1] at e1
    exact h2 (map_int_inj e1).symm
  · have := congrArg Array.size e
    simp at this
/-- what stands at the consumer's list is what it read -/
theorem held_eq {S : Addr} {Rel : Array Value → Prop} {ps : List (Addr × Obj)} {s₀ : Shared} {acc : Array Value} {c : Nat} (hps : Held (some S) Rel ps) (h0 : ∀ p ∈ ps, s₀.heap.get? p.1 = some p.2) (hS : s₀.heap.get? S = some (lstObj acc c)) :
    ps = [(S, lstObj acc c)] ∧ Rel acc := by
  obtain ⟨acc', c', e, hR⟩ := hps
  subst e
  have q := h0 _ (List.mem_singleton.mpr rfl)
  rw [hS] at q
  injection q with q
  have q1 : (Data.seq acc c : Data) = Data.seq acc' c' := congrArg Obj.data q
  injection q1 with q1 q2
  subst q1 q2
  exact ⟨rfl, hR⟩
theorem max_turns {Z : Cx} {q : List (Addr × Obj)} {W : WT} {Qm : Int → Hp → Prop} {A : Around} {a S : Addr} {g : Nat} {Rr : Result → Shared → Prop} (hh : A.handled = none) (hd : A.depth < recursionLimit) (hSa : S ≠ a) (hSc : S ≠ cStatics)
    (fin : ∀ ps σz Hz s7, Inv Z (q ++ ps) σz Hz s7 → Inv X pins σ Hz s7 ∧ s7.heap.IsGen a g)
    (hin : ∀ (ps : List (Addr × Obj)) σz Hz s7 acc c s8, Inv Z (q ++ ps) σz Hz s7 → ps = [(S, lstObj acc c)] → (∀ b o, b ≠ S → s7.heap.get? b = some o → s8.heap.get? b = some o) → s8.os = s7.os → AllBare s8.gens → Inv X pins σ Hz s8)
    (hdone : ∀ b t H' s', Inv X pins σ H' s' → Qm b H' → Rr (.ok (.ret (.int b t))) s') :
    ∀ (n : Nat) (s : Shared) (acc : Array Value) (c : Nat), (acc = #[] ∨ ∃ b t, acc = #[.int b t, .int b t]) → s.heap.get? S = some (lstObj acc c) → s.heap.IsGen a g → s.heap.NoLimit →
      (∃ gs, s.gens[g]? = some gs ∧ gs.Goes (model X.prog X.w) A.in1.in1 (GRx Z q (some S) MaxRel (NsMax Qm)) (GYx Z q (some S) MaxRel W (NyMax W)) n (.send .none) (s.setGen g .running)) →
      codeAny (model X.prog X.w) A (.builtin "max.loop" ⟨[.ref a, .none, .ref S], []⟩) Rr s := by
  have hname : (toString "max" ++ toString ".loop" : String) = "max.loop" := by decide
  intro n
  induction n using Nat.strongRecOn with
  | ind n ih =>
    intro s acc c hacc hS hg hl ⟨gs, hgs, hgo⟩
    have hgl : g < s.gens.size := (Array.getElem?_eq_some_iff.mp hgs).1
    refine codeAny_builtin F.entry_max_loop ?_; rw [Around.under_plainId F.plain_max_loop _]
    show wpAny _ A.in1 (seqItems? (.ref S) >>= _) _ _ s
    refine wpAny_bind (wpAny_seqItems hS rfl ?_)
    have turn : ∀ (v : Value) (s₁ : Shared) (gs' : GenState) (m : Nat) (ys : List V) (i : Int) (t : Tok) (Hz : Hp) (σz : L2.St) (ps : List (Addr × Obj)) (acc2 : Array Value), g < s₁.gens.size → gs'.bare = true → v = .int i t → m < n + 1 → ps = [(S, lstObj acc c)] → Inv Z (q ++ ps) σz Hz s₁ →
        (∃ m', m' < m ∧ W m' (ys ++ [.int i]) Hz) → MaxRel (ys ++ [.int i]) acc2 → (∃ b t, acc2 = #[.int b t, .int b t]) →
        (∀ s', Woke (some S) (MaxRel (ys ++ [.int i])) s₁ s' → ∀ m', m' < m → W m' (ys ++ [.int i]) Hz → (match (generalizing := false) n with | 0 => False | k + 1 => gs'.Goes (model X.prog X.w) A.in1.in1 (GRx Z q (some S) MaxRel (NsMax Qm)) (GYx Z q (some S) MaxRel W (NyMax W)) k (.send .none) s')) →
        ∀ (s2 : Shared) (c2 : Nat), s2.heap.get? S = some (lstObj acc2 c2) → (∀ b o, b ≠ S → s₁.heap.get? b = some o → s2.heap.get? b = some o) → s2.os = s₁.os → s2.gens = (s₁.setGen g gs').gens →
          codeAny (model X.prog X.w) A (.builtin "max.loop" ⟨[.ref a, .none, .ref S], []⟩) Rr s2 := by
      intro v s₁ gs' m ys i t Hz σz ps acc2 hsz hbare _ hm hps J ⟨m', hm', hw⟩ hR hacc2 hkap s2 c2 hS2 k2 os2 gens2
      cases n with
      | zero => omega
      | succ n =>
        obtain ⟨I1, g1⟩ := fin _ _ _ _ J
        have bare2 : AllBare (s₁.setGen g gs').gens := allBare_setGen I1.bare hbare
        have I2 := hin _ _ _ _ _ _ s2 J hps k2 os2 (by rw [gens2]; exact bare2)
        have size2 : g < s2.gens.size := by
          rw [gens2, setGen_size]; exact hsz
        refine ih n (Nat.lt_succ_self n) s2 acc2 c2 (.inr hacc2) hS2 ?_ I2.nolimit ⟨gs', ?_, ?_⟩
        · obtain ⟨o, nm, qn, ho, r⟩ := g1
          exact ⟨o, nm, qn, k2 a o (Ne.symm hSa) ho, r⟩
        · rw [gens2]; exact setGen_at hsz
        · refine hkap (s2.setGen g .running) ⟨os2, allBare_setGen I2.bare rfl, fun b o hb e => k2 b o (fun z => hb (by rw [z])) e, fun S' z => ?_⟩ m' hm' hw
          cases z
          exact ⟨acc2, c2, hS2, hR⟩
    have nx : ∀ (Q : Option Value → Shared → Prop) (E : Value → Shared → Prop),
        (∀ (v : Value) (s₁ : Shared) (gs' : GenState), gs'.bare = true → g < s₁.gens.size → GYx Z q (some S) MaxRel W (NyMax W) (n - 1) (s.setGen g .running) v s₁ (fun r' s'' => match (generalizing := false) n with
            | 0 => False
            | m + 1 => gs'.Goes (model X.prog X.w) A.in1.in1 (GRx Z q (some S) MaxRel (NsMax Qm)) (GYx Z q (some S) MaxRel W (NyMax W)) m r' s'') → Q (some v) (s₁.setGen g gs')) →
        (∀ s₁, GFx Z q (some S) MaxRel (NsMax Qm) (s.setGen g .running) s₁ → ∀ h', (∀ b o, s₁.heap.get? b = some o → h'.get? b = some o) → Q none { s₁.setGen g .finished with heap := h' }) →
        wpAny (model X.prog X.w) A.in1 (pyNext (.ref a)) Q E s := fun Q E hY hP =>
      wpAny_gsz (n := g + 1) hgl (next_genG (A := A.in1) hh hl hd hg hgs hgo (fun v s₁ gs' hbare hv hsz => hY v s₁ gs' hbare (by
        have q1 : (s₁.setGen g gs').gens.size = s₁.gens.size := setGen_size _ _ _
        have q2 : g + 1 ≤ (s₁.setGen g gs').gens.size := hsz
        omega) hv) (fun s₁ hp h' hk _ => hP s₁ hp h' hk) fun e s₁ he => he.elim)
    rcases hacc with rfl | ⟨b, tb, rfl⟩
    · show wpAny _ A.in1 (tryCatch (pyNext (.ref a)) _ >>= _) _ _ s
      refine wpAny_bind (wpAny_tryCatch (nx _ _ (fun v s₁ gs' hbare hsz hv => ?_) fun s₁ hp h' hk => ?_))
      · obtain ⟨m, ys, y, σz, Hz, ps, hm, rv, hps, h0, J, ⟨i, ey, hw⟩, hkap⟩ := hv
        subst ey
        obtain ⟨t, rfl⟩ := rv
        obtain ⟨eps, hR⟩ := held_eq hps h0 hS
        have hS1 : s₁.heap.get? S = some (lstObj #[] c) := (J.pin (S, lstObj #[] c) (List.mem_append_right _ (List.mem_append_right _ (by rw [eps]; exact List.mem_singleton.mpr rfl)))).1
        show wpAny _ A.in1 (updateSeq S (fun _ => #[.int i t, .int i t]) >>= _) _ _ _
        refine wpAny_bind (wpAny_updateSeq hS1 rfl ?_)
        rw [hname]
        refine wpAny_pure ⟨plainId_quiet F.plain_max_loop _, turn _ s₁ gs' m ys i t Hz σz ps #[.int i t, .int i t] hsz hbare rfl (by omega) eps J hw hR.first ⟨i, t, rfl⟩ hkap _ _ (Heap.get?_update_self _ hS1 rfl) (fun b o hb e => (Heap.get?_update_other _ _ (Ne.symm hb)).trans e) rfl rfl⟩
      · obtain ⟨ys, σz, Hz, ps, hps, h0, J, hq⟩ := hp
        obtain ⟨eps, hR⟩ := held_eq hps h0 hS
        exact (hR.none hq).elim
    · show wpAny _ A.in1 (tryCatch (pyNext (.ref a)) _ >>= _) _ _ s
      refine wpAny_bind (wpAny_tryCatch (nx _ _ (fun v s₁ gs' hbare hsz hv => ?_) fun s₁ hp h' hk => ?_))
      · obtain ⟨m, ys, y, σz, Hz, ps, hm, rv, hps, h0, J, ⟨i, ey, hw⟩, hkap⟩ := hv
        subst ey
        obtain ⟨t, rfl⟩ := rv
        obtain ⟨eps, hR⟩ := held_eq hps h0 hS
        have hS1 : s₁.heap.get? S = some (lstObj #[.int b tb, .int b tb] c) := (J.pin (S, lstObj _ c) (List.mem_append_right _ (List.mem_append_right _ (by rw [eps]; exact List.mem_singleton.mpr rfl)))).1
        have hR2 := hR.more (i := i) (t := t)
        show wpAny _ A.in1 (tryCatch (holding [.int i t, .int i t] (richCompare .Gt (.int i t) (.int b tb) >>= _)) _ >>= _) _ _ _
        refine wpAny_bind (wpAny_tryCatch (wpAny_holding (wpAny_bind (cmp_gt ?_))))
        refine wpAny_bind (wpAny_holding (wpAny_truthy_bool ?_))
        refine wpAny_bind (wpAny_letGo (wpAny_pure ?_))
        cases hb : decide (i > b) with
        | true =>
          rw [if_pos hb] at hR2
          simp only [if_true]
          refine wpAny_bind (wpAny_updateSeq hS1 rfl (wpAny_bind (wpAny_letGo ?_)))
          rw [hname]
          refine wpAny_pure ⟨plainId_quiet F.plain_max_loop _, turn _ s₁ gs' m ys i t Hz σz ps #[.int i t, .int i t] hsz hbare rfl (by omega) eps J hw hR2 ⟨i, t, rfl⟩ hkap _ _ (Heap.get?_update_self _ hS1 rfl) (fun b o hb e => (Heap.get?_update_other _ _ (Ne.symm hb)).trans e) rfl rfl⟩
        | false =>
          rw [if_neg (by rw [hb]; exact Bool.false_ne_true)] at hR2
          simp only [Bool.false_eq_true, if_false]
          refine wpAny_bind (wpAny_letGo ?_)
          rw [hname]
          exact wpAny_pure ⟨plainId_quiet F.plain_max_loop _, turn _ s₁ gs' m ys i t Hz σz ps #[.int b tb, .int b tb] hsz hbare rfl (by omega) eps J hw hR2 ⟨b, tb, rfl⟩ hkap _ c hS1 (fun _ _ _ e => e) rfl rfl⟩
      · obtain ⟨ys, σz, Hz, ps, hps, h0, J, hq⟩ := hp
        obtain ⟨eps, hR⟩ := held_eq hps h0 hS
        have hS1 : s₁.heap.get? S = some (lstObj #[.int b tb, .int b tb] c) := (J.pin (S, lstObj _ c) (List.mem_append_right _ (List.mem_append_right _ (by rw [eps]; exact List.mem_singleton.mpr rfl)))).1
        obtain ⟨I1, g1⟩ := fin _ _ _ _ J
        show wpAny _ A.in1 (updateSeq S (fun _ => #[]) >>= _) _ _ _
        refine wpAny_bind (wpAny_updateSeq (hk _ _ hS1) rfl (wpAny_bind (wpAny_letGo (wpAny_pure ?_))))
        refine hdone b tb Hz _ (hin _ _ _ _ _ _ _ J eps (fun d o hd' e => (Heap.get?_update_other _ _ (Ne.symm hd')).trans (hk d o e)) rfl (allBare_setGen I1.bare rfl)) (hR.last hq)
/-- max(elt for x in iter), whole numbers -/
def tMaxG (P : Addr) (wi : TI) (te : TE) : TE := fun σ H Q => tGen P wi te NyMax (NsMax fun b H => Q (.int b) H) σ H
theorem pe_maxG {elt iter : Expr} {px p pos gpos : Pos} {c P : Addr} {wi : TI} {te : TE} {k : Nat}
    (hr : Room (k + 3) X.A) (hg : Gl X "max") (hm : X.mg "max" = none) (TB : GxR.TabB X.base X.mg c P) (hcode : X.env.code = .ref c) (Sc : GSc sc x) (hi : PI X (.Name x px) iter wi)
    (he : ∀ (A : Around) (code : Value) (s4 : Shared) (H4 : Hp) (fp : List Addr), Room k (A.deeper (gE X sc s4.heap.objs.size code)) → PE (gCx X A sc x code s4 H4 fp) elt te)
    (hs : ∀ v, genFold iter X.env v = pure v)
    (hst : starEach [.GeneratorExp elt [⟨.Name x px, iter, [], 0⟩] sc gpos] X.env = (false, eval (.GeneratorExp elt [⟨.Name x px, iter, [], 0⟩] sc gpos) X.env) :: starEach [] X.env := by rfl) :
    PE X (.Call (.Name "max" p) [.GeneratorExp elt [⟨.Name x px, iter, [], 0⟩] sc gpos] [] pos) (tMaxG P wi te) := by
  have hname : (toString "max" ++ toString ".loop" : String) = "max.loop" := by decide
  refine ⟨fun pins s σ H Q I h => ?_⟩
  have hb : bootBuiltins "max" = some (.builtin "max") := by decide +kernel
  refine wpAny_Call_Name_kw (ld_blt I hg hm hb (PyProof.Rows.callWith_builtin1 ?_ hst (by rfl)))
  rw [hst]
  show wpAny _ _ (spliced ((false, eval (.GeneratorExp elt [⟨.Name x px, iter, [], 0⟩] sc gpos) X.env) :: backTo pos (starEach [] X.env))) _ _ s
  refine Calls.spliced_cons (gx_make (k := k) (Rel := MaxRel) hr TB hcode Sc hi he hs I h fun a s5 hB => Calls.spliced_nil ?_)
  obtain ⟨g, cd, H4, hgen, hfresh, I5, ha, wake⟩ := hB
  refine call_function_tree F.kind_max F.plain_max F.entry_max (F.args_max1 _) ?_
  show wpAny _ X.A.in1 (Builtin.Builtins.bindParams "max" ["key", "default"] 0 ⟨[], []⟩ >>= _) _ _ s5
  refine wpAny_bind (wpAny_of_eq (show Builtin.Builtins.bindParams "max" ["key", "default"] 0 ⟨[], []⟩ = pure [none, none] from rfl) ?_)
  refine wpAny_bind (wpAny_pure (wpAny_bind (wpAny_pyIter_gen hgen ?_)))
  refine wpAny_bind (wpAny_newObj_type ?_)
  rw [hname]
  have hS5 : (s5.heap.push { cls := .type "list", data := .seq #[] }).get? s5.heap.objs.size = some (lstObj #[] 0) := Heap.get?_push_size _ rfl
  have kp5 : ∀ b o, s5.heap.get? b = some o → (s5.heap.push { cls := .type "list", data := .seq #[] }).get? b = some o := fun b o e => Heap.get?_push_of_some _ e
  have I6 : Inv X pins σ H4 { s5 with heap := s5.heap.push { cls := .type "list", data := .seq #[] } } := regens I5 rfl kp5 I5.bare
  obtain ⟨Z, q, W, m0, fin, seg⟩ := wake X.A.in1.in1 (some s5.heap.objs.size) (({ s5 with heap := s5.heap.push { cls := .type "list", data := .seq #[] } } : Shared).setGen g .running) ((hr.mono (by omega : k + 1 + 1 + 1 ≤ k + 3)).in1.in1) I.ok.frames
    (fun S z => by cases z; exact ⟨Nat.le_refl _, #[], 0, hS5, [], rfl, .inl ⟨rfl, rfl⟩⟩) kp5 rfl (allBare_setGen I6.bare rfl)
  have hcl : cStatics < s5.heap.objs.size := let ⟨_, hn, _⟩ := I5.nolimit; hn.lt
  refine wpAny_pure ⟨plainId_quiet F.plain_max_loop _, max_turns (Qm := fun b H => Q (.int b) H) hr.hd hr.depth (Nat.ne_of_gt ha) (Nat.ne_of_gt hcl) fin (fun ps σz Hz s7 acc c' s8 J eps k8 o8 b8 => ?_) (fun b t H' s' I' hq => ?_) (m0 + 1) _ #[] 0 (.inl rfl) hS5 (hgen.keeps kp5) I6.nolimit ⟨_, hfresh, rfl, seg⟩⟩
  · subst eps
    obtain ⟨h1, h2, h3, h4, _⟩ := J.pin (s5.heap.objs.size, lstObj acc c') (List.mem_append_right _ (List.mem_append_right _ (List.mem_singleton.mpr rfl)))
    obtain ⟨I7, _⟩ := fin _ _ _ _ J
    have ni : ∀ b : Addr, b ∉ [s5.heap.objs.size] → b ≠ s5.heap.objs.size := fun b hb e => hb (by rw [e]; exact List.mem_singleton.mpr rfl)
    have nS : ∀ b u, Hz b = some u → b ≠ s5.heap.objs.size := fun b u e z => by rw [z, h2] at e; cases e
    have kp8 : ∀ b o, b ∉ [s5.heap.objs.size] → s7.heap.get? b = some o → s8.heap.get? b = some o := fun b o hb e => k8 b o (ni b hb) e
    refine I7.call' (ch := [s5.heap.objs.size]) o8 ⟨fun b o e _ _ hx => kp8 b o hx e, fun b o e _ _ hx => ⟨o.slots, kp8 b o hx e⟩, fun _ _ _ n _ => n, fun b o e hx => ⟨o, kp8 b o hx e⟩,
      fun _ _ e => e, fun _ _ _ e => e, fun _ _ e => ⟨#[], by rw [e]; simp⟩⟩ (fun b u e => ?_) b8 fun b hb => ?_
    · refine (I7.hok b u e).stay (fun d v hd z => k8 d v ?_ z) (fun _ z => z) fun _ _ z => z
      rcases hd with z | z
      · rw [z]; exact nS b u e
      · exact nS d _ z
    · rw [List.mem_singleton.mp hb]
      obtain ⟨_, a2, _, a4, a5, a6⟩ := I5.fpOk (Nat.le_refl _) h2
      exact ⟨a4, a2, a5, a6⟩
  · exact ⟨.int b, H', I', ⟨t, rfl⟩, hq⟩
end
end Gx
namespace TG
open PySem L2
def top (i : Nat) : Stmt := PySem.Challenge.pw_tabgrow_k12_sheets_refused.main.body.getD i (.Pass ⟨0, 0, 0, 0⟩)
abbrev s_is_whole : Stmt := top 23
abbrev s_is_sign : Stmt := top 24
abbrev s_is_text : Stmt := top 25
abbrev s_filled : Stmt := top 26
abbrev s_is_row : Stmt := top 27
abbrev s_misfit : Stmt := top 28
abbrev s_check_page : Stmt := top 29
abbrev s_check_style : Stmt := top 31
abbrev s_stretches : Stmt := top 33
abbrev s_closed_runs : Stmt := top 34
abbrev s_is_closed : Stmt := top 35
abbrev s_described : Stmt := top 36
abbrev s_stands_right : Stmt := top 37
abbrev s_is_figures : Stmt := top 38
abbrev s_laid : Stmt := top 40
abbrev s_closed_cells : Stmt := top 41
abbrev s_left_ends : Stmt := top 42
abbrev s_begins_of : Stmt := top 43
abbrev s_begun : Stmt := top 54
abbrev s_take : Stmt := top 55
abbrev s_alike : Stmt := top 56
abbrev s_told : Stmt := top 57
abbrev s_all : Stmt := top 58
abbrev s_sign : Stmt := top 59
abbrev s_cell : Stmt := top 60
abbrev s_row : Stmt := top 61
abbrev s_page : Stmt := top 62
abbrev s_style : Stmt := top 63
abbrev s_bad_cell : Stmt := top 64
abbrev s_bad_row : Stmt := top 65
abbrev s_numbers : Stmt := top 66
abbrev s_places : Stmt := top 67
abbrev s_row_full : Stmt := top 68
abbrev s_law : Stmt := top 69
/-- the built-ins that the text calls are the built-ins still -/
structure Txt (mg : Str → Option Value) : Prop where
  isin : mg "isinstance" = none
  len : mg "len" = none
  range : mg "range" = none
  max : mg "max" = none
  min : mg "min" = none
  all : mg "all" = none
  str : mg "str" = none
  int : mg "int" = none
  bool : mg "bool" = none
  list : mg "list" = none
  tuple : mg "tuple" = none
  enum : mg "enumerate" = none
  ord : mg "ord" = none
def BoxAt (H : Hp) (b l : Addr) : Prop := ∃ (ns : List Int) (st : Int), H b = some (.lst [.ref l, .int st]) ∧ H l = some (.lst (ns.map V.int)) ∧ ns.length ≤ 63
/-- all but the box stays -/
def KB (b l : Addr) (H H' : Hp) : Prop := ∀ c o, H c = some o → c ≠ b → c ≠ l → H' c = some o
theorem KB.refl {b l : Addr} {H : Hp} : KB b l H H := fun _ _ h _ _ => h
theorem KB.trans {b l : Addr} {H H1 H2 : Hp} (x : KB b l H H1) (y : KB b l H1 H2) : KB b l H H2 := fun c o h n m => y c o (x c o h n m) n m
theorem box_ne {H : Hp} {b l : Addr} (x : BoxAt H b l) : b ≠ l := by
  obtain ⟨ns, st, h1, h2, _⟩ := x
  refine ne_of h1 h2 fun z => ?_
  injection z with z
  cases ns with
  | nil => cases z
  | cons n ns =>
    rw [List.map_cons] at z
    injection z with z _
    cases z
theorem nz {i : Int} (h : i ≠ 0) : i ≠ 0 := h
theorem at0 {α : Type} {v : α} {xs : List α} : atI (v :: xs) 0 = some v := atI_nat (j := 0) rfl
theorem ix0 {n : Nat} : ixN (n + 1) 0 = some 0 := by
  unfold ixN
  rw [if_pos (by decide), if_pos (by omega)]
  rfl
theorem small0 : ([] : List V).length ≤ sizeLine := Nat.zero_le _
theorem dp_ints {K : PySem.W.Frag} {H : Hp} : ∀ ns : List Int, DpAll K H (ns.map V.int) (ns.map PyData.int)
  | [] => .nil
  | n :: ns => .cons (.int n) (dp_ints ns)
theorem canAll_ints : ∀ ns : List Int, PyData.canLayAll0 (ns.map PyData.int) = true
  | [] => rfl
  | _ :: r => by simp [PyData.canLayAll0, PyData.canLay0, canAll_ints r]
theorem depthAll_ints : ∀ ns : List Int, PyData.depthAll (ns.map PyData.int) = 0
  | [] => rfl
  | _ :: r => by simp [PyData.depthAll, PyData.depth, depthAll_ints r]
theorem shaped_of_ints (ns : List Int) : SeqAt.shaped (.list (ns.map PyData.int)) = true := by
  simp [SeqAt.shaped, PyData.canLay0, PyData.depth, canAll_ints, depthAll_ints]
def spTake : Sp := fun vs H Q _ => ∃ (b l : Addr) (many : Int), vs = [.ref b, .int many] ∧ BoxAt H b l ∧ 0 < many ∧ many < 1073741824 ∧
  ∀ (r : Int) (H' : Hp), 0 ≤ r → r < many → BoxAt H' b l → KB b l H H' → Q (.int r) H'
section
variable {P : Program} {w : World} {K : PySem.W.Frag} {mg : Str → Option Value} {base : Heap}
theorem sc_take : FnScope ["_law_box", "_law_many", "_law_number"] ["_law_box", "_law_many"] (defScope s_take) := ⟨rfl, rfl, rfl, by decide +kernel, rfl, by decide +kernel, by decide +kernel⟩
theorem ok_take {f : Addr} {fd : FuncData} (F : Fun K "_law_take" "_law_take" s_take f fd) : FnOk P w K mg base CX0 1 f fd ["_law_box", "_law_many"] spTake := by
  refine F.ok sc_take (fun vs H Q E h => ?_) (fun cdv A outer s H vs Q E hr h => ?_)
  · obtain ⟨b, l, many, rfl, _⟩ := h
    rfl
  · obtain ⟨b, l, many, rfl, hB, m0, m1, k⟩ := h
    have nd := sc_take.nd
    have hu := hr.units
    refine ⟨_, pss_cons (ps_if (pt_cmpR (op_eqD hu) (pe_ix ix_list (pv 0) pe_int (fun _ _ => rfl)) (pe_lst pa_nil) (nomark _))
        (pss_cons (ps_asg (pe_op op_modN (pe_op op_mul (pe_ix ix_list (pv 0) pe_int (fun _ _ => rfl)) pe_int) pe_int) (pg_sub (pv 0) pe_int set_list))
          (pss_one (ps_ret (pe_op op_modN (pe_op op_fdivN (pe_ix ix_list (pv 0) pe_int (fun _ _ => rfl)) pe_int) (pv 1))))) pss_nil)
      (pss_cons (ps_set (i := 2) nd rfl (.inl rfl) (pe_ix ix_list (pe_ix ix_list (pv 0) pe_int (fun _ _ => rfl)) pe_int (fun _ _ => rfl)))
      (pss_cons (ps_asg (pe_op op_fdivN (pv 2) (pv 1)) (pg_sub (pe_ix ix_list (pv 0) pe_int (fun _ _ => rfl)) pe_int set_list))
      (pss_cons (ps_if (PW.pt (pw_or (pt_cmpR op_eq (pe_ix ix_list (pe_ix ix_list (pv 0) pe_int (fun _ _ => rfl)) pe_int (fun _ _ => rfl)) pe_int (nomark _)) (pw_or1 (pt_cmpR op_eq (pe_ix ix_list (pe_ix ix_list (pv 0) pe_int (fun _ _ => rfl)) pe_int (fun _ _ => rfl)) (pe_un un_neg pe_int) (nomark _)))))
          (pss_one (ps_expr (pe_bm PySem.F.plainAttrs_list PySem.F.slot_list_pop PySem.F.type_list_pop mt_popAt (pe_ix ix_list (pv 0) pe_int (fun _ _ => rfl)) (pa_cons pe_int pa_nil)))) pss_nil)
      (pss_one (ps_ret (pe_op op_modN (pv 2) (pv 1))))))), ?_⟩
    obtain ⟨ns, st, h1, h2, h3⟩ := id hB
    have nbl := box_ne hB
    have len2 : ∀ o, (upd H b o) l = some (.lst (ns.map V.int)) := fun o => by rw [upd_ne nbl.symm]; exact h2
    -- _law_box[0] == []
    refine ⟨_, rfl, b, _, 0, .ref l, rfl, rfl, SqL.of h1, rfl, small0, fun p np => ?_⟩
    have npb : b ≠ p := ne_of_none h1 np
    have npl : l ≠ p := ne_of_none h2 np
    have g1 : (upd H p (.lst [])) b = some (.lst [.ref l, .int st]) := by rw [upd_ne npb]; exact h1
    have g2 : (upd H p (.lst [])) l = some (.lst (ns.map V.int)) := by rw [upd_ne npl]; exact h2
    have kp : KB b l H (upd H p (.lst [])) := fun c o e _ _ => by rw [upd_ne (ne_of_none e np)]; exact e
    refine ⟨.list (ns.map PyData.int), .list [], .lst (SqL.of g2) (dp_ints ns), .lst (SqL.of upd_same) .nil, shaped_of_ints ns, rfl, _, rfl, ?_⟩
    cases ns with
    | nil =>
      refine iteT ?_
      refine ⟨_, rfl, b, _, 1, .int st, rfl, rfl, SqL.of g1, rfl, st, 48271, rfl, rfl, .inr (by decide), _, _, rfl, rfl, nz (by decide), _, rfl, b, _, 1, 1, rfl, rfl, g1, rfl, ?_⟩
      refine ⟨_, rfl, b, _, 1, _, rfl, rfl, SqL.of upd_same, rfl, _, _, rfl, rfl, ⟨by decide, by decide⟩, _, rfl, _, _, rfl, rfl, nz (by omega), ?_⟩
      refine k _ _ (Int.fmod_nonneg_of_pos _ m0) (Int.fmod_lt_of_pos _ m0) ⟨[], _, upd_same, by rw [upd_ne nbl.symm]; exact g2, h3⟩ fun c o e hc hl => ?_
      rw [upd_ne hc]
      exact kp c o e hc hl
    | cons n ns =>
      refine iteF ?_
      refine ⟨_, rfl, b, _, 0, .ref l, rfl, rfl, SqL.of g1, rfl, l, _, 0, .int n, rfl, rfl, SqL.of g2, at0, ?_⟩
      refine ⟨_, rfl, _, rfl, n, many, rfl, rfl, ⟨by omega, by omega⟩, _, rfl, b, _, 0, .ref l, rfl, rfl, SqL.of g1, rfl, l, _, 0, 0, rfl, rfl, g2, ix0, ?_⟩
      have j1 : ∀ o, (upd (upd H p (.lst [])) l o) b = some (.lst [.ref l, .int st]) := fun o => by rw [upd_ne nbl]; exact g1
      have kl : ∀ o, KB b l H (upd (upd H p (.lst [])) l o) := fun o c u e hc hl => by rw [upd_ne hl]; exact kp c u e hc hl
      have fin : ∀ ms : List Int, ms.length ≤ 63 → Q (.int (n.fmod many)) (upd (upd H p (.lst [])) l (.lst (ms.map V.int))) := fun ms hm =>
        k _ _ (Int.fmod_nonneg_of_pos _ m0) (Int.fmod_lt_of_pos _ m0) ⟨ms, st, j1 _, upd_same, hm⟩ (kl _)
      have e0 : (List.map V.int (n :: ns)).set 0 (V.int (n.fdiv many)) = List.map V.int (n.fdiv many :: ns) := rfl
      rw [e0]
      -- == 0 or == -1
      refine ⟨_, rfl, b, _, 0, .ref l, rfl, rfl, SqL.of (j1 _), rfl, l, _, 0, .int (n.fdiv many), rfl, rfl, SqL.of upd_same, at0, rfl, _, rfl, ?_⟩
      have done : ∀ H', (∃ ms : List Int, ms.length ≤ 63 ∧ H' = upd (upd H p (.lst [])) l (.lst (ms.map V.int))) → ∃ v, ([some (V.ref b), some (V.int many), some (V.int n)] : L2.St)[2]? = some (some v) ∧ ∃ v_1, ([some (V.ref b), some (V.int many), some (V.int n)] : L2.St)[1]? = some (some v_1) ∧ ∃ i j, v = V.int i ∧ v_1 = V.int j ∧ j ≠ 0 ∧ Q (V.int (i.fmod j)) H' := fun H' ⟨ms, hm, e⟩ => by
        subst e
        exact ⟨_, rfl, _, rfl, n, many, rfl, rfl, nz (by omega), fin ms hm⟩
      have pop : ∀ Z : VK, (∀ y H', H' = upd (upd H p (.lst [])) l (.lst (ns.map V.int)) → Z y H') → rPopAt (.ref l) [.int 0] (upd (upd H p (.lst [])) l (.lst (List.map V.int (n.fdiv many :: ns)))) Z := fun Z hZ =>
        ⟨l, _, 0, 0, _, rfl, rfl, upd_same, by decide, by decide, by simp [seqIndex?], rfl, hZ _ _ (by rw [upd_upd]; rfl)⟩
      have h3' : ns.length ≤ 63 := by simp at h3; omega
      by_cases hz : n.fdiv many = 0
      · rw [decide_eq_true (show V.int (n.fdiv many) = V.int 0 by rw [hz])]
        refine iteT (iteT ⟨_, rfl, b, _, 0, .ref l, rfl, rfl, SqL.of (j1 _), rfl, .inl ⟨rfl, _, SqL.of upd_same⟩, pop _ fun y H' e => done H' ⟨ns, h3', e⟩⟩)
      · rw [decide_eq_false (show ¬ V.int (n.fdiv many) = V.int 0 from fun z => hz (by injection z))]
        refine iteF ⟨_, rfl, b, _, 0, .ref l, rfl, rfl, SqL.of (j1 _), rfl, l, _, 0, .int (n.fdiv many), rfl, rfl, SqL.of upd_same, at0, 1, rfl, rfl, _, rfl, ?_⟩
        refine ite2 (fun _ => ⟨_, rfl, b, _, 0, .ref l, rfl, rfl, SqL.of (j1 _), rfl, .inl ⟨rfl, _, SqL.of upd_same⟩, pop _ fun y H' e => done H' ⟨ns, h3', e⟩⟩) fun _ => ?_
        exact done _ ⟨n.fdiv many :: ns, h3, rfl⟩
end
end TG
namespace TG
open PySem L2
section
variable {P : Program} {w : World} {K : PySem.W.Frag} {mg : Str → Option Value} {base : Heap}
def spBegun (K : PySem.W.Frag) : Sp := fun vs H Q _ => ∃ (a : Addr) (ns : List Int), vs = [.ref a] ∧ SqL K H a (ns.map V.int) ∧ ns.length ≤ 63 ∧
  ∀ (b l : Addr) (H' : Hp), BoxAt H' b l → Same H H' → H b = none → H l = none → Q (.ref b) H'
theorem sc_begun : FnScope ["_law_script", "_law_stirred", "_law_cell_here"] ["_law_script"] (defScope s_begun) := ⟨rfl, rfl, rfl, by decide +kernel, rfl, by decide +kernel, by decide +kernel⟩
theorem ok_begun {f : Addr} {fd : FuncData} (T : Txt mg) (F : Fun K "_law_begun" "_law_begun" s_begun f fd) : FnOk P w K mg base CX0 1 f fd ["_law_script"] (spBegun K) := by
  refine F.ok sc_begun (fun vs H Q E h => ?_) (fun cdv A outer s H vs Q E hr h => ?_)
  · obtain ⟨a, ns, rfl, _⟩ := h
    rfl
  · obtain ⟨a, ns, rfl, hS, hl, k⟩ := h
    have nd := sc_begun.nd
    refine ⟨_, pss_cons (ps_set (i := 1) nd rfl (.inl rfl) pe_int) (pss_cons (ps_for PassesOwn.never rfl (pi_list (pv 0)) (pg_name (i := 2) nd rfl (.inl rfl))
        (pss_one (ps_set (i := 1) nd rfl (.inl rfl) (pe_op op_modN (pe_op op_add (pe_op op_add (pe_op op_mul (pv 1) pe_int) (pe_op op_mul (pv 2) pe_int)) pe_int) pe_int))))
      (pss_one (ps_ret (pe_lst (pa_cons (pe_callTy call_list_of (by rfl) T.list (by decide +kernel) (pa_cons (pv 0) pa_nil))
        (pa_cons (pe_op op_mul (pv 1) (pe_callTy call_int1 (by rfl) T.int (by decide +kernel) (pa_cons (pe_cmpR op_gt (pe_callB call_len_seq (by rfl) T.len PySem.boot_len (pa_cons (pv 0) pa_nil)) pe_int (nomark _)) pa_nil))) pa_nil)))))), ?_⟩
    refine ⟨_, rfl, a, rfl, ⟨_, hS⟩, for_list (xs := ns.map V.int) (fun _ σ H1 => H1 = H ∧ ∃ st c, σ = [some (.ref a), some (.int st), c]) ⟨rfl, 0, _, rfl⟩ (fun i σ H1 _ p => by rw [p.1]; exact hS) ?_ ?_⟩
    · rintro i x σ H1 hx ⟨rfl, st, c, rfl⟩
      obtain ⟨n, rfl⟩ : ∃ n, x = V.int n := by
        rw [List.getElem?_map] at hx
        cases e : ns[i]? with
        | none => rw [e] at hx; cases hx
        | some n => rw [e] at hx; cases hx; exact ⟨n, rfl⟩
      exact ⟨_, rfl, st, 48271, rfl, rfl, .inr (by decide), _, rfl, n, 69621, rfl, rfl, .inr (by decide), _, _, rfl, rfl, _, 11, rfl, rfl, _, 2147483647, rfl, rfl, nz (by decide), rfl, _, _, rfl⟩
    · rintro σ H1 ⟨rfl, st, c, rfl⟩
      refine ⟨_, rfl, a, _, rfl, .inl hS, fun l nl => ?_⟩
      have hS2 : SqL K (upd H1 l (.lst (ns.map V.int))) a (ns.map V.int) := by
        rcases hS with (z | ⟨o, z⟩) | z
        · exact .inl (.inl (by rw [upd_ne (ne_of_none z nl)]; exact z))
        · exact .inl (.inr ⟨o, by rw [upd_ne (ne_of_none z nl)]; exact z⟩)
        · exact .inr z
      refine ⟨_, rfl, _, rfl, a, _, rfl, .inl hS2, _, 2, rfl, rfl, .inr ⟨_, rfl, st, _, rfl, rfl, .inr (by split <;> decide), (by show 2 ≤ sizeLine; decide), fun b nb => ?_⟩⟩
      have nb1 : H1 b = none := by
        by_cases e : b = l
        · rw [e, upd_same] at nb; cases nb
        · rw [upd_ne e] at nb; exact nb
      have nlb : l ≠ b := fun z => by rw [← z, upd_same] at nb; cases nb
      refine k b l _ ⟨ns, _, upd_same, by rw [upd_ne nlb, upd_same], hl⟩ (fun c o e => ?_) nb1 nl
      rw [upd_ne (ne_of_none e nb1), upd_ne (ne_of_none e nl)]
      exact e
mutual
def dok : PyData → Bool
  | .list xs | .tuple xs => decide (xs.length ≤ 1000) && dokAll xs
  | .dict _ => false
  | .none | .bool _ | .int _ | .str _ => true
def dokAll : List PyData → Bool
  | [] => true
  | x :: xs => dok x && dokAll xs
end
theorem dokAll_get : ∀ {ds : List PyData} {i : Nat} {d : PyData}, dokAll ds = true → ds[i]? = some d → dok d = true
  | [], _, _, _, h => by simp at h
  | x :: xs, 0, d, h, e => by
    simp only [dokAll, Bool.and_eq_true] at h
    cases e
    exact h.1
  | x :: xs, i + 1, d, h, e => by
    simp only [dokAll, Bool.and_eq_true] at h
    exact dokAll_get h.2 (by simpa using e)
theorem depthAll_get : ∀ {ds : List PyData} {i : Nat} {d : PyData}, ds[i]? = some d → d.depth ≤ PyData.depthAll ds
  | [], _, _, h => by simp at h
  | x :: xs, 0, d, e => by
    cases e
    simp only [PyData.depthAll]
    exact Nat.le_max_left _ _
  | x :: xs, i + 1, d, e => by
    simp only [PyData.depthAll]
    exact Nat.le_trans (depthAll_get (i := i) (by simpa using e)) (Nat.le_max_right _ _)
theorem dp_len {H : Hp} : ∀ {vs : List V} {ds : List PyData}, DpAll K H vs ds → vs.length = ds.length
  | [], [], _ => rfl
  | _ :: _, _ :: _, h => by
    cases h with
    | cons _ t => rw [List.length_cons, List.length_cons, dp_len t]
theorem dp_get {H : Hp} : ∀ {vs : List V} {ds : List PyData} {i : Nat} {v : V}, DpAll K H vs ds → vs[i]? = some v → ∃ d, ds[i]? = some d ∧ Dp K H v d
  | [], [], _, _, _, h => by simp at h
  | x :: vs, y :: ds, 0, v, h, e => by
    cases h with
    | cons h1 _ =>
      cases e
      exact ⟨y, rfl, h1⟩
  | x :: vs, y :: ds, i + 1, v, h, e => by
    cases h with
    | cons _ h2 => simpa using dp_get (i := i) h2 (by simpa using e)
theorem ty_list {H : Hp} {a : Addr} {xs : List V} (h : SqL K H a xs) : TyX K H (.ref a) (.type "list") := by
  rcases h with (z | ⟨o, z⟩) | ⟨o, its, n, z, c, _⟩
  · exact .base (.lst z)
  · exact .base (.frz z)
  · exact .kList z c
theorem ty_tup {H : Hp} {a : Addr} {xs : List V} (h : SqT K H a xs) : TyX K H (.ref a) (.type "tuple") := by
  rcases h with (z | ⟨o, z⟩) | ⟨o, its, n, z, c, _⟩
  · exact .base (.tup z)
  · exact .fTuple z
  · exact .kTuple z c
def spAlike (K : PySem.W.Frag) (n : Nat) : Sp := fun vs H Q _ => ∃ (x y : V) (d : PyData), vs = [x, y] ∧ Dp K H x d ∧ Dp K H y d ∧ d.depth < n ∧ dok d = true ∧ Q (.bl true) H
theorem sc_alike : FnScope ["_law_found", "_law_due", "_law_k"] ["_law_found", "_law_due"] (defScope s_alike) := ⟨rfl, rfl, rfl, by decide +kernel, rfl, by decide +kernel, by decide +kernel⟩
theorem ok_alike {f : Addr} {fd : FuncData} (T : Txt mg) (F : Fun K "_law_alike" "_law_alike" s_alike f fd) (b : Binds K fd ["_law_found", "_law_due"] []) (mgf : mg "_law_alike" = some (.ref f)) : ∀ n, FnOk P w K mg base CX0 (n + 1) f fd ["_law_found", "_law_due"] (spAlike K n) := by
  intro n
  induction n with
  | zero =>
    refine F.ok sc_alike (fun vs H Q E h => ?_) (fun cdv A outer s H vs Q E hr h => ?_)
    · obtain ⟨x, y, d, rfl, _⟩ := h
      rfl
    · obtain ⟨x, y, d, rfl, _, _, h, _⟩ := h
      exact absurd h (Nat.not_lt_zero _)
  | succ n G =>
    refine F.ok sc_alike (fun vs H Q E h => ?_) (fun cdv A outer s H vs Q E hr h => ?_)
    · obtain ⟨x, y, d, rfl, _⟩ := h
      rfl
    · obtain ⟨x, y, d, rfl, hx, hy, hd, hk, k⟩ := h
      have nd := sc_alike.nd
      refine ⟨_, pss_cons (ps_if (pt_cmpR op_isN (pv 1) pe_non (nomark _)) (pss_one (ps_ret (pe_cmpR op_isN (pv 0) pe_non (nomark _)))) pss_nil)
        (pss_cons (ps_if (pt_val (pe_callB call_isi (by rfl) T.isin (by decide +kernel) (pa_cons (pv 1) (pa_cons (pe_bltn (v := .ty "bool") (by rfl) T.bool (by decide +kernel) rfl) pa_nil)))) (pss_one (ps_ret (pe_and (pe_callB call_isi (by rfl) T.isin (by decide +kernel) (pa_cons (pv 0) (pa_cons (pe_bltn (v := .ty "bool") (by rfl) T.bool (by decide +kernel) rfl) pa_nil))) (pe_one (pe_cmpR op_eq (pv 0) (pv 1) (nomark _)))))) pss_nil)
        (pss_cons (ps_if (pt_val (pe_callB call_isi (by rfl) T.isin (by decide +kernel) (pa_cons (pv 1) (pa_cons (pe_bltn (v := .ty "int") (by rfl) T.int (by decide +kernel) rfl) pa_nil)))) (pss_one (ps_ret (pe_and (pe_callB call_isi (by rfl) T.isin (by decide +kernel) (pa_cons (pv 0) (pa_cons (pe_bltn (v := .ty "int") (by rfl) T.int (by decide +kernel) rfl) pa_nil))) (pe_and (pe_not (pe_callB call_isi (by rfl) T.isin (by decide +kernel) (pa_cons (pv 0) (pa_cons (pe_bltn (v := .ty "bool") (by rfl) T.bool (by decide +kernel) rfl) pa_nil)))) (pe_one (pe_cmpR op_eq (pv 0) (pv 1) (nomark _))))))) pss_nil)
        (pss_cons (ps_if (pt_val (pe_callB call_isi (by rfl) T.isin (by decide +kernel) (pa_cons (pv 1) (pa_cons (pe_bltn (v := .ty "str") (by rfl) T.str (by decide +kernel) rfl) pa_nil)))) (pss_one (ps_ret (pe_and (pe_callB call_isi (by rfl) T.isin (by decide +kernel) (pa_cons (pv 0) (pa_cons (pe_bltn (v := .ty "str") (by rfl) T.str (by decide +kernel) rfl) pa_nil))) (pe_one (pe_cmpR op_eq (pv 0) (pv 1) (nomark _)))))) pss_nil)
        (pss_cons (ps_if (PW.pt (pw_or (pt_cmpR op_ne (pe_callB call_isi (by rfl) T.isin (by decide +kernel) (pa_cons (pv 1) (pa_cons (pe_bltn (v := .ty "tuple") (by rfl) T.tuple (by decide +kernel) rfl) pa_nil))) (pe_callB call_isi (by rfl) T.isin (by decide +kernel) (pa_cons (pv 0) (pa_cons (pe_bltn (v := .ty "tuple") (by rfl) T.tuple (by decide +kernel) rfl) pa_nil))) (nomark _))
            (pw_or1 (pt_cmpR op_ne (pe_callB call_isi (by rfl) T.isin (by decide +kernel) (pa_cons (pv 1) (pa_cons (pe_bltn (v := .ty "list") (by rfl) T.list (by decide +kernel) rfl) pa_nil))) (pe_callB call_isi (by rfl) T.isin (by decide +kernel) (pa_cons (pv 0) (pa_cons (pe_bltn (v := .ty "list") (by rfl) T.list (by decide +kernel) rfl) pa_nil))) (nomark _))))) (pss_one (ps_ret pe_bl)) pss_nil)
        (pss_cons (ps_if (pt_cmpR op_ne (pe_callB call_len_seq (by rfl) T.len PySem.boot_len (pa_cons (pv 0) pa_nil)) (pe_callB call_len_seq (by rfl) T.len PySem.boot_len (pa_cons (pv 1) pa_nil)) (nomark _)) (pss_one (ps_ret pe_bl)) pss_nil)
        (pss_cons (ps_for PassesOwn.never rfl (pi_range1 (by rfl) T.range (pa_cons (pe_callB call_len_seq (by rfl) T.len PySem.boot_len (pa_cons (pv 1) pa_nil)) pa_nil)) (pg_name (i := 2) nd rfl (.inl rfl))
          (pss_one (ps_if (pt_not (pt_val (pe_call G hr (by rfl) mgf F.kp b .nil pass0 (pa_cons (pe_ix ix_seq (pv 0) (pv 2) (fun _ _ => rfl)) (pa_cons (pe_ix ix_seq (pv 1) (pv 2) (fun _ _ => rfl)) pa_nil))))) (pss_one (ps_ret pe_bl)) pss_nil)))
        (pss_one (ps_ret pe_bl)))))))), ?_⟩
      cases hx with
      | non =>
        cases hy
        exact ⟨_, rfl, rfl, true, rfl, iteT ⟨_, rfl, rfl, k⟩⟩
      | bl c =>
        cases hy
        exact ⟨_, rfl, rfl, false, rfl, iteF ⟨_, rfl, _, _, _, _, true, rfl, .ty _, (.base (.bl c)), kit_ty (by decide +kernel), true, rfl, iteT ⟨_, rfl, _, _, _, _, true, rfl, .ty _, (.base (.bl c)), kit_ty (by decide +kernel), true, rfl, iteT ⟨_, rfl, _, rfl, rfl, by simpa using k⟩⟩⟩⟩
      | int i =>
        cases hy
        exact ⟨_, rfl, rfl, false, rfl, iteF ⟨_, rfl, _, _, _, _, false, rfl, .ty _, (.base (.int i)), kit_ty (by decide +kernel), false, rfl, iteF ⟨_, rfl, _, _, _, _, true, rfl, .ty _, (.base (.int i)), kit_ty (by decide +kernel), true, rfl, iteT ⟨_, rfl, _, _, _, _, true, rfl, .ty _, (.base (.int i)), kit_ty (by decide +kernel), true, rfl, iteT
          ⟨_, rfl, _, _, _, _, false, rfl, .ty _, (.base (.int i)), kit_ty (by decide +kernel), false, rfl, true, rfl, iteT ⟨_, rfl, _, rfl, rfl, by simpa using k⟩⟩⟩⟩⟩⟩
      | str z =>
        cases hy
        exact ⟨_, rfl, rfl, false, rfl, iteF ⟨_, rfl, _, _, _, _, false, rfl, .ty _, (.base (.str z)), kit_ty (by decide +kernel), false, rfl, iteF ⟨_, rfl, _, _, _, _, false, rfl, .ty _, (.base (.str z)), kit_ty (by decide +kernel), false, rfl, iteF ⟨_, rfl, _, _, _, _, true, rfl, .ty _, (.base (.str z)), kit_ty (by decide +kernel), true, rfl, iteT
          ⟨_, rfl, _, _, _, _, true, rfl, .ty _, (.base (.str z)), kit_ty (by decide +kernel), true, rfl, iteT ⟨_, rfl, _, rfl, rfl, by simpa using k⟩⟩⟩⟩⟩⟩
      | @lst p xs ds sx ax =>
        cases hy with
        | @lst q ys _ sy ay =>
          refine ⟨_, rfl, rfl, false, rfl, iteF ⟨_, rfl, _, _, _, _, false, rfl, .ty _, (ty_list sy), kit_ty (by decide +kernel), false, rfl, iteF ⟨_, rfl, _, _, _, _, false, rfl, .ty _, (ty_list sy), kit_ty (by decide +kernel), false, rfl, iteF ⟨_, rfl, _, _, _, _, false, rfl, .ty _, (ty_list sy), kit_ty (by decide +kernel), false, rfl, iteF
            ⟨_, rfl, _, _, _, _, false, rfl, .ty _, (ty_list sy), kit_ty (by decide +kernel), _, rfl, _, _, _, _, false, rfl, .ty _, (ty_list sx), kit_ty (by decide +kernel), rfl, false, rfl, iteF ⟨_, rfl, _, _, _, _, true, rfl, .ty _, (ty_list sy), kit_ty (by decide +kernel), _, rfl, _, _, _, _, true, rfl, .ty _, (ty_list sx), kit_ty (by decide +kernel), rfl, false, rfl, iteF ?_⟩⟩⟩⟩⟩⟩
          simp only [dok, Bool.and_eq_true, decide_eq_true_eq] at hk
          simp only [PyData.depth] at hd
          have lx := dp_len ax
          have ly := dp_len ay
          refine ⟨_, rfl, p, xs, rfl, .inl sx, _, rfl, q, ys, rfl, .inl sy, rfl, false, by rw [lx, ly]; simp, iteF ?_⟩
          refine ⟨_, rfl, q, ys, rfl, .inl sy, _, rfl, by omega, by omega, for_range (n := (ys.length : Int).toNat) (fun _ σ H' => H' = H ∧ ∃ c, σ = [some (.ref p), some (.ref q), c]) ⟨rfl, _, rfl⟩ ?_ ?_⟩
          · rintro i σ H' hi ⟨rfl, c, rfl⟩
            have hi1 : i < xs.length := by omega
            have hi2 : i < ys.length := by omega
            obtain ⟨d1, e1, dx⟩ := dp_get ax (List.getElem?_eq_getElem hi1)
            obtain ⟨d2, e2, dy⟩ := dp_get ay (List.getElem?_eq_getElem hi2)
            rw [e1] at e2
            cases e2
            refine ⟨_, rfl, _, rfl, .inl ⟨p, xs, _, _, rfl, rfl, sx, by rw [Int.zero_add]; exact atI_nat (List.getElem?_eq_getElem hi1), ⟨_, rfl, _, rfl, .inl ⟨q, ys, _, _, rfl, rfl, sy, by rw [Int.zero_add]; exact atI_nat (List.getElem?_eq_getElem hi2), ?_⟩⟩⟩⟩
            exact ⟨_, _, d1, rfl, dx, dy, by have := depthAll_get e1; omega, dokAll_get hk.2 e1, true, rfl, iteF ⟨rfl, _, rfl⟩⟩
          · rintro σ H' ⟨rfl, c, rfl⟩
            exact k
      | @tup p xs ds sx ax =>
        cases hy with
        | @tup q ys _ sy ay =>
          refine ⟨_, rfl, rfl, false, rfl, iteF ⟨_, rfl, _, _, _, _, false, rfl, .ty _, (ty_tup sy), kit_ty (by decide +kernel), false, rfl, iteF ⟨_, rfl, _, _, _, _, false, rfl, .ty _, (ty_tup sy), kit_ty (by decide +kernel), false, rfl, iteF ⟨_, rfl, _, _, _, _, false, rfl, .ty _, (ty_tup sy), kit_ty (by decide +kernel), false, rfl, iteF
            ⟨_, rfl, _, _, _, _, true, rfl, .ty _, (ty_tup sy), kit_ty (by decide +kernel), _, rfl, _, _, _, _, true, rfl, .ty _, (ty_tup sx), kit_ty (by decide +kernel), rfl, false, rfl, iteF ⟨_, rfl, _, _, _, _, false, rfl, .ty _, (ty_tup sy), kit_ty (by decide +kernel), _, rfl, _, _, _, _, false, rfl, .ty _, (ty_tup sx), kit_ty (by decide +kernel), rfl, false, rfl, iteF ?_⟩⟩⟩⟩⟩⟩
          simp only [dok, Bool.and_eq_true, decide_eq_true_eq] at hk
          simp only [PyData.depth] at hd
          have lx := dp_len ax
          have ly := dp_len ay
          refine ⟨_, rfl, p, xs, rfl, .inr sx, _, rfl, q, ys, rfl, .inr sy, rfl, false, by rw [lx, ly]; simp, iteF ?_⟩
          refine ⟨_, rfl, q, ys, rfl, .inr sy, _, rfl, by omega, by omega, for_range (n := (ys.length : Int).toNat) (fun _ σ H' => H' = H ∧ ∃ c, σ = [some (.ref p), some (.ref q), c]) ⟨rfl, _, rfl⟩ ?_ ?_⟩
          · rintro i σ H' hi ⟨rfl, c, rfl⟩
            have hi1 : i < xs.length := by omega
            have hi2 : i < ys.length := by omega
            obtain ⟨d1, e1, dx⟩ := dp_get ax (List.getElem?_eq_getElem hi1)
            obtain ⟨d2, e2, dy⟩ := dp_get ay (List.getElem?_eq_getElem hi2)
            rw [e1] at e2
            cases e2
            refine ⟨_, rfl, _, rfl, .inr (.inl ⟨p, xs, _, _, rfl, rfl, sx, by rw [Int.zero_add]; exact atI_nat (List.getElem?_eq_getElem hi1), ⟨_, rfl, _, rfl, .inr (.inl ⟨q, ys, _, _, rfl, rfl, sy, by rw [Int.zero_add]; exact atI_nat (List.getElem?_eq_getElem hi2), ?_⟩)⟩⟩)⟩
            exact ⟨_, _, d1, rfl, dx, dy, by have := depthAll_get e1; omega, dokAll_get hk.2 e1, true, rfl, iteF ⟨rfl, _, rfl⟩⟩
          · rintro σ H' ⟨rfl, c, rfl⟩
            exact k
end
end TG
namespace Gx
open PySem PySem.Spec PyProof.Rows L2 GenW
section
variable {J : It} {n : Nat} {G : Hp → Prop} {Y : Nat → Hp → V → Hp → Prop}
/-- all over a walk whose i-th element is f i -/
theorem all_by (w : Walk J n G Y) {te : TE} {Q : VK} {H2 : Hp} (f : Nat → Bool) (Pv : Nat → Hp → Prop) (h0 : Pv 0 H2) (hG : ∀ i H, i ≤ n → Pv i H → G H)
    (hs : ∀ i v H H', i < n → Pv i H → Y i H v H' → ∀ Z : VK, (∀ H3, Pv (i + 1) H3 → Z (.bl (f i)) H3) → te [some v] H' Z)
    (hT : ∀ H, Pv n H → (∀ i, i < n → f i = true) → Q (.bl true) H) (hF : ∀ i H, i < n → f i = false → Pv (i + 1) H → Q (.bl false) H) :
    ∃ W : WT, (∃ m, W m [] H2) ∧ ∀ m ys H, W m ys H → (J.stop ys.length H ∧ (fun (_ : List V) H => Q (.bl true) H) ys H) ∨
      (J.go ys.length H ∧ ∀ v H', J.yld ys.length H v H' → te [some v] H' (NyAll (fun b H => Q (.bl b) H) W m ys)) := by
  refine ⟨fun m ys H => m = n - ys.length ∧ ys.length ≤ n ∧ Pv ys.length H ∧ ∀ i, i < ys.length → f i = true, ⟨n, by simp, Nat.zero_le _, h0, fun i hi => absurd hi (Nat.not_lt_zero _)⟩, ?_⟩
  rintro m ys H ⟨rfl, hl, hp, ht⟩
  have q := hG _ H hl hp
  by_cases hlt : ys.length < n
  · refine .inr ⟨w.goes _ H hlt q, fun v H' y => hs _ v H H' hlt hp (w.yields _ H v H' hlt q y) _ fun H3 p3 => ⟨f ys.length, rfl, ?_⟩⟩
    cases hf : f ys.length with
    | true =>
      refine iteT ⟨n - (ys.length + 1), by omega, by rw [List.length_append, List.length_singleton], by rw [List.length_append, List.length_singleton]; exact hlt, by rw [List.length_append, List.length_singleton]; exact p3, fun i hi => ?_⟩
      rw [List.length_append, List.length_singleton] at hi
      by_cases e : i = ys.length
      · rw [e]; exact hf
      · exact ht i (by omega)
    | false => exact iteF (hF _ H3 hlt hf p3)
  · have e : ys.length = n := by omega
    exact .inl ⟨by rw [e]; exact w.stops H q, hT H (e ▸ hp) fun i hi => ht i (by omega)⟩
/-- max over a walk whose i-th element is g i -/
theorem max_by (w : Walk J n G Y) {te : TE} {Qm : Int → Hp → Prop} {H2 : Hp} (g : Nat → Int) (hn : 0 < n) (Pv : Nat → Hp → Prop) (h0 : Pv 0 H2) (hG : ∀ i H, i ≤ n → Pv i H → G H)
    (hs : ∀ i v H H', i < n → Pv i H → Y i H v H' → ∀ Z : VK, (∀ H3, Pv (i + 1) H3 → Z (.int (g i)) H3) → te [some v] H' Z)
    (hd : ∀ b H, Pv n H → (∃ i, i < n ∧ g i = b) → (∀ i, i < n → g i ≤ b) → Qm b H) :
    ∃ W : WT, (∃ m, W m [] H2) ∧ ∀ m ys H, W m ys H → (J.stop ys.length H ∧ NsMax Qm ys H) ∨
      (J.go ys.length H ∧ ∀ v H', J.yld ys.length H v H' → te [some v] H' (NyMax W m ys)) := by
  refine ⟨fun m ys H => m = n - ys.length ∧ ys.length ≤ n ∧ Pv ys.length H ∧ ys = ((List.range ys.length).map g).map V.int, ⟨n, by simp, Nat.zero_le _, h0, rfl⟩, ?_⟩
  rintro m ys H ⟨rfl, hl, hp, ht⟩
  have q := hG _ H hl hp
  by_cases hlt : ys.length < n
  · refine .inr ⟨w.goes _ H hlt q, fun v H' y => hs _ v H H' hlt hp (w.yields _ H v H' hlt q y) _ fun H3 p3 => ⟨g ys.length, rfl, n - (ys.length + 1), by omega, by rw [List.length_append, List.length_singleton], by rw [List.length_append, List.length_singleton]; exact hlt, by rw [List.length_append, List.length_singleton]; exact p3, ?_⟩⟩
    rw [List.length_append, List.length_singleton, List.range_succ, List.map_append, List.map_append, ← ht]
    rfl
  · have e : ys.length = n := by omega
    refine .inl ⟨by rw [e]; exact w.stops H q, (List.range ys.length).map g, ht, fun z => ?_, fun b hb hm => hd b H (e ▸ hp) ?_ fun i hi => hm _ (List.mem_map.mpr ⟨i, List.mem_range.mpr (by omega), rfl⟩)⟩
    · have := congrArg List.length z
      rw [List.length_map, List.length_range, List.length_nil] at this
      omega
    · obtain ⟨i, hi, e2⟩ := List.mem_map.mp hb
      exact ⟨i, by have := List.mem_range.mp hi; omega, e2⟩
end
def Tabs (cs : List (Addr × Addr)) (H : Hp) : Prop := ∀ p ∈ cs, GxR.TabG H p.2
theorem tab_ext {P : Addr} {H H' : Hp} (t : GxR.TabG H P) (x : GxR.Tabbed P H H') : LamX.ExtN H H' := fun b o e n => by
  by_cases hb : b = P
  · obtain ⟨ps, h1, _⟩ := t
    rw [hb, h1] at e
    cases e
    exact absurd rfl (n ps)
  · rw [x.2 b hb]; exact e
theorem tabs_tab {cs : List (Addr × Addr)} {P : Addr} {H H' : Hp} (t : Tabs cs H) (x : GxR.Tabbed P H H') : Tabs cs H' := fun p hp => by
  by_cases hb : p.2 = P
  · rw [hb]; exact x.1
  · obtain ⟨ps, h1, h2⟩ := t p hp
    exact ⟨ps, by rw [x.2 _ hb]; exact h1, h2⟩
/-- all but tables stays, the tables are tables -/
structure Ex (cs : List (Addr × Addr)) (H H' : Hp) : Prop where
  ext : LamX.ExtN H H'
  tab : Tabs cs H'
  old : ∀ b, H' b = none → H b = none
  oth : ∀ b o, H b = some o → (∀ p ∈ cs, p.2 ≠ b) → H' b = some o
theorem Ex.refl {cs : List (Addr × Addr)} {H : Hp} (t : Tabs cs H) : Ex cs H H := ⟨LamX.ExtN.refl H, t, fun _ h => h, fun _ _ e _ => e⟩
theorem Ex.trans {cs : List (Addr × Addr)} {H H1 H2 : Hp} (a : Ex cs H H1) (b : Ex cs H1 H2) : Ex cs H H2 := ⟨a.ext.trans b.ext, b.tab, fun c h => a.old c (b.old c h), fun c o e m => b.oth c o (a.oth c o e m) m⟩
theorem Ex.tabbed {cs : List (Addr × Addr)} {q : Addr × Addr} {H H' : Hp} (t : Tabs cs H) (m : q ∈ cs) (x : GxR.Tabbed q.2 H H') : Ex cs H H' := ⟨tab_ext (t q m) x, tabs_tab t x, fun b h => by
  by_cases hb : b = q.2
  · obtain ⟨ps, h1, _⟩ := x.1
    rw [hb, h1] at h
    cases h
  · rw [x.2 b hb] at h; exact h, fun b o e n => by
  rw [x.2 b (fun z => n q m z.symm)]
  exact e⟩
theorem upd_none {H : Hp} {a b : Addr} {o : HO} (h : upd H a o b = none) : H b = none ∧ b ≠ a := by
  by_cases hb : b = a
  · rw [hb, upd_same] at h; cases h
  · rw [upd_ne hb] at h; exact ⟨h, hb⟩
theorem Ex.laid {cs : List (Addr × Addr)} {H : Hp} {a : Addr} {o : HO} (t : Tabs cs H) (n : H a = none) : Ex cs H (upd H a o) :=
  ⟨fun b u e _ => by rw [upd_ne (ne_of_none e n)]; exact e, fun p hp => by
    obtain ⟨ps, h1, h2⟩ := t p hp
    exact ⟨ps, by rw [upd_ne (ne_of_none h1 n)]; exact h1, h2⟩, fun b h => (upd_none h).1, fun b u e _ => by
    rw [upd_ne (ne_of_none e n)]
    exact e⟩
/-- a new object, written again -/
theorem ex_new {cs : List (Addr × Addr)} {H H' : Hp} {D : Addr} {o : HO} (t : Tabs cs H) (e : Ex cs H H') (n : H D = none) : Ex cs H (upd H' D o) :=
  ⟨fun b u h m => by rw [upd_ne (ne_of_none h n)]; exact e.ext b u h m, fun p hp => by
    obtain ⟨ps, h1, _⟩ := t p hp
    obtain ⟨ps', h3, h4⟩ := e.tab p hp
    exact ⟨ps', by rw [upd_ne (ne_of_none h1 n)]; exact h3, h4⟩, fun b h => e.old b (upd_none h).1, fun b u h m => by
    rw [upd_ne (ne_of_none h n)]
    exact e.oth b u h m⟩
theorem Ex.lst {cs : List (Addr × Addr)} {H H' : Hp} {a : Addr} {xs : List V} (e : Ex cs H H') (h : H a = some (.lst xs)) : H' a = some (.lst xs) := e.ext _ _ h fun ps q => by cases q
theorem Ex.tup {cs : List (Addr × Addr)} {H H' : Hp} {a : Addr} {xs : List V} (e : Ex cs H H') (h : H a = some (.tup xs)) : H' a = some (.tup xs) := e.ext _ _ h fun ps q => by cases q
theorem Ex.sqL {cs : List (Addr × Addr)} {K : PySem.W.Frag} {H H' : Hp} {a : Addr} {xs : List V} (e : Ex cs H H') (h : SqL K H a xs) : SqL K H' a xs := by
  rcases h with (z | ⟨o, z⟩) | z
  · exact .inl (.inl (e.ext _ _ z fun ps q => by cases q))
  · exact .inl (.inr ⟨o, e.ext _ _ z fun ps q => by cases q⟩)
  · exact .inr z
theorem Ex.sqT {cs : List (Addr × Addr)} {K : PySem.W.Frag} {H H' : Hp} {a : Addr} {xs : List V} (e : Ex cs H H') (h : SqT K H a xs) : SqT K H' a xs := by
  rcases h with (z | ⟨o, z⟩) | z
  · exact .inl (.inl (e.ext _ _ z fun ps q => by cases q))
  · exact .inl (.inr ⟨o, e.ext _ _ z fun ps q => by cases q⟩)
  · exact .inr z
/-- a def whose code object is known -/
theorem fun_okT {P : Program} {w : World} {K : PySem.W.Frag} {mg : Str → Option Value} {base : Heap} {x qual : Str} {st : Stmt} {f c : Addr} {fd : FuncData} {N ps : List Str} {k : Nat} {sp : Sp} (F : Fun K x qual st f fd) (hc : fd.code = .ref c) (S : FnScope N ps (defScope st)) (len : ∀ vs H Q E, sp vs H Q E → vs.length = ps.length)
    (hbody : ∀ (A : Around) (outer : List Env) (s : Shared) (H : Hp) (vs : List V) (Q : VK) (E : XK), Room k (A.deeper (envOfC qual (defScope st) s.heap.objs.size f (.ref c))) → sp vs H Q E →
      ∃ t, PSs (cxOf CX0 P w K mg base N qual (defScope st) f (.ref c) A outer s H E).nox (defBody st) t ∧ t { nx := fun _ H' => Q .non H', rt := Q } (start N vs) H) : FnOk P w K mg base CX0 (k + 1) f fd ps sp := by
  obtain ⟨oc, od, kV, doc, pm, an, cdv, ct, osl, rfl, lk, hcd⟩ := F.ex
  have e : cdv = .ref c := hc
  subst e
  refine fn_of lk hcd S len fun A outer s H vs Q E hr hsp => ?_
  obtain ⟨t, h, q⟩ := hbody A outer s H vs Q E hr hsp
  exact ⟨t, h.nox, q⟩
end Gx
namespace TG
open PySem L2 Gx
def SgOk (c : Nat) : Prop := 32 ≤ c ∧ c ≤ 126 ∧ c ≠ 37
structure CellOk (z : Str) : Prop where
  len : z.length ≤ 10
  sg : ∀ c ∈ z.cps.toList, SgOk c
structure RowOk (r : List Str) : Prop where
  pos : 1 ≤ r.length
  len : r.length ≤ 6
  cells : ∀ z ∈ r, CellOk z
abbrev sV (r : List Str) : List V := r.map V.str
theorem line10 {n : Nat} (h : n ≤ 1000) : n ≤ sizeLine := Nat.le_trans h (by decide)
theorem dT {c : Prop} [Decidable c] (h : c) : V.bl (decide c) = V.bl true := by rw [decide_eq_true h]
theorem dF {c : Prop} [Decidable c] (h : ¬ c) : V.bl (decide c) = V.bl false := by rw [decide_eq_false h]
theorem qT {c : Prop} [Decidable c] {Q : VK} {H : Hp} (h : c) (k : Q (.bl true) H) : Q (.bl (decide c)) H := by rw [decide_eq_true h]; exact k
theorem qF {c : Prop} [Decidable c] {Q : VK} {H : Hp} (h : ¬ c) (k : Q (.bl false) H) : Q (.bl (decide c)) H := by rw [decide_eq_false h]; exact k
theorem qN {c : Prop} [Decidable c] {Q : VK} {H : Hp} (h : ¬ c) (k : Q (.bl true) H) : Q (.bl (!decide c)) H := by rw [decide_eq_false h]; exact k
structure Consts (mg : Str → Option Value) : Prop where
  blank : ∃ t, mg "BLANK" = some (.int 32 t)
  tilde : ∃ t, mg "TILDE" = some (.int 126 t)
  percent : ∃ t, mg "PERCENT" = some (.int 37 t)
  rows : ∃ t, mg "MOST_ROWS" = some (.int 30 t)
  cells : ∃ t, mg "MOST_CELLS" = some (.int 6 t)
  signs : ∃ t, mg "MOST_SIGNS" = some (.int 10 t)
  gap : ∃ t, mg "MOST_GAP" = some (.int 4 t)
  least : ∃ t, mg "MOST_LEAST" = some (.int 12 t)
section
variable {P : Program} {w : World} {K : PySem.W.Frag} {mg : Str → Option Value} {base : Heap}
def spWhole : Sp := fun vs H Q _ => ∃ (i lo hi : Int), vs = [.int i, .int lo, .int hi] ∧ lo ≤ i ∧ i ≤ hi ∧ Q (.bl true) H
theorem sc_whole : FnScope ["value", "low", "high"] ["value", "low", "high"] (defScope s_is_whole) := ⟨rfl, rfl, rfl, by decide +kernel, rfl, by decide +kernel, by decide +kernel⟩
theorem ok_whole {f : Addr} {fd : FuncData} (T : Txt mg) (F : Fun K "is_whole" "is_whole" s_is_whole f fd) : FnOk P w K mg base CX0 1 f fd ["value", "low", "high"] spWhole := by
  refine F.ok sc_whole (fun vs H Q E h => ?_) (fun cdv A outer s H vs Q E hr h => ?_)
  · obtain ⟨i, lo, hi, rfl, _⟩ := h
    rfl
  · obtain ⟨i, lo, hi, rfl, h1, h2, k⟩ := h
    refine ⟨_, pss_one (ps_ret (pe_and (pe_callB call_isi (by rfl) T.isin (by decide +kernel) (pa_cons (pv 0) (pa_cons (pe_bltn (v := .ty "int") (by rfl) T.int (by decide +kernel) rfl) pa_nil)))
      (pe_and (pe_not (pe_callB call_isi (by rfl) T.isin (by decide +kernel) (pa_cons (pv 0) (pa_cons (pe_bltn (v := .ty "bool") (by rfl) T.bool (by decide +kernel) rfl) pa_nil)))) (pe_one (pe_chain op_le op_le (pv 1) (pv 0) (pv 2)))))), ?_⟩
    exact ⟨_, rfl, _, _, _, _, true, rfl, .ty _, .base (.int i), kit_ty (by decide +kernel), true, rfl, iteT ⟨_, rfl, _, _, _, _, false, rfl, .ty _, .base (.int i), kit_ty (by decide +kernel), false, rfl, true, rfl, iteT
      ⟨_, rfl, _, rfl, lo, i, rfl, rfl, true, dT h1, iteT ⟨_, rfl, i, hi, rfl, rfl, qT h2 k⟩⟩⟩⟩
def spSg : Sp := fun vs H Q _ => ∃ c : Nat, vs = [.str ⟨#[c]⟩] ∧ SgOk c ∧ Q (.bl true) H
theorem sc_sg : FnScope ["sign"] ["sign"] (defScope s_is_sign) := ⟨rfl, rfl, rfl, by decide +kernel, rfl, by decide +kernel, by decide +kernel⟩
theorem ok_sg {f : Addr} {fd : FuncData} (T : Txt mg) (N : Consts mg) (F : Fun K "is_sign" "is_sign" s_is_sign f fd) : FnOk P w K mg base CX0 1 f fd ["sign"] spSg := by
  refine F.ok sc_sg (fun vs H Q E h => ?_) (fun cdv A outer s H vs Q E hr h => ?_)
  · obtain ⟨c, rfl, _⟩ := h
    rfl
  · obtain ⟨c, rfl, ⟨h1, h2, h3⟩, k⟩ := h
    obtain ⟨t1, e1⟩ := N.blank
    obtain ⟨t2, e2⟩ := N.tilde
    obtain ⟨t3, e3⟩ := N.percent
    refine ⟨_, pss_one (ps_ret (pe_and (pe_chain op_le op_le (pe_glob (v := .int 32) rfl e1 ⟨_, rfl⟩) (pe_callB call_ord (by rfl) T.ord (by decide +kernel) (pa_cons (pv 0) pa_nil)) (pe_glob (v := .int 126) rfl e2 ⟨_, rfl⟩))
      (pe_one (pe_cmpR op_ne (pe_callB call_ord (by rfl) T.ord (by decide +kernel) (pa_cons (pv 0) pa_nil)) (pe_glob (v := .int 37) rfl e3 ⟨_, rfl⟩) (nomark _))))), ?_⟩
    refine ⟨_, rfl, _, rfl, rfl, 32, (c : Int), rfl, rfl, true, dT (show (32 : Int) ≤ c by omega), iteT ⟨(c : Int), 126, rfl, rfl, ?_⟩⟩
    have e4 : V.bl (decide ((c : Int) ≤ 126)) = V.bl true := dT (by omega)
    refine ⟨true, e4, iteT ⟨_, rfl, _, rfl, rfl, rfl, qN (fun z => ?_) k⟩⟩
    injection z with z
    exact h3 (Int.ofNat.inj z)
def spText (cs : List (Addr × Addr)) : Sp := fun vs H Q _ => ∃ (z : Str) (m : Int), vs = [.str z, .int m] ∧ Tabs cs H ∧ (z.length : Int) ≤ m ∧ z.length ≤ 1000 ∧ (∀ c ∈ z.cps.toList, SgOk c) ∧ ∀ H', Ex cs H H' → Q (.bl true) H'
theorem sc_text : FnScope ["value", "most"] ["value", "most"] (defScope s_is_text) := ⟨rfl, rfl, rfl, by decide +kernel, rfl, by decide +kernel, by decide +kernel⟩
theorem ok_text {f c Pt g : Addr} {fd fdg : FuncData} {cs : List (Addr × Addr)} (T : Txt mg) (F : Fun K "is_text_of_signs" "is_text_of_signs" s_is_text f fd) (hc : fd.code = .ref c) (TB : GxR.TabB base mg c Pt) (hm : (c, Pt) ∈ cs)
    (G : FnOk P w K mg base CX0 1 g fdg ["sign"] spSg) (kp : PySem.W.keepIn K (.ref g) = true) (bd : Binds K fdg ["sign"] []) (mgg : mg "is_sign" = some (.ref g)) : FnOk P w K mg base CX0 5 f fd ["value", "most"] (spText cs) := by
  refine fun_okT F hc sc_text (fun vs H Q E h => ?_) (fun A outer s H vs Q E hr h => ?_)
  · obtain ⟨z, m, rfl, _⟩ := h
    rfl
  · obtain ⟨z, m, rfl, hT, h1, h2, h3, k⟩ := h
    refine ⟨_, pss_one (ps_ret (pe_and (pe_callB call_isi (by rfl) T.isin (by decide +kernel) (pa_cons (pv 0) (pa_cons (pe_bltn (v := .ty "str") (by rfl) T.str (by decide +kernel) rfl) pa_nil)))
      (pe_and (pe_cmpR op_le (pe_callB call_len_str (by rfl) T.len PySem.boot_len (pa_cons (pv 0) pa_nil)) (pv 1) (nomark _))
        (pe_one (pe_allG (k := 1) (P := Pt) hr (by rfl) T.all TB rfl ⟨rfl, rfl, by decide +kernel, by decide +kernel, rfl, rfl⟩ (pi_str (pv 0)) (fun A' code s4 H4 fp hr' => pe_call G hr' (by rfl) mgg kp bd .nil pass0 (pa_cons (pv 0) pa_nil)) (fun _ => rfl)))))), ?_⟩
    refine ⟨_, rfl, _, _, _, _, true, rfl, .ty _, .base (.str z), kit_ty (by decide +kernel), true, rfl, iteT ⟨_, rfl, z, rfl, line10 h2, _, rfl, _, _, rfl, rfl, true, dT h1, iteT ⟨_, rfl, z, rfl, hT _ hm, fun H2 hH2 => ?_⟩⟩⟩
    refine all_by (w := walk_str (z := z)) (fun _ => true) (fun _ H' => H' = H2) rfl (fun _ _ _ _ => trivial) (fun i v H3 H4 hi e y Z hZ => ?_) (fun H3 e _ => ?_) (fun i H3 _ e _ => by cases e)
    · obtain ⟨rfl, c, hc, rfl⟩ := y
      subst e
      refine ⟨_, rfl, c, rfl, h3 c ?_, hZ _ rfl⟩
      exact List.mem_of_getElem? (by rw [Array.getElem?_toList]; exact hc)
    · subst e
      exact k _ (Ex.tabbed hT hm hH2)
end
end TG
namespace TG
open PySem L2 Gx
/-- a page: its rows' tuples at as -/
structure PageAt (K : PySem.W.Frag) (H : Hp) (a : Addr) (as : List Addr) (rows : List (List Str)) : Prop where
  lst : SqL K H a (as.map V.ref)
  len : as.length = rows.length
  row : ∀ (i : Nat) (p : Addr) (r : List Str), as[i]? = some p → rows[i]? = some r → SqT K H p (sV r)
structure PgOk (rows : List (List Str)) : Prop where
  pos : 1 ≤ rows.length
  len : rows.length ≤ 30
  rows : ∀ r ∈ rows, RowOk r
theorem PageAt.ex {K : PySem.W.Frag} {cs : List (Addr × Addr)} {H H' : Hp} {a : Addr} {as : List Addr} {rows : List (List Str)} (p : PageAt K H a as rows) (e : Ex cs H H') : PageAt K H' a as rows :=
  ⟨e.sqL p.lst, p.len, fun i q r h1 h2 => e.sqT (p.row i q r h1 h2)⟩
theorem get_map {α β : Type} {f : α → β} {xs : List α} {i : Nat} {y : β} (h : (xs.map f)[i]? = some y) : ∃ x, xs[i]? = some x ∧ y = f x := by
  rw [List.getElem?_map] at h
  cases e : xs[i]? with
  | none => rw [e] at h; cases h
  | some x => rw [e] at h; cases h; exact ⟨x, rfl, rfl⟩
theorem getP {α : Type} {xs : List α} {i : Nat} (h : i < xs.length) : ∃ x, xs[i]? = some x := ⟨xs[i], List.getElem?_eq_getElem h⟩
section
variable {P : Program} {w : World} {K : PySem.W.Frag} {mg : Str → Option Value} {base : Heap} {cs : List (Addr × Addr)}
def spRow (K : PySem.W.Frag) (cs : List (Addr × Addr)) : Sp := fun vs H Q _ => ∃ (a : Addr) (r : List Str), vs = [.ref a] ∧ Tabs cs H ∧ SqT K H a (sV r) ∧ RowOk r ∧ ∀ H', Ex cs H H' → Q (.bl true) H'
theorem sc_row : FnScope ["value"] ["value"] (defScope s_is_row) := ⟨rfl, rfl, rfl, by decide +kernel, rfl, by decide +kernel, by decide +kernel⟩
theorem ok_isrow {f c Pt g : Addr} {fd fdg : FuncData} (T : Txt mg) (N : Consts mg) (F : Fun K "is_row" "is_row" s_is_row f fd) (hc : fd.code = .ref c) (TB : GxR.TabB base mg c Pt) (hm : (c, Pt) ∈ cs)
    (G : FnOk P w K mg base CX0 5 g fdg ["value", "most"] (spText cs)) (kp : PySem.W.keepIn K (.ref g) = true) (bd : Binds K fdg ["value", "most"] []) (mgg : mg "is_text_of_signs" = some (.ref g)) : FnOk P w K mg base CX0 9 f fd ["value"] (spRow K cs) := by
  refine fun_okT F hc sc_row (fun vs H Q E h => ?_) (fun A outer s H vs Q E hr h => ?_)
  · obtain ⟨a, r, rfl, _⟩ := h
    rfl
  · obtain ⟨a, r, rfl, hT, hS, ⟨p1, p2, p3⟩, k⟩ := h
    obtain ⟨t1, e1⟩ := N.cells
    obtain ⟨t2, e2⟩ := N.signs
    refine ⟨_, pss_cons (ps_if (PW.pt (pw_or (pt_not (pt_val (pe_callB call_isi (by rfl) T.isin (by decide +kernel) (pa_cons (pv 0) (pa_cons (pe_bltn (v := .ty "tuple") (by rfl) T.tuple (by decide +kernel) rfl) pa_nil)))))
        (pw_or1 (pt_not (pt_chain op_le op_le pe_int (pe_callB call_len_seq (by rfl) T.len PySem.boot_len (pa_cons (pv 0) pa_nil)) (pe_glob (v := .int 6) rfl e1 ⟨_, rfl⟩)))))) (pss_one (ps_ret pe_bl)) pss_nil)
      (pss_one (ps_ret (pe_allG (k := 5) (P := Pt) hr (by rfl) T.all TB rfl ⟨rfl, rfl, by decide +kernel, by decide +kernel, rfl, rfl⟩ (pi_tup (pv 0))
        (fun A' code s4 H4 fp hr' => pe_call G hr' (by rfl) mgg kp bd .nil pass0 (pa_cons (pv 0) (pa_cons (pe_glob (v := .int 10) rfl e2 ⟨_, rfl⟩) pa_nil))) (fun _ => rfl)))), ?_⟩
    have hl : (sV r).length = r.length := List.length_map ..
    refine ⟨_, rfl, _, _, _, _, true, rfl, .ty _, ty_tup hS, kit_ty (by decide +kernel), true, rfl, iteF ⟨_, rfl, a, _, rfl, .inr hS, 1, _, rfl, rfl, true, dT (by omega), iteT ⟨_, 6, rfl, rfl, true, dT (by omega), iteF ?_⟩⟩⟩
    refine ⟨_, rfl, a, rfl, ⟨_, hS⟩, hT _ hm, fun H2 hH2 => ?_⟩
    have x2 := Ex.tabbed hT hm hH2
    refine all_by (w := walk_tup (a := a) (xs := sV r)) (fun _ => true) (fun _ H' => Ex cs H H') x2 (fun i H' _ x => x.sqT hS) (fun i v H3 H4 hi x y Z hZ => ?_) (fun H3 x _ => k _ x) (fun i H3 _ e _ => by cases e)
    obtain ⟨rfl, hv⟩ := y
    obtain ⟨z, hz, rfl⟩ := get_map hv
    obtain ⟨c1, c2⟩ := p3 z (List.mem_of_getElem? hz)
    exact ⟨_, rfl, z, 10, rfl, x.tab, by omega, by omega, c2, fun H5 x5 => hZ _ (x.trans x5)⟩
def spCheck (K : PySem.W.Frag) (cs : List (Addr × Addr)) : Sp := fun vs H Q _ => ∃ (a : Addr) (as : List Addr) (rows : List (List Str)), vs = [.ref a] ∧ Tabs cs H ∧ PageAt K H a as rows ∧ PgOk rows ∧ ∀ H', Ex cs H H' → Q .non H'
theorem sc_misfit : FnScope ["rows", "number", "row"] ["rows"] (defScope s_misfit) := ⟨rfl, rfl, rfl, by decide +kernel, rfl, by decide +kernel, by decide +kernel⟩
theorem ok_misfit {f g : Addr} {fd fdg : FuncData} (T : Txt mg) (N : Consts mg) (F : Fun K "first_misfit" "first_misfit" s_misfit f fd)
    (G : FnOk P w K mg base CX0 9 g fdg ["value"] (spRow K cs)) (kp : PySem.W.keepIn K (.ref g) = true) (bd : Binds K fdg ["value"] []) (mgg : mg "is_row" = some (.ref g)) : FnOk P w K mg base CX0 10 f fd ["rows"] (spCheck K cs) := by
  refine F.ok sc_misfit (fun vs H Q E h => ?_) (fun cdv A outer s H vs Q E hr h => ?_)
  · obtain ⟨a, as, rows, rfl, _⟩ := h
    rfl
  · obtain ⟨a, as, rows, rfl, hT, hP, hO, k⟩ := h
    have nd := sc_misfit.nd
    obtain ⟨t1, e1⟩ := N.rows
    refine ⟨_, pss_cons (ps_for PassesOwn.never rfl (pi_enum (by rfl) T.enum (pa_cons (pv 0) pa_nil)) (pg_tup rfl (pgs_cons (pg_name (i := 1) nd rfl (.inl rfl)) (pgs_cons (pg_name (i := 2) nd rfl (.inl rfl)) pgs_nil)))
        (pss_one (ps_if (PW.pt (pw_or (pt_cmpR op_eq (pv 1) (pe_glob (v := .int 30) rfl e1 ⟨_, rfl⟩) (nomark _)) (pw_or1 (pt_not (pt_val (pe_call G hr (by rfl) mgg kp bd .nil pass0 (pa_cons (pv 2) pa_nil))))))) (pss_one ps_never) pss_nil)))
      (pss_one (ps_ret pe_non)), ?_⟩
    have hl : (as.map V.ref).length = rows.length := by rw [List.length_map]; exact hP.len
    have := hO.pos
    have := hO.len
    refine ⟨_, rfl, a, _, rfl, hP.lst, for_it (walk_enum (xs := as.map V.ref)) (fun _ σ H' => Ex cs H H' ∧ σ[0]? = some (some (.ref a)) ∧ σ.length = 3) ⟨Ex.refl hT, rfl, rfl⟩ (fun i σ H' _ x => x.1.sqL hP.lst) ?_ ?_⟩
    · rintro i x σ H3 H4 hi ⟨x3, s0, sl⟩ ⟨Tp, v, u, rfl, hn, rfl, hv, hu⟩
      cases hv
      obtain ⟨p, hp, rfl⟩ := get_map hu
      have hi2 : i < rows.length := by omega
      obtain ⟨r, hr2⟩ := getP hi2
      have xl := Ex.laid (o := .tup [.int (i : Nat), .ref p]) x3.tab hn
      refine ⟨Tp, _, rfl, .inl (.inl upd_same), rfl, _, _, rfl, _, _, rfl, rfl, ?_⟩
      have g1 : ((σ.set 1 (some (V.int (i : Nat)))).set 2 (some (V.ref p)))[1]? = some (some (V.int (i : Nat))) := by
        rw [List.getElem?_set_ne (by decide)]
        exact List.getElem?_set_self (by omega)
      have g2 : ((σ.set 1 (some (V.int (i : Nat)))).set 2 (some (V.ref p)))[2]? = some (some (V.ref p)) := List.getElem?_set_self (by rw [List.length_set]; omega)
      refine ⟨_, g1, rfl, false, dF (fun z => by injection z with z; omega), iteF ⟨_, g2, p, r, rfl, xl.tab, (x3.trans xl).sqT (hP.row i p r hp hr2), hO.rows r (List.mem_of_getElem? hr2), fun H5 x5 => ⟨true, rfl, iteF ⟨(x3.trans xl).trans x5, ?_, ?_⟩⟩⟩⟩
      · rw [List.getElem?_set_ne (by decide), List.getElem?_set_ne (by decide)]; exact s0
      · rw [List.length_set, List.length_set]; exact sl
    · rintro σ H' ⟨x, _⟩
      exact k H' x
theorem sc_check : FnScope ["page", "number"] ["page"] (defScope s_check_page) := ⟨rfl, rfl, rfl, by decide +kernel, rfl, by decide +kernel, by decide +kernel⟩
theorem ok_check {f g : Addr} {fd fdg : FuncData} (T : Txt mg) (F : Fun K "check_page" "check_page" s_check_page f fd)
    (G : FnOk P w K mg base CX0 10 g fdg ["rows"] (spCheck K cs)) (kp : PySem.W.keepIn K (.ref g) = true) (bd : Binds K fdg ["rows"] []) (mgg : mg "first_misfit" = some (.ref g)) : FnOk P w K mg base CX0 11 f fd ["page"] (spCheck K cs) := by
  refine F.ok sc_check (fun vs H Q E h => ?_) (fun cdv A outer s H vs Q E hr h => ?_)
  · obtain ⟨a, as, rows, rfl, _⟩ := h
    rfl
  · obtain ⟨a, as, rows, rfl, hT, hP, hO, k⟩ := h
    have nd := sc_check.nd
    refine ⟨_, pss_cons (ps_if (PW.pt (pw_or (pt_not (pt_val (pe_callB call_isi (by rfl) T.isin (by decide +kernel) (pa_cons (pv 0) (pa_cons (pe_bltn (v := .ty "list") (by rfl) T.list (by decide +kernel) rfl) pa_nil)))))
        (pw_or1 (pt_cmpR op_eq (pe_callB call_len_seq (by rfl) T.len PySem.boot_len (pa_cons (pv 0) pa_nil)) pe_int (nomark _))))) (pss_one ps_never) pss_nil)
      (pss_cons (ps_set (i := 1) nd rfl (.inl rfl) (pe_call G hr (by rfl) mgg kp bd .nil pass0 (pa_cons (pv 0) pa_nil)))
      (pss_one (ps_if (pt_cmpR op_notN (pv 1) pe_non (nomark _)) (pss_one ps_never) pss_nil))), ?_⟩
    have hl : (as.map V.ref).length = rows.length := by rw [List.length_map]; exact hP.len
    have := hO.pos
    have := hO.len
    refine ⟨_, rfl, _, _, _, _, true, rfl, .ty _, ty_list hP.lst, kit_ty (by decide +kernel), true, rfl, iteF ⟨_, rfl, a, _, rfl, .inl hP.lst, rfl, false, dF (fun z => by injection z with z; omega), iteF ?_⟩⟩
    exact ⟨_, rfl, a, as, rows, rfl, hT, hP, hO, fun H' x => ⟨_, rfl, rfl, false, rfl, iteF (k H' x)⟩⟩
structure StyleAt (K : PySem.W.Frag) (H : Hp) (a : Addr) (gap least : Int) : Prop where
  tup : SqT K H a [.int gap, .int least]
  g0 : 0 ≤ gap
  g1 : gap ≤ 4
  l0 : 0 ≤ least
  l1 : least ≤ 12
def spStyle (K : PySem.W.Frag) : Sp := fun vs H Q _ => ∃ (a : Addr) (gap least : Int), vs = [.ref a] ∧ StyleAt K H a gap least ∧ Q .non H
theorem sc_style : FnScope ["style", "gap", "least"] ["style"] (defScope s_check_style) := ⟨rfl, rfl, rfl, by decide +kernel, rfl, by decide +kernel, by decide +kernel⟩
theorem ok_cstyle {f g : Addr} {fd fdg : FuncData} (T : Txt mg) (N : Consts mg) (F : Fun K "check_style" "check_style" s_check_style f fd)
    (G : FnOk P w K mg base CX0 1 g fdg ["value", "low", "high"] spWhole) (kp : PySem.W.keepIn K (.ref g) = true) (bd : Binds K fdg ["value", "low", "high"] []) (mgg : mg "is_whole" = some (.ref g)) : FnOk P w K mg base CX0 2 f fd ["style"] (spStyle K) := by
  refine F.ok sc_style (fun vs H Q E h => ?_) (fun cdv A outer s H vs Q E hr h => ?_)
  · obtain ⟨a, gap, least, rfl, _⟩ := h
    rfl
  · obtain ⟨a, gap, least, rfl, ⟨hS, g0, g1, l0, l1⟩, k⟩ := h
    have nd := sc_style.nd
    obtain ⟨t1, e1⟩ := N.gap
    obtain ⟨t2, e2⟩ := N.least
    refine ⟨_, pss_cons (ps_if (PW.pt (pw_or (pt_not (pt_val (pe_callB call_isi (by rfl) T.isin (by decide +kernel) (pa_cons (pv 0) (pa_cons (pe_bltn (v := .ty "tuple") (by rfl) T.tuple (by decide +kernel) rfl) pa_nil)))))
        (pw_or1 (pt_cmpR op_ne (pe_callB call_len_seq (by rfl) T.len PySem.boot_len (pa_cons (pv 0) pa_nil)) pe_int (nomark _))))) (pss_one ps_never) pss_nil)
      (pss_cons (ps_asg (pv 0) (pg_tup rfl (pgs_cons (pg_name (i := 1) nd rfl (.inl rfl)) (pgs_cons (pg_name (i := 2) nd rfl (.inl rfl)) pgs_nil))))
      (pss_one (ps_if (PW.pt (pw_or (pt_not (pt_val (pe_call G hr (by rfl) mgg kp bd .nil pass0 (pa_cons (pv 1) (pa_cons pe_int (pa_cons (pe_glob (v := .int 4) rfl e1 ⟨_, rfl⟩) pa_nil))))))
        (pw_or1 (pt_not (pt_val (pe_call G hr (by rfl) mgg kp bd .nil pass0 (pa_cons (pv 2) (pa_cons pe_int (pa_cons (pe_glob (v := .int 12) rfl e2 ⟨_, rfl⟩) pa_nil))))))))) (pss_one ps_never) pss_nil))), ?_⟩
    refine ⟨_, rfl, _, _, _, _, true, rfl, .ty _, ty_tup hS, kit_ty (by decide +kernel), true, rfl, iteF ⟨_, rfl, a, _, rfl, .inr hS, rfl, false, rfl, iteF ?_⟩⟩
    exact ⟨_, rfl, a, _, rfl, hS, rfl, _, _, rfl, _, _, rfl, rfl, _, rfl, gap, 0, 4, rfl, g0, g1, true, rfl, iteF ⟨_, rfl, least, 0, 12, rfl, l0, l1, true, rfl, iteF k⟩⟩
end
end TG
namespace TG
open PySem L2 Gx
abbrev cl (z : Str) : List Nat := z.cps.toList
def restL (l : List Nat) : List Nat := if l.head? = some 45 then l.tail else l
def figB (z : Str) : Bool := decide (restL (cl z) ≠ []) && (restL (cl z)).all fun c => decide (48 ≤ c ∧ c ≤ 57)
theorem digit_lt : ∀ c < 127, Unicode.isDigit c = decide (48 ≤ c ∧ c ≤ 57) := by decide +kernel
theorem isdigit_eq {z : Str} (h : ∀ c ∈ cl z, c < 127) : Txt.isdigit z = (decide (cl z ≠ []) && (cl z).all fun c => decide (48 ≤ c ∧ c ≤ 57)) := by
  obtain ⟨⟨l⟩⟩ := z
  unfold Txt.isdigit
  simp only [Str.length, cl] at h ⊢
  congr 1
  · cases l <;> simp
  · rw [Bool.eq_iff_iff]
    simp only [List.all_eq_true, List.all_toArray]
    constructor
    · intro q c hc
      rw [← digit_lt c (h c hc)]; exact q c hc
    · intro q c hc
      rw [digit_lt c (h c hc)]; exact q c hc
theorem cut1 (z : Str) : cl (cutS z (some 1) none) = (cl z).tail := by
  obtain ⟨⟨l⟩⟩ := z
  unfold cutS
  simp only [cl, Str.length]
  rw [HT.sIx_none, show (some (1 : Int)) = some ((1 : Nat) : Int) from rfl, HT.sIx_nat]
  cases l with
  | nil => simp
  | cons a l => simp
theorem starts_dash (z : Str) : Txt.startswith z "-" = decide ((cl z).head? = some 45) := by
  obtain ⟨⟨l⟩⟩ := z
  have e : ("-" : Str) = ⟨#[45]⟩ := by decide +kernel
  rw [e]
  unfold Txt.startswith Builtin.Str.subAt
  cases l with
  | nil => simp [Str.length, cl]
  | cons a l =>
    simp only [Str.length, cl, List.head?_cons]
    by_cases h : a = 45
    · subst h
      simp
    · simp [h]
theorem str_ext {a b : Str} (h : cl a = cl b) : a = b := by
  obtain ⟨⟨a⟩⟩ := a
  obtain ⟨⟨b⟩⟩ := b
  have h : a = b := h
  rw [h]
section
variable {P : Program} {w : World} {K : PySem.W.Frag} {mg : Str → Option Value} {base : Heap} {cs : List (Addr × Addr)}
def spFig : Sp := fun vs H Q _ => ∃ z : Str, vs = [.str z] ∧ CellOk z ∧ Q (.bl (figB z)) H
theorem sc_isfig : FnScope ["cell"] ["cell"] (defScope s_is_figures) := ⟨rfl, rfl, rfl, by decide +kernel, rfl, by decide +kernel, by decide +kernel⟩
theorem ok_isfig {f : Addr} {fd : FuncData} (F : Fun K "is_figures" "is_figures" s_is_figures f fd) : FnOk P w K mg base CX0 1 f fd ["cell"] spFig := by
  refine F.ok sc_isfig (fun vs H Q E h => ?_) (fun cdv A outer s H vs Q E hr h => ?_)
  · obtain ⟨z, rfl, _⟩ := h
    rfl
  · obtain ⟨z, rfl, ⟨h1, h2⟩, k⟩ := h
    refine ⟨_, pss_cons (ps_if (pt_val (pe_m1 PySem.F.slot_str_startswith PySem.F.type_str_startswith mt_startswith (pv 0) pe_str)) (pss_one (ps_ret (pe_m0 PySem.F.slot_str_isdigit PySem.F.type_str_isdigit mt_isdigit (pe_slice sl_str (pv 0) (po_some pe_int) po_none)))) pss_nil)
      (pss_one (ps_ret (pe_m0 PySem.F.slot_str_isdigit PySem.F.type_str_isdigit mt_isdigit (pv 0)))), ?_⟩
    have lt : ∀ c ∈ cl z, c < 127 := fun c hc => by have := h2 c hc; unfold SgOk at this; omega
    refine ⟨_, rfl, ⟨_, rfl⟩, z, _, rfl, rfl, _, rfl, ?_⟩
    rw [starts_dash]
    by_cases hd : (cl z).head? = some 45
    · rw [decide_eq_true hd]
      refine iteT ⟨_, rfl, 1, rfl, z, rfl, line10 (by omega), ⟨_, rfl⟩, _, rfl, rfl, trivial, ?_⟩
      have e : Txt.isdigit (cutS z (some 1) none) = figB z := by
        rw [isdigit_eq (fun c hc => lt c (by rw [cut1] at hc; exact List.mem_of_mem_tail hc)), cut1]
        unfold figB restL
        rw [if_pos hd]
      rw [e]
      exact k
    · rw [decide_eq_false hd]
      refine iteF ⟨_, rfl, ⟨_, rfl⟩, _, rfl, rfl, trivial, ?_⟩
      have e : Txt.isdigit z = figB z := by
        rw [isdigit_eq lt]
        unfold figB restL
        rw [if_neg hd]
      rw [e]
      exact k
end
end TG
namespace TG
open PySem L2 Gx
def fillB (zs : List Str) : List Str := zs.filter fun z => decide (cl z ≠ [])
def rightB (zs : List Str) : Bool := decide (fillB zs ≠ []) && (fillB zs).all figB
theorem ne_empty (z : Str) : (!decide (V.str z = V.str "")) = decide (cl z ≠ []) := by
  have e : ("" : Str) = ⟨#[]⟩ := by decide +kernel
  by_cases h : cl z = []
  · have q : z = "" := str_ext (by rw [h, e])
    rw [decide_eq_true (show V.str z = V.str "" by rw [q]), decide_eq_false (fun n => n h)]
    rfl
  · rw [decide_eq_false (show ¬ V.str z = V.str "" from fun q => h (by injection q with q; rw [q, e])), decide_eq_true h]
    rfl
theorem filter_take {α : Type} {p : α → Bool} {xs : List α} {i : Nat} {x : α} (h : xs[i]? = some x) : (xs.take (i + 1)).filter p = (xs.take i).filter p ++ (if p x = true then [x] else []) := by
  rw [List.take_add_one, h, List.filter_append]
  congr 1
  by_cases hp : p x = true
  · rw [if_pos hp]
    simp [hp]
  · rw [if_neg hp]
    simp [hp]
section
variable {P : Program} {w : World} {K : PySem.W.Frag} {mg : Str → Option Value} {base : Heap} {cs : List (Addr × Addr)}
def spRight (K : PySem.W.Frag) (cs : List (Addr × Addr)) : Sp := fun vs H Q _ => ∃ (a : Addr) (zs : List Str), vs = [.ref a] ∧ Tabs cs H ∧ SqL K H a (sV zs) ∧ zs.length ≤ 1000 ∧ (∀ z ∈ zs, CellOk z) ∧ ∀ H', Ex cs H H' → Q (.bl (rightB zs)) H'
theorem sc_right : FnScope ["cells", "filled", "cell"] ["cells"] (defScope s_stands_right) := ⟨rfl, rfl, rfl, by decide +kernel, rfl, by decide +kernel, by decide +kernel⟩
theorem ok_right {f c Pt g : Addr} {fd fdg : FuncData} (T : Txt mg) (F : Fun K "stands_right" "stands_right" s_stands_right f fd) (hc : fd.code = .ref c) (TB : GxR.TabB base mg c Pt) (hm : (c, Pt) ∈ cs)
    (G : FnOk P w K mg base CX0 1 g fdg ["cell"] spFig) (kp : PySem.W.keepIn K (.ref g) = true) (bd : Binds K fdg ["cell"] []) (mgg : mg "is_figures" = some (.ref g)) : FnOk P w K mg base CX0 5 f fd ["cells"] (spRight K cs) := by
  refine fun_okT F hc sc_right (fun vs H Q E h => ?_) (fun A outer s H vs Q E hr h => ?_)
  · obtain ⟨a, zs, rfl, _⟩ := h
    rfl
  · obtain ⟨a, zs, rfl, hT, hS, hl, hz, k⟩ := h
    have nd := sc_right.nd
    refine ⟨_, pss_cons (ps_setLc (i := 1) (own := [("cell", 2)]) (g := gName 2) rfl nd rfl rfl (sw_true rfl rfl rfl (by decide +kernel)) (pi_list (pv 0)) (blkOk_by (own := [("cell", 2)]) (N := ["cells", "filled", "cell"]) (sc := defScope s_stands_right) (by decide +kernel))
        (fun _ _ _ _ _ => pg_name (i := 2) nd rfl (Or.inl rfl)) (fun _ _ _ _ _ => pts_one (pt_cmpR op_ne (pv 2) pe_str (nomark _))) (fun _ _ _ _ _ => pv 2))
      (pss_one (ps_ret (pe_and (pe_cmpR op_gt (pe_callB call_len_seq (by rfl) T.len PySem.boot_len (pa_cons (pv 1) pa_nil)) pe_int (nomark _))
        (pe_one (pe_allG (k := 1) (P := Pt) hr (by rfl) T.all TB rfl ⟨rfl, rfl, by decide +kernel, by decide +kernel, rfl, rfl⟩ (pi_list (pv 1)) (fun A' code s4 H4 fp hr' => pe_call G hr' (by rfl) mgg kp bd .nil pass0 (pa_cons (pv 0) pa_nil)) (fun _ => rfl)))))), ?_⟩
    have ls : (sV zs).length = zs.length := List.length_map ..
    refine ⟨_, rfl, a, rfl, ⟨_, hS⟩, fun D nD => lc_list (xs := sV zs) (fun i H' => Ex cs H H' ∧ H' D = some (.lst (sV (fillB (zs.take i))))) ⟨Ex.laid hT nD, upd_same⟩ (fun i H' _ p => p.1.sqL hS) ?_ ?_⟩
    · rintro i x H1 hx ⟨x1, hD⟩
      obtain ⟨z, hz1, rfl⟩ := get_map hx
      have hi : i < zs.length := (List.getElem?_eq_some_iff.mp hz1).1
      have hf := filter_take (p := fun z => decide (cl z ≠ [])) hz1
      refine ⟨rfl, _, rfl, rfl, _, rfl, ?_⟩
      rw [ne_empty]
      by_cases hc : cl z ≠ []
      · rw [decide_eq_true hc]
        rw [if_pos (decide_eq_true hc)] at hf
        refine iteT ⟨_, rfl, _, hD, ?_, ex_new hT x1 nD, ?_⟩
        · have q : (fillB (zs.take i)).length ≤ (zs.take i).length := List.length_filter_le ..
          have q2 : (sV (fillB (zs.take i))).length = (fillB (zs.take i)).length := List.length_map ..
          rw [List.length_take] at q
          have : (1000 : Nat) < sizeLine := by decide
          omega
        · rw [upd_same]
          unfold fillB
          rw [hf]
          simp [sV]
      · rw [decide_eq_false hc]
        rw [if_neg (by rw [decide_eq_false hc]; exact Bool.false_ne_true), List.append_nil] at hf
        refine iteF ⟨x1, ?_⟩
        unfold fillB
        rw [hf]
        exact hD
    · rintro H1 ⟨x1, hD⟩
      rw [ls, List.take_of_length_le (Nat.le_refl _)] at hD
      have hf : ∀ z ∈ fillB zs, CellOk z := fun z h => hz z (List.mem_filter.mp h).1
      refine ⟨_, rfl, D, _, rfl, .inl (SqL.of hD), _, 0, rfl, rfl, _, rfl, ?_⟩
      have lf : (sV (fillB zs)).length = (fillB zs).length := List.length_map ..
      by_cases hn : fillB zs = []
      · have e0 : decide (((sV (fillB zs)).length : Int) > 0) = false := decide_eq_false (by rw [hn]; simp)
        rw [e0]
        refine iteF ?_
        have e : rightB zs = false := by
          unfold rightB
          rw [decide_eq_false (fun q => q hn)]
          rfl
        rw [← e]
        exact k _ x1
      · have hp : 0 < (fillB zs).length := List.length_pos_iff.mpr hn
        have e0 : decide (((sV (fillB zs)).length : Int) > 0) = true := decide_eq_true (by omega)
        rw [e0]
        refine iteT ⟨_, rfl, D, rfl, ⟨_, SqL.of hD⟩, x1.tab _ hm, fun H2 hH2 => ?_⟩
        have x2 := Ex.tabbed x1.tab hm hH2
        have hR : rightB zs = (fillB zs).all figB := by
          unfold rightB
          rw [decide_eq_true hn, Bool.true_and]
        refine all_by (w := walk_list (a := D) (xs := sV (fillB zs))) (fun i => match (fillB zs)[i]? with | some z => figB z | none => true) (fun _ H' => Ex cs H H' ∧ H' D = some (.lst (sV (fillB zs)))) ⟨x1.trans x2, x2.ext _ _ hD fun ps q => by cases q⟩ (fun i H' _ x => SqL.of x.2) (fun i v H3 H4 hi x y Z hZ => ?_) (fun H3 x hall => ?_) (fun i H3 hi hff x => ?_)
        · obtain ⟨rfl, hv⟩ := y
          obtain ⟨z, hz2, rfl⟩ := get_map hv
          refine ⟨_, rfl, z, rfl, hf z (List.mem_of_getElem? hz2), ?_⟩
          have := hZ _ x
          rw [hz2] at this
          exact this
        · have e : rightB zs = true := by
            rw [hR, List.all_eq_true]
            intro z hzm
            obtain ⟨i, hi, e⟩ := List.getElem_of_mem hzm
            have q := hall i (by omega)
            rw [List.getElem?_eq_getElem hi, e] at q
            exact q
          rw [← e]
          exact k _ x.1
        · have e : rightB zs = false := by
            rw [hR, Bool.eq_false_iff]
            intro q
            rw [List.all_eq_true] at q
            have hi2 : i < (fillB zs).length := by omega
            rw [List.getElem?_eq_getElem hi2] at hff
            have := q _ (List.getElem_mem hi2)
            rw [show figB (fillB zs)[i] = false from hff] at this
            cases this
          rw [← e]
          exact k _ x.1
end
end TG
namespace TG
open PySem L2 Gx
def clB (rows : List (List Str)) (c i : Nat) : Bool := match rows[i]? with
  | some r => decide (c + 1 < r.length)
  | none => false
def hiB (rows : List (List Str)) (c i : Nat) : Nat := i + ((rows.drop i).takeWhile fun r => decide (c + 1 < r.length)).length
def stB (rows : List (List Str)) (c i : Nat) : Bool := clB rows c i && (decide (i = 0) || !clB rows c (i - 1))
def runsB (rows : List (List Str)) (c : Nat) : List (Nat × Nat) := ((List.range rows.length).filter (stB rows c)).map fun i => (i, hiB rows c i)
theorem hi_yes {rows : List (List Str)} {c i : Nat} (h : clB rows c i = true) : hiB rows c i = hiB rows c (i + 1) := by
  unfold clB at h
  cases e : rows[i]? with
  | none => rw [e] at h; cases h
  | some r =>
    rw [e] at h
    obtain ⟨hi, e2⟩ := List.getElem?_eq_some_iff.mp e
    have h' : decide (c + 1 < r.length) = true := h
    unfold hiB
    rw [List.drop_eq_getElem_cons hi, e2, List.takeWhile_cons, h', if_pos rfl, List.length_cons]
    omega
theorem hi_no {rows : List (List Str)} {c i : Nat} (h : clB rows c i = false) : hiB rows c i = i := by
  unfold clB at h
  unfold hiB
  cases e : rows[i]? with
  | none =>
    have hl : rows.length ≤ i := List.getElem?_eq_none_iff.mp e
    rw [List.drop_of_length_le hl]
    rfl
  | some r =>
    rw [e] at h
    obtain ⟨hi, e2⟩ := List.getElem?_eq_some_iff.mp e
    have h' : decide (c + 1 < r.length) = false := h
    rw [List.drop_eq_getElem_cons hi, e2, List.takeWhile_cons, h', if_neg Bool.false_ne_true]
    rfl
theorem hi_ge (rows : List (List Str)) (c i : Nat) : i ≤ hiB rows c i := Nat.le_add_right ..
theorem cl_lt {rows : List (List Str)} {c i : Nat} (h : clB rows c i = true) : i < rows.length := by
  unfold clB at h
  cases e : rows[i]? with
  | none => rw [e] at h; cases h
  | some r => exact (List.getElem?_eq_some_iff.mp e).1
theorem hi_le {rows : List (List Str)} {c i : Nat} (h : i ≤ rows.length) : hiB rows c i ≤ rows.length := by
  unfold hiB
  have := (List.takeWhile_prefix (l := rows.drop i) (fun r : List Str => decide (c + 1 < r.length))).length_le
  rw [List.length_drop] at this
  omega
theorem hi_in {rows : List (List Str)} {c : Nat} : ∀ (d i j : Nat), j = i + d → j < hiB rows c i → clB rows c j = true := by
  intro d
  induction d with
  | zero =>
    intro i j e h
    have e' : j = i := by omega
    subst e'
    cases hc : clB rows c j with
    | true => rfl
    | false =>
      rw [hi_no hc] at h
      omega
  | succ d ih =>
    intro i j e h
    cases hc : clB rows c i with
    | true =>
      rw [hi_yes hc] at h
      exact ih (i + 1) j (by omega) h
    | false =>
      rw [hi_no hc] at h
      omega
/-- one turn of the outer loop -/
theorem starts_turn {rows : List (List Str)} {c k : Nat} (hk : k = 0 ∨ clB rows c (k - 1) = false) :
    (List.range (hiB rows c k + 1)).filter (stB rows c) = (List.range k).filter (stB rows c) ++ (if clB rows c k = true then [k] else []) := by
  have key : ∀ d, k + d ≤ hiB rows c k → (List.range (k + d + 1)).filter (stB rows c) = (List.range k).filter (stB rows c) ++ (if clB rows c k = true then [k] else []) := by
    intro d
    induction d with
    | zero =>
      intro _
      rw [Nat.add_zero, List.range_succ, List.filter_append]
      congr 1
      have e : stB rows c k = clB rows c k := by
        unfold stB
        rcases hk with h | h
        · rw [decide_eq_true h]; simp
        · rw [h]; simp
      by_cases hc : clB rows c k = true
      · rw [if_pos hc]
        simp [e, hc]
      · rw [if_neg hc]
        simp [e, hc]
    | succ d ih =>
      intro hle
      rw [← Nat.add_assoc, List.range_succ, List.filter_append, ih (by omega)]
      have h1 : clB rows c (k + d) = true := hi_in d k (k + d) rfl (by omega)
      have e : stB rows c (k + d + 1) = false := by
        unfold stB
        rw [Nat.add_sub_cancel, h1, decide_eq_false (by omega)]
        simp
      simp [e]
  have h0 := hi_ge rows c k
  have := key (hiB rows c k - k) (by omega)
  rw [show k + (hiB rows c k - k) + 1 = hiB rows c k + 1 by omega] at this
  exact this
theorem starts_end {rows : List (List Str)} {c k : Nat} (h1 : rows.length ≤ k) : (List.range k).filter (stB rows c) = (List.range rows.length).filter (stB rows c) := by
  obtain ⟨d, rfl⟩ : ∃ d, k = rows.length + d := ⟨k - rows.length, by omega⟩
  clear h1
  induction d with
  | zero => rfl
  | succ d ih =>
    rw [← Nat.add_assoc, List.range_succ, List.filter_append, ih]
    have e : stB rows c (rows.length + d) = false := by
      unfold stB
      cases hc : clB rows c (rows.length + d) with
      | true => have := cl_lt hc; omega
      | false => rfl
    simp [e]
/-- pairs of numbers at ts -/
structure PairsAt (H : Hp) (ts : List Addr) (ps : List (Nat × Nat)) : Prop where
  len : ts.length = ps.length
  at_ : ∀ (i : Nat) (t : Addr) (p : Nat × Nat), ts[i]? = some t → ps[i]? = some p → H t = some (.tup [.int (p.1 : Nat), .int (p.2 : Nat)])
theorem PairsAt.snoc {H : Hp} {ts : List Addr} {ps : List (Nat × Nat)} {t : Addr} {p : Nat × Nat} (h : PairsAt H ts ps) (e : H t = some (.tup [.int (p.1 : Nat), .int (p.2 : Nat)])) : PairsAt H (ts ++ [t]) (ps ++ [p]) := by
  refine ⟨by rw [List.length_append, List.length_append, h.len]; rfl, fun i u q h1 h2 => ?_⟩
  by_cases hi : i < ts.length
  · rw [List.getElem?_append_left hi] at h1
    rw [List.getElem?_append_left (by rw [← h.len]; exact hi)] at h2
    exact h.at_ i u q h1 h2
  · have hl := (List.getElem?_eq_some_iff.mp h1).1
    rw [List.length_append, List.length_singleton] at hl
    have e1 : i = ts.length := by omega
    subst e1
    rw [List.getElem?_append_right (Nat.le_refl _), Nat.sub_self] at h1
    rw [h.len, List.getElem?_append_right (Nat.le_refl _), Nat.sub_self] at h2
    cases h1
    cases h2
    exact e
theorem PairsAt.keep {H H' : Hp} {ts : List Addr} {ps : List (Nat × Nat)} (h : PairsAt H ts ps) (k : ∀ b xs, H b = some (.tup xs) → H' b = some (.tup xs)) : PairsAt H' ts ps := ⟨h.len, fun i t p h1 h2 => k _ _ (h.at_ i t p h1 h2)⟩
section
variable {P : Program} {w : World} {K : PySem.W.Frag} {mg : Str → Option Value} {base : Heap} {cs : List (Addr × Addr)}
def spClosed (K : PySem.W.Frag) : Sp := fun vs H Q _ => ∃ (p : Addr) (r : List Str) (c : Nat), vs = [.ref p, .int (c : Nat)] ∧ SqT K H p (sV r) ∧ Q (.bl (decide (c + 1 < r.length))) H
theorem sc_closed : FnScope ["row", "column"] ["row", "column"] (defScope s_is_closed) := ⟨rfl, rfl, rfl, by decide +kernel, rfl, by decide +kernel, by decide +kernel⟩
theorem ok_closed {f : Addr} {fd : FuncData} (T : Txt mg) (F : Fun K "is_closed" "is_closed" s_is_closed f fd) : FnOk P w K mg base CX0 1 f fd ["row", "column"] (spClosed K) := by
  refine F.ok sc_closed (fun vs H Q E h => ?_) (fun cdv A outer s H vs Q E hr h => ?_)
  · obtain ⟨p, r, c, rfl, _⟩ := h
    rfl
  · obtain ⟨p, r, c, rfl, hS, k⟩ := h
    refine ⟨_, pss_one (ps_ret (pe_cmpR op_lt (pe_op op_add (pv 1) pe_int) (pe_callB call_len_seq (by rfl) T.len PySem.boot_len (pa_cons (pv 0) pa_nil)) (nomark _))), ?_⟩
    refine ⟨_, rfl, c, 1, rfl, rfl, _, rfl, p, _, rfl, .inr hS, _, _, rfl, rfl, ?_⟩
    have ls : (sV r).length = r.length := List.length_map ..
    have e : decide ((c : Int) + 1 < ((sV r).length : Int)) = decide (c + 1 < r.length) := by
      rw [ls]
      by_cases h : c + 1 < r.length
      · rw [decide_eq_true h, decide_eq_true (by omega)]
      · rw [decide_eq_false h, decide_eq_false (by omega)]
    show Q (.bl (decide ((c : Int) + 1 < ((sV r).length : Int)))) H
    rw [e]
    exact k
def spRuns (K : PySem.W.Frag) (cs : List (Addr × Addr)) : Sp := fun vs H Q _ => ∃ (a : Addr) (as : List Addr) (rows : List (List Str)) (c : Nat), vs = [.ref a, .int (c : Nat)] ∧ Tabs cs H ∧ PageAt K H a as rows ∧ rows.length ≤ 30 ∧
  ∀ (r : Addr) (ts : List Addr) (H' : Hp), Ex cs H H' → H r = none → H' r = some (.lst (ts.map V.ref)) → PairsAt H' ts (runsB rows c) → Q (.ref r) H'
theorem sc_runs : FnScope ["page", "column", "runs", "begin", "end"] ["page", "column"] (defScope s_closed_runs) := ⟨rfl, rfl, rfl, by decide +kernel, rfl, by decide +kernel, by decide +kernel⟩
theorem ok_runs {f g : Addr} {fd fdg : FuncData} (T : Txt mg) (F : Fun K "closed_runs" "closed_runs" s_closed_runs f fd)
    (G : FnOk P w K mg base CX0 1 g fdg ["row", "column"] (spClosed K)) (kp : PySem.W.keepIn K (.ref g) = true) (bd : Binds K fdg ["row", "column"] []) (mgg : mg "is_closed" = some (.ref g)) : FnOk P w K mg base CX0 2 f fd ["page", "column"] (spRuns K cs) := by
  refine F.ok sc_runs (fun vs H Q E h => ?_) (fun cdv A outer s H vs Q E hr h => ?_)
  · obtain ⟨a, as, rows, c, rfl, _⟩ := h
    rfl
  · obtain ⟨a, as, rows, c, rfl, hT, hP, hn, k⟩ := h
    have nd := sc_runs.nd
    refine ⟨_, pss_cons (ps_set (i := 2) nd rfl (.inl rfl) (pe_lst pa_nil)) (pss_cons (ps_set (i := 3) nd rfl (.inl rfl) pe_int)
      (pss_cons (ps_while PassesOwn.never (pt_cmpR op_lt (pv 3) (pe_callB call_len_seq (by rfl) T.len PySem.boot_len (pa_cons (pv 0) pa_nil)) (nomark _))
        (pss_cons (ps_set (i := 4) nd rfl (.inl rfl) (pv 3))
        (pss_cons (ps_while PassesOwn.never (PW.pt (pw_and (pt_cmpR op_lt (pv 4) (pe_callB call_len_seq (by rfl) T.len PySem.boot_len (pa_cons (pv 0) pa_nil)) (nomark _)) (pw_and1 (pt_val (pe_call G hr (by rfl) mgg kp bd .nil pass0 (pa_cons (pe_ix ix_list (pv 0) (pv 4) (fun _ _ => rfl)) (pa_cons (pv 1) pa_nil)))))))
            (pss_one (ps_aug (i := 4) nd rfl (.inl rfl) pe_int ip_add)))
        (pss_cons (ps_if (pt_cmpR op_gt (pv 4) (pv 3) (nomark _)) (pss_one (ps_expr (pe_bm PySem.F.plainAttrs_list PySem.F.slot_list_append PySem.F.type_list_append mt_append (pv 2) (pa_cons (pe_tup (pa_cons (pv 3) (pa_cons (pv 4) pa_nil))) pa_nil)))) pss_nil)
        (pss_one (ps_set (i := 3) nd rfl (.inl rfl) (pe_op op_add (pv 4) pe_int)))))))
      (pss_one (ps_ret (pv 2))))), ?_⟩
    refine ⟨small0, fun p np => ?_⟩
    -- the outer loop
    let runsAt : Nat → List (Nat × Nat) := fun k => ((List.range k).filter (stB rows c)).map fun i => (i, hiB rows c i)
    let Out : Nat → L2.St → Hp → Prop := fun m σ H1 => ∃ (b : Nat) (ts : List Addr) (e : Option V), σ = [some (.ref a), some (.int (c : Nat)), some (.ref p), some (.int (b : Nat)), e] ∧ m = rows.length + 1 - b ∧ b ≤ rows.length + 1 ∧ (b = 0 ∨ clB rows c (b - 1) = false) ∧ Ex cs H H1 ∧ H1 p = some (.lst (ts.map V.ref)) ∧ PairsAt H1 ts (runsAt b)
    refine ⟨Out, ⟨_, 0, [], none, rfl, rfl, Nat.zero_le _, .inl rfl, Ex.laid hT np, upd_same, rfl, fun i t q h => by simp at h⟩, ?_⟩
    rintro m σ H1 ⟨b, ts, e, rfl, rfl, hb, hst, x1, hp1, pr⟩
    have hl : (as.map V.ref).length = rows.length := by rw [List.length_map]; exact hP.len
    refine ⟨_, rfl, _, rfl, a, _, rfl, .inl (x1.sqL hP.lst), _, _, rfl, rfl, _, rfl, ?_⟩
    by_cases hlt : b < rows.length
    · rw [decide_eq_true (show (b : Int) < ((as.map V.ref).length : Int) by omega)]
      refine iteT ⟨Out (rows.length + 1 - (hiB rows c b + 1)), fun σ' H' o => ⟨_, by have := hi_ge rows c b; omega, o⟩, ?_⟩
      refine ⟨_, rfl, ?_⟩
      let Inn : Nat → L2.St → Hp → Prop := fun m σ H2 => ∃ e : Nat, σ = [some (.ref a), some (.int (c : Nat)), some (.ref p), some (.int (b : Nat)), some (.int (e : Nat))] ∧ m = rows.length - e ∧ b ≤ e ∧ e ≤ rows.length ∧ hiB rows c e = hiB rows c b ∧ H2 = H1
      refine ⟨Inn, ⟨_, b, rfl, rfl, Nat.le_refl _, Nat.le_of_lt hlt, rfl, rfl⟩, ?_⟩
      rintro m2 σ2 H2 ⟨e2, rfl, rfl, h1, h2, h3, rfl⟩
      refine ⟨_, rfl, _, rfl, a, _, rfl, .inl (x1.sqL hP.lst), _, _, rfl, rfl, _, rfl, ?_⟩
      have hsz : (ts.map V.ref).length < sizeLine := by
        have q1 : (runsAt b).length ≤ (List.range b).length := by
          show (((List.range b).filter (stB rows c)).map _).length ≤ _
          rw [List.length_map]
          exact List.length_filter_le ..
        rw [List.length_range] at q1
        rw [List.length_map, pr.len]
        have : (1000 : Nat) < sizeLine := by decide
        omega
      cases hcl : clB rows c e2 with
      | true =>
        have hlt2 := cl_lt hcl
        obtain ⟨q, hq⟩ := getP (xs := as) (i := e2) (by rw [hP.len]; exact hlt2)
        obtain ⟨r, hr2⟩ := getP hlt2
        have hcr : decide (c + 1 < r.length) = true := by
          unfold clB at hcl
          rw [hr2] at hcl
          exact hcl
        rw [decide_eq_true (show (e2 : Int) < ((as.map V.ref).length : Int) by omega)]
        refine iteT ⟨_, rfl, _, rfl, a, _, e2, .ref q, rfl, rfl, x1.sqL hP.lst, atI_nat (by rw [List.getElem?_map, hq]; rfl), _, rfl, q, r, c, rfl, x1.sqT (hP.row e2 q r hq hr2), true, by rw [hcr], iteT ?_⟩
        refine ⟨Inn (rows.length - (e2 + 1)), fun σ' H' o => ⟨_, by omega, o⟩, _, rfl, e2, 1, rfl, rfl, e2 + 1, rfl, rfl, by omega, by omega, by rw [← hi_yes hcl]; exact h3, rfl⟩
      | false =>
        have hnc := hcl
        have he : hiB rows c b = e2 := h3.symm.trans (hi_no hnc)
        by_cases hlt2 : e2 < rows.length
        · obtain ⟨q, hq⟩ := getP (xs := as) (i := e2) (by rw [hP.len]; exact hlt2)
          obtain ⟨r, hr2⟩ := getP hlt2
          have hcr : decide (c + 1 < r.length) = false := by
            unfold clB at hcl
            rw [hr2] at hcl
            exact hcl
          rw [decide_eq_true (show (e2 : Int) < ((as.map V.ref).length : Int) by omega)]
          refine iteT ⟨_, rfl, _, rfl, a, _, e2, .ref q, rfl, rfl, x1.sqL hP.lst, atI_nat (by rw [List.getElem?_map, hq]; rfl), _, rfl, q, r, c, rfl, x1.sqT (hP.row e2 q r hq hr2), false, by rw [hcr], iteF ?_⟩
          refine ⟨_, rfl, _, rfl, _, _, rfl, rfl, _, rfl, ?_⟩
          by_cases hgt : b < e2
          · rw [decide_eq_true (show (b : Int) < (e2 : Int) by omega)]
            refine iteT ⟨_, rfl, .inl ⟨rfl, _, SqL.of hp1⟩, _, rfl, _, rfl, (by show 2 ≤ sizeLine; decide), fun t nt => ⟨p, ts.map V.ref, .ref t, rfl, rfl, (by rw [upd_ne (ne_of_none hp1 nt)]; exact hp1), hsz, ?_⟩⟩
            refine ⟨_, rfl, e2, 1, rfl, rfl, ?_⟩
            have ntp : t ≠ p := fun z => by rw [z, hp1] at nt; cases nt
            have eR : runsAt (e2 + 1) = runsAt b ++ [(b, e2)] := by
              show ((List.range (e2 + 1)).filter (stB rows c)).map _ = _
              rw [← he, starts_turn hst, if_pos (hi_in 0 b b rfl (by omega)), List.map_append]
              rfl
            refine ⟨e2 + 1, ts ++ [t], some (.int (e2 : Nat)), rfl, by omega, by omega, .inr (by rw [Nat.add_sub_cancel]; exact hnc), ex_new hT (x1.trans (Ex.laid x1.tab nt)) np, ?_, ?_⟩
            · rw [upd_same, List.map_append]; rfl
            · rw [eR]
              refine (pr.keep fun q xs h => ?_).snoc ?_
              · rw [upd_ne (fun z => by rw [z, hp1] at h; cases h), upd_ne (ne_of_none h nt)]; exact h
              · rw [upd_ne ntp, upd_same]
          · rw [decide_eq_false (show ¬ (b : Int) < (e2 : Int) by omega)]
            refine iteF ⟨_, rfl, e2, 1, rfl, rfl, ?_⟩
            have eR : runsAt (e2 + 1) = runsAt b := by
              show ((List.range (e2 + 1)).filter (stB rows c)).map _ = _
              rw [← he, starts_turn hst, if_neg (fun z => by rw [hi_yes z] at he; have := hi_ge rows c (b + 1); omega), List.append_nil]
            refine ⟨e2 + 1, ts, some (.int (e2 : Nat)), rfl, by omega, by omega, .inr (by rw [Nat.add_sub_cancel]; exact hnc), x1, hp1, ?_⟩
            rw [eR]
            exact pr

        · rw [decide_eq_false (show ¬ (e2 : Int) < ((as.map V.ref).length : Int) by omega)]
          refine iteF (iteF ?_)
          refine ⟨_, rfl, _, rfl, _, _, rfl, rfl, _, rfl, ?_⟩
          by_cases hgt : b < e2
          · rw [decide_eq_true (show (b : Int) < (e2 : Int) by omega)]
            refine iteT ⟨_, rfl, .inl ⟨rfl, _, SqL.of hp1⟩, _, rfl, _, rfl, (by show 2 ≤ sizeLine; decide), fun t nt => ⟨p, ts.map V.ref, .ref t, rfl, rfl, (by rw [upd_ne (ne_of_none hp1 nt)]; exact hp1), hsz, ?_⟩⟩
            refine ⟨_, rfl, e2, 1, rfl, rfl, ?_⟩
            have ntp : t ≠ p := fun z => by rw [z, hp1] at nt; cases nt
            have eR : runsAt (e2 + 1) = runsAt b ++ [(b, e2)] := by
              show ((List.range (e2 + 1)).filter (stB rows c)).map _ = _
              rw [← he, starts_turn hst, if_pos (hi_in 0 b b rfl (by omega)), List.map_append]
              rfl
            refine ⟨e2 + 1, ts ++ [t], some (.int (e2 : Nat)), rfl, by omega, by omega, .inr (by rw [Nat.add_sub_cancel]; exact hnc), ex_new hT (x1.trans (Ex.laid x1.tab nt)) np, ?_, ?_⟩
            · rw [upd_same, List.map_append]; rfl
            · rw [eR]
              refine (pr.keep fun q xs h => ?_).snoc ?_
              · rw [upd_ne (fun z => by rw [z, hp1] at h; cases h), upd_ne (ne_of_none h nt)]; exact h
              · rw [upd_ne ntp, upd_same]
          · rw [decide_eq_false (show ¬ (b : Int) < (e2 : Int) by omega)]
            refine iteF ⟨_, rfl, e2, 1, rfl, rfl, ?_⟩
            have eR : runsAt (e2 + 1) = runsAt b := by
              show ((List.range (e2 + 1)).filter (stB rows c)).map _ = _
              rw [← he, starts_turn hst, if_neg (fun z => by rw [hi_yes z] at he; have := hi_ge rows c (b + 1); omega), List.append_nil]
            refine ⟨e2 + 1, ts, some (.int (e2 : Nat)), rfl, by omega, by omega, .inr (by rw [Nat.add_sub_cancel]; exact hnc), x1, hp1, ?_⟩
            rw [eR]
            exact pr
    · rw [decide_eq_false (show ¬ (b : Int) < ((as.map V.ref).length : Int) by omega)]
      refine iteF ⟨_, rfl, ?_⟩
      refine k p ts H1 x1 np hp1 ?_
      have e1 : runsAt b = runsB rows c := by
        show ((List.range b).filter (stB rows c)).map _ = _
        rw [starts_end (by omega)]
        rfl
      rw [← e1]
      exact pr
end
end TG
namespace TG
open PySem L2 Gx
abbrev nilS : Str := ⟨#[]⟩
def cellsB (rows : List (List Str)) (c b e : Nat) : List Str := ((rows.drop b).take (e - b)).map fun r => r.getD c nilS
def longB : List Str → Nat
  | [] => 0
  | z :: zs => max z.length (longB zs)
def widthB (zs : List Str) (gap least : Int) : Int := if least > (longB zs : Int) + gap then least else (longB zs : Int) + gap
def holdB (zs : List Str) (b : Nat) (gap least : Int) : List Int := if least < (longB zs : Int) + gap then ((List.range zs.length).filter fun i => decide ((zs.getD i nilS).length = longB zs)).map fun i => ((b + i : Nat) : Int) else []
theorem long_ge : ∀ {zs : List Str} {z : Str}, z ∈ zs → z.length ≤ longB zs
  | y :: zs, z, h => by
    rcases List.mem_cons.mp h with e | e
    · subst e; exact Nat.le_max_left _ _
    · exact Nat.le_trans (long_ge e) (Nat.le_max_right _ _)
theorem long_in : ∀ {zs : List Str}, zs ≠ [] → ∃ z ∈ zs, z.length = longB zs
  | [z], _ => ⟨z, List.mem_singleton.mpr rfl, by simp [longB]⟩
  | z :: y :: zs, _ => by
    obtain ⟨x, hx, e⟩ := long_in (zs := y :: zs) (by simp)
    by_cases h : longB (y :: zs) ≤ z.length
    · exact ⟨z, List.mem_cons_self, (Nat.max_eq_left h).symm⟩
    · exact ⟨x, List.mem_cons_of_mem _ hx, by rw [e]; exact (Nat.max_eq_right (by omega)).symm⟩
theorem cells_len {rows : List (List Str)} {c b e : Nat} (h : e ≤ rows.length) : (cellsB rows c b e).length = e - b := by
  unfold cellsB
  rw [List.length_map, List.length_take, List.length_drop]
  omega
theorem cells_get {rows : List (List Str)} {c b e i : Nat} (h : b + i < e) {r : List Str} (hr : rows[b + i]? = some r) : (cellsB rows c b e)[i]? = some (r.getD c nilS) := by
  unfold cellsB
  rw [List.getElem?_map, List.getElem?_take_of_lt (by omega), List.getElem?_drop, hr]
  rfl
theorem cells_mem {rows : List (List Str)} {c b e : Nat} (hO : PgOk rows) (hc : ∀ i, b ≤ i → i < e → clB rows c i = true) (he : e ≤ rows.length) {z : Str} (h : z ∈ cellsB rows c b e) : CellOk z := by
  obtain ⟨i, hi, e1⟩ := List.getElem_of_mem h
  rw [cells_len he] at hi
  obtain ⟨r, hr⟩ := getP (xs := rows) (i := b + i) (by omega)
  have q := cells_get (c := c) (b := b) (e := e) (i := i) (by omega) hr
  have hcl := hc (b + i) (by omega) (by omega)
  unfold clB at hcl
  rw [hr] at hcl
  have hcr : c + 1 < r.length := of_decide_eq_true hcl
  rw [List.getElem?_eq_getElem (by rw [cells_len he]; exact hi), e1] at q
  cases q
  have := (hO.rows r (List.mem_of_getElem? hr)).cells (r[c]'(by omega)) (List.getElem_mem _)
  rw [List.getD_eq_getElem?_getD, List.getElem?_eq_getElem (by omega)]
  exact this
theorem cut_mid {xs : List V} {b e : Nat} (h1 : b ≤ e) (h2 : e ≤ xs.length) : cutV xs (some (b : Int)) (some (e : Int)) = (xs.drop b).take (e - b) := by
  unfold cutV
  rw [HT.sIx_nat, HT.sIx_nat, Nat.min_eq_left h2, Nat.min_eq_left (Nat.le_trans h1 h2)]
section
variable {P : Program} {w : World} {K : PySem.W.Frag} {mg : Str → Option Value} {base : Heap} {cs : List (Addr × Addr)}
/-- the told tuple at t, its holders at h -/
def DescAt (H : Hp) (t h : Addr) (c b e : Nat) (zs : List Str) (gap least : Int) : Prop :=
  H t = some (.tup [.int (c : Nat), .int (b : Nat), .int (e : Nat), .int (widthB zs gap least), .bl (rightB zs), .ref h]) ∧ H h = some (.lst ((holdB zs b gap least).map V.int))
def spDesc (K : PySem.W.Frag) (cs : List (Addr × Addr)) : Sp := fun vs H Q _ => ∃ (a st : Addr) (as : List Addr) (rows : List (List Str)) (gap least : Int) (c b e : Nat), vs = [.ref a, .ref st, .int (c : Nat), .int (b : Nat), .int (e : Nat)] ∧ Tabs cs H ∧ PageAt K H a as rows ∧ PgOk rows ∧ StyleAt K H st gap least ∧
  b < e ∧ e ≤ rows.length ∧ (∀ i, b ≤ i → i < e → clB rows c i = true) ∧ ∀ (t h : Addr) (H' : Hp), Ex cs H H' → H t = none → H h = none → DescAt H' t h c b e (cellsB rows c b e) gap least → Q (.ref t) H'
theorem sc_desc : FnScope ["page", "style", "column", "begin", "end", "gap", "least", "cells", "longest", "holders", "row", "at", "cell"] ["page", "style", "column", "begin", "end"] (defScope s_described) := ⟨rfl, rfl, rfl, by decide +kernel, rfl, by decide +kernel, by decide +kernel⟩
theorem ok_desc {f c Pt g : Addr} {fd fdg : FuncData} (T : Txt mg) (F : Fun K "described" "described" s_described f fd) (hc : fd.code = .ref c) (TB : GxR.TabB base mg c Pt) (hm : (c, Pt) ∈ cs)
    (G : FnOk P w K mg base CX0 5 g fdg ["cells"] (spRight K cs)) (kp : PySem.W.keepIn K (.ref g) = true) (bd : Binds K fdg ["cells"] []) (mgg : mg "stands_right" = some (.ref g)) : FnOk P w K mg base CX0 6 f fd ["page", "style", "column", "begin", "end"] (spDesc K cs) := by
  refine fun_okT F hc sc_desc (fun vs H Q E h => ?_) (fun A outer s H vs Q E hr h => ?_)
  · obtain ⟨a, st, as, rows, gap, least, cc, b, e, rfl, _⟩ := h
    rfl
  · obtain ⟨a, st, as, rows, gap, least, cc, b, e, rfl, hT, hP, hO, ⟨hS, _⟩, hbe, hen, hcl, k⟩ := h
    have nd := sc_desc.nd
    refine ⟨_, pss_cons (ps_asg (pv 1) (pg_tup rfl (pgs_cons (pg_name (i := 5) nd rfl (.inl rfl)) (pgs_cons (pg_name (i := 6) nd rfl (.inl rfl)) pgs_nil))))
      (pss_cons (ps_setLc (i := 7) (own := [("row", 10)]) (g := gName 10) rfl nd rfl rfl (sw_true rfl rfl rfl (by decide +kernel)) (pi_list (pe_slice sl_list (pv 0) (po_some (pv 3)) (po_some (pv 4)))) (blkOk_by (own := [("row", 10)]) (N := ["page", "style", "column", "begin", "end", "gap", "least", "cells", "longest", "holders", "row", "at", "cell"]) (sc := defScope s_described) (by decide +kernel))
        (fun _ _ _ _ _ => pg_name (i := 10) nd rfl (Or.inl rfl)) (fun _ _ _ _ _ => pts_nil) (fun _ _ _ _ _ => pe_ix (r := rIxT K) ix_tup (pv 10) (pv 2) (fun _ _ => rfl)))
      (pss_cons (ps_set (i := 8) nd rfl (.inr rfl) (pe_maxG (k := 0) (P := Pt) (hr.mono (by decide)) (by rfl) T.max TB rfl ⟨rfl, rfl, by decide +kernel, by decide +kernel, rfl, rfl⟩ (pi_list (pv 7)) (fun A' code s4 H4 fp hr' => pe_callB call_len_str (by rfl) T.len PySem.boot_len (pa_cons (pv 0) pa_nil)) (fun _ => rfl)))
      (pss_cons (ps_set (i := 9) nd rfl (.inl rfl) (pe_lst pa_nil))
      (pss_cons (ps_if (pt_cmpR op_gt (pe_op op_add (pv 8) (pv 5)) (pv 6) (nomark _))
        (pss_one (ps_setLc (i := 9) (own := [("at", 11), ("cell", 12)]) (g := gTup K 2 (gCons (gName 11) (gCons (gName 12) gNil))) rfl nd rfl rfl (sw_true rfl rfl rfl (by decide +kernel)) (pi_enum (by rfl) T.enum (pa_cons (pv 7) pa_nil)) (blkOk_by (own := [("at", 11), ("cell", 12)]) (N := ["page", "style", "column", "begin", "end", "gap", "least", "cells", "longest", "holders", "row", "at", "cell"]) (sc := defScope s_described) (by decide +kernel))
          (fun _ _ _ _ _ => pg_tup rfl (pgs_cons (pg_name (i := 11) nd rfl (.inl rfl) (.inr rfl)) (pgs_cons (pg_name (i := 12) nd rfl (.inl rfl) (.inr rfl)) pgs_nil))) (fun _ _ _ _ _ => pts_one (pt_cmpR op_eq (pe_callB call_len_str (by rfl) T.len PySem.boot_len (pa_cons (pv 12) pa_nil)) (pv 8) (nomark _))) (fun _ _ _ _ _ => pe_op op_add (pv 3) (pv 11)))) pss_nil)
      (pss_one (ps_ret (pe_tup (pa_cons (pv 2) (pa_cons (pv 3) (pa_cons (pv 4) (pa_cons (pe_callB (call_max2 rfl) (by rfl) T.max (by decide +kernel) (pa_cons (pe_op op_add (pv 8) (pv 5)) (pa_cons (pv 6) pa_nil))) (pa_cons (pe_call G hr (by rfl) mgg kp bd .nil pass0 (pa_cons (pv 7) pa_nil)) (pa_cons (pv 9) pa_nil))))))))))))), ?_⟩
    have hL : cutV (as.map V.ref) (some (b : Int)) (some (e : Int)) = ((as.drop b).take (e - b)).map V.ref := by
      rw [cut_mid (by omega) (by rw [List.length_map, hP.len]; exact hen), ← List.map_drop, ← List.map_take]
    have lc := cells_len (c := cc) (b := b) hen
    have ll := hO.len
    have lsz : (1000 : Nat) < sizeLine := by decide
    have lsV : (sV (cellsB rows cc b e)).length = e - b := by rw [List.length_map, lc]
    have sll : ((as.drop b).take (e - b)).length = e - b := by rw [List.length_take, List.length_drop, hP.len]; omega
    refine ⟨_, rfl, st, _, rfl, hS, rfl, _, _, rfl, _, _, rfl, rfl, ?_⟩
    refine ⟨_, rfl, _, rfl, (b : Int), rfl, _, rfl, (e : Int), rfl, a, _, rfl, hP.lst, fun p np => ?_⟩
    rw [hL]
    refine ⟨p, rfl, ⟨_, SqL.of upd_same⟩, fun D nD => lc_list (xs := ((as.drop b).take (e - b)).map V.ref) (fun i H' => Ex cs H H' ∧ H' p = some (.lst (((as.drop b).take (e - b)).map V.ref)) ∧ H' D = some (.lst (sV ((cellsB rows cc b e).take i)))) ?_ (fun i H' _ x => SqL.of x.2.1) ?_ ?_⟩
    · have x1 := Ex.laid (o := .lst (((as.drop b).take (e - b)).map V.ref)) hT np
      exact ⟨x1.trans (Ex.laid x1.tab nD), by rw [upd_ne (fun z => by rw [← z, upd_same] at nD; cases nD), upd_same], upd_same⟩
    · rintro i v H1 hv ⟨x1, hp, hD⟩
      obtain ⟨q, hq, rfl⟩ := get_map hv
      have hi : i < e - b := by have := (List.getElem?_eq_some_iff.mp hq).1; omega
      rw [List.getElem?_take_of_lt hi, List.getElem?_drop] at hq
      obtain ⟨r, hr2⟩ := getP (xs := rows) (i := b + i) (by omega)
      have hc1 := hcl (b + i) (by omega) (by omega)
      unfold clB at hc1
      rw [hr2] at hc1
      have hcr : cc + 1 < r.length := of_decide_eq_true hc1
      have hz : (sV r)[cc]? = some (V.str (r.getD cc nilS)) := by
        rw [List.getElem?_map, List.getD_eq_getElem?_getD, List.getElem?_eq_getElem (by omega)]; rfl
      have nD0 : H D = none := (Ex.laid (o := .lst (((as.drop b).take (e - b)).map V.ref)) hT np).old _ nD
      refine ⟨rfl, _, rfl, _, rfl, q, sV r, cc, _, rfl, rfl, x1.sqT (hP.row _ q r hq hr2), atI_nat hz, _, hD, ?_, ex_new hT x1 nD0, ?_, ?_⟩
      · rw [List.length_map, List.length_take]; omega
      · rw [upd_ne (fun z => by rw [← z, upd_same] at nD; cases nD)]; exact hp
      · rw [upd_same, List.take_add_one, cells_get (by omega) hr2]
        simp [sV]
    · rintro H1 ⟨x1, hp, hD⟩
      rw [List.length_map, sll, ← lc, List.take_of_length_le (Nat.le_refl _)] at hD
      -- longest
      refine ⟨_, rfl, D, rfl, ⟨_, SqL.of hD⟩, x1.tab _ hm, fun H2 hH2 => ?_⟩
      have x2 := x1.trans (Ex.tabbed x1.tab hm hH2)
      have hD2 := (Ex.tabbed x1.tab hm hH2).lst hD
      refine max_by (w := walk_list (a := D) (xs := sV (cellsB rows cc b e))) (fun i => ((((cellsB rows cc b e).getD i nilS).length : Nat) : Int)) (by omega) (fun _ H' => Ex cs H H' ∧ H' D = some (.lst (sV (cellsB rows cc b e)))) ⟨x2, hD2⟩ (fun i H' _ x => SqL.of x.2) (fun i v H3 H4 hi x y Z hZ => ?_) (fun m H3 x3 hex hall => ?_)
      · obtain ⟨rfl, hv⟩ := y
        obtain ⟨z, hz, rfl⟩ := get_map hv
        refine ⟨_, rfl, z, rfl, line10 (by have := (cells_mem hO hcl hen (List.mem_of_getElem? hz)).len; omega), ?_⟩
        have q := hZ _ x
        have ez : (cellsB rows cc b e).getD i nilS = z := by rw [List.getD_eq_getElem?_getD, hz]; rfl
        rw [ez] at q
        exact q
      · obtain ⟨x3, hD3⟩ := x3
        have em : m = ((longB (cellsB rows cc b e) : Nat) : Int) := by
          obtain ⟨i, hi, e1⟩ := hex
          obtain ⟨z, hz, e2⟩ := long_in (zs := cellsB rows cc b e) (fun q => by rw [q] at lc; simp at lc; omega)
          obtain ⟨j, hj, e3⟩ := List.getElem_of_mem hz
          have h1 := hall j (by omega)
          rw [List.getD_eq_getElem?_getD, List.getElem?_eq_getElem hj, e3] at h1
          have h1' : ((z.length : Nat) : Int) ≤ m := h1
          rw [List.getD_eq_getElem?_getD, List.getElem?_eq_getElem (by omega)] at e1
          have h2 := long_ge (List.getElem_mem (l := cellsB rows cc b e) (show i < _ by omega))
          have e1' : (((cellsB rows cc b e)[i]'(by omega)).length : Int) = m := e1
          omega
        subst em
        refine ⟨small0, fun h0 nh0 => ?_⟩
        have x4 := x3.trans (Ex.laid (o := .lst []) x3.tab nh0)
        have hD4 := (Ex.laid (o := .lst []) x3.tab nh0).lst hD3
        refine ⟨_, rfl, _, rfl, _, _, rfl, rfl, _, rfl, _, _, rfl, rfl, _, rfl, ?_⟩
        by_cases hg : least < ((longB (cellsB rows cc b e) : Nat) : Int) + gap
        · rw [decide_eq_true hg]
          refine iteT ⟨_, rfl, D, _, rfl, SqL.of hD4, fun D2 nD2 => lc_it (walk_enum (xs := sV (cellsB rows cc b e))) (fun i H' => Ex cs H H' ∧ H' D = some (.lst (sV (cellsB rows cc b e))) ∧ H' D2 = some (.lst (((List.range i).filter fun j => decide (((cellsB rows cc b e).getD j nilS).length = longB (cellsB rows cc b e))).map fun j => V.int ((b + j : Nat) : Int)))) ?_ (fun i H' _ x => SqL.of x.2.1) ?_ ?_⟩
          · exact ⟨x4.trans (Ex.laid x4.tab nD2), (Ex.laid x4.tab nD2).lst hD4, upd_same⟩
          · rintro i v H5 H6 hi ⟨x5, hD5, hh⟩ ⟨Tp, v1, u, rfl, hn, rfl, hv, hu⟩
            cases hv
            obtain ⟨z, hz, rfl⟩ := get_map hu
            have xl := Ex.laid (o := .tup [.int (i : Nat), .str z]) x5.tab hn
            have ez : (cellsB rows cc b e).getD i nilS = z := by rw [List.getD_eq_getElem?_getD, hz]; rfl
            have zl := (cells_mem hO hcl hen (List.mem_of_getElem? hz)).len
            refine ⟨Tp, _, rfl, .inl (.inl upd_same), rfl, _, _, rfl, _, _, rfl, rfl, rfl, _, rfl, z, rfl, line10 (by omega), _, rfl, rfl, _, rfl, ?_⟩
            have nD20 := x4.old _ nD2
            by_cases hzl : z.length = longB (cellsB rows cc b e)
            · rw [decide_eq_true (show V.int ((z.length : Nat) : Int) = V.int ((longB (cellsB rows cc b e) : Nat) : Int) by rw [hzl])]
              refine iteT ⟨_, rfl, _, rfl, _, _, rfl, rfl, _, xl.lst hh, ?_, ex_new hT (x5.trans xl) nD20, ?_, ?_⟩
              · have q : ((List.range i).filter fun j => decide (((cellsB rows cc b e).getD j nilS).length = longB (cellsB rows cc b e))).length ≤ (List.range i).length := List.length_filter_le ..
                rw [List.length_range] at q
                rw [List.length_map]
                omega
              · rw [upd_ne (fun z => by rw [← z] at nD2; rw [nD2] at hD4; cases hD4)]
                exact xl.lst hD5
              · have ef : [i].filter (fun j => decide (((cellsB rows cc b e).getD j nilS).length = longB (cellsB rows cc b e))) = [i] := by
                  simp only [List.filter_cons, List.filter_nil, ez, decide_eq_true hzl, if_true]
                rw [upd_same, List.range_succ, List.filter_append, List.map_append, ef, List.map_cons, List.map_nil, Int.natCast_add]
            · rw [decide_eq_false (show ¬ V.int ((z.length : Nat) : Int) = V.int ((longB (cellsB rows cc b e) : Nat) : Int) from fun q => hzl (by injection q with q; exact Int.ofNat.inj q))]
              refine iteF ⟨x5.trans xl, xl.lst hD5, ?_⟩
              rw [List.range_succ, List.filter_append, List.map_append]
              simp only [List.filter_cons, List.filter_nil, ez, decide_eq_false hzl]
              simpa using xl.lst hh
          · rintro H5 ⟨x5, hD5, hh⟩
            have h5 : H5 D2 = some (.lst ((holdB (cellsB rows cc b e) b gap least).map V.int)) := by
              rw [hh]
              unfold holdB
              rw [if_pos hg, List.map_map, lsV, lc]
              rfl
            have nHH := x4.old _ nD2
            refine ⟨_, rfl, _, rfl, _, rfl, _, rfl, _, rfl, _, _, rfl, rfl, _, rfl, _, _, rfl, _, rfl, D, cellsB rows cc b e, rfl, x5.tab, SqL.of hD5, by omega, fun z hz => cells_mem hO hcl hen hz, fun H6 x6 => ⟨_, rfl, (by show 6 ≤ sizeLine; decide), fun t nt => ?_⟩⟩
            have x7 := Ex.laid (o := .tup [.int (cc : Nat), .int (b : Nat), .int (e : Nat), .int (widthB (cellsB rows cc b e) gap least), .bl (rightB (cellsB rows cc b e)), .ref D2]) x6.tab nt
            exact k t D2 _ ((x5.trans x6).trans x7) ((x5.trans x6).old _ nt) nHH ⟨upd_same, (x6.trans x7).lst h5⟩
        · rw [decide_eq_false hg]
          have x5 := x4
          have hD5 := hD4
          have h5 : (upd H3 h0 (.lst [])) h0 = some (.lst ((holdB (cellsB rows cc b e) b gap least).map V.int)) := by
            rw [upd_same]
            unfold holdB
            rw [if_neg hg]
            rfl
          have nHH := x3.old _ nh0
          refine iteF ?_
          refine ⟨_, rfl, _, rfl, _, rfl, _, rfl, _, rfl, _, _, rfl, rfl, _, rfl, _, _, rfl, _, rfl, D, cellsB rows cc b e, rfl, x5.tab, SqL.of hD5, by omega, fun z hz => cells_mem hO hcl hen hz, fun H6 x6 => ⟨_, rfl, (by show 6 ≤ sizeLine; decide), fun t nt => ?_⟩⟩
          have x7 := Ex.laid (o := .tup [.int (cc : Nat), .int (b : Nat), .int (e : Nat), .int (widthB (cellsB rows cc b e) gap least), .bl (rightB (cellsB rows cc b e)), .ref h0]) x6.tab nt
          exact k t h0 _ ((x5.trans x6).trans x7) ((x5.trans x6).old _ nt) nHH ⟨upd_same, (x6.trans x7).lst h5⟩
end
end TG
namespace TG
open PySem L2 Gx
def ofCol (rows : List (List Str)) (c : Nat) : List (Nat × Nat × Nat) := (runsB rows c).map fun p => (c, p.1, p.2)
def entB (rows : List (List Str)) : List (Nat × Nat × Nat) := (List.range 5).flatMap (ofCol rows)
theorem flat_short {α : Type} {F : Nat → List α} {k : Nat} (h : ∀ c, k ≤ c → F c = []) : ∀ d, (List.range (k + d)).flatMap F = (List.range k).flatMap F := by
  intro d
  induction d with
  | zero => rfl
  | succ d ih =>
    rw [← Nat.add_assoc, List.range_succ, List.flatMap_append, ih, List.flatMap_cons, h (k + d) (by omega)]
    simp
theorem col_nil {rows : List (List Str)} {c m : Nat} (h : ∀ r ∈ rows, r.length ≤ m) (hc : m ≤ c + 1) : ofCol rows c = [] := by
  have e : ∀ i, stB rows c i = false := fun i => by
    unfold stB
    have : clB rows c i = false := by
      unfold clB
      cases q : rows[i]? with
      | none => rfl
      | some r => exact decide_eq_false (by have := h r (List.mem_of_getElem? q); omega)
    rw [this]
    rfl
  unfold ofCol runsB
  have : (List.range rows.length).filter (stB rows c) = [] := List.filter_eq_nil_iff.mpr fun i _ => by rw [e i]; exact Bool.false_ne_true
  rw [this]
  rfl
theorem cols_eq {rows : List (List Str)} {m : Nat} (h : ∀ r ∈ rows, r.length ≤ m) (h6 : m ≤ 6) : (List.range m).flatMap (ofCol rows) = entB rows := by
  have e := flat_short (F := ofCol rows) (k := m - 1) fun c hc => col_nil h (by omega)
  have e1 := e (m - (m - 1))
  have e2 := e (5 - (m - 1))
  rw [show m - 1 + (m - (m - 1)) = m by omega] at e1
  rw [show m - 1 + (5 - (m - 1)) = 5 by omega] at e2
  unfold entB
  rw [e1, e2]
theorem run_facts {rows : List (List Str)} {c i : Nat} {p : Nat × Nat} (h : (runsB rows c)[i]? = some p) : p.1 < p.2 ∧ p.2 ≤ rows.length ∧ ∀ j, p.1 ≤ j → j < p.2 → clB rows c j = true := by
  obtain ⟨x, hx, rfl⟩ := get_map h
  have hm := List.mem_filter.mp (List.mem_of_getElem? hx)
  have hst := hm.2
  have hc : clB rows c x = true := by
    unfold stB at hst
    exact (Bool.and_eq_true_iff.mp hst).1
  refine ⟨?_, hi_le (Nat.le_of_lt (cl_lt hc)), fun j h1 h2 => hi_in (j - x) x j (by omega) h2⟩
  show x < hiB rows c x
  rw [hi_yes hc]
  exact hi_ge rows c (x + 1)
/-- the told tuples at ts, their holders at hs -/
structure DescsAt (H : Hp) (ts hs : List Addr) (es : List (Nat × Nat × Nat)) (rows : List (List Str)) (gap least : Int) : Prop where
  len : ts.length = es.length
  len2 : hs.length = es.length
  at_ : ∀ (i : Nat) (t h : Addr) (q : Nat × Nat × Nat), ts[i]? = some t → hs[i]? = some h → es[i]? = some q → DescAt H t h q.1 q.2.1 q.2.2 (cellsB rows q.1 q.2.1 q.2.2) gap least
theorem DescsAt.snoc {H : Hp} {ts hs : List Addr} {es : List (Nat × Nat × Nat)} {rows : List (List Str)} {gap least : Int} {t h : Addr} {q : Nat × Nat × Nat} (x : DescsAt H ts hs es rows gap least) (e : DescAt H t h q.1 q.2.1 q.2.2 (cellsB rows q.1 q.2.1 q.2.2) gap least) : DescsAt H (ts ++ [t]) (hs ++ [h]) (es ++ [q]) rows gap least := by
  refine ⟨by rw [List.length_append, List.length_append, x.len]; rfl, by rw [List.length_append, List.length_append, x.len2]; rfl, fun i u v p h1 h2 h3 => ?_⟩
  by_cases hi : i < ts.length
  · rw [List.getElem?_append_left hi] at h1
    rw [List.getElem?_append_left (by rw [x.len2, ← x.len]; exact hi)] at h2
    rw [List.getElem?_append_left (by rw [← x.len]; exact hi)] at h3
    exact x.at_ i u v p h1 h2 h3
  · have hl := (List.getElem?_eq_some_iff.mp h1).1
    rw [List.length_append, List.length_singleton] at hl
    have e1 : i = ts.length := by omega
    subst e1
    rw [List.getElem?_append_right (Nat.le_refl _), Nat.sub_self] at h1
    rw [x.len, ← x.len2, List.getElem?_append_right (Nat.le_refl _), Nat.sub_self] at h2
    rw [x.len, List.getElem?_append_right (Nat.le_refl _), Nat.sub_self] at h3
    cases h1
    cases h2
    cases h3
    exact e
theorem DescsAt.keep {H H' : Hp} {ts hs : List Addr} {es : List (Nat × Nat × Nat)} {rows : List (List Str)} {gap least : Int} (x : DescsAt H ts hs es rows gap least) (k : ∀ b o, H b = some o → (b ∈ ts ∨ b ∈ hs) → (∀ ps, o ≠ .tbl ps) → H' b = some o) : DescsAt H' ts hs es rows gap least :=
  ⟨x.len, x.len2, fun i t h q h1 h2 h3 => ⟨k _ _ (x.at_ i t h q h1 h2 h3).1 (.inl (List.mem_of_getElem? h1)) (fun ps z => by cases z), k _ _ (x.at_ i t h q h1 h2 h3).2 (.inr (List.mem_of_getElem? h2)) (fun ps z => by cases z)⟩⟩
theorem StyleAt.ex {K : PySem.W.Frag} {cs : List (Addr × Addr)} {H H' : Hp} {a : Addr} {gap least : Int} (p : StyleAt K H a gap least) (e : Ex cs H H') : StyleAt K H' a gap least := ⟨e.sqT p.tup, p.g0, p.g1, p.l0, p.l1⟩
theorem flat_len {α : Type} {F : Nat → List α} {b : Nat} (h : ∀ c, (F c).length ≤ b) : ∀ n, ((List.range n).flatMap F).length ≤ n * b := by
  intro n
  induction n with
  | zero => simp
  | succ n ih =>
    rw [List.range_succ, List.flatMap_append, List.length_append, List.flatMap_cons, List.flatMap_nil, List.append_nil, Nat.succ_mul]
    have := h n
    omega
theorem col_len (rows : List (List Str)) (c : Nat) : (ofCol rows c).length ≤ rows.length := by
  unfold ofCol runsB
  rw [List.length_map, List.length_map]
  have : ((List.range rows.length).filter (stB rows c)).length ≤ (List.range rows.length).length := List.length_filter_le ..
  rw [List.length_range] at this
  exact this
def rLenSeq (K : PySem.W.Frag) : List V → Hp → VK → Prop := fun xs H Q => ∃ p ys, xs = [V.ref p] ∧ (SqL K H p ys ∨ SqT K H p ys) ∧ Q (.int (ys.length : Nat)) H
section
variable {P : Program} {w : World} {K : PySem.W.Frag} {mg : Str → Option Value} {base : Heap} {cs : List (Addr × Addr)}
def spStr (K : PySem.W.Frag) (cs : List (Addr × Addr)) : Sp := fun vs H Q _ => ∃ (a st : Addr) (as : List Addr) (rows : List (List Str)) (gap least : Int), vs = [.ref a, .ref st] ∧ Tabs cs H ∧ PageAt K H a as rows ∧ PgOk rows ∧ StyleAt K H st gap least ∧
  ∀ (r : Addr) (ts hs : List Addr) (H' : Hp), Ex cs H H' → H r = none → (∀ t ∈ ts, H t = none) → (∀ h ∈ hs, H h = none) → H' r = some (.lst (ts.map V.ref)) → DescsAt H' ts hs (entB rows) rows gap least → Q (.ref r) H'
theorem sc_str : FnScope ["page", "style", "told", "column", "begin", "end"] ["page", "style"] (defScope s_stretches) := ⟨rfl, rfl, rfl, by decide +kernel, rfl, by decide +kernel, by decide +kernel⟩
theorem ok_str {f c Pt g1 g2 g3 g4 : Addr} {fd fd1 fd2 fd3 fd4 : FuncData} (T : Txt mg) (F : Fun K "stretches" "stretches" s_stretches f fd) (hc : fd.code = .ref c) (TB : GxR.TabB base mg c Pt) (hm : (c, Pt) ∈ cs)
    (G1 : FnOk P w K mg base CX0 11 g1 fd1 ["page"] (spCheck K cs)) (k1 : PySem.W.keepIn K (.ref g1) = true) (b1 : Binds K fd1 ["page"] []) (m1 : mg "check_page" = some (.ref g1))
    (G2 : FnOk P w K mg base CX0 2 g2 fd2 ["style"] (spStyle K)) (k2 : PySem.W.keepIn K (.ref g2) = true) (b2 : Binds K fd2 ["style"] []) (m2 : mg "check_style" = some (.ref g2))
    (G3 : FnOk P w K mg base CX0 2 g3 fd3 ["page", "column"] (spRuns K cs)) (k3 : PySem.W.keepIn K (.ref g3) = true) (b3 : Binds K fd3 ["page", "column"] []) (m3 : mg "closed_runs" = some (.ref g3))
    (G4 : FnOk P w K mg base CX0 6 g4 fd4 ["page", "style", "column", "begin", "end"] (spDesc K cs)) (k4 : PySem.W.keepIn K (.ref g4) = true) (b4 : Binds K fd4 ["page", "style", "column", "begin", "end"] []) (m4 : mg "described" = some (.ref g4)) :
    FnOk P w K mg base CX0 12 f fd ["page", "style"] (spStr K cs) := by
  refine fun_okT F hc sc_str (fun vs H Q E h => ?_) (fun A outer s H vs Q E hr h => ?_)
  · obtain ⟨a, st, as, rows, gap, least, rfl, _⟩ := h
    rfl
  · obtain ⟨a, st, as, rows, gap, least, rfl, hT, hP, hO, hS, k⟩ := h
    have nd := sc_str.nd
    refine ⟨_, pss_cons (ps_expr (pe_call G1 hr (by rfl) m1 k1 b1 .nil pass0 (pa_cons (pv 0) pa_nil))) (pss_cons (ps_expr (pe_call G2 (hr.mono (by decide)) (by rfl) m2 k2 b2 .nil pass0 (pa_cons (pv 1) pa_nil)))
      (pss_cons (ps_set (i := 2) nd rfl (.inl rfl) (pe_lst pa_nil))
      (pss_cons (ps_for PassesOwn.never rfl (pi_range1 (by rfl) T.range (pa_cons (pe_maxG (k := 0) (P := Pt) (hr.mono (by decide)) (by rfl) T.max TB rfl ⟨rfl, rfl, by decide +kernel, by decide +kernel, rfl, rfl⟩ (pi_list (pv 0)) (fun A' code s4 H4 fp hr' => pe_callB (r := rLenSeq K) call_len_seq (by rfl) T.len PySem.boot_len (pa_cons (pv 0) pa_nil)) (fun _ => rfl)) pa_nil)) (pg_name (i := 3) nd rfl (.inl rfl))
        (pss_one (ps_for PassesOwn.never rfl (pi_list (pe_call G3 (hr.mono (by decide)) (by rfl) m3 k3 b3 .nil pass0 (pa_cons (pv 0) (pa_cons (pv 3) pa_nil)))) (pg_tup rfl (pgs_cons (pg_name (i := 4) nd rfl (.inl rfl)) (pgs_cons (pg_name (i := 5) nd rfl (.inl rfl)) pgs_nil)))
          (pss_one (ps_expr (pe_bm PySem.F.plainAttrs_list PySem.F.slot_list_append PySem.F.type_list_append mt_append (pv 2) (pa_cons (pe_call G4 (hr.mono (by decide)) (by rfl) m4 k4 b4 .nil pass0 (pa_cons (pv 0) (pa_cons (pv 1) (pa_cons (pv 3) (pa_cons (pv 4) (pa_cons (pv 5) pa_nil)))))) pa_nil)))))))
      (pss_one (ps_ret (pv 2)))))), ?_⟩
    have ll := hO.len
    have lp := hO.pos
    have lsz : (1000 : Nat) < sizeLine := by decide
    have las : (as.map V.ref).length = rows.length := by rw [List.length_map, hP.len]
    refine ⟨_, rfl, a, as, rows, rfl, hT, hP, hO, fun H1 x1 => ⟨_, rfl, st, gap, least, rfl, hS.ex x1, small0, fun p np => ?_⟩⟩
    have x2 := x1.trans (Ex.laid (o := .lst []) x1.tab np)
    have np0 := x1.old _ np
    refine ⟨_, rfl, a, rfl, ⟨_, x2.sqL hP.lst⟩, x2.tab _ hm, fun H2 hH2 => ?_⟩
    have xt := Ex.tabbed x2.tab hm hH2
    have x3 := x2.trans xt
    have hp3 : H2 p = some (.lst []) := xt.lst upd_same
    refine max_by (w := walk_list (a := a) (xs := as.map V.ref)) (fun i => (((rows.getD i []).length : Nat) : Int)) (by omega) (fun _ H' => Ex cs H H' ∧ H' p = some (.lst [])) ⟨x3, hp3⟩ (fun i H' _ x => x.1.sqL hP.lst) (fun i v H3 H4 hi x y Z hZ => ?_) (fun m H3 x4 hex hall => ?_)
    · obtain ⟨rfl, hv⟩ := y
      obtain ⟨q, hq, rfl⟩ := get_map hv
      obtain ⟨r, hr2⟩ := getP (xs := rows) (i := i) (by omega)
      refine ⟨_, rfl, q, _, rfl, .inr (x.1.sqT (hP.row i q r hq hr2)), ?_⟩
      have z := hZ _ x
      have er : rows.getD i [] = r := by rw [List.getD_eq_getElem?_getD, hr2]; rfl
      rw [er] at z
      rw [List.length_map]
      exact z
    · obtain ⟨x4, hp4⟩ := x4
      have hmax : ∀ r ∈ rows, r.length ≤ m.toNat := fun r hr2 => by
        obtain ⟨j, hj, e⟩ := List.getElem_of_mem hr2
        have h1 := hall j (by omega)
        rw [List.getD_eq_getElem?_getD, List.getElem?_eq_getElem hj, e] at h1
        have h1' : ((r.length : Nat) : Int) ≤ m := h1
        omega
      have hm6 : m.toNat ≤ 6 := by
        obtain ⟨i, hi, e1⟩ := hex
        rw [List.getD_eq_getElem?_getD, List.getElem?_eq_getElem (by omega)] at e1
        have h2 := (hO.rows _ (List.getElem_mem (l := rows) (show i < _ by omega))).len
        have e1' : ((rows[i]'(by omega)).length : Int) = m := e1
        omega
      have hm0 : 0 ≤ m := by
        obtain ⟨i, hi, e1⟩ := hex
        rw [← e1]
        exact Int.natCast_nonneg _
      refine ⟨m, rfl, by omega, by omega, for_range (n := m.toNat) (fun i σ H' => ∃ (ts hs : List Addr) (c3 c4 c5 : Option V), σ = [some (.ref a), some (.ref st), some (.ref p), c3, c4, c5] ∧ Ex cs H H' ∧ H' p = some (.lst (ts.map V.ref)) ∧ (∀ t ∈ ts, H t = none ∧ t ≠ p) ∧ (∀ h ∈ hs, H h = none ∧ h ≠ p) ∧ DescsAt H' ts hs ((List.range i).flatMap (ofCol rows)) rows gap least)
        ⟨[], [], none, none, none, rfl, x4, hp4, fun t h => by simp at h, fun t h => by simp at h, rfl, rfl, fun i t h q h1 => by simp at h1⟩ ?_ ?_⟩
      · rintro i σ H5 hi ⟨ts, hs, c3, c4, c5, rfl, x5, hp5, ft, fh, ds⟩
        refine ⟨_, rfl, _, rfl, a, as, rows, i, by rw [Int.zero_add]; rfl, x5.tab, hP.ex x5, ll, fun r1 ts1 H6 x6 nr1 hr1 pr1 => ⟨r1, rfl, ⟨_, SqL.of hr1⟩, ?_⟩⟩
        have r1p : r1 ≠ p := fun z => by rw [z, hp5] at nr1; cases nr1
        have hl1 : (ts1.map V.ref).length = (ofCol rows i).length := by unfold ofCol; rw [List.length_map, List.length_map, pr1.len]
        refine for_list (xs := ts1.map V.ref) (fun j σ H' => ∃ (ts hs : List Addr) (c4 c5 : Option V), σ = [some (.ref a), some (.ref st), some (.ref p), some (.int (0 + (i : Nat))), c4, c5] ∧ Ex cs H H' ∧ H' r1 = some (.lst (ts1.map V.ref)) ∧ PairsAt H' ts1 (runsB rows i) ∧ H' p = some (.lst (ts.map V.ref)) ∧ (∀ t ∈ ts, H t = none ∧ t ≠ p) ∧ (∀ h ∈ hs, H h = none ∧ h ≠ p) ∧ DescsAt H' ts hs ((List.range i).flatMap (ofCol rows) ++ (ofCol rows i).take j) rows gap least)
          ⟨ts, hs, c4, c5, rfl, x5.trans x6, hr1, pr1, x6.lst hp5, ft, fh, by rw [List.take_zero, List.append_nil]; exact ds.keep fun b o e _ n => x6.ext b o e n⟩ (fun j σ H' _ ⟨_, _, _, _, _, _, q, _⟩ => SqL.of q) ?_ ?_
        · rintro j v σ H7 hv ⟨ts, hs, c4, c5, rfl, x7, hr7, pr7, hp7, ft, fh, ds⟩
          obtain ⟨t1, ht1, rfl⟩ := get_map hv
          obtain ⟨q, hq⟩ := getP (xs := runsB rows i) (i := j) (by rw [← pr7.len]; exact (List.getElem?_eq_some_iff.mp ht1).1)
          obtain ⟨f1, f2, f3⟩ := run_facts hq
          have hsz : (ts.map V.ref).length < sizeLine := by
            rw [List.length_map, ds.len, List.length_append, List.length_take]
            have q1 := flat_len (F := ofCol rows) (b := 30) (fun c => Nat.le_trans (col_len rows c) ll) i
            have q2 := col_len rows i
            have q3 : min j (ofCol rows i).length ≤ (ofCol rows i).length := Nat.min_le_right _ _
            omega
          refine ⟨t1, _, rfl, .inl (.inl (pr7.at_ j t1 q ht1 hq)), rfl, _, _, rfl, _, _, rfl, rfl, ?_⟩
          refine ⟨_, rfl, .inl ⟨rfl, _, SqL.of hp7⟩, _, rfl, _, rfl, _, rfl, _, rfl, _, rfl, a, st, as, rows, gap, least, i, q.1, q.2, by rw [Int.zero_add]; rfl, x7.tab, hP.ex x7, hO, hS.ex x7, f1, f2, f3, fun t h H8 x8 nt nh hd => ⟨p, _, .ref t, rfl, rfl, x8.lst hp7, hsz, ?_⟩⟩
          have tp : t ≠ p := fun z => by rw [z, hp7] at nt; cases nt
          have hp' : h ≠ p := fun z => by rw [z, hp7] at nh; cases nh
          have x9 := ex_new (o := .lst (ts.map V.ref ++ [.ref t])) hT (x7.trans x8) np0
          refine ⟨ts ++ [t], hs ++ [h], _, _, rfl, x9, by rw [upd_ne r1p]; exact x8.lst hr7, pr7.keep fun b xs e => ?_, by rw [upd_same, List.map_append]; rfl, fun u hu => ?_, fun u hu => ?_, ?_⟩
          · rw [upd_ne (fun z => by rw [z, hp7] at e; cases e)]; exact x8.tup e
          · rcases List.mem_append.mp hu with z | z
            · exact ft u z
            · rw [List.mem_singleton.mp z]; exact ⟨x7.old _ nt, tp⟩
          · rcases List.mem_append.mp hu with z | z
            · exact fh u z
            · rw [List.mem_singleton.mp z]; exact ⟨x7.old _ nh, hp'⟩
          · have ej : (ofCol rows i)[j]? = some (i, q.1, q.2) := by unfold ofCol; rw [List.getElem?_map, hq]; rfl
            rw [List.take_add_one, ej, ← List.append_assoc]
            refine (ds.keep fun b o e m n => ?_).snoc (q := (i, q.1, q.2)) ⟨by rw [upd_ne tp]; exact hd.1, by rw [upd_ne hp']; exact hd.2⟩
            have nb : b ≠ p := by
              rcases m with m | m
              · exact (ft b m).2
              · exact (fh b m).2
            rw [upd_ne nb]; exact x8.ext b o e n
        · rintro σ H7 ⟨ts, hs, c4, c5, rfl, x7, hr7, pr7, hp7, ft, fh, ds⟩
          refine ⟨ts, hs, _, _, _, rfl, x7, hp7, ft, fh, ?_⟩
          rw [hl1, List.take_of_length_le (Nat.le_refl _)] at ds
          rw [List.range_succ, List.flatMap_append, List.flatMap_cons, List.flatMap_nil, List.append_nil]
          exact ds
      · rintro σ H5 ⟨ts, hs, c3, c4, c5, rfl, x5, hp5, ft, fh, ds⟩
        refine ⟨_, rfl, k p ts hs H5 x5 np0 (fun t h => (ft t h).1) (fun t h => (fh t h).1) hp5 ?_⟩
        rw [cols_eq hmax hm6] at ds
        exact ds
end
end TG
namespace TG
open PySem L2 Gx
theorem cl_app (x y : Str) : cl (x ++ y) = cl x ++ cl y := TL.tl_append x y
theorem joinL_nil : ∀ l : List (List Nat), TL.joinL [] l = l.flatten
  | [] => rfl
  | [p] => by simp [TL.joinL]
  | p :: q :: r => by
    show p ++ ([] ++ TL.joinL [] (q :: r)) = _
    rw [joinL_nil (q :: r)]
    rfl
theorem cl_join (ys : List Str) : cl (Txt.join "" ys) = (ys.map cl).flatten := by
  have e : ("" : Str) = SX.S [] := by decide +kernel
  have e2 : ys = (ys.map cl).map SX.S := by
    rw [List.map_map]
    conv => lhs; rw [← List.map_id ys]
    exact List.map_congr_left fun y _ => (SX.S_tl y).symm
  rw [e]
  conv => lhs; rw [e2]
  rw [SX.join_S, joinL_nil]
theorem num_ok {n : Int} (h0 : 0 ≤ n) (h1 : n < 10 ^ 9) : (Str.ofString (toString n)).length ≤ 9 ∧ ∀ c ∈ cl (Str.ofString (toString n)), 48 ≤ c ∧ c ≤ 57 := by
  refine ⟨PyProof.Rows.toString_length_le h0 (by decide) h1, fun c hc => ?_⟩
  obtain ⟨m, rfl⟩ := Int.eq_ofNat_of_zero_le h0
  have hc' : c ∈ (Str.ofString (toString ((m : Nat) : Int))).cps.toList := hc
  rw [PySem.W.KIN.signs_num] at hc'
  obtain ⟨ch, hch, e⟩ := List.mem_map.mp hc'
  have r := PyProof.Rows.digit_range (Nat.isDigit_of_mem_toDigits (by decide) (by decide) hch)
  rw [← e]
  exact r
instance (c : Nat) : Decidable (SgOk c) := inferInstanceAs (Decidable (32 ≤ c ∧ c ≤ 126 ∧ c ≠ 37))
theorem sg_of {z : Str} (h : (z.cps.toList.all fun c => decide (SgOk c)) = true) : ∀ c ∈ cl z, SgOk c := fun c hc => of_decide_eq_true (List.all_eq_true.mp h c hc)
end TG
namespace TG
open PySem L2 Gx
abbrev everyS : Str := " !\"#$&'()*+,-./0123456789:;<=>?@ABCDEFGHIJKLMNOPQRSTUVWXYZ[\\]^_`abcdefghijklmnopqrstuvwxyz{|}~"
theorem every_ok : ∀ c ∈ cl everyS, SgOk c := sg_of (by decide +kernel)
theorem abc_len : (cl "abcdefghij").length = 10 := by decide +kernel
theorem emp_len : (Str.ofString "").length = 0 := by decide +kernel
theorem every_len : (cl everyS).length = 94 := by decide +kernel
theorem cells_ok {l : List Str} (h : (l.all fun z => decide (z.length ≤ 10) && z.cps.toList.all fun c => decide (SgOk c)) = true) : ∀ z ∈ l, CellOk z := fun z hz => by
  have q := Bool.and_eq_true_iff.mp (List.all_eq_true.mp h z hz)
  exact ⟨of_decide_eq_true q.1, sg_of q.2⟩
/-- one of a written list -/
theorem pick {α : Type} {xs : List α} {i : Int} (h0 : 0 ≤ i) (h1 : i < xs.length) : ∃ x, x ∈ xs ∧ atI xs i = some x := by
  obtain ⟨n, rfl⟩ := Int.eq_ofNat_of_zero_le h0
  have hn : n < xs.length := by have : ((n : Nat) : Int) < xs.length := h1; omega
  exact ⟨xs[n], List.getElem_mem hn, atI_nat (List.getElem?_eq_getElem hn)⟩
theorem iteB {c A B : Prop} [Decidable c] (h1 : A) (h2 : B) : if c then A else B := ite2 (fun _ => h1) fun _ => h2
theorem len_cl (z : Str) : z.length = (cl z).length := by simp [Str.length, cl]
theorem box_new {H : Hp} {b l p : Addr} {o : HO} (x : BoxAt H b l) (n : H p = none) : BoxAt (upd H p o) b l := by
  obtain ⟨ns, st, h1, h2, h3⟩ := x
  exact ⟨ns, st, by rw [upd_ne (ne_of_none h1 n)]; exact h1, by rw [upd_ne (ne_of_none h2 n)]; exact h2, h3⟩
theorem new_ne {H : Hp} {b l p : Addr} (x : BoxAt H b l) (n : H p = none) : p ≠ b ∧ p ≠ l := by
  obtain ⟨ns, st, h1, h2, h3⟩ := x
  exact ⟨(ne_of_none h1 n).symm, (ne_of_none h2 n).symm⟩
theorem box_upd {H : Hp} {b l p : Addr} {o : HO} (x : BoxAt H b l) (h1 : p ≠ b) (h2 : p ≠ l) : BoxAt (upd H p o) b l := by
  obtain ⟨ns, st, g1, g2, g3⟩ := x
  exact ⟨ns, st, by rw [upd_ne h1.symm]; exact g1, by rw [upd_ne h2.symm]; exact g2, g3⟩
theorem kb_new {H : Hp} {b l p : Addr} {o : HO} (n : H p = none) : KB b l H (upd H p o) := fun c u e _ _ => by rw [upd_ne (ne_of_none e n)]; exact e
theorem kb_upd {H H' : Hp} {b l p : Addr} {o : HO} (x : KB b l H H') (n : H p = none) : KB b l H (upd H' p o) := fun c u e h1 h2 => by rw [upd_ne (ne_of_none e n)]; exact x c u e h1 h2
theorem atI_map {α β : Type} {f : α → β} {xs : List α} {i : Int} {x : α} (h : atI xs i = some x) : atI (xs.map f) i = some (f x) := by
  unfold atI at h ⊢
  rw [List.length_map]
  cases e : ixN xs.length i with
  | none => rw [e] at h; cases h
  | some j =>
    rw [e] at h
    have h' : xs[j]? = some x := h
    show (xs.map f)[j]? = some (f x)
    rw [List.getElem?_map, h']
    rfl
/-- a list of single signs at D -/
structure OnesAt (b l : Addr) (H : Hp) (D : Addr) (i : Nat) (H' : Hp) : Prop where
  box : BoxAt H' b l
  keep : KB b l H H'
  nD : H D = none
  db : D ≠ b
  dl : D ≠ l
  ones : ∃ cs : List Nat, cs.length = i ∧ (∀ c ∈ cs, SgOk c) ∧ H' D = some (.lst (sV (cs.map fun c => ⟨#[c]⟩)))
theorem OnesAt.start {b l : Addr} {H H1 : Hp} {D : Addr} (hB : BoxAt H1 b l) (x : KB b l H H1) (n : H1 D = none) (nb : BoxAt H b l) : OnesAt b l H D 0 (upd H1 D (.lst [])) := by
  obtain ⟨d1, d2⟩ := new_ne hB n
  have nD : H D = none := by
    cases e : H D with
    | none => rfl
    | some o => rw [x D o e d1 d2] at n; cases n
  exact ⟨box_new hB n, kb_upd x nD, nD, d1, d2, [], rfl, fun c h => by simp at h, upd_same⟩
theorem OnesAt.more {b l : Addr} {H H1 H2 : Hp} {D : Addr} {i c : Nat} (o : OnesAt b l H D i H1) (hc : SgOk c) (hB : BoxAt H2 b l) (x : KB b l H1 H2) :
    ∃ acc, H2 D = some (.lst acc) ∧ acc.length = i ∧ OnesAt b l H D (i + 1) (upd H2 D (.lst (acc ++ [.str ⟨#[c]⟩]))) := by
  obtain ⟨cs, h1, h2, h3⟩ := o.ones
  refine ⟨_, x D _ h3 o.db o.dl, by rw [List.length_map, List.length_map, h1], box_upd hB o.db o.dl, kb_upd (o.keep.trans x) o.nD, o.nD, o.db, o.dl, cs ++ [c], by rw [List.length_append, h1]; rfl, fun d hd => ?_, ?_⟩
  · rcases List.mem_append.mp hd with h | h
    · exact h2 d h
    · rw [List.mem_singleton.mp h]; exact hc
  · rw [upd_same]
    simp [sV]
theorem OnesAt.done {b l : Addr} {H H1 : Hp} {D : Addr} {i : Nat} (o : OnesAt b l H D i H1) : ∃ ys : List Str, H1 D = some (.lst (ys.map V.str)) ∧ ys.length = i ∧ (ys.map fun y => y.length).sum = i ∧ (i ≤ 10 → CellOk (Txt.join "" ys)) := by
  obtain ⟨cs, h1, h2, h3⟩ := o.ones
  refine ⟨_, h3, by rw [List.length_map, h1], ?_, fun hi => ?_⟩
  · rw [← h1]
    clear h1 h2 h3
    induction cs with
    | nil => rfl
    | cons c cs ih =>
      rw [List.map_cons, List.map_cons, List.sum_cons, ih, List.length_cons]
      show 1 + cs.length = cs.length + 1
      omega
  · have e : cl (Txt.join "" (cs.map fun c => (⟨#[c]⟩ : Str))) = cs := by
      rw [cl_join, List.map_map]
      clear h1 h2 h3
      induction cs with
      | nil => rfl
      | cons c cs ih =>
        rw [List.map_cons, List.flatten_cons, ih]
        rfl
    exact ⟨by rw [len_cl, e, h1]; exact hi, fun c hc => h2 c (by have hc : c ∈ cl _ := hc; rw [e] at hc; exact hc)⟩
abbrev oddL : List Str := ["-", "--1", "1-", "0x", " 1", "1 ", "-0", "007", " ", "   ", "1234567x", "12345678-", "-0000000 1"]
theorem odd_ok : ∀ z ∈ oddL, CellOk z := cells_ok (by decide +kernel)
section
variable {P : Program} {w : World} {K : PySem.W.Frag} {mg : Str → Option Value} {base : Heap} {cs : List (Addr × Addr)}
def spSign : Sp := fun vs H Q _ => ∃ (b l : Addr), vs = [.ref b] ∧ BoxAt H b l ∧ ∀ (c : Nat) (H' : Hp), SgOk c → BoxAt H' b l → KB b l H H' → Q (.str ⟨#[c]⟩) H'
theorem sc_sign : FnScope ["_law_box", "_law_every"] ["_law_box"] (defScope s_sign) := ⟨rfl, rfl, rfl, by decide +kernel, rfl, by decide +kernel, by decide +kernel⟩
theorem ok_sign {f g : Addr} {fd fdg : FuncData} (F : Fun K "_law_sign" "_law_sign" s_sign f fd)
    (G : FnOk P w K mg base CX0 1 g fdg ["_law_box", "_law_many"] spTake) (kp : PySem.W.keepIn K (.ref g) = true) (bd : Binds K fdg ["_law_box", "_law_many"] []) (mgg : mg "_law_take" = some (.ref g)) : FnOk P w K mg base CX0 2 f fd ["_law_box"] spSign := by
  refine F.ok sc_sign (fun vs H Q E h => ?_) (fun cdv A outer s H vs Q E hr h => ?_)
  · obtain ⟨b, l, rfl, _⟩ := h
    rfl
  · obtain ⟨b, l, rfl, hB, k⟩ := h
    have nd := sc_sign.nd
    refine ⟨_, pss_cons (ps_set (i := 1) nd rfl (.inl rfl) pe_str) (pss_one (ps_ret (pe_ix ix_str (pv 1) (pe_call G hr (by rfl) mgg kp bd .nil pass0 (pa_cons (pv 0) (pa_cons pe_int pa_nil))) (fun _ _ => rfl)))), ?_⟩
    refine ⟨_, rfl, _, rfl, b, l, 94, rfl, hB, by decide, by decide, fun r H1 r0 r1 hB1 x1 => ?_⟩
    obtain ⟨c, hc, e⟩ := pick (xs := cl everyS) r0 (by rw [every_len]; exact r1)
    exact ⟨everyS, r, c, rfl, rfl, line10 (by decide +kernel), e, k c H1 (every_ok c hc) hB1 x1⟩
def spCell : Sp := fun vs H Q _ => ∃ (b l : Addr) (sort : Int), vs = [.ref b, .int sort] ∧ BoxAt H b l ∧ ∀ (z : Str) (H' : Hp), CellOk z → BoxAt H' b l → KB b l H H' → Q (.str z) H'
theorem sc_cell : FnScope ["_law_box", "_law_sort", "_law_way", "_law_odd", "_law_many", "_law_k"] ["_law_box", "_law_sort"] (defScope s_cell) := ⟨rfl, rfl, rfl, by decide +kernel, rfl, by decide +kernel, by decide +kernel⟩
abbrev nmCell : List Str := ["_law_box", "_law_sort", "_law_way", "_law_odd", "_law_many", "_law_k"]
theorem ok_cell {f g g2 : Addr} {fd fdg fd2 : FuncData} (T : Txt mg) (F : Fun K "_law_cell" "_law_cell" s_cell f fd)
    (G : FnOk P w K mg base CX0 1 g fdg ["_law_box", "_law_many"] spTake) (kp : PySem.W.keepIn K (.ref g) = true) (bd : Binds K fdg ["_law_box", "_law_many"] []) (mgg : mg "_law_take" = some (.ref g))
    (G2 : FnOk P w K mg base CX0 2 g2 fd2 ["_law_box"] spSign) (kp2 : PySem.W.keepIn K (.ref g2) = true) (bd2 : Binds K fd2 ["_law_box"] []) (mg2 : mg "_law_sign" = some (.ref g2)) : FnOk P w K mg base CX0 3 f fd ["_law_box", "_law_sort"] spCell := by
  refine F.ok sc_cell (fun vs H Q E h => ?_) (fun cdv A outer s H vs Q E hr h => ?_)
  · obtain ⟨b, l, sort, rfl, _⟩ := h
    rfl
  · obtain ⟨b, l, sort, rfl, hB, k⟩ := h
    have nd := sc_cell.nd
    have hr1 : Room 1 _ := hr.mono (by decide)
    refine ⟨_, pss_cons (ps_set (i := 2) nd rfl (.inl rfl) (pe_call G hr1 (by rfl) mgg kp bd .nil pass0 (pa_cons (pv 0) (pa_cons pe_int pa_nil))))
      (pss_cons (ps_if (pt_cmpR op_eq (pv 2) pe_int (nomark _)) (pss_one (ps_ret pe_str)) pss_nil)
      (pss_cons (ps_if (PW.pt (pw_or (pt_cmpR op_eq (pv 2) pe_int (nomark _)) (pw_or1 (PW.pt (pw_and (pt_cmpR op_eq (pv 1) pe_int (nomark _)) (pw_and1 (pt_cmpR op_lt (pv 2) pe_int (nomark _)))))))) (pss_one (ps_ret (pe_op op_add_str (pe_ix ix_list (pe_lst (pa_cons pe_str (pa_cons pe_str pa_nil))) (pe_op op_fdivN (pe_call G hr1 (by rfl) mgg kp bd .nil pass0 (pa_cons (pv 0) (pa_cons pe_int pa_nil))) pe_int) (fun _ _ => rfl)) (pe_callTy call_str_int (by rfl) T.str (by decide +kernel) (pa_cons (pe_call G hr1 (by rfl) mgg kp bd .nil pass0 (pa_cons (pv 0) (pa_cons (pe_ix ix_list (pe_lst (pa_cons pe_int (pa_cons pe_int (pa_cons (pe_op op_pow pe_int pe_int) pa_nil)))) (pe_call G hr1 (by rfl) mgg kp bd .nil pass0 (pa_cons (pv 0) (pa_cons pe_int pa_nil))) (fun _ _ => rfl)) pa_nil))) pa_nil))))) pss_nil)
      (pss_cons (ps_if (pt_cmpR op_eq (pv 2) pe_int (nomark _)) (pss_cons (ps_set (i := 3) nd rfl (.inl rfl) (pe_lst (pa_cons pe_str (pa_cons pe_str (pa_cons pe_str (pa_cons pe_str (pa_cons pe_str (pa_cons pe_str (pa_cons pe_str (pa_cons pe_str (pa_cons pe_str (pa_cons pe_str (pa_cons pe_str (pa_cons pe_str (pa_cons pe_str pa_nil))))))))))))))) (pss_one (ps_ret (pe_ix ix_list (pv 3) (pe_call G hr1 (by rfl) mgg kp bd .nil pass0 (pa_cons (pv 0) (pa_cons pe_int pa_nil))) (fun _ _ => rfl))))) pss_nil)
      (pss_cons (ps_set (i := 4) nd rfl (.inl rfl) (pe_op op_add pe_int (pe_call G hr1 (by rfl) mgg kp bd .nil pass0 (pa_cons (pv 0) (pa_cons (pe_ix ix_list (pe_lst (pa_cons pe_int (pa_cons pe_int pa_nil))) (pe_call G hr1 (by rfl) mgg kp bd .nil pass0 (pa_cons (pv 0) (pa_cons pe_int pa_nil))) (fun _ _ => rfl)) pa_nil)))))
      (pss_cons (ps_if (pt_cmpR op_lt (pv 2) pe_int (nomark _)) (pss_one (ps_ret (pe_join pe_str (pe_lc (own := [("_law_k", 5)]) (g := gName 5) (tt := tYes) rfl nd (pi_range1 (by rfl) T.range (pa_cons (pv 4) pa_nil)) (blkOk_by (own := [("_law_k", 5)]) (N := nmCell) (sc := defScope s_cell) (by decide +kernel)) (fun _ _ _ _ _ => pg_name (i := 5) nd rfl (Or.inl rfl)) (fun _ _ _ _ _ => pts_nil) (fun s1 H1 C1 cl1 fp1 => pe_ix ix_str pe_str (pe_call G hr1 (by rfl) mgg kp bd .nil pass0 (pa_cons (pv 0) (pa_cons pe_int pa_nil))) (fun _ _ => rfl)))))) pss_nil)
      (pss_one (ps_ret (pe_join pe_str (pe_lc (own := [("_law_k", 5)]) (g := gName 5) (tt := tYes) rfl nd (pi_range1 (by rfl) T.range (pa_cons (pv 4) pa_nil)) (blkOk_by (own := [("_law_k", 5)]) (N := nmCell) (sc := defScope s_cell) (by decide +kernel)) (fun _ _ _ _ _ => pg_name (i := 5) nd rfl (Or.inl rfl)) (fun _ _ _ _ _ => pts_nil) (fun s1 H1 C1 cl1 fp1 => pe_call G2 hr (by rfl) mg2 kp2 bd2 .nil pass0 (pa_cons (pv 0) pa_nil))))))))))), ?_⟩
    have szl : (1000 : Nat) < sizeLine := by decide
    refine ⟨_, rfl, b, l, 9, rfl, hB, by decide, by decide, fun way H1 w0 w1 hB1 x1 => ⟨_, rfl, rfl, _, rfl, iteB ?_ ?_⟩⟩
    · exact k _ H1 ⟨by decide +kernel, sg_of (by decide +kernel)⟩ hB1 x1
    refine ⟨_, rfl, rfl, _, rfl, iteB (iteT ?body) ⟨_, rfl, rfl, _, rfl, iteB ⟨_, rfl, _, _, rfl, rfl, _, rfl, iteB ?body ?rest⟩ (iteF ?rest)⟩⟩
    case body =>
      refine ⟨line10 (by decide), fun p np => ⟨_, rfl, b, l, 3, rfl, box_new hB1 np, by decide, by decide, fun r H2 r0 r1 hB2 x2 => ⟨r, 2, rfl, rfl, ⟨by decide, by decide⟩, ?_⟩⟩⟩
      have y2 := (x1.trans (kb_new np)).trans x2
      have e2 : r.fdiv 2 = r / 2 := Int.fdiv_eq_ediv_of_nonneg r (by decide)
      obtain ⟨v, hv, ev⟩ := pick (xs := [(⟨#[]⟩ : Str), ⟨#[45]⟩]) (i := r.fdiv 2) (by omega) (by show r.fdiv 2 < 2; omega)
      obtain ⟨nb, nl⟩ := new_ne hB1 np
      have l1 : ([("" : Str), "-"] : List Str) = [⟨#[]⟩, ⟨#[45]⟩] := by decide +kernel
      have hp2 : H2 p = some (.lst (sV [("" : Str), "-"])) := x2 p _ upd_same nb nl
      refine ⟨p, _, _, .str v, rfl, rfl, SqL.of hp2, by rw [l1]; exact atI_map ev, ?_⟩
      refine ⟨_, rfl, 10, 9, rfl, rfl, ⟨by decide, by decide, by decide⟩, line10 (by decide), fun p2 np2 => ⟨_, rfl, b, l, 3, rfl, box_new hB2 np2, by decide, by decide, fun r2 H4 s0 s1 hB4 x4 => ?_⟩⟩
      obtain ⟨nb2, nl2⟩ := new_ne hB2 np2
      have y4 := (y2.trans (kb_new np2)).trans x4
      have hp4 := x4 p2 _ upd_same nb2 nl2
      obtain ⟨m, hm, em⟩ := pick (xs := [(10 : Int), 1000, 1000000000]) (i := r2) s0 s1
      have hm2 : 0 < m ∧ m ≤ 1000000000 := by
        simp only [List.mem_cons, List.not_mem_nil, or_false] at hm
        omega
      refine ⟨p2, _, _, .int m, rfl, rfl, SqL.of hp4, atI_map (f := V.int) em, b, l, m, rfl, hB4, hm2.1, by omega, fun n H5 n0 n1 hB5 x5 => ⟨n, rfl, ?_, v, _, rfl, rfl, ?_, ?_⟩⟩
      · by_cases hz : n.natAbs = 0
        · rw [hz]; decide
        · refine Nat.lt_of_lt_of_le ((Nat.log2_lt hz).mpr (show n.natAbs < 2 ^ 30 by omega)) (by decide)
      · have h9 := (num_ok n0 (by omega)).1
        have hv1 : v.length ≤ 1 := by
          simp only [List.mem_cons, List.not_mem_nil, or_false] at hv
          rcases hv with rfl | rfl <;> decide
        omega
      · obtain ⟨h9, hd9⟩ := num_ok n0 (by omega)
        have hv1 : v.length ≤ 1 ∧ ∀ c ∈ cl v, SgOk c := by
          simp only [List.mem_cons, List.not_mem_nil, or_false] at hv
          rcases hv with rfl | rfl <;> exact ⟨by decide, sg_of (by decide)⟩
        refine k _ H5 ⟨?_, fun c hc => ?_⟩ hB5 (y4.trans x5)
        · rw [len_cl, cl_app, List.length_append, ← len_cl, ← len_cl]; omega
        · have hc : c ∈ cl (v ++ _) := hc
          rw [cl_app] at hc
          rcases List.mem_append.mp hc with h | h
          · exact hv1.2 c h
          · have := hd9 c h
            unfold SgOk
            omega
    case rest =>
    refine ⟨_, rfl, rfl, _, rfl, iteB ?_ ?_⟩
    · refine ⟨line10 (by decide), fun p np => ⟨_, rfl, _, rfl, b, l, 13, rfl, box_new hB1 np, by decide, by decide, fun r H2 r0 r1 hB2 x2 => ?_⟩⟩
      obtain ⟨nb, nl⟩ := new_ne hB1 np
      have hp2 : H2 p = some (.lst (sV oddL)) := x2 p _ upd_same nb nl
      obtain ⟨v, hv, ev⟩ := pick (xs := oddL) (i := r) r0 r1
      exact ⟨p, _, _, .str v, rfl, rfl, SqL.of hp2, atI_map ev, k v H2 (odd_ok v hv) hB2 ((x1.trans (kb_new np)).trans x2)⟩
    refine ⟨_, rfl, line10 (by decide), fun p np => ⟨_, rfl, b, l, 2, rfl, box_new hB1 np, by decide, by decide, fun r H2 r0 r1 hB2 x2 => ?_⟩⟩
    obtain ⟨nb, nl⟩ := new_ne hB1 np
    have hp2 := x2 p _ upd_same nb nl
    have y2 := (x1.trans (kb_new np)).trans x2
    obtain ⟨m, hm, em⟩ := pick (xs := [(3 : Int), 10]) (i := r) r0 r1
    have hm2 : 0 < m ∧ m ≤ 10 := by
      simp only [List.mem_cons, List.not_mem_nil, or_false] at hm
      omega
    refine ⟨p, _, _, .int m, rfl, rfl, SqL.of hp2, atI_map (f := V.int) em, b, l, m, rfl, hB2, hm2.1, by omega, fun n H3 n0 n1 hB3 x3 => ⟨1, n, rfl, rfl, ?_⟩⟩
    have y3 := y2.trans x3
    refine ⟨_, rfl, _, _, rfl, rfl, _, rfl, iteB ?_ ?_⟩
    · refine ⟨⟨_, rfl⟩, _, rfl, 1 + n, rfl, by omega, by omega, fun D nD => lc_range (n := (1 + n).toNat) (fun i H' => OnesAt b l H D i H') ?_ ?_ ?_⟩
      · exact OnesAt.start hB3 y3 nD hB
      · rintro i H4 hi o
        refine ⟨rfl, _, rfl, b, l, 10, rfl, o.box, by decide, by decide, fun r4 H5 a0 a1 hB5 x5 => ?_⟩
        obtain ⟨c, hc, ec⟩ := pick (xs := cl "abcdefghij") (i := r4) a0 (by rw [abc_len]; exact a1)
        obtain ⟨acc, hacc, hl, o2⟩ := o.more (c := c) (sg_of (z := "abcdefghij") (by decide +kernel) c hc) hB5 x5
        exact ⟨_, r4, c, rfl, rfl, line10 (by decide +kernel), ec, acc, hacc, by omega, o2⟩
      · rintro H4 o
        obtain ⟨ys, hD, h1, h2, h3⟩ := o.done
        exact ⟨_, D, ys, rfl, rfl, .inl (SqL.of hD), by rw [h2, emp_len]; omega, k _ H4 (h3 (by omega)) o.box o.keep⟩
    · refine ⟨⟨_, rfl⟩, _, rfl, 1 + n, rfl, by omega, by omega, fun D nD => lc_range (n := (1 + n).toNat) (fun i H' => OnesAt b l H D i H') ?_ ?_ ?_⟩
      · exact OnesAt.start hB3 y3 nD hB
      · rintro i H4 hi o
        refine ⟨rfl, _, rfl, b, l, rfl, o.box, fun c H5 hc hB5 x5 => ?_⟩
        obtain ⟨acc, hacc, hl, o2⟩ := o.more (c := c) hc hB5 x5
        exact ⟨acc, hacc, by omega, o2⟩
      · rintro H4 o
        obtain ⟨ys, hD, h1, h2, h3⟩ := o.done
        exact ⟨_, D, ys, rfl, rfl, .inl (SqL.of hD), by rw [h2, emp_len]; omega, k _ H4 (h3 (by omega)) o.box o.keep⟩
end
end TG
namespace TG
open PySem L2 Gx
theorem new_old {b l p : Addr} {H H1 : Hp} (x : KB b l H H1) (hB : BoxAt H1 b l) (n : H1 p = none) : H p = none := by
  obtain ⟨d1, d2⟩ := new_ne hB n
  cases e : H p with
  | none => rfl
  | some o => rw [x p o e d1 d2] at n; cases n
/-- a list of cells at D -/
structure StrsAt (b l : Addr) (H : Hp) (D : Addr) (i : Nat) (H' : Hp) : Prop where
  box : BoxAt H' b l
  keep : KB b l H H'
  nD : H D = none
  db : D ≠ b
  dl : D ≠ l
  zsat : ∃ zs : List Str, zs.length = i ∧ (∀ z ∈ zs, CellOk z) ∧ H' D = some (.lst (sV zs))
theorem StrsAt.start {b l : Addr} {H H1 : Hp} {D : Addr} (hB : BoxAt H1 b l) (x : KB b l H H1) (n : H1 D = none) : StrsAt b l H D 0 (upd H1 D (.lst [])) := by
  obtain ⟨d1, d2⟩ := new_ne hB n
  have nD := new_old x hB n
  exact ⟨box_new hB n, kb_upd x nD, nD, d1, d2, [], rfl, fun c h => by simp at h, upd_same⟩
theorem StrsAt.more {b l : Addr} {H H1 H2 : Hp} {D : Addr} {i : Nat} {z : Str} (o : StrsAt b l H D i H1) (hc : CellOk z) (hB : BoxAt H2 b l) (x : KB b l H1 H2) :
    ∃ acc, H2 D = some (.lst acc) ∧ acc.length = i ∧ StrsAt b l H D (i + 1) (upd H2 D (.lst (acc ++ [.str z]))) := by
  obtain ⟨zs, h1, h2, h3⟩ := o.zsat
  refine ⟨_, x D _ h3 o.db o.dl, by rw [List.length_map, h1], box_upd hB o.db o.dl, kb_upd (o.keep.trans x) o.nD, o.nD, o.db, o.dl, zs ++ [z], by rw [List.length_append, h1]; rfl, fun d hd => ?_, ?_⟩
  · rcases List.mem_append.mp hd with h | h
    · exact h2 d h
    · rw [List.mem_singleton.mp h]; exact hc
  · rw [upd_same]
    simp [sV]
/-- a list of numbers at D, below m -/
structure IntsAt (b l : Addr) (H : Hp) (D : Addr) (i : Nat) (H' : Hp) : Prop where
  box : BoxAt H' b l
  keep : KB b l H H'
  nD : H D = none
  db : D ≠ b
  dl : D ≠ l
  isat : ∃ zs : List Int, zs.length = i ∧ H' D = some (.lst (zs.map V.int))
theorem IntsAt.start {b l : Addr} {H H1 : Hp} {D : Addr} (hB : BoxAt H1 b l) (x : KB b l H H1) (n : H1 D = none) : IntsAt b l H D 0 (upd H1 D (.lst [])) := by
  obtain ⟨d1, d2⟩ := new_ne hB n
  have nD := new_old x hB n
  exact ⟨box_new hB n, kb_upd x nD, nD, d1, d2, [], rfl, upd_same⟩
theorem IntsAt.more {b l : Addr} {H H1 H2 : Hp} {D : Addr} {i : Nat} {z : Int} (o : IntsAt b l H D i H1) (hB : BoxAt H2 b l) (x : KB b l H1 H2) :
    ∃ acc, H2 D = some (.lst acc) ∧ acc.length = i ∧ IntsAt b l H D (i + 1) (upd H2 D (.lst (acc ++ [.int z]))) := by
  obtain ⟨zs, h1, h3⟩ := o.isat
  refine ⟨_, x D _ h3 o.db o.dl, by rw [List.length_map, h1], box_upd hB o.db o.dl, kb_upd (o.keep.trans x) o.nD, o.nD, o.db, o.dl, zs ++ [z], by rw [List.length_append, h1]; rfl, ?_⟩
  rw [upd_same]
  simp
theorem ixm1 {n : Nat} : ixN (n + 1) (-1) = some n := by
  unfold ixN
  rw [if_neg (by decide), if_pos (by omega)]
  congr 1
  omega
theorem atm1 {α : Type} {xs : List α} {n : Nat} {v : α} (hl : xs.length = n + 1) (h : xs[n]? = some v) : atI xs (-1) = some v := by
  unfold atI
  rw [hl, ixm1]
  exact h
/-- rows' tuples -/
def RowsP (H : Hp) (as : List Addr) : Prop := ∀ p ∈ as, ∃ r, H p = some (.tup (sV r)) ∧ RowOk r
theorem RowsP.keep {H H' : Hp} {as : List Addr} (x : RowsP H as) (k : ∀ p xs, H p = some (.tup xs) → H' p = some (.tup xs)) : RowsP H' as := fun p hp => by
  obtain ⟨r, h1, h2⟩ := x p hp
  exact ⟨r, k _ _ h1, h2⟩
theorem RowsP.page {H : Hp} : ∀ {as : List Addr}, RowsP H as → ∃ rows : List (List Str), as.length = rows.length ∧ (∀ (i : Nat) (p : Addr) (r : List Str), as[i]? = some p → rows[i]? = some r → H p = some (.tup (sV r))) ∧ ∀ r ∈ rows, RowOk r
  | [], _ => ⟨[], rfl, fun i p r h => by simp at h, fun r h => by simp at h⟩
  | a :: as, x => by
    obtain ⟨rows, h1, h2, h3⟩ := RowsP.page (as := as) fun p hp => x p (List.mem_cons_of_mem _ hp)
    obtain ⟨r, g1, g2⟩ := x a List.mem_cons_self
    refine ⟨r :: rows, by rw [List.length_cons, List.length_cons, h1], fun i p q e1 e2 => ?_, fun q hq => ?_⟩
    · cases i with
      | zero => cases e1; cases e2; exact g1
      | succ i => exact h2 i p q (by simpa using e1) (by simpa using e2)
    · rcases List.mem_cons.mp hq with z | z
      · rw [z]; exact g2
      · exact h3 q z
theorem kb_tup {b l : Addr} {H H' : Hp} (x : KB b l H H') (hB : BoxAt H b l) : ∀ p xs, H p = some (.tup xs) → H' p = some (.tup xs) := fun p xs h => by
  obtain ⟨ns, st, h1, h2, _⟩ := hB
  exact x p _ h (ne_of h h1 fun z => by cases z) (ne_of h h2 fun z => by cases z)
section
variable {P : Program} {w : World} {K : PySem.W.Frag} {mg : Str → Option Value} {base : Heap} {cs : List (Addr × Addr)}
def spRowD : Sp := fun vs H Q _ => ∃ (b l sr : Addr) (ss : List Int) (m : Int), vs = [.ref b, .ref sr, .int m] ∧ BoxAt H b l ∧ H sr = some (.lst (ss.map V.int)) ∧ ss.length = 6 ∧ sr ≠ b ∧ sr ≠ l ∧ 1 ≤ m ∧ m ≤ 6 ∧
  ∀ (p : Addr) (r : List Str) (H' : Hp), BoxAt H' b l → KB b l H H' → H p = none → H' p = some (.tup (sV r)) → RowOk r → Q (.ref p) H'
abbrev nmRow : List Str := ["_law_box", "_law_sorts", "_law_many", "_law_k"]
theorem sc_lrow : FnScope nmRow ["_law_box", "_law_sorts", "_law_many"] (defScope s_row) := ⟨rfl, rfl, rfl, by decide +kernel, rfl, by decide +kernel, by decide +kernel⟩
theorem ok_lrow {f g : Addr} {fd fdg : FuncData} (T : Txt mg) (F : Fun K "_law_row" "_law_row" s_row f fd)
    (G : FnOk P w K mg base CX0 3 g fdg ["_law_box", "_law_sort"] spCell) (kp : PySem.W.keepIn K (.ref g) = true) (bd : Binds K fdg ["_law_box", "_law_sort"] []) (mgg : mg "_law_cell" = some (.ref g)) : FnOk P w K mg base CX0 4 f fd ["_law_box", "_law_sorts", "_law_many"] spRowD := by
  refine F.ok sc_lrow (fun vs H Q E h => ?_) (fun cdv A outer s H vs Q E hr h => ?_)
  · obtain ⟨b, l, sr, ss, m, rfl, _⟩ := h
    rfl
  · obtain ⟨b, l, sr, ss, m, rfl, hB, hs, h6, sb, sl, m1, m6, k⟩ := h
    have nd := sc_lrow.nd
    have szl : (1000 : Nat) < sizeLine := by decide
    refine ⟨_, pss_one (ps_ret (pe_callTy call_tuple_of (by rfl) T.tuple (by decide +kernel) (pa_cons (pe_lc (own := [("_law_k", 3)]) (g := gName 3) (tt := tYes) rfl nd (pi_range1 (by rfl) T.range (pa_cons (pv 2) pa_nil)) (blkOk_by (own := [("_law_k", 3)]) (N := nmRow) (sc := defScope s_row) (by decide +kernel))
          (fun _ _ _ _ _ => pg_name (i := 3) nd rfl (Or.inl rfl)) (fun _ _ _ _ _ => pts_nil) (fun s1 H1 C1 cl1 fp1 => pe_call G hr (by rfl) mgg kp bd .nil pass0 (pa_cons (pv 0) (pa_cons (pe_ix (r := rIxL K) ix_list (pv 1) (pv 3) (fun _ _ => rfl)) pa_nil)))) pa_nil))), ?_⟩
    refine ⟨_, rfl, m, rfl, by omega, by omega, fun D nD => lc_range (n := m.toNat) (fun i H' => StrsAt b l H D i H') (StrsAt.start hB KB.refl nD) ?_ ?_⟩
    · rintro i H1 hi o
      obtain ⟨sv, hsv⟩ := getP (xs := ss) (i := i) (by omega)
      have hs1 := o.keep sr _ hs sb sl
      refine ⟨rfl, _, rfl, _, rfl, _, rfl, sr, _, _, .int sv, rfl, rfl, SqL.of hs1, by rw [Int.zero_add]; exact atI_nat (by rw [List.getElem?_map, hsv]; rfl), b, l, sv, rfl, o.box, fun z H2 hz hB2 x2 => ?_⟩
      obtain ⟨acc, hacc, hl, o2⟩ := o.more hz hB2 x2
      exact ⟨acc, hacc, by omega, o2⟩
    · rintro H1 o
      obtain ⟨zs, h1, h2, h3⟩ := o.zsat
      refine ⟨D, _, rfl, .inl ⟨SqL.of h3, fun p np => k p zs _ (box_new o.box np) (o.keep.trans (kb_new np)) (new_old o.keep o.box np) upd_same ⟨by omega, by omega, h2⟩⟩⟩
def spPageD : Sp := fun vs H Q _ => ∃ (b l : Addr) (m : Int), vs = [.ref b, .int m] ∧ BoxAt H b l ∧ 1 ≤ m ∧ m ≤ 30 ∧
  ∀ (p : Addr) (as : List Addr) (rows : List (List Str)) (H' : Hp), BoxAt H' b l → KB b l H H' → H p = none → p ≠ b → p ≠ l → H' p = some (.lst (as.map V.ref)) → as.length = rows.length → (∀ (i : Nat) (q : Addr) (r : List Str), as[i]? = some q → rows[i]? = some r → H' q = some (.tup (sV r))) → PgOk rows → Q (.ref p) H'
abbrev nmPage : List Str := ["_law_box", "_law_most", "_law_sorts", "_law_many", "_law_rows", "_law_turn", "_law_way", "_law_k"]
theorem sc_lpage : FnScope nmPage ["_law_box", "_law_most"] (defScope s_page) := ⟨rfl, rfl, rfl, by decide +kernel, rfl, by decide +kernel, by decide +kernel⟩
theorem ok_lpage {f g g2 : Addr} {fd fdg fd2 : FuncData} (T : Txt mg) (F : Fun K "_law_page" "_law_page" s_page f fd)
    (G : FnOk P w K mg base CX0 1 g fdg ["_law_box", "_law_many"] spTake) (kp : PySem.W.keepIn K (.ref g) = true) (bd : Binds K fdg ["_law_box", "_law_many"] []) (mgg : mg "_law_take" = some (.ref g))
    (G2 : FnOk P w K mg base CX0 4 g2 fd2 ["_law_box", "_law_sorts", "_law_many"] spRowD) (kp2 : PySem.W.keepIn K (.ref g2) = true) (bd2 : Binds K fd2 ["_law_box", "_law_sorts", "_law_many"] []) (mg2 : mg "_law_row" = some (.ref g2)) : FnOk P w K mg base CX0 5 f fd ["_law_box", "_law_most"] spPageD := by
  refine F.ok sc_lpage (fun vs H Q E h => ?_) (fun cdv A outer s H vs Q E hr h => ?_)
  · obtain ⟨b, l, m, rfl, _⟩ := h
    rfl
  · obtain ⟨b, l, m, rfl, hB, m1, m30, k⟩ := h
    have nd := sc_lpage.nd
    have szl : (1000 : Nat) < sizeLine := by decide
    have hr1 : Room 1 _ := hr.mono (by decide)
    refine ⟨_, pss_cons (ps_setLc (i := 2) (own := [("_law_k", 7)]) (g := gName 7) rfl nd rfl rfl (sw_true rfl rfl rfl (by decide +kernel)) (pi_range1 (by rfl) T.range (pa_cons pe_int pa_nil)) (blkOk_by (own := [("_law_k", 7)]) (N := nmPage) (sc := defScope s_page) (by decide +kernel))
          (fun _ _ _ _ _ => pg_name (i := 7) nd rfl (Or.inl rfl)) (fun _ _ _ _ _ => pts_nil) (fun s1 H1 C1 cl1 fp1 => pe_call G hr1 (by rfl) mgg kp bd .nil pass0 (pa_cons (pv 0) (pa_cons pe_int pa_nil))))
      (pss_cons (ps_par (i := 3) (j := 4) rfl nd rfl rfl (by decide) rfl rfl (pa_cons (pe_op op_add pe_int (pe_call G hr1 (by rfl) mgg kp bd .nil pass0 (pa_cons (pv 0) (pa_cons pe_int pa_nil)))) (pa_cons (pe_lst pa_nil) pa_nil)) (by rfl))
      (pss_cons (ps_for PassesOwn.never rfl (pi_range1 (by rfl) T.range (pa_cons (pe_op op_add pe_int (pe_call G hr1 (by rfl) mgg kp bd .nil pass0 (pa_cons (pv 0) (pa_cons (pv 1) pa_nil)))) pa_nil)) (pg_name (i := 5) nd rfl (.inl rfl))
        (pss_cons (ps_set (i := 6) nd rfl (.inl rfl) (pe_call G hr1 (by rfl) mgg kp bd .nil pass0 (pa_cons (pv 0) (pa_cons pe_int pa_nil))))
        (pss_cons (ps_set (i := 3) nd rfl (.inl rfl) (pe_ix ix_list (pe_lst (pa_cons (pe_op op_add pe_int (pe_call G hr1 (by rfl) mgg kp bd .nil pass0 (pa_cons (pv 0) (pa_cons pe_int pa_nil)))) (pa_cons (pe_callB (call_max2 rfl) (by rfl) T.max (by decide +kernel) (pa_cons pe_int (pa_cons (pe_op op_sub (pv 3) pe_int) pa_nil)))
            (pa_cons (pe_callB (call_min2 rfl) (by rfl) T.min (by decide +kernel) (pa_cons pe_int (pa_cons (pe_op op_add (pv 3) pe_int) pa_nil))) (pa_cons (pv 3) pa_nil))))) (pe_callB (call_min2 rfl) (by rfl) T.min (by decide +kernel) (pa_cons (pv 6) (pa_cons pe_int pa_nil))) (fun _ _ => rfl)))
        (pss_cons (ps_expr (pe_bm PySem.F.plainAttrs_list PySem.F.slot_list_append PySem.F.type_list_append mt_append (pv 4) (pa_cons (pe_call G2 hr (by rfl) mg2 kp2 bd2 .nil pass0 (pa_cons (pv 0) (pa_cons (pv 2) (pa_cons (pv 3) pa_nil)))) pa_nil)))
        (pss_one (ps_if (pt_cmpR op_eq (pv 6) pe_int (nomark _))
          (pss_cons (ps_asg (pe_ix ix_list (pv 4) (pe_call G hr1 (by rfl) mgg kp bd .nil pass0 (pa_cons (pv 0) (pa_cons (pe_callB call_len_seq (by rfl) T.len PySem.boot_len (pa_cons (pv 4) pa_nil)) pa_nil))) (fun _ _ => rfl)) (pg_sub (pv 4) (pe_un un_neg pe_int) set_list))
          (pss_one (ps_set (i := 3) nd rfl (.inl rfl) (pe_callB call_len_seq (by rfl) T.len PySem.boot_len (pa_cons (pe_ix ix_list (pv 4) (pe_un un_neg pe_int) (fun _ _ => rfl)) pa_nil))))) pss_nil))))))
      (pss_one (ps_ret (pv 4))))), ?_⟩
    refine ⟨6, rfl, by decide, by decide, fun sr nsr => lc_range (n := 6) (fun i H' => IntsAt b l H sr i H') (IntsAt.start hB KB.refl nsr) ?_ ?_⟩
    · rintro i H1 hi o
      refine ⟨rfl, _, rfl, b, l, 2, rfl, o.box, by decide, by decide, fun r H2 r0 r1 hB2 x2 => ?_⟩
      obtain ⟨acc, hacc, hl, o2⟩ := o.more (z := r) hB2 x2
      exact ⟨acc, hacc, by omega, o2⟩
    rintro H1 ⟨hB1, x1, nsr, sb, sl, ss, h6, hs1⟩
    refine ⟨_, rfl, b, l, 6, rfl, hB1, by decide, by decide, fun m0 H2 a0 a1 hB2 x2 => ⟨1, m0, rfl, rfl, small0, fun lr nlr => ⟨_, _, rfl, ?_⟩⟩⟩
    have hs2 := x2 sr _ hs1 sb sl
    have y2 := x1.trans x2
    obtain ⟨lb, ll⟩ := new_ne hB2 nlr
    have lrs : lr ≠ sr := fun z => by rw [z, hs2] at nlr; cases nlr
    have nlr0 := new_old y2 hB2 nlr
    refine ⟨_, rfl, _, rfl, b, l, m, rfl, box_new hB2 nlr, by omega, by omega, fun tt H4 t0 t1 hB4 x4 => ⟨1, tt, rfl, rfl, 1 + tt, rfl, by omega, by omega, ?_⟩⟩
    have hs4 : H4 sr = some (.lst (ss.map V.int)) := x4 sr _ (by rw [upd_ne lrs.symm]; exact hs2) sb sl
    have y4 := (y2.trans (kb_new nlr)).trans x4
    have hl4 : H4 lr = some (.lst []) := x4 lr _ upd_same lb ll
    refine for_range (n := (1 + tt).toNat) (fun i σ H' => ∃ (mm : Int) (as : List Addr) (c5 c6 : Option V), σ = [some (.ref b), some (.int m), some (.ref sr), some (.int mm), some (.ref lr), c5, c6, none] ∧ 1 ≤ mm ∧ mm ≤ 6 ∧ BoxAt H' b l ∧ KB b l H H' ∧ H' sr = some (.lst (ss.map V.int)) ∧ H' lr = some (.lst (as.map V.ref)) ∧ as.length = i ∧ RowsP H' as)
      ⟨1 + m0, [], none, none, rfl, by omega, by omega, hB4, y4, hs4, hl4, rfl, fun p h => by simp at h⟩ ?_ ?_
    · rintro i σ H5 hi ⟨mm, as, c5, c6, rfl, mm1, mm6, hB5, y5, hs5, hl5, hlen, hR5⟩
      refine ⟨_, rfl, b, l, 8, rfl, hB5, by decide, by decide, fun way H6 w0 w1 hB6 x6 => ?_⟩
      refine ⟨_, rfl, b, l, 6, rfl, hB6, by decide, by decide, fun n6 H7 n0 n1 hB7 x7 => ⟨1, n6, rfl, rfl, _, rfl, mm, 1, rfl, rfl, 1, mm - 1, rfl, _, rfl, mm, 1, rfl, rfl, 6, mm + 1, rfl, _, rfl, line10 (by show 4 ≤ 1000; decide), fun q nq => ?_⟩⟩
      obtain ⟨mv, hmv, emv⟩ := pick (xs := [1 + n6, (if mm - 1 > 1 then mm - 1 else 1), (if mm + 1 < 6 then mm + 1 else 6), mm]) (i := if 3 < way then 3 else way) (by split <;> omega) (by show _ < (4 : Int); split <;> omega)
      have hmv2 : 1 ≤ mv ∧ mv ≤ 6 := by
        simp only [List.mem_cons, List.not_mem_nil, or_false] at hmv
        rcases hmv with h | h | h | h
        · omega
        · split at h <;> omega
        · split at h <;> omega
        · omega
      refine ⟨_, rfl, way, 3, rfl, q, _, _, .int mv, rfl, rfl, SqL.of upd_same, atI_map (f := V.int) emv, ?_⟩
      have y7 : KB b l H5 (upd H7 q (.lst (List.map V.int [1 + n6, (if mm - 1 > 1 then mm - 1 else 1), (if mm + 1 < 6 then mm + 1 else 6), mm]))) := (x6.trans x7).trans (kb_new nq)
      have hB8 := box_new (o := .lst (List.map V.int [1 + n6, (if mm - 1 > 1 then mm - 1 else 1), (if mm + 1 < 6 then mm + 1 else 6), mm])) hB7 nq
      have hl8 := y7 lr _ hl5 lb ll
      have hs8 := y7 sr _ hs5 sb sl
      refine ⟨_, rfl, .inl ⟨rfl, _, SqL.of hl8⟩, _, rfl, _, rfl, _, rfl, b, l, sr, ss, mv, rfl, hB8, hs8, h6, sb, sl, hmv2.1, hmv2.2, fun p r H9 hB9 x9 np hp hro => ?_⟩
      have hl9 := x9 lr _ hl8 lb ll
      have hs9 := x9 sr _ hs8 sb sl
      have plr : p ≠ lr := fun z => by rw [z, hl9] at hp; cases hp
      refine ⟨lr, _, .ref p, rfl, rfl, hl9, by rw [List.length_map]; omega, ?_⟩
      have el : as.map V.ref ++ [V.ref p] = (as ++ [p]).map V.ref := by simp
      rw [el]
      have y9 := kb_upd (o := .lst ((as ++ [p]).map V.ref)) (y5.trans (y7.trans x9)) nlr0
      have hB10 := box_upd (o := .lst ((as ++ [p]).map V.ref)) hB9 lb ll
      have hl10 : (upd H9 lr (.lst ((as ++ [p]).map V.ref))) lr = some (.lst ((as ++ [p]).map V.ref)) := upd_same
      have hs10 : (upd H9 lr (.lst ((as ++ [p]).map V.ref))) sr = some (.lst (ss.map V.int)) := by rw [upd_ne lrs.symm]; exact hs9
      have hR10 : RowsP (upd H9 lr (.lst ((as ++ [p]).map V.ref))) (as ++ [p]) := fun u hu => by
        rcases List.mem_append.mp hu with h | h
        · obtain ⟨r2, e1, e2⟩ := hR5 u h
          have e3 := kb_tup (y7.trans x9) hB5 u _ e1
          exact ⟨r2, by rw [upd_ne (fun z => by rw [z, hl9] at e3; cases e3)]; exact e3, e2⟩
        · rw [List.mem_singleton.mp h]
          exact ⟨r, by rw [upd_ne plr]; exact hp, hro⟩
      have hlen2 : (as ++ [p]).length = i + 1 := by rw [List.length_append, hlen]; rfl
      generalize (upd H9 lr (.lst ((as ++ [p]).map V.ref))) = H10 at y9 hB10 hl10 hs10 hR10 ⊢
      generalize as ++ [p] = as2 at hl10 hR10 hlen2 ⊢
      refine ⟨_, rfl, rfl, _, rfl, iteB ?_ ?_⟩
      · have ln : ((as2.map V.ref).length : Int) = ((i + 1 : Nat) : Int) := by rw [List.length_map, hlen2]
        refine ⟨_, rfl, _, rfl, _, rfl, lr, _, rfl, .inl (SqL.of hl10), b, l, _, rfl, hB10, by omega, by omega, fun j H11 j0 j1 hB11 x11 => ?_⟩
        have hl11 := x11 lr _ hl10 lb ll
        obtain ⟨u, hu, eu⟩ := pick (xs := as2) (i := j) j0 (by rw [hlen2]; omega)
        obtain ⟨r2, e1, e2⟩ := hR10 u hu
        have e3 := kb_tup x11 hB10 u _ e1
        have ulr : u ≠ lr := fun z => by rw [z, hl11] at e3; cases e3
        have ix : ixN (as2.map V.ref).length (-1) = some i := by rw [List.length_map, hlen2]; exact ixm1
        refine ⟨lr, _, j, .ref u, rfl, rfl, SqL.of hl11, atI_map eu, _, rfl, 1, rfl, lr, _, -1, i, rfl, rfl, hl11, ix, ?_⟩
        have es : (as2.map V.ref).set i (V.ref u) = (as2.set i u).map V.ref := by rw [List.map_set]
        rw [es]
        have gu : (as2.set i u)[i]? = some u := List.getElem?_set_self (by omega)
        have hs11 := x11 sr _ hs10 sb sl
        refine ⟨_, rfl, 1, rfl, lr, _, -1, .ref u, rfl, rfl, SqL.of upd_same, atm1 (n := i) (by rw [List.length_map, List.length_set, hlen2]) (by rw [List.getElem?_map, gu]; rfl), u, _, rfl, .inr (SqT.of (by rw [upd_ne ulr]; exact e3)), ?_⟩
        have l1 := e2.pos
        have l2 := e2.len
        have lr2 : (sV r2).length = r2.length := List.length_map ..
        refine ⟨_, as2.set i u, _, _, rfl, by omega, by omega, box_upd hB11 lb ll, kb_upd (y9.trans x11) nlr0, by rw [upd_ne lrs.symm]; exact hs11, upd_same, by rw [List.length_set, hlen2], fun v hv => ?_⟩
        rcases List.mem_or_eq_of_mem_set hv with h | h
        · obtain ⟨r3, f1, f2⟩ := hR10 v h
          have f3 := kb_tup x11 hB10 v _ f1
          exact ⟨r3, by rw [upd_ne (fun z => by rw [z, hl11] at f3; cases f3)]; exact f3, f2⟩
        · rw [h]
          exact ⟨r2, by rw [upd_ne ulr]; exact e3, e2⟩
      · exact ⟨_, as2, _, _, rfl, hmv2.1, hmv2.2, hB10, y9, hs10, hl10, hlen2, hR10⟩
    · rintro σ H5 ⟨mm, as, c5, c6, rfl, mm1, mm6, hB5, y5, hs5, hl5, hlen, hR5⟩
      obtain ⟨rows, g1, g2, g3⟩ := hR5.page
      exact ⟨_, rfl, k lr as rows H5 hB5 y5 nlr0 lb ll hl5 g1 g2 ⟨by omega, by omega, g3⟩⟩
def spStyleD : Sp := fun vs H Q _ => ∃ (b l : Addr), vs = [.ref b] ∧ BoxAt H b l ∧
  ∀ (p : Addr) (gap least : Int) (H' : Hp), BoxAt H' b l → KB b l H H' → H p = none → H' p = some (.tup [.int gap, .int least]) → 0 ≤ gap → gap ≤ 4 → 0 ≤ least → least ≤ 12 → Q (.ref p) H'
theorem sc_lstyle : FnScope ["_law_box", "_law_gap"] ["_law_box"] (defScope s_style) := ⟨rfl, rfl, rfl, by decide +kernel, rfl, by decide +kernel, by decide +kernel⟩
theorem ok_lstyle {f g : Addr} {fd fdg : FuncData} (F : Fun K "_law_style" "_law_style" s_style f fd)
    (G : FnOk P w K mg base CX0 1 g fdg ["_law_box", "_law_many"] spTake) (kp : PySem.W.keepIn K (.ref g) = true) (bd : Binds K fdg ["_law_box", "_law_many"] []) (mgg : mg "_law_take" = some (.ref g)) : FnOk P w K mg base CX0 2 f fd ["_law_box"] spStyleD := by
  refine F.ok sc_lstyle (fun vs H Q E h => ?_) (fun cdv A outer s H vs Q E hr h => ?_)
  · obtain ⟨b, l, rfl, _⟩ := h
    rfl
  · obtain ⟨b, l, rfl, hB, k⟩ := h
    have nd := sc_lstyle.nd
    refine ⟨_, pss_cons (ps_set (i := 1) nd rfl (.inl rfl) (pe_ix ix_list (pe_lst (pa_cons (pe_call G hr (by rfl) mgg kp bd .nil pass0 (pa_cons (pv 0) (pa_cons pe_int pa_nil))) (pa_cons pe_int (pa_cons pe_int pa_nil)))) (pe_call G hr (by rfl) mgg kp bd .nil pass0 (pa_cons (pv 0) (pa_cons pe_int pa_nil))) (fun _ _ => rfl)))
      (pss_one (ps_ret (pe_tup (pa_cons (pv 1) (pa_cons (pe_ix ix_list (pe_lst (pa_cons pe_int (pa_cons (pe_call G hr (by rfl) mgg kp bd .nil pass0 (pa_cons (pv 0) (pa_cons pe_int pa_nil))) (pa_cons (pe_call G hr (by rfl) mgg kp bd .nil pass0 (pa_cons (pv 0) (pa_cons pe_int pa_nil))) pa_nil))))
        (pe_call G hr (by rfl) mgg kp bd .nil pass0 (pa_cons (pv 0) (pa_cons pe_int pa_nil))) (fun _ _ => rfl)) pa_nil))))), ?_⟩
    refine ⟨_, rfl, b, l, 5, rfl, hB, by decide, by decide, fun g0 H1 a0 a1 hB1 x1 => ⟨line10 (by show 3 ≤ 1000; decide), fun p np => ⟨_, rfl, b, l, 3, rfl, box_new hB1 np, by decide, by decide, fun r H2 r0 r1 hB2 x2 => ?_⟩⟩⟩
    obtain ⟨nb, nl⟩ := new_ne hB1 np
    have hp := x2 p _ upd_same nb nl
    obtain ⟨gap, hg, eg⟩ := pick (xs := [g0, 1, 2]) (i := r) r0 r1
    have hg2 : 0 ≤ gap ∧ gap ≤ 4 := by
      simp only [List.mem_cons, List.not_mem_nil, or_false] at hg
      omega
    have y2 := (x1.trans (kb_new np)).trans x2
    refine ⟨p, _, _, .int gap, rfl, rfl, SqL.of hp, atI_map (f := V.int) eg, ?_⟩
    refine ⟨_, rfl, _, rfl, b, l, 13, rfl, hB2, by decide, by decide, fun l1 H3 b0 b1 hB3 x3 => ⟨_, rfl, b, l, 13, rfl, hB3, by decide, by decide, fun l2 H4 c0 c1 hB4 x4 => ⟨line10 (by show 3 ≤ 1000; decide), fun q nq => ⟨_, rfl, b, l, 3, rfl, box_new hB4 nq, by decide, by decide, fun r2 H5 s0 s1 hB5 x5 => ?_⟩⟩⟩⟩
    obtain ⟨nb2, nl2⟩ := new_ne hB4 nq
    have hq := x5 q _ upd_same nb2 nl2
    obtain ⟨least, hl, el⟩ := pick (xs := [0, l1, l2]) (i := r2) s0 s1
    have hl2 : 0 ≤ least ∧ least ≤ 12 := by
      simp only [List.mem_cons, List.not_mem_nil, or_false] at hl
      omega
    have y5 := (((y2.trans x3).trans x4).trans (kb_new nq)).trans x5
    exact ⟨q, _, _, .int least, rfl, rfl, SqL.of hq, atI_map (f := V.int) el, line10 (by show 2 ≤ 1000; decide), fun t nt => k t gap least _ (box_new hB5 nt) (y5.trans (kb_new nt)) (new_old y5 hB5 nt) upd_same hg2.1 hg2.2 hl2.1 hl2.2⟩
end
end TG
namespace TG
open PySem L2 Gx
theorem same_trans {H H1 H2 : Hp} (a : Same H H1) (b : Same H1 H2) : Same H H2 := fun c o h => b c o (a c o h)
theorem same_new {H : Hp} {p : Addr} {o : HO} (n : H p = none) : Same H (upd H p o) := fun c u h => by rw [upd_ne (ne_of_none h n)]; exact h
theorem same_upd {H H' : Hp} {p : Addr} {o : HO} (x : Same H H') (n : H p = none) : Same H (upd H' p o) := fun c u h => by rw [upd_ne (ne_of_none h n)]; exact x c u h
theorem same_sqL {K : PySem.W.Frag} {H H' : Hp} {a : Addr} {xs : List V} (e : Same H H') (h : SqL K H a xs) : SqL K H' a xs := by
  rcases h with (z | ⟨o, z⟩) | z
  · exact .inl (.inl (e _ _ z))
  · exact .inl (.inr ⟨o, e _ _ z⟩)
  · exact .inr z
theorem same_sqT {K : PySem.W.Frag} {H H' : Hp} {a : Addr} {xs : List V} (e : Same H H') (h : SqT K H a xs) : SqT K H' a xs := by
  rcases h with (z | ⟨o, z⟩) | z
  · exact .inl (.inl (e _ _ z))
  · exact .inl (.inr ⟨o, e _ _ z⟩)
  · exact .inr z
theorem PageAt.same {K : PySem.W.Frag} {H H' : Hp} {a : Addr} {as : List Addr} {rows : List (List Str)} (p : PageAt K H a as rows) (e : Same H H') : PageAt K H' a as rows :=
  ⟨same_sqL e p.lst, p.len, fun i q r h1 h2 => same_sqT e (p.row i q r h1 h2)⟩
theorem same_old {H H' : Hp} {p : Addr} (e : Same H H') (n : H' p = none) : H p = none := by
  cases q : H p with
  | none => rfl
  | some o => rw [e _ _ q] at n; cases n
theorem canAll_strs : ∀ {zs : List Str}, (∀ z ∈ zs, ∀ c ∈ cl z, SgOk c) → PyData.canLayAll0 (zs.map PyData.str) = true
  | [], _ => rfl
  | z :: zs, h => by
    rw [List.map_cons]
    simp only [PyData.canLayAll0, PyData.canLay0, Bool.and_eq_true]
    refine ⟨?_, canAll_strs fun y hy => h y (List.mem_cons_of_mem _ hy)⟩
    unfold PyData.strOk
    rw [← Array.all_toList, List.all_eq_true]
    intro c hc
    have := h z List.mem_cons_self c hc
    unfold SgOk at this
    exact decide_eq_true (by omega)
theorem depthAll_strs : ∀ zs : List Str, PyData.depthAll (zs.map PyData.str) = 0
  | [] => rfl
  | _ :: r => by simp [PyData.depthAll, PyData.depth, depthAll_strs r]
theorem dp_strs {K : PySem.W.Frag} {H : Hp} : ∀ zs : List Str, DpAll K H (sV zs) (zs.map PyData.str)
  | [] => .nil
  | z :: zs => .cons (.str z) (dp_strs zs)
section
variable {P : Program} {w : World} {K : PySem.W.Frag} {mg : Str → Option Value} {base : Heap} {cs : List (Addr × Addr)}
end
end TG
namespace TG
open PySem L2 Gx
def loB (rows : List (List Str)) (c : Nat) : Nat → Nat
  | 0 => 0
  | i + 1 => if clB rows c i = true then loB rows c i else i + 1
theorem lo_eq {rows : List (List Str)} {c i : Nat} : (loB rows c i = i) ↔ (i = 0 ∨ clB rows c (i - 1) = false) := by
  have le : ∀ j, loB rows c j ≤ j := by
    intro j
    induction j with
    | zero => exact Nat.le_refl _
    | succ j ih =>
      show (if clB rows c j = true then loB rows c j else j + 1) ≤ j + 1
      split
      · omega
      · omega
  cases i with
  | zero => exact ⟨fun _ => .inl rfl, fun _ => rfl⟩
  | succ i =>
    rw [Nat.add_sub_cancel]
    show (if clB rows c i = true then loB rows c i else i + 1) = i + 1 ↔ _
    have := le i
    by_cases h : clB rows c i = true
    · rw [if_pos h, h]
      constructor
      · intro q; omega
      · intro q
        rcases q with q | q
        · omega
        · cases q
    · rw [if_neg h]
      constructor
      · intro _; exact .inr (by cases q : clB rows c i with
          | true => exact absurd q h
          | false => rfl)
      · intro _; rfl
section
variable {P : Program} {w : World} {K : PySem.W.Frag} {mg : Str → Option Value} {base : Heap} {cs : List (Addr × Addr)}
end
end TG
namespace TG
open PySem L2 Gx
theorem st_cl {rows : List (List Str)} {c i : Nat} (h : stB rows c i = true) : clB rows c i = true ∧ loB rows c i = i ∧ hiB rows c (i + 1) = hiB rows c i ∧ i < hiB rows c i ∧ hiB rows c i ≤ rows.length ∧ ∀ j, i ≤ j → j < hiB rows c i → clB rows c j = true := by
  unfold stB at h
  obtain ⟨h1, h2⟩ := Bool.and_eq_true_iff.mp h
  refine ⟨h1, lo_eq.mpr ?_, (hi_yes h1).symm, ?_, hi_le (Nat.le_of_lt (cl_lt h1)), fun j h3 h4 => hi_in (j - i) i j (by omega) h4⟩
  · rcases Bool.or_eq_true_iff.mp h2 with q | q
    · exact .inl (of_decide_eq_true q)
    · exact .inr (by simpa using q)
  · rw [hi_yes h1]; exact hi_ge rows c (i + 1)
end TG
namespace TG
open PySem L2 Gx
theorem lo_le (rows : List (List Str)) (c : Nat) : ∀ i, loB rows c i ≤ i
  | 0 => Nat.le_refl _
  | i + 1 => by
    show (if clB rows c i = true then loB rows c i else i + 1) ≤ i + 1
    have := lo_le rows c i
    split <;> omega
theorem lo_in {rows : List (List Str)} {c : Nat} : ∀ {i j : Nat}, loB rows c i ≤ j → j < i → clB rows c j = true
  | 0, j, _, h => absurd h (Nat.not_lt_zero _)
  | i + 1, j, h1, h2 => by
    have h1 : (if clB rows c i = true then loB rows c i else i + 1) ≤ j := h1
    split at h1
    · rename_i q
      by_cases e : j = i
      · rw [e]; exact q
      · exact lo_in h1 (by omega)
    · omega
theorem st_lo {rows : List (List Str)} {c i : Nat} (h : clB rows c i = true) : stB rows c (loB rows c i) = true := by
  have h1 := lo_le rows c i
  have h2 : clB rows c (loB rows c i) = true := by
    by_cases e : loB rows c i = i
    · rw [e]; exact h
    · exact lo_in (Nat.le_refl _) (by omega)
  unfold stB
  rw [h2, Bool.true_and]
  have h3 : loB rows c i = 0 ∨ clB rows c (loB rows c i - 1) = false := by
    clear h h2 h1
    induction i with
    | zero => exact .inl rfl
    | succ i ih =>
      show (if clB rows c i = true then loB rows c i else i + 1) = 0 ∨ clB rows c ((if clB rows c i = true then loB rows c i else i + 1) - 1) = false
      by_cases q : clB rows c i = true
      · rw [if_pos q]; exact ih
      · rw [if_neg q, Nat.add_sub_cancel]
        exact .inr (by simpa using q)
  rcases h3 with q | q
  · rw [decide_eq_true q, Bool.true_or]
  · rw [q, Bool.not_false, Bool.or_true]
theorem hi_down {rows : List (List Str)} {c x : Nat} : ∀ {d : Nat}, (∀ j, x ≤ j → j < x + d → clB rows c j = true) → hiB rows c x = hiB rows c (x + d)
  | 0, _ => rfl
  | d + 1, h => by
    rw [hi_down (d := d) fun j h1 h2 => h j h1 (by omega), hi_yes (h (x + d) (by omega) (by omega)), Nat.add_assoc]
theorem hi_lo (rows : List (List Str)) (c i : Nat) : hiB rows c (loB rows c i) = hiB rows c i := by
  have h := lo_le rows c i
  obtain ⟨d, hd⟩ := Nat.exists_eq_add_of_le h
  have := hi_down (rows := rows) (c := c) (x := loB rows c i) (d := d) fun j h1 h2 => lo_in h1 (by omega)
  rw [this, ← hd]
theorem lo_same {rows : List (List Str)} {c x : Nat} (h : stB rows c x = true) : ∀ {d : Nat}, x + d < hiB rows c x → loB rows c (x + d) = x
  | 0, _ => (st_cl h).2.1
  | d + 1, hd => by
    show (if clB rows c (x + d) = true then loB rows c (x + d) else x + d + 1) = x
    rw [if_pos ((st_cl h).2.2.2.2.2 (x + d) (by omega) (by omega))]
    exact lo_same h (by omega)
/-- a closed cell's stretch -/
theorem cl_run {rows : List (List Str)} {c i : Nat} (h : clB rows c i = true) : loB rows c i ≤ i ∧ i < hiB rows c i ∧ hiB rows c (i + 1) = hiB rows c i ∧ hiB rows c i ≤ rows.length ∧ ∀ j, loB rows c i ≤ j → j < hiB rows c i → clB rows c j = true := by
  obtain ⟨_, _, _, _, h2, h3⟩ := st_cl (st_lo h)
  rw [hi_lo] at h2 h3
  refine ⟨lo_le rows c i, ?_, (hi_yes h).symm, h2, h3⟩
  rw [hi_yes h]
  exact hi_ge rows c (i + 1)
abbrev covB (i : Nat) (q : Nat × Nat × Nat) : Bool := decide (q.2.1 ≤ i ∧ i < q.2.2)
theorem filter_one {p : Nat → Bool} {a : Nat} (h : ∀ x, p x = decide (x = a)) : ∀ n, (List.range n).filter p = if a < n then [a] else [] := by
  intro n
  induction n with
  | zero => simp
  | succ n ih =>
    rw [List.range_succ, List.filter_append, ih]
    by_cases e : n = a
    · subst e
      rw [if_neg (Nat.lt_irrefl _), if_pos (Nat.lt_succ_self _), List.filter_cons_of_pos (by rw [h]; exact decide_eq_true rfl)]
      rfl
    · rw [List.filter_cons_of_neg (by rw [h, decide_eq_false e]; exact Bool.false_ne_true), List.filter_nil, List.append_nil]
      by_cases q : a < n
      · rw [if_pos q, if_pos (by omega)]
      · rw [if_neg q, if_neg (by omega)]
theorem col_cov (rows : List (List Str)) (c i : Nat) : (ofCol rows c).filter (covB i) = if clB rows c i = true then [(c, loB rows c i, hiB rows c i)] else [] := by
  unfold ofCol runsB
  rw [List.map_map, List.filter_map]
  rw [List.filter_filter]
  by_cases h : clB rows c i = true
  · rw [if_pos h]
    have hp : ∀ x, (((covB i) ∘ ((fun p : Nat × Nat => (c, p.1, p.2)) ∘ fun i => (i, hiB rows c i))) x && stB rows c x) = decide (x = loB rows c i) := fun x => by
      rw [Bool.eq_iff_iff, Bool.and_eq_true, decide_eq_true_eq]
      constructor
      · rintro ⟨h1, h2⟩
        obtain ⟨h3, h4⟩ := of_decide_eq_true h1
        have h3 : x ≤ i := h3
        have h4 : i < hiB rows c x := h4
        obtain ⟨d, hd⟩ := Nat.exists_eq_add_of_le h3
        rw [hd]
        exact (lo_same h2 (by omega)).symm
      · intro e
        subst e
        obtain ⟨h1, h2, _⟩ := cl_run h
        refine ⟨decide_eq_true ⟨h1, ?_⟩, st_lo h⟩
        show i < hiB rows c (loB rows c i)
        rw [hi_lo]; exact h2
    rw [filter_one hp, if_pos (Nat.lt_of_le_of_lt (lo_le rows c i) (cl_lt h))]
    show [(c, loB rows c i, hiB rows c (loB rows c i))] = _
    rw [hi_lo]
  · rw [if_neg h]
    have : List.filter (fun x => ((covB i) ∘ ((fun p : Nat × Nat => (c, p.1, p.2)) ∘ fun i => (i, hiB rows c i))) x && stB rows c x) (List.range rows.length) = [] := by
      refine List.filter_eq_nil_iff.mpr fun x _ q => ?_
      obtain ⟨h1, h2⟩ := Bool.and_eq_true_iff.mp q
      obtain ⟨h3, h4⟩ := of_decide_eq_true h1
      have h3 : x ≤ i := h3
      have h4 : i < hiB rows c x := h4
      exact h ((st_cl h2).2.2.2.2.2 i h3 h4)
    rw [this]
    rfl
/-- how many cells of row i are closed -/
def ncl (rows : List (List Str)) (i : Nat) : Nat := match rows[i]? with
  | some r => r.length - 1
  | none => 0
theorem cl_ncl (rows : List (List Str)) (c i : Nat) : clB rows c i = decide (c < ncl rows i) := by
  unfold clB ncl
  cases rows[i]? with
  | none => exact (decide_eq_false (Nat.not_lt_zero _)).symm
  | some r =>
    show decide (c + 1 < r.length) = decide (c < r.length - 1)
    exact decide_eq_decide.mpr (by omega)
def entOf (rows : List (List Str)) (i c : Nat) : Nat × Nat × Nat := (c, loB rows c i, hiB rows c i)
theorem flat_if {α : Type} {f : Nat → α} {m : Nat} : ∀ d, (List.range d).flatMap (fun c => if c < m then [f c] else []) = (List.range (min d m)).map f := by
  intro d
  induction d with
  | zero => simp
  | succ d ih =>
    rw [List.range_succ, List.flatMap_append, ih, List.flatMap_cons, List.flatMap_nil, List.append_nil]
    by_cases h : d < m
    · rw [if_pos h, Nat.min_eq_left (by omega), Nat.min_eq_left (by omega), List.range_succ, List.map_append]
      rfl
    · rw [if_neg h, List.append_nil, Nat.min_eq_right (by omega), Nat.min_eq_right (by omega)]
theorem ncl_le {rows : List (List Str)} (hO : PgOk rows) (i : Nat) : ncl rows i ≤ 5 := by
  unfold ncl
  cases q : rows[i]? with
  | none => exact Nat.zero_le _
  | some r =>
    have := (hO.rows r (List.mem_of_getElem? q)).len
    show r.length - 1 ≤ 5
    omega
/-- the entries that hold row i, in turn -/
theorem ent_cov {rows : List (List Str)} (hO : PgOk rows) (i : Nat) : (entB rows).filter (covB i) = (List.range (ncl rows i)).map (entOf rows i) := by
  unfold entB
  rw [List.filter_flatMap]
  have e : (fun c => (ofCol rows c).filter (covB i)) = fun c => if c < ncl rows i then [entOf rows i c] else [] := by
    funext c
    rw [col_cov, cl_ncl]
    by_cases h : c < ncl rows i
    · rw [if_pos (decide_eq_true h), if_pos h]; rfl
    · rw [if_neg (by rw [decide_eq_false h]; exact Bool.false_ne_true), if_neg h]
  rw [e, flat_if, Nat.min_eq_right (ncl_le hO i)]
def cntB (rows : List (List Str)) (j i : Nat) : Nat := (((entB rows).take j).filter (covB i)).length
theorem cnt_all {rows : List (List Str)} (hO : PgOk rows) (i : Nat) : cntB rows (entB rows).length i = ncl rows i := by
  unfold cntB
  rw [List.take_of_length_le (Nat.le_refl _), ent_cov hO, List.length_map, List.length_range]
theorem cnt_no {rows : List (List Str)} {j i : Nat} {q : Nat × Nat × Nat} (hq : (entB rows)[j]? = some q) (h : covB i q = false) : cntB rows (j + 1) i = cntB rows j i := by
  unfold cntB
  rw [List.take_add_one, hq, List.filter_append]
  have : List.filter (covB i) (some q).toList = [] := by
    show List.filter (covB i) [q] = []
    rw [List.filter_cons_of_neg (by rw [h]; exact Bool.false_ne_true)]
    rfl
  rw [this, List.append_nil]
theorem cnt_yes {rows : List (List Str)} (hO : PgOk rows) {j i : Nat} {q : Nat × Nat × Nat} (hq : (entB rows)[j]? = some q) (h : covB i q = true) : cntB rows (j + 1) i = cntB rows j i + 1 ∧ q = entOf rows i (cntB rows j i) ∧ cntB rows j i < ncl rows i := by
  have e1 : ((entB rows).take (j + 1)).filter (covB i) = ((entB rows).take j).filter (covB i) ++ [q] := by
    rw [List.take_add_one, hq, List.filter_append]
    congr 1
    show List.filter (covB i) [q] = [q]
    rw [List.filter_cons_of_pos h]
    rfl
  have e2 : (entB rows).filter (covB i) = (((entB rows).take j).filter (covB i) ++ [q]) ++ ((entB rows).drop (j + 1)).filter (covB i) := by
    rw [← e1, ← List.filter_append, List.take_append_drop]
  have e3 : ((entB rows).filter (covB i))[cntB rows j i]? = some q := by
    rw [e2, List.append_assoc]
    have e4 : cntB rows j i = (List.filter (covB i) (List.take j (entB rows))).length := rfl
    rw [e4, List.getElem?_append_right (Nat.le_refl _), Nat.sub_self]
    rfl
  rw [ent_cov hO, List.getElem?_map] at e3
  refine ⟨by unfold cntB; rw [e1, List.length_append]; rfl, ?_⟩
  by_cases hl : cntB rows j i < ncl rows i
  · rw [List.getElem?_eq_getElem (by rw [List.length_range]; exact hl), List.getElem_range] at e3
    exact ⟨(Option.some.inj e3).symm, hl⟩
  · rw [List.getElem?_eq_none (by rw [List.length_range]; omega)] at e3
    cases e3
def wB (rows : List (List Str)) (gap least : Int) (i c : Nat) : Int := widthB (cellsB rows c (loB rows c i) (hiB rows c i)) gap least
def rB (rows : List (List Str)) (i c : Nat) : Bool := rightB (cellsB rows c (loB rows c i) (hiB rows c i))
def leftB (rows : List (List Str)) (gap least : Int) (i : Nat) : Nat → Int
  | 0 => 0
  | c + 1 => leftB rows gap least i c + wB rows gap least i c
def leftsB (rows : List (List Str)) (gap least : Int) (i n : Nat) : List Int := (List.range (n + 1)).map (leftB rows gap least i)
theorem lefts_snoc (rows : List (List Str)) (gap least : Int) (i n : Nat) : leftsB rows gap least i (n + 1) = leftsB rows gap least i n ++ [leftB rows gap least i n + wB rows gap least i n] := by
  unfold leftsB
  rw [List.range_succ (n := n + 1), List.map_append]
  rfl
theorem lefts_len (rows : List (List Str)) (gap least : Int) (i n : Nat) : (leftsB rows gap least i n).length = n + 1 := by
  unfold leftsB
  rw [List.length_map, List.length_range]
theorem lefts_get {rows : List (List Str)} {gap least : Int} {i n c : Nat} (h : c ≤ n) : (leftsB rows gap least i n)[c]? = some (leftB rows gap least i c) := by
  unfold leftsB
  rw [List.getElem?_map, List.getElem?_range (by omega)]
  rfl
end TG
namespace TG
open PySem L2 Gx
section
variable {P : Program} {w : World} {K : PySem.W.Frag} {mg : Str → Option Value} {base : Heap} {cs : List (Addr × Addr)}
end
end TG
namespace TG
open PySem L2 Gx
/-- the list at l holds what is told of the first n closed cells of row i -/
def CellsAt (H : Hp) (rows : List (List Str)) (gap least : Int) (i n : Nat) (l : Addr) : Prop :=
  ∃ ts : List Addr, H l = some (.lst (ts.map V.ref)) ∧ ts.length = n ∧ ∀ (c : Nat) (t : Addr), ts[c]? = some t → H t = some (.tup [.int (wB rows gap least i c), .bl (rB rows i c)])
theorem CellsAt.ext {H H' : Hp} {rows : List (List Str)} {gap least : Int} {i n : Nat} {l : Addr} (x : CellsAt H rows gap least i n l) (e : LamX.ExtN H H') : CellsAt H' rows gap least i n l :=
  let ⟨ts, h1, h2, h3⟩ := x
  ⟨ts, e _ _ h1 (by intro ps z; cases z), h2, fun c t h => e _ _ (h3 c t h) (by intro ps z; cases z)⟩
theorem CellsAt.upd {H : Hp} {rows : List (List Str)} {gap least : Int} {i n : Nat} {l p : Addr} {xs : List V} {o : HO} (x : CellsAt H rows gap least i n l) (hp : H p = some (.lst xs)) (ne : l ≠ p) : CellsAt (upd H p o) rows gap least i n l :=
  let ⟨ts, h1, h2, h3⟩ := x
  ⟨ts, by rw [upd_ne ne]; exact h1, h2, fun c t h => by rw [upd_ne (ne_of (h3 c t h) hp (by intro z; cases z))]; exact h3 c t h⟩
theorem ent_le {rows : List (List Str)} {j : Nat} {q : Nat × Nat × Nat} (h : (entB rows)[j]? = some q) : q.2.1 < q.2.2 ∧ q.2.2 ≤ rows.length := by
  obtain ⟨c, _, h2⟩ := List.mem_flatMap.mp (show q ∈ (List.range 5).flatMap (ofCol rows) from List.mem_of_getElem? h)
  obtain ⟨p, h3, rfl⟩ := List.mem_map.mp h2
  obtain ⟨i, hi, e⟩ := List.getElem_of_mem h3
  obtain ⟨f1, f2, _⟩ := run_facts (i := i) (by rw [List.getElem?_eq_getElem hi, e])
  exact ⟨f1, f2⟩
section
variable {P : Program} {w : World} {K : PySem.W.Frag} {mg : Str → Option Value} {base : Heap} {cs : List (Addr × Addr)}
def spCC (K : PySem.W.Frag) (cs : List (Addr × Addr)) : Sp := fun vs H Q _ => ∃ (a st : Addr) (as : List Addr) (rows : List (List Str)) (gap least : Int), vs = [.ref a, .ref st] ∧ Tabs cs H ∧ PageAt K H a as rows ∧ PgOk rows ∧ StyleAt K H st gap least ∧
  ∀ (r : Addr) (ls : List Addr) (H' : Hp), Ex cs H H' → H r = none → (∀ l ∈ ls, H l = none) → H' r = some (.lst (ls.map V.ref)) → ls.length = rows.length → (∀ (i : Nat) (l : Addr), ls[i]? = some l → CellsAt H' rows gap least i (ncl rows i) l) → Q (.ref r) H'
abbrev nmCC : List Str := ["page", "style", "found", "rows", "column", "begin", "end", "width", "right", "holders", "number", "row"]
theorem sc_cc : FnScope nmCC ["page", "style"] (defScope s_closed_cells) := ⟨rfl, rfl, rfl, by decide +kernel, rfl, by decide +kernel, by decide +kernel⟩
theorem ok_cc {f g : Addr} {fd fdg : FuncData} (T : Txt mg) (F : Fun K "closed_cells" "closed_cells" s_closed_cells f fd)
    (G : FnOk P w K mg base CX0 12 g fdg ["page", "style"] (spStr K cs)) (kp : PySem.W.keepIn K (.ref g) = true) (bd : Binds K fdg ["page", "style"] []) (mgg : mg "stretches" = some (.ref g)) : FnOk P w K mg base CX0 13 f fd ["page", "style"] (spCC K cs) := by
  refine F.ok sc_cc (fun vs H Q E h => ?_) (fun cdv A outer s H vs Q E hr h => ?_)
  · obtain ⟨a, st, as, rows, gap, least, rfl, _⟩ := h
    rfl
  · obtain ⟨a, st, as, rows, gap, least, rfl, hT, hP, hO, hS, k⟩ := h
    have nd := sc_cc.nd
    refine ⟨_, pss_cons (ps_set (i := 2) nd rfl (.inl rfl) (pe_call G hr (by rfl) mgg kp bd .nil pass0 (pa_cons (pv 0) (pa_cons (pv 1) pa_nil))))
      (pss_cons (ps_setLc (i := 3) (own := [("row", 11)]) (g := gName 11) rfl nd rfl rfl (sw_true rfl rfl rfl (by decide +kernel)) (pi_list (pv 0)) (blkOk_by (own := [("row", 11)]) (N := nmCC) (sc := defScope s_closed_cells) (by decide +kernel))
        (fun _ _ _ _ _ => pg_name (i := 11) nd rfl (Or.inl rfl)) (fun _ _ _ _ _ => pts_nil) (fun _ _ _ _ _ => pe_lst pa_nil))
      (pss_cons (ps_for PassesOwn.never rfl (pi_list (pv 2)) (pg_tup rfl (pgs_cons (pg_name (i := 4) nd rfl (.inl rfl)) (pgs_cons (pg_name (i := 5) nd rfl (.inl rfl)) (pgs_cons (pg_name (i := 6) nd rfl (.inl rfl)) (pgs_cons (pg_name (i := 7) nd rfl (.inl rfl)) (pgs_cons (pg_name (i := 8) nd rfl (.inl rfl)) (pgs_cons (pg_name (i := 9) nd rfl (.inl rfl)) pgs_nil)))))))
        (pss_one (ps_for PassesOwn.never rfl (pi_range2 (by rfl) T.range (pa_cons (pv 5) (pa_cons (pv 6) pa_nil))) (pg_name (i := 10) nd rfl (.inl rfl))
          (pss_one (ps_expr (pe_bm PySem.F.plainAttrs_list PySem.F.slot_list_append PySem.F.type_list_append mt_append (pe_ix ix_list (pv 3) (pv 10) (fun _ _ => rfl)) (pa_cons (pe_tup (pa_cons (pv 7) (pa_cons (pv 8) pa_nil))) pa_nil)))))))
      (pss_one (ps_ret (pv 3))))), ?_⟩
    have ll := hO.len
    have szl : (1000 : Nat) < sizeLine := by decide
    have las : (as.map V.ref).length = rows.length := by rw [List.length_map, hP.len]
    refine ⟨_, rfl, _, rfl, a, st, as, rows, gap, least, rfl, hT, hP, hO, hS, fun r ts hs H1 x1 nr nts nhs hr1 ds => ?_⟩
    have hT1 := x1.tab
    refine ⟨_, rfl, a, rfl, ⟨_, x1.sqL hP.lst⟩, fun D nD => lc_list (xs := as.map V.ref) (fun i H' => ∃ ls : List Addr, Ex cs H1 H' ∧ H' D = some (.lst (ls.map V.ref)) ∧ ls.length = i ∧ ls.Nodup ∧ ∀ l ∈ ls, H1 l = none ∧ l ≠ D ∧ H' l = some (.lst []))
      ⟨[], Ex.laid hT1 nD, upd_same, rfl, List.nodup_nil, fun l h => by simp at h⟩ (fun i H' _ ⟨ls, x, _⟩ => x.sqL (x1.sqL hP.lst)) ?_ ?_⟩
    · rintro i v H2 hv ⟨ls, x2, hD, hl, hn, hf⟩
      have hil : i < as.length := by
        have := (List.getElem?_eq_some_iff.mp hv).1
        rw [List.length_map] at this
        exact this
      refine ⟨rfl, small0, fun p np => ⟨_, by rw [upd_ne (ne_of_none hD np)]; exact hD, by rw [List.length_map, hl]; have := hP.len; omega, ls ++ [p], ?_, by rw [upd_same, List.map_append]; rfl, by rw [List.length_append, hl]; rfl, ?_, fun l h => ?_⟩⟩
      · exact ex_new hT1 (x2.trans (Ex.laid x2.tab np)) nD
      · refine List.nodup_append.mpr ⟨hn, by simp, fun u hu v hv e => ?_⟩
        rw [List.mem_singleton.mp hv] at e
        have := (hf u hu).2.2
        rw [e, np] at this
        cases this
      · have pD : p ≠ D := fun z => by rw [z, hD] at np; cases np
        rcases List.mem_append.mp h with z | z
        · obtain ⟨h1, h2, h3⟩ := hf l z
          exact ⟨h1, h2, by rw [upd_ne h2, upd_ne (ne_of_none h3 np)]; exact h3⟩
        · rw [List.mem_singleton.mp z]
          exact ⟨x2.old _ np, pD, by rw [upd_ne pD, upd_same]⟩
    · rintro H2 ⟨ls, x2, hD, hl, hn, hf⟩
      rw [las] at hl
      have hnd : ∀ (i j : Nat) (l m : Addr), ls[i]? = some l → ls[j]? = some m → i ≠ j → l ≠ m := fun i j l m h1 h2 h3 e => by
        subst e
        exact h3 (nd_ix hn h1 h2)
      refine ⟨_, rfl, r, rfl, ⟨_, SqL.of (x2.lst hr1)⟩, for_list (xs := ts.map V.ref) (fun j σ H' => ∃ c4 c5 c6 c7 c8 c9 c10 : Option V, σ = [some (.ref a), some (.ref st), some (.ref r), some (.ref D), c4, c5, c6, c7, c8, c9, c10, none] ∧ Ex cs H1 H' ∧ H' D = some (.lst (ls.map V.ref)) ∧ ∀ (i : Nat) (l : Addr), ls[i]? = some l → CellsAt H' rows gap least i (cntB rows j i) l)
        ⟨_, _, _, _, _, _, _, rfl, x2, hD, fun i l h => ⟨[], (hf l (List.mem_of_getElem? h)).2.2, rfl, fun c t h => by simp at h⟩⟩ (fun j σ H' _ ⟨_, _, _, _, _, _, _, _, x, _⟩ => SqL.of (x.lst hr1)) ?_ ?_⟩
      · rintro j v σ H3 hv ⟨c4, c5, c6, c7, c8, c9, c10, rfl, x3, hD3, hC⟩
        obtain ⟨t, ht, rfl⟩ := get_map hv
        have hjt := (List.getElem?_eq_some_iff.mp ht).1
        obtain ⟨q, hq⟩ := getP (xs := entB rows) (i := j) (by rw [← ds.len]; exact hjt)
        obtain ⟨hh, hhh⟩ := getP (xs := hs) (i := j) (by rw [ds.len2, ← ds.len]; exact hjt)
        have dt := x3.tup (ds.at_ j t hh q ht hhh hq).1
        refine ⟨t, _, rfl, .inl (.inl dt), rfl, _, _, rfl, _, _, rfl, _, _, rfl, _, _, rfl, _, _, rfl, _, _, rfl, rfl, ?_⟩
        refine ⟨_, rfl, _, rfl, (q.2.1 : Int), (q.2.2 : Int), rfl, ?_⟩
        obtain ⟨q1, q2⟩ := ent_le hq
        refine ⟨by omega, for_range (lo := (q.2.1 : Int)) (n := ((q.2.2 : Int) - (q.2.1 : Int)).toNat) (fun k σ H' => ∃ c10 : Option V, σ = [some (.ref a), some (.ref st), some (.ref r), some (.ref D), some (.int (q.1 : Nat)), some (.int (q.2.1 : Nat)), some (.int (q.2.2 : Nat)), some (.int (widthB (cellsB rows q.1 q.2.1 q.2.2) gap least)), some (.bl (rightB (cellsB rows q.1 q.2.1 q.2.2))), some (.ref hh), c10, none] ∧ Ex cs H1 H' ∧ H' D = some (.lst (ls.map V.ref)) ∧
          ∀ (i : Nat) (l : Addr), ls[i]? = some l → CellsAt H' rows gap least i (cntB rows j i + if q.2.1 ≤ i ∧ i < q.2.1 + k then 1 else 0) l)
          ⟨_, rfl, x3, hD3, fun i l h => by rw [if_neg (by omega)]; exact hC i l h⟩ ?_ ?_⟩
        · rintro k σ H4 hk ⟨c10, rfl, x4, hD4, hC4⟩
          have hx : q.2.1 + k < q.2.2 := by omega
          obtain ⟨l, hl1⟩ := getP (xs := ls) (i := q.2.1 + k) (by omega)
          obtain ⟨hln, hlD, _⟩ := hf l (List.mem_of_getElem? hl1)
          have hcl := hC4 _ l hl1
          rw [if_neg (by omega), Nat.add_zero] at hcl
          obtain ⟨us, u1, u2, u3⟩ := hcl
          have hcov : covB (q.2.1 + k) q = true := decide_eq_true ⟨by omega, hx⟩
          obtain ⟨v1, v2, v3⟩ := cnt_yes hO hq hcov
          have v4 := ncl_le hO (q.2.1 + k)
          refine ⟨_, rfl, _, rfl, D, _, ((q.2.1 + k : Nat) : Int), .ref l, rfl, rfl, SqL.of hD4, atI_nat (by rw [List.getElem?_map, hl1]; rfl), .inl ⟨rfl, _, SqL.of u1⟩, _, rfl, _, rfl, line10 (by show 2 ≤ 1000; decide), fun t0 nt0 => ⟨l, us.map V.ref, .ref t0, rfl, rfl, by rw [upd_ne (ne_of_none u1 nt0)]; exact u1, by rw [List.length_map, u2]; omega, ?_⟩⟩
          have x5 := Ex.laid (o := .tup [.int (widthB (cellsB rows q.1 q.2.1 q.2.2) gap least), .bl (rightB (cellsB rows q.1 q.2.1 q.2.2))]) x4.tab nt0
          have lt0 : l ≠ t0 := ne_of_none u1 nt0
          have u1' := x5.lst u1
          refine ⟨_, rfl, ex_new hT1 (x4.trans x5) hln, by rw [upd_ne hlD.symm]; exact x5.lst hD4, fun i m h => ?_⟩
          by_cases e : i = q.2.1 + k
          · subst e
            rw [hl1] at h
            cases h
            rw [if_pos (by omega)]
            refine ⟨us ++ [t0], by rw [upd_same, List.map_append]; rfl, by rw [List.length_append, u2]; rfl, fun c t h => ?_⟩
            by_cases hc : c < us.length
            · rw [List.getElem?_append_left hc] at h
              have := x5.tup (u3 c t h)
              rw [upd_ne (ne_of this u1' (by intro z; cases z))]
              exact this
            · have hl := (List.getElem?_eq_some_iff.mp h).1
              rw [List.length_append, List.length_singleton] at hl
              have ec : c = us.length := by omega
              subst ec
              rw [List.getElem?_append_right (Nat.le_refl _), Nat.sub_self] at h
              cases h
              rw [upd_ne lt0.symm, upd_same, u2]
              have e1 : q.1 = cntB rows j (q.2.1 + k) := congrArg (fun z : Nat × Nat × Nat => z.1) v2
              have e2 : q.2.1 = loB rows (cntB rows j (q.2.1 + k)) (q.2.1 + k) := congrArg (fun z : Nat × Nat × Nat => z.2.1) v2
              have e3 : q.2.2 = hiB rows (cntB rows j (q.2.1 + k)) (q.2.1 + k) := congrArg (fun z : Nat × Nat × Nat => z.2.2) v2
              unfold wB rB
              rw [← e2, ← e3, ← e1]
          · have hne := hnd _ _ _ _ h hl1 e
            have hm := (hC4 i m h).ext x5.ext
            have ee : (if q.2.1 ≤ i ∧ i < q.2.1 + (k + 1) then 1 else 0) = (if q.2.1 ≤ i ∧ i < q.2.1 + k then 1 else 0) := by
              by_cases z : q.2.1 ≤ i ∧ i < q.2.1 + k
              · rw [if_pos z, if_pos (by omega)]
              · rw [if_neg z, if_neg (by omega)]
            rw [ee]
            exact hm.upd u1' hne
        · rintro σ H4 ⟨c10, rfl, x4, hD4, hC4⟩
          refine ⟨_, _, _, _, _, _, _, rfl, x4, hD4, fun i l h => ?_⟩
          have := hC4 i l h
          by_cases z : q.2.1 ≤ i ∧ i < q.2.2
          · rw [if_pos (by omega)] at this
            rw [(cnt_yes hO hq (decide_eq_true z)).1]
            exact this
          · rw [if_neg (by omega)] at this
            rw [cnt_no hq (decide_eq_false z)]
            exact this
      · rintro σ H3 ⟨c4, c5, c6, c7, c8, c9, c10, rfl, x3, hD3, hC⟩
        refine ⟨_, rfl, k D ls H3 (x1.trans x3) (x1.old _ nD) (fun l h => x1.old _ (hf l h).1) hD3 hl fun i l h => ?_⟩
        have := hC i l h
        rw [List.length_map, ds.len, cnt_all hO] at this
        exact this
end
end TG
namespace TG
open PySem L2 Gx
theorem at_last {α : Type} {xs : List α} {x : α} : atI (xs ++ [x]) (-1) = some x := by
  unfold atI ixN
  rw [if_neg (by omega), List.length_append, List.length_singleton, if_pos (by omega)]
  show (xs ++ [x])[((-1 : Int) + ((xs.length + 1 : Nat) : Int)).toNat]? = some x
  rw [show ((-1 : Int) + ((xs.length + 1 : Nat) : Int)).toNat = xs.length by omega, List.getElem?_append_right (Nat.le_refl _), Nat.sub_self]
  rfl
theorem lefts_last (rows : List (List Str)) (gap least : Int) (i : Nat) : ∀ n, ∃ xs, leftsB rows gap least i n = xs ++ [leftB rows gap least i n]
  | 0 => ⟨[], rfl⟩
  | n + 1 => ⟨leftsB rows gap least i n, lefts_snoc rows gap least i n⟩
theorem lefts_at (rows : List (List Str)) (gap least : Int) (i n : Nat) : atI ((leftsB rows gap least i n).map V.int) (-1) = some (V.int (leftB rows gap least i n)) := by
  obtain ⟨xs, e⟩ := lefts_last rows gap least i n
  rw [e, List.map_append]
  exact at_last
/-- the list at r holds lists of numbers, f tells them -/
structure ToldAt (H : Hp) (r : Addr) (es : List Addr) (f : Nat → List Int) (n : Nat) : Prop where
  lst : H r = some (.lst (es.map V.ref))
  len : es.length = n
  nd : es.Nodup
  at_ : ∀ (i : Nat) (e : Addr), es[i]? = some e → H e = some (.lst ((f i).map V.int))
theorem ToldAt.ext {H H' : Hp} {r : Addr} {es : List Addr} {f : Nat → List Int} {n : Nat} (t : ToldAt H r es f n) (x : LamX.ExtN H H') : ToldAt H' r es f n :=
  ⟨x _ _ t.lst (by intro ps z; cases z), t.len, t.nd, fun i e h => x _ _ (t.at_ i e h) (by intro ps z; cases z)⟩
theorem tabs_ext {cs : List (Addr × Addr)} {H H' : Hp} (t : Tabs cs H) (x : Same H H') : Tabs cs H' := fun p hp => let ⟨ps, h1, h2⟩ := t p hp; ⟨ps, x _ _ h1, h2⟩
theorem same_ext {H H' : Hp} (x : Same H H') : LamX.ExtN H H' := fun b o e _ => x b o e
theorem ex_same {cs : List (Addr × Addr)} {H H' : Hp} (t : Tabs cs H) (x : Same H H') : Ex cs H H' := ⟨same_ext x, tabs_ext t x, fun _ n => same_old x n, fun b o e _ => x b o e⟩
theorem ToldAt.add {H H' : Hp} {r : Addr} {es : List Addr} {f : Nat → List Int} {n : Nat} {e : Addr} (t : ToldAt H r es f n) (x : LamX.ExtN H H') (he : H e = none) (h' : H' e = some (.lst ((f n).map V.int))) (hr : r ∉ es) :
    ToldAt (upd H' r (.lst (es.map V.ref ++ [.ref e]))) r (es ++ [e]) f (n + 1) := by
  refine ⟨by rw [upd_same, List.map_append]; rfl, by rw [List.length_append, t.len]; rfl, ?_, fun i u h => ?_⟩
  · refine List.nodup_append.mpr ⟨t.nd, by simp, fun u hu v hv q => ?_⟩
    rw [List.mem_singleton.mp hv] at q
    obtain ⟨i, hi, e1⟩ := List.getElem_of_mem hu
    have := t.at_ i u (by rw [List.getElem?_eq_getElem hi, e1])
    rw [q, he] at this
    cases this
  · have re : e ≠ r := fun z => by rw [z, t.lst] at he; cases he
    by_cases hi : i < es.length
    · rw [List.getElem?_append_left hi] at h
      rw [upd_ne (fun z => hr (by rw [← z]; exact List.mem_of_getElem? h))]
      exact x _ _ (t.at_ i u h) (by intro ps z; cases z)
    · have hl := (List.getElem?_eq_some_iff.mp h).1
      rw [List.length_append, List.length_singleton] at hl
      have e1 : i = es.length := by omega
      subst e1
      rw [List.getElem?_append_right (Nat.le_refl _), Nat.sub_self] at h
      cases h
      rw [upd_ne re, h', t.len]
section
variable {P : Program} {w : World} {K : PySem.W.Frag} {mg : Str → Option Value} {base : Heap} {cs : List (Addr × Addr)}
def spLE : Sp := fun vs H Q _ => ∃ (l : Addr) (rows : List (List Str)) (gap least : Int) (i n : Nat), vs = [.ref l] ∧ CellsAt H rows gap least i n l ∧ n ≤ 5 ∧
  ∀ (p : Addr) (H' : Hp), Same H H' → H p = none → H' p = some (.lst ((leftsB rows gap least i n).map V.int)) → Q (.ref p) H'
abbrev nmLE : List Str := ["closed", "ends", "width", "right"]
theorem sc_le : FnScope nmLE ["closed"] (defScope s_left_ends) := ⟨rfl, rfl, rfl, by decide +kernel, rfl, by decide +kernel, by decide +kernel⟩
theorem ok_le {f : Addr} {fd : FuncData} (F : Fun K "left_ends" "left_ends" s_left_ends f fd) : FnOk P w K mg base CX0 1 f fd ["closed"] spLE := by
  refine F.ok sc_le (fun vs H Q E h => ?_) (fun cdv A outer s H vs Q E hr h => ?_)
  · obtain ⟨l, rows, gap, least, i, n, rfl, _⟩ := h
    rfl
  · obtain ⟨l, rows, gap, least, i, n, rfl, ⟨ts, h1, h2, h3⟩, n5, k⟩ := h
    have nd := sc_le.nd
    refine ⟨_, pss_cons (ps_set (i := 1) nd rfl (.inl rfl) (pe_lst (pa_cons pe_int pa_nil)))
      (pss_cons (ps_for PassesOwn.never rfl (pi_list (pv 0)) (pg_tup rfl (pgs_cons (pg_name (i := 2) nd rfl (.inl rfl)) (pgs_cons (pg_name (i := 3) nd rfl (.inl rfl)) pgs_nil)))
        (pss_one (ps_expr (pe_bm PySem.F.plainAttrs_list PySem.F.slot_list_append PySem.F.type_list_append mt_append (pv 1) (pa_cons (pe_op op_add (pe_ix ix_list (pv 1) (pe_un un_neg pe_int) (fun _ _ => rfl)) (pv 2)) pa_nil)))))
      (pss_one (ps_ret (pv 1)))), ?_⟩
    have szl : (1000 : Nat) < sizeLine := by decide
    refine ⟨line10 (by show 1 ≤ 1000; decide), fun p np => ⟨_, rfl, l, rfl, ⟨_, SqL.of (by rw [upd_ne (ne_of_none h1 np)]; exact h1)⟩, for_list (xs := ts.map V.ref) (fun j σ H' => ∃ c2 c3 : Option V, σ = [some (.ref l), some (.ref p), c2, c3] ∧ Same H H' ∧ H' p = some (.lst ((leftsB rows gap least i j).map V.int)))
      ⟨_, _, rfl, same_new np, upd_same⟩ (fun j σ H' _ ⟨_, _, _, x, _⟩ => SqL.of (x _ _ h1)) ?_ ?_⟩⟩
    · rintro j v σ H1 hv ⟨c2, c3, rfl, x1, hp⟩
      obtain ⟨t, ht, rfl⟩ := get_map hv
      have hj := (List.getElem?_eq_some_iff.mp ht).1
      refine ⟨t, _, rfl, .inl (.inl (x1 _ _ (h3 j t ht))), rfl, _, _, rfl, _, _, rfl, rfl, ?_⟩
      refine ⟨_, rfl, .inl ⟨rfl, _, SqL.of hp⟩, _, rfl, 1, rfl, p, _, -1, _, rfl, rfl, SqL.of hp, lefts_at .., _, rfl, _, _, rfl, rfl, p, _, _, rfl, rfl, hp, by rw [List.length_map, lefts_len]; omega, ⟨_, _, rfl, same_upd x1 np, ?_⟩⟩
      rw [upd_same, lefts_snoc, List.map_append]
      rfl
    · rintro σ H1 ⟨c2, c3, rfl, x1, hp⟩
      rw [List.length_map, h2] at hp
      exact ⟨_, rfl, k p H1 x1 np hp⟩
/-- a list of lists of numbers, a row each -/
def spTold (K : PySem.W.Frag) (cs : List (Addr × Addr)) (f : List (List Str) → Int → Int → Nat → List Int) : Sp := fun vs H Q _ => ∃ (a st : Addr) (as : List Addr) (rows : List (List Str)) (gap least : Int), vs = [.ref a, .ref st] ∧ Tabs cs H ∧ PageAt K H a as rows ∧ PgOk rows ∧ StyleAt K H st gap least ∧
  ∀ (r : Addr) (es : List Addr) (H' : Hp), Ex cs H H' → H r = none → (∀ e ∈ es, H e = none ∧ e ≠ r) → ToldAt H' r es (f rows gap least) rows.length → Q (.ref r) H'
end
end TG
namespace TG
open PySem L2 Gx
def lenC (rows : List (List Str)) (i c : Nat) : Int := (((rows.getD i []).getD c nilS).length : Nat)
/-- the begins of row i when the first j closed cells have been looked at -/
def begC (rows : List (List Str)) (gap least : Int) (i j c : Nat) : Int := if c < j ∧ rB rows i c = true then leftB rows gap least i (c + 1) - gap - lenC rows i c else leftB rows gap least i c
def begsTo (rows : List (List Str)) (gap least : Int) (i j : Nat) : List Int := (List.range (ncl rows i + 1)).map (begC rows gap least i j)
def begsR (rows : List (List Str)) (gap least : Int) (i : Nat) : List Int := begsTo rows gap least i (ncl rows i)
theorem begs_zero (rows : List (List Str)) (gap least : Int) (i : Nat) : begsTo rows gap least i 0 = leftsB rows gap least i (ncl rows i) := by
  unfold begsTo leftsB
  refine List.map_congr_left fun c _ => ?_
  unfold begC
  rw [if_neg (by omega)]
theorem begs_len (rows : List (List Str)) (gap least : Int) (i j : Nat) : (begsTo rows gap least i j).length = ncl rows i + 1 := by
  unfold begsTo
  rw [List.length_map, List.length_range]
theorem begs_no {rows : List (List Str)} {gap least : Int} {i j : Nat} (h : rB rows i j = false) : begsTo rows gap least i (j + 1) = begsTo rows gap least i j := by
  unfold begsTo
  refine List.map_congr_left fun c _ => ?_
  unfold begC
  by_cases e : c = j
  · subst e
    rw [if_neg (fun z => by rw [h] at z; cases z.2), if_neg (by omega)]
  · by_cases q : c < j ∧ rB rows i c = true
    · rw [if_pos q, if_pos ⟨by omega, q.2⟩]
    · rw [if_neg q, if_neg (fun z => q ⟨by omega, z.2⟩)]
theorem begs_yes {rows : List (List Str)} {gap least : Int} {i j : Nat} (hj : j < ncl rows i) (h : rB rows i j = true) : (begsTo rows gap least i j).set j (leftB rows gap least i (j + 1) - gap - lenC rows i j) = begsTo rows gap least i (j + 1) := by
  apply List.ext_getElem?
  intro c
  rw [List.getElem?_set]
  have e1 : ∀ j, (begsTo rows gap least i j)[c]? = if c < ncl rows i + 1 then some (begC rows gap least i j c) else none := fun j => by
    unfold begsTo
    rw [List.getElem?_map]
    by_cases q : c < ncl rows i + 1
    · rw [List.getElem?_range q, if_pos q]; rfl
    · rw [List.getElem?_eq_none (by rw [List.length_range]; omega), if_neg q]; rfl
  by_cases e : j = c
  · subst e
    rw [if_pos rfl, if_pos (by rw [begs_len]; omega), e1, if_pos (by omega)]
    unfold begC
    rw [if_pos ⟨Nat.lt_succ_self _, h⟩]
  · rw [if_neg e, e1, e1]
    have : begC rows gap least i (j + 1) c = begC rows gap least i j c := by
      unfold begC
      by_cases q : c < j ∧ rB rows i c = true
      · rw [if_pos q, if_pos ⟨by omega, q.2⟩]
      · rw [if_neg q, if_neg (fun z => q ⟨by omega, z.2⟩)]
    rw [this]
theorem set_map {α β : Type} {f : α → β} {xs : List α} {i : Nat} {x : α} : (xs.map f).set i (f x) = (xs.set i x).map f := by
  rw [List.map_set]
section
variable {P : Program} {w : World} {K : PySem.W.Frag} {mg : Str → Option Value} {base : Heap} {cs : List (Addr × Addr)}
def spBO (K : PySem.W.Frag) : Sp := fun vs H Q _ => ∃ (a l : Addr) (rows : List (List Str)) (gap least : Int) (i : Nat) (r : List Str), vs = [.ref a, .ref l, .int gap] ∧ rows[i]? = some r ∧ PgOk rows ∧ SqT K H a (sV r) ∧ CellsAt H rows gap least i (ncl rows i) l ∧
  ∀ (p : Addr) (H' : Hp), Same H H' → H p = none → H' p = some (.lst ((begsR rows gap least i).map V.int)) → Q (.ref p) H'
abbrev nmBO : List Str := ["row", "closed", "gap", "ends", "begins", "number", "width", "right"]
theorem sc_bo : FnScope nmBO ["row", "closed", "gap"] (defScope s_begins_of) := ⟨rfl, rfl, rfl, by decide +kernel, rfl, by decide +kernel, by decide +kernel⟩
theorem ok_bo {f g : Addr} {fd fdg : FuncData} (T : Txt mg) (F : Fun K "begins_of" "begins_of" s_begins_of f fd)
    (G : FnOk P w K mg base CX0 1 g fdg ["closed"] spLE) (kp : PySem.W.keepIn K (.ref g) = true) (bd : Binds K fdg ["closed"] []) (mgg : mg "left_ends" = some (.ref g)) : FnOk P w K mg base CX0 2 f fd ["row", "closed", "gap"] (spBO K) := by
  refine F.ok sc_bo (fun vs H Q E h => ?_) (fun cdv A outer s H vs Q E hr h => ?_)
  · obtain ⟨a, l, rows, gap, least, i, r, rfl, _⟩ := h
    rfl
  · obtain ⟨a, l, rows, gap, least, i, r, rfl, hr2, hO, hA, hC, k⟩ := h
    have nd := sc_bo.nd
    refine ⟨_, pss_cons (ps_set (i := 3) nd rfl (.inl rfl) (pe_call G hr (by rfl) mgg kp bd .nil pass0 (pa_cons (pv 1) pa_nil)))
      (pss_cons (ps_set (i := 4) nd rfl (.inl rfl) (pe_callTy call_list_of (by rfl) T.list (by decide +kernel) (pa_cons (pv 3) pa_nil)))
      (pss_cons (ps_for PassesOwn.never rfl (pi_enum (by rfl) T.enum (pa_cons (pv 1) pa_nil)) (pg_tup rfl (pgs_cons (pg_name (i := 5) nd rfl (.inl rfl)) (pgs_cons (pg_tup rfl (pgs_cons (pg_name (i := 6) nd rfl (.inl rfl)) (pgs_cons (pg_name (i := 7) nd rfl (.inl rfl)) pgs_nil))) pgs_nil)))
        (pss_one (ps_if (pt_val (pv 7)) (pss_one (ps_asg (pe_op op_sub (pe_op op_sub (pe_ix ix_list (pv 3) (pe_op op_add (pv 5) pe_int) (fun _ _ => rfl)) (pv 2)) (pe_callB call_len_str (by rfl) T.len PySem.boot_len (pa_cons (pe_ix ix_tup (pv 0) (pv 5) (fun _ _ => rfl)) pa_nil))) (pg_sub (pv 4) (pv 5) set_list))) pss_nil)))
      (pss_one (ps_ret (pv 4))))), ?_⟩
    have szl : (1000 : Nat) < sizeLine := by decide
    have n5 := ncl_le hO i
    have hrO := hO.rows r (List.mem_of_getElem? hr2)
    have hnc : ncl rows i = r.length - 1 := by unfold ncl; rw [hr2]
    refine ⟨_, rfl, l, rows, gap, least, i, ncl rows i, rfl, hC, n5, fun e H1 x1 ne he => ⟨_, rfl, e, _, rfl, .inl (SqL.of he), fun b nb => ?_⟩⟩
    obtain ⟨ts, h1, h2, h3⟩ := hC
    have x2 : Same H (upd H1 b (.lst ((leftsB rows gap least i (ncl rows i)).map V.int))) := same_trans x1 (same_new nb)
    have eb : e ≠ b := ne_of_none he nb
    have nb0 := same_old x1 nb
    refine ⟨_, rfl, l, _, rfl, SqL.of (x2 _ _ h1), for_it (walk_enum (xs := ts.map V.ref)) (fun j σ H' => ∃ c5 c6 c7 : Option V, σ = [some (.ref a), some (.ref l), some (.int gap), some (.ref e), some (.ref b), c5, c6, c7] ∧ Same H H' ∧ H' e = some (.lst ((leftsB rows gap least i (ncl rows i)).map V.int)) ∧ H' b = some (.lst ((begsTo rows gap least i j).map V.int)))
      ⟨_, _, _, rfl, x2, by rw [upd_ne eb]; exact he, by rw [upd_same, begs_zero]⟩ (fun j σ H' _ ⟨_, _, _, _, x, _⟩ => SqL.of (x _ _ h1)) ?_ ?_⟩
    · rintro j x σ H3 H4 hi ⟨c5, c6, c7, rfl, x3, he3, hb3⟩ ⟨Tp, v, u, rfl, hn, rfl, hv, hu⟩
      cases hv
      obtain ⟨t, ht, rfl⟩ := get_map hu
      have hj := (List.getElem?_eq_some_iff.mp ht).1
      have x4 : Same H3 (upd H3 Tp (.tup [.int (j : Nat), .ref t])) := same_new hn
      generalize hH4 : upd H3 Tp (.tup [.int (j : Nat), .ref t]) = H4 at x4 ⊢
      have hTp : H4 Tp = some (.tup [.int (j : Nat), .ref t]) := by rw [← hH4, upd_same]
      have x34 := same_trans x3 x4
      have he4 := x4 _ _ he3
      have hb4 := x4 _ _ hb3
      refine ⟨Tp, _, rfl, .inl (.inl hTp), rfl, _, _, rfl, _, _, rfl, t, _, rfl, .inl (.inl (x34 _ _ (h3 j t ht))), rfl, _, _, rfl, _, _, rfl, rfl, rfl, ?_⟩
      refine ⟨_, rfl, rB rows i j, rfl, ?_⟩
      cases hrb : rB rows i j with
      | false => exact iteF ⟨_, _, _, rfl, x34, he4, by rw [begs_no hrb]; exact hb4⟩
      | true =>
        have hjr : j < r.length := by omega
        have ec : lenC rows i j = (((r[j]'hjr).length : Nat) : Int) := by
          unfold lenC
          rw [show rows.getD i [] = r by rw [List.getD_eq_getElem?_getD, hr2]; rfl, List.getD_eq_getElem?_getD, List.getElem?_eq_getElem hjr]
          rfl
        have zl := (hrO.cells _ (List.getElem_mem hjr)).len
        refine iteT ⟨_, rfl, _, rfl, j, 1, rfl, rfl, e, _, ((j + 1 : Nat) : Int), _, rfl, rfl, SqL.of he4, atI_nat (by rw [List.getElem?_map, lefts_get (by omega)]; rfl), _, rfl, _, _, rfl, rfl, _, rfl, _, rfl, a, _, j, _, rfl, rfl, same_sqT x34 hA, atI_nat (by rw [List.getElem?_map, List.getElem?_eq_getElem hjr]; rfl), _, rfl, line10 (by omega), _, _, rfl, rfl, _, rfl, _, rfl, b, _, j, j, rfl, rfl, hb4, ?_, ⟨_, _, _, rfl, same_upd x34 nb0, by rw [upd_ne eb]; exact he4, ?_⟩⟩
        · rw [List.length_map, begs_len]
          unfold ixN
          rw [if_pos (by omega), if_pos (by omega)]
          rfl
        · rw [upd_same, set_map, ← ec, begs_yes (by omega) hrb]
    · rintro σ H3 ⟨c5, c6, c7, rfl, x3, he3, hb3⟩
      rw [List.length_map, h2] at hb3
      exact ⟨_, rfl, k b H3 x3 nb0 hb3⟩
end
end TG
namespace TG
open PySem L2 Gx
section
variable {P : Program} {w : World} {K : PySem.W.Frag} {mg : Str → Option Value} {base : Heap} {cs : List (Addr × Addr)}
abbrev nmLaid : List Str := ["page", "style", "rows", "gap", "row", "closed"]
theorem sc_laid : FnScope nmLaid ["page", "style"] (defScope s_laid) := ⟨rfl, rfl, rfl, by decide +kernel, rfl, by decide +kernel, by decide +kernel⟩
theorem ok_laid {f g g2 : Addr} {fd fdg fd2 : FuncData} (hz : mg "zip" = none) (F : Fun K "laid" "laid" s_laid f fd)
    (G : FnOk P w K mg base CX0 13 g fdg ["page", "style"] (spCC K cs)) (kp : PySem.W.keepIn K (.ref g) = true) (bd : Binds K fdg ["page", "style"] []) (mgg : mg "closed_cells" = some (.ref g))
    (G2 : FnOk P w K mg base CX0 2 g2 fd2 ["row", "closed", "gap"] (spBO K)) (kp2 : PySem.W.keepIn K (.ref g2) = true) (bd2 : Binds K fd2 ["row", "closed", "gap"] []) (mg2 : mg "begins_of" = some (.ref g2)) : FnOk P w K mg base CX0 14 f fd ["page", "style"] (spTold K cs begsR) := by
  refine F.ok sc_laid (fun vs H Q E h => ?_) (fun cdv A outer s H vs Q E hr h => ?_)
  · obtain ⟨a, st, as, rows, gap, least, rfl, _⟩ := h
    rfl
  · obtain ⟨a, st, as, rows, gap, least, rfl, hT, hP, hO, hS, k⟩ := h
    have nd := sc_laid.nd
    have hr2 : Room 2 _ := hr.mono (by decide)
    refine ⟨_, pss_cons (ps_set (i := 2) nd rfl (.inl rfl) (pe_call G hr (by rfl) mgg kp bd .nil pass0 (pa_cons (pv 0) (pa_cons (pv 1) pa_nil))))
      (pss_cons (ps_set (i := 3) nd rfl (.inr rfl) (pe_ix ix_tup (pv 1) pe_int (fun _ _ => rfl)))
      (pss_one (ps_ret (pe_lc (own := [("row", 4), ("closed", 5)]) (g := gTup K 2 (gCons (gName 4) (gCons (gName 5) gNil))) (tt := tYes) rfl nd (pi_zip (by rfl) hz (pa_cons (pv 0) (pa_cons (pv 2) pa_nil))) (blkOk_by (own := [("row", 4), ("closed", 5)]) (N := nmLaid) (sc := defScope s_laid) (by decide +kernel))
        (fun _ _ _ _ _ => pg_tup rfl (pgs_cons (pg_name (i := 4) nd rfl (.inl rfl) (.inr rfl)) (pgs_cons (pg_name (i := 5) nd rfl (.inl rfl) (.inr rfl)) pgs_nil))) (fun _ _ _ _ _ => pts_nil) (fun s1 H1 C1 cl1 fp1 => pe_call G2 hr2 (by rfl) mg2 kp2 bd2 .nil pass0 (pa_cons (pv 4) (pa_cons (pv 5) (pa_cons (pv 3) pa_nil)))))))), ?_⟩
    have ll := hO.len
    have szl : (1000 : Nat) < sizeLine := by decide
    refine ⟨_, rfl, _, rfl, a, st, as, rows, gap, least, rfl, hT, hP, hO, hS, fun r ls H1 x1 nr nls hr1 hll hC => ⟨_, rfl, st, _, 0, .int gap, rfl, rfl, x1.sqT hS.tup, at0, _, rfl, _, rfl, a, r, _, _, rfl, x1.sqL hP.lst, SqL.of hr1, fun D nD => lc_it (walk_zip (xs := as.map V.ref) (ys := ls.map V.ref) (n := rows.length) (by rw [List.length_map, List.length_map, hP.len, hll, Nat.min_self])) (fun i H' => ∃ es : List Addr, Ex cs H1 H' ∧ ToldAt H' D es (begsR rows gap least) i ∧ ∀ e ∈ es, H1 e = none ∧ e ≠ D)
      ⟨[], Ex.laid x1.tab nD, ⟨upd_same, rfl, List.nodup_nil, fun i e h => by simp at h⟩, fun e h => by simp at h⟩ (fun i H' _ ⟨es, x, _⟩ => ⟨x.sqL (x1.sqL hP.lst), SqL.of (x.lst hr1)⟩) ?_ ?_⟩⟩
    · rintro i v H2 H3 hi ⟨es, x2, t2, f2⟩ ⟨Tp, v1, u, rfl, hn, rfl, hv, hu⟩
      obtain ⟨p, hp, rfl⟩ := get_map hv
      obtain ⟨l, hl, rfl⟩ := get_map hu
      obtain ⟨z, hz2⟩ := getP (xs := rows) (i := i) hi
      have x3 := Ex.laid (o := .tup [.ref p, .ref l]) x2.tab hn
      generalize hH : upd H2 Tp (.tup [.ref p, .ref l]) = H3 at x3 ⊢
      have hTp : H3 Tp = some (.tup [.ref p, .ref l]) := by rw [← hH, upd_same]
      have x23 := x2.trans x3
      refine ⟨Tp, _, rfl, .inl (.inl hTp), rfl, _, _, rfl, _, _, rfl, rfl, rfl, _, rfl, _, rfl, _, rfl, p, l, rows, gap, least, i, z, rfl, hz2, hO, (x1.trans x23).sqT (hP.row i p z hp hz2), (hC i l hl).ext x23.ext, fun q H4 x4 nq hq => ?_⟩
      have t3 := t2.ext x3.ext
      have qD : q ≠ D := fun z => by rw [z, x4 _ _ t3.lst] at hq; have := x4 _ _ t3.lst; rw [← z] at this; rw [z, t3.lst] at nq; cases nq
      refine ⟨_, x4 _ _ t3.lst, by rw [List.length_map, t3.len]; omega, es ++ [q], ex_new x1.tab (x23.trans (ex_same x3.tab x4)) nD, t3.add (same_ext x4) nq hq (fun z => (f2 D z).2 rfl), fun e h => ?_⟩
      rcases List.mem_append.mp h with z | z
      · exact f2 e z
      · rw [List.mem_singleton.mp z]
        exact ⟨x23.old _ nq, qD⟩
    · rintro H2 ⟨es, x2, t2, f2⟩
      exact k D es H2 (x1.trans x2) (x1.old _ nD) (fun e h => ⟨x1.old _ (f2 e h).1, (f2 e h).2⟩) t2
end
end TG
namespace TG
open PySem L2 Gx
theorem ToldAt.go {H H' : Hp} {r : Addr} {es : List Addr} {f : Nat → List Int} {n : Nat} (t : ToldAt H r es f n) (x : Same H H') : ToldAt H' r es f n := t.ext (same_ext x)
section
variable {P : Program} {w : World} {K : PySem.W.Frag} {mg : Str → Option Value} {base : Heap} {cs : List (Addr × Addr)}
theorem StyleAt.same {H H' : Hp} {a : Addr} {gap least : Int} (p : StyleAt K H a gap least) (e : Same H H') : StyleAt K H' a gap least := ⟨same_sqT e p.tup, p.g0, p.g1, p.l0, p.l1⟩
end
end TG
namespace TG
open PySem L2 Gx
theorem ToldAt.congr {H : Hp} {r : Addr} {es : List Addr} {f g : Nat → List Int} {n : Nat} (t : ToldAt H r es f n) (e : ∀ i, i < n → f i = g i) : ToldAt H r es g n :=
  ⟨t.lst, t.len, t.nd, fun i u h => by rw [← e i (by rw [← t.len]; exact (List.getElem?_eq_some_iff.mp h).1)]; exact t.at_ i u h⟩
theorem ToldAt.put {H : Hp} {r : Addr} {es : List Addr} {f : Nat → List Int} {n i : Nat} {e : Addr} {xs : List Int} (t : ToldAt H r es f n) (he : es[i]? = some e) (ne : e ≠ r) : ToldAt (upd H e (.lst (xs.map V.int))) r es (fun k => if k = i then xs else f k) n := by
  refine ⟨by rw [upd_ne ne.symm]; exact t.lst, t.len, t.nd, fun k u h => ?_⟩
  by_cases q : k = i
  · subst q
    rw [he] at h
    cases h
    rw [upd_same, if_pos rfl]
  · rw [if_neg q, upd_ne (fun z => q (nd_ix t.nd h (by rw [z]; exact he)))]
    exact t.at_ k u h
section
variable {P : Program} {w : World} {K : PySem.W.Frag} {mg : Str → Option Value} {base : Heap} {cs : List (Addr × Addr)}
end
end TG
namespace TG
open PySem L2 Gx
def rowsD (rows : List (List Str)) : List PyData := rows.map fun r => .tuple (r.map .str)
theorem dp_rows {K : PySem.W.Frag} {H : Hp} : ∀ {as : List Addr} {rows : List (List Str)}, as.length = rows.length → (∀ (i : Nat) (q : Addr) (r : List Str), as[i]? = some q → rows[i]? = some r → SqT K H q (sV r)) → DpAll K H (as.map V.ref) (rowsD rows)
  | [], [], _, _ => .nil
  | [], _ :: _, h, _ => by simp at h
  | _ :: _, [], h, _ => by simp at h
  | a :: as, r :: rows, h, k => .cons (.tup (k 0 a r rfl rfl) (dp_strs r)) (dp_rows (by simpa using h) fun i q r' h1 h2 => k (i + 1) q r' (by simpa using h1) (by simpa using h2))
theorem canAll_rows : ∀ {rows : List (List Str)}, (∀ r ∈ rows, ∀ z ∈ r, CellOk z) → PyData.canLayAll0 (rowsD rows) = true
  | [], _ => rfl
  | r :: rows, h => by
    show PyData.canLayAll0 (.tuple (r.map .str) :: rowsD rows) = true
    simp only [PyData.canLayAll0, PyData.canLay0, Bool.and_eq_true]
    exact ⟨canAll_strs fun z hz => (h r List.mem_cons_self z hz).sg, canAll_rows fun r' hr => h r' (List.mem_cons_of_mem _ hr)⟩
theorem depthAll_rows : ∀ rows : List (List Str), PyData.depthAll (rowsD rows) ≤ 1
  | [] => Nat.zero_le _
  | r :: rows => by
    show PyData.depthAll (.tuple (r.map .str) :: rowsD rows) ≤ 1
    simp only [PyData.depthAll, PyData.depth, depthAll_strs]
    have := depthAll_rows rows
    omega
theorem can_rows {rows : List (List Str)} (h : PgOk rows) : PyData.canLay0 (.list (rowsD rows)) = true := by
  simp only [PyData.canLay0]
  exact canAll_rows fun r hr z hz => (h.rows r hr).cells z hz
theorem shaped_rows {rows : List (List Str)} (h : PgOk rows) : SeqAt.shaped (.list (rowsD rows)) = true := by
  have := depthAll_rows rows
  unfold SeqAt.shaped
  rw [can_rows h, Bool.true_and]
  exact decide_eq_true (by simp only [PyData.depth]; omega)
theorem tabs_kb {cs : List (Addr × Addr)} {b l : Addr} {H H' : Hp} (t : Tabs cs H) (B : BoxAt H b l) (x : KB b l H H') : Tabs cs H' := fun p hp => by
  obtain ⟨ps, h1, h2⟩ := t p hp
  obtain ⟨ns, st, e1, e2, _⟩ := B
  exact ⟨ps, x _ _ h1 (ne_of h1 e1 (by intro z; cases z)) (ne_of h1 e2 (by intro z; cases z)), h2⟩
theorem box_ext {b l : Addr} {H H' : Hp} (B : BoxAt H b l) (x : LamX.ExtN H H') : BoxAt H' b l := let ⟨ns, st, h1, h2, h3⟩ := B; ⟨ns, st, x _ _ h1 (by intro ps z; cases z), x _ _ h2 (by intro ps z; cases z), h3⟩
/-- what stands in a turn of the law: the box, the tables, the page and its copy, the style -/
structure PageT (cs : List (Addr × Addr)) (b l p q h : Addr) (as : List Addr) (rows : List (List Str)) (gap least : Int) (H : Hp) : Prop where
  box : BoxAt H b l
  tab : Tabs cs H
  pg : H p = some (.lst (as.map V.ref))
  hd : H h = some (.lst (as.map V.ref))
  al : as.length = rows.length
  row : ∀ (i : Nat) (a : Addr) (z : List Str), as[i]? = some a → rows[i]? = some z → H a = some (.tup (sV z))
  sty : H q = some (.tup [.int gap, .int least])
  g0 : 0 ≤ gap
  g1 : gap ≤ 4
  l0 : 0 ≤ least
  l1 : least ≤ 12
  ok : PgOk rows
theorem PageT.ext {cs : List (Addr × Addr)} {b l p q h : Addr} {as : List Addr} {rows : List (List Str)} {gap least : Int} {H H' : Hp} (t : PageT cs b l p q h as rows gap least H) (x : LamX.ExtN H H') (y : Tabs cs H') : PageT cs b l p q h as rows gap least H' :=
  ⟨box_ext t.box x, y, x _ _ t.pg (by intro ps z; cases z), x _ _ t.hd (by intro ps z; cases z), t.al, fun i a z h1 h2 => x _ _ (t.row i a z h1 h2) (by intro ps z; cases z), x _ _ t.sty (by intro ps z; cases z), t.g0, t.g1, t.l0, t.l1, t.ok⟩
end TG
namespace Zm
open PySem PySem.Spec PyProof.Rows L2
section
variable {P : Program} {w : World} {A : Around} {E : Value → Shared → Prop} {s : Shared} {z TI TO i1 i2 l1 l2 : Addr}
end
end Zm
namespace Zm
open PySem PySem.Spec PyProof.Rows L2
abbrev k1 (h : Heap) (a : Addr) : Heap := h.push { cls := .type "tuple_iterator", data := .fields #[.ref a, .int 0 0] }
abbrev k2 (h : Heap) (a b : Addr) : Heap := (k1 h a).push { cls := .type "list_iterator", data := .fields #[.ref b, .int 0 0] }
abbrev k3 (h : Heap) (a b : Addr) : Heap := (k2 h a b).push { cls := .type "tuple", data := .seq #[.ref h.objs.size, .ref (k1 h a).objs.size] }
abbrev k4 (h : Heap) (a b : Addr) : Heap := (k3 h a b).push { cls := .type "tuple", data := .seq #[.none, .none] }
abbrev k5 (h : Heap) (a b : Addr) : Heap := (k4 h a b).push { cls := .type "zip", data := .fields #[.none, .bool false, .bool false, .ref (k2 h a b).objs.size, .ref (k3 h a b).objs.size] }
theorem made (a b : Addr) (xs ys : Array Value) : Meets (Builtin.«zip.__new__» ⟨[.type "zip", .ref a, .ref b], []⟩) (fun _ R t => t.heap.IsTuple a xs ∧ t.heap.IsList b ys ∧ R (.ok (.ret (.ref (k4 t.heap a b).objs.size))) { t with heap := k5 t.heap a b }) :=
  .of_wp fun P w A R t h => by
    obtain ⟨hp, g, d, tk, os⟩ := t
    obtain ⟨u1, u2, h⟩ := h
    have hsub := sub_zip
    have v1 : Heap.IsTuple (Shared.heap ⟨hp, g, d, tk, os⟩) a xs := u1
    have v2 : Heap.IsList (Shared.heap ⟨hp.push { cls := .type "tuple_iterator", data := .fields #[.ref a, .int 0 0] }, g, d, tk, os⟩) b ys := Heap.IsList.push u2 _
    wp_walk using wpAny_pyIter_tuple v1, wpAny_pyIter_list v2
    exact ⟨_, rfl, h⟩
section
variable {P : Program} {w : World} {A : Around} {E : Value → Shared → Prop} {s : Shared}
end
end Zm
namespace TG
open PySem L2 Gx
section
variable {P : Program} {w : World} {K : PySem.W.Frag} {mg : Str → Option Value} {base : Heap} {cs : List (Addr × Addr)}
end
end TG
namespace TG
open PySem L2 Gx
section
variable {P : Program} {w : World} {K : PySem.W.Frag} {mg : Str → Option Value} {base : Heap} {cs : List (Addr × Addr)}
end
end TG
namespace Lv
open PySem PySem.Spec PyProof.Rows L2 NdefX GenW
/-- the object at f is the lambda F of the body e -/
def FnL (f : Addr) (F : NF) (e : Expr) : HO := .ext fun h => ∃ (od : Option Addr) (sl : Array (Option Value)) (pm ctv : Value), h.get? f = some (⟨.type "function", od, .func (PySem.W.kla_fn F.name F.qual F.params e F.scope F.cl pm (.ref F.c) ctv), sl⟩ : Obj)
theorem fnL_at {P : Program} {w : World} {H : Hp} {h : Heap} {f : Addr} {F : NF} {e : Expr} (hok : HOk P w H h) (q : H f = some (FnL f F e)) : ∃ (od : Option Addr) (sl : Array (Option Value)) (pm ctv : Value), h.get? f = some (⟨.type "function", od, .func (PySem.W.kla_fn F.name F.qual F.params e F.scope F.cl pm (.ref F.c) ctv), sl⟩ : Obj) := by
  have z := hok f _ q
  obtain ⟨z, _, _⟩ := z
  exact z
theorem fnL_ne {f : Addr} {F : NF} {e : Expr} (ps : Array Value) : FnL f F e ≠ .tbl ps := fun z => by
  unfold FnL at z
  cases z
section
variable {X : Cx} {pins : List (Addr × Obj)} {σ : L2.St} {H : Hp} {s : Shared}
theorem inv_lam {F : NF} {e : Expr} {tk : Nat} {pm ctv : Value} (I : Inv X pins σ H s) :
    Inv X pins σ (upd H s.heap.objs.size (FnL s.heap.objs.size F e)) { s with heap := s.heap.push (PySem.W.kla_obj F.name F.qual F.params e F.scope F.cl pm F.c ctv), toks := tk } := by
  refine I.laid (a := s.heap.objs.size) (fun b u q => Heap.get?_push_of_some _ q) (Nat.le_refl _) ?_
  have q : (s.heap.push (PySem.W.kla_obj F.name F.qual F.params e F.scope F.cl pm F.c ctv)).get? s.heap.objs.size = some (PySem.W.kla_obj F.name F.qual F.params e F.scope F.cl pm F.c ctv) := Heap.get?_push_size _ rfl
  exact ⟨⟨_, _, pm, ctv, q⟩, ⟨_, q⟩, fun h1 h2 ⟨od, sl, p, t, z⟩ st => ⟨od, sl, p, t, st _ z⟩⟩
/-- a lambda's object is made, its code object too, if the table has none yet -/
theorem lam_val {c P : Addr} {params : Arguments} {body : Expr} {scope : Scope} {pos : Pos} {E : Value → Shared → Prop} {Q : Value → Shared → Prop} (I : Inv X pins σ H s) (B : LamX.TabB X.base X.mg c P) (hcode : X.env.code = .ref c)
    (hT : LamX.TabS H P (X.env.qual ++ "<lambda>")) (hdef : defaultsOf params X.env = ([], [])) (hfree : ∀ y ∈ scope.names, y.2 = .free → ∃ c, X.env.cells.lookup y.1 = some c)
    (k : ∀ (f c' : Addr) (H1 : Hp) (s' : Shared), Inv X pins σ H1 s' → (∀ b o, H b = some o → b ≠ P → H1 b = some o) → (∀ b, H1 b = none → H b = none) → LamX.TabS H1 P (X.env.qual ++ "<lambda>") → H f = none →
      H1 f = some (FnL f ⟨"<lambda>", X.env.qual ++ "<lambda>", params, [], scope, cloFrom X.env.cells scope.names [], c'⟩ body) → H1 c' = some (LamX.CodeO c' (X.env.qual ++ "<lambda>")) → Q (.ref f) s') :
    wpAny (model X.prog X.w) X.A (eval (.Lambda params body scope pos) X.env) Q E s := by
  obtain ⟨ps, tP, tok, tin⟩ := hT
  have bP : s.heap.BuiltinsAt X.mg P := B.bm.keeps I.bk
  have gP : s.heap.get? P = some { cls := .none, data := .fields ps } := I.hok P _ tP
  have none3 : ∀ {G : Hp} {x y z : Addr} {o u v : HO} {b : Addr}, upd (upd (upd G x o) y u) z v b = none → G b = none := fun {G x y z o u v b} q => by
    have r1 := q
    unfold upd at r1
    split at r1
    · cases r1
    split at r1
    · cases r1
    split at r1
    · cases r1
    exact r1
  refine PySem.W.kla_eval hdef ?_
  cases hc : codeAmong pos ps.toList with
  | some cv =>
    obtain ⟨c', e, hco⟩ := tin pos cv hc
    subst e
    refine PySem.W.kla_makeFunctionHit (mg := X.mg) (c := c) (P := P) (ps := ps) (closure_ok hfree) I.ok.glob (I.mod.glob.keeps I.bk) hcode (B.code.keeps I.bk) gP tok hc bP fun ctv h' tk hx hsz => ?_
    have I1 : Inv X pins σ H { s with heap := h', toks := tk } := I.kept hx
    have nF : H h'.objs.size = none := I1.hok.fresh (Nat.le_refl _)
    have I2 := inv_lam (F := ⟨"<lambda>", X.env.qual ++ "<lambda>", params, [], scope, cloFrom X.env.cells scope.names [], c'⟩) (e := body) (tk := tk) (pm := (X.mg "__name__").getD .none) (ctv := ctv) I1
    refine k h'.objs.size c' _ _ I2 (fun b o q _ => by rw [upd_ne (ne_of_none q nF)]; exact q) (fun b q => ?_) ⟨ps, by rw [upd_ne (ne_of_none tP nF)]; exact tP, tok, fun p' cv' q => ?_⟩ nF upd_same (by rw [upd_ne (ne_of_none hco nF)]; exact hco)
    · unfold upd at q
      split at q
      · cases q
      · exact q
    · obtain ⟨c0, e1, e2⟩ := tin p' cv' q
      exact ⟨c0, e1, by rw [upd_ne (ne_of_none e2 nF)]; exact e2⟩
  | none =>
    refine PySem.W.kla_makeFunction (mg := X.mg) (c := c) (P := P) (ps := ps) (closure_ok hfree) I.ok.glob (I.mod.glob.keeps I.bk) hcode (B.code.keeps I.bk) gP tok hc B.gP bP fun c' ctv h' tk hx hge hlt hrec htb => ?_
    obtain ⟨c2, oc, vs, t, e2, hoc, hd, hv⟩ := hrec
    cases e2
    have nC : H c' = none := I.hok.fresh hge
    have I1 := LamX.inv_table (t' := tk) (more := #[rawInt pos.line, rawInt pos.col, .ref c']) (h' := h') I tP (fun b o hb q => hx b o hb q) htb hge ⟨oc, vs, t, hoc, hd, hv⟩
    have nF := I1.hok.fresh (Nat.le_refl _)
    have I2 := inv_lam (F := ⟨"<lambda>", X.env.qual ++ "<lambda>", params, [], scope, cloFrom X.env.cells scope.names [], c'⟩) (e := body) (tk := tk) (pm := (X.mg "__name__").getD .none) (ctv := ctv) I1
    have fC : h'.objs.size ≠ c' := Nat.ne_of_gt hlt
    have pC : P ≠ c' := ne_of_none tP nC
    have nF0 : H h'.objs.size = none := I.hok.fresh (Nat.le_trans hge (Nat.le_of_lt hlt))
    have pF : P ≠ h'.objs.size := ne_of_none tP nF0
    have eL : (ps ++ #[rawInt pos.line, rawInt pos.col, .ref c']).toList = ps.toList ++ [rawInt pos.line, rawInt pos.col, .ref c'] := by simp
    have kk : ∀ b o, H b = some o → b ≠ P → upd (upd (upd H P (.tbl (ps ++ #[rawInt pos.line, rawInt pos.col, .ref c']))) c' (LamX.CodeO c' (X.env.qual ++ "<lambda>"))) h'.objs.size (FnL h'.objs.size ⟨"<lambda>", X.env.qual ++ "<lambda>", params, [], scope, cloFrom X.env.cells scope.names [], c'⟩ body) b = some o := fun b o q hb => by
      rw [upd_ne (ne_of_none q nF0), upd_ne (ne_of_none q nC), upd_ne hb]
      exact q
    refine k h'.objs.size c' _ _ I2 kk (fun b q => none3 q) ⟨_, by rw [upd_ne pF, upd_ne pC, upd_same], by rw [eL]; exact PySem.TriplesOk_snoc _ _ _ _ tok, fun p' cv q => ?_⟩ nF0 upd_same (by rw [upd_ne fC.symm, upd_same])
    rw [eL] at q
    rcases LamX.among_app _ tok q with z | z
    · obtain ⟨c0, e1, e2⟩ := tin p' cv z
      exact ⟨c0, e1, kk _ _ e2 (fun y => by rw [y, tP] at e2; exact LamX.codeO_ne ps (Option.some.inj e2).symm)⟩
    · exact ⟨c', z, by rw [upd_ne fC.symm, upd_same]⟩
end
section
variable {P : Program} {w : World} {K : PySem.W.Frag} {mg : Str → Option Value} {base : Heap}
end
end Lv
namespace TG
open PySem PySem.Spec PyProof.Rows L2
abbrev cellF (o : Obj) : HO := .frz o (.own 0)
def addC (H : Hp) (cl : List (Addr × Obj)) : Hp := fun b => match cl.lookup b with
  | some o => some (cellF o)
  | none => H b
def delC (H : Hp) (cl : List (Addr × Obj)) : Hp := fun b => match cl.lookup b with
  | some _ => none
  | none => H b
theorem addC_in {H : Hp} {cl : List (Addr × Obj)} {b : Addr} {o : Obj} (h : cl.lookup b = some o) : addC H cl b = some (cellF o) := by unfold addC; rw [h]
theorem addC_out {H : Hp} {cl : List (Addr × Obj)} {b : Addr} (h : cl.lookup b = none) : addC H cl b = H b := by unfold addC; rw [h]
theorem delC_in {H : Hp} {cl : List (Addr × Obj)} {b : Addr} {o : Obj} (h : cl.lookup b = some o) : delC H cl b = none := by unfold delC; rw [h]
theorem delC_out {H : Hp} {cl : List (Addr × Obj)} {b : Addr} (h : cl.lookup b = none) : delC H cl b = H b := by unfold delC; rw [h]
section
variable {P : Program} {w : World}
theorem objOk_congr {H1 H2 : Hp} {h : Heap} {a : Addr} (k : ∀ b o, H1 b = some o → (∀ u v, o ≠ .frz u v) → H2 b = some o) : ∀ u : HO, ObjOk P w H1 h a u → ObjOk P w H2 h a u
  | .lst _, x => x
  | .tup _, x => x
  | .dK _, x => x
  | .dT _, ⟨x1, x2, xs, x3, x4⟩ => ⟨x1, x2, xs, x3.mono fun p q ⟨e1, e2, e3⟩ => ⟨e1, k _ _ e2 (fun u v z => by cases z), e3⟩, x4⟩
  | .set _ _, x => x
  | .ins _ _ _, ⟨x1, x2⟩ => ⟨k _ _ x1 (fun u v z => by cases z), x2⟩
  | .own _, x => x
  | .xd _, x => x
  | .rng _ _, x => x
  | .frz _ u, ⟨x1, x2⟩ => ⟨x1, objOk_congr k u x2⟩
  | .tbl _, x => x
  | .met _ _, x => x
  | .ext _, x => x
/-- the cells stand as they are told, and were untold -/
structure CellsIn (cl : List (Addr × Obj)) (base : Heap) (fs : List Addr) (h : Heap) : Prop where
  at_ : ∀ c o, cl.lookup c = some o → h.get? c = some o ∧ base.get? c = none ∧ c ∉ fs
theorem hok_add {H : Hp} {h : Heap} {cl : List (Addr × Obj)} (hk : HOk P w H h) (n : ∀ c o, cl.lookup c = some o → H c = none ∧ h.get? c = some o) : HOk P w (addC H cl) h := fun a o e => by
  cases q : cl.lookup a with
  | some u =>
    rw [addC_in q] at e
    cases e
    exact ⟨(n a u q).2, ⟨u, (n a u q).2⟩⟩
  | none =>
    rw [addC_out q] at e
    refine objOk_congr (fun b v hb _ => ?_) o (hk a o e)
    cases r : cl.lookup b with
    | some u => rw [(n b u r).1] at hb; cases hb
    | none => rw [addC_out r]; exact hb
theorem hok_del {H : Hp} {h : Heap} {cl : List (Addr × Obj)} (hk : HOk P w H h) (n : ∀ c o, cl.lookup c = some o → H c = some (cellF o)) : HOk P w (delC H cl) h := fun a o e => by
  cases q : cl.lookup a with
  | some u => rw [delC_in q] at e; cases e
  | none =>
    rw [delC_out q] at e
    refine objOk_congr (fun b v hb nf => ?_) o (hk a o e)
    cases r : cl.lookup b with
    | some u =>
      rw [n b u r] at hb
      cases hb
      exact absurd rfl (nf _ _)
    | none => rw [delC_out r]; exact hb
variable {K : PySem.W.Frag} {mg : Str → Option Value} {base : Heap} {A : Around} {outer : List Env} {s s' : Shared}
/-- told of: as a callee finds it -/
theorem env_add {H : Hp} {cl : List (Addr × Obj)} (e0 : Env0 P w K mg base A outer s H) (C : CellsIn cl base (frs outer) s.heap) (n : ∀ c o, cl.lookup c = some o → H c = none) : Env0 P w K mg base A outer s (addC H cl) := by
  refine ⟨e0.frames, e0.mod, fun b o hb => ⟨(e0.bs b o hb).1, ?_⟩, e0.bsz, e0.funs, fun b hb => ?_, hok_add e0.hok fun c o q => ⟨n c o q, (C.at_ c o q).1⟩, e0.bare⟩
  · cases r : cl.lookup b with
    | some u => rw [(C.at_ b u r).2.1] at hb; cases hb
    | none => rw [addC_out r]; exact (e0.bs b o hb).2
  · cases r : cl.lookup b with
    | some u => exact absurd hb (C.at_ b u r).2.2
    | none => rw [addC_out r]; exact e0.frf b hb
/-- untold of: as the frame that has the cells finds it -/
theorem env_del {H : Hp} {cl : List (Addr × Obj)} (e0 : Env0 P w K mg base A outer s H) (n : ∀ c o, cl.lookup c = some o → H c = some (cellF o)) : Env0 P w K mg base A outer s (delC H cl) := by
  refine ⟨e0.frames, e0.mod, fun b o hb => ⟨(e0.bs b o hb).1, ?_⟩, e0.bsz, e0.funs, fun b hb => ?_, hok_del e0.hok n, e0.bare⟩
  · cases r : cl.lookup b with
    | some u => exact delC_in r
    | none => rw [delC_out r]; exact (e0.bs b o hb).2
  · cases r : cl.lookup b with
    | some u => exact delC_in r
    | none => rw [delC_out r]; exact e0.frf b hb
theorem un_del {fs : List Addr} {H H' : Hp} {h h' : Heap} {cl : List (Addr × Obj)} (u : Un fs [] (addC H cl) H' h h') (hk : HOk P w H' h') (n : ∀ c o, cl.lookup c = some o → H c = none ∧ h.get? c = some o ∧ c ∉ fs) : Un fs [] H (delC H' cl) h h' := by
  have told : ∀ c o, cl.lookup c = some o → H' c = some (cellF o) := fun c o q => u.frzs c o _ (addC_in q)
  have out : ∀ {b : Addr} {o : HO}, H b = some o → cl.lookup b = none := fun {b o} hb => by
    cases r : cl.lookup b with
    | some v => rw [(n b v r).1] at hb; cases hb
    | none => rfl
  refine ⟨fun b o hb nb hf hx => ?_, fun b o hb nb hf hx => ?_, fun b o hb nb hx => ?_, fun b o hb hx => u.there b o hb hx, fun b xs hb => ?_, fun b o v hb => ?_, fun b ps hb => ?_⟩
  · cases r : cl.lookup b with
    | some v =>
      rw [(n b v r).2.1] at hb
      cases hb
      exact (hk b _ (told b _ r)).1
    | none => exact u.keep b o hb (by rw [addC_out r]; exact nb) hf hx
  · cases r : cl.lookup b with
    | some v => exact absurd hf (n b v r).2.2
    | none => exact u.slot b o hb (by rw [addC_out r]; exact nb) hf hx
  · cases r : cl.lookup b with
    | some v => exact delC_in r
    | none => rw [delC_out r]; exact u.free b o hb (by rw [addC_out r]; exact nb) hx
  · rw [delC_out (out hb)]
    exact u.tups b xs (by rw [addC_out (out hb)]; exact hb)
  · rw [delC_out (out hb)]
    exact u.frzs b o v (by rw [addC_out (out hb)]; exact hb)
  · obtain ⟨more, q⟩ := u.tbls b ps (by rw [addC_out (out hb)]; exact hb)
    exact ⟨more, by rw [delC_out (out hb)]; exact q⟩
/-- back from a callee that was told of the cells -/
theorem ce_del {H : Hp} {cl : List (Addr × Obj)} {Q : VK} {u : Value} (C : CellsIn cl base (frs outer) s.heap) (n : ∀ c o, cl.lookup c = some o → H c = none) (h : CE outer P w (addC H cl) s (fun v H' => (∀ c o, cl.lookup c = some o → H' c = some (cellF o)) → Q v (delC H' cl)) u s') : CE outer P w H s Q u s' := by
  obtain ⟨v, H', h1, h2, un, hk, r, q⟩ := h
  have told : ∀ c o, cl.lookup c = some o → H' c = some (cellF o) := fun c o e => un.frzs c o _ (addC_in e)
  exact ⟨v, delC H' cl, h1, h2, un_del un hk (fun c o e => ⟨n c o e, (C.at_ c o e).1, (C.at_ c o e).2.2⟩), hok_del hk told, r, q told⟩
theorem un_add {fs : List Addr} {H H' : Hp} {h h' : Heap} {cl : List (Addr × Obj)} (u : Un fs [] (delC H cl) H' h h') (n : ∀ c o, cl.lookup c = some o → H c = some (cellF o) ∧ h.get? c = some o ∧ c ∉ fs) : Un fs [] H (addC H' cl) h h' := by
  have frz : ∀ {b : Addr} {o : HO}, H b = some o → (∀ a v, o ≠ .frz a v) → cl.lookup b = none := fun {b o} hb nf => by
    cases r : cl.lookup b with
    | some v =>
      rw [(n b v r).1] at hb
      cases hb
      exact absurd rfl (nf _ _)
    | none => rfl
  refine ⟨fun b o hb nb hf hx => ?_, fun b o hb nb hf hx => ?_, fun b o hb nb hx => ?_, fun b o hb hx => u.there b o hb hx, fun b xs hb => ?_, fun b o v hb => ?_, fun b ps hb => ?_⟩
  · cases r : cl.lookup b with
    | some v => rw [(n b v r).1] at nb; cases nb
    | none => exact u.keep b o hb (by rw [delC_out r]; exact nb) hf hx
  · cases r : cl.lookup b with
    | some v => rw [(n b v r).1] at nb; cases nb
    | none => exact u.slot b o hb (by rw [delC_out r]; exact nb) hf hx
  · cases r : cl.lookup b with
    | some v => rw [(n b v r).1] at nb; cases nb
    | none => rw [addC_out r]; exact u.free b o hb (by rw [delC_out r]; exact nb) hx
  · have r := frz hb fun a v z => by cases z
    rw [addC_out r]
    exact u.tups b xs (by rw [delC_out r]; exact hb)
  · cases r : cl.lookup b with
    | some q =>
      rw [(n b q r).1] at hb
      rw [addC_in r]
      exact hb
    | none =>
      rw [addC_out r]
      exact u.frzs b o v (by rw [delC_out r]; exact hb)
  · have r := frz hb fun a v z => by cases z
    obtain ⟨more, q⟩ := u.tbls b ps (by rw [delC_out r]; exact hb)
    exact ⟨more, by rw [addC_out r]; exact q⟩
/-- behind the frame that has the cells: they are told of again -/
theorem ce_add {H : Hp} {cl : List (Addr × Obj)} {Q : VK} {u : Value} (hk0 : HOk P w H s.heap) (n : ∀ c o, cl.lookup c = some o → H c = some (cellF o) ∧ c ∉ frs outer) (h : CE outer P w (delC H cl) s (fun v H' => (∀ c o, cl.lookup c = some o → H' c = none) → Q v (addC H' cl)) u s') : CE outer P w H s Q u s' := by
  obtain ⟨v, H', h1, h2, un, hk, r, q⟩ := h
  have at0 : ∀ c o, cl.lookup c = some o → s.heap.get? c = some o := fun c o e => (hk0 c _ (n c o e).1).1
  refine ⟨v, addC H' cl, h1, h2, un_add un fun c o e => ⟨(n c o e).1, at0 c o e, (n c o e).2⟩, hok_add hk fun c o e => ?_, r, q fun c o e => un.free c o (at0 c o e) (delC_in e) (by simp)⟩
  exact ⟨un.free c o (at0 c o e) (delC_in e) (by simp), un.keep c o (at0 c o e) (delC_in e) (n c o e).2 (by simp)⟩
theorem cx_add {H : Hp} {cl : List (Addr × Obj)} {E : XK} {u : Value} (hk0 : HOk P w H s.heap) (n : ∀ c o, cl.lookup c = some o → H c = some (cellF o) ∧ c ∉ frs outer) (h : L2.CX P w outer (delC H cl) s (fun cls d H' => (∀ c o, cl.lookup c = some o → H' c = none) → E cls d (addC H' cl)) u s') : L2.CX P w outer H s E u s' := by
  obtain ⟨a, B, H', cls, d, e1, fly, hk, ub, na, h1, h2, q⟩ := h
  have at0 : ∀ c o, cl.lookup c = some o → s.heap.get? c = some o := fun c o e => (hk0 c _ (n c o e).1).1
  have atB : ∀ c o, cl.lookup c = some o → B.get? c = some o := fun c o e => ub.keep c o (at0 c o e) (delC_in e) (n c o e).2
  have frz : ∀ {b : Addr} {o : HO}, H b = some o → (∀ a v, o ≠ .frz a v) → cl.lookup b = none := fun {b o} hb nf => by
    cases r : cl.lookup b with
    | some v =>
      rw [(n b v r).1] at hb
      cases hb
      exact absurd rfl (nf _ _)
    | none => rfl
  refine ⟨a, B, addC H' cl, cls, d, e1, fly, hok_add hk fun c o e => ⟨ub.free c o (at0 c o e) (delC_in e), atB c o e⟩, ⟨fun b o hb nb hf => ?_, ub.slot, fun b o hb nb => ?_, ub.there, fun b xs hb => ?_, fun b o v hb => ?_, fun b ps hb => ?_⟩, ?_, h1, h2, q fun c o e => ub.free c o (at0 c o e) (delC_in e)⟩
  · cases r : cl.lookup b with
    | some v => rw [(n b v r).1] at nb; cases nb
    | none => exact ub.keep b o hb (by rw [delC_out r]; exact nb) hf
  · cases r : cl.lookup b with
    | some v => rw [(n b v r).1] at nb; cases nb
    | none => rw [addC_out r]; exact ub.free b o hb (by rw [delC_out r]; exact nb)
  · have r := frz hb fun a v z => by cases z
    rw [addC_out r]
    exact ub.tups b xs (by rw [delC_out r]; exact hb)
  · cases r : cl.lookup b with
    | some q =>
      rw [(n b q r).1] at hb
      rw [addC_in r]
      exact hb
    | none =>
      rw [addC_out r]
      exact ub.frzs b o v (by rw [delC_out r]; exact hb)
  · have r := frz hb fun a v z => by cases z
    obtain ⟨more, q⟩ := ub.tbls b ps (by rw [delC_out r]; exact hb)
    exact ⟨more, by rw [addC_out r]; exact q⟩
  · cases r : cl.lookup a with
    | some v =>
      have z := fly.2.1
      rw [atB a v r] at z
      cases z
    | none => rw [addC_out r]; exact na
end
end TG
namespace TG
open PySem PySem.Spec PyProof.Rows L2 NdefX GenW Gx Lv
/-- the captured names' cells, told of, hold these values -/
structure Caught (F : NF) (fr : List Str) (ws : List (Option V)) (cl : List (Addr × Obj)) (H : Hp) : Prop where
  len : ws.length = fr.length
  told : ∀ c o, cl.lookup c = some o → H c = some (cellF o)
  all : ∀ y c, F.cl.lookup y = some c → ∃ o v, cl.lookup c = some o ∧ o.data = .cell v
  inj : ∀ x y c, F.cl.lookup x = some c → F.cl.lookup y = some c → x = y
  has : ∀ (i : Nat) (y : Str), fr[i]? = some y → ∃ c, F.cl.lookup y = some c ∧ ∀ v, ws[i]? = some (some v) → ∃ o u, cl.lookup c = some o ∧ o.data = .cell (some u) ∧ RelV v u
section
variable {P : Program} {w : World} {K : PySem.W.Frag} {mg : Str → Option Value} {base : Heap}
structure LOkX (P : Program) (w : World) (K : PySem.W.Frag) (mg : Str → Option Value) (base : Heap) (k : Nat) (f : Addr) (F : NF) (e : Expr) (sp : Sp) : Prop where
  run : ∀ (A : Around) (outer : List Env) (s : Shared) (H : Hp) (Q : VK) (E : XK), Room k A → Env0 P w K mg base A outer s H → H f = some (FnL f F e) → H F.c = some (LamX.CodeO F.c F.qual) → sp [] H Q E →
    codeAny (model P w) A (.call (.ref f) ⟨[], []⟩) (CR (L2.CX P w) outer P w H s Q E) s
theorem lokx_of {k : Nat} {f : Addr} {F : NF} {e : Expr} {N fr : List Str} {sp : Sp} (S : NScope N [] fr F.scope) (hb : ∀ (pm ctv : Value), bindArgs (PySem.W.kla_fn F.name F.qual F.params e F.scope F.cl pm (.ref F.c) ctv) ⟨[], []⟩ = pure [])
    (hbody : ∀ (A : Around) (outer : List Env) (s : Shared) (H : Hp) (Q : VK) (E : XK), Room k (A.deeper (envF F f s.heap.objs.size)) → sp [] H Q E → ∃ (ws : List (Option V)) (cl : List (Addr × Obj)) (t : TE), Caught F fr ws cl H ∧
      PE (ncx (L2.CX P w) P w K mg base N F f A outer s (delC H cl) (fun cls d H' => (∀ c o, cl.lookup c = some o → H' c = none) → E cls d (addC H' cl))) e t ∧ t (startF N [] ws) (delC H cl) (fun v H' => (∀ c o, cl.lookup c = some o → H' c = none) → Q v (addC H' cl))) :
    LOkX P w K mg base (k + 1) f F e sp := by
  refine ⟨fun A outer s H Q E hr e0 hf hc hsp => ?_⟩
  have lim : s.heap.NoLimit := e0.mod.nolimit.keeps fun b o q => (e0.bs b o q).1
  obtain ⟨od, sl, pm, ctv, ho⟩ := fnL_at e0.hok hf
  obtain ⟨ws, cl, t, C, ht, hq⟩ := hbody A outer s H Q E (hr.deeper _) hsp
  have hnf : ∀ c o, cl.lookup c = some o → c ∉ frs outer := fun c o q hb => by
    have z := e0.frf c hb
    rw [C.told c o q] at z
    cases z
  have at0 : ∀ c o, cl.lookup c = some o → s.heap.get? c = some o := fun c o q => (e0.hok c _ (C.told c o q)).1
  refine codeAny_mono (R := CR (L2.CX P w) outer P w (delC H cl) s (fun v H' => (∀ c o, cl.lookup c = some o → H' c = none) → Q v (addC H' cl)) (fun cls d H' => (∀ c o, cl.lookup c = some o → H' c = none) → E cls d (addC H' cl))) ?_ fun r s' q => ?_
  · have e1 := env_del e0 C.told
    refine PySem.W.kla_callFunE hr.depth ho rfl S.co S.gen rfl (codeO_at e0.hok hc) ?_
    rw [hb pm ctv]
    refine wpAny_pure (wpAny_newFunctionEnv S.nocell (fun ⟨n, _⟩ hy => by cases hy) (fun h₁ hns hsb => ⟨lim.fresh _ hsb, ?_⟩) S.kind)
    have kp : ∀ b o, s.heap.get? b = some o → h₁.get? b = some o := fun b o q => hsb.extBut b o (Nat.ne_of_lt (Heap.lt_size q)) (Heap.get?_push_of_some _ q)
    have CA : NdefX.CellsAt F.cl fr ws s.heap (delC H cl) := by
      refine ⟨C.len, fun y c q => ?_, C.inj, fun i y q => ?_⟩
      · obtain ⟨o, v, h1, h2⟩ := C.all y c q
        exact ⟨delC_in h1, v, o, at0 c o h1, h2⟩
      · obtain ⟨c, h1, h2⟩ := C.has i y q
        refine ⟨c, h1, fun v hv => ?_⟩
        obtain ⟨o, u, h3, h4, h5⟩ := h2 v hv
        exact ⟨u, h5, o, at0 c o h3, h4⟩
    have I := inv_startN (CX := L2.CX P w) (P := P) (w := w) (E := fun cls d H' => (∀ c o, cl.lookup c = some o → H' c = none) → E cls d (addC H' cl)) (f := f) (tk := s.toks + (([] : List Str).zip ([] : List Value)).length) S hr.hd e1 (vs := []) (us := []) rfl .nil CA hns kp
    refine PySem.W.kla_codeExpr (wpAny_mono (ht.run [] _ (startF N [] ws) (delC H cl) _ I hq) (fun v s' q => ?_) fun e' s' q => q)
    obtain ⟨w', H', J, rv, q⟩ := q
    exact ⟨w', H', J.os, J.bare, J.base, J.hok, rv, q⟩
  · cases r with
    | error er => exact cx_add e0.hok (fun c o q => ⟨C.told c o q, hnf c o q⟩) q
    | ok fl =>
      cases fl with
      | ret u => exact ce_add e0.hok (fun c o q => ⟨C.told c o q, hnf c o q⟩) q
      | next => exact False.elim q
      | brk => exact False.elim q
      | cont => exact False.elim q
end
end TG
namespace TG
open PySem PySem.Spec PyProof.Rows L2 NdefX GenW Gx Lv
structure ToldC (cells : List (Str × Addr)) (N names : List Str) (σ : L2.St) (cl : List (Addr × Obj)) : Prop where
  all : ∀ y ∈ names, ∃ c o v, cells.lookup y = some c ∧ cl.lookup c = some o ∧ o.data = .cell v
  val : ∀ y ∈ names, ∀ c o, cells.lookup y = some c → cl.lookup c = some o → ∀ (i : Nat) (v : V), N[i]? = some y → σ[i]? = some (some v) → ∃ u, o.data = .cell (some u) ∧ RelV v u
  inj : ∀ y z c, cells.lookup y = some c → cells.lookup z = some c → y = z
theorem cells_list {h : Heap} {cells : List (Str × Addr)} : ∀ names : List Str, (∀ y ∈ names, ∃ c v, cells.lookup y = some c ∧ h.IsCell c v) →
    ∃ cl : List (Addr × Obj), (∀ c o, cl.lookup c = some o → h.get? c = some o ∧ ∃ y ∈ names, cells.lookup y = some c) ∧ ∀ y ∈ names, ∀ c, cells.lookup y = some c → ∃ o, cl.lookup c = some o
  | [], _ => ⟨[], ⟨fun c o e => by simp at e, fun y hy => by simp at hy⟩⟩
  | y :: names, k => by
    obtain ⟨cl, h1, h2⟩ := cells_list names fun z hz => k z (List.mem_cons_of_mem _ hz)
    obtain ⟨c, v, e1, o, e2, _⟩ := k y List.mem_cons_self
    refine ⟨(c, o) :: cl, fun c' o' e => ?_, fun z hz c' e => ?_⟩
    · rw [List.lookup_cons] at e
      by_cases q : c' = c
      · rw [q, beq_self_eq_true] at e
        cases e
        rw [q]
        exact ⟨e2, y, List.mem_cons_self, e1⟩
      · rw [beq_false_of_ne q] at e
        obtain ⟨g1, z, hz, g2⟩ := h1 c' o' e
        exact ⟨g1, z, List.mem_cons_of_mem _ hz, g2⟩
    · rw [List.lookup_cons]
      by_cases q : c' = c
      · rw [q, beq_self_eq_true]
        exact ⟨o, rfl⟩
      · rw [beq_false_of_ne q]
        rcases List.mem_cons.mp hz with r | r
        · rw [r, e1] at e
          exact absurd (Option.some.inj e).symm q
        · exact h2 z r c' e
def tCallC (cells : List (Str × Addr)) (N names : List Str) (sp : Sp) (t : TA) : TE := fun σ H Q => t σ H fun vs H1 => ∀ cl : List (Addr × Obj), ToldC cells N names σ cl → (∀ c o, cl.lookup c = some o → H1 c = none) →
  sp vs (addC H1 cl) (fun v H' => (∀ c o, cl.lookup c = some o → H' c = some (cellF o)) → Q v (delC H' cl)) (fun _ _ _ => False)
theorem pe_callC {X : Cx} {names : List Str} {k : Nat} {f : Addr} {fd : FuncData} {ps : List Str} {sp : Sp} {x : Str} {p pos : Pos} {e : Expr} {es : List Expr} {t : TA} (F : FnOk X.prog X.w X.K X.mg X.base CX0 k f fd ps sp) (hr : Room k X.A) (hg : Gl X x) (hm : X.mg x = some (.ref f)) (hk : PySem.W.keepIn X.K (.ref f) = true) (hb : Binds X.K fd ps [])
    (hfn : ∀ y ∈ names, X.fn y = true) (hcell : ∀ y ∈ names, X.env.kindOf y = some .cell) (ha : PA X (e :: es) t) (hdb : (x == ("__debug__" : Str)) = false := by decide) (he : starEach (e :: es) X.env = (false, eval e X.env) :: starEach es X.env := by rfl) (hpl : (backTo pos (starEach es X.env)).any (·.1) = false := by rfl) :
    PE X (.Call (.Name x p) (e :: es) [] pos) (tCallC X.env.cells X.N names sp t) := by
  refine ⟨fun pins s σ H Q I h => ?_⟩
  refine wpAny_Call_Name_kw (ld_glob I hg hm ?_ hdb)
  refine PySem.W.callWith_K (h₀ := X.base) I.ok.mod.kin hk (thn (ha.run pos pins s σ H _ I h) fun us s1 ⟨vs, H1, I1, r, q⟩ => ⟨I1.kIn, ?_⟩) he hpl
  show wpAny _ _ (call (.ref f) us) _ _ _
  have has : ∀ y ∈ names, ∃ c v, X.env.cells.lookup y = some c ∧ s1.heap.IsCell c v := fun y hy => by
    obtain ⟨c, hc⟩ := I1.ok.has y (.inl (hcell y hy))
    obtain ⟨v, hv⟩ := I1.cell y c hc
    exact ⟨c, v, hc, hv⟩
  obtain ⟨cl, c1, c2⟩ := cells_list names has
  have un : ∀ c o, cl.lookup c = some o → H1 c = none := fun c o e => by
    obtain ⟨_, y, _, hc⟩ := c1 c o e
    exact I1.freeC y c hc
  have C : CellsIn cl X.base (frs X.stack) s1.heap := ⟨fun c o e => by
    obtain ⟨g1, y, hy, hc⟩ := c1 c o e
    have ge := I1.ok.cab y c (hfn y hy) hc
    refine ⟨g1, ?_, fun hin => ?_⟩
    · cases z : X.base.get? c with
      | none => rfl
      | some u => exact absurd (Nat.lt_of_lt_of_le (Heap.lt_size (I1.ok.bs c u z).1) ge) (Nat.lt_irrefl _)
    · rcases List.mem_cons.mp (I1.stkSub c hin) with z | z
      · obtain ⟨m, hn, _⟩ := I1.loc
        obtain ⟨v, o2, q1, q2⟩ := I1.cell y c hc
        rw [z] at q1
        obtain ⟨o3, es3, ep3, q3, q4, _⟩ := hn
        rw [q1] at q3
        cases q3
        rw [q2] at q4
        cases q4
      · obtain ⟨_, o2, q1, _⟩ := I1.ok.funs.mem z
        exact absurd (Nat.lt_of_lt_of_le (Heap.lt_size q1) ge) (Nat.lt_irrefl _)⟩
  have T : ToldC X.env.cells X.N names σ cl := by
    refine ⟨fun y hy => ?_, fun y hy c o hc ho i v hN hs => ?_, I1.ok.inj⟩
    · obtain ⟨c, hc⟩ := I1.ok.has y (.inl (hcell y hy))
      obtain ⟨v, o2, q1, q2⟩ := I1.cell y c hc
      obtain ⟨o, ho⟩ := c2 y hy c hc
      have z := (c1 c o ho).1
      rw [q1] at z
      cases z
      exact ⟨c, _, v, hc, ho, q2⟩
    · obtain ⟨m, hn, loc⟩ := I1.loc
      obtain ⟨u, ru, lk⟩ := loc i y v hN hs (.inr (.inl (hcell y hy)))
      rcases lk with ⟨z, _⟩ | ⟨_, c', hc', o2, q1, q2⟩
      · rw [hcell y hy] at z; cases z
      · rw [hc] at hc'
        cases hc'
        have z := (c1 c o ho).1
        rw [q1] at z
        cases z
        exact ⟨u, q2, ru⟩
  have sq := q cl T un
  have hl : (us ++ []).length = ps.length := by rw [List.append_nil, ← r.length]; exact F.len _ _ _ _ sq
  have e1 := env_add I1.env0 C un
  have bd := hb s1 us I1.kIn hl
  rw [List.append_nil] at bd
  refine wpAny_call (codeAny_mono (F.run X.A X.stack s1 (addC H1 cl) ⟨us, []⟩ us vs _ _ hr e1 bd r sq) fun r' s' hq => ?_)
  cases r' with
  | error er => exact False.elim hq
  | ok fl =>
    cases fl with
    | ret u => exact I1.after (ce_del C un hq)
    | next => exact False.elim hq
    | brk => exact False.elim hq
    | cont => exact False.elim hq
end TG
namespace TG
open PySem PySem.Spec PyProof.Rows L2 NdefX GenW Gx Lv
/-- the reading of a lambda that captures cells of the frame -/
def tLamC (P : Addr) (q : Str) (params : Arguments) (body : Expr) (scope : Scope) (cl : List (Str × Addr)) : TE := fun _ H Q => LamX.TabS H P q ∧ ∀ (f c' : Addr) (H1 : Hp), (∀ b o, H b = some o → b ≠ P → H1 b = some o) → (∀ b, H1 b = none → H b = none) → LamX.TabS H1 P q → H f = none →
  H1 f = some (FnL f ⟨"<lambda>", q, params, [], scope, cl, c'⟩ body) → H1 c' = some (LamX.CodeO c' q) → Q (.ref f) H1
theorem pe_lamC {X : Cx} {c P : Addr} {params : Arguments} {body : Expr} {scope : Scope} {pos : Pos} (B : LamX.TabB X.base X.mg c P) (hcode : X.env.code = .ref c) (hdef : defaultsOf params X.env = ([], []))
    (hfr : ∀ y ∈ scope.names, y.2 = .free → X.env.kindOf y.1 = some .cell ∨ X.env.kindOf y.1 = some .free) :
    PE X (.Lambda params body scope pos) (tLamC P (X.env.qual ++ "<lambda>") params body scope (cloFrom X.env.cells scope.names [])) := by
  refine ⟨fun pins s σ H Q I h => ?_⟩
  obtain ⟨hT, h⟩ := h
  exact lam_val I B hcode hT hdef (fun y hy e => I.ok.has _ (hfr y hy e)) fun f c' H1 s' J k1 k2 t1 nf hf hc => ⟨.ref f, H1, J, rfl, h f c' H1 k1 k2 t1 nf hf hc⟩
end TG

namespace TG
open PySem PySem.Spec PyProof.Rows L2
def clsBd : Stmt → List Stmt
  | .ClassDef _ _ _ b _ _ _ _ _ _ _ => b
  | _ => []
def mth (c i : Nat) : Stmt := (clsBd (top c)).getD i (.Pass ⟨0, 0, 0, 0⟩)
end TG

namespace TG
open PySem PySem.Spec PyProof.Rows L2
def excNm : List Str := ["BadPage", "BadStyle", "BadRow", "BadCell", "BadCount", "BadLines", "BadStep", "BadStroke", "BadText", "BadHand", "TooMuch"]
def excFl : List Str := ["row", "", "", "", "", "line", "number", "number", "row", "", ""]
abbrev nmE (j : Nat) : Str := excNm.getD j ""
abbrev flE (j : Nat) : Str := excFl.getD j ""
end TG

namespace TG
open PySem PySem.Spec PyProof.Rows L2
/-! ### the head -/
def dd (i : Nat) (x : Str) : He.DefD := ⟨(x, none), x, x, defArgs (top i), defBody (top i), defScope (top i), [], []⟩
def dm (c i : Nat) (C m : Str) : He.DefD := ⟨(C, some m), m, C ++ "." ++ m, defArgs (mth c i), defBody (mth c i), defScope (mth c i), [], []⟩
def fnL : List He.DefD := [dd 23 "is_whole", dd 24 "is_sign", dd 25 "is_text_of_signs", dd 26 "is_filled", dd 27 "is_row", dd 28 "first_misfit", dd 29 "check_page", dd 30 "check_row", dd 31 "check_style", dd 33 "stretches", dd 34 "closed_runs", dd 35 "is_closed", dd 36 "described", dd 37 "stands_right", dd 38 "is_figures", dd 40 "laid", dd 41 "closed_cells", dd 42 "left_ends", dd 43 "begins_of", dd 46 "check_number", dd 47 "check_sign", dd 48 "check_fits", dd 49 "halves", dd 50 "joined", dd 51 "without_first", dd 52 "moved", dd 54 "_law_begun", dd 55 "_law_take", dd 56 "_law_alike", dd 57 "_law_told", dd 58 "_law_all", dd 59 "_law_sign", dd 60 "_law_cell", dd 61 "_law_row", dd 62 "_law_page", dd 63 "_law_style", dd 64 "_law_bad_cell", dd 65 "_law_bad_row", dd 66 "_law_numbers", dd 67 "_law_places", dd 68 "_law_row_full", dd 69 "law", dm 45 0 "Sheet" "__init__", dm 45 1 "Sheet" "put", dm 45 2 "Sheet" "take", dm 45 3 "Sheet" "change", dm 45 4 "Sheet" "strike", dm 45 5 "Sheet" "erase", dm 45 6 "Sheet" "part", dm 45 7 "Sheet" "unite", dm 45 8 "Sheet" "back", dm 45 9 "Sheet" "page", dm 45 10 "Sheet" "begins", dm 45 11 "Sheet" "lay"]
def faL : List He.Fa := [.glo "is_whole", .glo "is_sign", .glo "is_text_of_signs", .glo "is_filled", .glo "is_row", .glo "first_misfit", .glo "check_page", .glo "check_row", .glo "check_style", .glo "stretches", .glo "closed_runs", .glo "is_closed", .glo "described", .glo "stands_right", .glo "is_figures", .glo "laid", .glo "closed_cells", .glo "left_ends", .glo "begins_of", .glo "check_number", .glo "check_sign", .glo "check_fits", .glo "halves", .glo "joined", .glo "without_first", .glo "moved", .glo "_law_begun", .glo "_law_take", .glo "_law_alike", .glo "_law_told", .glo "_law_all", .glo "_law_sign", .glo "_law_cell", .glo "_law_row", .glo "_law_page", .glo "_law_style", .glo "_law_bad_cell", .glo "_law_bad_row", .glo "_law_numbers", .glo "_law_places", .glo "_law_row_full", .glo "law", .int "BLANK" 32, .int "TILDE" 126, .int "PERCENT" 37, .int "MOST_ROWS" 30, .int "MOST_CELLS" 6, .int "MOST_SIGNS" 10, .int "MOST_GAP" 4, .int "MOST_LEAST" 12, .free "isinstance", .free "len", .free "range", .free "max", .free "min", .free "all", .free "str", .free "int", .free "bool", .free "list", .free "tuple", .free "enumerate", .free "ord", .free "zip", .free "ValueError", .glo "Sheet", .glo "GrowError", .glo "BadPage", .glo "BadStyle", .glo "BadRow", .glo "BadCell", .glo "BadCount", .glo "BadLines", .glo "BadStep", .glo "BadStroke", .glo "BadText", .glo "BadHand", .glo "TooMuch", .cls "Sheet", .noat "Sheet" "rows", .noat "Sheet" "style", .noat "Sheet" "deeds", .mkr "Sheet", .exc "BadRow", .exc "BadCell", .exm "BadRow" "GrowError" true, .exm "BadCell" "GrowError" true, .str "TAB" "\t", .meth "Sheet" "put", .meth "Sheet" "take", .meth "Sheet" "change", .meth "Sheet" "strike", .meth "Sheet" "erase", .meth "Sheet" "part", .meth "Sheet" "unite", .meth "Sheet" "back", .meth "Sheet" "page", .meth "Sheet" "begins", .meth "Sheet" "lay"]
def tfB : List He.Defn := [("is_text_of_signs", none), ("is_row", none), ("stretches", none), ("described", none), ("stands_right", none)]
def lmL : List He.Defn := [("_law_numbers", none), ("_law_places", none), ("_law_row_full", none), ("law", none)]
def tfL : List He.Defn := tfB ++ lmL
def exL : PySem.W.Frag → Bool := fun K => (lmL.all fun r => (tfB.all fun q => decide ((He.cT K q).2 ≠ (He.cT K r).2)) && (lmL.all fun q => decide (q = r) || decide ((He.cT K q).2 ≠ (He.cT K r).2)))
def excCB (K : PySem.W.Frag) (D : Addr) : Bool :=
  He.eqO (PySem.W.findIn K (.ref D) "__getattribute__") (some (some (.builtin "BaseException.__getattribute__"))) && (He.eqO (PySem.W.findIn K (.ref D) "__getattr__") (some none) && (decide (PySem.W.subIn K (.ref D) (.type "BaseException") = some true) && (PySem.W.hasDictIn K D && (He.eqO (PySem.W.findIn K (.ref D) "__class__") (some (some (.builtin "object.__class__"))) &&
    (He.eqO (PySem.W.specialIn K (.builtin "object.__class__") "__get__") (some (some (.builtin "getset_descriptor.__get__"))) && (decide (PySem.W.takesIn K (.builtin "object.__class__") = some true) && decide (PySem.W.mroIn K D (.type "object") = some true)))))))
def errsB (K : PySem.W.Frag) : Bool := (List.range 11).all fun j => excCB K (He.ga K (nmE j)) && (decide (PySem.W.exmOne K (.ref (He.ga K (nmE j))) (.ref (He.ga K "GrowError")) = some true) && (decide (PySem.W.kitOne K (.ref (He.ga K (nmE j))) (.type "ValueError") = some true) &&
  (((List.range 11).all fun i => decide (PySem.W.kitOne K (.ref (He.ga K (nmE j))) (.ref (He.ga K (nmE i))) = some (decide (j = i)))) && (decide (flE j = "") || He.eqO (PySem.W.findIn K (.ref (He.ga K (nmE j))) (flE j)) (some none)))))
def constB (K : PySem.W.Frag) : Bool := errsB K
def exC (K : PySem.W.Frag) : Bool := exL K && constB K
end TG

namespace TG
open PySem PySem.Spec PyProof.Rows L2
abbrev hdRow : PySem.W.OpenRow := PySem.W.OpenLaw.row PySem.Challenge.rw_tabgrow_k12_sheets_refused
abbrev hdHk : PySem.W.Hook := He.hookX 4 faL fnL [] tfL exC
def hdOb (s : PySem.W.SharedT) : He.AlX := He.obsX 4 faL fnL [] tfL exC (HandSHeadRun.getT s)
theorem hdOb_eq (s : PySem.W.SharedT) : hdOb s = hdHk.obs s.abs := He.obsX_eq (HandSHeadRun.getT_eq s)
def loose0 : List Str := [PySem.Str.ofString "GrowError", PySem.Str.ofString "BadPage", PySem.Str.ofString "BadStyle", PySem.Str.ofString "BadRow", PySem.Str.ofString "BadCell", PySem.Str.ofString "BadCount", PySem.Str.ofString "BadHand", PySem.Str.ofString "TooMuch", PySem.Str.ofString "BadLines", PySem.Str.ofString "BadStep", PySem.Str.ofString "BadStroke", PySem.Str.ofString "BadText", PySem.Str.ofString "MOST_ROWS", PySem.Str.ofString "MOST_CELLS", PySem.Str.ofString "MOST_SIGNS", PySem.Str.ofString "MOST_GAP", PySem.Str.ofString "MOST_LEAST", PySem.Str.ofString "BLANK", PySem.Str.ofString "TILDE", PySem.Str.ofString "PERCENT"]
def loose1 : List Str := [PySem.Str.ofString "TAB", PySem.Str.ofString "is_whole", PySem.Str.ofString "is_sign", PySem.Str.ofString "is_text_of_signs", PySem.Str.ofString "is_filled", PySem.Str.ofString "is_row", PySem.Str.ofString "first_misfit", PySem.Str.ofString "check_page", PySem.Str.ofString "check_row", PySem.Str.ofString "check_style", PySem.Str.ofString "stretches", PySem.Str.ofString "closed_runs", PySem.Str.ofString "is_closed", PySem.Str.ofString "described", PySem.Str.ofString "stands_right", PySem.Str.ofString "is_figures", PySem.Str.ofString "laid", PySem.Str.ofString "closed_cells", PySem.Str.ofString "left_ends", PySem.Str.ofString "begins_of"]
def loose2 : List Str := [PySem.Str.ofString "Sheet", PySem.Str.ofString "check_number", PySem.Str.ofString "check_sign", PySem.Str.ofString "check_fits", PySem.Str.ofString "halves", PySem.Str.ofString "joined", PySem.Str.ofString "without_first", PySem.Str.ofString "moved", PySem.Str.ofString "_law_begun", PySem.Str.ofString "_law_take", PySem.Str.ofString "_law_alike", PySem.Str.ofString "_law_told", PySem.Str.ofString "_law_all", PySem.Str.ofString "_law_sign", PySem.Str.ofString "_law_cell", PySem.Str.ofString "_law_row", PySem.Str.ofString "_law_page", PySem.Str.ofString "_law_style", PySem.Str.ofString "_law_bad_cell", PySem.Str.ofString "_law_bad_row"]
def loose3 : List Str := [PySem.Str.ofString "_law_numbers", PySem.Str.ofString "_law_places", PySem.Str.ofString "_law_row_full"]
def looseL : List Str := loose0 ++ loose1 ++ loose2 ++ loose3
theorem hdRun (w : World) : HandSHeadRun.RunEq hdRow (PySem.W.view hdRow.prog [69]) hdHk hdOb 9000 looseL w := by
  intro os
  kernel_rfl
end TG

namespace TGK
open TG
open PySem PySem.Spec PyProof.Rows L2 Gx
/-! ### places of this text -/
abbrev s_check_number : Stmt := top 46
abbrev s_check_sign : Stmt := top 47
abbrev s_check_fits : Stmt := top 48
abbrev s_check_row : Stmt := top 30
abbrev s_halves : Stmt := top 49
abbrev s_joined : Stmt := top 50
abbrev s_without_first : Stmt := top 51
abbrev s_pmoved : Stmt := top 52
abbrev nSheet : Nat := 45
end TGK

namespace EnT
open PySem PySem.Spec PyProof.Rows L2
/-! ### enumerate over a tuple -/
theorem newClass_enum (v : Value) : Builtin.SmallTypes.newClass "enumerate" { pos := [Value.type "enumerate", v] } = pure (Value.type "enumerate", [v]) := by
  simp [Builtin.SmallTypes.newClass, show isType (Value.type "enumerate") = pure true from rfl, sub_enumerate]
theorem meets_enum1 (v : Value) (o : Obj) (H : Heap → Prop) (b : Begins v o H) : Meets (Builtin.«enumerate.__new__» { pos := [Value.type "enumerate", v] }) fun _ R s =>
    H s.heap ∧ R (Except.ok (Flow.ret (Value.ref (s.heap.push o).objs.size))) { heap := (s.heap.push o).push { cls := Value.type "enumerate", data := Data.fields #[Value.none, Value.bool false, Value.ref s.heap.objs.size, rawInt 0, Value.none, Value.none] }, gens := s.gens, drawn := s.drawn, toks := s.toks, os := s.os } := by
  intro prog w A R s ⟨h1, h2⟩
  unfold Builtin.«enumerate.__new__»
  rw [newClass_enum]
  refine wpAny_bind (wpAny_pure ?_)
  simp only [beq_self_eq_true, if_true]
  have key : ∀ s' : Shared, s' = s → wpAny (model prog w) A.in1 (do
      let __do_lift ← pyIter v
      let __do_lift ← Builtin.SmallTypes.newRecord (Value.type "enumerate") (Builtin.SmallTypes.ownedTupleFields ++ [__do_lift, rawInt 0, Value.none, Value.none])
      ret __do_lift) (fun fin s' => match fin with
          | Fin.done f => R (Except.ok f) s'
          | Fin.again c' => c'.quiet = true ∧ codeAny (model prog w) A c' R s') (fun e s' => R (Except.error e) s') s' := by
    rintro s' rfl
    refine wpAny_bind (b.iter prog w A.in1 _ s' _ h1 (wpAny_bind ?_))
    refine wpAny_newObj_type (T := "enumerate") (data := Data.fields #[Value.none, Value.bool false, Value.ref s'.heap.objs.size, rawInt 0, Value.none, Value.none]) (dict := none) ?_
    exact wpAny_pure h2
  refine wpAny_bind ?_
  unfold Builtin.SmallTypes.calledThroughType
  refine wpAny_bind (wpAny_stack fun st _ _ _ => ?_)
  refine wpAny_pure ?_
  exact iteInduction (motive := fun m => wpAny (model prog w) A.in1 m _ _ s) (fun _ => key s rfl) (fun _ => key s rfl)
theorem ao1 (obj v : Value) : argsOk "object.__init__" { pos := obj :: [v] } := by
  constructor <;> rfl
theorem call_enum1 {prog : Program} {w : World} {A : Around} {E : Value → Shared → Prop} {s : Shared} {v : Value} {o : Obj} {H : Heap → Prop} {Q : Value → Shared → Prop} (b : Begins v o H) (h : H s.heap)
    (k : ∀ h' : Heap, IsEnum h' (s.heap.objs.size + 1) s.heap.objs.size 0 Value.none → h'.get? s.heap.objs.size = some o → h'.objs.size = s.heap.objs.size + 2 → (∀ (b : Addr) (o : Obj), s.heap.get? b = some o → h'.get? b = some o) →
      Q (.ref (s.heap.objs.size + 1)) { s with heap := h' }) : wpAny (model prog w) A (call (Value.type "enumerate") [v]) Q E s := by
  have e1 : (s.heap.push o).objs.size = s.heap.objs.size + 1 := Array.size_push ..
  refine callType_new F.called_enumerate (by decide) (F.typeCall_enumerate_1 v) (F.newCall_enumerate_1 v) (fun obj => ao1 obj v) F.entry_enumerate_new (meets_enum1 v o H b) ⟨h, ?_⟩
  have n1 : ∀ (b : Addr) (u : Obj), s.heap.get? b = some u → (s.heap.push o).get? b = some u := fun b u q => Heap.get?_push_of_some _ q
  have g1 : (s.heap.push o).get? s.heap.objs.size = some o := Heap.get?_push_size _ b.free
  have g2 : ((s.heap.push o).push { cls := Value.type "enumerate", data := Data.fields #[Value.none, Value.bool false, Value.ref s.heap.objs.size, rawInt 0, Value.none, Value.none] }).get? (s.heap.push o).objs.size = some { cls := Value.type "enumerate", data := Data.fields #[Value.none, Value.bool false, Value.ref s.heap.objs.size, rawInt 0, Value.none, Value.none] } := Heap.get?_push_size _ rfl
  refine ⟨⟨_, g2, rfl⟩, ?_⟩
  rw [e1] at g2 ⊢
  exact k _ g2 (Heap.get?_push_of_some _ g1) (by show (Array.push _ _).size = _; rw [Array.size_push]; show (s.heap.objs.push o).size + 1 = _; rw [Array.size_push]) fun b u q => Heap.get?_push_of_some _ (n1 b u q)
/-- as Ite, over a tuple -/
def Itet (K : PySem.W.Frag) (a : Addr) : It where
  go := fun i H => ∃ xs x, SqT K H a xs ∧ xs[i]? = some x
  yld := fun i H v H' => ∃ (T : Addr) (x : V), v = .ref T ∧ H T = none ∧ H' = upd H T (.tup [.int (i : Nat), x]) ∧ ∀ xs : List V, SqT K H a xs → xs[i]? = some x
  stop := fun i H => ∃ xs, SqT K H a xs ∧ xs.length = i
theorem vals_get {xs : List V} {us : List Value} (h : Vals xs us) : ∀ {i : Nat} {x : V} {u : Value}, xs[i]? = some x → us.toArray[i]? = some u → RelV x u := by
  induction h with
  | nil => intro i x u e _; cases e
  | cons r _ ih =>
    intro i x u e1 e2
    cases i with
    | zero =>
      simp at e1 e2
      rw [← e1, ← e2]
      exact r
    | succ i =>
      simp at e1 e2
      exact ih e1 (by simpa using e2)
theorem turn_enumT {P : Program} {w : World} {K : PySem.W.Frag} {elts : List Expr} {kk : Nat} {tpos : Pos} (a e it : Addr) (nei : e ≠ it) (nai : a ≠ it) (nae : a ≠ e) :
    Turn P w K (.Tuple elts kk tpos) (Itet K a) [e, it] e fun i h => (∃ old, IsEnum h e it (i : Nat) old) ∧ h.IsTupleIter it a i := by
  have hni : e ∉ [it, a] := fun z => by
    simp only [List.mem_cons, List.not_mem_nil, or_false] at z
    rcases z with z | z
    · exact nei z
    · exact nae z.symm
  refine ⟨List.mem_cons_self, fun i h hh b hb => ?_, fun i h h' hh k => ?_, ?_, ?_, fun A i s Q E hh q => ?_⟩
  · obtain ⟨⟨old, h1⟩, o, h2, h3, h4⟩ := hh
    simp only [List.mem_cons, List.not_mem_nil, or_false] at hb
    rcases hb with rfl | rfl
    · exact ⟨_, h1, fun v z => by cases z⟩
    · exact ⟨o, h2, fun v z => by rw [h4] at z; cases z⟩
  · obtain ⟨⟨old, h1⟩, o, h2, h3⟩ := hh
    exact ⟨⟨old, k e (by simp) _ h1⟩, o, k it (by simp) _ h2, h3⟩
  · intro X hP hw hK hc i pins s σ H E I hfp hh hgo
    subst hP hw hK
    obtain ⟨⟨old, hE⟩, hI⟩ := hh
    obtain ⟨xs, x, hS, hx⟩ := hgo
    obtain ⟨its, hv, ht, hl⟩ := I.tuple hS
    have W := WalksT.enumerateD (Draws.tuple (prog := X.prog) (w := X.w) (A := X.A.in1) (I.ok.hd hc) it a nai its.toArray) e nei hni (by simp)
    have hlen := hv.length
    have hi : i < xs.length := (List.getElem?_eq_some_iff.mp hx).1
    refine W.item i s _ E (by simp; omega) ⟨⟨old, hE⟩, hI, ht⟩ fun T vals h' tk hPt hsz hT hMid hk => ⟨_, rfl, ?_⟩
    refine W.go elts kk tpos i T _ _ E hMid fun h'' hSt hk2 => ?_
    obtain ⟨t, u, hu, rfl⟩ := hPt
    have hTn : H T = none := I.hok.fresh hsz
    have hTw := W.apart i T h' hMid
    have hT2 : h''.IsTuple T #[.int (i : Nat) t, u] := by
      obtain ⟨o, q1, q2⟩ := hT
      exact ⟨o, hk2 T o hTw q1, q2⟩
    refine ⟨.ref T, upd H T (.tup [.int (i : Nat), x]), I.turnedNew (ch := [e, it]) (fun b o hb q => hk2 b o hb (hk b o hb q)) hfp hsz ?_, rfl, ⟨T, x, rfl, hTn, rfl, fun ys hy => ?_⟩, ⟨hSt.1, hSt.2.1⟩, fun b hb => ?_⟩
    · simp only [ObjOk]
      exact ⟨by show 2 ≤ sizeLine; decide, [_, _], .cons ⟨t, rfl⟩ (.cons (vals_get hv hx hu) .nil), hT2⟩
    · rw [I.tuple_inj hy hS]; exact hx
    · rw [upd_ne fun z : b = T => hTw (by rw [← z]; exact hb)]
      exact (hfp b hb).1
  · intro X hP hw hK hc i pins s σ H E I hfp hh hst
    subst hP hw hK
    obtain ⟨⟨old, hE⟩, hI⟩ := hh
    obtain ⟨xs, hS, rfl⟩ := hst
    obtain ⟨its, hv, ht, hl⟩ := I.tuple hS
    have W := WalksT.enumerateD (Draws.tuple (prog := X.prog) (w := X.w) (A := X.A.in1) (I.ok.hd hc) it a nai its.toArray) e nei hni (by simp)
    have hlen := hv.length
    have en : its.toArray.size = xs.length := by simp; omega
    rw [en] at W
    exact W.done s _ E ⟨⟨old, hE⟩, hI, ht⟩ fun h' tk hk => ⟨rfl, I.turnedL (ch := [e, it]) hk hfp⟩
  · obtain ⟨⟨old, hE⟩, _⟩ := hh
    exact wpAny_pyIter_enum hE q
def iEnumT (K : PySem.W.Frag) (te : TE) : TI := fun σ H R => te σ H fun v H1 => ∃ a xs, v = .ref a ∧ SqT K H1 a xs ∧ R (Itet K a) H1
theorem pi_enumT {X : Cx} {e : Expr} {te : TE} {p pos tpos : Pos} {elts : List Expr} {kk : Nat} (hg : Gl X "enumerate") (hm : X.mg "enumerate" = none) (he : PE X e te) (hs : starEach [e] X.env = [(false, eval e X.env)] := by rfl) :
    PI X (.Tuple elts kk tpos) (.Call (.Name "enumerate" p) [e] [] pos) (iEnumT X.K te) := by
  refine ⟨fun pins s σ H R I h => ?_⟩
  refine wpAny_Call_Name_kw (ld_blt I hg hm boot_enumerate ?_)
  rw [hs]
  refine callWith_type1 (thn (he.run pins s σ H _ I h) fun v s1 ⟨x, H1, I1, r, a, xs, ex, hS, hR⟩ => ?_)
  subst ex
  obtain rfl : v = .ref a := r
  obtain ⟨its, hv, ht, hl⟩ := I1.tuple hS
  refine call_enum1 (begins_tuple a its.toArray) ht fun h' hE hit hsz hk => ?_
  have ha : a < s1.heap.objs.size := by
    obtain ⟨o, q, _⟩ := ht
    exact Heap.lt_size q
  refine wpAny_pyIter_enum hE ⟨s1.heap.objs.size + 1, [s1.heap.objs.size + 1, s1.heap.objs.size], _, Itet X.K a, H1, rfl, I1.kept hk, turn_enumT a (s1.heap.objs.size + 1) s1.heap.objs.size (Nat.succ_ne_self _) (Nat.ne_of_lt ha) (Nat.ne_of_lt (Nat.lt_succ_of_lt ha)), ⟨⟨_, hE⟩, _, hit, rfl, rfl⟩, fun b hb => ?_, hR⟩
  simp only [List.mem_cons, List.not_mem_nil, or_false] at hb
  rcases hb with rfl | rfl
  · exact I1.fpOk (Nat.le_succ _) (I1.hok.fresh (Nat.le_succ _))
  · exact I1.fpOk (Nat.le_refl _) (I1.hok.fresh (Nat.le_refl _))
theorem walk_enumT {K : PySem.W.Frag} {a : Addr} {xs : List V} : Walk (Itet K a) xs.length (fun H => SqT K H a xs) (YPair (fun i => some (.int (i : Nat))) fun i => xs[i]?) := by
  refine ⟨fun i H hi h => ?_, fun H h => ⟨xs, h, rfl⟩, fun i H x H' hi h hy => ?_⟩
  · exact ⟨xs, xs[i], h, List.getElem?_eq_getElem hi⟩
  · obtain ⟨T, v, rfl, hn, rfl, hx⟩ := hy
    exact ⟨T, _, v, rfl, hn, rfl, rfl, hx xs h⟩
end EnT

namespace TGK
open TG
open PySem PySem.Spec PyProof.Rows L2 Gx EnT
/-! ### comprehensions of two for's -/
abbrev InW (J1 : It) (g1 : TG) (tt1 : TT) (te : TE) (vs1 : List Nat) (σ2 : L2.St) (D : Addr) (H4 : Hp) (Nx : Hp → Prop) : Prop := ∃ W1 : Nat → Nat → Hp → Prop, (∃ m, W1 0 m H4) ∧ ∀ (j k : Nat) (H : Hp), W1 j k H → J1.stop j H ∧ Nx H ∨ J1.go j H ∧ ∃ Nx1 : Hp → Prop, (∀ H', Nx1 H' → ∃ k', k' < k ∧ W1 (j + 1) k' H') ∧
  ∀ (x : V) (H' : Hp), J1.yld j H x H' → g1 x (wipe σ2 vs1) H' fun σ3 H5 => wipe σ3 vs1 = wipe σ2 vs1 ∧ tt1 σ3 H5 fun b H6 => if b = true then te σ3 H6 fun y H7 => ∃ acc, H7 D = some (.lst acc) ∧ acc.length < sizeLine ∧ Nx1 (upd H7 D (.lst (acc ++ [y]))) else Nx1 H6
theorem lc2_in {J1 : It} {n1 : Nat} {G1 : Hp → Prop} {Y1 : Nat → Hp → V → Hp → Prop} (w : Walk J1 n1 G1 Y1) {g1 : TG} {tt1 : TT} {te : TE} {vs1 : List Nat} {σ2 : L2.St} {D : Addr} {H4 : Hp} {Nx : Hp → Prop} (Pv : Nat → Hp → Prop) (h0 : Pv 0 H4) (hg : ∀ i H, i ≤ n1 → Pv i H → G1 H)
    (hs : ∀ (j : Nat) (x : V) (H H' : Hp), j < n1 → Pv j H → Y1 j H x H' → g1 x (wipe σ2 vs1) H' fun σ3 H5 => wipe σ3 vs1 = wipe σ2 vs1 ∧ tt1 σ3 H5 fun b H6 => if b = true then te σ3 H6 fun y H7 => ∃ acc, H7 D = some (.lst acc) ∧ acc.length < sizeLine ∧ Pv (j + 1) (upd H7 D (.lst (acc ++ [y]))) else Pv (j + 1) H6)
    (hd : ∀ H, Pv n1 H → Nx H) : InW J1 g1 tt1 te vs1 σ2 D H4 Nx := by
  refine ⟨fun j k H => j ≤ n1 ∧ k = n1 - j ∧ Pv j H, ⟨_, Nat.zero_le _, rfl, h0⟩, fun j k H ⟨h1, h2, h3⟩ => ?_⟩
  by_cases h : j = n1
  · subst h
    exact .inl ⟨w.stops H (hg _ H (Nat.le_refl _) h3), hd H h3⟩
  · have hj : j < n1 := by omega
    exact .inr ⟨w.goes j H hj (hg j H h1 h3), Pv (j + 1), fun H' q => ⟨n1 - (j + 1), by omega, hj, rfl, q⟩, fun x H' hy => hs j x H H' hj h3 (w.yields j H x H' hj (hg j H h1 h3) hy)⟩
theorem lc2_it {J : It} {n : Nat} {G : Hp → Prop} {Y : Nat → Hp → V → Hp → Prop} (w : Walk J n G Y) {wi1 : TI} {g g1 : TG} {tt tt1 : TT} {te : TE} {vs vs1 : List Nat} {σ : L2.St} {H1 : Hp} {D : Addr} {Qd : Hp → Prop} (Pv : Nat → Hp → Prop) (h0 : Pv 0 (upd H1 D (.lst []))) (hg : ∀ i H, i ≤ n → Pv i H → G H)
    (hs : ∀ (i : Nat) (x : V) (H H' : Hp), i < n → Pv i H → Y i H x H' → g x (wipe σ vs) H' fun σ2 H2 => wipe σ2 vs = wipe σ vs ∧ tt σ2 H2 fun b H3 => if b = true then wi1 σ2 H3 fun J1 H4 => InW J1 g1 tt1 te vs1 σ2 D H4 (Pv (i + 1)) else Pv (i + 1) H3)
    (hd : ∀ H, Pv n H → Qd H) :
    ∃ W : Nat → Nat → Hp → Prop, (∃ m, W 0 m (upd H1 D (.lst []))) ∧ ∀ (i m : Nat) (H : Hp), W i m H → J.stop i H ∧ Qd H ∨ J.go i H ∧ ∃ Nx : Hp → Prop, (∀ H', Nx H' → ∃ m', m' < m ∧ W (i + 1) m' H') ∧
      ∀ (x : V) (H' : Hp), J.yld i H x H' → g x (wipe σ vs) H' fun σ2 H2 => wipe σ2 vs = wipe σ vs ∧ tt σ2 H2 fun b H3 => if b = true then wi1 σ2 H3 fun J1 H4 => InW J1 g1 tt1 te vs1 σ2 D H4 Nx else Nx H3 := by
  refine ⟨fun i m H => i ≤ n ∧ m = n - i ∧ Pv i H, ⟨_, Nat.zero_le _, rfl, h0⟩, fun i m H ⟨h1, h2, h3⟩ => ?_⟩
  by_cases h : i = n
  · subst h
    exact .inl ⟨w.stops H (hg _ H (Nat.le_refl _) h3), hd H h3⟩
  · have hi : i < n := by omega
    exact .inr ⟨w.goes i H hi (hg i H h1 h3), Pv (i + 1), fun H' q => ⟨n - (i + 1), by omega, hi, rfl, q⟩, fun x H' hy => hs i x H H' hi h3 (w.yields i H x H' hi (hg i H h1 h3) hy)⟩
/-! ### a list of new tuples -/
structure TupL (H0 : Hp) (D : Addr) (l : List (List V)) (H : Hp) : Prop where
  sm : Same H0 H
  nD : H0 D = none
  ts : ∃ ts : List Addr, H D = some (.lst (ts.map V.ref)) ∧ ts.length = l.length ∧ ∀ (j : Nat) (t : Addr) (v : List V), ts[j]? = some t → l[j]? = some v → H t = some (.tup v)
theorem TupL.start {H0 : Hp} {D : Addr} (n : H0 D = none) : TupL H0 D [] (upd H0 D (.lst [])) := ⟨same_new n, n, [], upd_same, rfl, fun j t v h => by cases h⟩
theorem TupL.grow {H0 H H' : Hp} {D : Addr} {l : List (List V)} (o : TupL H0 D l H) (x : Same H H') : TupL H0 D l H' := by
  obtain ⟨ts, h1, h2, h3⟩ := o.ts
  exact ⟨fun b u e => x b u (o.sm b u e), o.nD, ts, x _ _ h1, h2, fun j t v e1 e2 => x _ _ (h3 j t v e1 e2)⟩
theorem TupL.more {H0 H : Hp} {D t : Addr} {l : List (List V)} {v : List V} (o : TupL H0 D l H) (ht : H t = some (.tup v)) : ∃ acc, H D = some (.lst acc) ∧ acc.length = l.length ∧ TupL H0 D (l ++ [v]) (upd H D (.lst (acc ++ [.ref t]))) := by
  obtain ⟨ts, h1, h2, h3⟩ := o.ts
  have tD : ∀ {t : Addr} {v : List V}, H t = some (.tup v) → t ≠ D := fun {t v} h z => by rw [z, h1] at h; cases h
  refine ⟨_, h1, by rw [List.length_map, h2], fun b u e => by rw [upd_ne (ne_of_none e o.nD)]; exact o.sm b u e, o.nD, ts ++ [t], by rw [upd_same]; simp, by rw [List.length_append, List.length_append, h2]; rfl, fun j s u e1 e2 => ?_⟩
  by_cases hj : j < ts.length
  · rw [List.getElem?_append_left hj] at e1
    rw [List.getElem?_append_left (by rw [← h2]; exact hj)] at e2
    have := h3 j s u e1 e2
    rw [upd_ne (tD this)]
    exact this
  · have hl := (List.getElem?_eq_some_iff.mp e1).1
    rw [List.length_append, List.length_singleton] at hl
    have ej : j = ts.length := by omega
    subst ej
    rw [List.getElem?_append_right (Nat.le_refl _), Nat.sub_self] at e1
    rw [h2, List.getElem?_append_right (Nat.le_refl _), Nat.sub_self] at e2
    cases e1
    cases e2
    rw [upd_ne (tD ht)]
    exact ht
/-! ### places -/
def rowSp (r : List Str) : List (Nat × Nat) := (List.range r.length).flatMap fun c => (List.range ((r.getD c nilS).length + 1)).map fun k => (c, k)
def pageSp (rows : List (List Str)) : List (Nat × Nat × Nat) := (List.range rows.length).flatMap fun i => (rowSp (rows.getD i [])).map fun p => (i, p.1, p.2)
abbrev v2 (p : Nat × Nat) : List V := [.int (p.1 : Nat), .int (p.2 : Nat)]
abbrev v3 (p : Nat × Nat × Nat) : List V := [.int (p.1 : Nat), .int (p.2.1 : Nat), .int (p.2.2 : Nat)]
def rowTo (r : List Str) (n : Nat) : List (Nat × Nat) := (List.range n).flatMap fun c => (List.range ((r.getD c nilS).length + 1)).map fun k => (c, k)
def pageTo (rows : List (List Str)) (n : Nat) : List (Nat × Nat × Nat) := (List.range n).flatMap fun i => (rowSp (rows.getD i [])).map fun p => (i, p.1, p.2)
theorem rowTo_succ (r : List Str) (n : Nat) : rowTo r (n + 1) = rowTo r n ++ (List.range ((r.getD n nilS).length + 1)).map fun k => (n, k) := by
  unfold rowTo
  rw [List.range_succ, List.flatMap_append]
  simp
theorem pageTo_succ (rows : List (List Str)) (n : Nat) : pageTo rows (n + 1) = pageTo rows n ++ (rowSp (rows.getD n [])).map fun p => (n, p.1, p.2) := by
  unfold pageTo
  rw [List.range_succ, List.flatMap_append]
  simp
theorem rowSp_len {r : List Str} (h : RowOk r) : ∀ {n : Nat}, n ≤ r.length → (rowTo r n).length ≤ 11 * n
  | 0, _ => by simp [rowTo]
  | n + 1, hn => by
    have ih := rowSp_len h (n := n) (by omega)
    have hc : n < r.length := by omega
    have := (h.cells _ (List.getElem_mem hc)).len
    have e : r.getD n nilS = r[n] := by rw [List.getD_eq_getElem?_getD, List.getElem?_eq_getElem hc]; rfl
    rw [rowTo_succ, List.length_append, List.length_map, List.length_range, e]
    omega
theorem pageSp_len {rows : List (List Str)} (h : PgOk rows) : ∀ {n : Nat}, n ≤ rows.length → (pageTo rows n).length ≤ 66 * n
  | 0, _ => by simp [pageTo]
  | n + 1, hn => by
    have ih := pageSp_len h (n := n) (by omega)
    have hc : n < rows.length := by omega
    have hr := h.rows _ (List.getElem_mem hc)
    have e : rows.getD n [] = rows[n] := by rw [List.getD_eq_getElem?_getD, List.getElem?_eq_getElem hc]; rfl
    have h1 := rowSp_len hr (Nat.le_refl _)
    have h2 := hr.len
    have h3 : rowSp rows[n] = rowTo rows[n] rows[n].length := rfl
    rw [pageTo_succ, List.length_append, List.length_map, e, h3]
    omega
theorem mem_rowSp {r : List Str} {c k : Nat} : (c, k) ∈ rowSp r ↔ c < r.length ∧ k ≤ (r.getD c nilS).length := by
  unfold rowSp
  rw [List.mem_flatMap]
  constructor
  · rintro ⟨a, h1, h2⟩
    obtain ⟨b, h3, h4⟩ := List.mem_map.mp h2
    injection h4 with h4 h5
    subst h4 h5
    rw [List.mem_range] at h1 h3
    exact ⟨h1, by omega⟩
  · rintro ⟨h1, h2⟩
    exact ⟨c, List.mem_range.mpr h1, List.mem_map.mpr ⟨k, List.mem_range.mpr (by omega), rfl⟩⟩
theorem mem_pageSp {rows : List (List Str)} {p : Nat × Nat × Nat} : p ∈ pageSp rows ↔ p.1 < rows.length ∧ (p.2.1, p.2.2) ∈ rowSp (rows.getD p.1 []) := by
  unfold pageSp
  rw [List.mem_flatMap]
  constructor
  · rintro ⟨a, h1, h2⟩
    obtain ⟨b, h3, rfl⟩ := List.mem_map.mp h2
    exact ⟨List.mem_range.mp h1, h3⟩
  · rintro ⟨h1, h2⟩
    exact ⟨p.1, List.mem_range.mpr h1, List.mem_map.mpr ⟨_, h2, rfl⟩⟩
theorem rowSp_nd (r : List Str) : (rowSp r).Nodup := by
  unfold rowSp
  refine List.pairwise_flatMap.mpr ⟨fun c _ => ?_, ?_⟩
  · rw [List.pairwise_map]
    refine List.nodup_range.imp fun h z => ?_
    injection z with _ z
    exact h z
  · refine List.nodup_range.imp fun h x hx y hy z => ?_
    obtain ⟨k, _, rfl⟩ := List.mem_map.mp hx
    obtain ⟨k', _, rfl⟩ := List.mem_map.mp hy
    injection z with z _
    exact h z
theorem pageSp_nd (rows : List (List Str)) : (pageSp rows).Nodup := by
  unfold pageSp
  refine List.pairwise_flatMap.mpr ⟨fun i _ => ?_, ?_⟩
  · rw [List.pairwise_map]
    refine (rowSp_nd _).imp fun {a b} h z => h ?_
    injection z with _ z
  · refine List.nodup_range.imp fun h x hx y hy z => ?_
    obtain ⟨k, _, rfl⟩ := List.mem_map.mp hx
    obtain ⟨k', _, rfl⟩ := List.mem_map.mp hy
    injection z with z _
    exact h z
/-- of one row's places those that are let by -/
theorem page_filter {rows : List (List Str)} {i : Nat} (hi : i < rows.length) (f : Nat × Nat → Bool) : (pageSp rows).filter (fun p => decide (p.1 = i) && f p.2) = ((rowSp (rows.getD i [])).filter f).map fun p => (i, p.1, p.2) := by
  have key : ∀ n, (pageTo rows n).filter (fun p => decide (p.1 = i) && f p.2) = if i < n then ((rowSp (rows.getD i [])).filter f).map fun p => (i, p.1, p.2) else [] := by
    intro n
    induction n with
    | zero => rfl
    | succ n ih =>
      rw [pageTo_succ, List.filter_append, ih, List.filter_map]
      by_cases h : n = i
      · subst h
        rw [if_neg (Nat.lt_irrefl _), if_pos (Nat.lt_succ_self _), List.nil_append]
        refine congrArg _ (List.filter_congr fun p _ => ?_)
        simp
      · have e : (rowSp (rows.getD n [])).filter ((fun p : Nat × Nat × Nat => decide (p.1 = i) && f p.2) ∘ fun p : Nat × Nat => (n, p.1, p.2)) = [] := by
          rw [List.filter_eq_nil_iff]
          intro p _
          simp [h]
        rw [e, List.map_nil, List.append_nil]
        by_cases h2 : i < n
        · rw [if_pos h2, if_pos (by omega)]
        · rw [if_neg h2, if_neg (by omega)]
  have := key rows.length
  rw [if_pos hi] at this
  exact this
end TGK

namespace EnT
open PySem PySem.Spec PyProof.Rows L2
/-! ### enumerate(zip(xs, ys)) over two lists -/
section
variable {prog : Program} {w : World} {A : Around} {E : Value → Shared → Prop} {s : Shared}
abbrev ZipU (h : Heap) (z TI TO : Addr) (p q : Value) : Prop := h.get? z = some { cls := .type "zip", dict := none, data := .fields #[p, q, .bool false, .ref TI, .ref TO], slots := #[] }
/-- a zip between two turns: its tuple is in, or out (and perhaps let go) -/
def ZipAt (h : Heap) (z TI TO i1 i2 l1 l2 : Addr) (i : Nat) : Prop := (ZipU h z TI TO .none (.bool false) ∨ ∃ (T : Addr) (f : Bool), ZipU h z TI TO (rawInt T) (.bool f)) ∧ IsPair h TI (.ref i1) (.ref i2) ∧ (∃ x y, IsPair h TO x y) ∧ h.IsListIter i1 l1 i ∧ h.IsListIter i2 l2 i
theorem tuple_gone {z TI TO T : Addr} {f : Bool} {R : Bool → Shared → Prop} (zz : ZipU s.heap z TI TO (rawInt T) (.bool f)) (no : s.heap.get? T = none) (k : R true s) : wpAny (model prog w) A (Builtin.SmallTypes.ownedTupleIsFree (.ref z)) R E s := by
  unfold Builtin.SmallTypes.ownedTupleIsFree
  refine wpAny_bind (wpAny_field zz rfl (x := rawInt T) rfl ?_)
  show wpAny _ _ (loadIfAlive ((T : Int).toNat) >>= _) _ _ s
  rw [Int.toNat_natCast]
  have gone : ∀ {R' : Option Obj → Shared → Prop}, R' none s → wpAny (model prog w) A (loadIfAlive T) R' E s := fun {R'} q => by
    have q' : R' (s.heap.get? T) s := by rw [no]; exact q
    exact fun _ _ _ => q'
  refine wpAny_bind (gone ?_)
  simp only [Option.isNone_none, if_true]
  exact wpAny_pure k
theorem zip_item_any {z TI TO i1 i2 l1 l2 : Addr} {k1 k2 : Nat} {xs ys : Array Value} {x y a b p q : Value} {Q : Value → Shared → Prop} (D : ZipApart z TI TO i1 i2 l1 l2)
    (zz : ZipU s.heap z TI TO p q) (fr : ∀ R : Bool → Shared → Prop, R true s → wpAny (model prog w) A (Builtin.SmallTypes.ownedTupleIsFree (.ref z)) R E s) (pI : IsPair s.heap TI (.ref i1) (.ref i2)) (pO : IsPair s.heap TO a b)
    (t1 : s.heap.IsListIter i1 l1 k1) (t2 : s.heap.IsListIter i2 l2 k2) (m1 : s.heap.IsList l1 xs) (m2 : s.heap.IsList l2 ys) (gx : xs[k1]? = some x) (gy : ys[k2]? = some y)
    (hQ : ∀ h', IsZip h' z TI TO (rawInt s.heap.objs.size) → IsPair h' TO x y → h'.IsListIter i1 l1 (k1 + 1) → h'.IsListIter i2 l2 (k2 + 1) → IsPair h' s.heap.objs.size x y → h'.objs.size = s.heap.objs.size + 1 →
      (∀ c o, c ≠ z → c ≠ TO → c ≠ i1 → c ≠ i2 → s.heap.get? c = some o → h'.get? c = some o) → Q (.ref s.heap.objs.size) { s with heap := h' }) :
    wpAny (model prog w) A (Builtin.«zip.__next__» ⟨[.ref z], []⟩) (fun fin s' => ∃ v, fin = .done (.ret v) ∧ Q v s') E s := by
  show wpAny _ _ (field (.ref z) 2 >>= _) _ _ s
  refine wpAny_bind (wpAny_field zz rfl (x := .bool false) rfl ?_)
  show wpAny _ _ (field (.ref z) 3 >>= _) _ _ s
  refine wpAny_bind (wpAny_field zz rfl (x := .ref TI) rfl ?_)
  refine wpAny_bind (wpAny_seqItems pI rfl ?_)
  show wpAny _ _ (Builtin.SmallTypes.ownedTupleIsFree (.ref z) >>= _) _ _ s
  refine wpAny_bind (fr _ ?_)
  simp only [if_true]
  refine wpAny_bind (wpAny_rule (wpAny_bind (wpAny_field zz rfl (x := .ref TO) rfl ?_)))
  refine wpAny_bind (wpAny_setField_rec zz (by simp) fun g1 z1 s1 => ?_)
  replace z1 : ZipU g1 z TI TO .ellipsis q := z1
  refine wpAny_bind ?_
  simp only [List.zipIdx_cons, List.zipIdx_nil, List.forIn_cons, List.forIn_nil]
  refine wpAny_bind (wpAny_bind (wpAny_onRaise ?_))
  show wpAny _ _ (Builtin.SmallTypes.nextOf (.ref i1) >>= _) _ _ { s with heap := g1 }
  refine wpAny_bind (wpAny_nextOf_list_item (s := { s with heap := g1 }) (t1.extBut s1.extBut D.i1z) (m1.extBut s1.extBut D.l1z) gx fun g2 u1 s2 => wpAny_pure ?_)
  have o2 : IsPair g2 TO a b := s2.extBut _ _ D.TOi1 (s1.extBut _ _ D.TOz pO)
  refine wpAny_bind (wpAny_seqItems (s := { s with heap := g2 }) o2 rfl (wpAny_bind (wpAny_updateSeq_pair (s := { s with heap := g2 }) o2 fun g3 o3 s3 => ?_)))
  replace o3 : IsPair g3 TO x b := o3
  refine wpAny_bind (wpAny_letGo (wpAny_pure (wpAny_bind (wpAny_bind (wpAny_onRaise ?_)))))
  show wpAny _ _ (Builtin.SmallTypes.nextOf (.ref i2) >>= _) _ _ { s with heap := g3 }
  refine wpAny_bind (wpAny_nextOf_list_item (s := { s with heap := g3 }) (((t2.extBut s1.extBut D.i2z).extBut s2.extBut D.i12.symm).extBut s3.extBut D.TOi2.symm) (((m2.extBut s1.extBut D.l2z).extBut s2.extBut D.l2i1).extBut s3.extBut D.l2TO) gy fun g4 u2 s4 => wpAny_pure ?_)
  have o4 : IsPair g4 TO x b := s4.extBut _ _ D.TOi2 o3
  refine wpAny_bind (wpAny_seqItems (s := { s with heap := g4 }) o4 rfl (wpAny_bind (wpAny_updateSeq_pair (s := { s with heap := g4 }) o4 fun g5 o5 s5 => ?_)))
  replace o5 : IsPair g5 TO x y := o5
  refine wpAny_bind (wpAny_letGo (wpAny_pure (wpAny_pure (wpAny_bind (wpAny_seqItems (s := { s with heap := g5 }) o5 rfl (wpAny_bind (wpAny_newTuple ?_)))))))
  have z5 : ZipU g5 z TI TO .ellipsis q := s5.extBut _ _ D.TOz.symm (s4.extBut _ _ D.i2z.symm (s3.extBut _ _ D.TOz.symm (s2.extBut _ _ D.i1z.symm z1)))
  have sz5 : g5.objs.size = s.heap.objs.size := by rw [s5.1, s4.1, s3.1, s2.1, s1.1]
  have up5 : ∀ c o, c ≠ z → c ≠ TO → c ≠ i1 → c ≠ i2 → s.heap.get? c = some o → g5.get? c = some o := fun c o c1 c2 c3 c4 e => s5.extBut _ _ c2 (s4.extBut _ _ c4 (s3.extBut _ _ c2 (s2.extBut _ _ c3 (s1.extBut _ _ c1 e))))
  have v1 : g5.IsListIter i1 l1 (k1 + 1) := ((u1.extBut s3.extBut D.TOi1.symm).extBut s4.extBut D.i12).extBut s5.extBut D.TOi1.symm
  have v2 : g5.IsListIter i2 l2 (k2 + 1) := u2.extBut s5.extBut D.TOi2.symm
  have ltz : z < g5.objs.size := Heap.lt_size z5
  show wpAny _ _ (Builtin.SmallTypes.ownedTupleHandOut (.ref z) (.ref g5.objs.size) >>= _) _ _ { s with heap := g5.push { cls := .type "tuple", data := .seq #[x, y] } }
  refine wpAny_bind ?_
  unfold Builtin.SmallTypes.ownedTupleHandOut
  have z6 : ZipU (g5.push { cls := .type "tuple", data := .seq #[x, y] }) z TI TO .ellipsis q := Heap.get?_push_of_some _ z5
  refine wpAny_bind (wpAny_setField_rec (s := { s with heap := g5.push { cls := .type "tuple", data := .seq #[x, y] } }) z6 (by simp) fun g7 z7 s7 => ?_)
  replace z7 : ZipU g7 z TI TO (rawInt g5.objs.size) q := z7
  refine wpAny_setField_rec (s := { s with heap := g7 }) z7 (by simp) fun g8 z8 s8 => ?_
  replace z8 : IsZip g8 z TI TO (rawInt g5.objs.size) := z8
  have up8 : ∀ c o, c ≠ z → g5.get? c = some o → g8.get? c = some o := fun c o c1 e => s8.extBut _ _ c1 (s7.extBut _ _ c1 (Heap.get?_push_of_some _ e))
  have T8 : IsPair g8 g5.objs.size x y := s8.extBut _ _ (Nat.ne_of_gt ltz) (s7.extBut _ _ (Nat.ne_of_gt ltz) (Heap.get?_push_size _ rfl))
  have sz8 : g8.objs.size = g5.objs.size + 1 := by rw [s8.1, s7.1, Heap.size_push]
  rw [sz5] at z8 T8 sz8
  refine wpAny_pure ⟨_, rfl, ?_⟩
  show Q (.ref g5.objs.size) { s with heap := g8 }
  rw [sz5]
  exact hQ g8 z8 (up8 _ _ D.TOz o5) (v1.at fun o e => up8 _ o D.i1z e) (v2.at fun o e => up8 _ o D.i2z e) T8 sz8 fun c o c1 c2 c3 c4 e => up8 c o c1 (up5 c o c1 c2 c3 c4 e)
theorem zip_end_any {z TI TO i1 i2 l1 l2 : Addr} {k1 k2 : Nat} {xs ys : Array Value} {a b p q : Value} {Q : Fin → Shared → Prop} (hh : A.handled = none) (D : ZipApart z TI TO i1 i2 l1 l2)
    (zz : ZipU s.heap z TI TO p q) (fr : ∀ R : Bool → Shared → Prop, R true s → wpAny (model prog w) A (Builtin.SmallTypes.ownedTupleIsFree (.ref z)) R E s) (pI : IsPair s.heap TI (.ref i1) (.ref i2)) (pO : IsPair s.heap TO a b)
    (t1 : s.heap.IsListIter i1 l1 k1) (t2 : s.heap.IsListIter i2 l2 k2) (m1 : s.heap.IsList l1 xs) (m2 : s.heap.IsList l2 ys) (ge : xs[k1]? = none ∨ ys[k2]? = none)
    (hE : ∀ h' e, (∀ c o, c ≠ z → c ≠ TO → c ≠ i1 → c ≠ i2 → s.heap.get? c = some o → h'.get? c = some o) → (∃ o, h'.get? e = some o ∧ o.cls = .type "StopIteration") → E (.ref e) { s with heap := h' }) :
    wpAny (model prog w) A (Builtin.«zip.__next__» ⟨[.ref z], []⟩) Q E s := by
  show wpAny _ _ (field (.ref z) 2 >>= _) _ _ s
  refine wpAny_bind (wpAny_field zz rfl (x := .bool false) rfl ?_)
  show wpAny _ _ (field (.ref z) 3 >>= _) _ _ s
  refine wpAny_bind (wpAny_field zz rfl (x := .ref TI) rfl (wpAny_bind (wpAny_seqItems pI rfl ?_)))
  show wpAny _ _ (Builtin.SmallTypes.ownedTupleIsFree (.ref z) >>= _) _ _ s
  refine wpAny_bind (fr _ ?_)
  simp only [if_true]
  refine wpAny_bind (wpAny_rule (wpAny_bind (wpAny_field zz rfl (x := .ref TO) rfl (wpAny_bind (wpAny_setField_rec zz (by simp) fun g1 z1 s1 => ?_)))))
  replace z1 : ZipU g1 z TI TO .ellipsis q := z1
  refine wpAny_bind ?_
  simp only [List.zipIdx_cons, List.zipIdx_nil, List.forIn_cons, List.forIn_nil]
  refine wpAny_bind (wpAny_bind (wpAny_onRaise ?_))
  show wpAny _ _ (Builtin.SmallTypes.nextOf (.ref i1) >>= _) _ _ { s with heap := g1 }
  cases gx : xs[k1]? with
  | none =>
    refine wpAny_bind (wpAny_nextOf_list_end (s := { s with heap := g1 }) hh (t1.extBut s1.extBut D.i1z) (m1.extBut s1.extBut D.l1z) gx fun g2 er s2 he => ?_)
    obtain ⟨oe, ho, hc⟩ := he
    have z2 : ZipU g2 z TI TO .ellipsis q := s2 _ _ D.i1z.symm z1
    have ez : er ≠ z := fun x => by subst x; rw [z2] at ho; cases ho; simp at hc
    exact wpAny_setField_rec (s := { s with heap := g2 }) z2 (by simp) fun g3 _ s3 => hE g3 er (fun c o c1 _ c3 _ x => s3.extBut _ _ c1 (s2 _ _ c3 (s1.extBut _ _ c1 x))) ⟨oe, s3.extBut _ _ ez ho, hc⟩
  | some x =>
    have gy : ys[k2]? = none := by rcases ge with h | h; (rw [gx] at h; cases h); exact h
    refine wpAny_bind (wpAny_nextOf_list_item (s := { s with heap := g1 }) (t1.extBut s1.extBut D.i1z) (m1.extBut s1.extBut D.l1z) gx fun g2 u1 s2 => wpAny_pure ?_)
    have o2 : IsPair g2 TO a b := s2.extBut _ _ D.TOi1 (s1.extBut _ _ D.TOz pO)
    refine wpAny_bind (wpAny_seqItems (s := { s with heap := g2 }) o2 rfl (wpAny_bind (wpAny_updateSeq_pair (s := { s with heap := g2 }) o2 fun g3 o3 s3 => ?_)))
    refine wpAny_bind (wpAny_letGo (wpAny_pure (wpAny_bind (wpAny_bind (wpAny_onRaise ?_)))))
    show wpAny _ _ (Builtin.SmallTypes.nextOf (.ref i2) >>= _) _ _ { s with heap := g3 }
    refine wpAny_bind (wpAny_nextOf_list_end (s := { s with heap := g3 }) hh (((t2.extBut s1.extBut D.i2z).extBut s2.extBut D.i12.symm).extBut s3.extBut D.TOi2.symm) (((m2.extBut s1.extBut D.l2z).extBut s2.extBut D.l2i1).extBut s3.extBut D.l2TO) gy fun g4 er s4 he => ?_)
    obtain ⟨oe, ho, hc⟩ := he
    have z4 : ZipU g4 z TI TO .ellipsis q := s4 _ _ D.i2z.symm (s3.extBut _ _ D.TOz.symm (s2.extBut _ _ D.i1z.symm z1))
    have ez : er ≠ z := fun x => by subst x; rw [z4] at ho; cases ho; simp at hc
    exact wpAny_setField_rec (s := { s with heap := g4 }) z4 (by simp) fun g5 _ s5 => hE g5 er (fun c o c1 c2 c3 c4 x => s5.extBut _ _ c1 (s4 _ _ c4 (s3.extBut _ _ c2 (s2.extBut _ _ c3 (s1.extBut _ _ c1 x))))) ⟨oe, s5.extBut _ _ ez ho, hc⟩
/-- one pair is drawn -/
theorem zip_draw {z TI TO i1 i2 l1 l2 : Addr} {i : Nat} {xs ys : Array Value} {x y : Value} {Q : Value → Shared → Prop} (D : ZipApart z TI TO i1 i2 l1 l2) (st : ZipAt s.heap z TI TO i1 i2 l1 l2 i)
    (m1 : s.heap.IsList l1 xs) (m2 : s.heap.IsList l2 ys) (gx : xs[i]? = some x) (gy : ys[i]? = some y)
    (hQ : ∀ h', ZipAt h' z TI TO i1 i2 l1 l2 (i + 1) → IsPair h' s.heap.objs.size x y → h'.objs.size = s.heap.objs.size + 1 →
      (∀ c o, c ≠ z → c ≠ TO → c ≠ i1 → c ≠ i2 → s.heap.get? c = some o → h'.get? c = some o) → Q (.ref s.heap.objs.size) { s with heap := h' }) :
    wpAny (model prog w) A (Builtin.SmallTypes.nextOf (.ref z)) Q E s := by
  obtain ⟨hz, pI, ⟨a, b, pO⟩, t1, t2⟩ := st
  have ty : s.TypeIs (.ref z) "zip" := by
    rcases hz with h | ⟨_, _, h⟩
    · exact ⟨_, h, rfl⟩
    · exact ⟨_, h, rfl⟩
  unfold Builtin.SmallTypes.nextOf
  refine wpAny_bind (wpAny_callSpecial?_slot (name := Str.ofString "__next__") ty F.slot_zip_next (wpAny_call_entry F.slot_zip_next ty F.entry_zip_next ?_ (F.args_zip_next_1 _)))
  have keepI : ∀ {h' : Heap}, (∀ c o, c ≠ z → c ≠ TO → c ≠ i1 → c ≠ i2 → s.heap.get? c = some o → h'.get? c = some o) → IsPair h' TI (.ref i1) (.ref i2) := fun k => k _ _ D.TIz D.TITO D.TIi1 D.TIi2 pI
  rcases hz with h | ⟨T, f, h⟩
  · refine zip_item_any D h (fun R k => ?_) pI pO t1 t2 m1 m2 gx gy fun h' b1 b2 b3 b4 b5 b6 b7 => wpAny_pure (hQ h' ⟨.inr ⟨_, _, b1⟩, keepI b7, ⟨_, _, b2⟩, b3, b4⟩ b5 b6 b7)
    unfold Builtin.SmallTypes.ownedTupleIsFree
    exact wpAny_bind (wpAny_field h rfl (x := .none) rfl (wpAny_pure k))
  · cases al : s.heap.get? T with
    | none => exact zip_item_any D h (fun R k => tuple_gone h al k) pI pO t1 t2 m1 m2 gx gy fun h' b1 b2 b3 b4 b5 b6 b7 => wpAny_pure (hQ h' ⟨.inr ⟨_, _, b1⟩, keepI b7, ⟨_, _, b2⟩, b3, b4⟩ b5 b6 b7)
    | some oT => exact zip_next_item_held D h al pI t1 t2 m1 m2 gx gy fun h' b1 b3 b4 b5 b6 b7 => wpAny_pure (hQ h' ⟨.inr ⟨_, _, b1⟩, keepI fun c o c1 _ c3 c4 e => b7 c o c1 c3 c4 e, ⟨_, _, b7 _ _ D.TOz D.TOi1 D.TOi2 pO⟩, b3, b4⟩ b5 b6 fun c o c1 _ c3 c4 e => b7 c o c1 c3 c4 e)
theorem zip_over {z TI TO i1 i2 l1 l2 : Addr} {i : Nat} {xs ys : Array Value} {Q : Value → Shared → Prop} (hh : A.handled = none) (D : ZipApart z TI TO i1 i2 l1 l2) (st : ZipAt s.heap z TI TO i1 i2 l1 l2 i)
    (m1 : s.heap.IsList l1 xs) (m2 : s.heap.IsList l2 ys) (ge : xs[i]? = none ∨ ys[i]? = none)
    (hE : ∀ h' e, (∀ c o, c ≠ z → c ≠ TO → c ≠ i1 → c ≠ i2 → s.heap.get? c = some o → h'.get? c = some o) → (∃ o, h'.get? e = some o ∧ o.cls = .type "StopIteration") → E (.ref e) { s with heap := h' }) :
    wpAny (model prog w) A (Builtin.SmallTypes.nextOf (.ref z)) Q E s := by
  obtain ⟨hz, pI, ⟨a, b, pO⟩, t1, t2⟩ := st
  have ty : s.TypeIs (.ref z) "zip" := by
    rcases hz with h | ⟨_, _, h⟩
    · exact ⟨_, h, rfl⟩
    · exact ⟨_, h, rfl⟩
  unfold Builtin.SmallTypes.nextOf
  refine wpAny_bind (wpAny_callSpecial?_slot (name := Str.ofString "__next__") ty F.slot_zip_next (wpAny_call_entry F.slot_zip_next ty F.entry_zip_next ?_ (F.args_zip_next_1 _)))
  rcases hz with h | ⟨T, f, h⟩
  · refine zip_end_any hh D h (fun R k => ?_) pI pO t1 t2 m1 m2 ge hE
    unfold Builtin.SmallTypes.ownedTupleIsFree
    exact wpAny_bind (wpAny_field h rfl (x := .none) rfl (wpAny_pure k))
  · cases al : s.heap.get? T with
    | none => exact zip_end_any hh D h (fun R k => tuple_gone h al k) pI pO t1 t2 m1 m2 ge hE
    | some oT => exact zip_next_end_held hh D h al pI t1 t2 m1 m2 ge fun h' e b1 b2 => hE h' e (fun c o c1 _ c3 c4 e => b1 c o c1 c3 c4 e) b2
/-- a turn of enumerate over anything that is drawn -/
theorem enum_turn {e it : Addr} {i : Nat} {old x : Value} {G : Heap → Prop} {Q : Option Value → Shared → Prop} (he : IsEnum s.heap e it (i : Nat) old)
    (draw : ∀ (B : Around) (E' : Value → Shared → Prop) (R : Value → Shared → Prop), (∀ h1, G h1 → IsEnum h1 e it (i : Nat) old → R x { s with heap := h1 }) → wpAny (model prog w) B (Builtin.SmallTypes.nextOf (.ref it)) R E' s)
    (hQ : ∀ h1 h', G h1 → IsEnumOut h' e it ((i : Int) + 1) x h1.objs.size → h'.get? h1.objs.size = some { cls := .type "tuple", data := .seq #[.int i s.toks, x] } → h'.objs.size = h1.objs.size + 1 →
      (∀ b o, b ≠ e → h1.get? b = some o → h'.get? b = some o) → Q (some (.ref h1.objs.size)) { s with heap := h', toks := s.toks + 1 }) :
    wpAny (model prog w) A (pyNext (.ref e)) Q E s := by
  have ty : s.TypeIs (.ref e) "enumerate" := ⟨_, he, rfl⟩
  unfold pyNext
  refine wpAny_bind (wpAny_attempt (wpAny_callSpecial?_slot (name := Str.ofString "__next__") ty F.slot_enumerate_next (wpAny_call_entry F.slot_enumerate_next ty F.entry_enumerate_next ?_ (F.args_enumerate_next_1 _))))
  show wpAny _ _ (field (.ref e) 2 >>= _) _ _ s
  refine wpAny_bind (wpAny_field he rfl (x := .ref it) rfl (wpAny_bind (draw _ _ _ fun h1 hG e1 => ?_)))
  show wpAny _ _ (field (.ref e) 3 >>= _) _ _ { s with heap := h1 }
  refine wpAny_bind (wpAny_field (s := { s with heap := h1 }) e1 rfl (x := rawInt i) rfl ?_)
  show wpAny _ _ (field (.ref e) 4 >>= _) _ _ { s with heap := h1 }
  refine wpAny_bind (wpAny_field (s := { s with heap := h1 }) e1 rfl (x := .none) rfl ?_)
  show wpAny _ _ (mkInt i >>= _) _ _ { s with heap := h1 }
  refine wpAny_bind (wpAny_mkInt ?_)
  show wpAny _ _ (setField (.ref e) 3 (rawInt ((i : Int) + 1)) >>= _) _ _ { s with heap := h1, toks := s.toks + 1 }
  refine wpAny_bind (wpAny_setField_rec (s := { s with heap := h1, toks := s.toks + 1 }) e1 (by simp) fun h2 e2 s2 => ?_)
  replace e2 : IsEnum h2 e it ((i : Int) + 1) old := e2
  show wpAny _ _ (setField (.ref e) 4 .none >>= _) _ _ { s with heap := h2, toks := s.toks + 1 }
  refine wpAny_bind (wpAny_setField_rec (s := { s with heap := h2, toks := s.toks + 1 }) e2 (by simp) fun h3 e3 s3 => ?_)
  replace e3 : IsEnum h3 e it ((i : Int) + 1) old := e3
  show wpAny _ _ (newTuple [.int i s.toks, x] >>= _) _ _ { s with heap := h3, toks := s.toks + 1 }
  refine wpAny_bind (wpAny_newTuple ?_)
  have e4 : IsEnum (h3.push { cls := .type "tuple", data := .seq #[.int i s.toks, x] }) e it ((i : Int) + 1) old := Heap.get?_push_of_some _ e3
  have t4 : (h3.push { cls := .type "tuple", data := .seq #[.int i s.toks, x] }).get? h3.objs.size = some { cls := .type "tuple", data := .seq #[.int i s.toks, x] } := Heap.get?_push_size _ rfl
  have n4 : (h3.push { cls := .type "tuple", data := .seq #[.int i s.toks, x] }).objs.size = h3.objs.size + 1 := Heap.size_push ..
  have k4 : ∀ b o, b ≠ e → h1.get? b = some o → (h3.push { cls := .type "tuple", data := .seq #[.int i s.toks, x] }).get? b = some o := fun b o hb q => Heap.get?_push_of_some _ (s3.extBut b o hb (s2.extBut b o hb q))
  have z3 : h3.objs.size = h1.objs.size := by rw [s3.1, s2.1]
  rw [z3] at t4 n4
  have le : e < h1.objs.size := Heap.lt_size e1
  show wpAny _ _ (Builtin.SmallTypes.ownedTupleIsFree (.ref e) >>= _) _ _ { s with heap := h3.push { cls := .type "tuple", data := .seq #[.int i s.toks, x] }, toks := s.toks + 1 }
  rw [z3]
  generalize h3.push { cls := .type "tuple", data := .seq #[.int i s.toks, x] } = h4 at e4 t4 n4 k4 ⊢
  refine wpAny_bind ?_
  unfold Builtin.SmallTypes.ownedTupleIsFree
  refine wpAny_bind (wpAny_field (s := { s with heap := h4, toks := s.toks + 1 }) e4 rfl (x := .none) rfl (wpAny_pure ?_))
  simp only [if_true]
  refine wpAny_bind (wpAny_rule (wpAny_bind (wpAny_field (s := { s with heap := h4, toks := s.toks + 1 }) e4 rfl (x := old) rfl ?_)))
  refine wpAny_bind (wpAny_setField_rec (s := { s with heap := h4, toks := s.toks + 1 }) e4 (by simp) fun h5 e5 s5 => ?_)
  replace e5 : IsEnum h5 e it ((i : Int) + 1) x := e5
  show wpAny _ _ (Builtin.SmallTypes.ownedTupleHandOut (.ref e) (.ref h1.objs.size) >>= _) _ _ { s with heap := h5, toks := s.toks + 1 }
  refine wpAny_bind ?_
  unfold Builtin.SmallTypes.ownedTupleHandOut
  refine wpAny_bind (wpAny_setField_rec (s := { s with heap := h5, toks := s.toks + 1 }) e5 (by simp) fun h6 e6 s6 => ?_)
  replace e6 : IsEnumOut h6 e it ((i : Int) + 1) x h1.objs.size := e6
  refine wpAny_setField_rec (s := { s with heap := h6, toks := s.toks + 1 }) e6 (by simp) fun h7 e7 s7 => ?_
  replace e7 : IsEnumOut h7 e it ((i : Int) + 1) x h1.objs.size := e7
  refine wpAny_bind (wpAny_letGo (wpAny_pure ⟨_, rfl, wpAny_pure (hQ h1 h7 hG e7 ?_ ?_ ?_)⟩))
  · exact s7.extBut _ _ (Nat.ne_of_gt le) (s6.extBut _ _ (Nat.ne_of_gt le) (s5.extBut _ _ (Nat.ne_of_gt le) t4))
  · rw [s7.1, s6.1, s5.1, n4]
  · exact fun b o hb q => s7.extBut b o hb (s6.extBut b o hb (s5.extBut b o hb (k4 b o hb q)))
theorem enum_over {e it : Addr} {i : Nat} {old : Value} {G : Heap → Prop} {Q : Option Value → Shared → Prop} (he : IsEnum s.heap e it (i : Nat) old)
    (draw : ∀ (B : Around) (E' : Value → Shared → Prop) (R : Value → Shared → Prop), B.handled = A.handled → (∀ h1 er, G h1 → (∃ o, h1.get? er = some o ∧ o.cls = .type "StopIteration") → E' (.ref er) { s with heap := h1 }) → wpAny (model prog w) B (Builtin.SmallTypes.nextOf (.ref it)) R E' s)
    (hQ : ∀ h1, G h1 → Q none { s with heap := h1 }) : wpAny (model prog w) A (pyNext (.ref e)) Q E s := by
  have ty : s.TypeIs (.ref e) "enumerate" := ⟨_, he, rfl⟩
  unfold pyNext
  refine wpAny_bind (wpAny_attempt (wpAny_callSpecial?_slot (name := Str.ofString "__next__") ty F.slot_enumerate_next (wpAny_call_entry F.slot_enumerate_next ty F.entry_enumerate_next ?_ (F.args_enumerate_next_1 _))))
  show wpAny _ _ (field (.ref e) 2 >>= _) _ _ s
  refine wpAny_bind (wpAny_field he rfl (x := .ref it) rfl (wpAny_bind (draw _ _ _ rfl fun h1 er hG hx => ?_)))
  obtain ⟨o, ho, hc⟩ := hx
  exact wpAny_bind (wpAny_isInstance (T := "StopIteration") (b := true) ⟨o, ho, hc⟩ isSubtype_stop (wpAny_pure (hQ h1 hG)))
end
/-- the lists at a and b as they stand at each turn, the items in new pairs, these behind their number -/
def Itez (K : PySem.W.Frag) (a b : Addr) : It where
  go := fun i H => ∃ (xs ys : List V) (x y : V), SqL K H a xs ∧ SqL K H b ys ∧ xs[i]? = some x ∧ ys[i]? = some y
  yld := fun i H v H' => ∃ (S T : Addr) (x y : V), v = .ref T ∧ H S = none ∧ upd H S (.tup [x, y]) T = none ∧ H' = upd (upd H S (.tup [x, y])) T (.tup [.int (i : Nat), .ref S]) ∧ (∀ xs, SqL K H a xs → xs[i]? = some x) ∧ ∀ ys, SqL K H b ys → ys[i]? = some y
  stop := fun i H => ∃ xs ys : List V, SqL K H a xs ∧ SqL K H b ys ∧ (xs.length ≤ i ∨ ys.length ≤ i)
theorem turn_ez {P : Program} {w : World} {K : PySem.W.Frag} {elts : List Expr} {kk : Nat} {tpos : Pos} {a b e z TI TO i1 i2 : Addr} (D : ZipApart z TI TO i1 i2 a b) (ne : e ∉ [z, TI, TO, i1, i2]) :
    Turn P w K (.Tuple elts kk tpos) (Itez K a b) [e, z, TI, TO, i1, i2] e fun i h => (∃ old, IsEnum h e z (i : Nat) old) ∧ ZipAt h z TI TO i1 i2 a b i where
  mem := List.mem_cons_self ..
  obj := fun i h st c hc => by
    obtain ⟨⟨old, he⟩, hz, pI, ⟨x, y, pO⟩, ⟨o1, e1, _, d1⟩, ⟨o2, e2, _, d2⟩⟩ := st
    simp only [List.mem_cons, List.not_mem_nil, or_false] at hc
    rcases hc with q | q | q | q | q | q
    · rw [q]; exact ⟨_, he, fun v q => nomatch q⟩
    · rw [q]
      rcases hz with h | ⟨_, _, h⟩
      · exact ⟨_, h, fun v q => nomatch q⟩
      · exact ⟨_, h, fun v q => nomatch q⟩
    · rw [q]; exact ⟨_, pI, fun v q => nomatch q⟩
    · rw [q]; exact ⟨_, pO, fun v q => nomatch q⟩
    · rw [q]; exact ⟨o1, e1, fun v q => by rw [d1] at q; cases q⟩
    · rw [q]; exact ⟨o2, e2, fun v q => by rw [d2] at q; cases q⟩
  keep := fun i h h' st k => by
    obtain ⟨⟨old, he⟩, hz, pI, ⟨x, y, pO⟩, h1, h2⟩ := st
    refine ⟨⟨old, k e (by simp) _ he⟩, ?_, k TI (by simp) _ pI, ⟨x, y, k TO (by simp) _ pO⟩, h1.at fun o q => k i1 (by simp) o q, h2.at fun o q => k i2 (by simp) o q⟩
    rcases hz with h | ⟨T, f, h⟩
    · exact .inl (k z (by simp) _ h)
    · exact .inr ⟨T, f, k z (by simp) _ h⟩
  item := by
    intro X hP hw hK hc i pins s σ H E I hf st hg
    subst hP hw hK
    obtain ⟨⟨old, he⟩, zt⟩ := st
    obtain ⟨xs, ys, x, y, hqx, hqy, hx, hy⟩ := hg
    obtain ⟨its, rv, p, _⟩ := I.list hqx
    obtain ⟨its2, rv2, p2, _⟩ := I.list hqy
    obtain ⟨u, hu, ru⟩ := rv.get hx
    obtain ⟨u2, hu2, ru2⟩ := rv2.get hy
    have nez : e ≠ z := fun q => ne (by simp [q])
    have neO : e ≠ TO := fun q => ne (by simp [q])
    have ne1 : e ≠ i1 := fun q => ne (by simp [q])
    have ne2 : e ≠ i2 := fun q => ne (by simp [q])
    have lt : ∀ {c o}, s.heap.get? c = some o → c < s.heap.objs.size := fun q => Heap.lt_size q
    have fpl : ∀ c ∈ [e, z, TI, TO, i1, i2], c < s.heap.objs.size := fun c hcm => by
      obtain ⟨hz, pI, ⟨x, y, pO⟩, ⟨_, e1, _⟩, ⟨_, e2, _⟩⟩ := zt
      simp only [List.mem_cons, List.not_mem_nil, or_false] at hcm
      rcases hcm with q | q | q | q | q | q
      · rw [q]; exact lt he
      · rw [q]
        rcases hz with h | ⟨_, _, h⟩
        · exact lt h
        · exact lt h
      · rw [q]; exact lt pI
      · rw [q]; exact lt pO
      · rw [q]; exact lt e1
      · rw [q]; exact lt e2
    refine enum_turn (x := .ref s.heap.objs.size) (G := fun h1 => ZipAt h1 z TI TO i1 i2 a b (i + 1) ∧ IsPair h1 s.heap.objs.size u u2 ∧ h1.objs.size = s.heap.objs.size + 1 ∧ ∀ c o, c ≠ z → c ≠ TO → c ≠ i1 → c ≠ i2 → s.heap.get? c = some o → h1.get? c = some o) he
      (fun B E' R k => zip_draw D zt p.isList p2.isList (x := u) (y := u2) (by simpa using hu) (by simpa using hu2) fun h1 g1 g2 g3 g4 => k h1 ⟨g1, g2, g3, g4⟩ (g4 e _ nez neO ne1 ne2 he)) fun h1 h' hG ho hT hsz hk => ⟨_, rfl, ?_⟩
    obtain ⟨g1, g2, g3, g4⟩ := hG
    refine wpAny_letOwnedTupleGo_enum (s := { s with heap := h', toks := s.toks + 1 }) ho fun h'' he'' sb => ?_
    have kk2 : ∀ c o, c ≠ e → h1.get? c = some o → h''.get? c = some o := fun c o hne q => (sb.2 c hne).trans (hk c o hne q)
    have I1 : Inv X pins σ (upd H s.heap.objs.size (.tup [x, y])) { s with heap := h1 } :=
      I.turnedNew (t' := s.toks) (ch := [z, TO, i1, i2]) (fun c o hb q => g4 c o (fun q' => hb (by simp [q'])) (fun q' => hb (by simp [q'])) (fun q' => hb (by simp [q'])) (fun q' => hb (by simp [q'])) q) (fun c hcm => hf c (by
        simp only [List.mem_cons, List.not_mem_nil, or_false] at hcm ⊢
        rcases hcm with q | q | q | q <;> simp [q])) (Nat.le_refl _)
        ⟨by show 2 ≤ sizeLine; decide, [u, u2], .cons ru (.cons ru2 .nil), ⟨_, g2, rfl, _, rfl⟩⟩
    have nS : H s.heap.objs.size = none := I.hok.fresh (Nat.le_refl _)
    have hel : e < s.heap.objs.size := lt he
    have fe := hf e (List.mem_cons_self ..)
    have T2 : h''.get? h1.objs.size = some { cls := .type "tuple", data := .seq #[.int i s.toks, .ref s.heap.objs.size] } := (sb.2 _ (Nat.ne_of_gt (Nat.lt_of_lt_of_le hel (by rw [g3]; exact Nat.le_succ _)))).trans hT
    have I2 : Inv X pins σ (upd (upd H s.heap.objs.size (.tup [x, y])) h1.objs.size (.tup [.int (i : Nat), .ref s.heap.objs.size])) { s with heap := h'', toks := s.toks + 1 } :=
      I1.turnedNew (t' := s.toks + 1) (ch := [e]) (fun c o hb q => kk2 c o (by simpa using hb) q) (fun c hcm => by
        have hce : c = e := by simpa using hcm
        subst hce
        exact ⟨by rw [upd_ne (Nat.ne_of_lt hel)]; exact fe.1, fe.2⟩) (Nat.le_refl _)
        ⟨by show 2 ≤ sizeLine; decide, [.int i s.toks, .ref s.heap.objs.size], .cons ⟨s.toks, rfl⟩ (.cons rfl .nil), ⟨_, T2, rfl, _, rfl⟩⟩
    refine ⟨.ref h1.objs.size, _, I2, rfl, ⟨s.heap.objs.size, h1.objs.size, x, y, rfl, nS, I1.hok.fresh (Nat.le_refl _), rfl, fun l hl => by rw [I.list_inj hl hqx]; exact hx, fun l hl => by rw [I.list_inj hl hqy]; exact hy⟩, ⟨⟨_, he''⟩, ?_⟩, fun c hcm => ?_⟩
    · obtain ⟨hz, pI, ⟨x', y', pO⟩, h1', h2'⟩ := g1
      have nTI : TI ≠ e := fun q => ne (by simp [q])
      refine ⟨?_, kk2 _ _ nTI pI, ⟨x', y', kk2 _ _ neO.symm pO⟩, h1'.at fun o q => kk2 i1 o ne1.symm q, h2'.at fun o q => kk2 i2 o ne2.symm q⟩
      rcases hz with h | ⟨T, f, h⟩
      · exact .inl (kk2 z _ nez.symm h)
      · exact .inr ⟨T, f, kk2 z _ nez.symm h⟩
    · have hlt := fpl c hcm
      rw [upd_ne (Nat.ne_of_lt (Nat.lt_of_lt_of_le hlt (by rw [g3]; exact Nat.le_succ _))), upd_ne (Nat.ne_of_lt hlt)]
      exact (hf c hcm).1
  done := by
    intro X hP hw hK hc i pins s σ H E I hf st hg
    subst hP hw hK
    obtain ⟨⟨old, he⟩, zt⟩ := st
    obtain ⟨xs, ys, hqx, hqy, hend⟩ := hg
    obtain ⟨its, rv, p, _⟩ := I.list hqx
    obtain ⟨its2, rv2, p2, _⟩ := I.list hqy
    have l1 := rv.length
    have l2 := rv2.length
    have ge : its.toArray[i]? = none ∨ its2.toArray[i]? = none := by
      rcases hend with q | q
      · exact .inl (by simp; omega)
      · exact .inr (by simp; omega)
    refine enum_over (G := fun h1 => ∀ c o, c ≠ z → c ≠ TO → c ≠ i1 → c ≠ i2 → s.heap.get? c = some o → h1.get? c = some o) he (fun B E' R hB k => zip_over (hB.trans (I.ok.hd hc)) D zt p.isList p2.isList ge fun h' er g1 g2 => k h' er g1 g2) fun h1 g4 => ⟨rfl, ?_⟩
    exact I.turnedL (t' := s.toks) (ch := [z, TO, i1, i2]) (fun c o hb q => g4 c o (fun q' => hb (by simp [q'])) (fun q' => hb (by simp [q'])) (fun q' => hb (by simp [q'])) (fun q' => hb (by simp [q'])) q) (fun c hcm => hf c (by
        simp only [List.mem_cons, List.not_mem_nil, or_false] at hcm ⊢
        rcases hcm with q | q | q | q <;> simp [q]))
  self := fun A i s Q E st h => let ⟨⟨_, he⟩, _⟩ := st; wpAny_pyIter_enum he h
/-- enumerate(zip(..)) begins -/
theorem zip_iter_any {prog : Program} {w : World} {A : Around} {E : Value → Shared → Prop} {s : Shared} {z TI TO : Addr} {Q : Value → Shared → Prop} (hz : IsZip s.heap z TI TO .none) (h : Q (.ref z) s) : wpAny (model prog w) A (pyIter (.ref z)) Q E s := wpAny_pyIter_zip hz h
theorem meets_enumZ (z TI TO : Addr) : Meets (Builtin.«enumerate.__new__» { pos := [Value.type "enumerate", .ref z] }) fun _ R s =>
    IsZip s.heap z TI TO .none ∧ R (Except.ok (Flow.ret (Value.ref s.heap.objs.size))) { heap := s.heap.push { cls := Value.type "enumerate", data := Data.fields #[Value.none, Value.bool false, Value.ref z, rawInt 0, Value.none, Value.none] }, gens := s.gens, drawn := s.drawn, toks := s.toks, os := s.os } := by
  intro prog w A R s ⟨h1, h2⟩
  unfold Builtin.«enumerate.__new__»
  rw [newClass_enum]
  refine wpAny_bind (wpAny_pure ?_)
  simp only [beq_self_eq_true, if_true]
  have key : ∀ s' : Shared, s' = s → wpAny (model prog w) A.in1 (do
      let __do_lift ← pyIter (.ref z)
      let __do_lift ← Builtin.SmallTypes.newRecord (Value.type "enumerate") (Builtin.SmallTypes.ownedTupleFields ++ [__do_lift, rawInt 0, Value.none, Value.none])
      ret __do_lift) (fun fin s' => match fin with
          | Fin.done f => R (Except.ok f) s'
          | Fin.again c' => c'.quiet = true ∧ codeAny (model prog w) A c' R s') (fun e s' => R (Except.error e) s') s' := by
    rintro s' rfl
    refine wpAny_bind (zip_iter_any h1 (wpAny_bind ?_))
    refine wpAny_newObj_type (T := "enumerate") (data := Data.fields #[Value.none, Value.bool false, Value.ref z, rawInt 0, Value.none, Value.none]) (dict := none) ?_
    exact wpAny_pure h2
  refine wpAny_bind ?_
  unfold Builtin.SmallTypes.calledThroughType
  refine wpAny_bind (wpAny_stack fun st _ _ _ => ?_)
  refine wpAny_pure ?_
  exact iteInduction (motive := fun m => wpAny (model prog w) A.in1 m _ _ s) (fun _ => key s rfl) (fun _ => key s rfl)
theorem call_enumZ {prog : Program} {w : World} {A : Around} {E : Value → Shared → Prop} {s : Shared} {z TI TO : Addr} {Q : Value → Shared → Prop} (h : IsZip s.heap z TI TO .none)
    (k : ∀ h' : Heap, IsEnum h' s.heap.objs.size z 0 Value.none → (∀ (b : Addr) (o : Obj), s.heap.get? b = some o → h'.get? b = some o) → Q (.ref s.heap.objs.size) { s with heap := h' }) : wpAny (model prog w) A (call (Value.type "enumerate") [.ref z]) Q E s := by
  refine callType_new F.called_enumerate (by decide) (F.typeCall_enumerate_1 (.ref z)) (F.newCall_enumerate_1 (.ref z)) (fun obj => ao1 obj (.ref z)) F.entry_enumerate_new (meets_enumZ z TI TO) ⟨h, ?_⟩
  have g2 : (s.heap.push { cls := Value.type "enumerate", data := Data.fields #[Value.none, Value.bool false, Value.ref z, rawInt 0, Value.none, Value.none] }).get? s.heap.objs.size = some { cls := Value.type "enumerate", data := Data.fields #[Value.none, Value.bool false, Value.ref z, rawInt 0, Value.none, Value.none] } := Heap.get?_push_size _ rfl
  exact ⟨⟨_, g2, rfl⟩, k _ g2 fun b u q => Heap.get?_push_of_some _ q⟩
def iEnumZip (K : PySem.W.Frag) (ta : TA) : TI := fun σ H R => ta σ H fun vs H1 => ∃ a b xs ys, vs = [.ref a, .ref b] ∧ SqL K H1 a xs ∧ SqL K H1 b ys ∧ R (Itez K a b) H1
theorem pi_enumZip {X : Cx} {e e2 : Expr} {ta : TA} {p pos p2 pos2 tpos : Pos} {elts : List Expr} {kk : Nat} (hg : Gl X "enumerate") (hm : X.mg "enumerate" = none) (hgz : Gl X "zip") (hmz : X.mg "zip" = none) (ha : PA X [e, e2] ta)
    (ho : starEach [.Call (.Name "zip" p2) [e, e2] [] pos2] X.env = [(false, eval (.Call (.Name "zip" p2) [e, e2] [] pos2) X.env)] := by rfl)
    (hs : starEach [e, e2] X.env = (false, eval e X.env) :: starEach [e2] X.env := by rfl) (hpl : (backTo pos2 (starEach [e2] X.env)).any (·.1) = false := by rfl) :
    PI X (.Tuple elts kk tpos) (.Call (.Name "enumerate" p) [.Call (.Name "zip" p2) [e, e2] [] pos2] [] pos) (iEnumZip X.K ta) := by
  refine ⟨fun pins s σ H R I h => ?_⟩
  refine wpAny_Call_Name_kw (ld_blt I hg hm boot_enumerate ?_)
  rw [ho]
  refine callWith_type1 (Call_ (ld_blt I hgz hmz PyProof.Rows.boot_zip (PyProof.Rows.callWith_type1 (thn (ha.run pos2 pins s σ H _ I h) fun us s1 ⟨vs, H1, I1, r1, q1⟩ => ?_) hs hpl)))
  obtain ⟨a, b, xs, ys, ex, hqx, hqy, q⟩ := q1
  subst ex
  cases r1 with
  | cons r rr =>
    cases rr with
    | cons r' rr =>
      cases rr
      cases r
      cases r'
      obtain ⟨its, rv, p1, _⟩ := I1.list hqx
      obtain ⟨its2, rv2, p2, _⟩ := I1.list hqy
      have la : a < s1.heap.objs.size := p1.lt
      have lb : b < s1.heap.objs.size := p2.lt
      refine call_zip_2 p1.isList p2.isList fun h1 hz hTI hTO t1 t2 hsz hk => ?_
      refine call_enumZ (s := { s1 with heap := h1 }) hz fun h' hE hk2 => wpAny_pyIter_enum hE ?_
      have I2 : Inv X pins σ H1 { s1 with heap := h' } := I1.kept (t' := s1.toks) fun c o q => hk2 c o (hk c o q)
      have es : ({ s1 with heap := h1 } : Shared).heap.objs.size = s1.heap.objs.size + 5 := hsz
      rw [es] at hE ⊢
      refine ⟨s1.heap.objs.size + 5, [s1.heap.objs.size + 5, s1.heap.objs.size + 4, s1.heap.objs.size + 2, s1.heap.objs.size + 3, s1.heap.objs.size, s1.heap.objs.size + 1], _, _, H1, rfl, I2, turn_ez (PySem.W.ktu_apart s1.heap.objs.size a b la lb) ?_, ⟨⟨_, hE⟩, .inl (hk2 _ _ hz), hk2 _ _ hTI, ⟨_, _, hk2 _ _ hTO⟩, t1.at fun o q => hk2 _ o q, t2.at fun o q => hk2 _ o q⟩, fun c hcm => ?_, q⟩
      · have five : ∀ n : Nat, n + 5 ∉ [n + 4, n + 2, n + 3, n, n + 1] := fun n => by simp
        exact five _
      · have all : ∀ n c : Nat, c ∈ [n + 5, n + 4, n + 2, n + 3, n, n + 1] → n ≤ c := fun n c h => by
          simp only [List.mem_cons, List.not_mem_nil, or_false] at h
          omega
        have hle := all _ _ hcm
        exact I1.fpOk hle (I1.hok.fresh hle)
theorem walk_ez {K : PySem.W.Frag} {a b : Addr} {xs ys : List V} (hl : xs.length = ys.length) : Walk (Itez K a b) xs.length (fun H => SqL K H a xs ∧ SqL K H b ys) (fun i H v H' => ∃ (S T : Addr) (x y : V), v = .ref T ∧ H S = none ∧ upd H S (.tup [x, y]) T = none ∧ H' = upd (upd H S (.tup [x, y])) T (.tup [.int (i : Nat), .ref S]) ∧ xs[i]? = some x ∧ ys[i]? = some y) := by
  refine ⟨fun i H hi h => ?_, fun H h => ⟨xs, ys, h.1, h.2, .inl (Nat.le_refl _)⟩, fun i H x H' hi h hy => ?_⟩
  · have h2 : i < ys.length := by omega
    exact ⟨xs, ys, xs[i], ys[i], h.1, h.2, List.getElem?_eq_getElem hi, List.getElem?_eq_getElem h2⟩
  · obtain ⟨S, T, v, u, rfl, hn, hn2, rfl, hx, hy⟩ := hy
    exact ⟨S, T, v, u, rfl, hn, hn2, rfl, hx xs h.1, hy ys h.2⟩
end EnT

namespace EnT
open PySem PySem.Spec PyProof.Rows L2
/-! ### xs[a:c] = ys -/
def gSl (to ta tc : TE) : TG := fun v σ H Q => to σ H fun o H1 => tPart ta σ H1 fun w H2 => ∃ i, w = some i ∧ tPart tc σ H2 fun w2 H3 => ∃ j, w2 = some j ∧ ∃ (l b : Addr) (xs ys : List V),
  o = .ref l ∧ v = .ref b ∧ H3 l = some (.lst xs) ∧ H3 b = some (.lst ys) ∧ l ≠ b ∧ 0 ≤ i ∧ i ≤ j ∧ j ≤ xs.length ∧ xs.length + ys.length ≤ sizeLine ∧ Q σ (upd H3 l (.lst (xs.take i.toNat ++ ys ++ xs.drop j.toNat)))
theorem pg_slice {X : Cx} {o a c : Expr} {to ta tc : TE} {p2 pos : Pos} (ho : PE X o to) (h1 : PE X a ta) (h2 : PE X c tc)
    (ha : ∀ v, assign (.Subscript o (.Slice (some a) (some c) none p2) pos) X.env v = (do
      let ov ← holding [v] (eval o X.env)
      let iv ← holding [v, ov] (eval (.Slice (some a) (some c) none p2) X.env)
      standAt pos
      holding [v, ov, iv] (setItem ov iv v)
      release [iv, v, ov] []) := by intro _; rfl) : PG X (.Subscript o (.Slice (some a) (some c) none p2) pos) (gSl to ta tc) := by
  refine ⟨fun pins s σ H v u Q I r h => ?_⟩
  rw [ha]
  refine wpAny_bind (wpAny_holding (thn (ho.run pins s σ H _ I h) fun ov s1 ⟨x, H1, I1, r1, q1⟩ => ?_))
  refine wpAny_bind (wpAny_holding (wpAny_Slice (thn ((po_some h1).run pins s1 σ H1 _ I1 q1) fun vl s2 ⟨w, H2, I2, pl, i, ew, q2⟩ => ?_)))
  subst ew
  refine thn ((po_some h2).run pins s2 σ H2 _ I2 q2) fun vu s3 ⟨w, H3, I3, pu, j, ew, l, b, xs, ys, ex, ev, hl, hb, hne, h0, hij, hj, hz, q⟩ => ?_
  subst ew ex ev
  cases r1
  cases r
  rw [evalPart_none]
  refine wpAny_pure ?_
  have I4 : Inv X pins σ H3 { s3 with heap := s3.heap.push { cls := .type "slice", data := .fields #[vl, vu, .none] } } := I3.kept (t' := s3.toks) fun b ob q => Heap.get?_push_of_some _ q
  refine wpAny_bind (wpAny_standAt (wpAny_bind (wpAny_holding ?_)))
  have rl : RelV (.int i) vl := by cases pl with | int _ t => exact ⟨t, rfl⟩
  have ru : RelV (.int j) vu := by cases pu with | int _ t => exact ⟨t, rfl⟩
  exact set_slice I4 hl hb hne (Heap.IsSliceOf.new ..) rl ru h0 hij hj hz fun s' I5 => wpAny_release ⟨σ, _, I5, q⟩
end EnT

namespace TGK
open TG
open PySem PySem.Spec PyProof.Rows L2 Gx EnT
/-! ### texts and rows that are cut and joined -/
theorem same_rf (H : Hp) : Same H H := fun _ _ e => e
theorem same_tr {H H1 H2 : Hp} (x : Same H H1) (y : Same H1 H2) : Same H H2 := fun b u e => y b u (x b u e)
def zT (z : Str) (k : Nat) : Str := cutS z none (some (k : Int))
def zD (z : Str) (k : Nat) : Str := cutS z (some (k : Int)) none
theorem cl_zT (z : Str) (k : Nat) : cl (zT z k) = (cl z).take k := by
  obtain ⟨⟨l⟩⟩ := z
  unfold zT cutS
  simp only [cl, Str.length]
  rw [HT.sIx_none, HT.sIx_nat]
  simp
theorem cl_zD (z : Str) (k : Nat) : cl (zD z k) = (cl z).drop k := by
  obtain ⟨⟨l⟩⟩ := z
  unfold zD cutS
  simp only [cl, Str.length]
  rw [HT.sIx_none, HT.sIx_nat]
  simp only [List.size_toArray]
  rw [List.take_of_length_le (by rw [List.length_drop]; omega)]
  by_cases h : k ≤ l.length
  · rw [Nat.min_eq_left h]
  · rw [Nat.min_eq_right (by omega), List.drop_eq_nil_of_le (Nat.le_refl _), List.drop_eq_nil_of_le (by omega)]
theorem len_clz (z : Str) : z.length = (cl z).length := by
  show z.cps.size = z.cps.toList.length
  simp
theorem len_zT {z : Str} {k : Nat} : (zT z k).length = min k z.length := by rw [len_clz, cl_zT, List.length_take, ← len_clz]
theorem len_zD {z : Str} {k : Nat} : (zD z k).length = z.length - k := by rw [len_clz, cl_zD, List.length_drop, ← len_clz]
theorem len_zz (a b : Str) : (a ++ b).length = a.length + b.length := by rw [len_clz, cl_app, List.length_append, ← len_clz, ← len_clz]
/-- signs all good, at most so many -/
structure Sgs (z : Str) (m : Nat) : Prop where
  len : z.length ≤ m
  sg : ∀ c ∈ cl z, SgOk c
theorem Sgs.cell {z : Str} (h : Sgs z 10) : CellOk z := ⟨h.len, h.sg⟩
theorem _root_.TG.CellOk.sgs {z : Str} (h : CellOk z) : Sgs z 10 := ⟨h.len, h.sg⟩
theorem Sgs.tk {z : Str} {m k : Nat} (h : Sgs z m) : Sgs (zT z k) m := ⟨by rw [len_zT]; have := h.len; omega, fun c hc => h.sg c (by rw [cl_zT] at hc; exact List.mem_of_mem_take hc)⟩
theorem Sgs.dr {z : Str} {m k : Nat} (h : Sgs z m) : Sgs (zD z k) m := ⟨by rw [len_zD]; have := h.len; omega, fun c hc => h.sg c (by rw [cl_zD] at hc; exact List.mem_of_mem_drop hc)⟩
theorem Sgs.app {a b : Str} {m n : Nat} (h : Sgs a m) (h2 : Sgs b n) : Sgs (a ++ b) (m + n) := ⟨by rw [len_zz]; have := h.len; have := h2.len; omega, fun c hc => by
  rw [cl_app] at hc
  rcases List.mem_append.mp hc with q | q
  · exact h.sg c q
  · exact h2.sg c q⟩
theorem Sgs.mono {z : Str} {m n : Nat} (h : Sgs z m) (hn : m ≤ n) : Sgs z n := ⟨Nat.le_trans h.len hn, h.sg⟩
/-- a row that may be too long, its cells too -/
structure RowL (r : List Str) (n m : Nat) : Prop where
  pos : 1 ≤ r.length
  len : r.length ≤ n
  cells : ∀ z ∈ r, Sgs z m
theorem _root_.TG.RowOk.loose {r : List Str} (h : RowOk r) : RowL r 6 10 := ⟨h.pos, h.len, fun z hz => (h.cells z hz).sgs⟩
theorem RowL.mono {r : List Str} {n m n' m' : Nat} (h : RowL r n m) (h1 : n ≤ n') (h2 : m ≤ m') : RowL r n' m' := ⟨h.pos, Nat.le_trans h.len h1, fun z hz => (h.cells z hz).mono h2⟩
theorem RowL.ok {r : List Str} {n m : Nat} (h : RowL r n m) (h1 : r.length ≤ 6) (h2 : ∀ z ∈ r, z.length ≤ 10) : RowOk r := ⟨h.pos, h1, fun z hz => ⟨h2 z hz, (h.cells z hz).sg⟩⟩
def fitR (r : List Str) : Bool := decide (1 ≤ r.length ∧ r.length ≤ 6) && r.all fun z => decide (z.length ≤ 10)
theorem RowL.fit {r : List Str} {n m : Nat} (h : RowL r n m) : fitR r = true ↔ RowOk r := by
  unfold fitR
  rw [Bool.and_eq_true, decide_eq_true_iff, List.all_eq_true]
  constructor
  · rintro ⟨⟨_, h1⟩, h2⟩
    exact h.ok h1 fun z hz => of_decide_eq_true (h2 z hz)
  · intro o
    exact ⟨⟨o.pos, o.len⟩, fun z hz => decide_eq_true (o.cells z hz).len⟩
def halvA (r : List Str) (c k : Nat) : List Str := r.take c ++ [zT (r.getD c nilS) k]
def halvB (r : List Str) (c k : Nat) : List Str := zD (r.getD c nilS) k :: r.drop (c + 1)
def joinR (a b : List Str) : List Str := a.dropLast ++ (a.getLast?.getD nilS ++ b.headD nilS) :: b.tail
/-- a row without its first sign, or tab; none, where nothing is there -/
def lessR (r : List Str) : Option (List Str) := if r.headD nilS ≠ nilS then some (zD (r.headD nilS) 1 :: r.tail) else if r.length = 1 then none else some r.tail
theorem getD_mem {r : List Str} {c : Nat} (h : c < r.length) : r.getD c nilS ∈ r := by
  rw [List.getD_eq_getElem?_getD, List.getElem?_eq_getElem h]
  exact List.getElem_mem h
theorem halvA_l {r : List Str} {n m c k : Nat} (h : RowL r n m) (hc : c < r.length) : RowL (halvA r c k) n m := by
  unfold halvA
  refine ⟨by simp, ?_, fun z hz => ?_⟩
  · rw [List.length_append, List.length_take, List.length_singleton]
    have := h.len
    omega
  · rcases List.mem_append.mp hz with q | q
    · exact h.cells z (List.mem_of_mem_take q)
    · rw [List.mem_singleton.mp q]
      exact (h.cells _ (getD_mem hc)).tk
theorem halvB_l {r : List Str} {n m c k : Nat} (h : RowL r n m) (hc : c < r.length) : RowL (halvB r c k) n m := by
  unfold halvB
  refine ⟨by simp, ?_, fun z hz => ?_⟩
  · rw [List.length_cons, List.length_drop]
    have := h.len
    omega
  · rcases List.mem_cons.mp hz with q | q
    · rw [q]
      exact (h.cells _ (getD_mem hc)).dr
    · exact h.cells z (List.mem_of_mem_drop q)
theorem last_mem {a : List Str} (h : 1 ≤ a.length) : a.getLast?.getD nilS ∈ a := by
  cases e : a.getLast? with
  | none => rw [List.getLast?_eq_none_iff] at e; rw [e] at h; simp at h
  | some z => exact List.mem_of_getLast? e
theorem head_mem {a : List Str} (h : 1 ≤ a.length) : a.headD nilS ∈ a := by
  cases a with
  | nil => simp at h
  | cons z a => exact List.mem_cons_self ..
theorem joinR_l {a b : List Str} {n m n' m' : Nat} (h : RowL a n m) (h2 : RowL b n' m') : RowL (joinR a b) (n + n' - 1) (m + m') := by
  unfold joinR
  have := h.pos
  have := h2.pos
  refine ⟨by rw [List.length_append, List.length_cons]; omega, ?_, fun z hz => ?_⟩
  · rw [List.length_append, List.length_cons, List.length_dropLast, List.length_tail]
    have := h.len
    have := h2.len
    omega
  · rcases List.mem_append.mp hz with q | q
    · exact (h.cells z (List.dropLast_subset a q)).mono (Nat.le_add_right _ _)
    · rcases List.mem_cons.mp q with q | q
      · rw [q]
        exact (h.cells _ (last_mem h.pos)).app (h2.cells _ (head_mem h2.pos))
      · exact (h2.cells z (List.mem_of_mem_tail q)).mono (Nat.le_add_left _ _)
theorem lessR_l {r r' : List Str} {n m : Nat} (h : RowL r n m) (e : lessR r = some r') : RowL r' n m := by
  have hp := h.pos
  unfold lessR at e
  split at e
  · cases e
    refine ⟨by simp, by rw [List.length_cons, List.length_tail]; have := h.len; omega, fun z hz => ?_⟩
    rcases List.mem_cons.mp hz with q | q
    · rw [q]
      exact (h.cells _ (head_mem h.pos)).dr
    · exact h.cells z (List.mem_of_mem_tail q)
  · split at e
    · cases e
    · cases e
      exact ⟨by rw [List.length_tail]; omega, by rw [List.length_tail]; have := h.len; omega, fun z hz => h.cells z (List.mem_of_mem_tail hz)⟩
/-! ### tuples of texts: sums and slices -/
def cutL {α : Type} (xs : List α) (lo hi : Option Int) : List α := (xs.drop (HT.sIx xs.length 0 lo)).take (HT.sIx xs.length xs.length hi - HT.sIx xs.length 0 lo)
theorem cutV_map {α : Type} (g : α → V) (xs : List α) (lo hi : Option Int) : cutV (xs.map g) lo hi = (cutL xs lo hi).map g := by
  unfold cutV cutL
  rw [List.length_map, ← List.map_drop, ← List.map_take]
theorem cutL_to {α : Type} (xs : List α) (k : Nat) : cutL xs none (some (k : Int)) = xs.take k := by
  unfold cutL
  rw [HT.sIx_none, HT.sIx_nat, List.drop_zero, Nat.sub_zero]
  by_cases h : k ≤ xs.length
  · rw [Nat.min_eq_left h]
  · rw [Nat.min_eq_right (by omega), List.take_of_length_le (by omega), List.take_of_length_le (by omega)]
theorem cutL_from {α : Type} (xs : List α) (k : Nat) : cutL xs (some (k : Int)) none = xs.drop k := by
  unfold cutL
  rw [HT.sIx_none, HT.sIx_nat, List.take_of_length_le (by rw [List.length_drop]; omega)]
  by_cases h : k ≤ xs.length
  · rw [Nat.min_eq_left h]
  · rw [Nat.min_eq_right (by omega), List.drop_eq_nil_of_le (Nat.le_refl _), List.drop_eq_nil_of_le (by omega)]
theorem cutL_mid {α : Type} {xs : List α} {b e : Nat} (h1 : b ≤ e) (h2 : e ≤ xs.length) : cutL xs (some (b : Int)) (some (e : Int)) = (xs.drop b).take (e - b) := by
  unfold cutL
  rw [HT.sIx_nat, HT.sIx_nat, Nat.min_eq_left h2, Nat.min_eq_left (Nat.le_trans h1 h2)]
theorem cutL_last {α : Type} (xs : List α) (h : 1 ≤ xs.length) : cutL xs none (some (-1)) = xs.dropLast := by
  unfold cutL
  have e : HT.sIx xs.length xs.length (some (-1)) = xs.length - 1 := by
    unfold HT.sIx
    simp only
    rw [if_pos (by decide)]
    omega
  have e0 : HT.sIx xs.length 0 none = 0 := rfl
  rw [e0, e, List.drop_zero, Nat.sub_zero]
  exact (List.dropLast_eq_take ..).symm
section
variable {K : PySem.W.Frag} {H : Hp} {a b : Addr} {xs ys : List Str} {Q : VK}
theorem cat_rows (ha : SqT K H a (sV xs)) (hb : SqT K H b (sV ys)) (hz : xs.length + ys.length ≤ 1000) (k : ∀ (p : Addr) (H' : Hp), Same H H' → SqT K H' p (sV (xs ++ ys)) → Q (.ref p) H') : rCatA K (.ref a) (.ref b) H Q := by
  have szl : (1000 : Nat) < sizeLine := by decide
  refine ⟨a, b, _, _, rfl, rfl, ha, hb, by rw [List.length_map, List.length_map]; omega, fun e => ?_, fun _ e => ?_, fun _ _ p np => ?_⟩
  · have e' : xs = [] := List.map_eq_nil_iff.mp e
    subst e'
    exact k b H (same_rf H) hb
  · have e' : ys = [] := List.map_eq_nil_iff.mp e
    subst e'
    exact k a H (same_rf H) (by rw [List.append_nil]; exact ha)
  · refine k p _ (same_new np) (SqT.of ?_)
    rw [upd_same, ← List.map_append]
theorem sl_rows {lo hi : Option Int} (ha : SqT K H a (sV xs)) (k : ∀ (p : Addr) (H' : Hp), Same H H' → SqT K H' p (sV (cutL xs lo hi)) → Q (.ref p) H') : rSlA K (.ref a) lo hi H Q := by
  refine ⟨a, _, rfl, ha, fun e => ?_, fun _ p np => k p _ (same_new np) (SqT.of ?_)⟩
  · refine k a H (same_rf H) ?_
    have e2 := cutV_map V.str xs lo hi
    unfold cutV at e2
    rw [e.1, e.2, List.drop_zero, Nat.sub_zero, List.take_of_length_le (Nat.le_refl _)] at e2
    show SqT K H a ((cutL xs lo hi).map V.str)
    rw [← e2]
    exact ha
  · rw [upd_same, cutV_map]
theorem atZ_last (h : 1 ≤ xs.length) : atI (sV xs) (-1) = some (.str (xs.getLast?.getD nilS)) := by
  refine atm1 (n := xs.length - 1) (by rw [List.length_map]; omega) ?_
  rw [List.getElem?_map, ← List.getLast?_eq_getElem?]
  cases e : xs.getLast? with
  | none => rw [List.getLast?_eq_none_iff] at e; rw [e] at h; simp at h
  | some z => rfl
theorem atZ_head (h : 1 ≤ xs.length) : atI (sV xs) 0 = some (.str (xs.headD nilS)) := by
  cases xs with
  | nil => simp at h
  | cons z xs => exact atI_nat (j := 0) rfl
theorem atZ {c : Nat} (h : c < xs.length) : atI (sV xs) (c : Int) = some (.str (xs.getD c nilS)) := by
  refine atI_nat ?_
  rw [List.getElem?_map, List.getD_eq_getElem?_getD, List.getElem?_eq_getElem h]
  rfl
end
end TGK

namespace TGK
open TG
open PySem L2 Gx
/-! ### signs and texts, whatever is asked -/
def sgB (c : Nat) : Bool := decide (32 ≤ c) && decide (c ≤ 126) && decide (c ≠ 37)
theorem sgB_iff {c : Nat} : sgB c = true ↔ SgOk c := by
  unfold sgB SgOk
  simp only [Bool.and_eq_true, decide_eq_true_eq]
  omega
def textB (z : Str) (m : Int) : Bool := decide ((z.length : Int) ≤ m) && (cl z).all sgB
/-- what is no text -/
def NoText (K : PySem.W.Frag) (H : Hp) (v : V) : Prop := ∃ nm : String, TyX K H v (.type nm) ∧ kitB nm "str" = some false
section
variable {P : Program} {w : World} {K : PySem.W.Frag} {mg : Str → Option Value} {base : Heap} {cs : List (Addr × Addr)}
def spSg2 : Sp := fun vs H Q _ => ∃ c : Nat, vs = [.str ⟨#[c]⟩] ∧ Q (.bl (sgB c)) H
theorem ok_sg2 {f : Addr} {fd : FuncData} (T : Txt mg) (N : Consts mg) (F : Fun K "is_sign" "is_sign" s_is_sign f fd) : FnOk P w K mg base CX0 1 f fd ["sign"] spSg2 := by
  refine F.ok sc_sg (fun vs H Q E h => ?_) (fun cdv A outer s H vs Q E hr h => ?_)
  · obtain ⟨c, rfl, _⟩ := h
    rfl
  · obtain ⟨c, rfl, k⟩ := h
    obtain ⟨t1, e1⟩ := N.blank
    obtain ⟨t2, e2⟩ := N.tilde
    obtain ⟨t3, e3⟩ := N.percent
    refine ⟨_, pss_one (ps_ret (pe_and (pe_chain op_le op_le (pe_glob (v := .int 32) rfl e1 ⟨_, rfl⟩) (pe_callB call_ord (by rfl) T.ord (by decide +kernel) (pa_cons (pv 0) pa_nil)) (pe_glob (v := .int 126) rfl e2 ⟨_, rfl⟩))
      (pe_one (pe_cmpR op_ne (pe_callB call_ord (by rfl) T.ord (by decide +kernel) (pa_cons (pv 0) pa_nil)) (pe_glob (v := .int 37) rfl e3 ⟨_, rfl⟩) (nomark _))))), ?_⟩
    refine ⟨_, rfl, _, rfl, rfl, 32, (c : Int), rfl, rfl, ?_⟩
    by_cases h1 : 32 ≤ c
    · refine ⟨true, dT (show (32 : Int) ≤ c by omega), iteT ⟨(c : Int), 126, rfl, rfl, ?_⟩⟩
      by_cases h2 : c ≤ 126
      · have e4 : V.bl (decide ((c : Int) ≤ 126)) = V.bl true := dT (by omega)
        refine ⟨true, e4, iteT ⟨_, rfl, _, rfl, rfl, rfl, ?_⟩⟩
        have e5 : (!decide (V.int (c : Int) = V.int 37)) = sgB c := by
          unfold sgB
          rw [decide_eq_true h1, decide_eq_true h2]
          by_cases h3 : c = 37
          · subst h3
            rfl
          · rw [decide_eq_false (show ¬ V.int (c : Int) = V.int 37 from fun z => by injection z with z; exact h3 (by omega)), decide_eq_true (show c ≠ 37 from h3)]
            rfl
        show Q (.bl (!decide (V.int (c : Int) = V.int 37))) H
        rw [e5]
        exact k
      · have e4 : V.bl (decide ((c : Int) ≤ 126)) = V.bl false := dF (by omega)
        have e5 : sgB c = false := by
          unfold sgB
          rw [decide_eq_false h2, Bool.and_false, Bool.false_and]
        rw [e5] at k
        exact ⟨false, e4, iteF k⟩
    · have e5 : sgB c = false := by
        unfold sgB
        rw [decide_eq_false h1, Bool.false_and, Bool.false_and]
      rw [e5] at k
      refine ⟨false, dF (by omega), iteF ⟨false, ?_, iteF ?_⟩⟩
      · first | rfl | exact dF (by omega)
      · exact k
def spText2 (K : PySem.W.Frag) (cs : List (Addr × Addr)) : Sp := fun vs H Q _ => ∃ (v : V) (m : Int) (b : Bool), vs = [v, .int m] ∧ Tabs cs H ∧ ((NoText K H v ∧ b = false) ∨ ∃ z, v = .str z ∧ z.length ≤ 1000 ∧ b = textB z m) ∧ ∀ H', Ex cs H H' → Q (.bl b) H'
theorem ok_text2 {f c Pt g : Addr} {fd fdg : FuncData} (T : Txt mg) (F : Fun K "is_text_of_signs" "is_text_of_signs" s_is_text f fd) (hc : fd.code = .ref c) (TB : GxR.TabB base mg c Pt) (hm : (c, Pt) ∈ cs)
    (G : FnOk P w K mg base CX0 1 g fdg ["sign"] spSg2) (kp : PySem.W.keepIn K (.ref g) = true) (bd : Binds K fdg ["sign"] []) (mgg : mg "is_sign" = some (.ref g)) : FnOk P w K mg base CX0 5 f fd ["value", "most"] (spText2 K cs) := by
  refine fun_okT F hc sc_text (fun vs H Q E h => ?_) (fun A outer s H vs Q E hr h => ?_)
  · obtain ⟨v, m, b, rfl, _⟩ := h
    rfl
  · obtain ⟨v, m, b, rfl, hT, hv, k⟩ := h
    refine ⟨_, pss_one (ps_ret (pe_and (pe_callB call_isi (by rfl) T.isin (by decide +kernel) (pa_cons (pv 0) (pa_cons (pe_bltn (v := .ty "str") (by rfl) T.str (by decide +kernel) rfl) pa_nil)))
      (pe_and (pe_cmpR op_le (pe_callB call_len_str (by rfl) T.len PySem.boot_len (pa_cons (pv 0) pa_nil)) (pv 1) (nomark _))
        (pe_one (pe_allG (k := 1) (P := Pt) hr (by rfl) T.all TB rfl ⟨rfl, rfl, by decide +kernel, by decide +kernel, rfl, rfl⟩ (pi_str (pv 0)) (fun A' code s4 H4 fp hr' => pe_call G hr' (by rfl) mgg kp bd .nil pass0 (pa_cons (pv 0) pa_nil)) (fun _ => rfl)))))), ?_⟩
    rcases hv with ⟨⟨nm, ty, hk⟩, rfl⟩ | ⟨z, rfl, h2, rfl⟩
    · exact ⟨_, rfl, _, _, _, _, false, rfl, .ty _, ty, kit_ty hk, false, rfl, iteF (k _ (Ex.refl hT))⟩
    · refine ⟨_, rfl, _, _, _, _, true, rfl, .ty _, .base (.str z), kit_ty (by decide +kernel), true, rfl, iteT ⟨_, rfl, z, rfl, line10 h2, _, rfl, _, _, rfl, rfl, ?_⟩⟩
      by_cases h1 : (z.length : Int) ≤ m
      · have hB : textB z m = (cl z).all sgB := by
          unfold textB
          rw [decide_eq_true h1, Bool.true_and]
        refine ⟨true, dT h1, iteT ⟨_, rfl, z, rfl, hT _ hm, fun H2 hH2 => ?_⟩⟩
        have x2 := Ex.tabbed hT hm hH2
        refine all_by (w := walk_str (z := z)) (fun i => match (cl z)[i]? with | some c => sgB c | none => true) (fun _ H' => Ex cs H H') x2 (fun _ _ _ _ => trivial) (fun i v H3 H4 hi x y Z hZ => ?_) (fun H3 x hall => ?_) (fun i H3 hi hff x => ?_)
        · obtain ⟨rfl, c, hc, rfl⟩ := y
          have hc2 : (cl z)[i]? = some c := by rw [Array.getElem?_toList]; exact hc
          refine ⟨_, rfl, c, rfl, ?_⟩
          have := hZ _ x
          rw [hc2] at this
          exact this
        · have e : textB z m = true := by
            rw [hB, List.all_eq_true]
            intro c hcm
            obtain ⟨i, hi, e⟩ := List.getElem_of_mem hcm
            have q := hall i (by have := len_cl z; omega)
            rw [List.getElem?_eq_getElem hi, e] at q
            exact q
          rw [← e]
          exact k _ x
        · have e : textB z m = false := by
            rw [hB, Bool.eq_false_iff]
            intro q
            rw [List.all_eq_true] at q
            have hi2 : i < (cl z).length := by have := len_cl z; omega
            rw [List.getElem?_eq_getElem hi2] at hff
            have := q _ (List.getElem_mem hi2)
            rw [show sgB (cl z)[i] = false from hff] at this
            cases this
          rw [← e]
          exact k _ x
      · have e : textB z m = false := by
          unfold textB
          rw [decide_eq_false h1, Bool.false_and]
        rw [e] at k
        exact ⟨false, dF h1, iteF (k _ (Ex.refl hT))⟩
end
end TGK

namespace TGK
open TG
open PySem PySem.Spec PyProof.Rows L2 Gx EnT
/-! ### errors, checks, rows parted and joined -/
/-- an own class of errors that is made with a text -/
structure ErrC (K : PySem.W.Frag) (mg : Str → Option Value) (x : Str) (C G : Addr) : Prop where
  mg_ : mg x = some (.ref C)
  exc : PySem.W.excIn K C [.type "ValueError", .type "Exception", .type "BaseException", .type "object"] "ValueError.__new__" = true
  kp : PySem.W.keepIn K (.ref C) = true
  sub : PySem.W.subIn K (.ref C) (.type "BaseException") = some true
  ty : PySem.W.typeIn K (.ref C) = some (.type "type")
  up : PySem.W.exmOne K (.ref C) (.ref G) = some true
structure SErr (K : PySem.W.Frag) (mg : Str → Option Value) (R C G : Addr) : Prop where
  row : ErrC K mg "BadRow" R G
  cell : ErrC K mg "BadCell" C G
  grow : mg "GrowError" = some (.ref G)
/-- rows at addresses -/
structure RowsAt (K : PySem.W.Frag) (H : Hp) (as : List Addr) (rows : List (List Str)) : Prop where
  len : as.length = rows.length
  row : ∀ (i : Nat) (p : Addr) (r : List Str), as[i]? = some p → rows[i]? = some r → SqT K H p (sV r)
theorem _root_.TG.PageAt.rows {K : PySem.W.Frag} {H : Hp} {a : Addr} {as : List Addr} {rows : List (List Str)} (p : PageAt K H a as rows) : RowsAt K H as rows := ⟨p.len, p.row⟩
section
variable {P : Program} {w : World} {K : PySem.W.Frag} {mg : Str → Option Value} {base : Heap} {cs : List (Addr × Addr)} {R C G : Addr}
def spWholeB : Sp := fun vs H Q _ => ∃ (i lo hi : Int), vs = [.int i, .int lo, .int hi] ∧ Q (.bl (decide (lo ≤ i ∧ i ≤ hi))) H
theorem ok_wholeB {f : Addr} {fd : FuncData} (T : Txt mg) (F : Fun K "is_whole" "is_whole" s_is_whole f fd) : FnOk P w K mg base CX0 1 f fd ["value", "low", "high"] spWholeB := by
  refine F.ok sc_whole (fun vs H Q E h => ?_) (fun cdv A outer s H vs Q E hr h => ?_)
  · obtain ⟨i, lo, hi, rfl, _⟩ := h
    rfl
  · obtain ⟨i, lo, hi, rfl, k⟩ := h
    refine ⟨_, pss_one (ps_ret (pe_and (pe_callB call_isi (by rfl) T.isin (by decide +kernel) (pa_cons (pv 0) (pa_cons (pe_bltn (v := .ty "int") (by rfl) T.int (by decide +kernel) rfl) pa_nil)))
      (pe_and (pe_not (pe_callB call_isi (by rfl) T.isin (by decide +kernel) (pa_cons (pv 0) (pa_cons (pe_bltn (v := .ty "bool") (by rfl) T.bool (by decide +kernel) rfl) pa_nil)))) (pe_one (pe_chain op_le op_le (pv 1) (pv 0) (pv 2)))))), ?_⟩
    refine ⟨_, rfl, _, _, _, _, true, rfl, .ty _, .base (.int i), kit_ty (by decide +kernel), true, rfl, iteT ⟨_, rfl, _, _, _, _, false, rfl, .ty _, .base (.int i), kit_ty (by decide +kernel), false, rfl, true, rfl, iteT ⟨_, rfl, _, rfl, lo, i, rfl, rfl, ?_⟩⟩⟩
    by_cases h1 : lo ≤ i
    · refine ⟨true, dT h1, iteT ⟨_, rfl, i, hi, rfl, rfl, ?_⟩⟩
      have e : decide (lo ≤ i ∧ i ≤ hi) = decide (i ≤ hi) := by simp [h1]
      rw [e] at k
      exact k
    · have e : decide (lo ≤ i ∧ i ≤ hi) = false := decide_eq_false fun z => h1 z.1
      rw [e] at k
      exact ⟨false, dF h1, iteF k⟩
theorem sc_num : FnScope ["number", "last"] ["number", "last"] (defScope s_check_number) := ⟨rfl, rfl, rfl, by decide +kernel, rfl, by decide +kernel, by decide +kernel⟩
/-- a number that is one -/
def spNum0 : Sp := fun vs H Q _ => ∃ (n last : Int), vs = [.int n, .int last] ∧ 0 ≤ n ∧ n ≤ last ∧ Q .non H
theorem ok_num0 {f g : Addr} {fd fdg : FuncData} (F : Fun K "check_number" "check_number" s_check_number f fd)
    (W : FnOk P w K mg base CX0 1 g fdg ["value", "low", "high"] spWholeB) (kp : PySem.W.keepIn K (.ref g) = true) (bd : Binds K fdg ["value", "low", "high"] []) (mgg : mg "is_whole" = some (.ref g)) : FnOk P w K mg base CX0 2 f fd ["number", "last"] spNum0 := by
  refine F.ok sc_num (fun vs H Q E h => ?_) (fun cdv A outer s H vs Q E hr h => ?_)
  · obtain ⟨n, last, rfl, _⟩ := h
    rfl
  · obtain ⟨n, last, rfl, h1, h2, k⟩ := h
    refine ⟨_, pss_one (ps_if (pt_not (pt_val (pe_call W hr (by rfl) mgg kp bd .nil pass0 (pa_cons (pv 0) (pa_cons pe_int (pa_cons (pv 1) pa_nil)))))) (pss_one ps_never) pss_nil), ?_⟩
    refine ⟨_, rfl, _, rfl, n, 0, last, rfl, true, ?_, iteF k⟩
    rw [decide_eq_true ⟨h1, h2⟩]
/-- a number that is one, or none -/
def spNum (R : Addr) : Sp := fun vs H Q E => ∃ (n last : Int), vs = [.int n, .int last] ∧ (0 ≤ n ∧ n ≤ last → Q .non H) ∧ (¬ (0 ≤ n ∧ n ≤ last) → E (.ref R) none H)
theorem ok_num {f g : Addr} {fd fdg : FuncData} (Er : SErr K mg R C G) (F : Fun K "check_number" "check_number" s_check_number f fd)
    (W : FnOk P w K mg base CX0 1 g fdg ["value", "low", "high"] spWholeB) (kp : PySem.W.keepIn K (.ref g) = true) (bd : Binds K fdg ["value", "low", "high"] []) (mgg : mg "is_whole" = some (.ref g)) : FnOk P w K mg base (L2.CX P w) 2 f fd ["number", "last"] (spNum R) := by
  refine F.okX sc_num (fun vs H Q E h => ?_) (fun cdv A outer s H vs Q E hr h => ?_)
  · obtain ⟨n, last, rfl, _⟩ := h
    rfl
  · obtain ⟨n, last, rfl, k1, k2⟩ := h
    refine ⟨_, pss_one (ps_if (pt_not (pt_val (pe_call W hr (by rfl) mgg kp bd .nil pass0 (pa_cons (pv 0) (pa_cons pe_int (pa_cons (pv 1) pa_nil))))))
      (pss_one (ps_raise rfl (takes_of rfl rfl rfl rfl) (pmk_own PySem.F.excBase_ValueError Er.row.exc Er.row.mg_ Er.row.kp (raises_own Er.row.sub Er.row.ty) rfl))) pss_nil), ?_⟩
    refine ⟨_, rfl, _, rfl, n, 0, last, rfl, _, rfl, ?_⟩
    by_cases h : 0 ≤ n ∧ n ≤ last
    · rw [decide_eq_true h]
      exact iteF (k1 h)
    · rw [decide_eq_false h]
      exact iteT (k2 h)
theorem sc_csign : FnScope ["sign"] ["sign"] (defScope s_check_sign) := ⟨rfl, rfl, rfl, by decide +kernel, rfl, by decide +kernel, by decide +kernel⟩
abbrev tabS : Str := "\t"
def spCSign (cs : List (Addr × Addr)) : Sp := fun vs H Q _ => ∃ (z : Str), vs = [.str z] ∧ Tabs cs H ∧ (z = tabS ∨ (Sgs z 1 ∧ z ≠ nilS)) ∧ ∀ H', Ex cs H H' → Q .non H'
theorem vstr_ne {a b : Str} : (!decide (V.str a = V.str b)) = decide (a ≠ b) := by
  by_cases h : a = b
  · rw [decide_eq_true (by rw [h]), decide_eq_false (by simp [h])]
    rfl
  · rw [decide_eq_false (fun z => h (by injection z)), decide_eq_true h]
    rfl
/-- is_filled of a text that is one -/
def spFilled (cs : List (Addr × Addr)) : Sp := fun vs H Q _ => ∃ (z : Str) (m : Int), vs = [.str z, .int m] ∧ Tabs cs H ∧ (z.length : Int) ≤ m ∧ z.length ≤ 1000 ∧ (∀ c ∈ z.cps.toList, SgOk c) ∧ z ≠ nilS ∧ ∀ H', Ex cs H H' → Q (.bl true) H'
theorem sc_filled : FnScope ["value", "most"] ["value", "most"] (defScope s_filled) := ⟨rfl, rfl, rfl, by decide +kernel, rfl, by decide +kernel, by decide +kernel⟩
theorem ok_filled {f g : Addr} {fd fdg : FuncData} (F : Fun K "is_filled" "is_filled" s_filled f fd)
    (W : FnOk P w K mg base CX0 5 g fdg ["value", "most"] (spText cs)) (kp : PySem.W.keepIn K (.ref g) = true) (bd : Binds K fdg ["value", "most"] []) (mgg : mg "is_text_of_signs" = some (.ref g)) : FnOk P w K mg base CX0 6 f fd ["value", "most"] (spFilled cs) := by
  refine F.ok sc_filled (fun vs H Q E h => ?_) (fun cdv A outer s H vs Q E hr h => ?_)
  · obtain ⟨z, m, rfl, _⟩ := h
    rfl
  · obtain ⟨z, m, rfl, hT, h1, h2, h3, hn, k⟩ := h
    refine ⟨_, pss_one (ps_ret (pe_and (pe_call W hr (by rfl) mgg kp bd .nil pass0 (pa_cons (pv 0) (pa_cons (pv 1) pa_nil))) (pe_one (pe_cmpR op_ne (pv 0) pe_str (nomark _))))), ?_⟩
    refine ⟨_, rfl, _, rfl, z, m, rfl, hT, h1, h2, h3, fun H1 x1 => ⟨true, rfl, iteT ⟨_, rfl, rfl, ?_⟩⟩⟩
    rw [vstr_ne, decide_eq_true (show z ≠ ("" : Str) from hn)]
    exact k H1 x1
theorem ok_csign {f g : Addr} {fd fdg : FuncData} (eT : ∃ t, mg "TAB" = some (.str tabS t)) (F : Fun K "check_sign" "check_sign" s_check_sign f fd)
    (W : FnOk P w K mg base CX0 6 g fdg ["value", "most"] (spFilled cs)) (kp : PySem.W.keepIn K (.ref g) = true) (bd : Binds K fdg ["value", "most"] []) (mgg : mg "is_filled" = some (.ref g)) : FnOk P w K mg base CX0 7 f fd ["sign"] (spCSign cs) := by
  refine F.ok sc_csign (fun vs H Q E h => ?_) (fun cdv A outer s H vs Q E hr h => ?_)
  · obtain ⟨z, rfl, _⟩ := h
    rfl
  · obtain ⟨z, rfl, hT, hz, k⟩ := h
    obtain ⟨tt, eT⟩ := eT
    refine ⟨_, pss_one (ps_if (PW.pt (pw_and (pt_cmpR op_ne (pv 0) (pe_glob (v := .str tabS) rfl eT ⟨_, rfl⟩) (nomark _)) (pw_and1 (pt_not (pt_val (pe_call W hr (by rfl) mgg kp bd .nil pass0 (pa_cons (pv 0) (pa_cons pe_int pa_nil))))))))
      (pss_one ps_never) pss_nil), ?_⟩
    refine ⟨_, rfl, rfl, _, rfl, ?_⟩
    rw [vstr_ne]
    by_cases h : z = tabS
    · rw [decide_eq_false (by simp [h])]
      exact iteF (iteF (k H (Ex.refl hT)))
    · rw [decide_eq_true h]
      rcases hz with q | ⟨q1, q2⟩
      · exact absurd q h
      exact iteT ⟨_, rfl, z, 1, rfl, hT, by have := q1.len; omega, by have := q1.len; omega, q1.sg, q2, fun H1 x1 => ⟨true, rfl, iteF (k H1 x1)⟩⟩
/-- is_row of a row whose cells are of signs -/
def spRowB (K : PySem.W.Frag) (cs : List (Addr × Addr)) : Sp := fun vs H Q _ => ∃ (a : Addr) (r : List Str), vs = [.ref a] ∧ Tabs cs H ∧ SqT K H a (sV r) ∧ RowL r 100 100 ∧ ∀ H', Ex cs H H' → Q (.bl (fitR r)) H'
theorem sgs_textB {z : Str} {m : Nat} (h : Sgs z m) : textB z 10 = decide (z.length ≤ 10) := by
  have e : (cl z).all sgB = true := by
    rw [List.all_eq_true]
    intro c hc
    have := h.sg c hc
    unfold sgB
    obtain ⟨h1, h2, h3⟩ := this
    simp [h1, h2, h3]
  unfold textB
  rw [e, Bool.and_true]
  by_cases q : z.length ≤ 10
  · rw [decide_eq_true q, decide_eq_true (show ((z.length : Nat) : Int) ≤ 10 by omega)]
  · rw [decide_eq_false q, decide_eq_false (show ¬ ((z.length : Nat) : Int) ≤ 10 by omega)]
theorem ok_rowB {f c Pt g : Addr} {fd fdg : FuncData} (T : Txt mg) (N : Consts mg) (F : Fun K "is_row" "is_row" s_is_row f fd) (hc : fd.code = .ref c) (TB : GxR.TabB base mg c Pt) (hm : (c, Pt) ∈ cs)
    (W : FnOk P w K mg base CX0 5 g fdg ["value", "most"] (spText2 K cs)) (kp : PySem.W.keepIn K (.ref g) = true) (bd : Binds K fdg ["value", "most"] []) (mgg : mg "is_text_of_signs" = some (.ref g)) : FnOk P w K mg base CX0 9 f fd ["value"] (spRowB K cs) := by
  refine fun_okT F hc sc_row (fun vs H Q E h => ?_) (fun A outer s H vs Q E hr h => ?_)
  · obtain ⟨a, r, rfl, _⟩ := h
    rfl
  · obtain ⟨a, r, rfl, hT, hS, hL, k⟩ := h
    obtain ⟨t1, e1⟩ := N.cells
    obtain ⟨t2, e2⟩ := N.signs
    refine ⟨_, pss_cons (ps_if (PW.pt (pw_or (pt_not (pt_val (pe_callB call_isi (by rfl) T.isin (by decide +kernel) (pa_cons (pv 0) (pa_cons (pe_bltn (v := .ty "tuple") (by rfl) T.tuple (by decide +kernel) rfl) pa_nil)))))
        (pw_or1 (pt_not (pt_chain op_le op_le pe_int (pe_callB call_len_seq (by rfl) T.len PySem.boot_len (pa_cons (pv 0) pa_nil)) (pe_glob (v := .int 6) rfl e1 ⟨_, rfl⟩)))))) (pss_one (ps_ret pe_bl)) pss_nil)
      (pss_one (ps_ret (pe_allG (k := 5) (P := Pt) hr (by rfl) T.all TB rfl ⟨rfl, rfl, by decide +kernel, by decide +kernel, rfl, rfl⟩ (pi_tup (pv 0))
        (fun A' code s4 H4 fp hr' => pe_call W hr' (by rfl) mgg kp bd .nil pass0 (pa_cons (pv 0) (pa_cons (pe_glob (v := .int 10) rfl e2 ⟨_, rfl⟩) pa_nil))) (fun _ => rfl)))), ?_⟩
    have hl : (sV r).length = r.length := List.length_map ..
    have hpos := hL.pos
    refine ⟨_, rfl, _, _, _, _, true, rfl, .ty _, ty_tup hS, kit_ty (by decide +kernel), true, rfl, iteF ⟨_, rfl, a, _, rfl, .inr hS, 1, _, rfl, rfl, true, dT (by omega), iteT ⟨_, 6, rfl, rfl, ?_⟩⟩⟩
    by_cases h6 : r.length ≤ 6
    · refine ⟨true, dT (by omega), iteF ⟨_, rfl, a, rfl, ⟨_, hS⟩, hT _ hm, fun H2 hH2 => ?_⟩⟩
      have x2 := Ex.tabbed hT hm hH2
      refine all_by (w := walk_tup (a := a) (xs := sV r)) (fun i => match r[i]? with | some z => decide (z.length ≤ 10) | none => true) (fun _ H' => Ex cs H H') x2 (fun i H' _ x => x.sqT hS) (fun i v H3 H4 hi x y Z hZ => ?_) (fun H3 x hall => ?_) (fun i H3 hi hff x => ?_)
      · obtain ⟨rfl, hv⟩ := y
        obtain ⟨z, hz, rfl⟩ := get_map hv
        have hg := hL.cells z (List.mem_of_getElem? hz)
        have hg1 := hg.len
        refine ⟨_, rfl, .str z, 10, _, rfl, x.tab, .inr ⟨z, rfl, by omega, rfl⟩, fun H5 x5 => ?_⟩
        rw [sgs_textB hg]
        have := hZ _ (x.trans x5)
        rw [hz] at this
        exact this
      · have e : fitR r = true := hL.fit.mpr (hL.ok h6 fun z hz => by
          obtain ⟨i, hi, e⟩ := List.getElem_of_mem hz
          have q := hall i (by omega)
          rw [List.getElem?_eq_getElem hi, e] at q
          exact of_decide_eq_true q)
        rw [← e]
        exact k _ x
      · have e : fitR r = false := by
          rw [Bool.eq_false_iff]
          intro q
          have o := hL.fit.mp q
          have hi2 : i < r.length := by omega
          rw [List.getElem?_eq_getElem hi2] at hff
          exact absurd (o.cells _ (List.getElem_mem hi2)).len (of_decide_eq_false hff)
        rw [← e]
        exact k _ x
    · refine ⟨false, dF (by omega), iteT ?_⟩
      have e : fitR r = false := by
        rw [Bool.eq_false_iff]
        intro q
        exact h6 (hL.fit.mp q).len
      rw [← e]
      exact k _ (Ex.refl hT)
theorem sc_fits : FnScope ["many", "rows", "row"] ["many", "rows"] (defScope s_check_fits) := ⟨rfl, rfl, rfl, by decide +kernel, rfl, by decide +kernel, by decide +kernel⟩
/-- check_fits -/
def fitsR (m : Int) (new : List (List Str)) : Bool := decide (1 ≤ m ∧ m ≤ 30) && new.all fitR
/-- which class a refused change of rows raises -/
def clsF (R C : Addr) (m : Int) : Addr := if 1 ≤ m ∧ m ≤ 30 then C else R
def spFits (K : PySem.W.Frag) (cs : List (Addr × Addr)) (R C : Addr) : Sp := fun vs H Q E => ∃ (m : Int) (nl : Addr) (nas : List Addr) (new : List (List Str)), vs = [.int m, .ref nl] ∧ Tabs cs H ∧ H nl = some (.lst (nas.map V.ref)) ∧ RowsAt K H nas new ∧ (∀ r ∈ new, RowL r 100 100) ∧
  (fitsR m new = true → ∀ H', Ex cs H H' → Q .non H') ∧ (fitsR m new = false → ∀ H', Ex cs H H' → E (.ref (clsF R C m)) none H')
theorem ok_fits {f g : Addr} {fd fdg : FuncData} (N : Consts mg) (Er : SErr K mg R C G) (F : Fun K "check_fits" "check_fits" s_check_fits f fd)
    (W : FnOk P w K mg base CX0 9 g fdg ["value"] (spRowB K cs)) (kp : PySem.W.keepIn K (.ref g) = true) (bd : Binds K fdg ["value"] []) (mgg : mg "is_row" = some (.ref g)) : FnOk P w K mg base (L2.CX P w) 11 f fd ["many", "rows"] (spFits K cs R C) := by
  refine F.okX sc_fits (fun vs H Q E h => ?_) (fun cdv A outer s H vs Q E hr h => ?_)
  · obtain ⟨m, nl, nas, new, rfl, _⟩ := h
    rfl
  · obtain ⟨m, nl, nas, new, rfl, hT, hN, hA, hL, k1, k2⟩ := h
    have nd := sc_fits.nd
    obtain ⟨t1, e1⟩ := N.rows
    refine ⟨_, pss_cons (ps_if (pt_not (pt_chain op_le op_le pe_int (pv 0) (pe_glob (v := .int 30) rfl e1 ⟨_, rfl⟩)))
        (pss_one (ps_raise rfl (takes_of rfl rfl rfl rfl) (pmk_own PySem.F.excBase_ValueError Er.row.exc Er.row.mg_ Er.row.kp (raises_own Er.row.sub Er.row.ty) rfl))) pss_nil)
      (pss_one (ps_for (passes_of rfl) rfl (pi_list (pv 1)) (pg_name (i := 2) nd rfl (.inl rfl))
        (pss_one (ps_if (pt_not (pt_val (pe_call W (hr.mono (by decide)) (by rfl) mgg kp bd .nil pass0 (pa_cons (pv 2) pa_nil))))
          (pss_one (ps_raise rfl (takes_of rfl rfl rfl rfl) (pmk_own PySem.F.excBase_ValueError Er.cell.exc Er.cell.mg_ Er.cell.kp (raises_own Er.cell.sub Er.cell.ty) rfl))) pss_nil)))), ?_⟩
    have no : ¬ (1 ≤ m ∧ m ≤ 30) → E (.ref R) none H := fun h => by
      have := k2 (by unfold fitsR; rw [decide_eq_false h, Bool.false_and]) _ (Ex.refl hT)
      unfold clsF at this
      rw [if_neg h] at this
      exact this
    refine ⟨_, rfl, 1, m, rfl, rfl, ?_⟩
    by_cases h1 : 1 ≤ m
    · refine ⟨true, dT h1, iteT ⟨m, 30, rfl, rfl, ?_⟩⟩
      by_cases h2 : m ≤ 30
      · refine ⟨true, dT h2, iteF ?_⟩
        have ef : fitsR m new = new.all fitR := by unfold fitsR; rw [decide_eq_true ⟨h1, h2⟩, Bool.true_and]
        rw [ef] at k1 k2
        refine ⟨_, rfl, nl, rfl, ⟨_, SqL.of hN⟩, for_list (xs := nas.map V.ref) (fun i σ H' => Ex cs H H' ∧ (∀ j r, j < i → new[j]? = some r → fitR r = true) ∧ ∃ c, σ = [some (.int m), some (.ref nl), c]) ⟨Ex.refl hT, fun j r hj => absurd hj (Nat.not_lt_zero _), none, rfl⟩ (fun i σ H' _ x => x.1.sqL (SqL.of hN)) ?_ ?_⟩
        · rintro i x σ H3 hx ⟨x3, ha, c, rfl⟩
          obtain ⟨q, hq, rfl⟩ := get_map hx
          have hi2 : i < new.length := by have := (List.getElem?_eq_some_iff.mp hq).1; rw [hA.len] at this; exact this
          obtain ⟨r, hr2⟩ := getP (xs := new) (i := i) hi2
          refine ⟨_, rfl, q, r, rfl, x3.tab, x3.sqT (hA.row i q r hq hr2), hL r (List.mem_of_getElem? hr2), fun H4 x4 => ⟨_, rfl, ?_⟩⟩
          cases e : fitR r with
          | true =>
            refine iteF ⟨x3.trans x4, fun j r' hj e' => ?_, _, rfl⟩
            by_cases hji : j = i
            · subst hji
              rw [hr2] at e'
              cases e'
              exact e
            · exact ha j r' (by omega) e'
          | false =>
            have ec : clsF R C m = C := if_pos ⟨h1, h2⟩
            rw [ec] at k2
            refine iteT (k2 ?_ _ (x3.trans x4))
            rw [Bool.eq_false_iff]
            intro z
            rw [List.all_eq_true] at z
            rw [z r (List.mem_of_getElem? hr2)] at e
            cases e
        · rintro σ H3 ⟨x3, ha, c, rfl⟩
          refine k1 ?_ _ x3
          rw [List.all_eq_true]
          intro r hr2
          obtain ⟨i, hi, e⟩ := List.getElem_of_mem hr2
          exact ha i r (by rw [List.length_map, hA.len]; exact hi) (by rw [List.getElem?_eq_getElem hi, e])
      · exact ⟨false, dF h2, iteT (no fun z => h2 z.2)⟩
    · exact ⟨false, dF h1, iteF ⟨false, rfl, iteT (no fun z => h1 z.1)⟩⟩
end
end TGK

namespace TGK
open TG
open PySem PySem.Spec PyProof.Rows L2 Gx EnT
section
variable {P : Program} {w : World} {K : PySem.W.Frag} {mg : Str → Option Value} {base : Heap} {cs : List (Addr × Addr)} {R C G : Addr}
abbrev nmHalf : List Str := ["rows", "number", "cell", "place", "row", "text"]
theorem sc_half : FnScope nmHalf ["rows", "number", "cell", "place"] (defScope s_halves) := ⟨rfl, rfl, rfl, by decide +kernel, rfl, by decide +kernel, by decide +kernel⟩
def spHalf (K : PySem.W.Frag) : Sp := fun vs H Q _ => ∃ (rl : Addr) (as : List Addr) (rows : List (List Str)) (n c k : Nat) (r : List Str), vs = [.ref rl, .int (n : Nat), .int (c : Nat), .int (k : Nat)] ∧ PageAt K H rl as rows ∧ rows[n]? = some r ∧ RowOk r ∧ c < r.length ∧ k ≤ (r.getD c nilS).length ∧
  ∀ (t p q : Addr) (H' : Hp), Same H H' → H' t = some (.tup [.ref p, .ref q]) → SqT K H' p (sV (halvA r c k)) → SqT K H' q (sV (halvB r c k)) → Q (.ref t) H'
theorem ok_half {f g1 g2 : Addr} {fd fd1 fd2 : FuncData} (T : Txt mg) (F : Fun K "halves" "halves" s_halves f fd)
    (G1 : FnOk P w K mg base CX0 2 g1 fd1 ["number", "last"] spNum0) (k1 : PySem.W.keepIn K (.ref g1) = true) (b1 : Binds K fd1 ["number", "last"] []) (m1 : mg "check_number" = some (.ref g1))
    (G2 : FnOk P w K mg base CX0 1 g2 fd2 ["value", "low", "high"] spWhole) (k2 : PySem.W.keepIn K (.ref g2) = true) (b2 : Binds K fd2 ["value", "low", "high"] []) (m2 : mg "is_whole" = some (.ref g2)) : FnOk P w K mg base CX0 3 f fd ["rows", "number", "cell", "place"] (spHalf K) := by
  refine F.ok sc_half (fun vs H Q E h => ?_) (fun cdv A outer s H vs Q E hr h => ?_)
  · obtain ⟨rl, as, rows, n, c, k, r, rfl, _⟩ := h
    rfl
  · obtain ⟨rl, as, rows, n, c, k, r, rfl, hP, hn, hR, hc, hk, kq⟩ := h
    have nd := sc_half.nd
    have r1 : Room 1 _ := hr.mono (by decide)
    refine ⟨_, pss_cons (ps_expr (pe_call G1 hr (by rfl) m1 k1 b1 .nil pass0 (pa_cons (pv 1) (pa_cons (pe_op op_sub (pe_callB call_len_seq (by rfl) T.len PySem.boot_len (pa_cons (pv 0) pa_nil)) pe_int) pa_nil))))
      (pss_cons (ps_set (i := 4) nd rfl (.inl rfl) (pe_ix ix_list (pv 0) (pv 1) (fun _ _ => rfl)))
      (pss_cons (ps_if (pt_not (pt_val (pe_call G2 r1 (by rfl) m2 k2 b2 .nil pass0 (pa_cons (pv 2) (pa_cons pe_int (pa_cons (pe_op op_sub (pe_callB call_len_seq (by rfl) T.len PySem.boot_len (pa_cons (pv 4) pa_nil)) pe_int) pa_nil)))))) (pss_one ps_never) pss_nil)
      (pss_cons (ps_set (i := 5) nd rfl (.inl rfl) (pe_ix ix_tup (pv 4) (pv 2) (fun _ _ => rfl)))
      (pss_cons (ps_if (pt_not (pt_val (pe_call G2 r1 (by rfl) m2 k2 b2 .nil pass0 (pa_cons (pv 3) (pa_cons pe_int (pa_cons (pe_callB call_len_str (by rfl) T.len PySem.boot_len (pa_cons (pv 5) pa_nil)) pa_nil)))))) (pss_one ps_never) pss_nil)
      (pss_one (ps_ret (pe_tup (pa_cons (pe_op op_catA (pe_slice sl_tupA (pv 4) po_none (po_some (pv 2))) (pe_tup (pa_cons (pe_slice sl_str (pv 5) po_none (po_some (pv 3))) pa_nil)))
        (pa_cons (pe_op op_catA (pe_tup (pa_cons (pe_slice sl_str (pv 5) (po_some (pv 3)) po_none) pa_nil)) (pe_slice sl_tupA (pv 4) (po_some (pe_op op_add (pv 2) pe_int)) po_none)) pa_nil))))))))), ?_⟩
    have hlt : n < rows.length := (List.getElem?_eq_some_iff.mp hn).1
    have la : (as.map V.ref).length = rows.length := by rw [List.length_map, hP.len]
    have lr : (sV r).length = r.length := List.length_map ..
    have hz := hR.cells _ (getD_mem hc)
    have h6 := hR.len
    obtain ⟨q0, hq0⟩ := getP (xs := as) (i := n) (by rw [hP.len]; exact hlt)
    have hq := hP.row n q0 r hq0 hn
    have szl : (1000 : Nat) < sizeLine := by decide
    refine ⟨_, rfl, _, rfl, rl, _, rfl, .inl hP.lst, _, _, rfl, rfl, _, _, rfl, by omega, by omega, ?_⟩
    refine ⟨_, rfl, _, rfl, rl, _, _, .ref q0, rfl, rfl, hP.lst, atI_nat (by rw [List.getElem?_map, hq0]; rfl), ?_⟩
    refine ⟨_, rfl, _, rfl, q0, _, rfl, .inr hq, _, _, rfl, rfl, _, 0, _, rfl, by omega, by omega, true, rfl, iteF ?_⟩
    refine ⟨_, rfl, _, rfl, q0, _, _, _, rfl, rfl, hq, atZ hc, ?_⟩
    refine ⟨_, rfl, _, rfl, _, rfl, by have := hz.len; omega, _, 0, _, rfl, by omega, by omega, true, rfl, iteF ?_⟩
    refine ⟨_, rfl, _, rfl, _, rfl, sl_rows hq fun p1 H1 x1 hp1 => ⟨_, rfl, _, rfl, _, rfl, _, rfl, by have := hz.len; omega, by show 1 ≤ sizeLine; decide, fun p2 n2 => ?_⟩⟩
    rw [cutL_to] at hp1
    have y2 : Same H1 (upd H1 p2 (.tup [.str (zT (r.getD c nilS) k)])) := same_new n2
    refine cat_rows (xs := r.take c) (ys := [zT (r.getD c nilS) k]) (same_sqT y2 hp1) (SqT.of upd_same) (by rw [List.length_take, List.length_singleton]; omega) fun p3 H3 x3 hp3 => ?_
    refine ⟨_, rfl, _, rfl, _, rfl, _, rfl, by have := hz.len; omega, by show 1 ≤ sizeLine; decide, fun p4 n4 => ?_⟩
    have y4 : Same H3 (upd H3 p4 (.tup [.str (zD (r.getD c nilS) k)])) := same_new n4
    have x4 := same_tr (same_tr (same_tr x1 y2) x3) y4
    refine ⟨_, rfl, _, rfl, _, _, rfl, rfl, _, rfl, ?_⟩
    simp only [tNoPart]
    refine sl_rows (same_sqT x4 hq) fun p5 H5 x5 hp5 => ?_
    rw [show ((c : Nat) : Int) + 1 = ((c + 1 : Nat) : Int) by omega, cutL_from] at hp5
    refine cat_rows (xs := [zD (r.getD c nilS) k]) (ys := r.drop (c + 1)) (same_sqT x5 (SqT.of upd_same)) hp5 (by rw [List.length_drop, List.length_singleton]; omega) fun p6 H6 x6 hp6 => ?_
    refine ⟨by show 2 ≤ sizeLine; decide, fun t nt => ?_⟩
    have y7 : Same H6 (upd H6 t (.tup [.ref p3, .ref p6])) := same_new nt
    exact kq t p3 p6 _ (same_tr (same_tr (same_tr x4 x5) x6) y7) upd_same (same_sqT (same_tr (same_tr (same_tr y4 x5) x6) y7) hp3) (same_sqT y7 hp6)
theorem sc_join : FnScope ["ahead", "behind"] ["ahead", "behind"] (defScope s_joined) := ⟨rfl, rfl, rfl, by decide +kernel, rfl, by decide +kernel, by decide +kernel⟩
def spJoin (K : PySem.W.Frag) : Sp := fun vs H Q _ => ∃ (a b : Addr) (xs ys : List Str), vs = [.ref a, .ref b] ∧ SqT K H a (sV xs) ∧ SqT K H b (sV ys) ∧ RowL xs 100 100 ∧ RowL ys 100 100 ∧ ∀ (p : Addr) (H' : Hp), Same H H' → SqT K H' p (sV (joinR xs ys)) → Q (.ref p) H'
theorem ok_join {f : Addr} {fd : FuncData} (F : Fun K "joined" "joined" s_joined f fd) : FnOk P w K mg base CX0 1 f fd ["ahead", "behind"] (spJoin K) := by
  refine F.ok sc_join (fun vs H Q E h => ?_) (fun cdv A outer s H vs Q E hr h => ?_)
  · obtain ⟨a, b, xs, ys, rfl, _⟩ := h
    rfl
  · obtain ⟨a, b, xs, ys, rfl, ha, hb, hx, hy, kq⟩ := h
    refine ⟨_, pss_one (ps_ret (pe_op op_catA (pe_op op_catA (pe_slice sl_tupA (pv 0) po_none (po_some (pe_un un_neg pe_int))) (pe_tup (pa_cons (pe_op op_add_str (pe_ix ix_tup (pv 0) (pe_un un_neg pe_int) (fun _ _ => rfl)) (pe_ix ix_tup (pv 1) pe_int (fun _ _ => rfl))) pa_nil)))
      (pe_slice sl_tupA (pv 1) (po_some pe_int) po_none))), ?_⟩
    have szl : (1000 : Nat) < sizeLine := by decide
    have l1 := hx.len
    have l2 := hy.len
    have c1 := (hx.cells _ (last_mem hx.pos)).len
    have c2 := (hy.cells _ (head_mem hy.pos)).len
    refine ⟨_, rfl, 1, rfl, -1, rfl, sl_rows ha fun p1 H1 x1 hp1 => ?_⟩
    rw [cutL_last _ hx.pos] at hp1
    refine ⟨_, rfl, 1, rfl, a, _, _, _, rfl, rfl, same_sqT x1 ha, atZ_last hx.pos, _, rfl, b, _, _, _, rfl, rfl, same_sqT x1 hb, atZ_head hy.pos, _, _, rfl, rfl, by omega, by show 1 ≤ sizeLine; decide, fun p2 n2 => ?_⟩
    have y2 : Same H1 (upd H1 p2 (.tup [.str (xs.getLast?.getD nilS ++ ys.headD nilS)])) := same_new n2
    refine cat_rows (xs := xs.dropLast) (ys := [xs.getLast?.getD nilS ++ ys.headD nilS]) (same_sqT y2 hp1) (SqT.of upd_same) (by rw [List.length_dropLast, List.length_singleton]; omega) fun p3 H3 x3 hp3 => ?_
    have x4 := same_tr (same_tr x1 y2) x3
    refine ⟨_, rfl, 1, rfl, ?_⟩
    simp only [tNoPart]
    refine sl_rows (same_sqT x4 hb) fun p5 H5 x5 hp5 => ?_
    rw [show (1 : Int) = ((1 : Nat) : Int) from rfl, cutL_from, List.drop_one] at hp5
    refine cat_rows (xs := xs.dropLast ++ [xs.getLast?.getD nilS ++ ys.headD nilS]) (ys := ys.tail) (same_sqT x5 hp3) hp5 (by rw [List.length_append, List.length_dropLast, List.length_singleton, List.length_tail]; omega) fun p6 H6 x6 hp6 => ?_
    refine kq p6 H6 (same_tr (same_tr x4 x5) x6) ?_
    unfold joinR
    rw [List.append_assoc] at hp6
    exact hp6
theorem sc_less : FnScope ["row"] ["row"] (defScope s_without_first) := ⟨rfl, rfl, rfl, by decide +kernel, rfl, by decide +kernel, by decide +kernel⟩
def spLess (K : PySem.W.Frag) (C : Addr) : Sp := fun vs H Q E => ∃ (a : Addr) (r : List Str), vs = [.ref a] ∧ SqT K H a (sV r) ∧ RowL r 100 100 ∧ (∀ r', lessR r = some r' → ∀ (p : Addr) (H' : Hp), Same H H' → SqT K H' p (sV r') → Q (.ref p) H') ∧ (lessR r = none → E (.ref C) none H)
theorem ok_less {f : Addr} {fd : FuncData} (T : Txt mg) (Er : SErr K mg R C G) (F : Fun K "without_first" "without_first" s_without_first f fd) : FnOk P w K mg base (L2.CX P w) 1 f fd ["row"] (spLess K C) := by
  refine F.okX sc_less (fun vs H Q E h => ?_) (fun cdv A outer s H vs Q E hr h => ?_)
  · obtain ⟨a, r, rfl, _⟩ := h
    rfl
  · obtain ⟨a, r, rfl, ha, hL, k1, k2⟩ := h
    refine ⟨_, pss_cons (ps_if (pt_cmpR op_ne (pe_ix ix_tup (pv 0) pe_int (fun _ _ => rfl)) pe_str (nomark _))
        (pss_one (ps_ret (pe_op op_catA (pe_tup (pa_cons (pe_slice sl_str (pe_ix ix_tup (pv 0) pe_int (fun _ _ => rfl)) (po_some pe_int) po_none) pa_nil)) (pe_slice sl_tupA (pv 0) (po_some pe_int) po_none)))) pss_nil)
      (pss_cons (ps_if (pt_cmpR op_eq (pe_callB call_len_seq (by rfl) T.len PySem.boot_len (pa_cons (pv 0) pa_nil)) pe_int (nomark _))
        (pss_one (ps_raise rfl (takes_of rfl rfl rfl rfl) (pmk_own PySem.F.excBase_ValueError Er.cell.exc Er.cell.mg_ Er.cell.kp (raises_own Er.cell.sub Er.cell.ty) rfl))) pss_nil)
      (pss_one (ps_ret (pe_slice sl_tupA (pv 0) (po_some pe_int) po_none)))), ?_⟩
    have szl : (1000 : Nat) < sizeLine := by decide
    have l1 := hL.len
    have c1 := (hL.cells _ (head_mem hL.pos)).len
    have lr : (sV r).length = r.length := List.length_map ..
    refine ⟨_, rfl, a, _, _, _, rfl, rfl, ha, atZ_head hL.pos, rfl, _, rfl, ?_⟩
    rw [vstr_ne]
    unfold lessR at k1 k2
    by_cases h : r.headD nilS ≠ nilS
    · rw [decide_eq_true (show r.headD nilS ≠ ("" : Str) from h)]
      rw [if_pos h] at k1
      refine iteT ⟨_, rfl, a, _, _, _, rfl, rfl, ha, atZ_head hL.pos, 1, rfl, _, rfl, by omega, by show 1 ≤ sizeLine; decide, fun p2 n2 => ?_⟩
      have y2 : Same H (upd H p2 (.tup [.str (zD (r.headD nilS) 1)])) := same_new n2
      refine ⟨_, rfl, 1, rfl, ?_⟩
      simp only [tNoPart]
      refine sl_rows (same_sqT y2 ha) fun p3 H3 x3 hp3 => ?_
      rw [show (1 : Int) = ((1 : Nat) : Int) from rfl, cutL_from, List.drop_one] at hp3
      refine cat_rows (xs := [zD (r.headD nilS) 1]) (ys := r.tail) (same_sqT x3 (SqT.of upd_same)) hp3 (by rw [List.length_tail, List.length_singleton]; omega) fun p6 H6 x6 hp6 => ?_
      exact k1 _ rfl p6 H6 (same_tr (same_tr y2 x3) x6) hp6
    · rw [decide_eq_false (show ¬ (r.headD nilS ≠ ("" : Str)) from h)]
      rw [if_neg h] at k1 k2
      refine iteF ⟨_, rfl, a, _, rfl, .inr ha, rfl, _, rfl, ?_⟩
      rw [lr]
      by_cases h1 : r.length = 1
      · rw [if_pos h1] at k2
        rw [decide_eq_true (by rw [h1]; rfl)]
        exact iteT (k2 rfl)
      · rw [if_neg h1] at k1
        rw [decide_eq_false (fun z => h1 (by injection z with z; omega))]
        refine iteF ⟨_, rfl, 1, rfl, ?_⟩
        simp only [tNoPart]
        refine sl_rows ha fun p3 H3 x3 hp3 => ?_
        rw [show (1 : Int) = ((1 : Nat) : Int) from rfl, cutL_from, List.drop_one] at hp3
        exact k1 _ rfl p3 H3 x3 hp3
end
end TGK

namespace TGK
open TG
open PySem PySem.Spec PyProof.Rows L2 Gx EnT
/-! ### the cells that moved -/
abbrev v4 (row i : Nat) (a b : Int) : List V := [.int (row : Nat), .int (i : Nat), .int a, .int b]
def movTo (a b : List Int) (row n : Nat) : List (List V) := (List.range n).filterMap fun i => if a.getD i 0 ≠ b.getD i 0 then some (v4 row i (a.getD i 0) (b.getD i 0)) else none
def movP (a b : List Int) (row : Nat) : List (List V) := movTo a b row a.length
def movL (f g : Nat → List Int) (l : List (Nat × Nat)) : List (List V) := l.flatMap fun p => movP (f p.1) (g p.2) p.2
theorem movTo_succ (a b : List Int) (row n : Nat) : movTo a b row (n + 1) = movTo a b row n ++ if a.getD n 0 ≠ b.getD n 0 then [v4 row n (a.getD n 0) (b.getD n 0)] else [] := by
  unfold movTo
  rw [List.range_succ, List.filterMap_append]
  congr 1
  by_cases h : a.getD n 0 ≠ b.getD n 0
  · rw [if_pos h]
    simp only [List.filterMap_cons, List.filterMap_nil, if_pos h]
  · rw [if_neg h]
    simp only [List.filterMap_cons, List.filterMap_nil, if_neg h]
theorem movTo_len (a b : List Int) (row n : Nat) : (movTo a b row n).length ≤ n := by
  unfold movTo
  exact Nat.le_trans (List.length_filterMap_le ..) (by rw [List.length_range]; exact Nat.le_refl _)
theorem movL_len {f g : Nat → List Int} : ∀ {l : List (Nat × Nat)}, (∀ p ∈ l, (f p.1).length ≤ 6) → (movL f g l).length ≤ 6 * l.length
  | [], _ => by simp [movL]
  | p :: l, h => by
    have ih := movL_len (g := g) fun q hq => h q (List.mem_cons_of_mem _ hq)
    have h1 := h p (List.mem_cons_self ..)
    have h2 := movTo_len (f p.1) (g p.2) p.2 (f p.1).length
    have e : movL f g (p :: l) = movP (f p.1) (g p.2) p.2 ++ movL f g l := by unfold movL; rw [List.flatMap_cons]
    have e2 : (movP (f p.1) (g p.2) p.2).length ≤ (f p.1).length := h2
    rw [e, List.length_append, List.length_cons]
    omega
theorem movL_take {f g : Nat → List Int} {l : List (Nat × Nat)} {n : Nat} {p : Nat × Nat} (h : l[n]? = some p) : movL f g (l.take (n + 1)) = movL f g (l.take n) ++ movP (f p.1) (g p.2) p.2 := by
  unfold movL
  rw [List.take_add_one, h, List.flatMap_append]
  simp
section
variable {P : Program} {w : World} {K : PySem.W.Frag} {mg : Str → Option Value} {base : Heap} {cs : List (Addr × Addr)} {R C G : Addr}
/-- a list of new pairs -/
structure PairL (H : Hp) (o : Addr) (l : List (Nat × Nat)) : Prop where
  ts : ∃ ts : List Addr, H o = some (.lst (ts.map V.ref)) ∧ ts.length = l.length ∧ ∀ (j : Nat) (t : Addr) (p : Nat × Nat), ts[j]? = some t → l[j]? = some p → H t = some (.tup [.int (p.1 : Nat), .int (p.2 : Nat)])
theorem PairL.same {H H' : Hp} {o : Addr} {l : List (Nat × Nat)} (x : Same H H') (h : PairL H o l) : PairL H' o l := by
  obtain ⟨ts, h1, h2, h3⟩ := h.ts
  exact ⟨ts, x _ _ h1, h2, fun j t p e1 e2 => x _ _ (h3 j t p e1 e2)⟩
def spMov : Sp := fun vs H Q _ => ∃ (r0 r1 o : Addr) (es0 es1 : List Addr) (f g : Nat → List Int) (n0 n1 : Nat) (l : List (Nat × Nat)), vs = [.ref r0, .ref r1, .ref o] ∧ ToldAt H r0 es0 f n0 ∧ ToldAt H r1 es1 g n1 ∧ PairL H o l ∧
  (∀ p ∈ l, p.1 < n0 ∧ p.2 < n1 ∧ (f p.1).length = (g p.2).length ∧ (f p.1).length ≤ 6) ∧ l.length ≤ 60 ∧ ∀ (D : Addr) (H' : Hp), TupL H D (movL f g l) H' → Q (.ref D) H'
abbrev nmMov : List Str := ["before", "after", "others", "told", "was", "row", "cell", "began", "begins"]
theorem sc_mov : FnScope nmMov ["before", "after", "others"] (defScope s_pmoved) := ⟨rfl, rfl, rfl, by decide +kernel, rfl, by decide +kernel, by decide +kernel⟩
theorem vint_ne {a b : Int} : (!decide (V.int a = V.int b)) = decide (a ≠ b) := by
  by_cases h : a = b
  · rw [decide_eq_true (by rw [h]), decide_eq_false (by simp [h])]
    rfl
  · rw [decide_eq_false (fun z => h (by injection z)), decide_eq_true h]
    rfl
theorem TupL.lst {H0 H : Hp} {D : Addr} {l : List (List V)} (o : TupL H0 D l H) : ∃ acc, H D = some (.lst acc) ∧ acc.length = l.length := by
  obtain ⟨ts, h1, h2, _⟩ := o.ts
  exact ⟨_, h1, by rw [List.length_map, h2]⟩
theorem ok_mov {f : Addr} {fd : FuncData} (T : Txt mg) (hz : mg "zip" = none) (F : Fun K "moved" "moved" s_pmoved f fd) : FnOk P w K mg base CX0 1 f fd ["before", "after", "others"] spMov := by
  refine F.ok sc_mov (fun vs H Q E h => ?_) (fun cdv A outer s H vs Q E hr h => ?_)
  · obtain ⟨r0, r1, o, es0, es1, f, g, n0, n1, l, rfl, _⟩ := h
    rfl
  · obtain ⟨r0, r1, o, es0, es1, f, g, n0, n1, l, rfl, h0, h1, hL, hl, h60, kq⟩ := h
    have nd := sc_mov.nd
    refine ⟨_, pss_cons (ps_set (i := 3) nd rfl (.inl rfl) (pe_lst pa_nil))
      (pss_cons (ps_for PassesOwn.never rfl (pi_list (pv 2)) (pg_tup rfl (pgs_cons (pg_name (i := 4) nd rfl (.inl rfl)) (pgs_cons (pg_name (i := 5) nd rfl (.inl rfl)) pgs_nil)))
        (pss_one (ps_for PassesOwn.never rfl (pi_enumZip (by rfl) T.enum (by rfl) hz (pa_cons (pe_ix ix_list (pv 0) (pv 4) (fun _ _ => rfl)) (pa_cons (pe_ix ix_list (pv 1) (pv 5) (fun _ _ => rfl)) pa_nil)))
          (pg_tup rfl (pgs_cons (pg_name (i := 6) nd rfl (.inl rfl)) (pgs_cons (pg_tup rfl (pgs_cons (pg_name (i := 7) nd rfl (.inl rfl)) (pgs_cons (pg_name (i := 8) nd rfl (.inl rfl)) pgs_nil))) pgs_nil)))
          (pss_one (ps_if (pt_cmpR op_ne (pv 7) (pv 8) (nomark _)) (pss_one (ps_expr (pe_bm PySem.F.plainAttrs_list PySem.F.slot_list_append PySem.F.type_list_append mt_append (pv 3) (pa_cons (pe_tup (pa_cons (pv 5) (pa_cons (pv 6) (pa_cons (pv 7) (pa_cons (pv 8) pa_nil))))) pa_nil)))) pss_nil)))))
      (pss_one (ps_ret (pv 3)))), ?_⟩
    refine ⟨small0, fun D nD => ?_⟩
    have o0 := TupL.start nD
    have szl : (1000 : Nat) < sizeLine := by decide
    obtain ⟨ts, t1, t2, t3⟩ := id hL.ts
    refine ⟨_, rfl, o, rfl, ⟨_, SqL.of (o0.sm _ _ t1)⟩, for_list (xs := ts.map V.ref) (fun i σ H' => TupL H D (movL f g (l.take i)) H' ∧ ∃ c4 c5 c6 c7 c8 : Option V, σ = [some (.ref r0), some (.ref r1), some (.ref o), some (.ref D), c4, c5, c6, c7, c8]) ⟨o0, none, none, none, none, none, rfl⟩ (fun i σ H' _ x => SqL.of (x.1.sm _ _ t1)) ?_ ?_⟩
    · rintro i x σ H1 hx ⟨o1, c4, c5, c6, c7, c8, rfl⟩
      obtain ⟨t, ht, rfl⟩ := get_map hx
      obtain ⟨p, hp⟩ := getP (xs := l) (i := i) (by rw [← t2]; exact (List.getElem?_eq_some_iff.mp ht).1)
      have hi : i < l.length := (List.getElem?_eq_some_iff.mp hp).1
      obtain ⟨q1, q2, q3, q4⟩ := hl p (List.mem_of_getElem? hp)
      have htt := o1.sm _ _ (t3 i t p ht hp)
      obtain ⟨e0, he0⟩ := getP (xs := es0) (i := p.1) (by rw [h0.len]; exact q1)
      obtain ⟨e1, he1⟩ := getP (xs := es1) (i := p.2) (by rw [h1.len]; exact q2)
      have a0 := h0.at_ p.1 e0 he0
      have a1 := h1.at_ p.2 e1 he1
      refine ⟨t, _, rfl, SqT.of htt, rfl, _, _, rfl, _, _, rfl, rfl, ?_⟩
      refine ⟨_, rfl, _, rfl, r0, _, _, .ref e0, rfl, rfl, SqL.of (o1.sm _ _ h0.lst), atI_nat (by rw [List.getElem?_map, he0]; rfl), _, rfl, _, rfl, r1, _, _, .ref e1, rfl, rfl, SqL.of (o1.sm _ _ h1.lst), atI_nat (by rw [List.getElem?_map, he1]; rfl), ?_⟩
      refine ⟨e0, e1, _, _, rfl, SqL.of (o1.sm _ _ a0), SqL.of (o1.sm _ _ a1), ?_⟩
      refine for_it (walk_ez (xs := (f p.1).map V.int) (ys := (g p.2).map V.int) (by rw [List.length_map, List.length_map, q3])) (fun j σ H' => TupL H D (movL f g (l.take i) ++ movTo (f p.1) (g p.2) p.2 j) H' ∧ ∃ c6 c7 c8 : Option V, σ = [some (.ref r0), some (.ref r1), some (.ref o), some (.ref D), some (.int (p.1 : Nat)), some (.int (p.2 : Nat)), c6, c7, c8]) ⟨by simpa [movTo] using o1, c6, c7, c8, rfl⟩ (fun j σ H' _ x => ⟨SqL.of (x.1.sm _ _ a0), SqL.of (x.1.sm _ _ a1)⟩) ?_ ?_
      · rintro j v σ H2 H3 hj ⟨o2, c6, c7, c8, rfl⟩ ⟨S, T', x, y, rfl, nS, nT, rfl, hx, hy⟩
        obtain ⟨xa, hxa, rfl⟩ := get_map hx
        obtain ⟨ya, hya, rfl⟩ := get_map hy
        have exa : (f p.1).getD j 0 = xa := by rw [List.getD_eq_getElem?_getD, hxa]; rfl
        have eya : (g p.2).getD j 0 = ya := by rw [List.getD_eq_getElem?_getD, hya]; rfl
        have x3 := same_tr (same_new (o := .tup [.int xa, .int ya]) nS) (same_new (o := .tup [.int (j : Nat), .ref S]) nT)
        have hS : upd (upd H2 S (.tup [.int xa, .int ya])) T' (.tup [.int (j : Nat), .ref S]) S = some (.tup [.int xa, .int ya]) := by rw [upd_ne (ne_of_none upd_same nT), upd_same]
        have o3 := o2.grow x3
        have hT3 : upd (upd H2 S (.tup [.int xa, .int ya])) T' (.tup [.int (j : Nat), .ref S]) T' = some (.tup [.int (j : Nat), .ref S]) := upd_same
        generalize upd (upd H2 S (.tup [.int xa, .int ya])) T' (.tup [.int (j : Nat), .ref S]) = H3 at x3 hS o3 hT3 ⊢
        refine ⟨T', _, rfl, SqT.of hT3, rfl, _, _, rfl, _, _, rfl, ⟨S, _, rfl, SqT.of hS, rfl, _, _, rfl, _, _, rfl, rfl, rfl, ?_⟩⟩
        refine ⟨_, rfl, _, rfl, rfl, _, rfl, ?_⟩
        rw [vint_ne, movTo_succ, exa, eya]
        have hj2 : j < 6 := by have := hj; rw [List.length_map] at this; omega
        by_cases hne : xa ≠ ya
        · rw [decide_eq_true hne, if_pos hne]
          obtain ⟨acc0, w1, _⟩ := o3.lst
          refine iteT ⟨_, rfl, .inl ⟨rfl, _, SqL.of w1⟩, _, rfl, _, rfl, _, rfl, _, rfl, by show 4 ≤ sizeLine; decide, fun t4 nt4 => ?_⟩
          have o4 := o3.grow (same_new (o := .tup (v4 p.2 j xa ya)) nt4)
          obtain ⟨acc, w1, w2, w3⟩ := o4.more (t := t4) (v := v4 p.2 j xa ya) upd_same
          refine ⟨D, acc, _, rfl, rfl, w1, ?_, ?_⟩
          · have b1 := movTo_len (f p.1) (g p.2) p.2 j
            have b2 := movL_len (f := f) (g := g) (l := l.take i) fun q hq => (hl q (List.mem_of_mem_take hq)).2.2.2
            rw [List.length_take] at b2
            rw [w2, List.length_append]
            omega
          · rw [List.append_assoc] at w3
            exact ⟨w3, _, _, _, rfl⟩
        · rw [decide_eq_false hne, if_neg hne, List.append_nil]
          exact iteF ⟨o3, _, _, _, rfl⟩
      · rintro σ H2 ⟨o2, c6, c7, c8, rfl⟩
        refine ⟨?_, _, _, _, _, _, rfl⟩
        rw [movL_take hp]
        rw [List.length_map] at o2
        exact o2
    · rintro σ H1 ⟨o1, c4, c5, c6, c7, c8, rfl⟩
      rw [List.length_map, t2, List.take_of_length_le (Nat.le_refl _)] at o1
      exact ⟨_, rfl, kq D H1 o1⟩
end
end TGK

namespace TGK
open TG
open PySem PySem.Spec PyProof.Rows L2 Gx EnT
/-! ### a sheet, and the deeds that stand -/
/-- all but two lists stay -/
def NT (cs : List (Addr × Addr)) (c : Addr) (o : HO) : Prop := (∀ ps, o ≠ .tbl ps) ∨ ∀ p ∈ cs, p.2 ≠ c
def XN (cs : List (Addr × Addr)) (H H' : Hp) : Prop := ∀ b o, H b = some o → NT cs b o → H' b = some o
theorem xn_ex {cs : List (Addr × Addr)} {H H' : Hp} (x : Ex cs H H') : XN cs H H' := fun b o h n => n.elim (fun z => x.ext b o h z) fun z => x.oth b o h z
theorem same_xn {cs : List (Addr × Addr)} {H H' : Hp} (x : Same H H') : XN cs H H' := fun b o h _ => x b o h
theorem xn_tr {cs : List (Addr × Addr)} {H H1 H' : Hp} (x : XN cs H H1) (y : XN cs H1 H') : XN cs H H' := fun b o h n => y b o (x b o h n) n
def ExtS (cs : List (Addr × Addr)) (rl dl : Addr) (H H' : Hp) : Prop := ∀ b o, H b = some o → NT cs b o → b ≠ rl → b ≠ dl → H' b = some o
theorem ExtS.of {cs : List (Addr × Addr)} {rl dl : Addr} {H H' : Hp} (x : XN cs H H') : ExtS cs rl dl H H' := fun b o h n _ _ => x b o h n
theorem ExtS.tr {cs : List (Addr × Addr)} {rl dl : Addr} {H H1 H' : Hp} (x : ExtS cs rl dl H H1) (y : ExtS cs rl dl H1 H') : ExtS cs rl dl H H' := fun b o h n m1 m2 => y b o (x b o h n m1 m2) n m1 m2
theorem ExtS.gw {cs : List (Addr × Addr)} {rl dl : Addr} {H H1 H' : Hp} (x : ExtS cs rl dl H H1) (y : XN cs H1 H') : ExtS cs rl dl H H' := fun b o h n m1 m2 => y b o (x b o h n m1 m2) n
theorem ExtS.after {cs : List (Addr × Addr)} {rl dl : Addr} {H H1 H' : Hp} (x : XN cs H H1) (y : ExtS cs rl dl H1 H') : ExtS cs rl dl H H' := fun b o h n m1 m2 => y b o (x b o h n) n m1 m2
theorem sqT_exs {K : PySem.W.Frag} {H H' : Hp} {a rl dl : Addr} {xs us ws : List V} {cs : List (Addr × Addr)} (x : ExtS cs rl dl H H') (h1 : H rl = some (.lst us)) (h2 : H dl = some (.lst ws)) (h : SqT K H a xs) : SqT K H' a xs := by
  rcases h with (h | ⟨u, h⟩) | h
  · exact .inl (.inl (x _ _ h (.inl fun ps z => by cases z) (fun z => by rw [z, h1] at h; cases h) fun z => by rw [z, h2] at h; cases h))
  · exact .inl (.inr ⟨u, x _ _ h (.inl fun ps z => by cases z) (fun z => by rw [z, h1] at h; cases h) fun z => by rw [z, h2] at h; cases h⟩)
  · exact .inr h
theorem tup_exs {H H' : Hp} {t rl dl : Addr} {xs us ws : List V} {cs : List (Addr × Addr)} (x : ExtS cs rl dl H H') (h1 : H rl = some (.lst us)) (h2 : H dl = some (.lst ws)) (h : H t = some (.tup xs)) : H' t = some (.tup xs) :=
  x _ _ h (.inl fun ps z => by cases z) (fun z => by rw [z, h1] at h; cases h) fun z => by rw [z, h2] at h; cases h
theorem RowsAt.exs {K : PySem.W.Frag} {H H' : Hp} {rl dl : Addr} {us ws : List V} {as : List Addr} {rows : List (List Str)} {cs : List (Addr × Addr)} (x : ExtS cs rl dl H H') (h1 : H rl = some (.lst us)) (h2 : H dl = some (.lst ws)) (p : RowsAt K H as rows) : RowsAt K H' as rows := ⟨p.len, fun i q r e1 e2 => sqT_exs x h1 h2 (p.row i q r e1 e2)⟩
theorem RowsAt.gw {K : PySem.W.Frag} {H H' : Hp} {as : List Addr} {rows : List (List Str)} (x : LamX.ExtN H H') (p : RowsAt K H as rows) : RowsAt K H' as rows := ⟨p.len, fun i q r e1 e2 => by
  rcases p.row i q r e1 e2 with (h | ⟨u, h⟩) | h
  · exact .inl (.inl (x _ _ h fun ps z => by cases z))
  · exact .inl (.inr ⟨u, x _ _ h fun ps z => by cases z⟩)
  · exact .inr h⟩
theorem _root_.TG.StyleAt.exs {K : PySem.W.Frag} {H H' : Hp} {rl dl st : Addr} {us ws : List V} {gap least : Int} {cs : List (Addr × Addr)} (x : ExtS cs rl dl H H') (h1 : H rl = some (.lst us)) (h2 : H dl = some (.lst ws)) (p : StyleAt K H st gap least) : StyleAt K H' st gap least := ⟨sqT_exs x h1 h2 p.tup, p.g0, p.g1, p.l0, p.l1⟩
theorem _root_.TG.StyleAt.gwN {K : PySem.W.Frag} {H H' : Hp} {a : Addr} {gap least : Int} (p : StyleAt K H a gap least) (x : LamX.ExtN H H') : StyleAt K H' a gap least := ⟨by
  rcases p.tup with (h | ⟨u, h⟩) | h
  · exact .inl (.inl (x _ _ h fun ps z => by cases z))
  · exact .inl (.inr ⟨u, x _ _ h fun ps z => by cases z⟩)
  · exact .inr h, p.g0, p.g1, p.l0, p.l1⟩
theorem RowsAt.app {K : PySem.W.Frag} {H : Hp} {as bs : List Addr} {rows ss : List (List Str)} (p : RowsAt K H as rows) (q : RowsAt K H bs ss) : RowsAt K H (as ++ bs) (rows ++ ss) := by
  refine ⟨by rw [List.length_append, List.length_append, p.len, q.len], fun i a r e1 e2 => ?_⟩
  by_cases h : i < as.length
  · rw [List.getElem?_append_left h] at e1
    rw [List.getElem?_append_left (by rw [← p.len]; exact h)] at e2
    exact p.row i a r e1 e2
  · rw [List.getElem?_append_right (by omega)] at e1
    rw [List.getElem?_append_right (by rw [← p.len]; omega), ← p.len] at e2
    exact q.row _ a r e1 e2
theorem RowsAt.take {K : PySem.W.Frag} {H : Hp} {as : List Addr} {rows : List (List Str)} (p : RowsAt K H as rows) (n : Nat) : RowsAt K H (as.take n) (rows.take n) := by
  refine ⟨by rw [List.length_take, List.length_take, p.len], fun i a r e1 e2 => ?_⟩
  rw [List.getElem?_take] at e1 e2
  by_cases h : i < n
  · rw [if_pos h] at e1 e2
    exact p.row i a r e1 e2
  · rw [if_neg h] at e1
    cases e1
theorem RowsAt.drop {K : PySem.W.Frag} {H : Hp} {as : List Addr} {rows : List (List Str)} (p : RowsAt K H as rows) (n : Nat) : RowsAt K H (as.drop n) (rows.drop n) := by
  refine ⟨by rw [List.length_drop, List.length_drop, p.len], fun i a r e1 e2 => ?_⟩
  rw [List.getElem?_drop] at e1 e2
  exact p.row _ a r e1 e2
/-- some in the place of so many from a number on -/
def splice {α : Type} (xs : List α) (n m : Nat) (new : List α) : List α := xs.take n ++ new ++ xs.drop (n + m)
theorem RowsAt.splice {K : PySem.W.Frag} {H : Hp} {as bs : List Addr} {rows new : List (List Str)} {n m : Nat} (p : RowsAt K H as rows) (q : RowsAt K H bs new) : RowsAt K H (splice as n m bs) (splice rows n m new) := ((p.take n).app q).app (p.drop (n + m))
theorem splice_len {α : Type} {xs new : List α} {n m : Nat} (h : n + m ≤ xs.length) : (splice xs n m new).length = xs.length - m + new.length := by
  unfold splice
  rw [List.length_append, List.length_append, List.length_take, List.length_drop]
  omega
theorem splice_back {α : Type} {xs new : List α} {n m : Nat} (h : n + m ≤ xs.length) : splice (splice xs n m new) n new.length ((xs.drop n).take m) = xs := by
  unfold splice
  have l1 : (xs.take n).length = n := by rw [List.length_take]; omega
  have e1 : (xs.take n ++ new ++ xs.drop (n + m)).take n = xs.take n := by
    rw [List.append_assoc, List.take_append_of_le_length (by omega), List.take_of_length_le (by omega)]
  have e2 : (xs.take n ++ new ++ xs.drop (n + m)).drop (n + new.length) = xs.drop (n + m) := by
    rw [List.drop_append_of_le_length (by rw [List.length_append]; omega), List.drop_eq_nil_of_le (by rw [List.length_append]; omega), List.nil_append]
  rw [e1, e2, List.append_assoc]
  have e3 : (xs.drop n).take m ++ xs.drop (n + m) = xs.drop n := by
    rw [← List.drop_drop]
    exact List.take_append_drop m (xs.drop n)
  rw [e3]
  exact List.take_append_drop n xs
/-- the deeds that stand, the last one first: where, how many rows it laid, and those that were there; the pages ahead of them -/
def PastAt (K : PySem.W.Frag) (H : Hp) (rl dl : Addr) (av : Addr → Prop) : List Addr → List Addr → List (List (List Str)) → Prop
  | _, [], [] => True
  | as, t :: ts, rows :: ps => (∃ (n m : Nat) (oas : List Addr) (l : Addr), H t = some (.tup [.int (n : Nat), .int (m : Nat), .ref l]) ∧ H l = some (.lst (oas.map V.ref)) ∧ l ≠ rl ∧ l ≠ dl ∧ ¬ av l ∧ n + m ≤ as.length ∧ oas.length ≤ 30 ∧ RowsAt K H (splice as n m oas) rows ∧ PgOk rows ∧ PastAt K H rl dl av (splice as n m oas) ts ps)
  | _, _, _ => False
theorem PastAt.exs {K : PySem.W.Frag} {H H' : Hp} {rl dl : Addr} {av : Addr → Prop} {us ws : List V} {cs : List (Addr × Addr)} (x : ExtS cs rl dl H H') (h1 : H rl = some (.lst us)) (h2 : H dl = some (.lst ws)) : ∀ {ts : List Addr} {as : List Addr} {ps : List (List (List Str))}, PastAt K H rl dl av as ts ps → PastAt K H' rl dl av as ts ps
  | [], _, [], _ => by unfold PastAt; trivial
  | [], _, _ :: _, h => by unfold PastAt at h; exact h.elim
  | _ :: _, _, [], h => by unfold PastAt at h; exact h.elim
  | t :: ts, as, rows :: ps, h => by
    unfold PastAt at h ⊢
    obtain ⟨n, m, oas, l, g1, g2, g3, g4, ga, g5, g6, g7, g8, g9⟩ := h
    exact ⟨n, m, oas, l, tup_exs x h1 h2 g1, x _ _ g2 (.inl fun ps z => by cases z) g3 g4, g3, g4, ga, g5, g6, g7.exs x h1 h2, g8, PastAt.exs x h1 h2 g9⟩
theorem PastAt.gw {K : PySem.W.Frag} {H H' : Hp} {rl dl : Addr} {av : Addr → Prop} (x : LamX.ExtN H H') : ∀ {ts : List Addr} {as : List Addr} {ps : List (List (List Str))}, PastAt K H rl dl av as ts ps → PastAt K H' rl dl av as ts ps
  | [], _, [], _ => by unfold PastAt; trivial
  | [], _, _ :: _, h => by unfold PastAt at h; exact h.elim
  | _ :: _, _, [], h => by unfold PastAt at h; exact h.elim
  | t :: ts, as, rows :: ps, h => by
    unfold PastAt at h ⊢
    obtain ⟨n, m, oas, l, g1, g2, g3, g4, ga, g5, g6, g7, g8, g9⟩ := h
    exact ⟨n, m, oas, l, x _ _ g1 (fun ps z => by cases z), x _ _ g2 (fun ps z => by cases z), g3, g4, ga, g5, g6, g7.gw x, g8, PastAt.gw x g9⟩
theorem PastAt.len {K : PySem.W.Frag} {H : Hp} {rl dl : Addr} {av : Addr → Prop} : ∀ {ts : List Addr} {as : List Addr} {ps : List (List (List Str))}, PastAt K H rl dl av as ts ps → ts.length = ps.length
  | [], _, [], _ => rfl
  | [], _, _ :: _, h => by unfold PastAt at h; exact h.elim
  | _ :: _, _, [], h => by unfold PastAt at h; exact h.elim
  | t :: ts, as, rows :: ps, h => by
    unfold PastAt at h
    obtain ⟨n, m, oas, l, g1, g2, g3, g4, ga, g5, g6, g7, g8, g9⟩ := h
    rw [List.length_cons, List.length_cons, PastAt.len g9]
theorem PastAt.less {K : PySem.W.Frag} {H : Hp} {rl dl : Addr} {av av2 : Addr → Prop} (z : ∀ x, av2 x → av x) : ∀ {ts : List Addr} {as : List Addr} {ps : List (List (List Str))}, PastAt K H rl dl av as ts ps → PastAt K H rl dl av2 as ts ps
  | [], _, [], _ => by unfold PastAt; trivial
  | [], _, _ :: _, h => by unfold PastAt at h; exact h.elim
  | _ :: _, _, [], h => by unfold PastAt at h; exact h.elim
  | t :: ts, as, rows :: ps, h => by
    unfold PastAt at h ⊢
    obtain ⟨n, m, oas, l, g1, g2, g3, g4, ga, g5, g6, g7, g8, g9⟩ := h
    exact ⟨n, m, oas, l, g1, g2, g3, g4, fun q => ga (z _ q), g5, g6, g7, g8, PastAt.less z g9⟩
theorem PastAt.more {K : PySem.W.Frag} {H : Hp} {rl dl D : Addr} {av : Addr → Prop} (n : H D = none) : ∀ {ts : List Addr} {as : List Addr} {ps : List (List (List Str))}, PastAt K H rl dl av as ts ps → PastAt K H rl dl (fun x => av x ∨ x = D) as ts ps
  | [], _, [], _ => by unfold PastAt; trivial
  | [], _, _ :: _, h => by unfold PastAt at h; exact h.elim
  | _ :: _, _, [], h => by unfold PastAt at h; exact h.elim
  | t :: ts, as, rows :: ps, h => by
    unfold PastAt at h ⊢
    obtain ⟨n', m, oas, l, g1, g2, g3, g4, ga, g5, g6, g7, g8, g9⟩ := h
    exact ⟨n', m, oas, l, g1, g2, g3, g4, (fun q => q.elim ga fun e => by rw [e, n] at g2; cases g2), g5, g6, g7, g8, PastAt.more n g9⟩
/-- objects that stand and are no tables -/
def Live (H : Hp) (av : Addr → Prop) : Prop := ∀ x, av x → ∃ o, H x = some o ∧ ∀ ps, o ≠ .tbl ps
structure ShtD (K : PySem.W.Frag) (S : Addr) (H : Hp) (sh rl dl st : Addr) (as : List Addr) (rows : List (List Str)) (gap least : Int) (ts : List Addr) (ps : List (List (List Str))) (av : Addr → Prop) : Prop where
  she : ∃ dx, H sh = some (.ins S dx [("rows", .ref rl), ("style", .ref st), ("deeds", .ref dl)])
  rl_ : H rl = some (.lst (as.map V.ref))
  dl_ : H dl = some (.lst (ts.reverse.map V.ref))
  ne : rl ≠ dl
  at_ : RowsAt K H as rows
  ok : PgOk rows
  style : StyleAt K H st gap least
  past : PastAt K H rl dl av as ts ps
  live : Live H av
structure ShC (K : PySem.W.Frag) (S : Addr) : Prop where
  cS : Cls K S
  nRows : NoAttr K S "rows"
  nStyle : NoAttr K S "style"
  nDeeds : NoAttr K S "deeds"
section
variable {K : PySem.W.Frag} {S sh rl dl st : Addr} {H H' : Hp} {as : List Addr} {rows : List (List Str)} {gap least : Int} {ts : List Addr} {ps : List (List (List Str))} {av : Addr → Prop}
theorem ShtD.gw (o : ShtD K S H sh rl dl st as rows gap least ts ps av) (x : LamX.ExtN H H') : ShtD K S H' sh rl dl st as rows gap least ts ps av := by
  obtain ⟨dx, h1⟩ := o.she
  exact ⟨⟨dx, x _ _ h1 fun ps z => by cases z⟩, x _ _ o.rl_ (fun ps z => by cases z), x _ _ o.dl_ (fun ps z => by cases z), o.ne, o.at_.gw x, o.ok, o.style.gwN x, o.past.gw x, fun y hy => by
    obtain ⟨u, e, n⟩ := o.live y hy
    exact ⟨u, x _ _ e n, n⟩⟩
theorem ShtD.less {av2 : Addr → Prop} (o : ShtD K S H sh rl dl st as rows gap least ts ps av) (z : ∀ x, av2 x → av x) : ShtD K S H sh rl dl st as rows gap least ts ps av2 := ⟨o.she, o.rl_, o.dl_, o.ne, o.at_, o.ok, o.style, o.past.less z, fun y hy => o.live y (z y hy)⟩
theorem ShtD.live2 (o : ShtD K S H sh rl dl st as rows gap least ts ps av) {cs : List (Addr × Addr)} (x : ExtS cs rl dl H H') {us ws : List V} (h1 : H' rl = some (.lst us)) (h2 : H' dl = some (.lst ws)) : Live H' av := fun y hy => by
  obtain ⟨u, e, n⟩ := o.live y hy
  by_cases q1 : y = rl
  · exact ⟨_, by rw [q1]; exact h1, fun ps z => by cases z⟩
  · by_cases q2 : y = dl
    · exact ⟨_, by rw [q2]; exact h2, fun ps z => by cases z⟩
    · exact ⟨u, x _ _ e (.inl n) q1 q2, n⟩
theorem ShtD.new {D : Addr} {xs : List V} (o : ShtD K S H sh rl dl st as rows gap least ts ps av) (n : H D = none) (x : LamX.ExtN H H') (hD : H' D = some (.lst xs)) : ShtD K S H' sh rl dl st as rows gap least ts ps (fun y => av y ∨ y = D) := by
  have o2 := o.gw x
  exact ⟨o2.she, o2.rl_, o2.dl_, o2.ne, o2.at_, o2.ok, o2.style, (o.past.more n).gw x, fun y hy => by
    rcases hy with q | q
    · exact o2.live y q
    · exact ⟨.lst xs, by rw [q]; exact hD, fun ps z => by cases z⟩⟩
theorem ShtD.page (o : ShtD K S H sh rl dl st as rows gap least ts ps av) : PageAt K H rl as rows := ⟨SqL.of o.rl_, o.at_.len, o.at_.row⟩
theorem ShtD.ns (o : ShtD K S H sh rl dl st as rows gap least ts ps av) : sh ≠ rl ∧ sh ≠ dl := by
  obtain ⟨dx, h1⟩ := o.she
  exact ⟨(fun z => by rw [z, o.rl_] at h1; cases h1), (fun z => by rw [z, o.dl_] at h1; cases h1)⟩
end
section
variable {P : Program} {w : World} {K : PySem.W.Frag} {mg : Str → Option Value} {base : Heap} {cs : List (Addr × Addr)} {S : Addr}
/-- Sheet.page -/
def spShPage (K : PySem.W.Frag) (S : Addr) : Sp := fun vs H Q _ => ∃ (sh rl dl st : Addr) (as : List Addr) (rows : List (List Str)) (gap least : Int) (ts : List Addr) (ps : List (List (List Str))) (av : Addr → Prop), vs = [.ref sh] ∧ ShtD K S H sh rl dl st as rows gap least ts ps av ∧ ∀ r, H r = none → Q (.ref r) (upd H r (.lst (as.map V.ref)))
theorem sc_self : FnScope ["self"] ["self"] (defScope (mth nSheet 9)) := ⟨rfl, rfl, rfl, by decide +kernel, rfl, by decide +kernel, by decide +kernel⟩
theorem ok_shpage {f : Addr} {fd : FuncData} (T : Txt mg) (X : ShC K S) (F : Fun K "page" "Sheet.page" (mth nSheet 9) f fd) : FnOk P w K mg base CX0 1 f fd ["self"] (spShPage K S) := by
  refine F.ok sc_self (fun vs H Q E h => ?_) (fun cdv A outer s H vs Q E hr h => ?_)
  · obtain ⟨sh, rl, dl, st, as, rows, gap, least, ts, ps, av, rfl, _⟩ := h
    rfl
  · obtain ⟨sh, rl, dl, st, as, rows, gap, least, ts, ps, av, rfl, hS, k⟩ := h
    refine ⟨_, pss_one (ps_ret (pe_callTy call_list_of (by rfl) T.list (by decide +kernel) (pa_cons (pe_fld (pv 0) rfl) pa_nil))), ?_⟩
    obtain ⟨dx, h1⟩ := hS.she
    exact ⟨_, rfl, sh, S, dx, _, _, rfl, h1, X.cS, X.nRows, rfl, rl, _, rfl, .inl hS.page.lst, fun r nr => k r nr⟩
/-- Sheet.begins -/
def spShBegins (K : PySem.W.Frag) (cs : List (Addr × Addr)) (S : Addr) : Sp := fun vs H Q _ => ∃ (sh rl dl st : Addr) (as : List Addr) (rows : List (List Str)) (gap least : Int) (ts : List Addr) (ps : List (List (List Str))) (av : Addr → Prop), vs = [.ref sh] ∧ Tabs cs H ∧ ShtD K S H sh rl dl st as rows gap least ts ps av ∧
  ∀ (r : Addr) (es : List Addr) (H' : Hp), Ex cs H H' → H r = none → (∀ e ∈ es, H e = none ∧ e ≠ r) → ToldAt H' r es (begsR rows gap least) rows.length → Q (.ref r) H'
theorem sc_selfB : FnScope ["self"] ["self"] (defScope (mth nSheet 10)) := ⟨rfl, rfl, rfl, by decide +kernel, rfl, by decide +kernel, by decide +kernel⟩
theorem ok_shbegins {f g : Addr} {fd fdg : FuncData} (X : ShC K S) (F : Fun K "begins" "Sheet.begins" (mth nSheet 10) f fd)
    (G : FnOk P w K mg base CX0 14 g fdg ["page", "style"] (spTold K cs begsR)) (kp : PySem.W.keepIn K (.ref g) = true) (bd : Binds K fdg ["page", "style"] []) (mgg : mg "laid" = some (.ref g)) : FnOk P w K mg base CX0 15 f fd ["self"] (spShBegins K cs S) := by
  refine F.ok sc_selfB (fun vs H Q E h => ?_) (fun cdv A outer s H vs Q E hr h => ?_)
  · obtain ⟨sh, rl, dl, st, as, rows, gap, least, ts, ps, av, rfl, _⟩ := h
    rfl
  · obtain ⟨sh, rl, dl, st, as, rows, gap, least, ts, ps, av, rfl, hT, hS, k⟩ := h
    refine ⟨_, pss_one (ps_ret (pe_call G hr (by rfl) mgg kp bd .nil pass0 (pa_cons (pe_fld (pv 0) rfl) (pa_cons (pe_fld (pv 0) rfl) pa_nil)))), ?_⟩
    obtain ⟨dx, h1⟩ := hS.she
    exact ⟨_, rfl, sh, S, dx, _, _, rfl, h1, X.cS, X.nRows, rfl, _, rfl, sh, S, dx, _, _, rfl, h1, X.cS, X.nStyle, rfl, rl, st, as, rows, gap, least, rfl, hT, hS.page, hS.ok, hS.style, fun r es H' x nr ne tA => k r es H' x nr ne tA⟩
/-- Sheet.__init__ -/
def spShInit (K : PySem.W.Frag) (cs : List (Addr × Addr)) (S : Addr) : Sp := fun vs H Q _ => ∃ (sh a st dx : Addr) (as : List Addr) (rows : List (List Str)) (gap least : Int), vs = [.ref sh, .ref a, .ref st] ∧ Tabs cs H ∧ H sh = some (.ins S dx []) ∧ PageAt K H a as rows ∧ PgOk rows ∧ StyleAt K H st gap least ∧
  ∀ (rl dl : Addr) (H' : Hp), (∀ b o, H b = some o → NT cs b o → b ≠ sh → H' b = some o) → Tabs cs H' → (∀ b, H' b = none → H b = none) → ShtD K S H' sh rl dl st as rows gap least [] [] (fun _ => False) → H rl = none → H dl = none → Q .non H'
theorem sc_shinit : FnScope ["self", "page", "style"] ["self", "page", "style"] (defScope (mth nSheet 0)) := ⟨rfl, rfl, rfl, by decide +kernel, rfl, by decide +kernel, by decide +kernel⟩
theorem ok_shinit {f g1 g2 : Addr} {fd fd1 fd2 : FuncData} (T : Txt mg) (X : ShC K S) (F : Fun K "__init__" "Sheet.__init__" (mth nSheet 0) f fd)
    (G1 : FnOk P w K mg base CX0 11 g1 fd1 ["page"] (spCheck K cs)) (k1 : PySem.W.keepIn K (.ref g1) = true) (b1 : Binds K fd1 ["page"] []) (m1 : mg "check_page" = some (.ref g1))
    (G2 : FnOk P w K mg base CX0 2 g2 fd2 ["style"] (spStyle K)) (k2 : PySem.W.keepIn K (.ref g2) = true) (b2 : Binds K fd2 ["style"] []) (m2 : mg "check_style" = some (.ref g2)) : FnOk P w K mg base CX0 12 f fd ["self", "page", "style"] (spShInit K cs S) := by
  refine F.ok sc_shinit (fun vs H Q E h => ?_) (fun cdv A outer s H vs Q E hr h => ?_)
  · obtain ⟨sh, a, st, dx, as, rows, gap, least, rfl, _⟩ := h
    rfl
  · obtain ⟨sh, a, st, dx, as, rows, gap, least, rfl, hT, hsh, hP, hO, hS, k⟩ := h
    have r2 : Room 2 _ := hr.mono (by decide)
    refine ⟨_, pss_cons (ps_expr (pe_call G1 hr (by rfl) m1 k1 b1 .nil pass0 (pa_cons (pv 1) pa_nil)))
      (pss_cons (ps_expr (pe_call G2 r2 (by rfl) m2 k2 b2 .nil pass0 (pa_cons (pv 2) pa_nil)))
      (pss_cons (ps_fld (pv 0) (pe_callTy call_list_of (by rfl) T.list (by decide +kernel) (pa_cons (pv 1) pa_nil)) rfl)
      (pss_cons (ps_fld (pv 0) (pv 2) rfl) (pss_one (ps_fld (pv 0) (pe_lst pa_nil) rfl))))), ?_⟩
    refine ⟨_, rfl, a, as, rows, rfl, hT, hP, hO, fun H1 x1 => ⟨_, rfl, st, gap, least, rfl, hS.gwN x1.ext, ?_⟩⟩
    have hsh1 : H1 sh = some (.ins S dx []) := x1.ext _ _ hsh fun ps z => by cases z
    refine ⟨_, rfl, a, _, rfl, .inl (hP.ex x1).lst, fun rl nrl => ?_⟩
    have x2 := x1.trans (Ex.laid (o := .lst (as.map V.ref)) x1.tab nrl)
    have hsh2 : upd H1 rl (.lst (as.map V.ref)) sh = some (.ins S dx []) := by rw [upd_ne (ne_of_none hsh1 nrl)]; exact hsh1
    have hrl2 : upd H1 rl (.lst (as.map V.ref)) rl = some (.lst (as.map V.ref)) := upd_same
    generalize upd H1 rl (.lst (as.map V.ref)) = H2 at x2 hsh2 hrl2 ⊢
    refine ⟨_, rfl, sh, S, dx, _, rfl, hsh2, X.cS, X.nRows, by decide, ?_⟩
    refine ⟨_, rfl, _, rfl, sh, S, dx, _, rfl, upd_same, X.cS, X.nStyle, by show 1 < 1000; decide, ?_⟩
    rw [upd_upd]
    refine ⟨small0, fun dl ndl => ⟨_, rfl, sh, S, dx, _, rfl, by rw [upd_ne (ne_of_none upd_same ndl)]; exact upd_same, X.cS, X.nDeeds, by show 2 < 1000; decide, ?_⟩⟩
    have nshd : sh ≠ dl := ne_of_none upd_same ndl
    have nd2 : H2 dl = none := by rw [upd_ne nshd.symm] at ndl; exact ndl
    have keep : ∀ b o, H2 b = some o → b ≠ sh → upd (upd (upd H2 sh (.ins S dx (putF "style" (.ref st) (putF "rows" (.ref rl) [])))) dl (.lst [])) sh (.ins S dx (putF "deeds" (.ref dl) (putF "style" (.ref st) (putF "rows" (.ref rl) [])))) b = some o := fun b o h n => by
      rw [upd_ne n, upd_ne (ne_of_none h nd2), upd_ne n]
      exact h
    have nsr : rl ≠ sh := fun z => by rw [z, hsh2] at hrl2; cases hrl2
    have sqk : ∀ {t : Addr} {xs : List V}, SqT K H t xs → SqT K (upd (upd (upd H2 sh (.ins S dx (putF "style" (.ref st) (putF "rows" (.ref rl) [])))) dl (.lst [])) sh (.ins S dx (putF "deeds" (.ref dl) (putF "style" (.ref st) (putF "rows" (.ref rl) []))))) t xs := fun {t xs} h => by
      rcases x2.sqT h with (h3 | ⟨u, h3⟩) | h3
      · exact .inl (.inl (keep _ _ h3 fun z => by rw [z, hsh2] at h3; cases h3))
      · exact .inl (.inr ⟨u, keep _ _ h3 fun z => by rw [z, hsh2] at h3; cases h3⟩)
      · exact .inr h3
    refine k rl dl _ (fun b o h n m => keep b o (xn_ex x2 b o h n) m) ?_ (fun b hb => ?_) ⟨⟨dx, upd_same⟩, keep _ _ hrl2 nsr, by rw [upd_ne nshd.symm, upd_same]; rfl, ne_of_none hrl2 nd2, ⟨hP.len, fun i q r h1 h2 => sqk (hP.row i q r h1 h2)⟩, hO, ⟨sqk hS.tup, hS.g0, hS.g1, hS.l0, hS.l1⟩, by unfold PastAt; trivial, fun y hy => hy.elim⟩ (x1.old rl nrl) (x2.old dl nd2)
    · intro p hp
      obtain ⟨ps, h1, h2⟩ := x2.tab p hp
      exact ⟨ps, keep _ _ h1 (fun z => by rw [z, hsh2] at h1; cases h1), h2⟩
    · refine x2.old b ?_
      cases e : H2 b with
      | none => rfl
      | some u =>
        by_cases z : b = sh
        · rw [z, upd_same] at hb; cases hb
        · rw [keep b u e z] at hb; cases hb
end
end TGK

namespace TGK
open TG
open PySem PySem.Spec PyProof.Rows L2 Gx EnT
/-! ### Sheet.lay -/
abbrev rLenK (K : PySem.W.Frag) : List V → Hp → VK → Prop := fun xs H Q => ∃ (p : Addr) (ys : List V), xs = [V.ref p] ∧ (SqL K H p ys ∨ SqT K H p ys) ∧ Q (V.int (ys.length : Nat)) H
/-- rows that stay, by their numbers ahead and behind -/
def stayR (len n m q : Nat) : List (Nat × Nat) := (List.range n).map (fun i => (i, i)) ++ (List.range (len - (n + m))).map fun j => (n + m + j, n + q + j)
/-- what a deed tells -/
def laidR (rows new : List (List Str)) (gap least : Int) (n m : Nat) : List (List V) := movL (begsR rows gap least) (begsR (splice rows n m new) gap least) (stayR rows.length n m new.length)
theorem splice_ahead {α : Type} {xs new : List α} {n m i : Nat} (h : n + m ≤ xs.length) (hi : i < n) : (splice xs n m new)[i]? = xs[i]? := by
  unfold splice
  rw [List.append_assoc, List.getElem?_append_left (by rw [List.length_take]; omega), List.getElem?_take, if_pos hi]
theorem splice_behind {α : Type} {xs new : List α} {n m j : Nat} (h : n + m ≤ xs.length) : (splice xs n m new)[n + new.length + j]? = xs[n + m + j]? := by
  unfold splice
  rw [List.getElem?_append_right (by rw [List.length_append, List.length_take]; omega), List.length_append, List.length_take, List.getElem?_drop]
  congr 1
  omega
theorem begsR_ncl (rows : List (List Str)) (gap least : Int) (i : Nat) : (begsR rows gap least i).length = ncl rows i + 1 := begs_len ..
theorem ncl_eq {rows rows' : List (List Str)} {i i' : Nat} (h : rows[i]? = rows'[i']?) : ncl rows i = ncl rows' i' := by unfold ncl; rw [h]
theorem stay_ok {rows new : List (List Str)} {gap least : Int} {n m : Nat} (h : n + m ≤ rows.length) (hO : PgOk rows) : ∀ p ∈ stayR rows.length n m new.length, p.1 < rows.length ∧ p.2 < (splice rows n m new).length ∧ (begsR rows gap least p.1).length = (begsR (splice rows n m new) gap least p.2).length ∧ (begsR rows gap least p.1).length ≤ 6 := by
  intro p hp
  have sl := splice_len (new := new) h
  have key : ∀ i i', i < rows.length → rows[i]? = (splice rows n m new)[i']? → (begsR rows gap least i).length = (begsR (splice rows n m new) gap least i').length ∧ (begsR rows gap least i).length ≤ 6 := fun i i' hi e => by
    refine ⟨by rw [begsR_ncl, begsR_ncl, ncl_eq e], ?_⟩
    rw [begsR_ncl]
    unfold ncl
    rw [List.getElem?_eq_getElem hi]
    have := (hO.rows _ (List.getElem_mem hi)).len
    have := (hO.rows _ (List.getElem_mem hi)).pos
    show rows[i].length - 1 + 1 ≤ 6
    omega
  unfold stayR at hp
  rcases List.mem_append.mp hp with q | q
  · obtain ⟨i, hi, rfl⟩ := List.mem_map.mp q
    rw [List.mem_range] at hi
    exact ⟨by omega, by omega, key i i (by omega) (splice_ahead h hi).symm⟩
  · obtain ⟨j, hj, rfl⟩ := List.mem_map.mp q
    rw [List.mem_range] at hj
    exact ⟨by show n + m + j < _; omega, by show n + new.length + j < _; omega, key _ _ (by omega) (splice_behind h).symm⟩
theorem stay_len (len n m q : Nat) (h : n + m ≤ len) : (stayR len n m q).length ≤ len := by
  unfold stayR
  rw [List.length_append, List.length_map, List.length_map, List.length_range, List.length_range]
  omega
/-- a list of lists of values, told anew -/
structure NewL (H0 H : Hp) (D : Addr) (l : List (List V)) : Prop where
  nD : H0 D = none
  ts : ∃ ts : List Addr, H D = some (.lst (ts.map V.ref)) ∧ ts.length = l.length ∧ ∀ (j : Nat) (t : Addr) (v : List V), ts[j]? = some t → l[j]? = some v → H t = some (.tup v)
theorem TupL.pairs {H0 H : Hp} {D : Addr} {l : List (Nat × Nat)} (o : TupL H0 D (l.map v2) H) : PairL H D l := by
  obtain ⟨ts, h1, h2, h3⟩ := o.ts
  exact ⟨ts, h1, by rw [h2, List.length_map], fun j t p e1 e2 => h3 j t (v2 p) e1 (by rw [List.getElem?_map, e2]; rfl)⟩
theorem TupL.ext2 {H0 H1 H2 : Hp} {D D2 : Addr} {l l2 : List (List V)} (o : TupL H0 D l H1) (o2 : TupL H1 D2 l2 H2) : ∃ xs zs, H2 D = some (.lst xs) ∧ H2 D2 = some (.lst zs) ∧ xs.length = l.length ∧ zs.length = l2.length ∧ TupL H0 D (l ++ l2) (upd H2 D (.lst (xs ++ zs))) := by
  obtain ⟨ts, h1, h2, h3⟩ := (o.grow o2.sm).ts
  obtain ⟨us, g1, g2, g3⟩ := o2.ts
  have tD : ∀ {t : Addr} {v : List V}, H2 t = some (.tup v) → t ≠ D := fun {t v} h z => by rw [z, h1] at h; cases h
  refine ⟨_, _, h1, g1, by rw [List.length_map, h2], by rw [List.length_map, g2], fun b u e => ?_, o.nD, ts ++ us, by rw [upd_same]; simp, by rw [List.length_append, List.length_append, h2, g2], fun j t v e1 e2 => ?_⟩
  · rw [upd_ne (ne_of_none e o.nD)]
    exact o2.sm b u (o.sm b u e)
  · by_cases hj : j < ts.length
    · rw [List.getElem?_append_left hj] at e1
      rw [List.getElem?_append_left (by rw [← h2]; exact hj)] at e2
      have := h3 j t v e1 e2
      rw [upd_ne (tD this)]
      exact this
    · rw [List.getElem?_append_right (by omega)] at e1
      rw [List.getElem?_append_right (by rw [← h2]; omega), ← h2] at e2
      have := g3 _ t v e1 e2
      rw [upd_ne (tD this)]
      exact this
theorem tabs_lst {cs : List (Addr × Addr)} {H : Hp} {a : Addr} {us : List V} {o : HO} (t : Tabs cs H) (h : H a = some (.lst us)) : Tabs cs (upd H a o) := fun p hp => by
  obtain ⟨ps, h1, h2⟩ := t p hp
  exact ⟨ps, by rw [upd_ne fun z => by rw [z, h] at h1; cases h1]; exact h1, h2⟩
section
variable {P : Program} {w : World} {K : PySem.W.Frag} {mg : Str → Option Value} {base : Heap} {cs : List (Addr × Addr)} {S R C G : Addr}
/-- what comes of a deed that can be done: the sheet, and what it tells -/
structure Done (K : PySem.W.Frag) (cs : List (Addr × Addr)) (S : Addr) (H H' : Hp) (sh rl dl st : Addr) (rows : List (List Str)) (gap least : Int) (ps : List (List (List Str))) (av : Addr → Prop) (D : Addr) (l : List (List V)) : Prop where
  ext : ExtS cs rl dl H H'
  tab : Tabs cs H'
  old : ∀ b, H' b = none → H b = none
  sht : ∃ as ts, ShtD K S H' sh rl dl st as rows gap least ts ps (fun x => av x ∨ x = D)
  told : NewL H H' D l
def spLay (K : PySem.W.Frag) (cs : List (Addr × Addr)) (S R C : Addr) : Sp := fun vs H Q E => ∃ (sh rl dl st nl : Addr) (as nas : List Addr) (rows new : List (List Str)) (gap least : Int) (ts : List Addr) (ps : List (List (List Str))) (av : Addr → Prop) (n m : Nat), vs = [.ref sh, .int (n : Nat), .int (m : Nat), .ref nl] ∧ Tabs cs H ∧
  ShtD K S H sh rl dl st as rows gap least ts ps av ∧ ps.length ≤ 3000 ∧ H nl = some (.lst (nas.map V.ref)) ∧ nl ≠ rl ∧ nl ≠ dl ∧ RowsAt K H nas new ∧ new.length ≤ 2 ∧ (∀ r ∈ new, RowL r 100 100) ∧ n + m ≤ rows.length ∧
  (fitsR ((rows.length : Nat) - (m : Nat) + (new.length : Nat)) new = true → ∀ D H', Done K cs S H H' sh rl dl st (splice rows n m new) gap least (rows :: ps) av D (laidR rows new gap least n m) → Q (.ref D) H') ∧
  (fitsR ((rows.length : Nat) - (m : Nat) + (new.length : Nat)) new = false → ∀ H', Ex cs H H' → E (.ref (clsF R C ((rows.length : Nat) - (m : Nat) + (new.length : Nat)))) none H')
abbrev nmLay : List Str := ["self", "number", "many", "rows", "before", "others", "row"]
theorem sc_lay : FnScope nmLay ["self", "number", "many", "rows"] (defScope (mth nSheet 11)) := ⟨rfl, rfl, rfl, by decide +kernel, rfl, by decide +kernel, by decide +kernel⟩
theorem fits_ok {rows new : List (List Str)} {n m : Nat} (hO : PgOk rows) (h : n + m ≤ rows.length) (hL : ∀ r ∈ new, RowL r 100 100) (f : fitsR ((rows.length : Nat) - (m : Nat) + (new.length : Nat)) new = true) : PgOk (splice rows n m new) := by
  unfold fitsR at f
  rw [Bool.and_eq_true, decide_eq_true_iff, List.all_eq_true] at f
  obtain ⟨⟨f1, f2⟩, f3⟩ := f
  have sl := splice_len (new := new) h
  refine ⟨by omega, by omega, fun r hr => ?_⟩
  unfold splice at hr
  rcases List.mem_append.mp hr with q | q
  · rcases List.mem_append.mp q with q | q
    · exact hO.rows r (List.mem_of_mem_take q)
    · exact (hL r q).fit.mp (f3 r q)
  · exact hO.rows r (List.mem_of_mem_drop q)
theorem ok_lay {f g1 g2 g3 : Addr} {fd fd1 fd2 fd3 : FuncData} (T : Txt mg) (X : ShC K S) (F : Fun K "lay" "Sheet.lay" (mth nSheet 11) f fd)
    (G1 : FnOk P w K mg base (L2.CX P w) 11 g1 fd1 ["many", "rows"] (spFits K cs R C)) (k1 : PySem.W.keepIn K (.ref g1) = true) (b1 : Binds K fd1 ["many", "rows"] []) (m1 : mg "check_fits" = some (.ref g1))
    (M2 : Meth K S "begins" g2) (G2 : FnOk P w K mg base CX0 15 g2 fd2 ["self"] (spShBegins K cs S)) (b2 : Binds K fd2 ["self"] [])
    (G3 : FnOk P w K mg base CX0 1 g3 fd3 ["before", "after", "others"] spMov) (k3 : PySem.W.keepIn K (.ref g3) = true) (b3 : Binds K fd3 ["before", "after", "others"] []) (m3 : mg "moved" = some (.ref g3)) :
    FnOk P w K mg base (L2.CX P w) 16 f fd ["self", "number", "many", "rows"] (spLay K cs S R C) := by
  refine F.okX sc_lay (fun vs H Q E h => ?_) (fun cdv A outer s H vs Q E hr h => ?_)
  · obtain ⟨sh, rl, dl, st, nl, as, nas, rows, new, gap, least, ts, ps, av, n, m, rfl, _⟩ := h
    rfl
  · obtain ⟨sh, rl, dl, st, nl, as, nas, rows, new, gap, least, ts, ps, av, n, m, rfl, hT, hS, hps, hN, nr, ndl, hA, h2, hL, hnm, kq, ke⟩ := h
    have nd := sc_lay.nd
    have r10 : Room 11 _ := hr.mono (by decide)
    have r14 : Room 15 _ := hr
    have r1 : Room 1 _ := hr.mono (by decide)
    refine ⟨_, pss_cons (ps_expr (pe_callS G1 r10 (by rfl) m1 k1 b1 (fun σ => passAt (takes_of rfl rfl rfl rfl) σ) (pa_cons (pe_op op_add (pe_op op_sub (pe_callB call_len_seq (by rfl) T.len PySem.boot_len (pa_cons (pe_fld (pv 0) rfl) pa_nil)) (pv 2)) (pe_callB call_len_seq (by rfl) T.len PySem.boot_len (pa_cons (pv 3) pa_nil))) (pa_cons (pv 3) pa_nil))))
      (pss_cons (ps_set (i := 4) nd rfl (.inl rfl) (pe_meth0 (pv 0) X.cS M2 G2 r14 b2 .nil pass0))
      (pss_cons (ps_expr (pe_bm PySem.F.plainAttrs_list PySem.F.slot_list_append PySem.F.type_list_append mt_append (pe_fld (pv 0) rfl) (pa_cons (pe_tup (pa_cons (pv 1) (pa_cons (pe_callB call_len_seq (by rfl) T.len PySem.boot_len (pa_cons (pv 3) pa_nil)) (pa_cons (pe_slice sl_list (pe_fld (pv 0) rfl) (po_some (pv 1)) (po_some (pe_op op_add (pv 1) (pv 2)))) pa_nil)))) pa_nil)))
      (pss_cons (ps_asg (pv 3) (pg_slice (pe_fld (pv 0) rfl) (pv 1) (pe_op op_add (pv 1) (pv 2))))
      (pss_cons (ps_setLc (i := 5) (own := [("row", 6)]) (g := gName 6) (tt := tYes) rfl nd rfl rfl (sw_true rfl rfl rfl (by decide +kernel)) (pi_range1 (by rfl) T.range (pa_cons (pv 1) pa_nil)) (blkOk_by (own := [("row", 6)]) (N := nmLay) (sc := defScope (mth nSheet 11)) (by decide +kernel)) (fun _ _ _ _ _ => pg_name (i := 6) nd rfl (Or.inl rfl)) (fun _ _ _ _ _ => pts_nil) (fun _ _ _ _ _ => pe_tup (pa_cons (pv 6) (pa_cons (pv 6) pa_nil))))
      (pss_cons (ps_aug (i := 5) nd rfl (.inl rfl) (pe_lc (own := [("row", 6)]) (g := gName 6) (tt := tYes) rfl nd (pi_range2 (by rfl) T.range (pa_cons (pe_op op_add (pv 1) (pv 2)) (pa_cons (pe_callB call_len_seq (by rfl) T.len PySem.boot_len (pa_cons (pv 4) pa_nil)) pa_nil))) (blkOk_by (own := [("row", 6)]) (N := nmLay) (sc := defScope (mth nSheet 11)) (by decide +kernel)) (fun _ _ _ _ _ => pg_name (i := 6) nd rfl (Or.inl rfl)) (fun _ _ _ _ _ => pts_nil) (fun _ _ _ _ _ => pe_tup (pa_cons (pv 6) (pa_cons (pe_op op_add (pe_op op_sub (pv 6) (pv 2)) (pe_callB (r := rLenK K) call_len_seq (by rfl) T.len PySem.boot_len (pa_cons (pv 3) pa_nil))) pa_nil)))) iop_ext)
      (pss_one (ps_ret (pe_call G3 r1 (by rfl) m3 k3 b3 .nil pass0 (pa_cons (pv 4) (pa_cons (pe_meth0 (pv 0) X.cS M2 G2 r14 b2 .nil pass0) (pa_cons (pv 5) pa_nil))))))))))), ?_⟩
    obtain ⟨dx, h1⟩ := hS.she
    have la : (as.map V.ref).length = rows.length := by rw [List.length_map, hS.at_.len]
    have ln : (nas.map V.ref).length = new.length := by rw [List.length_map, hA.len]
    have h30 := hS.ok.len
    have szl : (1000 : Nat) < sizeLine := by decide
    refine ⟨_, rfl, sh, S, dx, _, _, rfl, h1, X.cS, X.nRows, rfl, rl, _, rfl, .inl hS.page.lst, _, rfl, _, _, rfl, rfl, _, rfl, nl, _, rfl, .inl (SqL.of hN), _, _, rfl, rfl, _, rfl, ?_⟩
    rw [la, ln]
    refine ⟨_, nl, nas, new, rfl, hT, hN, hA, hL, fun ff H1 x1 => ?_, fun ff H1 x1 => ke ff H1 x1⟩
    have hS1 := hS.gw x1.ext
    have hN1 := x1.lst hN
    obtain ⟨dx1, h11⟩ := hS1.she
    refine ⟨_, rfl, sh, dx1, _, rfl, h11, rfl, sh, rl, dl, st, as, rows, gap, least, ts, ps, av, rfl, x1.tab, hS1, fun r0 es0 H2 x2 nr0 ne0 tA0 => ?_⟩
    have hS2 := hS1.gw x2.ext
    have hN2 := x2.lst hN1
    have x12 := x1.trans x2
    obtain ⟨dx2, h21⟩ := hS2.she
    refine ⟨_, rfl, sh, S, dx2, _, _, rfl, h21, X.cS, X.nDeeds, rfl, .inl ⟨rfl, _, SqL.of hS2.dl_⟩, _, rfl, _, rfl, nl, _, rfl, .inl (SqL.of hN2), _, rfl, sh, S, dx2, _, _, rfl, h21, X.cS, X.nRows, rfl, _, rfl, _, rfl, _, rfl, _, rfl, _, _, rfl, rfl, _, rfl, rl, _, rfl, SqL.of hS2.rl_, fun l nl0 => ⟨by show 3 ≤ sizeLine; decide, fun t nt => ?_⟩⟩
    have las : as.length = rows.length := hS.at_.len
    have lns : nas.length = new.length := hA.len
    have eL : cutV (as.map V.ref) (some ((n : Nat) : Int)) (some (((n : Nat) : Int) + ((m : Nat) : Int))) = ((as.drop n).take m).map V.ref := by
      rw [cutV_map, show ((n : Nat) : Int) + ((m : Nat) : Int) = ((n + m : Nat) : Int) by omega, cutL_mid (by omega) (by omega), show n + m - n = m by omega]
    rw [eL] at nt ⊢
    have y4 : Same H2 (upd (upd H2 l (.lst (((as.drop n).take m).map V.ref))) t (.tup [.int (n : Nat), .int ((nas.map V.ref).length : Nat), .ref l])) := same_tr (same_new nl0) (same_new nt)
    have hl4 : upd (upd H2 l (.lst (((as.drop n).take m).map V.ref))) t (.tup [.int (n : Nat), .int ((nas.map V.ref).length : Nat), .ref l]) l = some (.lst (((as.drop n).take m).map V.ref)) := by rw [upd_ne (ne_of_none upd_same nt), upd_same]
    have ht4 : upd (upd H2 l (.lst (((as.drop n).take m).map V.ref))) t (.tup [.int (n : Nat), .int ((nas.map V.ref).length : Nat), .ref l]) t = some (.tup [.int (n : Nat), .int ((nas.map V.ref).length : Nat), .ref l]) := upd_same
    generalize upd (upd H2 l (.lst (((as.drop n).take m).map V.ref))) t (.tup [.int (n : Nat), .int ((nas.map V.ref).length : Nat), .ref l]) = H4 at y4 hl4 ht4 ⊢
    rw [List.length_map] at ht4
    have hS4 := hS2.gw (same_ext y4)
    have lts : ts.length ≤ 3000 := by rw [hS.past.len]; exact hps
    have nlr : l ≠ rl := fun z => by rw [z, hS2.rl_] at nl0; cases nl0
    have nld : l ≠ dl := fun z => by rw [z, hS2.dl_] at nl0; cases nl0
    refine ⟨dl, _, _, rfl, rfl, hS4.dl_, by rw [List.length_map, List.length_reverse]; exact Nat.lt_of_le_of_lt lts (by decide : (3000 : Nat) < sizeLine), ?_⟩
    obtain ⟨nsr, nsd⟩ := hS4.ns
    have hN4 := y4 _ _ hN2
    obtain ⟨dx4, h41⟩ := hS4.she
    refine ⟨_, rfl, _, rfl, sh, S, dx4, _, _, rfl, by rw [upd_ne nsd]; exact h41, X.cS, X.nRows, rfl, _, rfl, _, rfl, _, rfl, _, rfl, _, rfl, _, _, rfl, rfl, _, rfl, _, rfl, rl, nl, _, _, rfl, rfl, by rw [upd_ne hS4.ne]; exact hS4.rl_, by rw [upd_ne ndl]; exact hN4, nr.symm, by omega, by omega, by rw [la]; omega, by rw [la, ln]; omega, ?_⟩
    have eM : (as.map V.ref).take (((n : Nat) : Int)).toNat ++ nas.map V.ref ++ (as.map V.ref).drop ((((n : Nat) : Int) + ((m : Nat) : Int))).toNat = (splice as n m nas).map V.ref := by
      rw [show ((((n : Nat) : Int) + ((m : Nat) : Int))).toNat = n + m by omega, show (((n : Nat) : Int)).toNat = n by omega]
      unfold splice
      rw [List.map_append, List.map_append, List.map_take, List.map_drop]
    rw [eM]
    have x46 : ExtS cs rl dl H4 (upd (upd H4 dl (.lst (ts.reverse.map V.ref ++ [.ref t]))) rl (.lst ((splice as n m nas).map V.ref))) := fun b o h _ q1 q2 => by rw [upd_ne q1, upd_ne q2]; exact h
    have t4 : Tabs cs H4 := tabs_ext x12.tab y4
    have t6 : Tabs cs (upd (upd H4 dl (.lst (ts.reverse.map V.ref ++ [.ref t]))) rl (.lst ((splice as n m nas).map V.ref))) := tabs_lst (tabs_lst t4 hS4.dl_) (by rw [upd_ne hS4.ne]; exact hS4.rl_)
    have hpos := fits_ok hS.ok hnm hL ff
    have lsp : (splice as n m nas).length = as.length - m + nas.length := splice_len (by omega)
    have bk : splice (splice as n m nas) n nas.length ((as.drop n).take m) = as := splice_back (by omega)
    have hS6 : ShtD K S (upd (upd H4 dl (.lst (ts.reverse.map V.ref ++ [.ref t]))) rl (.lst ((splice as n m nas).map V.ref))) sh rl dl st (splice as n m nas) (splice rows n m new) gap least (t :: ts) (rows :: ps) av := by
      refine ⟨⟨dx4, by rw [upd_ne nsr, upd_ne nsd]; exact h41⟩, upd_same, by rw [upd_ne hS4.ne.symm, upd_same, List.reverse_cons, List.map_append]; rfl, hS4.ne, ?_, hpos, hS4.style.exs x46 hS4.rl_ hS4.dl_, ?_, hS4.live2 x46 upd_same (by rw [upd_ne hS4.ne.symm]; exact upd_same)⟩
      · exact (hS4.at_.exs x46 hS4.rl_ hS4.dl_).splice (((hA.gw x12.ext).gw (same_ext y4)).exs x46 hS4.rl_ hS4.dl_)
      · unfold PastAt
        refine ⟨n, nas.length, (as.drop n).take m, l, tup_exs x46 hS4.rl_ hS4.dl_ ht4, x46 _ _ hl4 (.inl fun ps z => by cases z) nlr nld, nlr, nld, (fun q => by obtain ⟨u, e, _⟩ := hS2.live l q; rw [nl0] at e; cases e), by omega, by rw [List.length_take, List.length_drop]; omega, ?_, hS.ok, ?_⟩
        · rw [bk]
          exact hS4.at_.exs x46 hS4.rl_ hS4.dl_
        · rw [bk]
          exact hS4.past.exs x46 hS4.rl_ hS4.dl_
    have old6 : ∀ b, upd (upd H4 dl (.lst (ts.reverse.map V.ref ++ [.ref t]))) rl (.lst ((splice as n m nas).map V.ref)) b = none → H b = none := fun b hb => by
      refine x12.old b (same_old y4 ?_)
      by_cases q1 : b = rl
      · rw [q1, upd_same] at hb; cases hb
      · rw [upd_ne q1] at hb
        by_cases q2 : b = dl
        · rw [q2, upd_same] at hb; cases hb
        · rw [upd_ne q2] at hb; exact hb
    have x06 : ExtS cs rl dl H (upd (upd H4 dl (.lst (ts.reverse.map V.ref ++ [.ref t]))) rl (.lst ((splice as n m nas).map V.ref))) := ExtS.after (xn_tr (xn_ex x12) (same_xn y4)) x46
    have nr0' : H r0 = none := x1.old _ nr0
    have tA6 : ToldAt (upd (upd H4 dl (.lst (ts.reverse.map V.ref ++ [.ref t]))) rl (.lst ((splice as n m nas).map V.ref))) r0 es0 (begsR rows gap least) rows.length := by
      have tA4 := tA0.ext (same_ext y4)
      have q1 : r0 ≠ rl := fun z => by rw [z, hS1.rl_] at nr0; cases nr0
      have q2 : r0 ≠ dl := fun z => by rw [z, hS1.dl_] at nr0; cases nr0
      refine ⟨by rw [upd_ne q1, upd_ne q2]; exact tA4.lst, tA4.len, tA4.nd, fun i e he => ?_⟩
      have ne1 := (ne0 e (List.mem_of_getElem? he)).1
      have q3 : e ≠ rl := fun z => by rw [z, hS1.rl_] at ne1; cases ne1
      have q4 : e ≠ dl := fun z => by rw [z, hS1.dl_] at ne1; cases ne1
      rw [upd_ne q3, upd_ne q4]
      exact tA4.at_ i e he
    have hN6 : upd (upd H4 dl (.lst (ts.reverse.map V.ref ++ [.ref t]))) rl (.lst ((splice as n m nas).map V.ref)) nl = some (.lst (nas.map V.ref)) := by rw [upd_ne nr, upd_ne ndl]; exact hN4
    generalize upd (upd H4 dl (.lst (ts.reverse.map V.ref ++ [.ref t]))) rl (.lst ((splice as n m nas).map V.ref)) = H6 at t6 hS6 old6 x06 tA6 hN6 ⊢
    clear x46
    refine ⟨_, rfl, _, rfl, by omega, by omega, fun D1 nD1 => ?_⟩
    refine lc_range (n := (((n : Nat) : Int)).toNat) (fun j H' => TupL H6 D1 (((List.range j).map fun i => (i, i)).map v2) H') (TupL.start nD1) ?_ ?_
    · rintro j H7 hj o3
      refine ⟨rfl, _, rfl, _, rfl, by show 2 ≤ sizeLine; decide, fun t7 nt7 => ?_⟩
      have o4 := o3.grow (same_new (o := .tup [.int (0 + (j : Nat)), .int (0 + (j : Nat))]) nt7)
      obtain ⟨acc, w1, w2, w3⟩ := o4.more (t := t7) (v := [.int (0 + (j : Nat)), .int (0 + (j : Nat))]) upd_same
      refine ⟨acc, w1, by rw [w2, List.length_map, List.length_map, List.length_range]; omega, ?_⟩
      rw [List.range_succ, List.map_append, List.map_append]
      have e0 : ∀ n : Nat, (0 + ((n : Nat) : Int)) = ((n : Nat) : Int) := fun n => Int.zero_add _
      simp only [e0] at w3 ⊢
      exact w3
    intro H7 o7
    rw [show (((n : Nat) : Int)).toNat = n by omega] at o7
    have tA7 := tA6.ext (same_ext o7.sm)
    have le0 : (es0.map V.ref).length = rows.length := by rw [List.length_map, tA7.len]
    refine ⟨_, rfl, _, rfl, _, rfl, _, _, rfl, rfl, _, rfl, r0, _, rfl, .inl (SqL.of tA7.lst), _, _, rfl, ⟨by omega, by omega, by omega, by omega⟩, fun D2 nD2 => ?_⟩
    rw [le0, show (((rows.length : Nat) : Int) - (((n : Nat) : Int) + ((m : Nat) : Int))).toNat = rows.length - (n + m) by omega]
    have hN7 := o7.sm _ _ hN6
    refine lc_range (n := rows.length - (n + m)) (fun j H' => TupL H7 D2 (((List.range j).map fun j => (n + m + j, n + new.length + j)).map v2) H') (TupL.start nD2) ?_ ?_
    · rintro j H8 hj o3
      refine ⟨rfl, _, rfl, _, rfl, _, rfl, _, _, rfl, rfl, _, rfl, nl, _, rfl, .inl (SqL.of (o3.sm _ _ hN7)), _, _, rfl, rfl, by show 2 ≤ sizeLine; decide, fun t8 nt8 => ?_⟩
      have e1 : ((n : Nat) : Int) + ((m : Nat) : Int) + ((j : Nat) : Int) = ((n + m + j : Nat) : Int) := by omega
      have e2 : ((n : Nat) : Int) + ((m : Nat) : Int) + ((j : Nat) : Int) - ((m : Nat) : Int) + (((nas.map V.ref).length : Nat) : Int) = ((n + new.length + j : Nat) : Int) := by rw [ln]; omega
      rw [e1] at e2
      dsimp only
      rw [e1, e2]
      have o4 := o3.grow (same_new (o := .tup [.int ((n + m + j : Nat) : Int), .int ((n + new.length + j : Nat) : Int)]) nt8)
      obtain ⟨acc, w1, w2, w3⟩ := o4.more (t := t8) (v := [.int ((n + m + j : Nat) : Int), .int ((n + new.length + j : Nat) : Int)]) upd_same
      refine ⟨acc, w1, by rw [w2, List.length_map, List.length_map, List.length_range]; omega, ?_⟩
      rw [List.range_succ, List.map_append, List.map_append]
      exact w3
    intro H8 o8
    obtain ⟨xs, zs, w1, w2, w3, w4, w5⟩ := o7.ext2 o8
    refine ⟨D1, D2, xs, zs, rfl, rfl, w1, w2, by rw [w3, w4, List.length_map, List.length_map, List.length_range, List.length_map, List.length_map, List.length_range]; omega, ?_⟩
    rw [← List.map_append] at w5
    generalize upd H8 D1 (.lst (xs ++ zs)) = H9 at w5 ⊢
    have hS9 := hS6.gw (same_ext w5.sm)
    have t9 : Tabs cs H9 := tabs_ext t6 w5.sm
    obtain ⟨dx9, h91⟩ := hS9.she
    refine ⟨_, rfl, _, rfl, sh, dx9, _, rfl, h91, rfl, sh, rl, dl, st, splice as n m nas, splice rows n m new, gap, least, t :: ts, rows :: ps, av, rfl, t9, hS9, fun r1' es1 H10 x10 nr1 ne1 tA1 => ⟨_, rfl, ?_⟩⟩
    have pl : PairL H10 D1 (stayR rows.length n m new.length) := by
      obtain ⟨us, p1, p2, p3⟩ := w5.pairs.ts
      exact ⟨us, x10.lst p1, p2, fun j t p e1 e2 => x10.tup (p3 j t p e1 e2)⟩
    refine ⟨r0, r1', D1, es0, es1, _, _, _, _, _, rfl, (tA6.ext (same_ext w5.sm)).ext x10.ext, tA1, pl, stay_ok hnm hS.ok, by have := stay_len rows.length n m new.length hnm; omega, fun D H11 o11 => ?_⟩
    refine kq ff D H11 ⟨?_, ?_, ?_, ?_, ?_⟩
    · exact ((x06.gw (same_xn w5.sm)).gw (xn_ex x10)).gw (same_xn o11.sm)
    · exact tabs_ext x10.tab o11.sm
    · exact fun b hb => old6 b (same_old w5.sm (x10.old b (same_old o11.sm hb)))
    · obtain ⟨us, hus, _⟩ := o11.ts
      exact ⟨_, _, (hS9.gw x10.ext).new o11.nD (same_ext o11.sm) hus⟩
    · exact ⟨old6 _ (same_old w5.sm (x10.old _ o11.nD)), o11.ts⟩
end
end TGK

namespace TGK
open TG
open PySem PySem.Spec PyProof.Rows L2 Gx EnT
/-! ### methods that may raise -/
def tMethS (C : Addr) (m : Str) (sp : Sp) (E : L2.St → XK) (ta : TE) (t : L2.TA) : TE := fun σ H Q => ta σ H fun x H1 => ∃ a dx fs, x = .ref a ∧ H1 a = some (.ins C dx fs) ∧ fs.lookup m = none ∧ t σ H1 fun vs H2 => sp (.ref a :: vs) H2 Q (E σ)
section
variable {X : Cx} {CX : CXT} {k : Nat} {f C : Addr} {fd : FuncData} {ps : List Str} {sp : Sp} {E : L2.St → XK} {x m : Str} {p pos apos : Pos} {e o : Expr} {es : List Expr} {ta : TE} {t : L2.TA}
theorem pe_methS {pl : Sem Bool} (he : PE X o ta) (c : Cls X.K C) (hm : Meth X.K C m f) (F : FnOk X.prog X.w X.K X.mg X.base CX k f fd ps sp) (hr : Room k X.A) (hb : Binds X.K fd ps []) (hx : ∀ σ, PassesAt CX X σ (E σ)) (ha : PA X (e :: es) t)
    (hst : starEach (e :: es) X.env = (false, eval e X.env) :: starEach es X.env := by rfl) (hpl : (backTo pos (starEach es X.env)).any (·.1) = false := by rfl)
    (ht : eval (.Call (.Attribute o m apos) (e :: es) [] pos) X.env = (do
      let ov ← eval o X.env
      standAt apos.atName
      let (f, first) ← holding [ov] (getMethod ov m pl)
      callWith pos f first (backTo pos (starEach (e :: es) X.env)) (backToKw pos (keywordEach [] X.env))) := by rfl) :
    PE X (.Call (.Attribute o m apos) (e :: es) [] pos) (tMethS C m sp E ta t) := by
  refine ⟨fun pins s σ H Q I h => ?_⟩
  refine PySem.W.methodCall_KW (pl := pl) (thn (he.run pins s σ H _ I h) fun u s1 ⟨x, H1, I1, rx, a, dx, fs, ex, ea, l, q⟩ => ?_) ht
  subst ex
  obtain rfl : u = Value.ref a := rx
  refine getmeth_ok I1 ea c hm l ?_
  refine PySem.W.callWith_K (first := [.ref a]) (h₀ := X.base) I.ok.mod.kin hm.kp (thn (ha.run pos pins s1 σ H1 _ I1 q) fun us s2 ⟨vs, H2, I2, r, q2⟩ => ⟨I2.kIn, ?_⟩) hst hpl
  exact run_fnS (us := .ref a :: us) (vs := .ref a :: vs) F hr hb (hx σ) I2 (.cons rfl r) q2
end
/-! ### deeds -/
inductive Deed where
  | put (n : Nat) (r : List Str)
  | take (n : Nat)
  | change (n : Nat) (r : List Str)
  | strike (n c k : Nat) (z : Str)
  | erase (n c k : Nat)
  | part (n c k : Nat)
  | unite (n : Nat)
  | back
abbrev rowN (rows : List (List Str)) (n : Nat) : List Str := rows.getD n []
/-- where a deed lays how many rows anew, and which; none, where it is refused ahead -/
def cutD (rows : List (List Str)) : Deed → Option (Nat × Nat × List (List Str))
  | .put n r => some (n, 0, [r])
  | .take n => some (n, 1, [])
  | .change n r => some (n, 1, [r])
  | .strike n c k z => some (n, 1, [if z = tabS then halvA (rowN rows n) c k ++ halvB (rowN rows n) c k else joinR (joinR (halvA (rowN rows n) c k) [z]) (halvB (rowN rows n) c k)])
  | .erase n c k => (lessR (halvB (rowN rows n) c k)).map fun b => (n, 1, [joinR (halvA (rowN rows n) c k) b])
  | .part n c k => some (n, 1, [halvA (rowN rows n) c k, halvB (rowN rows n) c k])
  | .unite n => if n + 1 < rows.length then some (n, 2, [joinR (rowN rows n) (rowN rows (n + 1))]) else none
  | .back => none
/-- a place of a cell -/
structure PlOk (rows : List (List Str)) (n c k : Nat) : Prop where
  n_ : n < rows.length
  c_ : c < (rowN rows n).length
  k_ : k ≤ ((rowN rows n).getD c nilS).length
def DOk (rows : List (List Str)) : Deed → Prop
  | .put n r => n ≤ rows.length ∧ RowOk r
  | .take n => n < rows.length
  | .change n r => n < rows.length ∧ RowOk r
  | .strike n c k z => PlOk rows n c k ∧ (z = tabS ∨ (Sgs z 1 ∧ z ≠ nilS))
  | .erase n c k => PlOk rows n c k
  | .part n c k => PlOk rows n c k
  | .unite n => n < rows.length
  | .back => True
/-- the page behind a deed, and what it tells; none, where it is refused -/
def goneD (rows : List (List Str)) (gap least : Int) (d : Deed) : Option (List (List Str) × List (List V)) := (cutD rows d).bind fun p =>
  if fitsR ((rows.length : Nat) - (p.2.1 : Nat) + (p.2.2.length : Nat)) p.2.2 = true then some (splice rows p.1 p.2.1 p.2.2, laidR rows p.2.2 gap least p.1 p.2.1) else none
theorem rowN_ok {rows : List (List Str)} {n : Nat} (hO : PgOk rows) (h : n < rows.length) : RowOk (rowN rows n) := by
  unfold rowN
  rw [List.getD_eq_getElem?_getD, List.getElem?_eq_getElem h]
  exact hO.rows _ (List.getElem_mem h)
theorem rowN_get {rows : List (List Str)} {n : Nat} (h : n < rows.length) : rows[n]? = some (rowN rows n) := by
  unfold rowN
  rw [List.getD_eq_getElem?_getD, List.getElem?_eq_getElem h]
  rfl
section
variable {P : Program} {w : World} {K : PySem.W.Frag} {mg : Str → Option Value} {base : Heap} {cs : List (Addr × Addr)} {S R C G : Addr}
/-- which class a refused deed raises -/
def errD (R C : Addr) (rows : List (List Str)) (d : Deed) : Addr := match cutD rows d with
  | some p => clsF R C ((rows.length : Nat) - (p.2.1 : Nat) + (p.2.2.length : Nat))
  | none => match d with
    | .unite _ => R
    | _ => C
theorem errD_or {R C : Addr} {rows : List (List Str)} {d : Deed} : errD R C rows d = R ∨ errD R C rows d = C := by
  unfold errD clsF
  split
  · split
    · exact .inr rfl
    · exact .inl rfl
  · split
    · exact .inl rfl
    · exact .inr rfl
/-- what a caller wants of a deed -/
structure After (K : PySem.W.Frag) (cs : List (Addr × Addr)) (S R C : Addr) (H : Hp) (Q : VK) (E : XK) (sh rl dl st : Addr) (rows : List (List Str)) (gap least : Int) (ps : List (List (List Str))) (av : Addr → Prop) (d : Deed) : Prop where
  yes : ∀ rows' l, goneD rows gap least d = some (rows', l) → ∀ D H', Done K cs S H H' sh rl dl st rows' gap least (rows :: ps) av D l → Q (.ref D) H'
  no : goneD rows gap least d = none → ∀ H', Ex cs H H' → E (.ref (errD R C rows d)) none H'
theorem Done.after {H H1 H' : Hp} {sh rl dl st D : Addr} {rows : List (List Str)} {gap least : Int} {ps : List (List (List Str))} {av : Addr → Prop} {l : List (List V)} (x : Ex cs H H1) (d : Done K cs S H1 H' sh rl dl st rows gap least ps av D l) : Done K cs S H H' sh rl dl st rows gap least ps av D l :=
  ⟨ExtS.after (xn_ex x) d.ext, d.tab, fun b hb => x.old b (d.old b hb), d.sht, ⟨x.old _ d.told.nD, d.told.ts⟩⟩
theorem lay_go {H H1 : Hp} {Q : VK} {E : XK} {sh rl dl st nl : Addr} {as nas : List Addr} {rows new : List (List Str)} {gap least : Int} {ts : List Addr} {ps : List (List (List Str))} {av : Addr → Prop} {d : Deed} {n m : Nat} (a : After K cs S R C H Q E sh rl dl st rows gap least ps av d) (x : Ex cs H H1) (hc : cutD rows d = some (n, m, new))
    (hS : ShtD K S H1 sh rl dl st as rows gap least ts ps av) (hps : ps.length ≤ 3000) (hN : H1 nl = some (.lst (nas.map V.ref))) (nr : nl ≠ rl) (nd : nl ≠ dl) (hA : RowsAt K H1 nas new) (h2 : new.length ≤ 2) (hL : ∀ r ∈ new, RowL r 100 100) (hnm : n + m ≤ rows.length) :
    spLay K cs S R C [.ref sh, .int (n : Nat), .int (m : Nat), .ref nl] H1 Q E := by
  refine ⟨sh, rl, dl, st, nl, as, nas, rows, new, gap, least, ts, ps, av, n, m, rfl, x.tab, hS, hps, hN, nr, nd, hA, h2, hL, hnm, fun f D H' dn => ?_, fun f H' x2 => ?_⟩
  · refine a.yes _ _ ?_ D H' (dn.after x)
    unfold goneD
    rw [hc, Option.bind_some, if_pos f]
  · have ed : errD R C rows d = clsF R C ((rows.length : Nat) - (m : Nat) + (new.length : Nat)) := by unfold errD; rw [hc]
    rw [← ed]
    refine a.no ?_ H' (x.trans x2)
    unfold goneD
    rw [hc, Option.bind_some, if_neg (by rw [f]; exact Bool.false_ne_true)]
theorem no_go {H H1 : Hp} {Q : VK} {E : XK} {sh rl dl st : Addr} {rows : List (List Str)} {gap least : Int} {ps : List (List (List Str))} {av : Addr → Prop} {d : Deed} {c : Addr} (a : After K cs S R C H Q E sh rl dl st rows gap least ps av d) (x : Ex cs H H1) (hc : cutD rows d = none) (h : c = errD R C rows d) : E (.ref c) none H1 := by
  rw [h]
  refine a.no ?_ H1 x
  unfold goneD
  rw [hc]
  rfl
/-- a sheet as it stands, and what is wanted of a deed of it -/
def DeedAt (K : PySem.W.Frag) (cs : List (Addr × Addr)) (S R C : Addr) (H : Hp) (Q : VK) (E : XK) (sh : Addr) (d : Deed) : Prop := ∃ (rl dl st : Addr) (as : List Addr) (rows : List (List Str)) (gap least : Int) (ts : List Addr) (ps : List (List (List Str))) (av : Addr → Prop),
  Tabs cs H ∧ ShtD K S H sh rl dl st as rows gap least ts ps av ∧ ps.length ≤ 3000 ∧ DOk rows d ∧ After K cs S R C H Q E sh rl dl st rows gap least ps av d
def spPut (K : PySem.W.Frag) (cs : List (Addr × Addr)) (S R C : Addr) : Sp := fun vs H Q E => ∃ (sh q : Addr) (n : Nat) (r : List Str), vs = [.ref sh, .int (n : Nat), .ref q] ∧ SqT K H q (sV r) ∧ DeedAt K cs S R C H Q E sh (.put n r)
def spTakeD (K : PySem.W.Frag) (cs : List (Addr × Addr)) (S R C : Addr) : Sp := fun vs H Q E => ∃ (sh : Addr) (n : Nat), vs = [.ref sh, .int (n : Nat)] ∧ DeedAt K cs S R C H Q E sh (.take n)
def spChange (K : PySem.W.Frag) (cs : List (Addr × Addr)) (S R C : Addr) : Sp := fun vs H Q E => ∃ (sh q : Addr) (n : Nat) (r : List Str), vs = [.ref sh, .int (n : Nat), .ref q] ∧ SqT K H q (sV r) ∧ DeedAt K cs S R C H Q E sh (.change n r)
def spStrike (K : PySem.W.Frag) (cs : List (Addr × Addr)) (S R C : Addr) : Sp := fun vs H Q E => ∃ (sh : Addr) (n c k : Nat) (z : Str), vs = [.ref sh, .int (n : Nat), .int (c : Nat), .int (k : Nat), .str z] ∧ DeedAt K cs S R C H Q E sh (.strike n c k z)
def spErase (K : PySem.W.Frag) (cs : List (Addr × Addr)) (S R C : Addr) : Sp := fun vs H Q E => ∃ (sh : Addr) (n c k : Nat), vs = [.ref sh, .int (n : Nat), .int (c : Nat), .int (k : Nat)] ∧ DeedAt K cs S R C H Q E sh (.erase n c k)
def spPart (K : PySem.W.Frag) (cs : List (Addr × Addr)) (S R C : Addr) : Sp := fun vs H Q E => ∃ (sh : Addr) (n c k : Nat), vs = [.ref sh, .int (n : Nat), .int (c : Nat), .int (k : Nat)] ∧ DeedAt K cs S R C H Q E sh (.part n c k)
def spUnite (K : PySem.W.Frag) (cs : List (Addr × Addr)) (S R C : Addr) : Sp := fun vs H Q E => ∃ (sh : Addr) (n : Nat), vs = [.ref sh, .int (n : Nat)] ∧ DeedAt K cs S R C H Q E sh (.unite n)
theorem ShtD.nnew {H : Hp} {sh rl dl st nl : Addr} {as : List Addr} {rows : List (List Str)} {gap least : Int} {ts : List Addr} {ps : List (List (List Str))} {av : Addr → Prop} (h : ShtD K S H sh rl dl st as rows gap least ts ps av) (n : H nl = none) : nl ≠ rl ∧ nl ≠ dl :=
  ⟨(fun z => by rw [z, h.rl_] at n; cases n), (fun z => by rw [z, h.dl_] at n; cases n)⟩
theorem rows1 {H : Hp} {q : Addr} {r : List Str} (h : SqT K H q (sV r)) : RowsAt K H [q] [r] := ⟨rfl, fun i p s e1 e2 => by
  cases i with
  | zero => cases e1; cases e2; exact h
  | succ i => cases e1⟩
theorem rows2 {H : Hp} {q q2 : Addr} {r r2 : List Str} (h : SqT K H q (sV r)) (h2 : SqT K H q2 (sV r2)) : RowsAt K H [q, q2] [r, r2] := ⟨rfl, fun i p s e1 e2 => by
  cases i with
  | zero => cases e1; cases e2; exact h
  | succ i =>
    cases i with
    | zero => cases e1; cases e2; exact h2
    | succ i => cases e1⟩
end
end TGK

namespace TGK
open TG
open PySem PySem.Spec PyProof.Rows L2 Gx EnT
section
variable {P : Program} {w : World} {K : PySem.W.Frag} {mg : Str → Option Value} {base : Heap} {cs : List (Addr × Addr)} {S R C G : Addr}
theorem sc_put : FnScope ["self", "number", "row"] ["self", "number", "row"] (defScope (mth nSheet 1)) := ⟨rfl, rfl, rfl, by decide +kernel, rfl, by decide +kernel, by decide +kernel⟩
theorem sc_tk : FnScope ["self", "number"] ["self", "number"] (defScope (mth nSheet 2)) := ⟨rfl, rfl, rfl, by decide +kernel, rfl, by decide +kernel, by decide +kernel⟩
theorem sc_chg : FnScope ["self", "number", "row"] ["self", "number", "row"] (defScope (mth nSheet 3)) := ⟨rfl, rfl, rfl, by decide +kernel, rfl, by decide +kernel, by decide +kernel⟩
theorem sc_crow : FnScope ["row"] ["row"] (defScope s_check_row) := ⟨rfl, rfl, rfl, by decide +kernel, rfl, by decide +kernel, by decide +kernel⟩
def spCRow (K : PySem.W.Frag) (cs : List (Addr × Addr)) : Sp := fun vs H Q _ => ∃ (a : Addr) (r : List Str), vs = [.ref a] ∧ Tabs cs H ∧ SqT K H a (sV r) ∧ RowOk r ∧ ∀ H', Ex cs H H' → Q .non H'
theorem ok_crow {f g : Addr} {fd fdg : FuncData} (F : Fun K "check_row" "check_row" s_check_row f fd)
    (W : FnOk P w K mg base CX0 9 g fdg ["value"] (spRow K cs)) (kp : PySem.W.keepIn K (.ref g) = true) (bd : Binds K fdg ["value"] []) (mgg : mg "is_row" = some (.ref g)) : FnOk P w K mg base CX0 11 f fd ["row"] (spCRow K cs) := by
  refine F.ok sc_crow (fun vs H Q E h => ?_) (fun cdv A outer s H vs Q E hr h => ?_)
  · obtain ⟨a, r, rfl, _⟩ := h
    rfl
  · obtain ⟨a, r, rfl, hT, hS, hR, k⟩ := h
    refine ⟨_, pss_one (ps_if (pt_not (pt_val (pe_call W (hr.mono (by decide)) (by rfl) mgg kp bd .nil pass0 (pa_cons (pv 0) pa_nil)))) (pss_one ps_never) pss_nil), ?_⟩
    exact ⟨_, rfl, a, r, rfl, hT, hS, hR, fun H' x => ⟨true, rfl, iteF (k H' x)⟩⟩
theorem ok_put {f g1 g2 g3 : Addr} {fd fd1 fd2 fd3 : FuncData} (T : Txt mg) (X : ShC K S) (F : Fun K "put" "Sheet.put" (mth nSheet 1) f fd)
    (G1 : FnOk P w K mg base CX0 2 g1 fd1 ["number", "last"] spNum0) (k1 : PySem.W.keepIn K (.ref g1) = true) (b1 : Binds K fd1 ["number", "last"] []) (m1 : mg "check_number" = some (.ref g1))
    (G2 : FnOk P w K mg base CX0 11 g2 fd2 ["row"] (spCRow K cs)) (k2 : PySem.W.keepIn K (.ref g2) = true) (b2 : Binds K fd2 ["row"] []) (m2 : mg "check_row" = some (.ref g2))
    (M3 : Meth K S "lay" g3) (G3 : FnOk P w K mg base (L2.CX P w) 16 g3 fd3 ["self", "number", "many", "rows"] (spLay K cs S R C)) (b3 : Binds K fd3 ["self", "number", "many", "rows"] []) :
    FnOk P w K mg base (L2.CX P w) 17 f fd ["self", "number", "row"] (spPut K cs S R C) := by
  refine F.okX sc_put (fun vs H Q E h => ?_) (fun cdv A outer s H vs Q E hr h => ?_)
  · obtain ⟨sh, q, n, r, rfl, _⟩ := h
    rfl
  · obtain ⟨sh, q, n, r, rfl, hq, rl, dl, st, as, rows, gap, least, ts, ps, av, hT, hS, hps, ⟨d1, d2⟩, ha⟩ := h
    have r2 : Room 2 _ := hr.mono (by decide)
    have r10 : Room 11 _ := hr.mono (by decide)
    refine ⟨_, pss_cons (ps_expr (pe_call G1 r2 (by rfl) m1 k1 b1 .nil pass0 (pa_cons (pv 1) (pa_cons (pe_callB call_len_seq (by rfl) T.len PySem.boot_len (pa_cons (pe_fld (pv 0) rfl) pa_nil)) pa_nil))))
      (pss_cons (ps_expr (pe_call G2 r10 (by rfl) m2 k2 b2 .nil pass0 (pa_cons (pv 2) pa_nil)))
      (pss_one (ps_ret (pe_methS (pv 0) X.cS M3 G3 hr b3 (fun σ => passAt (takes_of rfl rfl rfl rfl) σ) (pa_cons (pv 1) (pa_cons pe_int (pa_cons (pe_lst (pa_cons (pv 2) pa_nil)) pa_nil))))))), ?_⟩
    obtain ⟨dx, h1⟩ := hS.she
    have la : (as.map V.ref).length = rows.length := by rw [List.length_map, hS.at_.len]
    refine ⟨_, rfl, _, rfl, sh, S, dx, _, _, rfl, h1, X.cS, X.nRows, rfl, rl, _, rfl, .inl hS.page.lst, _, _, rfl, by omega, by rw [la]; omega, ?_⟩
    refine ⟨_, rfl, q, r, rfl, hT, hq, d2, fun H1 x1 => ?_⟩
    have hS1 := hS.gw x1.ext
    obtain ⟨dx1, h11⟩ := hS1.she
    refine ⟨_, rfl, sh, dx1, _, rfl, h11, rfl, _, rfl, _, rfl, by show 1 ≤ sizeLine; decide, fun nl nn => ?_⟩
    have y2 : Same H1 (upd H1 nl (.lst [.ref q])) := same_new nn
    obtain ⟨n1, n2⟩ := hS1.nnew nn
    exact lay_go (nas := [q]) ha (x1.trans (Ex.laid x1.tab nn)) rfl (hS1.gw (same_ext y2)) hps upd_same n1 n2 (rows1 (same_sqT y2 (x1.sqT hq))) (by show 1 ≤ 2; decide) (fun r' hr' => by rw [List.mem_singleton.mp hr']; exact d2.loose.mono (by decide) (by decide)) (by omega)
theorem ok_takeD {f g1 g3 : Addr} {fd fd1 fd3 : FuncData} (T : Txt mg) (X : ShC K S) (F : Fun K "take" "Sheet.take" (mth nSheet 2) f fd)
    (G1 : FnOk P w K mg base CX0 2 g1 fd1 ["number", "last"] spNum0) (k1 : PySem.W.keepIn K (.ref g1) = true) (b1 : Binds K fd1 ["number", "last"] []) (m1 : mg "check_number" = some (.ref g1))
    (M3 : Meth K S "lay" g3) (G3 : FnOk P w K mg base (L2.CX P w) 16 g3 fd3 ["self", "number", "many", "rows"] (spLay K cs S R C)) (b3 : Binds K fd3 ["self", "number", "many", "rows"] []) :
    FnOk P w K mg base (L2.CX P w) 17 f fd ["self", "number"] (spTakeD K cs S R C) := by
  refine F.okX sc_tk (fun vs H Q E h => ?_) (fun cdv A outer s H vs Q E hr h => ?_)
  · obtain ⟨sh, n, rfl, _⟩ := h
    rfl
  · obtain ⟨sh, n, rfl, rl, dl, st, as, rows, gap, least, ts, ps, av, hT, hS, hps, d1, ha⟩ := h
    have d1 : n < rows.length := d1
    have r2 : Room 2 _ := hr.mono (by decide)
    refine ⟨_, pss_cons (ps_expr (pe_call G1 r2 (by rfl) m1 k1 b1 .nil pass0 (pa_cons (pv 1) (pa_cons (pe_op op_sub (pe_callB call_len_seq (by rfl) T.len PySem.boot_len (pa_cons (pe_fld (pv 0) rfl) pa_nil)) pe_int) pa_nil))))
      (pss_one (ps_ret (pe_methS (pv 0) X.cS M3 G3 hr b3 (fun σ => passAt (takes_of rfl rfl rfl rfl) σ) (pa_cons (pv 1) (pa_cons pe_int (pa_cons (pe_lst pa_nil) pa_nil)))))), ?_⟩
    obtain ⟨dx, h1⟩ := hS.she
    have la : (as.map V.ref).length = rows.length := by rw [List.length_map, hS.at_.len]
    refine ⟨_, rfl, _, rfl, sh, S, dx, _, _, rfl, h1, X.cS, X.nRows, rfl, rl, _, rfl, .inl hS.page.lst, _, _, rfl, rfl, _, _, rfl, by omega, by rw [la]; omega, ?_⟩
    refine ⟨_, rfl, sh, dx, _, rfl, h1, rfl, _, rfl, small0, fun nl nn => ?_⟩
    have y2 : Same H (upd H nl (.lst [])) := same_new nn
    obtain ⟨n1, n2⟩ := hS.nnew nn
    exact lay_go (nas := []) (m := 1) ha (Ex.laid hT nn) rfl (hS.gw (same_ext y2)) hps upd_same n1 n2 ⟨rfl, fun i p r e => by cases e⟩ (by decide) (fun r' hr' => by cases hr') (by omega)
theorem ok_change {f g1 g2 g3 : Addr} {fd fd1 fd2 fd3 : FuncData} (T : Txt mg) (X : ShC K S) (F : Fun K "change" "Sheet.change" (mth nSheet 3) f fd)
    (G1 : FnOk P w K mg base CX0 2 g1 fd1 ["number", "last"] spNum0) (k1 : PySem.W.keepIn K (.ref g1) = true) (b1 : Binds K fd1 ["number", "last"] []) (m1 : mg "check_number" = some (.ref g1))
    (G2 : FnOk P w K mg base CX0 11 g2 fd2 ["row"] (spCRow K cs)) (k2 : PySem.W.keepIn K (.ref g2) = true) (b2 : Binds K fd2 ["row"] []) (m2 : mg "check_row" = some (.ref g2))
    (M3 : Meth K S "lay" g3) (G3 : FnOk P w K mg base (L2.CX P w) 16 g3 fd3 ["self", "number", "many", "rows"] (spLay K cs S R C)) (b3 : Binds K fd3 ["self", "number", "many", "rows"] []) :
    FnOk P w K mg base (L2.CX P w) 17 f fd ["self", "number", "row"] (spChange K cs S R C) := by
  refine F.okX sc_chg (fun vs H Q E h => ?_) (fun cdv A outer s H vs Q E hr h => ?_)
  · obtain ⟨sh, q, n, r, rfl, _⟩ := h
    rfl
  · obtain ⟨sh, q, n, r, rfl, hq, rl, dl, st, as, rows, gap, least, ts, ps, av, hT, hS, hps, ⟨d1, d2⟩, ha⟩ := h
    have r2 : Room 2 _ := hr.mono (by decide)
    have r10 : Room 11 _ := hr.mono (by decide)
    refine ⟨_, pss_cons (ps_expr (pe_call G1 r2 (by rfl) m1 k1 b1 .nil pass0 (pa_cons (pv 1) (pa_cons (pe_op op_sub (pe_callB call_len_seq (by rfl) T.len PySem.boot_len (pa_cons (pe_fld (pv 0) rfl) pa_nil)) pe_int) pa_nil))))
      (pss_cons (ps_expr (pe_call G2 r10 (by rfl) m2 k2 b2 .nil pass0 (pa_cons (pv 2) pa_nil)))
      (pss_one (ps_ret (pe_methS (pv 0) X.cS M3 G3 hr b3 (fun σ => passAt (takes_of rfl rfl rfl rfl) σ) (pa_cons (pv 1) (pa_cons pe_int (pa_cons (pe_lst (pa_cons (pv 2) pa_nil)) pa_nil))))))), ?_⟩
    obtain ⟨dx, h1⟩ := hS.she
    have la : (as.map V.ref).length = rows.length := by rw [List.length_map, hS.at_.len]
    refine ⟨_, rfl, _, rfl, sh, S, dx, _, _, rfl, h1, X.cS, X.nRows, rfl, rl, _, rfl, .inl hS.page.lst, _, _, rfl, rfl, _, _, rfl, by omega, by rw [la]; omega, ?_⟩
    refine ⟨_, rfl, q, r, rfl, hT, hq, d2, fun H1 x1 => ?_⟩
    have hS1 := hS.gw x1.ext
    obtain ⟨dx1, h11⟩ := hS1.she
    refine ⟨_, rfl, sh, dx1, _, rfl, h11, rfl, _, rfl, _, rfl, by show 1 ≤ sizeLine; decide, fun nl nn => ?_⟩
    have y2 : Same H1 (upd H1 nl (.lst [.ref q])) := same_new nn
    obtain ⟨n1, n2⟩ := hS1.nnew nn
    exact lay_go (nas := [q]) (m := 1) ha (x1.trans (Ex.laid x1.tab nn)) rfl (hS1.gw (same_ext y2)) hps upd_same n1 n2 (rows1 (same_sqT y2 (x1.sqT hq))) (by show 1 ≤ 2; decide) (fun r' hr' => by rw [List.mem_singleton.mp hr']; exact d2.loose.mono (by decide) (by decide)) (by omega)
end
end TGK

namespace TGK
open TG
open PySem PySem.Spec PyProof.Rows L2 Gx EnT
section
variable {P : Program} {w : World} {K : PySem.W.Frag} {mg : Str → Option Value} {base : Heap} {cs : List (Addr × Addr)} {S R C G : Addr}
theorem sc_strike : FnScope ["self", "number", "cell", "place", "sign", "ahead", "behind"] ["self", "number", "cell", "place", "sign"] (defScope (mth nSheet 4)) := ⟨rfl, rfl, rfl, by decide +kernel, rfl, by decide +kernel, by decide +kernel⟩
theorem sc_erase : FnScope ["self", "number", "cell", "place", "ahead", "behind"] ["self", "number", "cell", "place"] (defScope (mth nSheet 5)) := ⟨rfl, rfl, rfl, by decide +kernel, rfl, by decide +kernel, by decide +kernel⟩
theorem sc_part : FnScope ["self", "number", "cell", "place", "ahead", "behind"] ["self", "number", "cell", "place"] (defScope (mth nSheet 6)) := ⟨rfl, rfl, rfl, by decide +kernel, rfl, by decide +kernel, by decide +kernel⟩
theorem sc_unite : FnScope ["self", "number"] ["self", "number"] (defScope (mth nSheet 7)) := ⟨rfl, rfl, rfl, by decide +kernel, rfl, by decide +kernel, by decide +kernel⟩
theorem sc_back : FnScope ["self", "number", "many", "rows"] ["self"] (defScope (mth nSheet 8)) := ⟨rfl, rfl, rfl, by decide +kernel, rfl, by decide +kernel, by decide +kernel⟩
theorem str_decD (a b : Str) : decide (V.str a = V.str b) = decide (a = b) := by
  by_cases h : a = b
  · rw [decide_eq_true h, decide_eq_true (by rw [h])]
  · rw [decide_eq_false h, decide_eq_false fun z => h (by injection z)]
theorem sign1 {z : Str} (h : Sgs z 1) : RowL [z] 100 100 := ⟨by simp, by simp, fun y hy => by rw [List.mem_singleton.mp hy]; exact h.mono (by decide)⟩
theorem ok_strike {f g1 g2 g3 g4 : Addr} {fd fd1 fd2 fd3 fd4 : FuncData} (eT : ∃ t, mg "TAB" = some (.str tabS t)) (X : ShC K S) (F : Fun K "strike" "Sheet.strike" (mth nSheet 4) f fd)
    (G1 : FnOk P w K mg base CX0 3 g1 fd1 ["rows", "number", "cell", "place"] (spHalf K)) (k1 : PySem.W.keepIn K (.ref g1) = true) (b1 : Binds K fd1 ["rows", "number", "cell", "place"] []) (m1 : mg "halves" = some (.ref g1))
    (G2 : FnOk P w K mg base CX0 7 g2 fd2 ["sign"] (spCSign cs)) (k2 : PySem.W.keepIn K (.ref g2) = true) (b2 : Binds K fd2 ["sign"] []) (m2 : mg "check_sign" = some (.ref g2))
    (G4 : FnOk P w K mg base CX0 1 g4 fd4 ["ahead", "behind"] (spJoin K)) (k4 : PySem.W.keepIn K (.ref g4) = true) (b4 : Binds K fd4 ["ahead", "behind"] []) (m4 : mg "joined" = some (.ref g4))
    (M3 : Meth K S "lay" g3) (G3 : FnOk P w K mg base (L2.CX P w) 16 g3 fd3 ["self", "number", "many", "rows"] (spLay K cs S R C)) (b3 : Binds K fd3 ["self", "number", "many", "rows"] []) :
    FnOk P w K mg base (L2.CX P w) 17 f fd ["self", "number", "cell", "place", "sign"] (spStrike K cs S R C) := by
  refine F.okX sc_strike (fun vs H Q E h => ?_) (fun cdv A outer s H vs Q E hr h => ?_)
  · obtain ⟨sh, n, c, k, z, rfl, _⟩ := h
    rfl
  · obtain ⟨sh, n, c, k, z, rfl, rl, dl, st, as, rows, gap, least, ts, ps, av, hT, hS, hps, ⟨pl, hz⟩, ha⟩ := h
    obtain ⟨tt, eT⟩ := eT
    have nd := sc_strike.nd
    have r1 : Room 1 _ := hr.mono (by decide)
    have r3 : Room 3 _ := hr.mono (by decide)
    have r6 : Room 6 _ := hr.mono (by decide)
    refine ⟨_, pss_cons (ps_asg (pe_call G1 r3 (by rfl) m1 k1 b1 .nil pass0 (pa_cons (pe_fld (pv 0) rfl) (pa_cons (pv 1) (pa_cons (pv 2) (pa_cons (pv 3) pa_nil))))) (pg_tup rfl (pgs_cons (pg_name (i := 5) nd rfl (.inl rfl)) (pgs_cons (pg_name (i := 6) nd rfl (.inl rfl)) pgs_nil))))
      (pss_cons (ps_expr (pe_call G2 (hr.mono (by decide)) (by rfl) m2 k2 b2 .nil pass0 (pa_cons (pv 4) pa_nil)))
      (pss_cons (ps_if (pt_cmpR op_eq (pv 4) (pe_glob (v := .str tabS) rfl eT ⟨_, rfl⟩) (nomark _))
        (pss_one (ps_ret (pe_methS (pv 0) X.cS M3 G3 hr b3 (fun σ => passAt (takes_of rfl rfl rfl rfl) σ) (pa_cons (pv 1) (pa_cons pe_int (pa_cons (pe_lst (pa_cons (pe_op op_catA (pv 5) (pv 6)) pa_nil)) pa_nil)))))) pss_nil)
      (pss_one (ps_ret (pe_methS (pv 0) X.cS M3 G3 hr b3 (fun σ => passAt (takes_of rfl rfl rfl rfl) σ) (pa_cons (pv 1) (pa_cons pe_int (pa_cons (pe_lst (pa_cons (pe_call G4 r1 (by rfl) m4 k4 b4 .nil pass0 (pa_cons (pe_call G4 r1 (by rfl) m4 k4 b4 .nil pass0 (pa_cons (pv 5) (pa_cons (pe_tup (pa_cons (pv 4) pa_nil)) pa_nil))) (pa_cons (pv 6) pa_nil))) pa_nil)) pa_nil)))))))), ?_⟩
    obtain ⟨dx, h1⟩ := hS.she
    obtain ⟨p1, p2, p3⟩ := pl
    have hR := rowN_ok hS.ok p1
    have hlA : RowL (halvA (rowN rows n) c k) 6 10 := halvA_l hR.loose p2
    have hlB : RowL (halvB (rowN rows n) c k) 6 10 := halvB_l hR.loose p2
    have lA := hlA.len
    have lB := hlB.len
    refine ⟨_, rfl, sh, S, dx, _, _, rfl, h1, X.cS, X.nRows, rfl, _, rfl, _, rfl, _, rfl, rl, as, rows, n, c, k, rowN rows n, rfl, hS.page, rowN_get p1, hR, p2, p3, fun t pA pB H1 x1 ht hA hB => ?_⟩
    refine ⟨t, _, rfl, SqT.of ht, rfl, _, _, rfl, _, _, rfl, rfl, ?_⟩
    have e1 := ex_same hT x1
    refine ⟨_, rfl, z, rfl, e1.tab, hz, fun H2 x2 => ?_⟩
    have hA2 := x2.sqT hA
    have hB2 := x2.sqT hB
    have x02 := e1.trans x2
    have hS2 := hS.gw x02.ext
    obtain ⟨dx2, h21⟩ := hS2.she
    refine ⟨_, rfl, rfl, _, rfl, ?_⟩
    rw [str_decD]
    have e : cutD rows (.strike n c k z) = some (n, 1, [if z = tabS then halvA (rowN rows n) c k ++ halvB (rowN rows n) c k else joinR (joinR (halvA (rowN rows n) c k) [z]) (halvB (rowN rows n) c k)]) := rfl
    by_cases hz2 : z = tabS
    · rw [decide_eq_true hz2]
      rw [if_pos hz2] at e
      refine iteT ⟨_, rfl, sh, dx2, _, rfl, h21, rfl, _, rfl, _, rfl, _, rfl, cat_rows hA2 hB2 (by omega) fun q H3 x3 hq => ⟨by show 1 ≤ sizeLine; decide, fun nl nn => ?_⟩⟩
      have y4 : Same H3 (upd H3 nl (.lst [.ref q])) := same_new nn
      have y24 := same_tr x3 y4
      have hS4 := hS2.gw (same_ext y24)
      obtain ⟨n1, n2⟩ := (hS2.gw (same_ext x3)).nnew nn
      exact lay_go (nas := [q]) (m := 1) ha (x02.trans (ex_same x02.tab y24)) e hS4 hps upd_same n1 n2 (rows1 (same_sqT y4 hq)) (by show 1 ≤ 2; decide) (fun r' hr' => by
        rw [List.mem_singleton.mp hr']
        refine ⟨by rw [List.length_append]; have := hlA.pos; omega, by rw [List.length_append]; omega, fun y hy => ?_⟩
        rcases List.mem_append.mp hy with q' | q'
        · exact (hlA.cells y q').mono (by decide)
        · exact (hlB.cells y q').mono (by decide)) (by omega)
    · rw [decide_eq_false hz2]
      rw [if_neg hz2] at e
      have hz1 : Sgs z 1 := by
        rcases hz with q | q
        · exact absurd q hz2
        · exact q.1
      refine iteF ⟨_, rfl, sh, dx2, _, rfl, h21, rfl, _, rfl, _, rfl, _, rfl, by show 1 ≤ sizeLine; decide, fun ps1 np1 => ?_⟩
      have y3 : Same H2 (upd H2 ps1 (.tup [.str z])) := same_new np1
      have hJ1 : RowL (joinR (halvA (rowN rows n) c k) [z]) (6 + 100 - 1) (10 + 100) := joinR_l hlA (sign1 hz1)
      have hJ0 := joinR_l (b := [z]) hlA (n' := 1) (m' := 1) ⟨by simp, by simp, fun y hy => by rw [List.mem_singleton.mp hy]; exact hz1⟩
      have hJ2 := joinR_l hJ0 hlB
      refine ⟨pA, ps1, _, [z], rfl, same_sqT y3 hA2, SqT.of upd_same, hlA.mono (by decide) (by decide), sign1 hz1, fun q1 H4 x4 hq1 => ?_⟩
      refine ⟨_, rfl, q1, pB, _, _, rfl, hq1, same_sqT (same_tr y3 x4) hB2, hJ0.mono (by decide) (by decide), hlB.mono (by decide) (by decide), fun q2 H5 x5 hq2 => ⟨by show 1 ≤ sizeLine; decide, fun nl nn => ?_⟩⟩
      have y6 : Same H5 (upd H5 nl (.lst [.ref q2])) := same_new nn
      have y25 := same_tr (same_tr y3 x4) x5
      have y26 := same_tr y25 y6
      have hS6 := hS2.gw (same_ext y26)
      obtain ⟨n1, n2⟩ := (hS2.gw (same_ext y25)).nnew nn
      exact lay_go (nas := [q2]) (m := 1) ha (x02.trans (ex_same x02.tab y26)) e hS6 hps upd_same n1 n2 (rows1 (same_sqT y6 hq2)) (by show 1 ≤ 2; decide) (fun r' hr' => by
        rw [List.mem_singleton.mp hr']
        exact hJ2.mono (by decide) (by decide)) (by omega)
theorem ok_erase {f g1 g2 g3 g4 : Addr} {fd fd1 fd2 fd3 fd4 : FuncData} (X : ShC K S) (F : Fun K "erase" "Sheet.erase" (mth nSheet 5) f fd)
    (G1 : FnOk P w K mg base CX0 3 g1 fd1 ["rows", "number", "cell", "place"] (spHalf K)) (k1 : PySem.W.keepIn K (.ref g1) = true) (b1 : Binds K fd1 ["rows", "number", "cell", "place"] []) (m1 : mg "halves" = some (.ref g1))
    (G2 : FnOk P w K mg base (L2.CX P w) 1 g2 fd2 ["row"] (spLess K C)) (k2 : PySem.W.keepIn K (.ref g2) = true) (b2 : Binds K fd2 ["row"] []) (m2 : mg "without_first" = some (.ref g2))
    (G4 : FnOk P w K mg base CX0 1 g4 fd4 ["ahead", "behind"] (spJoin K)) (k4 : PySem.W.keepIn K (.ref g4) = true) (b4 : Binds K fd4 ["ahead", "behind"] []) (m4 : mg "joined" = some (.ref g4))
    (M3 : Meth K S "lay" g3) (G3 : FnOk P w K mg base (L2.CX P w) 16 g3 fd3 ["self", "number", "many", "rows"] (spLay K cs S R C)) (b3 : Binds K fd3 ["self", "number", "many", "rows"] []) :
    FnOk P w K mg base (L2.CX P w) 17 f fd ["self", "number", "cell", "place"] (spErase K cs S R C) := by
  refine F.okX sc_erase (fun vs H Q E h => ?_) (fun cdv A outer s H vs Q E hr h => ?_)
  · obtain ⟨sh, n, c, k, rfl, _⟩ := h
    rfl
  · obtain ⟨sh, n, c, k, rfl, rl, dl, st, as, rows, gap, least, ts, ps, av, hT, hS, hps, pl, ha⟩ := h
    have nd := sc_erase.nd
    have r1 : Room 1 _ := hr.mono (by decide)
    have r3 : Room 3 _ := hr.mono (by decide)
    refine ⟨_, pss_cons (ps_asg (pe_call G1 r3 (by rfl) m1 k1 b1 .nil pass0 (pa_cons (pe_fld (pv 0) rfl) (pa_cons (pv 1) (pa_cons (pv 2) (pa_cons (pv 3) pa_nil))))) (pg_tup rfl (pgs_cons (pg_name (i := 4) nd rfl (.inl rfl)) (pgs_cons (pg_name (i := 5) nd rfl (.inl rfl)) pgs_nil))))
      (pss_one (ps_ret (pe_methS (pv 0) X.cS M3 G3 hr b3 (fun σ => passAt (takes_of rfl rfl rfl rfl) σ) (pa_cons (pv 1) (pa_cons pe_int (pa_cons (pe_lst (pa_cons (pe_call G4 r1 (by rfl) m4 k4 b4 .nil pass0 (pa_cons (pv 4) (pa_cons (pe_callS G2 r1 (by rfl) m2 k2 b2 (fun σ => passAt (takes_of rfl rfl rfl rfl) σ) (pa_cons (pv 5) pa_nil)) pa_nil))) pa_nil)) pa_nil)))))), ?_⟩
    obtain ⟨dx, h1⟩ := hS.she
    have pl : PlOk rows n c k := pl
    obtain ⟨p1, p2, p3⟩ := pl
    have hR := rowN_ok hS.ok p1
    have hlA : RowL (halvA (rowN rows n) c k) 6 10 := halvA_l hR.loose p2
    have hlB : RowL (halvB (rowN rows n) c k) 6 10 := halvB_l hR.loose p2
    refine ⟨_, rfl, sh, S, dx, _, _, rfl, h1, X.cS, X.nRows, rfl, _, rfl, _, rfl, _, rfl, rl, as, rows, n, c, k, rowN rows n, rfl, hS.page, rowN_get p1, hR, p2, p3, fun t pA pB H1 x1 ht hA hB => ?_⟩
    refine ⟨t, _, rfl, SqT.of ht, rfl, _, _, rfl, _, _, rfl, rfl, ?_⟩
    have e1 := ex_same hT x1
    have hS1 := hS.gw (same_ext x1)
    obtain ⟨dx1, h11⟩ := hS1.she
    refine ⟨_, rfl, sh, dx1, _, rfl, h11, rfl, _, rfl, _, rfl, _, rfl, pB, _, rfl, hB, hlB.mono (by decide) (by decide), fun b hb q H2 x2 hq => ?_, fun hb => ?_⟩
    · have e : cutD rows (.erase n c k) = some (n, 1, [joinR (halvA (rowN rows n) c k) b]) := by
        show (lessR (halvB (rowN rows n) c k)).map _ = _
        rw [hb]
        rfl
      have hlb := lessR_l hlB hb
      have hJ := joinR_l hlA hlb
      refine ⟨pA, q, _, b, rfl, same_sqT x2 hA, hq, hlA.mono (by decide) (by decide), hlb.mono (by decide) (by decide), fun q2 H5 x5 hq2 => ⟨by show 1 ≤ sizeLine; decide, fun nl nn => ?_⟩⟩
      have y6 : Same H5 (upd H5 nl (.lst [.ref q2])) := same_new nn
      have y25 := same_tr (same_tr x1 x2) x5
      have y26 := same_tr y25 y6
      obtain ⟨n1, n2⟩ := (hS.gw (same_ext y25)).nnew nn
      exact lay_go (nas := [q2]) (m := 1) ha (ex_same hT y26) e (hS.gw (same_ext y26)) hps upd_same n1 n2 (rows1 (same_sqT y6 hq2)) (by show 1 ≤ 2; decide) (fun r' hr' => by
        rw [List.mem_singleton.mp hr']
        exact hJ.mono (by decide) (by decide)) (by omega)
    · have e : cutD rows (.erase n c k) = none := by
        show (lessR (halvB (rowN rows n) c k)).map _ = _
        rw [hb]
        rfl
      exact no_go ha e1 e (by unfold errD; rw [e])
theorem ok_part {f g1 g3 : Addr} {fd fd1 fd3 : FuncData} (X : ShC K S) (F : Fun K "part" "Sheet.part" (mth nSheet 6) f fd)
    (G1 : FnOk P w K mg base CX0 3 g1 fd1 ["rows", "number", "cell", "place"] (spHalf K)) (k1 : PySem.W.keepIn K (.ref g1) = true) (b1 : Binds K fd1 ["rows", "number", "cell", "place"] []) (m1 : mg "halves" = some (.ref g1))
    (M3 : Meth K S "lay" g3) (G3 : FnOk P w K mg base (L2.CX P w) 16 g3 fd3 ["self", "number", "many", "rows"] (spLay K cs S R C)) (b3 : Binds K fd3 ["self", "number", "many", "rows"] []) :
    FnOk P w K mg base (L2.CX P w) 17 f fd ["self", "number", "cell", "place"] (spPart K cs S R C) := by
  refine F.okX sc_part (fun vs H Q E h => ?_) (fun cdv A outer s H vs Q E hr h => ?_)
  · obtain ⟨sh, n, c, k, rfl, _⟩ := h
    rfl
  · obtain ⟨sh, n, c, k, rfl, rl, dl, st, as, rows, gap, least, ts, ps, av, hT, hS, hps, pl, ha⟩ := h
    have nd := sc_part.nd
    have r3 : Room 3 _ := hr.mono (by decide)
    refine ⟨_, pss_cons (ps_asg (pe_call G1 r3 (by rfl) m1 k1 b1 .nil pass0 (pa_cons (pe_fld (pv 0) rfl) (pa_cons (pv 1) (pa_cons (pv 2) (pa_cons (pv 3) pa_nil))))) (pg_tup rfl (pgs_cons (pg_name (i := 4) nd rfl (.inl rfl)) (pgs_cons (pg_name (i := 5) nd rfl (.inl rfl)) pgs_nil))))
      (pss_one (ps_ret (pe_methS (pv 0) X.cS M3 G3 hr b3 (fun σ => passAt (takes_of rfl rfl rfl rfl) σ) (pa_cons (pv 1) (pa_cons pe_int (pa_cons (pe_lst (pa_cons (pv 4) (pa_cons (pv 5) pa_nil))) pa_nil)))))), ?_⟩
    obtain ⟨dx, h1⟩ := hS.she
    have pl : PlOk rows n c k := pl
    obtain ⟨p1, p2, p3⟩ := pl
    have hR := rowN_ok hS.ok p1
    have hlA : RowL (halvA (rowN rows n) c k) 6 10 := halvA_l hR.loose p2
    have hlB : RowL (halvB (rowN rows n) c k) 6 10 := halvB_l hR.loose p2
    refine ⟨_, rfl, sh, S, dx, _, _, rfl, h1, X.cS, X.nRows, rfl, _, rfl, _, rfl, _, rfl, rl, as, rows, n, c, k, rowN rows n, rfl, hS.page, rowN_get p1, hR, p2, p3, fun t pA pB H1 x1 ht hA hB => ?_⟩
    refine ⟨t, _, rfl, SqT.of ht, rfl, _, _, rfl, _, _, rfl, rfl, ?_⟩
    have hS1 := hS.gw (same_ext x1)
    obtain ⟨dx1, h11⟩ := hS1.she
    refine ⟨_, rfl, sh, dx1, _, rfl, h11, rfl, _, rfl, _, rfl, _, rfl, by show 2 ≤ sizeLine; decide, fun nl nn => ?_⟩
    have y6 : Same H1 (upd H1 nl (.lst [.ref pA, .ref pB])) := same_new nn
    obtain ⟨n1, n2⟩ := hS1.nnew nn
    have y26 := same_tr x1 y6
    exact lay_go (nas := [pA, pB]) (m := 1) ha (ex_same hT y26) rfl (hS.gw (same_ext y26)) hps upd_same n1 n2 (rows2 (same_sqT y6 hA) (same_sqT y6 hB)) (by show 2 ≤ 2; decide) (fun r' hr' => by
      rcases List.mem_cons.mp hr' with q | q
      · rw [q]; exact hlA.mono (by decide) (by decide)
      · rw [List.mem_singleton.mp q]; exact hlB.mono (by decide) (by decide)) (by omega)
theorem ok_unite {f g1 g3 g4 : Addr} {fd fd1 fd3 fd4 : FuncData} (T : Txt mg) (X : ShC K S) (F : Fun K "unite" "Sheet.unite" (mth nSheet 7) f fd)
    (G1 : FnOk P w K mg base (L2.CX P w) 2 g1 fd1 ["number", "last"] (spNum R)) (k1 : PySem.W.keepIn K (.ref g1) = true) (b1 : Binds K fd1 ["number", "last"] []) (m1 : mg "check_number" = some (.ref g1))
    (G4 : FnOk P w K mg base CX0 1 g4 fd4 ["ahead", "behind"] (spJoin K)) (k4 : PySem.W.keepIn K (.ref g4) = true) (b4 : Binds K fd4 ["ahead", "behind"] []) (m4 : mg "joined" = some (.ref g4))
    (M3 : Meth K S "lay" g3) (G3 : FnOk P w K mg base (L2.CX P w) 16 g3 fd3 ["self", "number", "many", "rows"] (spLay K cs S R C)) (b3 : Binds K fd3 ["self", "number", "many", "rows"] []) :
    FnOk P w K mg base (L2.CX P w) 17 f fd ["self", "number"] (spUnite K cs S R C) := by
  refine F.okX sc_unite (fun vs H Q E h => ?_) (fun cdv A outer s H vs Q E hr h => ?_)
  · obtain ⟨sh, n, rfl, _⟩ := h
    rfl
  · obtain ⟨sh, n, rfl, rl, dl, st, as, rows, gap, least, ts, ps, av, hT, hS, hps, d1, ha⟩ := h
    have d1 : n < rows.length := d1
    have r2 : Room 2 _ := hr.mono (by decide)
    have r1 : Room 1 _ := hr.mono (by decide)
    refine ⟨_, pss_cons (ps_expr (pe_callS G1 r2 (by rfl) m1 k1 b1 (fun σ => passAt (takes_of rfl rfl rfl rfl) σ) (pa_cons (pv 1) (pa_cons (pe_op op_sub (pe_callB call_len_seq (by rfl) T.len PySem.boot_len (pa_cons (pe_fld (pv 0) rfl) pa_nil)) pe_int) pa_nil))))
      (pss_one (ps_ret (pe_methS (pv 0) X.cS M3 G3 hr b3 (fun σ => passAt (takes_of rfl rfl rfl rfl) σ) (pa_cons (pv 1) (pa_cons pe_int (pa_cons (pe_lst (pa_cons (pe_call G4 r1 (by rfl) m4 k4 b4 .nil pass0 (pa_cons (pe_ix ix_list (pe_fld (pv 0) rfl) (pv 1) (fun _ _ => rfl)) (pa_cons (pe_ix ix_list (pe_fld (pv 0) rfl) (pe_op op_add (pv 1) pe_int) (fun _ _ => rfl)) pa_nil))) pa_nil)) pa_nil)))))), ?_⟩
    obtain ⟨dx, h1⟩ := hS.she
    have la : (as.map V.ref).length = rows.length := by rw [List.length_map, hS.at_.len]
    refine ⟨_, rfl, _, rfl, sh, S, dx, _, _, rfl, h1, X.cS, X.nRows, rfl, rl, _, rfl, .inl hS.page.lst, _, _, rfl, rfl, _, _, rfl, fun hy => ?_, fun hn => ?_⟩
    · rw [la] at hy
      have hn1 : n + 1 < rows.length := by omega
      have e : cutD rows (.unite n) = some (n, 2, [joinR (rowN rows n) (rowN rows (n + 1))]) := if_pos hn1
      obtain ⟨q0, hq0⟩ := getP (xs := as) (i := n) (by rw [hS.at_.len]; omega)
      obtain ⟨q1, hq1⟩ := getP (xs := as) (i := n + 1) (by rw [hS.at_.len]; omega)
      have hA := hS.at_.row n q0 _ hq0 (rowN_get d1)
      have hB := hS.at_.row (n + 1) q1 _ hq1 (rowN_get hn1)
      have hlA := (rowN_ok hS.ok d1).loose
      have hlB := (rowN_ok hS.ok hn1).loose
      have hJ := joinR_l hlA hlB
      refine ⟨_, rfl, sh, dx, _, rfl, h1, rfl, _, rfl, _, rfl, sh, S, dx, _, _, rfl, h1, X.cS, X.nRows, rfl, _, rfl, rl, _, _, .ref q0, rfl, rfl, hS.page.lst, atI_nat (by rw [List.getElem?_map, hq0]; rfl), _, rfl, sh, S, dx, _, _, rfl, h1, X.cS, X.nRows, rfl, _, rfl, _, _, rfl, rfl, rl, _, _, .ref q1, rfl, rfl, hS.page.lst, ?_, ?_⟩
      · rw [show ((n : Nat) : Int) + 1 = ((n + 1 : Nat) : Int) by omega]
        exact atI_nat (by rw [List.getElem?_map, hq1]; rfl)
      · refine ⟨q0, q1, _, _, rfl, hA, hB, hlA.mono (by decide) (by decide), hlB.mono (by decide) (by decide), fun q2 H5 x5 hq2 => ⟨by show 1 ≤ sizeLine; decide, fun nl nn => ?_⟩⟩
        have y6 : Same H5 (upd H5 nl (.lst [.ref q2])) := same_new nn
        have y26 := same_tr x5 y6
        obtain ⟨n1, n2⟩ := (hS.gw (same_ext x5)).nnew nn
        exact lay_go (nas := [q2]) (m := 2) ha (ex_same hT y26) e (hS.gw (same_ext y26)) hps upd_same n1 n2 (rows1 (same_sqT y6 hq2)) (by show 1 ≤ 2; decide) (fun r' hr' => by
          rw [List.mem_singleton.mp hr']
          exact hJ.mono (by decide) (by decide)) (by omega)
    · rw [la] at hn
      have e : cutD rows (.unite n) = none := if_neg (by omega)
      exact no_go ha (Ex.refl hT) e (by unfold errD; rw [e])
/-- Sheet.back -/
def spBackD (K : PySem.W.Frag) (cs : List (Addr × Addr)) (S : Addr) : Sp := fun vs H Q _ => ∃ (sh rl dl st : Addr) (as : List Addr) (rows : List (List Str)) (gap least : Int) (ts : List Addr) (ps : List (List (List Str))) (av : Addr → Prop), vs = [.ref sh] ∧ Tabs cs H ∧ ShtD K S H sh rl dl st as rows gap least ts ps av ∧
  (ps = [] → Q (.bl false) H) ∧ (∀ rows' ps', ps = rows' :: ps' → ∀ as' ts' H', ExtS cs rl dl H H' → Tabs cs H' → (∀ b, H' b = none → H b = none) → ShtD K S H' sh rl dl st as' rows' gap least ts' ps' av → Q (.bl true) H')
theorem ok_backD {f : Addr} {fd : FuncData} (T : Txt mg) (X : ShC K S) (F : Fun K "back" "Sheet.back" (mth nSheet 8) f fd) : FnOk P w K mg base CX0 1 f fd ["self"] (spBackD K cs S) := by
  refine F.ok sc_back (fun vs H Q E h => ?_) (fun cdv A outer s H vs Q E hr h => ?_)
  · obtain ⟨sh, rl, dl, st, as, rows, gap, least, ts, ps, av, rfl, _⟩ := h
    rfl
  · obtain ⟨sh, rl, dl, st, as, rows, gap, least, ts, ps, av, rfl, hT, hS, k1, k2⟩ := h
    have nd := sc_back.nd
    refine ⟨_, pss_cons (ps_if (pt_cmpR op_eq (pe_callB call_len_seq (by rfl) T.len PySem.boot_len (pa_cons (pe_fld (pv 0) rfl) pa_nil)) pe_int (nomark _)) (pss_one (ps_ret pe_bl)) pss_nil)
      (pss_cons (ps_asg (pe_bm0 PySem.F.plainAttrs_list PySem.F.slot_list_pop PySem.F.type_list_pop mt_pop (pe_fld (pv 0) rfl)) (pg_tup rfl (pgs_cons (pg_name (i := 1) nd rfl (.inl rfl)) (pgs_cons (pg_name (i := 2) nd rfl (.inl rfl)) (pgs_cons (pg_name (i := 3) nd rfl (.inl rfl)) pgs_nil)))))
      (pss_cons (ps_asg (pv 3) (pg_slice (pe_fld (pv 0) rfl) (pv 1) (pe_op op_add (pv 1) (pv 2)))) (pss_one (ps_ret pe_bl)))), ?_⟩
    obtain ⟨dx, h1⟩ := hS.she
    obtain ⟨nsr, nsd⟩ := hS.ns
    have lt : (ts.reverse.map V.ref).length = ps.length := by rw [List.length_map, List.length_reverse, hS.past.len]
    refine ⟨_, rfl, sh, S, dx, _, _, rfl, h1, X.cS, X.nDeeds, rfl, dl, _, rfl, .inl (SqL.of hS.dl_), rfl, _, rfl, ?_⟩
    rw [lt]
    have hpast := hS.past
    cases ps with
    | nil => exact iteT (k1 rfl)
    | cons rows' ps' =>
      cases ts with
      | nil => unfold PastAt at hpast; exact hpast.elim
      | cons t ts' =>
        unfold PastAt at hpast
        obtain ⟨n, m, oas, l, g1, g2, g3, g4, ga, g5, g6, g7, g8, g9⟩ := hpast
        rw [decide_eq_false (fun z => by injection z with z; rw [List.length_cons] at z; omega)]
        have la : as.length = rows.length := hS.at_.len
        have h30 := hS.ok.len
        have szl : (1000 : Nat) < sizeLine := by decide
        have er : (t :: ts').reverse.map V.ref = ts'.reverse.map V.ref ++ [.ref t] := by rw [List.reverse_cons, List.map_append]; rfl
        have hdl := hS.dl_
        rw [er] at hdl
        refine iteF ⟨_, rfl, sh, S, dx, _, _, rfl, h1, X.cS, X.nDeeds, rfl, .inl ⟨rfl, _, SqL.of hdl⟩, dl, _, .ref t, rfl, rfl, hdl, by rw [List.length_append, List.length_singleton, Nat.add_sub_cancel]; simp, ?_⟩
        rw [List.dropLast_concat]
        have tdl : t ≠ dl := fun z => by rw [z, hdl] at g1; cases g1
        have trl : t ≠ rl := fun z => by rw [z, hS.rl_] at g1; cases g1
        refine ⟨t, _, rfl, SqT.of (by rw [upd_ne tdl]; exact g1), rfl, _, _, rfl, _, _, rfl, _, _, rfl, rfl, ?_⟩
        refine ⟨_, rfl, _, rfl, sh, S, dx, _, _, rfl, by rw [upd_ne nsd]; exact h1, X.cS, X.nRows, rfl, _, rfl, _, rfl, _, rfl, _, rfl, _, rfl, _, _, rfl, rfl, _, rfl, _, rfl, rl, l, _, _, rfl, rfl, by rw [upd_ne hS.ne]; exact hS.rl_, by rw [upd_ne g4]; exact g2, g3.symm, by omega, by omega, by rw [List.length_map]; omega, by rw [List.length_map, List.length_map]; omega, ?_⟩
        have eM : (as.map V.ref).take (((n : Nat) : Int)).toNat ++ oas.map V.ref ++ (as.map V.ref).drop ((((n : Nat) : Int) + ((m : Nat) : Int))).toNat = (splice as n m oas).map V.ref := by
          rw [show ((((n : Nat) : Int) + ((m : Nat) : Int))).toNat = n + m by omega, show (((n : Nat) : Int)).toNat = n by omega]
          unfold splice
          rw [List.map_append, List.map_append, List.map_take, List.map_drop]
        rw [eM]
        have x : ExtS cs rl dl H (upd (upd H dl (.lst (ts'.reverse.map V.ref))) rl (.lst ((splice as n m oas).map V.ref))) := fun b o h _ q1 q2 => by rw [upd_ne q1, upd_ne q2]; exact h
        refine k2 rows' ps' rfl (splice as n m oas) ts' _ x (tabs_lst (tabs_lst hT hS.dl_) (by rw [upd_ne hS.ne]; exact hS.rl_)) (fun b hb => ?_) ⟨⟨dx, by rw [upd_ne nsr, upd_ne nsd]; exact h1⟩, upd_same, by rw [upd_ne hS.ne.symm, upd_same], hS.ne, g7.exs x hS.rl_ hS.dl_, g8, hS.style.exs x hS.rl_ hS.dl_, g9.exs x hS.rl_ hS.dl_, hS.live2 x upd_same (by rw [upd_ne hS.ne.symm]; exact upd_same)⟩
        by_cases q1 : b = rl
        · rw [q1, upd_same] at hb; cases hb
        · rw [upd_ne q1] at hb
          by_cases q2 : b = dl
          · rw [q2, upd_same] at hb; cases hb
          · rw [upd_ne q2] at hb; exact hb
end
end TGK

namespace TGK
open TG
open PySem PySem.Spec PyProof.Rows L2 Gx EnT
/-! ### what deeds change -/
/-- all but some lists and objects stays -/
def KM (A : Addr → Prop) (H H' : Hp) : Prop := ∀ c o, H c = some o → (∀ ps, o ≠ .tbl ps) → ¬ A c → H' c = some o
def Mob (H : Hp) (A : Addr → Prop) : Prop := ∀ c, A c → (∃ us, H c = some (.lst us)) ∨ (∃ C dx fs, H c = some (.ins C dx fs))
section
variable {K : PySem.W.Frag} {A B : Addr → Prop} {H H1 H' : Hp}
def KN (cs : List (Addr × Addr)) (A : Addr → Prop) (H H' : Hp) : Prop := ∀ c o, H c = some o → NT cs c o → ¬ A c → H' c = some o
theorem KN.w {cs : List (Addr × Addr)} (x : KN cs A H H') : KM A H H' := fun c o h n m => x c o h (.inl n) m
theorem KN.of {cs : List (Addr × Addr)} (x : XN cs H H') : KN cs A H H' := fun c o h n _ => x c o h n
theorem KN.tr {cs : List (Addr × Addr)} (x : KN cs A H H1) (y : KN cs A H1 H') : KN cs A H H' := fun c o h n m => y c o (x c o h n m) n m
theorem KM.of (x : LamX.ExtN H H') : KM A H H' := fun c o h n _ => x c o h n
theorem KM.tr (x : KM A H H1) (y : KM A H1 H') : KM A H H' := fun c o h n m => y c o (x c o h n m) n m
theorem KM.mono (x : KM A H H') (h : ∀ c, A c → B c) : KM B H H' := fun c o e n m => x c o e n fun z => m (h c z)
theorem Mob.km (m : Mob H B) (x : KM A H H') (a : Mob H' A) : Mob H' B := fun c hc => by
  by_cases q : A c
  · exact a c q
  · rcases m c hc with ⟨us, e⟩ | ⟨C, dx, fs, e⟩
    · exact .inl ⟨us, x _ _ e (fun ps z => by cases z) q⟩
    · exact .inr ⟨C, dx, fs, x _ _ e (fun ps z => by cases z) q⟩
theorem Mob.gw (m : Mob H A) (x : LamX.ExtN H H') : Mob H' A := fun c hc => by
  rcases m c hc with ⟨us, e⟩ | ⟨C, dx, fs, e⟩
  · exact .inl ⟨us, x _ _ e fun ps z => by cases z⟩
  · exact .inr ⟨C, dx, fs, x _ _ e fun ps z => by cases z⟩
theorem Mob.live (m : Mob H A) : Live H A := fun c hc => by
  rcases m c hc with ⟨us, e⟩ | ⟨C, dx, fs, e⟩
  · exact ⟨_, e, fun ps z => by cases z⟩
  · exact ⟨_, e, fun ps z => by cases z⟩
theorem sqT_km {t : Addr} {xs : List V} (x : KM A H H') (m : Mob H A) (h : SqT K H t xs) : SqT K H' t xs := by
  rcases h with (h | ⟨u, h⟩) | h
  · refine .inl (.inl (x _ _ h (fun ps z => by cases z) fun z => ?_))
    rcases m _ z with ⟨us, e⟩ | ⟨C, dx, fs, e⟩ <;> rw [e] at h <;> cases h
  · refine .inl (.inr ⟨u, x _ _ h (fun ps z => by cases z) fun z => ?_⟩)
    rcases m _ z with ⟨us, e⟩ | ⟨C, dx, fs, e⟩ <;> rw [e] at h <;> cases h
  · exact .inr h
theorem tup_km {t : Addr} {xs : List V} (x : KM A H H') (m : Mob H A) (h : H t = some (.tup xs)) : H' t = some (.tup xs) :=
  x _ _ h (fun ps z => by cases z) fun z => by
    rcases m _ z with ⟨us, e⟩ | ⟨C, dx, fs, e⟩ <;> rw [e] at h <;> cases h
theorem RowsAt.km {as : List Addr} {rows : List (List Str)} (x : KM A H H') (m : Mob H A) (p : RowsAt K H as rows) : RowsAt K H' as rows := ⟨p.len, fun i q r e1 e2 => sqT_km x m (p.row i q r e1 e2)⟩
theorem PastAt.km {rl dl : Addr} {av : Addr → Prop} (x : KM A H H') (m : Mob H A) (h : ∀ c us, A c → H c = some (.lst us) → av c) : ∀ {ts : List Addr} {as : List Addr} {ps : List (List (List Str))}, PastAt K H rl dl av as ts ps → PastAt K H' rl dl av as ts ps
  | [], _, [], _ => by unfold PastAt; trivial
  | [], _, _ :: _, h => by unfold PastAt at h; exact h.elim
  | _ :: _, _, [], h => by unfold PastAt at h; exact h.elim
  | t :: ts, as, rows :: ps, g => by
    unfold PastAt at g ⊢
    obtain ⟨n, k, oas, lo, g1, g2, g3, g4, ga, g5, g6, g7, g8, g9⟩ := g
    exact ⟨n, k, oas, lo, tup_km x m g1, x _ _ g2 (fun ps z => by cases z) (fun z => ga (h _ _ z g2)), g3, g4, ga, g5, g6, g7.km x m, g8, PastAt.km x m h g9⟩
theorem kb_km {b l : Addr} (x : KB b l H H') : KM (fun c => c = b ∨ c = l) H H' := fun c o h _ n => x c o h (fun z => n (.inl z)) fun z => n (.inr z)
theorem box_mob {b l : Addr} (h : BoxAt H b l) : Mob H (fun c => c = b ∨ c = l) := by
  obtain ⟨ns, s1, e1, e2, _⟩ := h
  exact fun c z => .inl (z.elim (fun e => e ▸ ⟨_, e1⟩) fun e => e ▸ ⟨_, e2⟩)
theorem upd_km {a : Addr} {o : HO} : KM (fun c => c = a) H (upd H a o) := fun c u h _ n => by rw [upd_ne n]; exact h
end
section
variable {K : PySem.W.Frag} {S : Addr} {A : Addr → Prop} {H H' : Hp} {sh rl dl st : Addr} {as : List Addr} {rows : List (List Str)} {gap least : Int} {ts : List Addr} {ps : List (List (List Str))} {av av2 : Addr → Prop}
theorem ShtD.km (o : ShtD K S H sh rl dl st as rows gap least ts ps av) (x : KM A H H') (m : Mob H A) (m' : Mob H' A) (h : ∀ c us, A c → H c = some (.lst us) → av c) (n1 : ¬ A sh) (n2 : ¬ A rl) (n3 : ¬ A dl) : ShtD K S H' sh rl dl st as rows gap least ts ps av := by
  obtain ⟨dx, h1⟩ := o.she
  refine ⟨⟨dx, x _ _ h1 (fun ps z => by cases z) n1⟩, x _ _ o.rl_ (fun ps z => by cases z) n2, x _ _ o.dl_ (fun ps z => by cases z) n3, o.ne, o.at_.km x m, o.ok, ⟨sqT_km x m o.style.tup, o.style.g0, o.style.g1, o.style.l0, o.style.l1⟩, o.past.km x m h, fun y hy => ?_⟩
  by_cases q : A y
  · exact m'.live y q
  · obtain ⟨u, e, k⟩ := o.live y hy
    exact ⟨u, x _ _ e k q, k⟩
theorem ShtD.fresh (o : ShtD K S H sh rl dl st as rows gap least [] [] av) (h : Live H av2) : ShtD K S H sh rl dl st as rows gap least [] [] av2 :=
  ⟨o.she, o.rl_, o.dl_, o.ne, o.at_, o.ok, o.style, by unfold PastAt; trivial, h⟩
end
end TGK

namespace TG
open PySem PySem.Spec PyProof.Rows L2 NdefX GenW Gx Lv
/-! ### list.count, flat items -/
theorem cntU {y : V} : ∀ {ys : List V} {its : List Value}, Vals ys its → ys.all flatV = true → its.countP (eqU y) = ys.countP (fun z => eqV z y)
  | [], _, .nil, _ => rfl
  | z :: ys, _, .cons r t, f => by
    rw [List.all_cons, Bool.and_eq_true] at f
    rw [List.countP_cons, List.countP_cons, eqU_of r f.1, cntU t f.2]
def rCnt (K : PySem.W.Frag) : V → List V → Hp → VK → Prop := fun x xs H Q => ∃ (a : Addr) (ys : List V) (y : V), x = .ref a ∧ xs = [y] ∧ SqL K H a ys ∧ flatV y = true ∧ ys.all flatV = true ∧ Q (.int (ys.countP (fun z => eqV z y) : Nat)) H
theorem mt_cnt {X : Cx} : MtR X "list.count" (rCnt X.K) := by
  intro pins s σ H x xs v us Q I rx rxs h
  obtain ⟨a, ys, y, rfl, rfl, hs, fy, fys, q⟩ := h
  cases rx
  obtain ⟨u, rfl, ru⟩ := rxs.one
  obtain ⟨its, rv, ⟨⟨cls, dd, data, sl⟩, n, ho, hc, hdn, hd⟩, hlen⟩ := I.list hs
  simp only at hc hd
  subst hc hd
  have ec : its.toArray.toList.countP (eqU y) = ys.countP (fun z => eqV z y) := cntU rv fys
  refine call_meets PySem.F.slot_list_count ⟨_, ho, rfl⟩ PySem.F.entry_list_count (PySem.F.args_list_count_2 _ _) (SeqAt.list_countAt a its.toArray n dd sl u (eqU y)) ⟨ho, fun w hw => mem_eqAt ru fy rv fys w (by simpa using hw), ?_⟩
  refine ⟨.int (ys.countP (fun z => eqV z y) : Nat), H, I.tok _, ⟨s.toks, ?_⟩, q⟩
  rw [← ec]
/-! ### isinstance and fields of a caught error -/
/-- its dict, if it has one, is told of -/
def XdAt (H : Hp) (d : Option Addr) : Prop := d = none ∨ ∃ dd fs, d = some dd ∧ H dd = some (.xd fs)
def rIsX (K : PySem.W.Frag) (cls : Value) (d : Option Addr) (a : Addr) : List V → Hp → VK → Prop := fun xs H Q => ∃ (c : V) (cv : Value) (b : Bool) (D : Addr), xs = [.ref a, c] ∧ cls = .ref D ∧ ExcC K D ∧ (∀ u, RelV c u → u = cv) ∧ PySem.W.kitOne K (.ref D) cv = some b ∧ XdAt H d ∧ Q (.bl b) H
theorem isCls_of {K : PySem.W.Frag} {D : Addr} (h : PySem.W.hasDictIn K D = true) : (PySem.W.clsIn K D).isSome = true := by
  obtain ⟨cd, hc, _⟩ := PySem.W.any_some h
  rw [hc]
  rfl
section
variable {X : Cx} {a : Addr} {oe : Obj} {cls : Value} {d : Option Addr} {pn : List (Addr × Obj)}
theorem call_isX (hz : Zc cls d oe) (hf : ∃ vs, oe.data = .fields vs) : CallR (X.suite a ((a, oe) :: pn)) (.builtin "isinstance") (rIsX X.K cls d a) := by
  intro pins s σ H xs us Q I r h
  obtain ⟨c, cv, b, D, rfl, rfl, C, hcv, e, hd, q⟩ := h
  cases r with
  | cons rx rr =>
    cases rr with
    | cons rt rr =>
      cases rr
      cases rx
      have ec := hcv _ rt
      subst ec
      obtain ⟨hget, _⟩ := I.pin (a, oe) (List.mem_append.mpr (.inl List.mem_cons_self))
      obtain ⟨vs, hv⟩ := hf
      have nc : PySem.W.notCls oe = true := by
        unfold PySem.W.notCls
        rw [hv] <;> rfl
      have fin : ∀ tk, EP (X.suite a ((a, oe) :: pn)) pins σ Q (.bool b) { s with toks := tk } := fun tk => ⟨.bl b, H, I.kept (t' := tk) fun _ _ z => z, rfl, q⟩
      rcases hd with rfl | ⟨dd, fs, rfl, hdd⟩
      · have J : PySem.W.InstAt s.heap a oe D none := by
          obtain ⟨h1, h2⟩ := hz
          refine ⟨hget, h1, nc, ?_⟩
          rw [h2]
          trivial
        exact PySem.W.kia_one (PySem.W.kitx_exc (isCls_of C.hd) C.hg C.hk C.hs C.ha C.hn C.ht C.hm) I.kIn J e (fun z => nomatch z) fin
      · have hx : ObjOk X.prog X.w H s.heap dd (.xd fs) := I.hok dd _ hdd
        obtain ⟨mA, hns, _⟩ := hx
        obtain ⟨od, ho, _⟩ := lookIn_ns hns
        have J : PySem.W.InstAt s.heap a oe D (some od) := ⟨hget, hz.1, nc, by rw [hz.2]; exact ho⟩
        exact PySem.W.kia_one (PySem.W.kitx_exc (isCls_of C.hd) C.hg C.hk C.hs C.ha C.hn C.ht C.hm) I.kIn J e (fun z => nomatch z) fin
def tXfX (K : PySem.W.Frag) (a : Addr) (cls : Value) (d : Option Addr) (f : Str) (te : TE) : TE := fun σ H Q => ∃ C : Addr, XfC K C ∧ PySem.W.findIn K (.ref C) f = some none ∧ tXf a cls d C f te σ H Q
theorem pe_xfX {e : Expr} {te : TE} {pos : Pos} {n : Str} (hz : Zc cls d oe) (hf : ∃ vs, oe.data = .fields vs) (he : PE (X.suite a ((a, oe) :: pn)) e te) (hb : attributeBase e n X.env (eval e X.env) = eval e X.env := by rfl) :
    PE (X.suite a ((a, oe) :: pn)) (.Attribute e n pos) (tXfX X.K a cls d n te) := by
  refine ⟨fun pins s σ H Q I h => ?_⟩
  obtain ⟨C, T, hno, h⟩ := h
  exact (pe_xf T hno hz hf he hb).run pins s σ H Q I h
end
/-! ### rules for an except suite, whose readings don't speak of the error's object -/
section
variable {X : Cx} {a : Addr} {l : List (Addr × Obj)}
theorem ix_listU : IxR (X.suite a l) (rIxL X.K) := ix_list
theorem op_inU : OpR (X.suite a l) (compareOp .In) (rIn X.K false) := op_in_seq
theorem mt_cntU : MtR (X.suite a l) "list.count" (rCnt X.K) := mt_cnt
theorem mt_indexU : MtR (X.suite a l) "list.index" (rIndex X.K) := mt_index
theorem pe_bmU {T name id : String} {r : V → List V → Hp → VK → Prop} {o e : Expr} {es : List Expr} {to : TE} {t : L2.TA} {apos cpos : Pos} (pa : PlainAttrs T) (slot : Slot T (name : Str) id) (hty : typeOf (.builtin id) = pure (.type "method_descriptor")) (hm : MtR (X.suite a l) id r)
    (ho : PE (X.suite a l) o to) (ha : PA (X.suite a l) (e :: es) t) (hbase : attributeBase o (name : Str) X.env (eval o X.env) = eval o X.env := by rfl)
    (hfew : ((backTo cpos (starEach (e :: es) X.env)).all (fun x => !x.1) && (backToKw cpos (keywordEach [] X.env)).all (fun x => x.1.isSome) && decide ((e :: es).length + ([] : List Keyword).length + (if ([] : List Keyword).isEmpty then 0 else 1) < 30)) = true := by rfl)
    (hline : (apos.endLine == cpos.line) = true := by rfl) (hs : starEach (e :: es) X.env = (false, eval e X.env) :: starEach es X.env := by rfl) (hplain : (backTo cpos (starEach es X.env)).any (·.1) = false := by rfl) :
    PE (X.suite a l) (.Call (.Attribute o (name : Str) apos) (e :: es) [] cpos) (tBM X.K T r to t) := pe_bm pa slot hty hm ho ha hbase hfew hline hs hplain
end
theorem xfC_of {K : PySem.W.Frag} {C : Addr} (h : ExcC K C) : XfC K C := ⟨h.hg, h.hk, h.hs, h.hd⟩
/-! ### a call by name of a lambda without parameters, in a try -/
def tCallX (P : Program) (w : World) (K : PySem.W.Frag) (mg : Str → Option Value) (base : Heap) (k i : Nat) (W : WX) : TE := fun σ H Q => ∃ (f : Addr) (F : NF) (e : Expr) (sp : Sp), σ[i]? = some (some (.ref f)) ∧ H f = some (FnL f F e) ∧ H F.c = some (LamX.CodeO F.c F.qual) ∧ LOkX P w K mg base k f F e sp ∧ sp [] H Q (WE W σ)
theorem pe_callX {X : Cx} {W : WX} {i k : Nat} {x : Str} {p pos : Pos} {P : Program} {w : World} {K : PySem.W.Frag} {mg : Str → Option Value} {base : Heap} (eX : X.prog = P ∧ X.w = w ∧ X.K = K ∧ X.mg = mg ∧ X.base = base) (hr : Room k X.A) (tk : Takes X W) (hN : X.N[i]? = some x) (hv : Vis X.env.scope x) (hd : (x == ("__debug__" : Str)) = false := by decide) (hcd : (x == ("__classdict__" : Str)) = false := by decide) :
    PE X (.Call (.Name x p) [] [] pos) (tCallX P w K mg base k i W) := by
  obtain ⟨rfl, rfl, rfl, rfl, rfl⟩ := eX
  refine ⟨fun pins s σ H Q I h => ?_⟩
  obtain ⟨f, F, b, sp, hs, hf, hc, L, q⟩ := h
  refine wpAny_Call_Name_kw (thn ((pe_var (pos := p) hN hv hd hcd).run pins s σ H (fun v H1 => v = .ref f ∧ H1 = H) I ⟨.ref f, hs, rfl, rfl⟩) fun u s1 ⟨v, H1, I1, r1, q1⟩ => ?_)
  obtain ⟨ev, eH⟩ := q1
  subst ev eH
  obtain rfl : u = Value.ref f := r1
  have at_ : PySem.W.FnAt f s1.heap := by
    obtain ⟨od, sl, pm, ctv, ho⟩ := fnL_at I1.hok hf
    exact ⟨_, od, _, sl, ho⟩
  refine PySem.W.callWith_F0 (first := []) at_ ?_
  refine wpAny_call (codeAny_mono (L.run X.A X.stack s1 H1 Q (WE W σ) hr I1.env0 hf hc q) fun r' s' hq => ?_)
  cases r' with
  | error er => exact passAt tk σ pins H1 s1 er s' I1 hq
  | ok fl =>
    cases fl with
    | ret u => exact I1.after hq
    | next => exact False.elim hq
    | brk => exact False.elim hq
    | cont => exact False.elim hq
end TG


namespace TG
open PySem PySem.Spec PyProof.Rows L2 NdefX GenW Gx Lv
/-! ### cells told of, and what a lambda caught -/
theorem caught_of {cells : List (Str × Addr)} {N names fr : List Str} {σ : L2.St} {cl : List (Addr × Obj)} {F : NF} {ws : List (Option V)} {H : Hp} (T : ToldC cells N names σ cl) (hF : F.cl = cloFrom cells F.scope.names [])
    (hfr : ∀ y, (y, NameKind.free) ∈ F.scope.names → y ∈ fr) (hrf : ∀ y ∈ fr, (y, NameKind.free) ∈ F.scope.names) (hsub : ∀ y ∈ fr, y ∈ names) (len : ws.length = fr.length) (told : ∀ c o, cl.lookup c = some o → H c = some (cellF o))
    (hw : ∀ (i : Nat) (y : Str) (v : V), fr[i]? = some y → ws[i]? = some (some v) → ∃ j : Nat, N[j]? = some y ∧ σ[j]? = some (some v)) : Caught F fr ws cl H := by
  have at_ : ∀ y c, F.cl.lookup y = some c → y ∈ fr ∧ ∃ o v, cells.lookup y = some c ∧ cl.lookup c = some o ∧ o.data = .cell v := fun y c e => by
    rw [hF] at e
    rcases cloFrom_mem (PySem.mem_of_lookup e) with z | ⟨z, hc⟩
    · cases z
    · have hy := hfr y z
      obtain ⟨c', o, v, e1, e2, e3⟩ := T.all y (hsub y hy)
      rw [e1] at hc
      have hc : c = c' := hc
      subst hc
      exact ⟨hy, o, v, e1, e2, e3⟩
  refine ⟨len, told, fun y c e => ?_, fun x y c e1 e2 => ?_, fun i y e => ?_⟩
  · obtain ⟨_, o, v, _, h2, h3⟩ := at_ y c e
    exact ⟨o, v, h2, h3⟩
  · obtain ⟨_, _, _, h1, _⟩ := at_ x c e1
    obtain ⟨_, _, _, h2, _⟩ := at_ y c e2
    exact T.inj x y c h1 h2
  · have hy : y ∈ fr := List.mem_of_getElem? e
    have hm := cloFrom_has (cells := cells) (acc := []) (hrf y hy)
    have hs : ∃ c, F.cl.lookup y = some c := by
      rw [hF]
      cases q : (cloFrom cells F.scope.names []).lookup y with
      | some c => exact ⟨c, rfl⟩
      | none =>
        have := List.lookup_eq_none_iff.mp q _ hm
        simp at this
    obtain ⟨c, hc⟩ := hs
    obtain ⟨_, o, v0, h1, h2, h3⟩ := at_ y c hc
    refine ⟨c, hc, fun v hv => ?_⟩
    obtain ⟨j, hj1, hj2⟩ := hw i y v e hv
    obtain ⟨u, e1, e2⟩ := T.val y (hsub y hy) c o h1 h2 j v hj1 hj2
    exact ⟨o, u, h2, e1, e2⟩
section
variable {cs : List (Addr × Addr)} {H H' : Hp} {cl : List (Addr × Obj)}
theorem add_at (un : ∀ c o, cl.lookup c = some o → H c = none) {b : Addr} {o : HO} (h : H b = some o) : addC H cl b = some o := by
  cases r : cl.lookup b with
  | some u => rw [un b u r] at h; cases h
  | none => rw [addC_out r]; exact h
theorem del_at (un : ∀ c o, cl.lookup c = some o → H c = none) {b : Addr} {o : HO} (h : H b = some o) : cl.lookup b = none := by
  cases r : cl.lookup b with
  | some u => rw [un b u r] at h; cases h
  | none => rfl
theorem add_none {D : Addr} (h : addC H cl D = none) : cl.lookup D = none ∧ H D = none := by
  cases r : cl.lookup D with
  | some u => rw [addC_in r] at h; cases h
  | none => rw [addC_out r] at h; exact ⟨rfl, h⟩
theorem del_upd_add (un : ∀ c o, cl.lookup c = some o → H c = none) {D : Addr} {o : HO} (hD : cl.lookup D = none) : delC (upd (addC H cl) D o) cl = upd H D o := by
  funext b
  cases r : cl.lookup b with
  | some u =>
    rw [delC_in r, upd_ne (fun z => by rw [z, hD] at r; cases r)]
    exact (un b u r).symm
  | none =>
    rw [delC_out r]
    by_cases hb : b = D
    · rw [hb, upd_same, upd_same]
    · rw [upd_ne hb, upd_ne hb, addC_out r]
theorem tabs_add (un : ∀ c o, cl.lookup c = some o → H c = none) (t : Tabs cs H) : Tabs cs (addC H cl) := fun p hp => by
  obtain ⟨ps, h1, h2⟩ := t p hp
  exact ⟨ps, add_at un h1, h2⟩
/-- what came of a heap with the cells told, the cells untold again -/
theorem ex_del (un : ∀ c o, cl.lookup c = some o → H c = none) (told : ∀ c o, cl.lookup c = some o → H' c = some (cellF o)) (x : Ex cs (addC H cl) H') : Ex cs H (delC H' cl) := by
  refine ⟨fun b o h n => ?_, fun p hp => ?_, fun b h => ?_, fun b o h n => ?_⟩
  · rw [delC_out (del_at un h)]
    exact x.ext b o (add_at un h) n
  · obtain ⟨ps, h1, h2⟩ := x.tab p hp
    have r : cl.lookup p.2 = none := by
      cases r : cl.lookup p.2 with
      | none => rfl
      | some u => rw [told _ u r] at h1; cases h1
    exact ⟨ps, by rw [delC_out r]; exact h1, h2⟩
  · cases r : cl.lookup b with
    | some u => exact un b u r
    | none =>
      rw [delC_out r] at h
      exact (add_none (x.old b h)).2
  · rw [delC_out (del_at un h)]
    exact x.oth b o (add_at un h) n
end
end TG


namespace Dl
open PySem PySem.Spec PyProof.Rows L2 NdefX GenW Lv
/-! Lambdas of one parameter, whose default is a whole number, and that capture cells. -/
/-- the function's data, its defaults in a tuple -/
def fnD (name qual : Str) (params : Arguments) (body : Expr) (scope : Scope) (cl : List (Str × Addr)) (pm cdv ct : Value) (dV : Value) : FuncData :=
  { name := name, qualname := qual, params := params, body := .expr body, scope := scope, globals := mainGlobals, closure := cl, defaults := dV, kwdefaults := .none, pyModule := pm, code := cdv, closureTuple := ct, builtins := builtinsNs }
def objD (name qual : Str) (params : Arguments) (body : Expr) (scope : Scope) (cl : List (Str × Addr)) (pm : Value) (c' : Addr) (ct : Value) (dV : Value) : Obj := { cls := .type "function", data := .func (fnD name qual params body scope cl pm (.ref c') ct dV) }
theorem makeTail {M : Model} {A : Around} {E : Value → Shared → Prop} {s : Shared} {name qual : Str} {params : Arguments} {body : Expr} {scope : Scope} {env : Env} {c P : Addr} {ps : Array Value} {pos : Pos} {firstLine : Nat} {mg : Str → Option Value} {q : Str × Addr} {r : List (Str × Addr)} {dV : Value} {Q : Value → Shared → Prop}
    (hcl : closureFor scope env = pure (q :: r)) (hge0 : env.globals = mainGlobals) (hg : s.heap.Ns mainGlobals mg) (hcode : env.code = .ref c) (C : PySem.W.CodeHd s.heap c P) (hP : s.heap.get? P = some (PySem.W.tabObj ps)) (ht : TriplesOk ps.toList) (hnf : codeAmong pos ps.toList = none)
    (hgP : mainGlobals ≠ P) (hb : s.heap.BuiltinsAt mg P)
    (h : ∀ (c' : Nat) (ctv : Value) (h' : Heap) (tk : Nat), Heap.ExtBut P s.heap h' → s.heap.objs.size ≤ c' → c' < h'.objs.size → h'.CodeRec (.ref c') qual → h'.get? P = some (PySem.W.tabObj (ps ++ #[rawInt pos.line, rawInt pos.col, .ref c'])) →
      Q (.ref h'.objs.size) { heap := h'.push (objD name qual params body scope (q :: r) ((mg "__name__").getD .none) c' ctv dV), gens := s.gens, drawn := s.drawn, toks := tk, os := s.os }) :
    wpAny M A (PySem.makeTail name qual params (.expr body) scope env dV .none none pos firstLine) Q E s := by
  obtain ⟨bm, ob, hbm, hne0, hl, hneP, hbo, hcls, hdict, hdata⟩ := hb
  unfold PySem.makeTail
  rw [hcl, hge0]
  refine wpAny_bind (wpAny_pure ?_)
  rw [if_neg (by simp)]
  refine wpAny_bind (wpAny_newTextTuple ?_)
  refine wpAny_bind (wpAny_functionCodeX hcode (PySem.W.CodeHd.code (C.keeps fun b o e => Heap.get?_push_of_some _ e) (Heap.get?_push_of_some _ hP) ht) (PySem.W.CodeHd.tab (C.keeps fun b o e => Heap.get?_push_of_some _ e) (Heap.get?_push_of_some _ hP)) hnf fun c' h' tk hx hge hlt x hrec htb x_1 => ?_)
  have hg' := Heap.Ns.extBut (Heap.Ns.push hg _) hx hgP
  have hx' : Heap.ExtBut P s.heap h' := fun b o hb' e => hx b o hb' (Heap.get?_push_of_some _ e)
  have hge' : s.heap.objs.size ≤ c' := by
    have hge2 : s.heap.objs.size + 1 ≤ c' := by
      have := hge
      rw [Heap.size_push] at this
      exact this
    omega
  refine wpAny_bind (wpAny_builtinsFor hg' hbm hne0 (hx' bm ob hneP hbo) hcls hdict hdata (wpAny_bind (wpAny_nsGet hg' (wpAny_bind (wpAny_pure (wpAny_newObj_type (h c' _ h' tk hx' hge' hlt hrec htb.2) ?_))))))
  simp [sizeOk]
theorem makeTailHit {M : Model} {A : Around} {E : Value → Shared → Prop} {s : Shared} {name qual : Str} {params : Arguments} {body : Expr} {scope : Scope} {env : Env} {c P c' : Addr} {ps : Array Value} {pos : Pos} {firstLine : Nat} {mg : Str → Option Value} {q : Str × Addr} {r : List (Str × Addr)} {dV : Value} {Q : Value → Shared → Prop}
    (hcl : closureFor scope env = pure (q :: r)) (hge0 : env.globals = mainGlobals) (hg : s.heap.Ns mainGlobals mg) (hcode : env.code = .ref c) (C : PySem.W.CodeHd s.heap c P) (hP : s.heap.get? P = some (PySem.W.tabObj ps)) (ht : TriplesOk ps.toList) (hh : codeAmong pos ps.toList = some (.ref c'))
    (hb : s.heap.BuiltinsAt mg P)
    (h : ∀ (ctv : Value) (h' : Heap) (tk : Nat), (∀ (b : Addr) (o : Obj), s.heap.get? b = some o → h'.get? b = some o) → s.heap.objs.size ≤ h'.objs.size →
      Q (.ref h'.objs.size) { heap := h'.push (objD name qual params body scope (q :: r) ((mg "__name__").getD .none) c' ctv dV), gens := s.gens, drawn := s.drawn, toks := tk, os := s.os }) :
    wpAny M A (PySem.makeTail name qual params (.expr body) scope env dV .none none pos firstLine) Q E s := by
  obtain ⟨bm, ob, hbm, hne0, hl, hneP, hbo, hcls, hdict, hdata⟩ := hb
  unfold PySem.makeTail
  rw [hcl, hge0]
  refine wpAny_bind (wpAny_pure ?_)
  rw [if_neg (by simp)]
  refine wpAny_bind (wpAny_newTextTuple ?_)
  refine wpAny_bind (wpAny_functionCode_hit hcode (PySem.W.CodeHd.code (C.keeps fun b o e => Heap.get?_push_of_some _ e) (Heap.get?_push_of_some _ hP) ht) hh ?_)
  have hg' := Heap.Ns.push hg { cls := Value.type "tuple", data := Data.seq (List.map (fun x => Value.ref x.snd) ((q :: r).mergeSort fun a b => decide (a.fst.cps.toList ≤ b.fst.cps.toList))).toArray }
  refine wpAny_bind (wpAny_builtinsFor hg' hbm hne0 (Heap.get?_push_of_some _ hbo) hcls hdict hdata (wpAny_bind (wpAny_nsGet hg' (wpAny_bind (wpAny_pure (wpAny_newObj_type (h _ _ _ (fun b o e => Heap.get?_push_of_some _ e) (by rw [Heap.size_push]; exact Nat.le_succ _)) ?_))))))
  simp [sizeOk]
/-- the object at f is the lambda F of the body e, its defaults at t -/
def FnD (f : Addr) (F : NF) (e : Expr) (t : Addr) : HO := .ext fun h => ∃ (od : Option Addr) (sl : Array (Option Value)) (pm ctv : Value), h.get? f = some (⟨.type "function", od, .func (fnD F.name F.qual F.params e F.scope F.cl pm (.ref F.c) ctv (.ref t)), sl⟩ : Obj)
theorem fnD_at {P : Program} {w : World} {H : Hp} {h : Heap} {f : Addr} {F : NF} {e : Expr} {t : Addr} (hok : HOk P w H h) (q : H f = some (FnD f F e t)) : ∃ (od : Option Addr) (sl : Array (Option Value)) (pm ctv : Value), h.get? f = some (⟨.type "function", od, .func (fnD F.name F.qual F.params e F.scope F.cl pm (.ref F.c) ctv (.ref t)), sl⟩ : Obj) := by
  have z := hok f _ q
  obtain ⟨z, _, _⟩ := z
  exact z
theorem fnD_ne {f : Addr} {F : NF} {e : Expr} {t : Addr} (ps : Array Value) : FnD f F e t ≠ .tbl ps := fun z => by
  unfold FnD at z
  cases z
section
variable {X : Cx} {pins : List (Addr × Obj)} {σ : L2.St} {H : Hp} {s : Shared}
theorem inv_lamD {F : NF} {e : Expr} {t : Addr} {tk : Nat} {pm ctv : Value} (I : Inv X pins σ H s) :
    Inv X pins σ (upd H s.heap.objs.size (FnD s.heap.objs.size F e t)) { s with heap := s.heap.push (objD F.name F.qual F.params e F.scope F.cl pm F.c ctv (.ref t)), toks := tk } := by
  refine I.laid (a := s.heap.objs.size) (fun b u q => Heap.get?_push_of_some _ q) (Nat.le_refl _) ?_
  have q : (s.heap.push (objD F.name F.qual F.params e F.scope F.cl pm F.c ctv (.ref t))).get? s.heap.objs.size = some (objD F.name F.qual F.params e F.scope F.cl pm F.c ctv (.ref t)) := Heap.get?_push_size _ rfl
  exact ⟨⟨_, _, pm, ctv, q⟩, ⟨_, q⟩, fun h1 h2 ⟨od, sl, p, t, z⟩ st => ⟨od, sl, p, t, st _ z⟩⟩
theorem inv_tup0 {v : V} {u : Value} (I : Inv X pins σ H s) (r : RelV v u) :
    Inv X pins σ (upd H s.heap.objs.size (.tup [v])) { s with heap := s.heap.push { cls := Value.type "tuple", data := Data.seq [u].toArray } } :=
  I.laid (t' := s.toks) (fun b u e => Heap.get?_push_of_some _ e) (Nat.le_refl _) ⟨by show 1 ≤ sizeLine; decide, [u], .cons r .nil, _, Heap.get?_push_size s.heap rfl, rfl, 0, rfl⟩
/-- a lambda with one default is made -/
theorem lam_valD {c P : Addr} {params : Arguments} {body d : Expr} {scope : Scope} {pos : Pos} {Q : Value → Shared → Prop} {q0 : Str × Addr} {r0 : List (Str × Addr)} {v : V} (I : Inv X pins σ H s) (B : LamX.TabB X.base X.mg c P) (hcode : X.env.code = .ref c)
    (hT : LamX.TabS H P (X.env.qual ++ "<lambda>")) (hdef : params.defaults = [d]) (hkw : params.kw_defaults = []) (hko : params.kwonlyargs = []) (hd : PE X d (tC v)) (hfree : ∀ y ∈ scope.names, y.2 = .free → ∃ c, X.env.cells.lookup y.1 = some c) (hclo : cloFrom X.env.cells scope.names [] = q0 :: r0)
    (k : ∀ (f c' t : Addr) (H1 : Hp) (s' : Shared), Inv X pins σ H1 s' → (∀ b o, H b = some o → b ≠ P → H1 b = some o) → (∀ b, H1 b = none → H b = none) → LamX.TabS H1 P (X.env.qual ++ "<lambda>") → H f = none →
      H1 f = some (FnD f ⟨"<lambda>", X.env.qual ++ "<lambda>", params, [], scope, cloFrom X.env.cells scope.names [], c'⟩ body t) → H1 c' = some (LamX.CodeO c' (X.env.qual ++ "<lambda>")) → H1 t = some (.tup [v]) → Q (.ref f) s') :
    wpAny (model X.prog X.w) X.A (eval (.Lambda params body scope pos) X.env) Q X.xe s := by
  refine PySem.W.kdv_lam (by rw [hdef]; rfl) hkw ?_
  rw [hdef]
  show wpAny _ _ (evalAll (eval d X.env :: [])) _ _ _
  refine evalAll_cons (thn (hd.run pins s σ H (fun x H1 => x = v ∧ H1 = H) I ⟨rfl, rfl⟩) fun u s1 ⟨x, H1, I1, ru, ex, eH⟩ => ?_)
  subst ex
  subst eH
  refine wpAny_pure ?_
  rw [makeFunction_eq]
  simp only [List.isEmpty_cons, hko, List.zip_nil_left, List.filterMap_nil, List.isEmpty_nil, if_true, Bool.false_eq_true, if_false]
  refine wpAny_bind (wpAny_newTextTuple ?_)
  refine wpAny_bind (wpAny_pure ?_)
  refine wpAny_bind (wpAny_pure ?_)
  have I2 := inv_tup0 I1 ru
  have nt := I1.hok.fresh (Nat.le_refl s1.heap.objs.size)
  have ht2 : upd H1 s1.heap.objs.size (.tup [x]) s1.heap.objs.size = some (.tup [x]) := upd_same
  have kp2 : ∀ b o, H1 b = some o → upd H1 s1.heap.objs.size (.tup [x]) b = some o := fun b o e => by rw [upd_ne (ne_of_none e nt)]; exact e
  have np2 : ∀ b, upd H1 s1.heap.objs.size (.tup [x]) b = none → H1 b = none := fun b e => by
    unfold upd at e
    split at e
    · cases e
    · exact e
  obtain ⟨ps, tP0, tok, tin0⟩ := hT
  have tP := kp2 _ _ tP0
  have tin : ∀ pos cv, codeAmong pos ps.toList = some cv → ∃ c0, cv = .ref c0 ∧ upd H1 s1.heap.objs.size (.tup [x]) c0 = some (LamX.CodeO c0 (X.env.qual ++ "<lambda>")) := fun pos cv e => by
    obtain ⟨c0, e1, e2⟩ := tin0 pos cv e
    exact ⟨c0, e1, kp2 _ _ e2⟩
  generalize upd H1 s1.heap.objs.size (.tup [x]) = H2 at I2 ht2 kp2 np2 tP tin ⊢
  generalize s1.heap.objs.size = t at ht2 ⊢
  generalize hs2 : ({ heap := s1.heap.push { cls := Value.type "tuple", data := Data.seq [u].toArray }, gens := s1.gens, drawn := s1.drawn, toks := s1.toks, os := s1.os } : Shared) = s2 at I2 ⊢
  have bP : s2.heap.BuiltinsAt X.mg P := B.bm.keeps I2.bk
  have gP : s2.heap.get? P = some { cls := .none, data := .fields ps } := I2.hok P _ tP
  have none3 : ∀ {G : Hp} {x y z : Addr} {o u v : HO} {b : Addr}, upd (upd (upd G x o) y u) z v b = none → G b = none := fun {G x y z o u v b} q => by
    have r1 := q
    unfold upd at r1
    split at r1
    · cases r1
    split at r1
    · cases r1
    split at r1
    · cases r1
    exact r1
  have hclf : closureFor scope X.env = pure (q0 :: r0) := by rw [← hclo]; exact closure_ok hfree
  cases hc : codeAmong pos ps.toList with
  | some cv =>
    obtain ⟨c', e, hco⟩ := tin pos cv hc
    subst e
    refine makeTailHit (mg := X.mg) (c := c) (P := P) (ps := ps) hclf I2.ok.glob (I2.mod.glob.keeps I2.bk) hcode (B.code.keeps I2.bk) gP tok hc bP fun ctv h' tk hx2 hsz => ?_
    have I3 : Inv X pins σ H2 { s2 with heap := h', toks := tk } := I2.kept hx2
    have nF : H2 h'.objs.size = none := I3.hok.fresh (Nat.le_refl _)
    have I4 := inv_lamD (F := ⟨"<lambda>", X.env.qual ++ "<lambda>", params, [], scope, cloFrom X.env.cells scope.names [], c'⟩) (e := body) (t := t) (tk := tk) (pm := (X.mg "__name__").getD .none) (ctv := ctv) I3
    rw [hclo] at I4
    refine k h'.objs.size c' t _ _ I4 (fun b o q _ => by rw [upd_ne (ne_of_none (kp2 _ _ q) nF)]; exact kp2 _ _ q) (fun b q => np2 b ?_) ⟨ps, by rw [upd_ne (ne_of_none tP nF)]; exact tP, tok, fun p' cv' q => ?_⟩ (np2 _ nF) (by rw [upd_same, hclo]) (by rw [upd_ne (ne_of_none hco nF)]; exact hco) (by rw [upd_ne (ne_of_none ht2 nF)]; exact ht2)
    · unfold upd at q
      split at q
      · cases q
      · exact q
    · obtain ⟨c0, e1, e2⟩ := tin p' cv' q
      exact ⟨c0, e1, by rw [upd_ne (ne_of_none e2 nF)]; exact e2⟩
  | none =>
    refine makeTail (mg := X.mg) (c := c) (P := P) (ps := ps) hclf I2.ok.glob (I2.mod.glob.keeps I2.bk) hcode (B.code.keeps I2.bk) gP tok hc B.gP bP fun c' ctv h' tk hx2 hge hlt hrec htb => ?_
    obtain ⟨c2, oc, vs, t2, e2, hoc, hd2, hv⟩ := hrec
    cases e2
    have nC : H2 c' = none := I2.hok.fresh hge
    have I3 := LamX.inv_table (t' := tk) (more := #[rawInt pos.line, rawInt pos.col, .ref c']) (h' := h') I2 tP (fun b o hb q => hx2 b o hb q) htb hge ⟨oc, vs, t2, hoc, hd2, hv⟩
    have nF := I3.hok.fresh (Nat.le_refl _)
    have I4 := inv_lamD (F := ⟨"<lambda>", X.env.qual ++ "<lambda>", params, [], scope, cloFrom X.env.cells scope.names [], c'⟩) (e := body) (t := t) (tk := tk) (pm := (X.mg "__name__").getD .none) (ctv := ctv) I3
    rw [hclo] at I4
    have fC : h'.objs.size ≠ c' := Nat.ne_of_gt hlt
    have pC : P ≠ c' := ne_of_none tP nC
    have nF0 : H2 h'.objs.size = none := I2.hok.fresh (Nat.le_trans hge (Nat.le_of_lt hlt))
    have pF : P ≠ h'.objs.size := ne_of_none tP nF0
    have eL : (ps ++ #[rawInt pos.line, rawInt pos.col, .ref c']).toList = ps.toList ++ [rawInt pos.line, rawInt pos.col, .ref c'] := by simp
    have kk : ∀ b o, H2 b = some o → b ≠ P → upd (upd (upd H2 P (.tbl (ps ++ #[rawInt pos.line, rawInt pos.col, .ref c']))) c' (LamX.CodeO c' (X.env.qual ++ "<lambda>"))) h'.objs.size (FnD h'.objs.size ⟨"<lambda>", X.env.qual ++ "<lambda>", params, [], scope, q0 :: r0, c'⟩ body t) b = some o := fun b o q hb => by
      rw [upd_ne (ne_of_none q nF0), upd_ne (ne_of_none q nC), upd_ne hb]
      exact q
    refine k h'.objs.size c' t _ _ I4 (fun b o q hb => kk b o (kp2 _ _ q) hb) (fun b q => np2 b (none3 q)) ⟨_, by rw [upd_ne pF, upd_ne pC, upd_same], by rw [eL]; exact PySem.TriplesOk_snoc _ _ _ _ tok, fun p' cv q => ?_⟩ (np2 _ nF0) (by rw [upd_same, hclo]) (by rw [upd_ne fC.symm, upd_same]) (kk t _ ht2 fun e => by rw [e, tP] at ht2; cases ht2)
    rw [eL] at q
    rcases LamX.among_app _ tok q with z | z
    · obtain ⟨c0, e1, e2⟩ := tin p' cv z
      exact ⟨c0, e1, kk _ _ e2 (fun y => by rw [y, tP] at e2; exact LamX.codeO_ne ps (Option.some.inj e2).symm)⟩
    · exact ⟨c', z, by rw [upd_ne fC.symm, upd_same]⟩
end
end Dl


namespace Dl
open PySem PySem.Spec PyProof.Rows L2 NdefX GenW Lv
theorem bind1 {M : Model} {A : Around} {E : Value → Shared → Prop} {s : Shared} {name qual nm : Str} {params : Arguments} {body : Expr} {scope : Scope} {cl : List (Str × Addr)} {pm cdv ct u : Value} {t : Addr} {o : Obj} {n : Nat} {Q : List (Str × Value) → Shared → Prop}
    (hp : params.posonlyargs = []) (ha : params.args.map (·.arg) = [nm]) (hk : params.kwonlyargs = []) (hv : params.vararg = none) (hkw : params.kwarg = none) (ho : s.heap.get? t = some o) (hd : o.data = .seq #[u] n) (h : Q [(nm, u)] s) :
    wpAny M A (bindArgs (fnD name qual params body scope cl pm cdv ct (.ref t)) ⟨[], []⟩) Q E s := by
  unfold bindArgs
  simp only [fnD, hp, ha, hk, hv, hkw, List.map_nil, List.nil_append, List.zip_nil_right, List.forIn_nil]
  refine wpAny_bind (wpAny_pure ?_)
  refine wpAny_bind (wpAny_seqItems ho hd ?_)
  simp
  exact wpAny_pure h
end Dl

namespace TG
open PySem PySem.Spec PyProof.Rows L2 NdefX GenW Gx Lv Dl
/-! ### works: lambdas that are called without anything, with or without a default -/
structure LamW (P : Program) (w : World) (K : PySem.W.Frag) (mg : Str → Option Value) (base : Heap) (k : Nat) (f : Addr) (Hf : Hp → Prop) (sp : Sp) : Prop where
  at_ : ∀ {H : Hp} {h : Heap}, HOk P w H h → Hf H → PySem.W.FnAt f h
  run : ∀ (A : Around) (outer : List Env) (s : Shared) (H : Hp) (Q : VK) (E : XK), Room k A → Env0 P w K mg base A outer s H → Hf H → sp [] H Q E →
    codeAny (model P w) A (.call (.ref f) ⟨[], []⟩) (CR (L2.CX P w) outer P w H s Q E) s
/-- a lambda without parameters stands -/
def HfL (f : Addr) (F : NF) (e : Expr) (H : Hp) : Prop := H f = some (FnL f F e) ∧ H F.c = some (LamX.CodeO F.c F.qual)
/-- one with a default -/
def HfD (f : Addr) (F : NF) (e : Expr) (t : Addr) (v : V) (H : Hp) : Prop := H f = some (FnD f F e t) ∧ H F.c = some (LamX.CodeO F.c F.qual) ∧ H t = some (.tup [v])
theorem HfL.ex {cs : List (Addr × Addr)} {f : Addr} {F : NF} {e : Expr} {H H' : Hp} (h : HfL f F e H) (x : Ex cs H H') : HfL f F e H' :=
  ⟨x.ext _ _ h.1 fun ps => fnL_ne ps, x.ext _ _ h.2 fun ps => LamX.codeO_ne ps⟩
theorem HfD.ex {cs : List (Addr × Addr)} {f : Addr} {F : NF} {e : Expr} {t : Addr} {v : V} {H H' : Hp} (h : HfD f F e t v H) (x : Ex cs H H') : HfD f F e t v H' :=
  ⟨x.ext _ _ h.1 fun ps => fnD_ne ps, x.ext _ _ h.2.1 fun ps => LamX.codeO_ne ps, x.tup h.2.2⟩
section
variable {P : Program} {w : World} {K : PySem.W.Frag} {mg : Str → Option Value} {base : Heap}
theorem lamw_l {k : Nat} {f : Addr} {F : NF} {e : Expr} {sp : Sp} (L : LOkX P w K mg base k f F e sp) : LamW P w K mg base k f (HfL f F e) sp :=
  ⟨fun {H h} hok q => by
    obtain ⟨od, sl, pm, ctv, ho⟩ := fnL_at hok q.1
    exact ⟨_, od, _, sl, ho⟩, fun A outer s H Q E hr e0 h hsp => L.run A outer s H Q E hr e0 h.1 h.2 hsp⟩
theorem lamw_d {k : Nat} {f t : Addr} {F : NF} {e : Expr} {N fr : List Str} {nm : Str} {v : V} {sp : Sp} (S : NScope N [nm] fr F.scope) (hp : F.params.posonlyargs = []) (ha : F.params.args.map (·.arg) = [nm]) (hk : F.params.kwonlyargs = []) (hv : F.params.vararg = none) (hkw : F.params.kwarg = none) (hloc : F.scope.names.lookup nm = some .local)
    (hbody : ∀ (A : Around) (outer : List Env) (s : Shared) (H : Hp) (Q : VK) (E : XK), Room k (A.deeper (envF F f s.heap.objs.size)) → sp [] H Q E → ∃ (ws : List (Option V)) (cl : List (Addr × Obj)) (t : TE), Caught F fr ws cl H ∧
      PE (ncx (L2.CX P w) P w K mg base N F f A outer s (delC H cl) (fun cls d H' => (∀ c o, cl.lookup c = some o → H' c = none) → E cls d (addC H' cl))) e t ∧ t (startF N [v] ws) (delC H cl) (fun v H' => (∀ c o, cl.lookup c = some o → H' c = none) → Q v (addC H' cl))) :
    LamW P w K mg base (k + 1) f (HfD f F e t v) sp := by
  refine ⟨fun {H h} hok q => ?_, fun A outer s H Q E hr e0 hfd hsp => ?_⟩
  · obtain ⟨od, sl, pm, ctv, ho⟩ := fnD_at hok q.1
    exact ⟨_, od, _, sl, ho⟩
  obtain ⟨hf, hc, ht0⟩ := hfd
  have lim : s.heap.NoLimit := e0.mod.nolimit.keeps fun b o q => (e0.bs b o q).1
  obtain ⟨od, sl, pm, ctv, ho⟩ := fnD_at e0.hok hf
  obtain ⟨ws, cl, tm, C, ht, hq⟩ := hbody A outer s H Q E (hr.deeper _) hsp
  obtain ⟨_, us, rv, ot, hot, hoc, n, hod⟩ := e0.hok t _ ht0
  obtain ⟨u, rfl, ru⟩ : ∃ u, us = [u] ∧ RelV v u := by
    cases rv with
    | cons r rest => cases rest; exact ⟨_, rfl, r⟩
  have hnf : ∀ c o, cl.lookup c = some o → c ∉ frs outer := fun c o q hb => by
    have z := e0.frf c hb
    rw [C.told c o q] at z
    cases z
  have at0 : ∀ c o, cl.lookup c = some o → s.heap.get? c = some o := fun c o q => (e0.hok c _ (C.told c o q)).1
  refine codeAny_mono (R := CR (L2.CX P w) outer P w (delC H cl) s (fun v H' => (∀ c o, cl.lookup c = some o → H' c = none) → Q v (addC H' cl)) (fun cls d H' => (∀ c o, cl.lookup c = some o → H' c = none) → E cls d (addC H' cl))) ?_ fun r s' q => ?_
  · have e1 := env_del e0 C.told
    refine PySem.W.kla_callFunE hr.depth ho rfl S.co S.gen rfl (codeO_at e0.hok hc) ?_
    refine bind1 hp ha hk hv hkw hot hod ?_
    refine wpAny_newFunctionEnv S.nocell (fun ⟨n, _⟩ hy => by rw [List.mem_singleton] at hy; injection hy with h1 _; rw [h1]; exact hloc) (fun h₁ hns hsb => ⟨lim.fresh _ hsb, ?_⟩) S.kind
    have kp : ∀ b o, s.heap.get? b = some o → h₁.get? b = some o := fun b o q => hsb.extBut b o (Nat.ne_of_lt (Heap.lt_size q)) (Heap.get?_push_of_some _ q)
    have CA : NdefX.CellsAt F.cl fr ws s.heap (delC H cl) := by
      refine ⟨C.len, fun y c q => ?_, C.inj, fun i y q => ?_⟩
      · obtain ⟨o, v, h1, h2⟩ := C.all y c q
        exact ⟨delC_in h1, v, o, at0 c o h1, h2⟩
      · obtain ⟨c, h1, h2⟩ := C.has i y q
        refine ⟨c, h1, fun v hv => ?_⟩
        obtain ⟨o, u, h3, h4, h5⟩ := h2 v hv
        exact ⟨u, h5, o, at0 c o h3, h4⟩
    have I := inv_startN (CX := L2.CX P w) (P := P) (w := w) (E := fun cls d H' => (∀ c o, cl.lookup c = some o → H' c = none) → E cls d (addC H' cl)) (f := f) (tk := s.toks + (([nm] : List Str).zip ([u] : List Value)).length) S hr.hd e1 (vs := [v]) (us := [u]) rfl (.cons ru .nil) CA hns kp
    refine PySem.W.kla_codeExpr (wpAny_mono (ht.run [] _ (startF N [v] ws) (delC H cl) _ I hq) (fun v s' q => ?_) fun e' s' q => q)
    obtain ⟨w', H', J, rv, q⟩ := q
    exact ⟨w', H', J.os, J.bare, J.base, J.hok, rv, q⟩
  · cases r with
    | error er => exact cx_add e0.hok (fun c o q => ⟨C.told c o q, hnf c o q⟩) q
    | ok fl =>
      cases fl with
      | ret u => exact ce_add e0.hok (fun c o q => ⟨C.told c o q, hnf c o q⟩) q
      | next => exact False.elim q
      | brk => exact False.elim q
      | cont => exact False.elim q
end
/-! ### a call of such a work by a local's name, in a try -/
def tCallW (P : Program) (w : World) (K : PySem.W.Frag) (mg : Str → Option Value) (base : Heap) (k i : Nat) (W : WX) : TE := fun σ H Q => ∃ (f : Addr) (Hf : Hp → Prop) (sp : Sp), σ[i]? = some (some (.ref f)) ∧ Hf H ∧ LamW P w K mg base k f Hf sp ∧ sp [] H Q (WE W σ)
theorem pe_callW {X : Cx} {W : WX} {i k : Nat} {x : Str} {p pos : Pos} {P : Program} {w : World} {K : PySem.W.Frag} {mg : Str → Option Value} {base : Heap} (eX : X.prog = P ∧ X.w = w ∧ X.K = K ∧ X.mg = mg ∧ X.base = base) (hr : Room k X.A) (tk : Takes X W) (hN : X.N[i]? = some x) (hv : Vis X.env.scope x) (hd : (x == ("__debug__" : Str)) = false := by decide) (hcd : (x == ("__classdict__" : Str)) = false := by decide) :
    PE X (.Call (.Name x p) [] [] pos) (tCallW P w K mg base k i W) := by
  obtain ⟨rfl, rfl, rfl, rfl, rfl⟩ := eX
  refine ⟨fun pins s σ H Q I h => ?_⟩
  obtain ⟨f, Hf, sp, hs, hf, L, q⟩ := h
  refine wpAny_Call_Name_kw (thn ((pe_var (pos := p) hN hv hd hcd).run pins s σ H (fun v H1 => v = .ref f ∧ H1 = H) I ⟨.ref f, hs, rfl, rfl⟩) fun u s1 ⟨v, H1, I1, r1, q1⟩ => ?_)
  obtain ⟨ev, eH⟩ := q1
  subst ev eH
  obtain rfl : u = Value.ref f := r1
  have at_ := L.at_ I1.hok hf
  refine PySem.W.callWith_F0 (first := []) at_ ?_
  refine wpAny_call (codeAny_mono (L.run X.A X.stack s1 H1 Q (WE W σ) hr I1.env0 hf q) fun r' s' hq => ?_)
  cases r' with
  | error er => exact passAt tk σ pins H1 s1 er s' I1 hq
  | ok fl =>
    cases fl with
    | ret u => exact I1.after hq
    | next => exact False.elim hq
    | brk => exact False.elim hq
    | cont => exact False.elim hq
/-! ### such a lambda is made -/
def tLamD (P : Addr) (q : Str) (params : Arguments) (body : Expr) (scope : Scope) (cl : List (Str × Addr)) (v : V) : TE := fun _ H Q => LamX.TabS H P q ∧ ∀ (f c' t : Addr) (H1 : Hp), (∀ b o, H b = some o → b ≠ P → H1 b = some o) → (∀ b, H1 b = none → H b = none) → LamX.TabS H1 P q → H f = none →
  HfD f ⟨"<lambda>", q, params, [], scope, cl, c'⟩ body t v H1 → Q (.ref f) H1
theorem pe_lamD {X : Cx} {c P : Addr} {params : Arguments} {body d : Expr} {scope : Scope} {pos : Pos} {v : V} (B : LamX.TabB X.base X.mg c P) (hcode : X.env.code = .ref c) (hdef : params.defaults = [d]) (hkw : params.kw_defaults = []) (hko : params.kwonlyargs = []) (hd : PE X d (tC v))
    (hfr : ∀ y ∈ scope.names, y.2 = .free → X.env.kindOf y.1 = some .cell ∨ X.env.kindOf y.1 = some .free) (hne : ∃ y ∈ scope.names, y.2 = .free) :
    PE X (.Lambda params body scope pos) (tLamD P (X.env.qual ++ "<lambda>") params body scope (cloFrom X.env.cells scope.names []) v) := by
  refine ⟨fun pins s σ H Q I h => ?_⟩
  obtain ⟨hT, h⟩ := h
  have hfree : ∀ y ∈ scope.names, y.2 = .free → ∃ c, X.env.cells.lookup y.1 = some c := fun y hy e => I.ok.has _ (hfr y hy e)
  obtain ⟨y, hy, ey⟩ := hne
  obtain ⟨cy, hcy⟩ := hfree y hy ey
  cases hq : cloFrom X.env.cells scope.names [] with
  | nil =>
    have hm := @cloFrom_has X.env.cells scope.names [] y.1 (by rw [← ey]; exact hy)
    rw [hq] at hm
    cases hm
  | cons q0 r0 =>
    rw [hq] at h
    exact lam_valD I B hcode hT hdef hkw hko hd hfree hq fun f c' t H1 s' J k1 k2 t1 nf hf hc ht => ⟨.ref f, H1, J, rfl, h f c' t H1 k1 k2 t1 nf ⟨by rw [← hq]; exact hf, hc, ht⟩⟩
end TG


namespace TG
open PySem PySem.Spec PyProof.Rows L2 NdefX GenW Gx Lv Dl
/-! ### the eleven classes, and what _law_told tells of them -/
structure Errs (K : PySem.W.Frag) (mg : Str → Option Value) : Prop where
  mg_ : ∀ j, j < 11 → mg (nmE j) = some (.ref (He.ga K (nmE j)))
  grow : mg "GrowError" = some (.ref (He.ga K "GrowError"))
  exc : ∀ j, j < 11 → ExcC K (He.ga K (nmE j))
  sub : ∀ j, j < 11 → PySem.W.exmOne K (.ref (He.ga K (nmE j))) (.ref (He.ga K "GrowError")) = some true
  val : ∀ j, j < 11 → PySem.W.kitOne K (.ref (He.ga K (nmE j))) (.type "ValueError") = some true
  kit : ∀ i j, i < 11 → j < 11 → PySem.W.kitOne K (.ref (He.ga K (nmE i))) (.ref (He.ga K (nmE j))) = some (decide (i = j))
  fld : ∀ j, j < 11 → flE j ≠ "" → PySem.W.findIn K (.ref (He.ga K (nmE j))) (flE j) = some none
  ve : mg "ValueError" = none
/-- the error of the j-th class, whose value, if it has one, is n -/
structure ErrAt (K : PySem.W.Frag) (H : Hp) (j : Nat) (n : Int) (cls : Value) (d : Option Addr) : Prop where
  lt : j < 11
  cls : cls = .ref (He.ga K (nmE j))
  yes : flE j ≠ "" → ∃ dd, d = some dd ∧ H dd = some (.xd [(flE j, .int n)])
  no : flE j = "" → n = 0 ∧ d = none
theorem ErrAt.xd {K : PySem.W.Frag} {H : Hp} {j : Nat} {n : Int} {cls : Value} {d : Option Addr} (e : ErrAt K H j n cls d) : XdAt H d := by
  by_cases h : flE j = ""
  · exact .inl (e.no h).2
  · obtain ⟨dd, h1, h2⟩ := e.yes h
    exact .inr ⟨dd, _, h1, h2⟩
theorem Ex.xd {cs : List (Addr × Addr)} {H H' : Hp} {a : Addr} {fs : List (Str × V)} (e : Ex cs H H') (h : H a = some (.xd fs)) : H' a = some (.xd fs) := e.ext _ _ h fun ps q => by cases q
theorem ErrAt.ex {cs : List (Addr × Addr)} {K : PySem.W.Frag} {H H' : Hp} {j : Nat} {n : Int} {cls : Value} {d : Option Addr} (e : ErrAt K H j n cls d) (x : Ex cs H H') : ErrAt K H' j n cls d :=
  ⟨e.lt, e.cls, fun h => let ⟨dd, h1, h2⟩ := e.yes h; ⟨dd, h1, Ex.xd x h2⟩, e.no⟩
def kindsR (j m : Nat) : List V := (List.range m).map fun i => V.bl (decide (j = i))
theorem word_in : ∀ j, j < 11 → inV (.str (nmE j)) [.str "BadPage", .str "BadText"] = decide (j = 0 ∨ j = 8) := by decide +kernel
theorem word_in2 : ∀ j, j < 11 → inV (.str (nmE j)) [.str "BadStep", .str "BadStroke"] = decide (j = 6 ∨ j = 7) := by decide +kernel
theorem word_eq : ∀ j, j < 11 → decide (nmE j = "BadLines") = decide (j = 5) := by decide +kernel
theorem word_fl : ∀ j, j < 11 → ¬ (j = 0 ∨ j = 8) → ¬ j = 5 → ¬ (j = 6 ∨ j = 7) → flE j = "" := by decide +kernel
theorem kinds_cnt : ∀ j, j < 11 → (kindsR j 11).countP (fun z => eqV z (.bl true)) = 1 := by decide +kernel
theorem kinds_flat : ∀ j, j < 11 → (kindsR j 11).all flatV = true := by decide +kernel
theorem kinds_at : ∀ j, j < 11 → (kindsR j 11)[j]? = some (.bl true) := by decide +kernel
theorem kinds_no : ∀ j, j < 11 → ∀ m, m < j → (kindsR j 11)[m]? = some (.bl false) := by decide +kernel
section
variable {P : Program} {w : World} {K : PySem.W.Frag} {mg : Str → Option Value} {base : Heap} {cs : List (Addr × Addr)}
/-- _law_told: what a work gives, or the word and the number of what it raised -/
def spTellsW (P : Program) (w : World) (K : PySem.W.Frag) (mg : Str → Option Value) (base : Heap) (cs : List (Addr × Addr)) (kl : Nat) : Sp := fun vs H Q _ => ∃ (f : Addr) (Hf : Hp → Prop) (sp : Sp),
  vs = [.ref f] ∧ Hf H ∧ LamW P w K mg base kl f Hf sp ∧
  ∀ (Z : VK) (E : XK), (∀ v H', Q v H' → Z v H') → (∀ (cls : Value) (d : Option Addr) (H1 : Hp) (j : Nat) (n : Int), ErrAt K H1 j n cls d → Tabs cs H1 → (∀ (T : Addr) (H2 : Hp), Ex cs H1 H2 → H1 T = none → H2 T = some (.tup [.str (nmE j), .int n]) → Q (.ref T) H2) → E cls d H1) → sp [] H Z E
abbrev nmTold : List Str := ["_law_work", "e", "_law_kinds", "_law_words", "_law_word"]
theorem sc_tells : FnScope nmTold ["_law_work"] (defScope s_told) := ⟨rfl, rfl, rfl, by decide +kernel, rfl, by decide +kernel, by decide +kernel⟩
theorem names_get (j : Nat) : ∀ {H : Hp} {Q : VK} {a : Addr}, j < 11 → H a = some (.lst (excNm.map V.str)) → Q (.str (nmE j)) H → ∃ (p : Addr) (items : List V) (i : Int) (v : V), V.ref a = .ref p ∧ V.int (j : Nat) = .int i ∧ SqL K H p items ∧ atI items i = some v ∧ Q v H := fun {H Q a} hj ha q =>
  ⟨a, _, _, _, rfl, rfl, SqL.of ha, atI_nat (v := .str (nmE j)) (by
    rw [List.getElem?_map]
    have : excNm[j]? = some (nmE j) := by
      have h2 : j < excNm.length := hj
      rw [List.getElem?_eq_getElem h2]
      simp [nmE, List.getD, List.getElem?_eq_getElem h2]
    rw [this]
    rfl), q⟩
theorem ok_tellsW {f : Addr} {fd : FuncData} {kl : Nat} (T : Txt mg) (Er : Errs K mg) (F : Fun K "_law_told" "_law_told" s_told f fd) : FnOk P w K mg base CX0 (kl + 1) f fd ["_law_work"] (spTellsW P w K mg base cs kl) := by
  refine F.ok sc_tells (fun vs H Q E h => ?_) (fun cdv A outer s H vs Q E hr h => ?_)
  · obtain ⟨f, Hf, sp, rfl, _⟩ := h
    rfl
  · obtain ⟨fl, Hf, sp, rfl, hf, L, k⟩ := h
    have nd := sc_tells.nd
    refine ⟨_, pss_one (ps_try_as (i := 1) rfl rfl nd rfl rfl ⟨rfl, by decide, .inl Er.grow⟩ takes0 (fun W pn xe tk _ => pss_one (ps_ret (pe_callW (P := P) (w := w) (K := K) (mg := mg) (base := base) (k := kl) (i := 0) ⟨rfl, rfl, rfl, rfl, rfl⟩ hr tk rfl (.inl rfl))))
      (fun a oe cls d pn hz hf => 
        pss_cons (ps_set (i := 2) nd rfl (.inl rfl) (pe_lst (pa_cons (pe_callB (call_isX hz hf) (by rfl) T.isin (by decide +kernel) (pa_cons (pv 1) (pa_cons (pe_glob (v := .ref (He.ga K (nmE 0))) rfl (Er.mg_ 0 (by decide)) rfl) pa_nil)))
            (pa_cons (pe_callB (call_isX hz hf) (by rfl) T.isin (by decide +kernel) (pa_cons (pv 1) (pa_cons (pe_glob (v := .ref (He.ga K (nmE 1))) rfl (Er.mg_ 1 (by decide)) rfl) pa_nil)))
            (pa_cons (pe_callB (call_isX hz hf) (by rfl) T.isin (by decide +kernel) (pa_cons (pv 1) (pa_cons (pe_glob (v := .ref (He.ga K (nmE 2))) rfl (Er.mg_ 2 (by decide)) rfl) pa_nil)))
            (pa_cons (pe_callB (call_isX hz hf) (by rfl) T.isin (by decide +kernel) (pa_cons (pv 1) (pa_cons (pe_glob (v := .ref (He.ga K (nmE 3))) rfl (Er.mg_ 3 (by decide)) rfl) pa_nil))) pa_nil))))))
        (pss_cons (ps_set (i := 2) nd rfl (.inl rfl) (pe_op op_cat (pv 2) (pe_lst (pa_cons (pe_callB (call_isX hz hf) (by rfl) T.isin (by decide +kernel) (pa_cons (pv 1) (pa_cons (pe_glob (v := .ref (He.ga K (nmE 4))) rfl (Er.mg_ 4 (by decide)) rfl) pa_nil)))
            (pa_cons (pe_callB (call_isX hz hf) (by rfl) T.isin (by decide +kernel) (pa_cons (pv 1) (pa_cons (pe_glob (v := .ref (He.ga K (nmE 5))) rfl (Er.mg_ 5 (by decide)) rfl) pa_nil)))
            (pa_cons (pe_callB (call_isX hz hf) (by rfl) T.isin (by decide +kernel) (pa_cons (pv 1) (pa_cons (pe_glob (v := .ref (He.ga K (nmE 6))) rfl (Er.mg_ 6 (by decide)) rfl) pa_nil))) pa_nil))))))
        (pss_cons (ps_set (i := 2) nd rfl (.inl rfl) (pe_op op_cat (pv 2) (pe_lst (pa_cons (pe_callB (call_isX hz hf) (by rfl) T.isin (by decide +kernel) (pa_cons (pv 1) (pa_cons (pe_glob (v := .ref (He.ga K (nmE 7))) rfl (Er.mg_ 7 (by decide)) rfl) pa_nil)))
            (pa_cons (pe_callB (call_isX hz hf) (by rfl) T.isin (by decide +kernel) (pa_cons (pv 1) (pa_cons (pe_glob (v := .ref (He.ga K (nmE 8))) rfl (Er.mg_ 8 (by decide)) rfl) pa_nil)))
            (pa_cons (pe_callB (call_isX hz hf) (by rfl) T.isin (by decide +kernel) (pa_cons (pv 1) (pa_cons (pe_glob (v := .ref (He.ga K (nmE 9))) rfl (Er.mg_ 9 (by decide)) rfl) pa_nil))) pa_nil))))))
        (pss_cons (ps_expr (pe_bmU PySem.F.plainAttrs_list PySem.F.slot_list_append PySem.F.type_list_append mt_append (pv 2) (pa_cons (pe_callB (call_isX hz hf) (by rfl) T.isin (by decide +kernel) (pa_cons (pv 1) (pa_cons (pe_glob (v := .ref (He.ga K (nmE 10))) rfl (Er.mg_ 10 (by decide)) rfl) pa_nil))) pa_nil)))
        (pss_cons (ps_if (PW.pt (pw_or (pt_cmpR op_ne (pe_bmU PySem.F.plainAttrs_list PySem.F.slot_list_count PySem.F.type_list_count mt_cntU (pv 2) (pa_cons pe_bl pa_nil)) pe_int (nomark _))
            (pw_or1 (pt_not (pt_val (pe_callB (call_isX hz hf) (by rfl) T.isin (by decide +kernel) (pa_cons (pv 1) (pa_cons (pe_bltn (v := .ty "ValueError") (by rfl) Er.ve (by decide +kernel) rfl) pa_nil)))))))) (pss_one (ps_ret (pe_tup (pa_cons pe_str (pa_cons pe_int pa_nil))))) pss_nil)
        (pss_cons (ps_set (i := 3) nd rfl (.inl rfl) (pe_lst (pa_cons pe_str (pa_cons pe_str (pa_cons pe_str (pa_cons pe_str (pa_cons pe_str (pa_cons pe_str (pa_cons pe_str (pa_cons pe_str (pa_cons pe_str pa_nil)))))))))))
        (pss_cons (ps_set (i := 4) nd rfl (.inl rfl) (pe_ix ix_listU (pe_op op_cat (pv 3) (pe_lst (pa_cons pe_str (pa_cons pe_str pa_nil)))) (pe_bmU PySem.F.plainAttrs_list PySem.F.slot_list_index PySem.F.type_list_index mt_indexU (pv 2) (pa_cons pe_bl pa_nil)) (fun _ _ => rfl)))
        (pss_cons (ps_if (pt_cmpR op_inU (pv 4) (pe_tup (pa_cons pe_str (pa_cons pe_str pa_nil))) (by with_unfolding_all rfl)) (pss_one (ps_ret (pe_tup (pa_cons (pv 4) (pa_cons (pe_xfX hz hf (pv 1)) pa_nil))))) pss_nil)
        (pss_cons (ps_if (pt_cmpR op_eq (pv 4) pe_str (nomark _)) (pss_one (ps_ret (pe_tup (pa_cons (pv 4) (pa_cons (pe_xfX hz hf (pv 1)) pa_nil))))) pss_nil)
        (pss_one (ps_ret (pe_tup (pa_cons (pv 4) (pa_cons (pe_ifExp (pt_cmpR op_inU (pv 4) (pe_tup (pa_cons pe_str (pa_cons pe_str pa_nil))) (by with_unfolding_all rfl)) (pe_xfX hz hf (pv 1)) pe_int) pa_nil))))))))))))))), ?_⟩
    refine ⟨fl, Hf, sp, rfl, hf, L, k _ _ (fun v H' q => q) fun cls d H1 j n he hT kq => ?_⟩
    refine ⟨true, by rw [he.cls]; exact Er.sub j he.lt, fun _ a na => ?_, fun q => nomatch q⟩
    have szl : (1000 : Nat) < sizeLine := by decide
    refine ⟨_, rfl, _, .ref (He.ga K (nmE 0)), _, _, rfl, he.cls, Er.exc j he.lt, fun u r => r, Er.kit j 0 he.lt (by decide), he.xd, ⟨_, rfl, _, .ref (He.ga K (nmE 1)), _, _, rfl, he.cls, Er.exc j he.lt, fun u r => r, Er.kit j 1 he.lt (by decide), he.xd, ⟨_, rfl, _, .ref (He.ga K (nmE 2)), _, _, rfl, he.cls, Er.exc j he.lt, fun u r => r, Er.kit j 2 he.lt (by decide), he.xd, ⟨_, rfl, _, .ref (He.ga K (nmE 3)), _, _, rfl, he.cls, Er.exc j he.lt, fun u r => r, Er.kit j 3 he.lt (by decide), he.xd, (by show 4 ≤ sizeLine; decide), fun l1 n1 => ?_⟩⟩⟩⟩
    have x1 : Ex cs H1 (upd H1 l1 (.lst ([V.bl (decide (j = 0)), V.bl (decide (j = 1)), V.bl (decide (j = 2)), V.bl (decide (j = 3))]))) := Ex.laid hT n1
    have h1 : upd H1 l1 (.lst ([V.bl (decide (j = 0)), V.bl (decide (j = 1)), V.bl (decide (j = 2)), V.bl (decide (j = 3))])) l1 = some (.lst ([V.bl (decide (j = 0)), V.bl (decide (j = 1)), V.bl (decide (j = 2)), V.bl (decide (j = 3))])) := upd_same
    generalize upd H1 l1 (.lst ([V.bl (decide (j = 0)), V.bl (decide (j = 1)), V.bl (decide (j = 2)), V.bl (decide (j = 3))])) = H2 at x1 h1 ⊢
    have he1 := he.ex x1
    refine ⟨_, rfl, ⟨_, rfl, _, .ref (He.ga K (nmE 4)), _, _, rfl, he1.cls, Er.exc j he1.lt, fun u r => r, Er.kit j 4 he1.lt (by decide), he1.xd, ⟨_, rfl, _, .ref (He.ga K (nmE 5)), _, _, rfl, he1.cls, Er.exc j he1.lt, fun u r => r, Er.kit j 5 he1.lt (by decide), he1.xd, ⟨_, rfl, _, .ref (He.ga K (nmE 6)), _, _, rfl, he1.cls, Er.exc j he1.lt, fun u r => r, Er.kit j 6 he1.lt (by decide), he1.xd, (by show 3 ≤ sizeLine; decide), fun l2 n2 => ?_⟩⟩⟩⟩
    have x2 : Ex cs H2 (upd H2 l2 (.lst ([V.bl (decide (j = 4)), V.bl (decide (j = 5)), V.bl (decide (j = 6))]))) := Ex.laid x1.tab n2
    have h2 : upd H2 l2 (.lst ([V.bl (decide (j = 4)), V.bl (decide (j = 5)), V.bl (decide (j = 6))])) l2 = some (.lst ([V.bl (decide (j = 4)), V.bl (decide (j = 5)), V.bl (decide (j = 6))])) := upd_same
    generalize upd H2 l2 (.lst ([V.bl (decide (j = 4)), V.bl (decide (j = 5)), V.bl (decide (j = 6))])) = H3 at x2 h2 ⊢
    refine ⟨l1, l2, _, _, rfl, rfl, x2.lst h1, h2, by show 7 ≤ sizeLine; decide, fun l3 n3 => ?_⟩
    have x3 : Ex cs H3 (upd H3 l3 (.lst ([V.bl (decide (j = 0)), V.bl (decide (j = 1)), V.bl (decide (j = 2)), V.bl (decide (j = 3))] ++ [V.bl (decide (j = 4)), V.bl (decide (j = 5)), V.bl (decide (j = 6))]))) := Ex.laid x2.tab n3
    have h3 : upd H3 l3 (.lst ([V.bl (decide (j = 0)), V.bl (decide (j = 1)), V.bl (decide (j = 2)), V.bl (decide (j = 3))] ++ [V.bl (decide (j = 4)), V.bl (decide (j = 5)), V.bl (decide (j = 6))])) l3 = some (.lst ([V.bl (decide (j = 0)), V.bl (decide (j = 1)), V.bl (decide (j = 2)), V.bl (decide (j = 3))] ++ [V.bl (decide (j = 4)), V.bl (decide (j = 5)), V.bl (decide (j = 6))])) := upd_same
    generalize upd H3 l3 (.lst ([V.bl (decide (j = 0)), V.bl (decide (j = 1)), V.bl (decide (j = 2)), V.bl (decide (j = 3))] ++ [V.bl (decide (j = 4)), V.bl (decide (j = 5)), V.bl (decide (j = 6))])) = H4 at x3 h3 ⊢
    have he3 := (he1.ex x2).ex x3
    refine ⟨_, rfl, ⟨_, rfl, _, .ref (He.ga K (nmE 7)), _, _, rfl, he3.cls, Er.exc j he3.lt, fun u r => r, Er.kit j 7 he3.lt (by decide), he3.xd, ⟨_, rfl, _, .ref (He.ga K (nmE 8)), _, _, rfl, he3.cls, Er.exc j he3.lt, fun u r => r, Er.kit j 8 he3.lt (by decide), he3.xd, ⟨_, rfl, _, .ref (He.ga K (nmE 9)), _, _, rfl, he3.cls, Er.exc j he3.lt, fun u r => r, Er.kit j 9 he3.lt (by decide), he3.xd, (by show 3 ≤ sizeLine; decide), fun l4 n4 => ?_⟩⟩⟩⟩
    have x4 : Ex cs H4 (upd H4 l4 (.lst ([V.bl (decide (j = 7)), V.bl (decide (j = 8)), V.bl (decide (j = 9))]))) := Ex.laid x3.tab n4
    have h4 : upd H4 l4 (.lst ([V.bl (decide (j = 7)), V.bl (decide (j = 8)), V.bl (decide (j = 9))])) l4 = some (.lst ([V.bl (decide (j = 7)), V.bl (decide (j = 8)), V.bl (decide (j = 9))])) := upd_same
    generalize upd H4 l4 (.lst ([V.bl (decide (j = 7)), V.bl (decide (j = 8)), V.bl (decide (j = 9))])) = H5 at x4 h4 ⊢
    refine ⟨l3, l4, _, _, rfl, rfl, x4.lst h3, h4, by show 10 ≤ sizeLine; decide, fun l5 n5 => ?_⟩
    have x5 : Ex cs H5 (upd H5 l5 (.lst (([V.bl (decide (j = 0)), V.bl (decide (j = 1)), V.bl (decide (j = 2)), V.bl (decide (j = 3))] ++ [V.bl (decide (j = 4)), V.bl (decide (j = 5)), V.bl (decide (j = 6))]) ++ [V.bl (decide (j = 7)), V.bl (decide (j = 8)), V.bl (decide (j = 9))]))) := Ex.laid x4.tab n5
    have h5 : upd H5 l5 (.lst (([V.bl (decide (j = 0)), V.bl (decide (j = 1)), V.bl (decide (j = 2)), V.bl (decide (j = 3))] ++ [V.bl (decide (j = 4)), V.bl (decide (j = 5)), V.bl (decide (j = 6))]) ++ [V.bl (decide (j = 7)), V.bl (decide (j = 8)), V.bl (decide (j = 9))])) l5 = some (.lst (([V.bl (decide (j = 0)), V.bl (decide (j = 1)), V.bl (decide (j = 2)), V.bl (decide (j = 3))] ++ [V.bl (decide (j = 4)), V.bl (decide (j = 5)), V.bl (decide (j = 6))]) ++ [V.bl (decide (j = 7)), V.bl (decide (j = 8)), V.bl (decide (j = 9))])) := upd_same
    generalize upd H5 l5 (.lst (([V.bl (decide (j = 0)), V.bl (decide (j = 1)), V.bl (decide (j = 2)), V.bl (decide (j = 3))] ++ [V.bl (decide (j = 4)), V.bl (decide (j = 5)), V.bl (decide (j = 6))]) ++ [V.bl (decide (j = 7)), V.bl (decide (j = 8)), V.bl (decide (j = 9))])) = H6 at x5 h5 ⊢
    have y5 := (((x1.trans x2).trans x3).trans x4).trans x5
    have he5 := he.ex y5
    have n50 : H1 l5 = none := (((x1.trans x2).trans x3).trans x4).old _ n5
    refine ⟨_, rfl, .inl ⟨rfl, _, SqL.of h5⟩, ⟨_, rfl, _, .ref (He.ga K (nmE 10)), _, _, rfl, he5.cls, Er.exc j he5.lt, fun u r => r, Er.kit j 10 he5.lt (by decide), he5.xd, l5, _, _, rfl, rfl, h5, by show 10 < sizeLine; decide, ?_⟩⟩
    have x6 : Ex cs H1 (upd H6 l5 (.lst (kindsR j 11))) := ex_new hT y5 n50
    have h6 : upd H6 l5 (.lst (kindsR j 11)) l5 = some (.lst (kindsR j 11)) := upd_same
    show tSeq _ _ _ _ (upd H6 l5 (.lst (kindsR j 11)))
    generalize upd H6 l5 (.lst (kindsR j 11)) = H7 at x6 h6 ⊢
    have he6 := he.ex x6
    have hj := he.lt
    -- one of them, and a ValueError
    refine ⟨_, rfl, .inl ⟨rfl, _, SqL.of h6⟩, l5, _, .bl true, rfl, rfl, SqL.of h6, rfl, kinds_flat j hj, rfl, false, ?_, iteF ?_⟩
    · rw [kinds_cnt j hj]
      rfl
    refine ⟨_, rfl, _, .type "ValueError", true, _, rfl, he.cls, Er.exc j hj, fun u r => r, Er.val j hj, he6.xd, true, rfl, iteF ?_⟩
    -- its name
    refine ⟨by show 9 ≤ sizeLine; decide, fun l7 n7 => ?_⟩
    have x7 := x6.trans (Ex.laid (o := .lst [V.str "BadPage", V.str "BadStyle", V.str "BadRow", V.str "BadCell", V.str "BadCount", V.str "BadLines", V.str "BadStep", V.str "BadStroke", V.str "BadText"]) x6.tab n7)
    have h7 : upd H7 l7 (.lst [V.str "BadPage", V.str "BadStyle", V.str "BadRow", V.str "BadCell", V.str "BadCount", V.str "BadLines", V.str "BadStep", V.str "BadStroke", V.str "BadText"]) l7 = some (.lst [V.str "BadPage", V.str "BadStyle", V.str "BadRow", V.str "BadCell", V.str "BadCount", V.str "BadLines", V.str "BadStep", V.str "BadStroke", V.str "BadText"]) := upd_same
    have h67 : upd H7 l7 (.lst [V.str "BadPage", V.str "BadStyle", V.str "BadRow", V.str "BadCell", V.str "BadCount", V.str "BadLines", V.str "BadStep", V.str "BadStroke", V.str "BadText"]) l5 = some (.lst (kindsR j 11)) := by rw [upd_ne (ne_of_none h6 n7)]; exact h6
    generalize upd H7 l7 (.lst [V.str "BadPage", V.str "BadStyle", V.str "BadRow", V.str "BadCell", V.str "BadCount", V.str "BadLines", V.str "BadStep", V.str "BadStroke", V.str "BadText"]) = H8 at x7 h7 h67 ⊢
    refine ⟨_, rfl, by show 2 ≤ sizeLine; decide, fun l8 n8 => ?_⟩
    have x8 := x7.trans (Ex.laid (o := .lst [V.str "BadHand", V.str "TooMuch"]) x7.tab n8)
    refine ⟨l7, l8, _, _, rfl, rfl, by rw [upd_ne (ne_of_none h7 n8)]; exact h7, upd_same, by show 11 ≤ sizeLine; decide, fun l9 n9 => ?_⟩
    have x9 := x8.trans (Ex.laid (o := .lst ([V.str "BadPage", V.str "BadStyle", V.str "BadRow", V.str "BadCell", V.str "BadCount", V.str "BadLines", V.str "BadStep", V.str "BadStroke", V.str "BadText"] ++ [V.str "BadHand", V.str "TooMuch"])) x8.tab n9)
    have h9 : upd (upd H8 l8 (.lst [V.str "BadHand", V.str "TooMuch"])) l9 (.lst ([V.str "BadPage", V.str "BadStyle", V.str "BadRow", V.str "BadCell", V.str "BadCount", V.str "BadLines", V.str "BadStep", V.str "BadStroke", V.str "BadText"] ++ [V.str "BadHand", V.str "TooMuch"])) l9 = some (.lst ([V.str "BadPage", V.str "BadStyle", V.str "BadRow", V.str "BadCell", V.str "BadCount", V.str "BadLines", V.str "BadStep", V.str "BadStroke", V.str "BadText"] ++ [V.str "BadHand", V.str "TooMuch"])) := upd_same
    have h69 : upd (upd H8 l8 (.lst [V.str "BadHand", V.str "TooMuch"])) l9 (.lst ([V.str "BadPage", V.str "BadStyle", V.str "BadRow", V.str "BadCell", V.str "BadCount", V.str "BadLines", V.str "BadStep", V.str "BadStroke", V.str "BadText"] ++ [V.str "BadHand", V.str "TooMuch"])) l5 = some (.lst (kindsR j 11)) := by
      have e := upd_ne (H := H8) (o := HO.lst [V.str "BadHand", V.str "TooMuch"]) (ne_of_none h67 n8)
      rw [upd_ne (ne_of_none (e.trans h67) n9), e]
      exact h67
    refine ⟨_, rfl, .inl ⟨rfl, _, SqL.of h69⟩, l5, _, .bl true, j, .bl true, rfl, rfl, SqL.of h69, rfl, kinds_flat j hj, kinds_at j hj, rfl, fun m z hm hz => ?_, ?_⟩
    · rw [kinds_no j hj m hm] at hz
      cases hz
      rfl
    refine names_get j hj (h9.trans rfl) ?_
    generalize upd (upd H8 l8 (.lst [V.str "BadHand", V.str "TooMuch"])) l9 (.lst ([V.str "BadPage", V.str "BadStyle", V.str "BadRow", V.str "BadCell", V.str "BadCount", V.str "BadLines", V.str "BadStep", V.str "BadStroke", V.str "BadText"] ++ [V.str "BadHand", V.str "TooMuch"])) = H9 at x9
    clear h9 h69 h7 h67 n8 n9 n7 x8 x7 h6 he6 h5 n5 x5 he5 n50 y5
    have fin : ∀ {H' : Hp}, Ex cs H1 H' → ∀ T, H' T = none → Q (.ref T) (upd H' T (.tup [.str (nmE j), .int n])) := fun {H'} x T nT => kq T _ (x.trans (Ex.laid x.tab nT)) (x.old _ nT) upd_same
    have fld : ∀ {H' : Hp} {f : Str} {Z : VK}, Ex cs H1 H' → flE j = f → f ≠ "" → Z (.int n) H' → ∃ C : Addr, XfC K C ∧ PySem.W.findIn K (.ref C) f = some none ∧ ∃ v, ([some (V.ref fl), some (V.ref a), some (V.ref l5), some (V.ref l7), some (V.str (nmE j))] : L2.St)[1]? = some (some v) ∧ v = .ref a ∧ cls = .ref C ∧ ∃ (dd : Addr) (fs : List (Str × V)) (v : V), d = some dd ∧ H' dd = some (.xd fs) ∧ fs.lookup f = some v ∧ Z v H' := fun {H' f Z} x e ne q => by
      subst e
      obtain ⟨dd, e1, e2⟩ := (he.ex x).yes ne
      exact ⟨_, xfC_of (Er.exc j hj), Er.fld j hj ne, _, rfl, rfl, he.cls, dd, _, .int n, e1, e2, by simp [List.lookup], q⟩
    refine ⟨_, rfl, by show 2 ≤ sizeLine; decide, fun t1 nt1 => ⟨t1, _, rfl, .inr (SqT.of upd_same), rfl, rfl, _, rfl, ?_⟩⟩
    have xa := x9.trans (Ex.laid (o := .tup [.str "BadPage", .str "BadText"]) x9.tab nt1)
    show if inV (.str (nmE j)) [.str "BadPage", .str "BadText"] = true then _ else _
    rw [word_in j hj]
    by_cases c1 : j = 0 ∨ j = 8
    · rw [decide_eq_true c1]
      refine iteT ⟨_, rfl, ?_⟩
      refine fld xa (by rcases c1 with rfl | rfl <;> rfl) (by decide) ⟨by show 2 ≤ sizeLine; decide, fun T nT => fin xa T nT⟩
    · rw [decide_eq_false c1]
      refine iteF ⟨_, rfl, rfl, _, rfl, ?_⟩
      have e5 : decide (V.str (nmE j) = V.str "BadLines") = decide (j = 5) := by
        rw [← word_eq j hj]
        by_cases q : nmE j = "BadLines"
        · rw [decide_eq_true q, decide_eq_true (by rw [q])]
        · rw [decide_eq_false q, decide_eq_false (fun z => q (by injection z))]
      rw [e5]
      by_cases c2 : j = 5
      · rw [decide_eq_true c2]
        refine iteT ⟨_, rfl, ?_⟩
        refine fld xa (by rw [c2]; rfl) (by decide) ⟨by show 2 ≤ sizeLine; decide, fun T nT => fin xa T nT⟩
      · rw [decide_eq_false c2]
        refine iteF ⟨_, rfl, _, rfl, by show 2 ≤ sizeLine; decide, fun t2 nt2 => ⟨t2, _, rfl, .inr (SqT.of upd_same), rfl, rfl, _, rfl, ?_⟩⟩
        have xb := xa.trans (Ex.laid (o := .tup [.str "BadStep", .str "BadStroke"]) xa.tab nt2)
        show if inV (.str (nmE j)) [.str "BadStep", .str "BadStroke"] = true then _ else _
        rw [word_in2 j hj]
        by_cases c3 : j = 6 ∨ j = 7
        · rw [decide_eq_true c3]
          refine iteT ?_
          refine fld xb (by rcases c3 with rfl | rfl <;> rfl) (by decide) ⟨by show 2 ≤ sizeLine; decide, fun T nT => fin xb T nT⟩
        · rw [decide_eq_false c3]
          have e0 := (he.no (word_fl j hj c1 c2 c3)).1
          subst e0
          exact iteF ⟨by show 2 ≤ sizeLine; decide, fun T nT => fin xb T nT⟩
end
end TG

namespace TG
open PySem PySem.Spec PyProof.Rows L2 NdefX GenW Gx Lv Dl
/-! ### _law_all of several works, each refused alike and without a change -/
section
variable {P : Program} {w : World} {K : PySem.W.Frag} {mg : Str → Option Value} {base : Heap} {cs : List (Addr × Addr)}
/-- a work that is refused with the j-th class and n, in every heap that grew out of this one -/
def Ref (P : Program) (w : World) (K : PySem.W.Frag) (mg : Str → Option Value) (base : Heap) (cs : List (Addr × Addr)) (kl : Nat) (j : Nat) (n : Int) (H : Hp) (f : Addr) : Prop := ∃ (Hf : Hp → Prop) (sp : Sp), LamW P w K mg base kl f Hf sp ∧
  ∀ H1, Ex cs H H1 → Hf H1 ∧ ∀ (Z : VK) (E : XK), (∀ (cls : Value) (d : Option Addr) (H2 : Hp), ErrAt K H2 j n cls d → Ex cs H1 H2 → E cls d H2) → sp [] H1 Z E
theorem Ref.ex {kl j : Nat} {n : Int} {H H' : Hp} {f : Addr} (r : Ref P w K mg base cs kl j n H f) (x : Ex cs H H') : Ref P w K mg base cs kl j n H' f := by
  obtain ⟨Hf, sp, L, k⟩ := r
  exact ⟨Hf, sp, L, fun H1 y => k H1 (x.trans y)⟩
def spAllW (P : Program) (w : World) (K : PySem.W.Frag) (mg : Str → Option Value) (base : Heap) (cs : List (Addr × Addr)) (kl : Nat) : Sp := fun vs H Q _ => ∃ (a dd : Addr) (fs : List Addr) (j : Nat) (n : Int),
  vs = [.ref a, .ref dd] ∧ Tabs cs H ∧ H a = some (.lst (fs.map V.ref)) ∧ H dd = some (.tup [.str (nmE j), .int n]) ∧ (∀ f ∈ fs, Ref P w K mg base cs kl j n H f) ∧ ∀ H', Ex cs H H' → Q (.bl true) H'
abbrev nmAll : List Str := ["_law_works", "_law_due", "_law_work"]
theorem sc_all : FnScope nmAll ["_law_works", "_law_due"] (defScope s_all) := ⟨rfl, rfl, rfl, by decide +kernel, rfl, by decide +kernel, by decide +kernel⟩
theorem ok_allW {f g1 g2 : Addr} {fd fd1 fd2 : FuncData} {kl : Nat} (hkl : 5 ≤ kl + 1) (F : Fun K "_law_all" "_law_all" s_all f fd)
    (G1 : FnOk P w K mg base CX0 5 g1 fd1 ["_law_found", "_law_due"] (spAlike K 4)) (k1 : PySem.W.keepIn K (.ref g1) = true) (b1 : Binds K fd1 ["_law_found", "_law_due"] []) (m1 : mg "_law_alike" = some (.ref g1))
    (G2 : FnOk P w K mg base CX0 (kl + 1) g2 fd2 ["_law_work"] (spTellsW P w K mg base cs kl)) (k2 : PySem.W.keepIn K (.ref g2) = true) (b2 : Binds K fd2 ["_law_work"] []) (m2 : mg "_law_told" = some (.ref g2)) :
    FnOk P w K mg base CX0 (kl + 2) f fd ["_law_works", "_law_due"] (spAllW P w K mg base cs kl) := by
  refine F.ok sc_all (fun vs H Q E h => ?_) (fun cdv A outer s H vs Q E hr h => ?_)
  · obtain ⟨a, dd, fs, j, n, rfl, _⟩ := h
    rfl
  · obtain ⟨a, dd, fs, j, n, rfl, hT, ha, hdd, hR, k⟩ := h
    have nd := sc_all.nd
    have hu := hr.units
    have r5 : Room 5 _ := hr.mono hkl
    refine ⟨_, pss_one (ps_ret (pe_cmpR (op_eqD hu) (pe_lc (own := [("_law_work", 2)]) (g := gName 2) rfl nd (pi_list (pv 0)) (blkOk_by (own := [("_law_work", 2)]) (N := nmAll) (sc := defScope s_all) (by decide +kernel))
        (fun _ _ _ _ _ => pg_name (i := 2) nd rfl (Or.inl rfl)) (fun _ _ _ _ _ => pts_one (pt_not (pt_val (pe_call G1 r5 (by rfl) m1 k1 b1 .nil pass0 (pa_cons (pe_call G2 hr (by rfl) m2 k2 b2 .nil pass0 (pa_cons (pv 2) pa_nil)) (pa_cons (pv 1) pa_nil)))))) (fun _ _ _ _ _ => pv 2)) (pe_lst pa_nil) (nomark _))), ?_⟩
    refine ⟨_, rfl, a, rfl, ⟨_, SqL.of ha⟩, fun D nD => ?_⟩
    refine lc_list (xs := fs.map V.ref) (fun i H' => Ex cs H H' ∧ H' D = some (.lst [])) ⟨Ex.laid hT nD, upd_same⟩ (fun i H' _ x => SqL.of (x.1.lst ha)) ?_ ?_
    · rintro i x H' hx ⟨xe, hD⟩
      rw [List.getElem?_map] at hx
      cases hg : fs[i]? with
      | none => rw [hg] at hx; cases hx
      | some fl =>
        rw [hg] at hx
        cases hx
        obtain ⟨Hf, sp, L, kk⟩ := hR fl (List.mem_of_getElem? hg)
        obtain ⟨hf, run⟩ := kk H' xe
        refine ⟨rfl, _, rfl, fl, Hf, sp, rfl, hf, L, fun Z E hZ hE => run Z E fun cls d H1 he x1 => hE cls d H1 j n he x1.tab fun T H2 x2 nT hTt => ?_⟩
        have e2 : H2 dd = some (.tup [.str (nmE j), .int n]) := x2.tup (x1.tup (xe.tup hdd))
        exact ⟨_, rfl, _, _, .tuple [.str (nmE j), .int n], rfl, .tup (SqT.of hTt) (.cons (.str _) (.cons (.int _) .nil)), .tup (SqT.of e2) (.cons (.str _) (.cons (.int _) .nil)), by simp [PyData.depth, PyData.depthAll], by simp [dok, dokAll], true, rfl, iteF ⟨(xe.trans x1).trans x2, x2.lst (x1.lst hD)⟩⟩
    · rintro H' ⟨xe, hD⟩
      refine ⟨small0, fun p np => ?_⟩
      have xp := Ex.laid (o := .lst []) xe.tab np
      exact ⟨.list [], .list [], .lst (SqL.of (xp.lst hD)) .nil, .lst (SqL.of upd_same) .nil, rfl, rfl, k _ (xe.trans xp)⟩
end
end TG

namespace TG
open PySem PySem.Spec PyProof.Rows L2 Gx
/-! ### what is told of a def, told otherwise -/
section
variable {P : Program} {w : World} {K : PySem.W.Frag} {mg : Str → Option Value} {base : Heap} {k : Nat} {f : Addr} {fd : FuncData} {ps : List Str} {sp sp1 sp2 : Sp}
/-- a def that may raise, where it doesn't -/
def noE (sp : Sp) : Sp := fun vs H Q _ => sp vs H Q fun _ _ _ => False
theorem fn0_of (F : FnOk P w K mg base (L2.CX P w) k f fd ps sp) : FnOk P w K mg base CX0 k f fd ps (noE sp) := by
  refine ⟨fun vs H Q E h => F.len vs H Q _ h, fun A outer s H args us vs Q E hr e0 b r h => ?_⟩
  refine codeAny_mono (F.run A outer s H args us vs Q (fun _ _ _ => False) hr e0 b r h) fun r' s' hq => ?_
  cases r' with
  | error er =>
    obtain ⟨a, B, H', cls, d, _, _, _, _, _, _, _, z⟩ := hq
    exact z.elim
  | ok fl =>
    cases fl with
    | ret u => exact hq
    | next => exact hq
    | brk => exact False.elim hq
    | cont => exact False.elim hq
def orSp (sp1 sp2 : Sp) : Sp := fun vs H Q E => sp1 vs H Q E ∨ sp2 vs H Q E
theorem fn_or {CX : L2.CXT} (F1 : FnOk P w K mg base CX k f fd ps sp1) (F2 : FnOk P w K mg base CX k f fd ps sp2) : FnOk P w K mg base CX k f fd ps (orSp sp1 sp2) := by
  refine ⟨fun vs H Q E h => h.elim (F1.len vs H Q E) (F2.len vs H Q E), fun A outer s H args us vs Q E hr e0 b r h => ?_⟩
  rcases h with h | h
  · exact F1.run A outer s H args us vs Q E hr e0 b r h
  · exact F2.run A outer s H args us vs Q E hr e0 b r h
end
end TG


namespace TGK
open TG
open PySem PySem.Spec PyProof.Rows L2 NdefX GenW Gx Lv Dl
/-! ### works in general -/
abbrev LamT := Arguments × Expr × Scope
def sc00 : Scope := { kind := .function, names := [], isGenerator := false, isCoroutine := false }
def lam00 : LamT := ({ posonlyargs := [], args := [], vararg := none, kwonlyargs := [], kw_defaults := [], kwarg := none, defaults := [] }, .Name "x" ⟨0, 0, 0, 0⟩, sc00)
def lamOf : Expr → LamT
  | .Lambda p b sc _ => (p, b, sc)
  | _ => lam00
def stAt (l : List Stmt) (i : Nat) : Stmt := l.getD i (.Pass ⟨0, 0, 0, 0⟩)
/-- what a lambda's body wants, of what it caught -/
abbrev RW := List (Option V) → Hp → VK → XK → Prop
def spLamR (fr : List Str) (R : RW) (F : NF) : Sp := fun vs H Q E => vs = [] ∧ ∃ (ws : List (Option V)) (cl : List (Addr × Obj)), Caught F fr ws cl H ∧
  R ws (delC H cl) (fun v H' => (∀ c o, cl.lookup c = some o → H' c = none) → Q v (addC H' cl)) (fun cls d H' => (∀ c o, cl.lookup c = some o → H' c = none) → E cls d (addC H' cl))
theorem del_add {H : Hp} {cl : List (Addr × Obj)} (un : ∀ c o, cl.lookup c = some o → H c = none) : delC (addC H cl) cl = H := by
  funext b
  cases r : cl.lookup b with
  | some u => rw [delC_in r, un b u r]
  | none => rw [delC_out r, addC_out r]
theorem hfL_add {f : Addr} {F : NF} {e : Expr} {H : Hp} {cl : List (Addr × Obj)} (un : ∀ c o, cl.lookup c = some o → H c = none) (h : HfL f F e H) : HfL f F e (addC H cl) := ⟨add_at un h.1, add_at un h.2⟩
theorem hfD_add {f t : Addr} {F : NF} {e : Expr} {v : V} {H : Hp} {cl : List (Addr × Obj)} (un : ∀ c o, cl.lookup c = some o → H c = none) (h : HfD f F e t v H) : HfD f F e t v (addC H cl) := ⟨add_at un h.1, add_at un h.2.1, add_at un h.2.2⟩
/-! ### a lambda that is refused -/
theorem cell_ne (o : Obj) : ∀ ps, cellF o ≠ .tbl ps := fun ps z => by
  unfold cellF at z
  cases z
section
variable {cs : List (Addr × Addr)} {H H1 H2 : Hp} {cl : List (Addr × Obj)}
theorem ex_del (un : ∀ c o, cl.lookup c = some o → H c = none) (x : Ex cs (addC H cl) H1) : Ex cs H (delC H1 cl) := by
  have nl : ∀ {b : Addr} {o : HO}, H b = some o → cl.lookup b = none := fun {b o} h => by
    cases r : cl.lookup b with
    | none => rfl
    | some u => rw [un b u r] at h; cases h
  refine ⟨fun b o h n => ?_, fun r hr => ?_, fun b hb => ?_, fun b o h m => ?_⟩
  · rw [delC_out (nl h)]
    exact x.ext _ _ (by rw [addC_out (nl h)]; exact h) n
  · obtain ⟨ps, h1, h2⟩ := x.tab r hr
    refine ⟨ps, ?_, h2⟩
    cases e : cl.lookup r.2 with
    | none => rw [delC_out e]; exact h1
    | some u =>
      have := x.ext _ _ (addC_in (H := H) e) (cell_ne u)
      rw [h1] at this
      injection this with this
      exact absurd this.symm (cell_ne u ps)
  · cases e : cl.lookup b with
    | none =>
      rw [delC_out e] at hb
      have := x.old _ hb
      rw [addC_out e] at this
      exact this
    | some u => exact un b u e
  · rw [delC_out (nl h)]
    exact x.oth _ _ (by rw [addC_out (nl h)]; exact h) m
theorem ex_add (told : ∀ c o, cl.lookup c = some o → H1 c = some (cellF o)) (hu : ∀ c o, cl.lookup c = some o → H2 c = none) (x : Ex cs (delC H1 cl) H2) : Ex cs H1 (addC H2 cl) := by
  refine ⟨fun b o h n => ?_, fun r hr => ?_, fun b hb => ?_, fun b o h m => ?_⟩
  · cases e : cl.lookup b with
    | none => rw [addC_out e]; exact x.ext _ _ (by rw [delC_out e]; exact h) n
    | some u =>
      rw [told b u e] at h
      cases h
      exact addC_in e
  · obtain ⟨ps, h1, h2⟩ := x.tab r hr
    exact ⟨ps, add_at hu h1, h2⟩
  · cases e : cl.lookup b with
    | none =>
      rw [addC_out e] at hb
      have := x.old _ hb
      rw [delC_out e] at this
      exact this
    | some u => rw [addC_in e] at hb; cases hb
  · cases e : cl.lookup b with
    | none => rw [addC_out e]; exact x.oth _ _ (by rw [delC_out e]; exact h) m
    | some u =>
      rw [told b u e] at h
      cases h
      exact addC_in e
end
section
variable {P : Program} {w : World} {K : PySem.W.Frag} {mg : Str → Option Value} {base : Heap} {cs : List (Addr × Addr)}
theorem err_add {H : Hp} {cl : List (Addr × Obj)} {j : Nat} {n : Int} {cls : Value} {d : Option Addr} (hu : ∀ c o, cl.lookup c = some o → H c = none) (e : ErrAt K H j n cls d) : ErrAt K (addC H cl) j n cls d :=
  ⟨e.lt, e.cls, fun h => let ⟨dd, h1, h2⟩ := e.yes h; ⟨dd, h1, add_at hu h2⟩, e.no⟩
/-- a lambda whose body is refused, as a work of _law_all -/
theorem ref_of {kl j : Nat} {n : Int} {cells : List (Str × Addr)} {N N' ps fr names : List Str} {σ : L2.St} {cl : List (Addr × Obj)} {H : Hp} {f c' : Addr} {lc : List (Str × Addr)} {lam : LamT} {Hf : Hp → Prop} {qn : Str} {R : RW} {ws : List (Option V)} (sc : NScope N' ps fr lam.2.2) (hps : ∀ y, (y, NameKind.free) ∈ lam.2.2.names → y ∈ fr) (hsub : ∀ y ∈ fr, y ∈ names)
    (T : ToldC cells N names σ cl) (un : ∀ c o, cl.lookup c = some o → H c = none) (hF : lc = cloFrom cells lam.2.2.names []) (hl : ws.length = fr.length) (hw : ∀ (i : Nat) (y : Str) (v : V), fr[i]? = some y → ws[i]? = some (some v) → ∃ j : Nat, N[j]? = some y ∧ σ[j]? = some (some v))
    (hk : ∀ H1, Ex cs (addC H cl) H1 → Hf H1) (L : LamW P w K mg base kl f Hf (spLamR fr R ⟨"<lambda>", qn, lam.1, [], lam.2.2, lc, c'⟩))
    (run : ∀ H1, Ex cs H H1 → (∀ c o, cl.lookup c = some o → H1 c = none) → ∀ (Z : VK) (E' : XK), (∀ (cls : Value) (d : Option Addr) (H2 : Hp), ErrAt K H2 j n cls d → Ex cs H1 H2 → E' cls d H2) → R ws H1 Z E') :
    Ref P w K mg base cs kl j n (addC H cl) f := by
  refine ⟨Hf, _, L, fun H1 x => ⟨hk H1 x, fun Z E hE => ?_⟩⟩
  have told : ∀ c o, cl.lookup c = some o → H1 c = some (cellF o) := fun c o q => x.ext _ _ (addC_in q) (cell_ne o)
  refine ⟨rfl, ws, cl, caught_of T hF hps (fun y hy => PySem.mem_of_lookup (sc.frk y hy)) hsub hl told (fun i y v q1 q2 => hw i y v q1 q2), ?_⟩
  exact run (delC H1 cl) (ex_del un x) (fun c o q => delC_in q) _ _ fun cls d H2 he x2 hu => hE cls d _ (err_add hu he) (ex_add told hu x2)
end
end TGK

namespace TGK
open TG
open PySem PySem.Spec PyProof.Rows L2 NdefX GenW Gx Lv Dl
/-! ### a lambda is tried; what it gives, or the word of what it raised -/
theorem add_del {H : Hp} {cl : List (Addr × Obj)} (told : ∀ c o, cl.lookup c = some o → H c = some (cellF o)) : addC (delC H cl) cl = H := by
  funext b
  cases r : cl.lookup b with
  | some u => rw [addC_in r, told b u r]
  | none => rw [addC_out r, delC_out r]
section
variable {P : Program} {w : World} {K : PySem.W.Frag} {mg : Str → Option Value} {base : Heap} {cs : List (Addr × Addr)}
theorem tellsR {kl : Nat} {cells : List (Str × Addr)} {N N' ps fr names : List Str} {σ : L2.St} {cl : List (Addr × Obj)} {H : Hp} {f c' : Addr} {lc : List (Str × Addr)} {lam : LamT} {Hf : Hp → Prop} {Q0 : VK} {E : XK} {qn : Str} {R : RW} {ws : List (Option V)} (sc : NScope N' ps fr lam.2.2) (hps : ∀ y, (y, NameKind.free) ∈ lam.2.2.names → y ∈ fr) (hsub : ∀ y ∈ fr, y ∈ names)
    (T : ToldC cells N names σ cl) (un : ∀ c o, cl.lookup c = some o → H c = none) (hF : lc = cloFrom cells lam.2.2.names []) (hl : ws.length = fr.length) (hw : ∀ (i : Nat) (y : Str) (v : V), fr[i]? = some y → ws[i]? = some (some v) → ∃ j : Nat, N[j]? = some y ∧ σ[j]? = some (some v))
    (hf : Hf (addC H cl)) (L : LamW P w K mg base kl f Hf (spLamR fr R ⟨"<lambda>", qn, lam.1, [], lam.2.2, lc, c'⟩))
    (run : ∀ (Z : VK) (E' : XK), (∀ v H', ((∀ c o, cl.lookup c = some o → H' c = none) → Q0 v (addC H' cl)) → Z v H') →
      (∀ (j : Nat) (H' : Hp), j < 11 → flE j = "" → Tabs cs H' → (∀ (T : Addr) (H2 : Hp), Ex cs H' H2 → H' T = none → (∀ c o, cl.lookup c = some o → H2 c = none) → H2 T = some (.tup [.str (nmE j), .int 0]) → Q0 (.ref T) (addC H2 cl)) → E' (.ref (He.ga K (nmE j))) none H') → R ws H Z E') :
    spTellsW P w K mg base cs kl [.ref f] (addC H cl) Q0 E := by
  refine ⟨f, Hf, _, rfl, hf, L, fun Z E2 hZ hE => ?_⟩
  refine ⟨rfl, ws, cl, caught_of T hF hps (fun y hy => PySem.mem_of_lookup (sc.frk y hy)) hsub hl (fun c o q => addC_in q) (fun i y v q1 q2 => hw i y v q1 q2), ?_⟩
  rw [del_add un]
  refine run _ _ (fun v H' q hu => hZ _ _ (q hu)) fun j H' hj hfl hT kq hu => hE _ _ (addC H' cl) j 0 ⟨hj, rfl, fun n => absurd hfl n, fun _ => ⟨rfl, rfl⟩⟩ (fun r hr => ?_) fun T H2 x2 nT hTt => ?_
  · obtain ⟨ps, h1, h2⟩ := hT r hr
    exact ⟨ps, add_at hu h1, h2⟩
  · have told : ∀ c o, cl.lookup c = some o → H2 c = some (cellF o) := fun c o q => x2.ext _ _ (addC_in q) (cell_ne o)
    have nl : cl.lookup T = none := by
      cases e : cl.lookup T with
      | none => rfl
      | some u => rw [addC_in e] at nT; cases nT
    have q := kq T (delC H2 cl) (ex_del hu x2) (by rw [addC_out nl] at nT; exact nT) (fun c o q => delC_in q) (by rw [delC_out nl]; exact hTt)
    rw [add_del told] at q
    exact q
end
end TGK

namespace TG
open PySem PySem.Spec PyProof.Rows L2 NdefX GenW Gx Lv
def spTakeW : Sp := fun vs H Q _ => ∃ (b l : Addr) (many : Int), vs = [.ref b, .int many] ∧ BoxAt H b l ∧ 0 < many ∧ many < 4611686018427387904 ∧
  ∀ (r : Int) (H' : Hp), 0 ≤ r → r < many → BoxAt H' b l → KB b l H H' → Q (.int r) H'
section
variable {P : Program} {w : World} {K : PySem.W.Frag} {mg : Str → Option Value} {base : Heap}
theorem ok_takeW {f : Addr} {fd : FuncData} (F : Fun K "_law_take" "_law_take" s_take f fd) : FnOk P w K mg base CX0 1 f fd ["_law_box", "_law_many"] spTakeW := by
  refine F.ok sc_take (fun vs H Q E h => ?_) (fun cdv A outer s H vs Q E hr h => ?_)
  · obtain ⟨b, l, many, rfl, _⟩ := h
    rfl
  · obtain ⟨b, l, many, rfl, hB, m0, m1, k⟩ := h
    have nd := sc_take.nd
    have hu := hr.units
    refine ⟨_, pss_cons (ps_if (pt_cmpR (op_eqD hu) (pe_ix ix_list (pv 0) pe_int (fun _ _ => rfl)) (pe_lst pa_nil) (nomark _))
        (pss_cons (ps_asg (pe_op op_modN (pe_op op_mul (pe_ix ix_list (pv 0) pe_int (fun _ _ => rfl)) pe_int) pe_int) (pg_sub (pv 0) pe_int set_list))
          (pss_one (ps_ret (pe_op op_modN (pe_op op_fdivN (pe_ix ix_list (pv 0) pe_int (fun _ _ => rfl)) pe_int) (pv 1))))) pss_nil)
      (pss_cons (ps_set (i := 2) nd rfl (.inl rfl) (pe_ix ix_list (pe_ix ix_list (pv 0) pe_int (fun _ _ => rfl)) pe_int (fun _ _ => rfl)))
      (pss_cons (ps_asg (pe_op op_fdivW (pv 2) (pv 1)) (pg_sub (pe_ix ix_list (pv 0) pe_int (fun _ _ => rfl)) pe_int set_list))
      (pss_cons (ps_if (PW.pt (pw_or (pt_cmpR op_eq (pe_ix ix_list (pe_ix ix_list (pv 0) pe_int (fun _ _ => rfl)) pe_int (fun _ _ => rfl)) pe_int (nomark _)) (pw_or1 (pt_cmpR op_eq (pe_ix ix_list (pe_ix ix_list (pv 0) pe_int (fun _ _ => rfl)) pe_int (fun _ _ => rfl)) (pe_un un_neg pe_int) (nomark _)))))
          (pss_one (ps_expr (pe_bm PySem.F.plainAttrs_list PySem.F.slot_list_pop PySem.F.type_list_pop mt_popAt (pe_ix ix_list (pv 0) pe_int (fun _ _ => rfl)) (pa_cons pe_int pa_nil)))) pss_nil)
      (pss_one (ps_ret (pe_op op_modN (pv 2) (pv 1))))))), ?_⟩
    obtain ⟨ns, st, h1, h2, h3⟩ := id hB
    have nbl := box_ne hB
    have len2 : ∀ o, (upd H b o) l = some (.lst (ns.map V.int)) := fun o => by rw [upd_ne nbl.symm]; exact h2
    -- _law_box[0] == []
    refine ⟨_, rfl, b, _, 0, .ref l, rfl, rfl, SqL.of h1, rfl, small0, fun p np => ?_⟩
    have npb : b ≠ p := ne_of_none h1 np
    have npl : l ≠ p := ne_of_none h2 np
    have g1 : (upd H p (.lst [])) b = some (.lst [.ref l, .int st]) := by rw [upd_ne npb]; exact h1
    have g2 : (upd H p (.lst [])) l = some (.lst (ns.map V.int)) := by rw [upd_ne npl]; exact h2
    have kp : KB b l H (upd H p (.lst [])) := fun c o e _ _ => by rw [upd_ne (ne_of_none e np)]; exact e
    refine ⟨.list (ns.map PyData.int), .list [], .lst (SqL.of g2) (dp_ints ns), .lst (SqL.of upd_same) .nil, shaped_of_ints ns, rfl, _, rfl, ?_⟩
    cases ns with
    | nil =>
      refine iteT ?_
      refine ⟨_, rfl, b, _, 1, .int st, rfl, rfl, SqL.of g1, rfl, st, 48271, rfl, rfl, .inr (by decide), _, _, rfl, rfl, nz (by decide), _, rfl, b, _, 1, 1, rfl, rfl, g1, rfl, ?_⟩
      refine ⟨_, rfl, b, _, 1, _, rfl, rfl, SqL.of upd_same, rfl, _, _, rfl, rfl, ⟨by decide, by decide⟩, _, rfl, _, _, rfl, rfl, nz (by omega), ?_⟩
      refine k _ _ (Int.fmod_nonneg_of_pos _ m0) (Int.fmod_lt_of_pos _ m0) ⟨[], _, upd_same, by rw [upd_ne nbl.symm]; exact g2, h3⟩ fun c o e hc hl => ?_
      rw [upd_ne hc]
      exact kp c o e hc hl
    | cons n ns =>
      refine iteF ?_
      refine ⟨_, rfl, b, _, 0, .ref l, rfl, rfl, SqL.of g1, rfl, l, _, 0, .int n, rfl, rfl, SqL.of g2, at0, ?_⟩
      refine ⟨_, rfl, _, rfl, n, many, rfl, rfl, wide_div m0 (show many.natAbs < 2 ^ 64 by omega) (by decide) (by decide), _, rfl, b, _, 0, .ref l, rfl, rfl, SqL.of g1, rfl, l, _, 0, 0, rfl, rfl, g2, ix0, ?_⟩
      have j1 : ∀ o, (upd (upd H p (.lst [])) l o) b = some (.lst [.ref l, .int st]) := fun o => by rw [upd_ne nbl]; exact g1
      have kl : ∀ o, KB b l H (upd (upd H p (.lst [])) l o) := fun o c u e hc hl => by rw [upd_ne hl]; exact kp c u e hc hl
      have fin : ∀ ms : List Int, ms.length ≤ 63 → Q (.int (n.fmod many)) (upd (upd H p (.lst [])) l (.lst (ms.map V.int))) := fun ms hm =>
        k _ _ (Int.fmod_nonneg_of_pos _ m0) (Int.fmod_lt_of_pos _ m0) ⟨ms, st, j1 _, upd_same, hm⟩ (kl _)
      have e0 : (List.map V.int (n :: ns)).set 0 (V.int (n / many)) = List.map V.int (n / many :: ns) := rfl
      rw [e0]
      -- == 0 or == -1
      refine ⟨_, rfl, b, _, 0, .ref l, rfl, rfl, SqL.of (j1 _), rfl, l, _, 0, .int (n / many), rfl, rfl, SqL.of upd_same, at0, rfl, _, rfl, ?_⟩
      have done : ∀ H', (∃ ms : List Int, ms.length ≤ 63 ∧ H' = upd (upd H p (.lst [])) l (.lst (ms.map V.int))) → ∃ v, ([some (V.ref b), some (V.int many), some (V.int n)] : L2.St)[2]? = some (some v) ∧ ∃ v_1, ([some (V.ref b), some (V.int many), some (V.int n)] : L2.St)[1]? = some (some v_1) ∧ ∃ i j, v = V.int i ∧ v_1 = V.int j ∧ j ≠ 0 ∧ Q (V.int (i.fmod j)) H' := fun H' ⟨ms, hm, e⟩ => by
        subst e
        exact ⟨_, rfl, _, rfl, n, many, rfl, rfl, nz (by omega), fin ms hm⟩
      have pop : ∀ Z : VK, (∀ y H', H' = upd (upd H p (.lst [])) l (.lst (ns.map V.int)) → Z y H') → rPopAt (.ref l) [.int 0] (upd (upd H p (.lst [])) l (.lst (List.map V.int (n / many :: ns)))) Z := fun Z hZ =>
        ⟨l, _, 0, 0, _, rfl, rfl, upd_same, by decide, by decide, by simp [seqIndex?], rfl, hZ _ _ (by rw [upd_upd]; rfl)⟩
      have h3' : ns.length ≤ 63 := by simp at h3; omega
      by_cases hz : n / many = 0
      · rw [decide_eq_true (show V.int (n / many) = V.int 0 by rw [hz])]
        refine iteT (iteT ⟨_, rfl, b, _, 0, .ref l, rfl, rfl, SqL.of (j1 _), rfl, .inl ⟨rfl, _, SqL.of upd_same⟩, pop _ fun y H' e => done H' ⟨ns, h3', e⟩⟩)
      · rw [decide_eq_false (show ¬ V.int (n / many) = V.int 0 from fun z => hz (by injection z))]
        refine iteF ⟨_, rfl, b, _, 0, .ref l, rfl, rfl, SqL.of (j1 _), rfl, l, _, 0, .int (n / many), rfl, rfl, SqL.of upd_same, at0, 1, rfl, rfl, _, rfl, ?_⟩
        refine ite2 (fun _ => ⟨_, rfl, b, _, 0, .ref l, rfl, rfl, SqL.of (j1 _), rfl, .inl ⟨rfl, _, SqL.of upd_same⟩, pop _ fun y H' e => done H' ⟨ns, h3', e⟩⟩) fun _ => ?_
        exact done _ ⟨n / many :: ns, h3, rfl⟩
end
end TG

namespace TGK
open TG
open PySem PySem.Spec PyProof.Rows L2 NdefX GenW Gx Lv Dl EnT
/-! ### numbers that are none -/
def NoWh (lo hi : Int) (v : V) : Prop := (∃ i : Int, v = .int i ∧ ¬ (lo ≤ i ∧ i ≤ hi)) ∨ v = .non ∨ (∃ b, v = .bl b) ∨ ∃ z : Str, v = .str z
section
variable {P : Program} {w : World} {K : PySem.W.Frag} {mg : Str → Option Value} {base : Heap} {cs : List (Addr × Addr)} {S R C G : Addr}
def spWholeN : Sp := fun vs H Q _ => ∃ (v : V) (lo hi : Int), vs = [v, .int lo, .int hi] ∧ NoWh lo hi v ∧ Q (.bl false) H
theorem ok_wholeN {f : Addr} {fd : FuncData} (T : Txt mg) (F : Fun K "is_whole" "is_whole" s_is_whole f fd) : FnOk P w K mg base CX0 1 f fd ["value", "low", "high"] spWholeN := by
  refine F.ok sc_whole (fun vs H Q E h => ?_) (fun cdv A outer s H vs Q E hr h => ?_)
  · obtain ⟨i, lo, hi, rfl, _⟩ := h
    rfl
  · obtain ⟨v, lo, hi, rfl, hv, k⟩ := h
    refine ⟨_, pss_one (ps_ret (pe_and (pe_callB call_isi (by rfl) T.isin (by decide +kernel) (pa_cons (pv 0) (pa_cons (pe_bltn (v := .ty "int") (by rfl) T.int (by decide +kernel) rfl) pa_nil)))
      (pe_and (pe_not (pe_callB call_isi (by rfl) T.isin (by decide +kernel) (pa_cons (pv 0) (pa_cons (pe_bltn (v := .ty "bool") (by rfl) T.bool (by decide +kernel) rfl) pa_nil)))) (pe_one (pe_chain op_le op_le (pv 1) (pv 0) (pv 2)))))), ?_⟩
    rcases hv with ⟨i, rfl, hn⟩ | rfl | ⟨b, rfl⟩ | ⟨z, rfl⟩
    · refine ⟨_, rfl, _, _, _, _, true, rfl, .ty _, .base (.int i), kit_ty (by decide +kernel), true, rfl, iteT ⟨_, rfl, _, _, _, _, false, rfl, .ty _, .base (.int i), kit_ty (by decide +kernel), false, rfl, true, rfl, iteT ⟨_, rfl, _, rfl, lo, i, rfl, rfl, ?_⟩⟩⟩
      by_cases h1 : lo ≤ i
      · refine ⟨true, dT h1, iteT ⟨_, rfl, i, hi, rfl, rfl, ?_⟩⟩
        show Q (.bl (decide (i ≤ hi))) H
        rw [decide_eq_false fun z => hn ⟨h1, z⟩]
        exact k
      · exact ⟨false, dF h1, iteF k⟩
    · exact ⟨_, rfl, _, _, _, _, false, rfl, .ty _, .base .non, kit_ty (by decide +kernel), false, rfl, iteF k⟩
    · exact ⟨_, rfl, _, _, _, _, true, rfl, .ty _, .base (.bl b), kit_ty (by decide +kernel), true, rfl, iteT ⟨_, rfl, _, _, _, _, true, rfl, .ty _, .base (.bl b), kit_ty (by decide +kernel), true, rfl, false, rfl, iteF k⟩⟩
    · exact ⟨_, rfl, _, _, _, _, false, rfl, .ty _, .base (.str z), kit_ty (by decide +kernel), false, rfl, iteF k⟩
/-- check_number of what is none -/
def spNumN (R : Addr) : Sp := fun vs H _ E => ∃ (v : V) (last : Int), vs = [v, .int last] ∧ NoWh 0 last v ∧ E (.ref R) none H
theorem ok_numN {f g : Addr} {fd fdg : FuncData} (Er : SErr K mg R C G) (F : Fun K "check_number" "check_number" s_check_number f fd)
    (W : FnOk P w K mg base CX0 1 g fdg ["value", "low", "high"] spWholeN) (kp : PySem.W.keepIn K (.ref g) = true) (bd : Binds K fdg ["value", "low", "high"] []) (mgg : mg "is_whole" = some (.ref g)) : FnOk P w K mg base (L2.CX P w) 2 f fd ["number", "last"] (spNumN R) := by
  refine F.okX sc_num (fun vs H Q E h => ?_) (fun cdv A outer s H vs Q E hr h => ?_)
  · obtain ⟨n, last, rfl, _⟩ := h
    rfl
  · obtain ⟨v, last, rfl, hn, k⟩ := h
    refine ⟨_, pss_one (ps_if (pt_not (pt_val (pe_call W hr (by rfl) mgg kp bd .nil pass0 (pa_cons (pv 0) (pa_cons pe_int (pa_cons (pv 1) pa_nil))))))
      (pss_one (ps_raise rfl (takes_of rfl rfl rfl rfl) (pmk_own PySem.F.excBase_ValueError Er.row.exc Er.row.mg_ Er.row.kp (raises_own Er.row.sub Er.row.ty) rfl))) pss_nil), ?_⟩
    exact ⟨_, rfl, _, rfl, v, 0, last, rfl, hn, false, rfl, iteT k⟩
/-! ### what is no row -/
def NoT (H : Hp) (v : V) : Prop := v = .non ∨ (∃ i : Int, v = .int i) ∨ (∃ b, v = .bl b) ∨ ∃ t xs, v = .ref t ∧ H t = some (.tup xs)
def AnyC (H : Hp) (v : V) : Prop := NoT H v ∨ ∃ z, v = .str z ∧ z.length ≤ 1000
def BadC (H : Hp) (v : V) : Prop := NoT H v ∨ ∃ z, v = .str z ∧ z.length ≤ 1000 ∧ textB z 10 = false
def BadRv (H : Hp) (v : V) : Prop := v = .non ∨ (∃ i : Int, v = .int i) ∨ (∃ z : Str, v = .str z) ∨ (∃ t xs, v = .ref t ∧ H t = some (.lst xs)) ∨
  ∃ t xs, v = .ref t ∧ H t = some (.tup xs) ∧ ((xs.length = 0 ∨ 6 < xs.length ∧ xs.length ≤ 1000) ∨ (1 ≤ xs.length ∧ xs.length ≤ 6 ∧ (∀ x ∈ xs, AnyC H x) ∧ ∃ x ∈ xs, BadC H x))
theorem NoT.gw {H H' : Hp} {v : V} (h : NoT H v) (x : LamX.ExtN H H') : NoT H' v := by
  rcases h with h | h | h | ⟨t, xs, e, h⟩
  · exact .inl h
  · exact .inr (.inl h)
  · exact .inr (.inr (.inl h))
  · exact .inr (.inr (.inr ⟨t, xs, e, x _ _ h fun ps z => nomatch z⟩))
theorem AnyC.gw {H H' : Hp} {v : V} (h : AnyC H v) (x : LamX.ExtN H H') : AnyC H' v := h.imp (fun z => z.gw x) id
theorem BadC.gw {H H' : Hp} {v : V} (h : BadC H v) (x : LamX.ExtN H H') : BadC H' v := h.imp (fun z => z.gw x) id
theorem BadRv.gw {H H' : Hp} {v : V} (h : BadRv H v) (x : LamX.ExtN H H') : BadRv H' v := by
  rcases h with h | h | h | ⟨t, xs, e, h⟩ | ⟨t, xs, e, h, q⟩
  · exact .inl h
  · exact .inr (.inl h)
  · exact .inr (.inr (.inl h))
  · exact .inr (.inr (.inr (.inl ⟨t, xs, e, x _ _ h fun ps z => nomatch z⟩)))
  · refine .inr (.inr (.inr (.inr ⟨t, xs, e, x _ _ h (fun ps z => nomatch z), ?_⟩)))
    rcases q with q | ⟨q1, q2, q3, u, q4, q5⟩
    · exact .inl q
    · exact .inr ⟨q1, q2, fun y hy => (q3 y hy).gw x, u, q4, q5.gw x⟩
theorem NoT.text {H : Hp} {v : V} (h : NoT H v) : NoText K H v := by
  rcases h with rfl | ⟨i, rfl⟩ | ⟨b, rfl⟩ | ⟨t, xs, rfl, h⟩
  · exact ⟨_, .base .non, by decide +kernel⟩
  · exact ⟨_, .base (.int i), by decide +kernel⟩
  · exact ⟨_, .base (.bl b), by decide +kernel⟩
  · exact ⟨_, .base (.tup h), by decide +kernel⟩
def spRowN (cs : List (Addr × Addr)) : Sp := fun vs H Q _ => ∃ v : V, vs = [v] ∧ Tabs cs H ∧ BadRv H v ∧ ∀ H', Ex cs H H' → Q (.bl false) H'
theorem ok_rowN {f c Pt g : Addr} {fd fdg : FuncData} (T : Txt mg) (N : Consts mg) (F : Fun K "is_row" "is_row" s_is_row f fd) (hc : fd.code = .ref c) (TB : GxR.TabB base mg c Pt) (hm : (c, Pt) ∈ cs)
    (W : FnOk P w K mg base CX0 5 g fdg ["value", "most"] (spText2 K cs)) (kp : PySem.W.keepIn K (.ref g) = true) (bd : Binds K fdg ["value", "most"] []) (mgg : mg "is_text_of_signs" = some (.ref g)) : FnOk P w K mg base CX0 9 f fd ["value"] (spRowN cs) := by
  refine fun_okT F hc sc_row (fun vs H Q E h => ?_) (fun A outer s H vs Q E hr h => ?_)
  · obtain ⟨v, rfl, _⟩ := h
    rfl
  · obtain ⟨v, rfl, hT, hv, k⟩ := h
    obtain ⟨t1, e1⟩ := N.cells
    obtain ⟨t2, e2⟩ := N.signs
    refine ⟨_, pss_cons (ps_if (PW.pt (pw_or (pt_not (pt_val (pe_callB call_isi (by rfl) T.isin (by decide +kernel) (pa_cons (pv 0) (pa_cons (pe_bltn (v := .ty "tuple") (by rfl) T.tuple (by decide +kernel) rfl) pa_nil)))))
        (pw_or1 (pt_not (pt_chain op_le op_le pe_int (pe_callB call_len_seq (by rfl) T.len PySem.boot_len (pa_cons (pv 0) pa_nil)) (pe_glob (v := .int 6) rfl e1 ⟨_, rfl⟩)))))) (pss_one (ps_ret pe_bl)) pss_nil)
      (pss_one (ps_ret (pe_allG (k := 5) (P := Pt) hr (by rfl) T.all TB rfl ⟨rfl, rfl, by decide +kernel, by decide +kernel, rfl, rfl⟩ (pi_tup (pv 0))
        (fun A' code s4 H4 fp hr' => pe_call W hr' (by rfl) mgg kp bd .nil pass0 (pa_cons (pv 0) (pa_cons (pe_glob (v := .int 10) rfl e2 ⟨_, rfl⟩) pa_nil))) (fun _ => rfl)))), ?_⟩
    rcases hv with rfl | ⟨i, rfl⟩ | ⟨z, rfl⟩ | ⟨t, xs, rfl, hs⟩ | ⟨t, xs, rfl, hs, hx⟩
    · exact ⟨_, rfl, _, _, _, _, false, rfl, .ty _, .base .non, kit_ty (by decide +kernel), false, rfl, iteT (k H (Ex.refl hT))⟩
    · exact ⟨_, rfl, _, _, _, _, false, rfl, .ty _, .base (.int i), kit_ty (by decide +kernel), false, rfl, iteT (k H (Ex.refl hT))⟩
    · exact ⟨_, rfl, _, _, _, _, false, rfl, .ty _, .base (.str z), kit_ty (by decide +kernel), false, rfl, iteT (k H (Ex.refl hT))⟩
    · exact ⟨_, rfl, _, _, _, _, false, rfl, .ty _, ty_list (SqL.of hs), kit_ty (by decide +kernel), false, rfl, iteT (k H (Ex.refl hT))⟩
    · have hS : SqT K H t xs := SqT.of hs
      refine ⟨_, rfl, _, _, _, _, true, rfl, .ty _, ty_tup hS, kit_ty (by decide +kernel), true, rfl, iteF ⟨_, rfl, t, _, rfl, .inr hS, 1, _, rfl, rfl, ?_⟩⟩
      rcases hx with (h0 | ⟨h6, h7⟩) | ⟨h1, h6, ha, u, hu, hb⟩
      · exact ⟨false, dF (by omega), iteF ⟨_, rfl, iteT (k H (Ex.refl hT))⟩⟩
      · exact ⟨true, dT (by omega), iteT ⟨_, 6, rfl, rfl, false, dF (by omega), iteT (k H (Ex.refl hT))⟩⟩
      · refine ⟨true, dT (by omega), iteT ⟨_, 6, rfl, rfl, true, dT (by omega), iteF ⟨_, rfl, t, rfl, ⟨_, hS⟩, hT _ hm, fun H2 hH2 => ?_⟩⟩⟩
        have x2 := Ex.tabbed hT hm hH2
        refine all_by (w := walk_tup (a := t) (xs := xs)) (fun i => match xs[i]? with | some (.str z) => textB z 10 | _ => false) (fun _ H' => Ex cs H H') x2 (fun i H' _ x => x.sqT hS) (fun i v H3 H4 hi x y Z hZ => ?_) (fun H3 x hall => ?_) (fun i H3 hi hff x => k _ x)
        · obtain ⟨rfl, hv⟩ := y
          rcases ha v (List.mem_of_getElem? hv) with hn | ⟨z, rfl, hz⟩
          · refine ⟨_, rfl, v, 10, false, rfl, x.tab, .inl ⟨(hn.gw x.ext).text, rfl⟩, fun H5 x5 => ?_⟩
            have := hZ _ (x.trans x5)
            rw [hv] at this
            rcases hn with rfl | ⟨i, rfl⟩ | ⟨b, rfl⟩ | ⟨t, xs, rfl, h⟩ <;> exact this
          · refine ⟨_, rfl, .str z, 10, _, rfl, x.tab, .inr ⟨z, rfl, hz, rfl⟩, fun H5 x5 => ?_⟩
            have := hZ _ (x.trans x5)
            rw [hv] at this
            exact this
        · obtain ⟨i, hi, e⟩ := List.getElem_of_mem hu
          have q := hall i hi
          rw [List.getElem?_eq_getElem hi, e] at q
          rcases hb with (rfl | ⟨i, rfl⟩ | ⟨b, rfl⟩ | ⟨t, xs, rfl, h⟩) | ⟨z, rfl, _, hz⟩
          · cases q
          · cases q
          · cases q
          · cases q
          · have q : textB z 10 = true := q
            rw [hz] at q
            cases q
/-- check_row of what is none -/
def spCRowX (cs : List (Addr × Addr)) (R : Addr) : Sp := fun vs H _ E => ∃ v : V, vs = [v] ∧ Tabs cs H ∧ BadRv H v ∧ ∀ H', Ex cs H H' → E (.ref R) none H'
theorem ok_crowX {f g : Addr} {fd fdg : FuncData} (Er : SErr K mg R C G) (F : Fun K "check_row" "check_row" s_check_row f fd)
    (W : FnOk P w K mg base CX0 9 g fdg ["value"] (spRowN cs)) (kp : PySem.W.keepIn K (.ref g) = true) (bd : Binds K fdg ["value"] []) (mgg : mg "is_row" = some (.ref g)) : FnOk P w K mg base (L2.CX P w) 11 f fd ["row"] (spCRowX cs R) := by
  refine F.okX sc_crow (fun vs H Q E h => ?_) (fun cdv A outer s H vs Q E hr h => ?_)
  · obtain ⟨v, rfl, _⟩ := h
    rfl
  · obtain ⟨v, rfl, hT, hv, k⟩ := h
    refine ⟨_, pss_one (ps_if (pt_not (pt_val (pe_call W (hr.mono (by decide)) (by rfl) mgg kp bd .nil pass0 (pa_cons (pv 0) pa_nil))))
      (pss_one (ps_raise rfl (takes_of rfl rfl rfl rfl) (pmk_own PySem.F.excBase_ValueError Er.row.exc Er.row.mg_ Er.row.kp (raises_own Er.row.sub Er.row.ty) rfl))) pss_nil), ?_⟩
    exact ⟨_, rfl, v, rfl, hT, hv, fun H' x => ⟨false, rfl, iteT (k H' x)⟩⟩
/-! ### a sheet refuses what is no number, no row -/
def spPutX (K : PySem.W.Frag) (cs : List (Addr × Addr)) (S R : Addr) (j : Nat) : Sp := fun vs H _ E => ∃ (sh : Addr) (v u : V) (rl dl st : Addr) (as : List Addr) (rows : List (List Str)) (gap least : Int) (ts : List Addr) (ps : List (List (List Str))) (av : Addr → Prop),
  vs = [.ref sh, v, u] ∧ Tabs cs H ∧ ShtD K S H sh rl dl st as rows gap least ts ps av ∧ (NoWh 0 ((rows.length : Nat) - (j : Nat)) v ∨ (∃ n : Nat, v = .int (n : Nat) ∧ n + j ≤ rows.length) ∧ BadRv H u) ∧ ∀ H', Ex cs H H' → E (.ref R) none H'
def spTakeX (K : PySem.W.Frag) (cs : List (Addr × Addr)) (S R : Addr) : Sp := fun vs H _ E => ∃ (sh : Addr) (v : V) (rl dl st : Addr) (as : List Addr) (rows : List (List Str)) (gap least : Int) (ts : List Addr) (ps : List (List (List Str))) (av : Addr → Prop),
  vs = [.ref sh, v] ∧ Tabs cs H ∧ ShtD K S H sh rl dl st as rows gap least ts ps av ∧ NoWh 0 ((rows.length : Nat) - 1) v ∧ ∀ H', Ex cs H H' → E (.ref R) none H'
theorem ok_putX {f g1 g2 g3 : Addr} {fd fd1 fd2 fd3 : FuncData} (T : Txt mg) (X : ShC K S) (F : Fun K "put" "Sheet.put" (mth nSheet 1) f fd)
    (G1 : FnOk P w K mg base CX0 2 g1 fd1 ["number", "last"] spNum0) (G1X : FnOk P w K mg base (L2.CX P w) 2 g1 fd1 ["number", "last"] (spNumN R)) (k1 : PySem.W.keepIn K (.ref g1) = true) (b1 : Binds K fd1 ["number", "last"] []) (m1 : mg "check_number" = some (.ref g1))
    (G2 : FnOk P w K mg base (L2.CX P w) 11 g2 fd2 ["row"] (spCRowX cs R)) (k2 : PySem.W.keepIn K (.ref g2) = true) (b2 : Binds K fd2 ["row"] []) (m2 : mg "check_row" = some (.ref g2))
    (M3 : Meth K S "lay" g3) (G3 : FnOk P w K mg base (L2.CX P w) 16 g3 fd3 ["self", "number", "many", "rows"] (spLay K cs S R C)) (b3 : Binds K fd3 ["self", "number", "many", "rows"] []) :
    FnOk P w K mg base (L2.CX P w) 17 f fd ["self", "number", "row"] (spPutX K cs S R 0) := by
  refine F.okX sc_put (fun vs H Q E h => ?_) (fun cdv A outer s H vs Q E hr h => ?_)
  · obtain ⟨sh, v, u, _, _, _, _, _, _, _, _, _, _, rfl, _⟩ := h
    rfl
  · obtain ⟨sh, v, u, rl, dl, st, as, rows, gap, least, ts, ps, av, rfl, hT, hS, hb, k⟩ := h
    have r2 : Room 2 _ := hr.mono (by decide)
    have r10 : Room 11 _ := hr.mono (by decide)
    obtain ⟨dx, h1⟩ := hS.she
    have la : (as.map V.ref).length = rows.length := by rw [List.length_map, hS.at_.len]
    rcases hb with hn | ⟨⟨n, rfl, hn⟩, hu⟩
    · refine ⟨_, pss_cons (ps_expr (pe_callS G1X r2 (by rfl) m1 k1 b1 (fun σ => passAt (takes_of rfl rfl rfl rfl) σ) (pa_cons (pv 1) (pa_cons (pe_callB call_len_seq (by rfl) T.len PySem.boot_len (pa_cons (pe_fld (pv 0) rfl) pa_nil)) pa_nil))))
        (pss_cons (ps_expr (pe_callS G2 r10 (by rfl) m2 k2 b2 (fun σ => passAt (takes_of rfl rfl rfl rfl) σ) (pa_cons (pv 2) pa_nil)))
        (pss_one (ps_ret (pe_methS (pv 0) X.cS M3 G3 hr b3 (fun σ => passAt (takes_of rfl rfl rfl rfl) σ) (pa_cons (pv 1) (pa_cons pe_int (pa_cons (pe_lst (pa_cons (pv 2) pa_nil)) pa_nil))))))), ?_⟩
      refine ⟨_, rfl, _, rfl, sh, S, dx, _, _, rfl, h1, X.cS, X.nRows, rfl, rl, _, rfl, .inl hS.page.lst, v, _, rfl, ?_, k H (Ex.refl hT)⟩
      rw [la, show ((rows.length : Nat) : Int) = (rows.length : Nat) - ((0 : Nat) : Int) by omega]
      exact hn
    · refine ⟨_, pss_cons (ps_expr (pe_call G1 r2 (by rfl) m1 k1 b1 .nil pass0 (pa_cons (pv 1) (pa_cons (pe_callB call_len_seq (by rfl) T.len PySem.boot_len (pa_cons (pe_fld (pv 0) rfl) pa_nil)) pa_nil))))
        (pss_cons (ps_expr (pe_callS G2 r10 (by rfl) m2 k2 b2 (fun σ => passAt (takes_of rfl rfl rfl rfl) σ) (pa_cons (pv 2) pa_nil)))
        (pss_one (ps_ret (pe_methS (pv 0) X.cS M3 G3 hr b3 (fun σ => passAt (takes_of rfl rfl rfl rfl) σ) (pa_cons (pv 1) (pa_cons pe_int (pa_cons (pe_lst (pa_cons (pv 2) pa_nil)) pa_nil))))))), ?_⟩
      refine ⟨_, rfl, _, rfl, sh, S, dx, _, _, rfl, h1, X.cS, X.nRows, rfl, rl, _, rfl, .inl hS.page.lst, _, _, rfl, by omega, by rw [la]; omega, ?_⟩
      exact ⟨_, rfl, u, rfl, hT, hu, fun H' x => k H' x⟩
theorem ok_takeX {f g1 g3 : Addr} {fd fd1 fd3 : FuncData} (T : Txt mg) (X : ShC K S) (F : Fun K "take" "Sheet.take" (mth nSheet 2) f fd)
    (G1X : FnOk P w K mg base (L2.CX P w) 2 g1 fd1 ["number", "last"] (spNumN R)) (k1 : PySem.W.keepIn K (.ref g1) = true) (b1 : Binds K fd1 ["number", "last"] []) (m1 : mg "check_number" = some (.ref g1))
    (M3 : Meth K S "lay" g3) (G3 : FnOk P w K mg base (L2.CX P w) 16 g3 fd3 ["self", "number", "many", "rows"] (spLay K cs S R C)) (b3 : Binds K fd3 ["self", "number", "many", "rows"] []) :
    FnOk P w K mg base (L2.CX P w) 17 f fd ["self", "number"] (spTakeX K cs S R) := by
  refine F.okX sc_tk (fun vs H Q E h => ?_) (fun cdv A outer s H vs Q E hr h => ?_)
  · obtain ⟨sh, v, _, _, _, _, _, _, _, _, _, _, rfl, _⟩ := h
    rfl
  · obtain ⟨sh, v, rl, dl, st, as, rows, gap, least, ts, ps, av, rfl, hT, hS, hn, k⟩ := h
    have r2 : Room 2 _ := hr.mono (by decide)
    obtain ⟨dx, h1⟩ := hS.she
    have la : (as.map V.ref).length = rows.length := by rw [List.length_map, hS.at_.len]
    refine ⟨_, pss_cons (ps_expr (pe_callS G1X r2 (by rfl) m1 k1 b1 (fun σ => passAt (takes_of rfl rfl rfl rfl) σ) (pa_cons (pv 1) (pa_cons (pe_op op_sub (pe_callB call_len_seq (by rfl) T.len PySem.boot_len (pa_cons (pe_fld (pv 0) rfl) pa_nil)) pe_int) pa_nil))))
      (pss_one (ps_ret (pe_methS (pv 0) X.cS M3 G3 hr b3 (fun σ => passAt (takes_of rfl rfl rfl rfl) σ) (pa_cons (pv 1) (pa_cons pe_int (pa_cons (pe_lst pa_nil) pa_nil)))))), ?_⟩
    refine ⟨_, rfl, _, rfl, sh, S, dx, _, _, rfl, h1, X.cS, X.nRows, rfl, rl, _, rfl, .inl hS.page.lst, _, _, rfl, rfl, v, _, rfl, ?_, k H (Ex.refl hT)⟩
    rw [la]
    exact hn
theorem ok_changeX {f g1 g2 g3 : Addr} {fd fd1 fd2 fd3 : FuncData} (T : Txt mg) (X : ShC K S) (F : Fun K "change" "Sheet.change" (mth nSheet 3) f fd)
    (G1 : FnOk P w K mg base CX0 2 g1 fd1 ["number", "last"] spNum0) (G1X : FnOk P w K mg base (L2.CX P w) 2 g1 fd1 ["number", "last"] (spNumN R)) (k1 : PySem.W.keepIn K (.ref g1) = true) (b1 : Binds K fd1 ["number", "last"] []) (m1 : mg "check_number" = some (.ref g1))
    (G2 : FnOk P w K mg base (L2.CX P w) 11 g2 fd2 ["row"] (spCRowX cs R)) (k2 : PySem.W.keepIn K (.ref g2) = true) (b2 : Binds K fd2 ["row"] []) (m2 : mg "check_row" = some (.ref g2))
    (M3 : Meth K S "lay" g3) (G3 : FnOk P w K mg base (L2.CX P w) 16 g3 fd3 ["self", "number", "many", "rows"] (spLay K cs S R C)) (b3 : Binds K fd3 ["self", "number", "many", "rows"] []) :
    FnOk P w K mg base (L2.CX P w) 17 f fd ["self", "number", "row"] (spPutX K cs S R 1) := by
  refine F.okX sc_chg (fun vs H Q E h => ?_) (fun cdv A outer s H vs Q E hr h => ?_)
  · obtain ⟨sh, v, u, _, _, _, _, _, _, _, _, _, _, rfl, _⟩ := h
    rfl
  · obtain ⟨sh, v, u, rl, dl, st, as, rows, gap, least, ts, ps, av, rfl, hT, hS, hb, k⟩ := h
    have r2 : Room 2 _ := hr.mono (by decide)
    have r10 : Room 11 _ := hr.mono (by decide)
    obtain ⟨dx, h1⟩ := hS.she
    have la : (as.map V.ref).length = rows.length := by rw [List.length_map, hS.at_.len]
    rcases hb with hn | ⟨⟨n, rfl, hn⟩, hu⟩
    · refine ⟨_, pss_cons (ps_expr (pe_callS G1X r2 (by rfl) m1 k1 b1 (fun σ => passAt (takes_of rfl rfl rfl rfl) σ) (pa_cons (pv 1) (pa_cons (pe_op op_sub (pe_callB call_len_seq (by rfl) T.len PySem.boot_len (pa_cons (pe_fld (pv 0) rfl) pa_nil)) pe_int) pa_nil))))
        (pss_cons (ps_expr (pe_callS G2 r10 (by rfl) m2 k2 b2 (fun σ => passAt (takes_of rfl rfl rfl rfl) σ) (pa_cons (pv 2) pa_nil)))
        (pss_one (ps_ret (pe_methS (pv 0) X.cS M3 G3 hr b3 (fun σ => passAt (takes_of rfl rfl rfl rfl) σ) (pa_cons (pv 1) (pa_cons pe_int (pa_cons (pe_lst (pa_cons (pv 2) pa_nil)) pa_nil))))))), ?_⟩
      refine ⟨_, rfl, _, rfl, sh, S, dx, _, _, rfl, h1, X.cS, X.nRows, rfl, rl, _, rfl, .inl hS.page.lst, _, _, rfl, rfl, v, _, rfl, ?_, k H (Ex.refl hT)⟩
      rw [la]
      exact hn
    · refine ⟨_, pss_cons (ps_expr (pe_call G1 r2 (by rfl) m1 k1 b1 .nil pass0 (pa_cons (pv 1) (pa_cons (pe_op op_sub (pe_callB call_len_seq (by rfl) T.len PySem.boot_len (pa_cons (pe_fld (pv 0) rfl) pa_nil)) pe_int) pa_nil))))
        (pss_cons (ps_expr (pe_callS G2 r10 (by rfl) m2 k2 b2 (fun σ => passAt (takes_of rfl rfl rfl rfl) σ) (pa_cons (pv 2) pa_nil)))
        (pss_one (ps_ret (pe_methS (pv 0) X.cS M3 G3 hr b3 (fun σ => passAt (takes_of rfl rfl rfl rfl) σ) (pa_cons (pv 1) (pa_cons pe_int (pa_cons (pe_lst (pa_cons (pv 2) pa_nil)) pa_nil))))))), ?_⟩
      refine ⟨_, rfl, _, rfl, sh, S, dx, _, _, rfl, h1, X.cS, X.nRows, rfl, rl, _, rfl, .inl hS.page.lst, _, _, rfl, rfl, _, _, rfl, by omega, by rw [la]; omega, ?_⟩
      exact ⟨_, rfl, u, rfl, hT, hu, fun H' x => k H' x⟩
end
end TGK

namespace TGK
open TG
open PySem PySem.Spec PyProof.Rows L2 NdefX GenW Gx Lv Dl EnT
/-! ### what is no cell, no row, drawn -/
theorem cut_lo (z : Str) (n : Nat) : cl (cutS z (some ((n : Nat) : Int)) none) = (cl z).drop n := by
  obtain ⟨⟨l⟩⟩ := z
  unfold cutS
  simp only [cl, Str.length]
  rw [HT.sIx_none, HT.sIx_nat]
  simp
  by_cases h : n ≤ l.length
  · rw [Nat.min_eq_left h, List.take_of_length_le]
    rw [List.length_drop]
    exact Nat.le_refl _
  · rw [Nat.min_eq_right (by omega), Nat.sub_self, List.take_zero, List.drop_eq_nil_of_le (by omega)]
theorem cut_hi (z : Str) (n : Nat) : cl (cutS z none (some ((n : Nat) : Int))) = (cl z).take n := by
  obtain ⟨⟨l⟩⟩ := z
  unfold cutS
  simp only [cl, Str.length]
  rw [HT.sIx_none, HT.sIx_nat]
  simp
theorem onesLen {b l : Addr} {H H1 : Hp} {D : Addr} {i : Nat} (o : OnesAt b l H D i H1) : ∃ ys : List Str, H1 D = some (.lst (ys.map V.str)) ∧ (ys.map fun y => y.length).sum = i ∧ ys.length = i ∧ (Txt.join "" ys).length = i := by
  obtain ⟨cs, h1, h2, h3⟩ := o.ones
  have e : cl (Txt.join "" (cs.map fun c => (⟨#[c]⟩ : Str))) = cs := by
    rw [cl_join, List.map_map]
    clear h1 h2 h3
    induction cs with
    | nil => rfl
    | cons c cs ih =>
      rw [List.map_cons, List.flatten_cons, ih]
      rfl
  refine ⟨_, h3, ?_, by rw [List.length_map, h1], by rw [len_cl, e, h1]⟩
  rw [← h1]
  clear h1 h2 h3 e
  induction cs with
  | nil => rfl
  | cons c cs ih =>
    rw [List.map_cons, List.map_cons, List.sum_cons, ih, List.length_cons]
    show 1 + cs.length = cs.length + 1
    omega
theorem textB_bad {z : Str} {c : Nat} {m : Int} (h : c ∈ cl z) (hc : sgB c = false) : textB z m = false := by
  unfold textB
  have : (cl z).all sgB = false := by
    rw [Bool.eq_false_iff]
    intro q
    rw [List.all_eq_true.mp q c h] at hc
    cases hc
  rw [this, Bool.and_false]
theorem textB_long {z : Str} (h : 10 < z.length) : textB z 10 = false := by
  unfold textB
  rw [decide_eq_false (show ¬ ((z.length : Nat) : Int) ≤ 10 by omega)]
  rfl
section
variable {b l : Addr} {H H' : Hp} {v : V}
theorem NoT.kb (h : NoT H v) (B : BoxAt H b l) (x : KB b l H H') : NoT H' v := by
  rcases h with h | h | h | ⟨t, xs, e, h⟩
  · exact .inl h
  · exact .inr (.inl h)
  · exact .inr (.inr (.inl h))
  · obtain ⟨ns, st, e1, e2, _⟩ := B
    exact .inr (.inr (.inr ⟨t, xs, e, x _ _ h (fun z => by rw [z, e1] at h; cases h) fun z => by rw [z, e2] at h; cases h⟩))
theorem AnyC.kb (h : AnyC H v) (B : BoxAt H b l) (x : KB b l H H') : AnyC H' v := h.imp (fun z => z.kb B x) id
theorem BadC.kb (h : BadC H v) (B : BoxAt H b l) (x : KB b l H H') : BadC H' v := h.imp (fun z => z.kb B x) id
theorem BadC.any (h : BadC H v) : AnyC H v := h.imp id fun ⟨z, e, h, _⟩ => ⟨z, e, h⟩
/-- what is no row, beside the box -/
def BadRb (b l : Addr) (H : Hp) (v : V) : Prop := BadRv H v ∧ ∀ t xs, v = .ref t → H t = some (.lst xs) → t ≠ b ∧ t ≠ l
theorem BadRb.kb (h : BadRb b l H v) (B : BoxAt H b l) (x : KB b l H H') : BadRb b l H' v := by
  obtain ⟨h, q⟩ := h
  obtain ⟨ns, st, b1, b2, b3⟩ := id B
  have tp : ∀ {t : Addr} {xs : List V}, H t = some (.tup xs) → H' t = some (.tup xs) := fun {t xs} h => x _ _ h (fun z => by rw [z, b1] at h; cases h) fun z => by rw [z, b2] at h; cases h
  rcases h with h | ⟨i, h⟩ | ⟨z, h⟩ | ⟨t, xs, e, h⟩ | ⟨t, xs, e, h, q⟩
  · exact ⟨.inl h, fun t xs e => by rw [h] at e; cases e⟩
  · exact ⟨.inr (.inl ⟨i, h⟩), fun t xs e => by rw [h] at e; cases e⟩
  · exact ⟨.inr (.inr (.inl ⟨z, h⟩)), fun t xs e => by rw [h] at e; cases e⟩
  · obtain ⟨n1, n2⟩ := q t xs e h
    exact ⟨.inr (.inr (.inr (.inl ⟨t, xs, e, x _ _ h n1 n2⟩))), fun t2 ys e2 _ => by rw [e] at e2; cases e2; exact ⟨n1, n2⟩⟩
  · refine ⟨.inr (.inr (.inr (.inr ⟨t, xs, e, tp h, ?_⟩))), fun t2 ys e2 h2 => by rw [e] at e2; cases e2; rw [tp h] at h2; cases h2⟩
    rcases q with q | ⟨q1, q2, q3, u, q4, q5⟩
    · exact .inl q
    · exact .inr ⟨q1, q2, fun y hy => (q3 y hy).kb B x, u, q4, q5.kb B x⟩
end
section
variable {P : Program} {w : World} {K : PySem.W.Frag} {mg : Str → Option Value} {base : Heap} {cs : List (Addr × Addr)}
def spBadC : Sp := fun vs H Q _ => ∃ (b l : Addr), vs = [.ref b] ∧ BoxAt H b l ∧ ∀ (v : V) (H' : Hp), BoxAt H' b l → KB b l H H' → BadC H' v → Q v H'
abbrev nmBC : List Str := ["_law_box", "_law_way", "_law_many", "_law_text", "_law_place", "_law_k"]
theorem sc_BC : FnScope nmBC ["_law_box"] (defScope s_bad_cell) := ⟨rfl, rfl, rfl, by decide +kernel, rfl, by decide +kernel, by decide +kernel⟩
theorem abc7_len : (cl "abc 12-").length = 7 := by decide +kernel
theorem ok_badC {f gG : Addr} {fd fdG : FuncData} (T : Txt mg) (F : Fun K "_law_bad_cell" "_law_bad_cell" s_bad_cell f fd)
    (G : FnOk P w K mg base CX0 1 gG fdG ["_law_box", "_law_many"] spTakeW) (kG : PySem.W.keepIn K (.ref gG) = true) (bG : Binds K fdG ["_law_box", "_law_many"] []) (mG : mg "_law_take" = some (.ref gG)) : FnOk P w K mg base CX0 2 f fd ["_law_box"] spBadC := by
  refine F.ok sc_BC (fun vs H Q E h => ?_) (fun cdv A outer s H vs Q E hr h => ?_)
  · obtain ⟨b, l, rfl, _⟩ := h
    rfl
  · obtain ⟨b, l, rfl, hB, k⟩ := h
    have nd := sc_BC.nd
    have r1 : Room 1 _ := hr
    have szl : (9000 : Nat) < sizeLine := by decide
    refine ⟨_, (pss_cons (ps_par (i := 1) (j := 2) rfl nd rfl rfl (by decide) rfl rfl (pa_cons (pe_call G r1 (by rfl) mG kG bG .nil pass0 (pa_cons (pv 0) (pa_cons pe_int pa_nil))) (pa_cons (pe_call G r1 (by rfl) mG kG bG .nil pass0 (pa_cons (pv 0) (pa_cons pe_int pa_nil))) pa_nil)) (by rfl))
      (pss_cons (ps_set (i := 3) nd rfl (.inl rfl) (pe_join pe_str (pe_lc (own := [("_law_k", 5)]) (g := gName 5) (tt := tYes) rfl nd (pi_range1 (by rfl) T.range (pa_cons (pv 2) pa_nil)) (blkOk_by (own := [("_law_k", 5)]) (N := nmBC) (sc := defScope s_bad_cell) (by decide +kernel)) (fun _ _ _ _ _ => pg_name (i := 5) nd rfl (Or.inl rfl)) (fun _ _ _ _ _ => pts_nil) (fun s1 H1 C1 cl1 fp1 => (pe_ix ix_str pe_str (pe_call G r1 (by rfl) mG kG bG .nil pass0 (pa_cons (pv 0) (pa_cons pe_int pa_nil))) (fun _ _ => rfl))))))
      (pss_cons (ps_set (i := 4) nd rfl (.inl rfl) (pe_call G r1 (by rfl) mG kG bG .nil pass0 (pa_cons (pv 0) (pa_cons (pe_op op_add (pv 2) pe_int) pa_nil))))
      (pss_cons (ps_if (pt_cmpR op_lt (pv 1) pe_int (nomark _)) (pss_one (ps_ret (pe_op op_add_str (pe_op op_add_str (pe_slice sl_str (pv 3) po_none (po_some (pv 4))) (pe_ix ix_list (pe_lst (pa_cons pe_str (pa_cons pe_str (pa_cons pe_str pa_nil)))) (pv 1) (fun _ _ => rfl))) (pe_slice sl_str (pv 3) (po_some (pv 4)) po_none)))) pss_nil)
      (pss_cons (ps_if (pt_cmpR op_lt (pv 1) pe_int (nomark _)) (pss_one (ps_ret (pe_slice sl_str (pe_op op_add_str (pv 3) pe_str) po_none (po_some (pe_op op_add pe_int (pe_call G r1 (by rfl) mG kG bG .nil pass0 (pa_cons (pv 0) (pa_cons pe_int pa_nil)))))))) pss_nil)
      (pss_one (ps_ret (pe_ix ix_list (pe_lst (pa_cons pe_non (pa_cons pe_int (pa_cons (pe_tup (pa_cons pe_str pa_nil)) (pa_cons pe_bl (pa_cons (pe_tup pa_nil) pa_nil)))))) (pe_call G r1 (by rfl) mG kG bG .nil pass0 (pa_cons (pv 0) (pa_cons pe_int pa_nil))) (fun _ _ => rfl))))))))), ?_⟩
    refine ⟨_, rfl, b, l, 6, rfl, hB, by decide, by decide, fun way H1 w0 w1 hB1 x1 => ⟨_, rfl, b, l, 10, rfl, hB1, by decide, by decide, fun many H2 m0 m1 hB2 x2 => ⟨_, _, rfl, ?_⟩⟩⟩
    have x2 := x1.trans x2
    clear x1 hB1
    refine ⟨⟨_, rfl⟩, _, rfl, many, rfl, by omega, by omega, fun D nD => lc_range (n := many.toNat) (fun i H' => OnesAt b l H2 D i H') (OnesAt.start hB2 KB.refl nD hB2) ?_ ?_⟩
    · rintro i H4 hi o
      refine ⟨rfl, _, rfl, b, l, 7, rfl, o.box, by decide, by decide, fun r4 H5 a0 a1 hB5 x5 => ?_⟩
      obtain ⟨c, hc, ec⟩ := pick (xs := cl "abc 12-") (i := r4) a0 (by rw [abc7_len]; exact a1)
      obtain ⟨acc, hacc, hl, o2⟩ := o.more (c := c) (sg_of (z := "abc 12-") (by decide +kernel) c hc) hB5 x5
      exact ⟨_, r4, c, rfl, rfl, line10 (by decide +kernel), ec, acc, hacc, by omega, o2⟩
    rintro H3 o
    obtain ⟨ys, hD, q1, q2, jl⟩ := onesLen o
    refine ⟨_, D, ys, rfl, rfl, .inl (SqL.of hD), by rw [q1, emp_len]; omega, ?_⟩
    have x3 := x2.trans o.keep
    have hB3 := o.box
    clear o q1 q2 hD x2 hB2 nD
    generalize Txt.join "" ys = z at jl ⊢
    refine ⟨_, rfl, _, rfl, many, 1, rfl, rfl, b, l, _, rfl, hB3, by omega, by omega, fun pl H4 p0 p1 hB4 x4 => ?_⟩
    have x4 := x3.trans x4
    clear x3 hB3
    obtain ⟨pn, rfl⟩ := Int.eq_ofNat_of_zero_le p0
    by_cases w3 : way < 3
    · refine ⟨_, rfl, way, 3, rfl, rfl, true, dT w3, iteT ?_⟩
      refine ⟨_, rfl, _, rfl, _, rfl, z, rfl, by omega, by show 3 ≤ sizeLine; decide, fun q nq => ?_⟩
      obtain ⟨nb, nl⟩ := new_ne hB4 nq
      obtain ⟨s, hs, es⟩ := pick (xs := [("\t" : Str), "\n", "\n"]) (i := way) w0 (by show way < 3; exact w3)
      have hc : ∃ c ∈ cl s, sgB c = false := by
        simp only [List.mem_cons, List.not_mem_nil, or_false] at hs
        rcases hs with e | e | e <;> rw [e]
        · exact ⟨9, by decide +kernel, by decide +kernel⟩
        · exact ⟨10, by decide +kernel, by decide +kernel⟩
        · exact ⟨10, by decide +kernel, by decide +kernel⟩
      have sl : s.length = 1 := by
        simp only [List.mem_cons, List.not_mem_nil, or_false] at hs
        rcases hs with e | e | e <;> rw [e] <;> decide
      have l1 : (cutS z none (some ((pn : Nat) : Int))).length ≤ 9 := by rw [len_cl, cut_hi, List.length_take, ← len_cl]; omega
      have l2 : (cutS z (some ((pn : Nat) : Int)) none).length ≤ 9 := by rw [len_cl, cut_lo, List.length_drop, ← len_cl]; omega
      have la : ∀ x y : Str, (x ++ y).length = x.length + y.length := fun x y => by rw [len_cl, cl_app, List.length_append, ← len_cl, ← len_cl]
      refine ⟨_, rfl, q, _, _, .str s, rfl, rfl, SqL.of upd_same, atI_map (f := V.str) es, _, _, rfl, rfl, by rw [sl]; omega, _, rfl, _, rfl, _, rfl, z, rfl, by omega, _, _, rfl, rfl, by rw [la, sl]; omega, ?_⟩
      refine k _ _ (box_new hB4 nq) (x4.trans (kb_new nq)) (.inr ⟨_, rfl, by rw [la, la, sl]; omega, ?_⟩)
      obtain ⟨c, hc1, hc2⟩ := hc
      exact textB_bad (by rw [cl_app, cl_app]; exact List.mem_append_left _ (List.mem_append_right _ hc1)) hc2
    refine ⟨_, rfl, way, 3, rfl, rfl, false, dF w3, iteF ?_⟩
    by_cases w5 : way < 5
    · refine ⟨_, rfl, way, 5, rfl, rfl, true, dT w5, iteT ?_⟩
      have l11 : ("abcdefghijk" : Str).length = 11 := by decide
      have la : ∀ x y : Str, (x ++ y).length = x.length + y.length := fun x y => by rw [len_cl, cl_app, List.length_append, ← len_cl, ← len_cl]
      refine ⟨_, rfl, _, _, rfl, rfl, by omega, _, rfl, b, l, 9, rfl, hB4, by decide, by decide, fun u H5 u0 u1 hB5 x5 => ⟨11, u, rfl, rfl, _, rfl, _, rfl, by rw [la]; omega, ?_⟩⟩
      obtain ⟨un, rfl⟩ := Int.eq_ofNat_of_zero_le u0
      rw [show (11 : Int) + ((un : Nat) : Int) = ((11 + un : Nat) : Int) by omega]
      have ln : 11 ≤ (cutS (z ++ "abcdefghijk") none (some ((11 + un : Nat) : Int))).length ∧ (cutS (z ++ "abcdefghijk") none (some ((11 + un : Nat) : Int))).length ≤ 30 := by
        rw [len_cl, cut_hi, List.length_take, ← len_cl, la]
        omega
      exact k _ H5 hB5 (x4.trans x5) (.inr ⟨_, rfl, by omega, textB_long (by omega)⟩)
    refine ⟨_, rfl, way, 5, rfl, rfl, false, dF w5, iteF ?_⟩
    refine ⟨by show 1 ≤ sizeLine; decide, fun t1 n1 => ⟨small0, fun t2 n2 => ⟨by show 5 ≤ sizeLine; decide, fun q nq => ⟨_, rfl, b, l, 5, rfl, box_new (box_new (box_new hB4 n1) n2) nq, by decide, by decide, fun u H5 u0 u1 hB5 x5 => ?_⟩⟩⟩⟩
    have B1 := box_new (o := .tup [V.str "a"]) hB4 n1
    have B2 := box_new (o := .tup []) B1 n2
    obtain ⟨nb, nl⟩ := new_ne B2 nq
    have k1 : KB b l H (upd (upd (upd H4 t1 (.tup [V.str "a"])) t2 (.tup [])) q (.lst [V.non, .int 5, .ref t1, .bl true, .ref t2])) := ((x4.trans (kb_new n1)).trans (kb_new n2)).trans (kb_new nq)
    have hq := x5 q _ upd_same nb nl
    obtain ⟨v, hv, ev⟩ := pick (xs := ([.non, .int 5, .ref t1, .bl true, .ref t2] : List V)) (i := u) u0 u1
    refine ⟨q, _, _, v, rfl, rfl, SqL.of hq, ev, k v H5 hB5 (k1.trans x5) (.inl (NoT.kb ?_ (box_new B2 nq) x5))⟩
    have h1 : upd (upd (upd H4 t1 (.tup [V.str "a"])) t2 (.tup [])) q (.lst [V.non, .int 5, .ref t1, .bl true, .ref t2]) t1 = some (.tup [V.str "a"]) := by
      have e1 : upd H4 t1 (.tup [V.str "a"]) t1 = some (.tup [V.str "a"]) := upd_same
      have e2 : upd (upd H4 t1 (.tup [V.str "a"])) t2 (.tup []) t1 = some (.tup [V.str "a"]) := by rw [upd_ne (ne_of_none e1 n2)]; exact e1
      rw [upd_ne (ne_of_none e2 nq)]
      exact e2
    have h2 : upd (upd (upd H4 t1 (.tup [V.str "a"])) t2 (.tup [])) q (.lst [V.non, .int 5, .ref t1, .bl true, .ref t2]) t2 = some (.tup []) := by
      have e2 : upd (upd H4 t1 (.tup [V.str "a"])) t2 (.tup []) t2 = some (.tup []) := upd_same
      rw [upd_ne (ne_of_none e2 nq)]
      exact e2
    simp only [List.mem_cons, List.not_mem_nil, or_false] at hv
    rcases hv with e | e | e | e | e <;> rw [e]
    · exact .inl rfl
    · exact .inr (.inl ⟨_, rfl⟩)
    · exact .inr (.inr (.inr ⟨_, _, rfl, h1⟩))
    · exact .inr (.inr (.inl ⟨_, rfl⟩))
    · exact .inr (.inr (.inr ⟨_, _, rfl, h2⟩))
def spBadR (K : PySem.W.Frag) : Sp := fun vs H Q _ => ∃ (b l p : Addr) (r : List Str), vs = [.ref b, .ref p] ∧ BoxAt H b l ∧ H p = some (.tup (sV r)) ∧ RowOk r ∧ ∀ (v : V) (H' : Hp), BoxAt H' b l → KB b l H H' → BadRb b l H' v → Q v H'
abbrev nmBR : List Str := ["_law_box", "_law_row_here", "_law_way", "_law_k", "_law_some"]
theorem sc_BR : FnScope nmBR ["_law_box", "_law_row_here"] (defScope s_bad_row) := ⟨rfl, rfl, rfl, by decide +kernel, rfl, by decide +kernel, by decide +kernel⟩
theorem cutT_hi (xs : List V) (n : Nat) : cutV xs none (some ((n : Nat) : Int)) = xs.take n := by
  unfold cutV
  rw [HT.sIx_none, HT.sIx_nat]
  simp
theorem cutT_lo (xs : List V) (n : Nat) : cutV xs (some ((n : Nat) : Int)) none = xs.drop n := by
  unfold cutV
  rw [HT.sIx_none, HT.sIx_nat]
  by_cases h : n ≤ xs.length
  · rw [Nat.min_eq_left h, List.take_of_length_le]
    rw [List.length_drop]
    exact Nat.le_refl _
  · rw [Nat.min_eq_right (by omega), Nat.sub_self, List.take_zero, List.drop_eq_nil_of_le (by omega)]
theorem rep_len7 (xs : List V) : ∀ n, (List.replicate n xs).flatten.length = n * xs.length
  | 0 => by simp
  | n + 1 => by rw [List.replicate_succ, List.flatten_cons, List.length_append, rep_len7 xs n, Nat.succ_mul]; omega
theorem ok_badR {f gG gC : Addr} {fd fdG fdC : FuncData} (T : Txt mg) (F : Fun K "_law_bad_row" "_law_bad_row" s_bad_row f fd)
    (G : FnOk P w K mg base CX0 1 gG fdG ["_law_box", "_law_many"] spTakeW) (kG : PySem.W.keepIn K (.ref gG) = true) (bG : Binds K fdG ["_law_box", "_law_many"] []) (mG : mg "_law_take" = some (.ref gG))
    (C : FnOk P w K mg base CX0 2 gC fdC ["_law_box"] spBadC) (kC : PySem.W.keepIn K (.ref gC) = true) (bC : Binds K fdC ["_law_box"] []) (mC : mg "_law_bad_cell" = some (.ref gC)) : FnOk P w K mg base CX0 3 f fd ["_law_box", "_law_row_here"] (spBadR K) := by
  refine F.ok sc_BR (fun vs H Q E h => ?_) (fun cdv A outer s H vs Q E hr h => ?_)
  · obtain ⟨b, l, p, r, rfl, _⟩ := h
    rfl
  · obtain ⟨b, l, p, r, rfl, hB, hp, hR, k⟩ := h
    have nd := sc_BR.nd
    have r1 : Room 1 _ := hr.mono (by decide)
    have r2 : Room 2 _ := hr
    have szl : (9000 : Nat) < sizeLine := by decide
    refine ⟨_, (pss_cons (ps_par (i := 2) (j := 3) rfl nd rfl rfl (by decide) rfl rfl (pa_cons (pe_call G r1 (by rfl) mG kG bG .nil pass0 (pa_cons (pv 0) (pa_cons pe_int pa_nil))) (pa_cons (pe_call G r1 (by rfl) mG kG bG .nil pass0 (pa_cons (pv 0) (pa_cons (pe_callB call_len_seq (by rfl) T.len PySem.boot_len (pa_cons (pv 1) pa_nil)) pa_nil))) pa_nil)) (by rfl))
      (pss_cons (ps_if (pt_cmpR op_lt (pv 2) pe_int (nomark _)) (pss_one (ps_ret (pe_op op_catA (pe_op op_catA (pe_slice sl_tupA (pv 1) po_none (po_some (pv 3))) (pe_tup (pa_cons (pe_call C r2 (by rfl) mC kC bC .nil pass0 (pa_cons (pv 0) pa_nil)) pa_nil))) (pe_slice sl_tupA (pv 1) (po_some (pe_op op_add (pv 3) pe_int)) po_none)))) pss_nil)
      (pss_cons (ps_set (i := 4) nd rfl (.inl rfl) (pe_lst (pa_cons (pe_tup pa_nil) (pa_cons (pe_slice sl_tupA (pe_op op_repT (pv 1) pe_int) po_none (po_some (pe_op op_add pe_int (pe_call G r1 (by rfl) mG kG bG .nil pass0 (pa_cons (pv 0) (pa_cons pe_int pa_nil)))))) (pa_cons (pe_callTy call_list_of (by rfl) T.list (by decide +kernel) (pa_cons (pv 1) pa_nil)) (pa_cons pe_non (pa_cons pe_str (pa_cons pe_int (pa_cons (pe_ix ix_tup (pv 1) pe_int (fun _ _ => rfl)) pa_nil)))))))))
      (pss_one (ps_ret (pe_ix ix_list (pv 4) (pe_call G r1 (by rfl) mG kG bG .nil pass0 (pa_cons (pv 0) (pa_cons pe_int pa_nil))) (fun _ _ => rfl))))))), ?_⟩
    have h1 := hR.pos
    have h6 := hR.len
    have ll : (sV r).length = r.length := List.length_map ..
    have bx : ∀ {H1 : Hp} {t : Addr} {xs : List V}, BoxAt H1 b l → H1 t = some (.tup xs) → t ≠ b ∧ t ≠ l := fun B h => by
      obtain ⟨ns, st, e1, e2, _⟩ := B
      exact ⟨(fun z => by rw [z, e1] at h; cases h), fun z => by rw [z, e2] at h; cases h⟩
    obtain ⟨pb, pl⟩ := bx hB hp
    refine ⟨_, rfl, b, l, 6, rfl, hB, by decide, by decide, fun way H1 w0 w1 hB1 x1 => ⟨_, rfl, _, rfl, p, _, rfl, .inr (SqT.of (x1 _ _ hp pb pl)), b, l, _, rfl, hB1, by omega, by omega, fun kk H2 k0 k1 hB2 x2 => ⟨_, _, rfl, ?_⟩⟩⟩
    have x2 := x1.trans x2
    have hp2 := x2 _ _ hp pb pl
    clear x1 hB1
    obtain ⟨n, rfl⟩ := Int.eq_ofNat_of_zero_le k0
    have hn : n < r.length := by omega
    by_cases w3 : way < 3
    · refine ⟨_, rfl, way, 3, rfl, rfl, true, dT w3, iteT ?_⟩
      have s1 : HT.sIx (sV r).length (sV r).length (some ((n : Nat) : Int)) = n := by rw [HT.sIx_nat, ll]; omega
      refine ⟨_, rfl, _, rfl, _, rfl, p, _, rfl, SqT.of hp2, fun e => absurd e.2 (by rw [s1, ll]; omega), fun _ q1 n1 => ?_⟩
      rw [cutT_hi]
      have B1 := box_new (o := .tup ((sV r).take n)) hB2 n1
      have y1 := x2.trans (kb_new (b := b) (l := l) (o := .tup ((sV r).take n)) n1)
      have hq1 : upd H2 q1 (.tup ((sV r).take n)) q1 = some (.tup ((sV r).take n)) := upd_same
      generalize upd H2 q1 (.tup ((sV r).take n)) = H3 at B1 y1 hq1 ⊢
      refine ⟨_, rfl, b, l, rfl, B1, fun v H4 hB4 x4 hv => ⟨by show 1 ≤ sizeLine; decide, fun q2 n2 => ?_⟩⟩
      obtain ⟨qb, ql⟩ := bx B1 hq1
      have hq1 := x4 _ _ hq1 qb ql
      have y4 := y1.trans x4
      have B5 := box_new (o := .tup [v]) hB4 n2
      have hv := hv.kb hB4 (kb_new (o := .tup [v]) n2)
      have y5 := y4.trans (kb_new (b := b) (l := l) (o := .tup [v]) n2)
      have hq2 : upd H4 q2 (.tup [v]) q2 = some (.tup [v]) := upd_same
      have hq1 : upd H4 q2 (.tup [v]) q1 = some (.tup ((sV r).take n)) := by rw [upd_ne (ne_of_none hq1 n2)]; exact hq1
      generalize upd H4 q2 (.tup [v]) = H5 at B5 y5 hq1 hq2 hv ⊢
      have lt1 : ((sV r).take n).length = n := by rw [List.length_take, ll]; omega
      -- what is put together ahead
      have key : ∀ (q : Addr) (H6 : Hp), BoxAt H6 b l → KB b l H5 H6 → H6 q = some (.tup ((sV r).take n ++ [v])) → ∀ Z : VK, (∀ (u : Addr) (H7 : Hp), BoxAt H7 b l → KB b l H6 H7 → H7 u = some (.tup ((sV r).take n ++ [v] ++ (sV r).drop (n + 1))) → Z (.ref u) H7) →
          (fun σ H => ∃ x, (σ : L2.St)[1]? = some (some x) ∧ (∃ y, σ[3]? = some (some y) ∧ ∃ i j, y = V.int i ∧ V.int 1 = V.int j ∧ ∃ i', V.int (i + j) = V.int i' ∧ rSlA K x (some i') none H fun w H1 => rCatA K (.ref q) w H1 Z)) [some (.ref b), some (.ref p), some (.int way), some (.int (n : Nat)), none] H6 := by
        intro q H6 B6 x6 hq Z hZ
        have hp6 := x6 _ _ (y5 _ _ hp pb pl) pb pl
        refine ⟨_, rfl, _, rfl, _, _, rfl, rfl, _, rfl, p, _, rfl, SqT.of hp6, fun e => ?_, fun _ u nu => ?_⟩
        · have e1 := e.1
          rw [show ((n : Nat) : Int) + 1 = ((n + 1 : Nat) : Int) by omega, HT.sIx_nat, ll] at e1
          omega
        · rw [show ((n : Nat) : Int) + 1 = ((n + 1 : Nat) : Int) by omega, cutT_lo]
          have hq' : upd H6 u (.tup ((sV r).drop (n + 1))) q = some (.tup ((sV r).take n ++ [v])) := by rw [upd_ne (ne_of_none hq nu)]; exact hq
          have hu : upd H6 u (.tup ((sV r).drop (n + 1))) u = some (.tup ((sV r).drop (n + 1))) := upd_same
          have Bu := box_new (o := .tup ((sV r).drop (n + 1))) B6 nu
          have ku := kb_new (b := b) (l := l) (o := .tup ((sV r).drop (n + 1))) nu
          generalize upd H6 u (.tup ((sV r).drop (n + 1))) = H7 at hq' hu Bu ku ⊢
          refine ⟨q, u, _, _, rfl, rfl, SqT.of hq', SqT.of hu, by rw [List.length_append, lt1, List.length_drop, ll]; show n + 1 + (r.length - (n + 1)) ≤ sizeLine; omega, fun z => absurd z (by simp), fun _ z => ?_, fun _ _ u2 n2 => ?_⟩
          · refine hZ q H7 Bu ku ?_
            rw [z, List.append_nil]
            exact hq'
          · exact hZ u2 _ (box_new Bu n2) (ku.trans (kb_new n2)) upd_same
      have fin : ∀ (u : Addr) (H7 : Hp), BoxAt H7 b l → KB b l H5 H7 → H7 u = some (.tup ((sV r).take n ++ [v] ++ (sV r).drop (n + 1))) → Q (.ref u) H7 := fun u H7 B7 x7 hu => by
        refine k _ H7 B7 (y5.trans x7) ⟨.inr (.inr (.inr (.inr ⟨u, _, rfl, hu, .inr ⟨?_, ?_, fun x hx => ?_, v, ?_, hv.kb B5 x7⟩⟩))), fun t xs e h => ?_⟩
        · rw [List.length_append, List.length_append, lt1]
          show 1 ≤ n + 1 + _
          omega
        · rw [List.length_append, List.length_append, lt1, List.length_drop, ll]
          show n + 1 + (r.length - (n + 1)) ≤ 6
          omega
        · have mem : x ∈ sV r ∨ x = v := by
            rcases List.mem_append.mp hx with h | h
            · rcases List.mem_append.mp h with h | h
              · exact .inl (List.mem_of_mem_take h)
              · exact .inr (List.mem_singleton.mp h)
            · exact .inl (List.mem_of_mem_drop h)
          rcases mem with h | h
          · obtain ⟨z, hz, rfl⟩ := List.mem_map.mp h
            have := (hR.cells z hz).1
            exact .inr ⟨z, rfl, by omega⟩
          · rw [h]
            exact (hv.kb B5 x7).any
        · exact List.mem_append_left _ (List.mem_append_right _ (List.mem_singleton.mpr rfl))
        · cases e
          rw [hu] at h
          cases h
      refine ⟨q1, q2, _, _, rfl, rfl, SqT.of hq1, SqT.of hq2, by rw [lt1]; show n + 1 ≤ sizeLine; omega, fun e0 => ?_, fun _ z => absurd z (by simp), fun _ _ q3 n3 => ?_⟩
      · exact key q2 H5 B5 KB.refl (by rw [e0]; exact hq2) Q fun u H7 B7 x7 hu => fin u H7 B7 x7 hu
      · have B6 := box_new (o := .tup ((sV r).take n ++ [v])) B5 n3
        exact key q3 _ B6 (kb_new n3) upd_same Q fun u H7 B7 x7 hu => fin u H7 B7 ((kb_new n3).trans x7) hu
    refine ⟨_, rfl, way, 3, rfl, rfl, false, dF w3, iteF ?_⟩
    -- seven others
    refine ⟨small0, fun t0 n0 => ?_⟩
    have B3 := box_new (o := .tup []) hB2 n0
    have y3 := x2.trans (kb_new (b := b) (l := l) (o := .tup []) n0)
    have ht0 : upd H2 t0 (.tup []) t0 = some (.tup []) := upd_same
    generalize upd H2 t0 (.tup []) = H3 at B3 y3 ht0 ⊢
    refine ⟨_, rfl, p, 7, _, rfl, rfl, SqT.of (y3 _ _ hp pb pl), fun e => by rw [e] at ll; have : (0 : Nat) = r.length := ll; omega, by decide, by decide, by omega, fun t1 n1 => ?_⟩
    have l7 : (List.replicate (7 : Int).toNat (sV r)).flatten.length = 7 * r.length := by rw [rep_len7, ll]; rfl
    generalize (List.replicate (7 : Int).toNat (sV r)).flatten = ws at l7 ⊢
    have B4 := box_new (o := .tup ws) B3 n1
    have y4 := y3.trans (kb_new (b := b) (l := l) (o := .tup ws) n1)
    have ht1 : upd H3 t1 (.tup ws) t1 = some (.tup ws) := upd_same
    have ht0 : upd H3 t1 (.tup ws) t0 = some (.tup []) := by rw [upd_ne (ne_of_none ht0 n1)]; exact ht0
    generalize upd H3 t1 (.tup ws) = H4 at B4 y4 ht0 ht1 ⊢
    refine ⟨_, rfl, b, l, 3, rfl, B4, by decide, by decide, fun u H5 u0 u1 hB5 x5 => ⟨7, u, rfl, rfl, _, rfl, ?_⟩⟩
    obtain ⟨un, rfl⟩ := Int.eq_ofNat_of_zero_le u0
    obtain ⟨b0, l0⟩ := bx B4 ht0
    obtain ⟨b1, l1⟩ := bx B4 ht1
    have ht0 := x5 _ _ ht0 b0 l0
    have ht1 := x5 _ _ ht1 b1 l1
    have y5 := y4.trans x5
    clear x5 B4 y4
    have rest : ∀ (t2 : Addr) (us : List V) (H6 : Hp), BoxAt H6 b l → KB b l H5 H6 → H6 t2 = some (.tup us) → 7 ≤ us.length → us.length ≤ 42 → ∀ Z : Prop, (∀ (t3 : Addr) (H7 : Hp) (qq : Addr) (H8 : Hp), H6 t3 = none → H7 = upd H6 t3 (.lst (sV r)) → H7 qq = none → H8 = upd H7 qq (.lst [.ref t0, .ref t2, .ref t3, .non, .str "ab", .int 5, .str (r.getD 0 "")]) → ∀ (z : Int) (H9 : Hp), 0 ≤ z → z < 7 → BoxAt H9 b l → KB b l H8 H9 → ∃ v, atI [.ref t0, .ref t2, .ref t3, .non, .str "ab", .int 5, .str (r.getD 0 "")] z = some v ∧ H9 qq = some (.lst [.ref t0, .ref t2, .ref t3, .non, .str "ab", .int 5, .str (r.getD 0 "")]) ∧ Q v H9) := by
      intro t2 us H6 B6 x6 ht2 u7 u42 _ t3 H7 qq H8 n3 e7 nq e8 z H9 z0 z1 B9 x9
      have ht0 := x6 _ _ ht0 b0 l0
      obtain ⟨b2, l2⟩ := bx B6 ht2
      have B7 : BoxAt H7 b l := by rw [e7]; exact box_new B6 n3
      have k7 : KB b l H6 H7 := by rw [e7]; exact kb_new n3
      obtain ⟨b3, l3⟩ := new_ne B6 n3
      have h3 : H7 t3 = some (.lst (sV r)) := by rw [e7]; exact upd_same
      have B8 : BoxAt H8 b l := by rw [e8]; exact box_new B7 nq
      have k8 : KB b l H7 H8 := by rw [e8]; exact kb_new nq
      obtain ⟨b8, l8⟩ := new_ne B7 nq
      have hq : H8 qq = some (.lst [.ref t0, .ref t2, .ref t3, .non, .str "ab", .int 5, .str (r.getD 0 "")]) := by rw [e8]; exact upd_same
      have kk := (k7.trans k8).trans x9
      have g0 := kk _ _ ht0 b0 l0
      have g2 := kk _ _ ht2 b2 l2
      have g3 := (k8.trans x9) _ _ h3 b3 l3
      obtain ⟨v, hv, ev⟩ := pick (xs := ([.ref t0, .ref t2, .ref t3, .non, .str "ab", .int 5, .str (r.getD 0 "")] : List V)) (i := z) z0 z1
      refine ⟨v, ev, x9 _ _ hq b8 l8, k v H9 B9 ((y5.trans x6).trans kk) ?_⟩
      simp only [List.mem_cons, List.not_mem_nil, or_false] at hv
      rcases hv with e | e | e | e | e | e | e <;> rw [e]
      · exact ⟨.inr (.inr (.inr (.inr ⟨_, _, rfl, g0, .inl (.inl rfl)⟩))), fun t xs e h => by cases e; rw [g0] at h; cases h⟩
      · exact ⟨.inr (.inr (.inr (.inr ⟨_, _, rfl, g2, .inl (.inr ⟨by omega, by omega⟩)⟩))), fun t xs e h => by cases e; rw [g2] at h; cases h⟩
      · exact ⟨.inr (.inr (.inr (.inl ⟨_, _, rfl, g3⟩))), fun t xs e h => by cases e; exact ⟨b3, l3⟩⟩
      · exact ⟨.inl rfl, fun t xs e h => nomatch e⟩
      · exact ⟨.inr (.inr (.inl ⟨_, rfl⟩)), fun t xs e h => nomatch e⟩
      · exact ⟨.inr (.inl ⟨_, rfl⟩), fun t xs e h => nomatch e⟩
      · exact ⟨.inr (.inr (.inl ⟨_, rfl⟩)), fun t xs e h => nomatch e⟩
    have go : ∀ (t2 : Addr) (us : List V) (H6 : Hp), BoxAt H6 b l → KB b l H5 H6 → H6 t2 = some (.tup us) → 7 ≤ us.length → us.length ≤ 42 → _ := fun t2 us H6 B6 x6 ht2 u7 u42 => rest t2 us H6 B6 x6 ht2 u7 u42 True
    have r0 : (sV r)[0]? = some (.str (r.getD 0 "")) := by
      rw [List.getElem?_map, List.getElem?_eq_getElem (by omega), List.getD_eq_getElem?_getD, List.getElem?_eq_getElem (by omega)]
      rfl
    refine ⟨t1, ws, rfl, SqT.of ht1, fun e => ?_, fun ne t2 n2 => ?_⟩
    · have G := go t1 ws H5 hB5 KB.refl ht1 (by omega) (by omega)
      refine ⟨_, rfl, p, _, rfl, .inr (SqT.of (y5 _ _ hp pb pl)), fun t3 n3 => ⟨_, rfl, p, _, 0, .str (r.getD 0 ""), rfl, rfl, SqT.of (by rw [upd_ne (ne_of_none (y5 _ _ hp pb pl) n3)]; exact y5 _ _ hp pb pl), atI_nat r0, by show 7 ≤ sizeLine; decide, fun qq nq => ⟨_, rfl, _, rfl, b, l, 7, rfl, box_new (box_new hB5 n3) nq, by decide, by decide, fun z H9 z0 z1 hB9 x9 => ?_⟩⟩⟩
      obtain ⟨v, ev, hq, kv⟩ := G t3 _ qq _ n3 rfl nq rfl z H9 z0 z1 hB9 x9
      exact ⟨qq, _, _, v, rfl, rfl, SqL.of hq, ev, kv⟩
    · have lc : (cutV ws none (some (7 + ((un : Nat) : Int)))).length = min (7 + un) (7 * r.length) := by rw [show (7 : Int) + ((un : Nat) : Int) = ((7 + un : Nat) : Int) by omega, cutT_hi, List.length_take, l7]
      generalize cutV ws none (some (7 + ((un : Nat) : Int))) = us at lc ⊢
      have hp5 := y5 _ _ hp pb pl
      have hp6 : upd H5 t2 (.tup us) p = some (.tup (sV r)) := by rw [upd_ne (ne_of_none hp5 n2)]; exact hp5
      have B6 := box_new (o := .tup us) hB5 n2
      have G := go t2 us (upd H5 t2 (.tup us)) B6 (kb_new n2) upd_same (by omega) (by omega)
      generalize upd H5 t2 (.tup us) = H6 at hp6 B6 G ⊢
      refine ⟨_, rfl, p, _, rfl, .inr (SqT.of hp6), fun t3 n3 => ⟨_, rfl, p, _, 0, .str (r.getD 0 ""), rfl, rfl, SqT.of (by rw [upd_ne (ne_of_none hp6 n3)]; exact hp6), atI_nat r0, by show 7 ≤ sizeLine; decide, fun qq nq => ⟨_, rfl, _, rfl, b, l, 7, rfl, box_new (box_new B6 n3) nq, by decide, by decide, fun z H9 z0 z1 hB9 x9 => ?_⟩⟩⟩
      obtain ⟨v, ev, hq, kv⟩ := G t3 _ qq _ n3 rfl nq rfl z H9 z0 z1 hB9 x9
      exact ⟨qq, _, _, v, rfl, rfl, SqL.of hq, ev, kv⟩
end
end TGK

namespace TG
open PySem PySem.Spec PyProof.Rows L2 NdefX GenW Gx Lv
section
variable {P : Program} {w : World} {K : PySem.W.Frag} {mg : Str → Option Value} {base : Heap} {cs : List (Addr × Addr)}
theorem ex_code {H H' : Hp} {c : Addr} {q : Str} (x : Ex cs H H') (h : H c = some (LamX.CodeO c q)) : H' c = some (LamX.CodeO c q) := x.ext _ _ h fun ps => LamX.codeO_ne ps
/-- the lambdas' table at p is no table of cs -/
abbrev Apart (cs : List (Addr × Addr)) (p : Addr) : Prop := ∀ q ∈ cs, q.2 ≠ p
theorem tabS_ex {H H' : Hp} {p : Addr} {q : Str} (x : Ex cs H H') (ne : Apart cs p) (t : LamX.TabS H p q) : LamX.TabS H' p q := by
  obtain ⟨ps, h1, h2, h3⟩ := t
  refine ⟨ps, x.oth _ _ h1 ne, h2, fun pos cv hc => ?_⟩
  obtain ⟨c, e1, e2⟩ := h3 pos cv hc
  exact ⟨c, e1, ex_code x e2⟩
theorem tabG_of {H : Hp} {p : Addr} {q : Str} (t : LamX.TabS H p q) : GxR.TabG H p := by
  obtain ⟨ps, h1, h2, _⟩ := t
  exact ⟨ps, h1, h2⟩
theorem tabs_more {H : Hp} {c p : Addr} {q : Str} (T : Tabs cs H) (t : LamX.TabS H p q) : Tabs ((c, p) :: cs) H := fun r hr => by
  rcases List.mem_cons.mp hr with z | z
  · rw [z]; exact tabG_of t
  · exact T r z
theorem tabs_less {H : Hp} {c p : Addr} (T : Tabs ((c, p) :: cs) H) : Tabs cs H := fun r hr => T r (List.mem_cons_of_mem _ hr)
theorem ex_lam {H H' : Hp} {c p : Addr} {q : Str} (T : Tabs cs H) (ne : Apart cs p) (t : LamX.TabS H p q) (k1 : ∀ b o, H b = some o → b ≠ p → H' b = some o) (k2 : ∀ b, H' b = none → H b = none) (t' : LamX.TabS H' p q) : Ex ((c, p) :: cs) H H' := by
  obtain ⟨ps, h1, _⟩ := t
  refine ⟨fun b o h n => k1 b o h fun z => ?_, tabs_more (fun r hr => ?_) t', k2, fun b o h m => k1 b o h fun z => m (c, p) List.mem_cons_self z.symm⟩
  · rw [z, h1] at h
    cases h
    exact n ps rfl
  · obtain ⟨ps2, h3, h4⟩ := T r hr
    exact ⟨ps2, k1 _ _ h3 (ne r hr), h4⟩
end
end TG

namespace TG
open PySem PySem.Spec PyProof.Rows L2 NdefX GenW Gx Lv
/-! ### a def whose lambdas live on: at its return the cells are told of -/
abbrev TSC := (L2.St → V → Hp → Prop) → L2.St → Hp → Prop
structure PSsC (X : Cx) (st : List Stmt) (t : TSC) : Prop where
  run : ∀ (pins : List (Addr × Obj)) (s : Shared) (σ : L2.St) (H : Hp) (R : L2.St → V → Hp → Prop), Inv X pins σ H s → t R σ H →
    wpAny (model X.prog X.w) X.A (execs st X.env) (fun f s' => ∃ (u : Value) (v : V) (σ' : L2.St) (H' : Hp), f = Flow.ret u ∧ Inv X pins σ' H' s' ∧ RelV v u ∧ R σ' v H') X.xe s
def tSeqC (t : TS) (u : TSC) : TSC := fun R σ H => t { nx := u R, rt := fun _ _ => False } σ H
def tRetC (te : TE) : TSC := fun R σ H => te σ H fun v H1 => R σ v H1
section
variable {X : Cx} {st : Stmt} {rest : List Stmt} {t : TS} {u : TSC} {e : Expr} {te : TE} {pos : Pos}
theorem psc_cons (h1 : PS X st t) (h2 : PSsC X rest u) : PSsC X (st :: rest) (tSeqC t u) := by
  refine ⟨fun pins s σ H R I h => ?_⟩
  refine wpAny_execs_cons (thn (h1.run pins s σ H _ I h) fun f s1 q => ?_)
  cases f with
  | next =>
    obtain ⟨σ', H', I', q⟩ := q
    exact h2.run pins s1 σ' H' R I' q
  | ret v =>
    obtain ⟨_, _, _, _, _, q⟩ := q
    exact q.elim
  | brk =>
    obtain ⟨_, _, _, q⟩ := q
    exact q.elim
  | cont =>
    obtain ⟨_, _, _, q⟩ := q
    exact q.elim
theorem psc_ret (he : PE X e te) : PSsC X [.Return (some e) pos] (tRetC te) := by
  refine ⟨fun pins s σ H R I h => ?_⟩
  refine wpAny_execs_cons (thn (Q := fun f s' => ∃ (u : Value) (v : V) (σ' : L2.St) (H' : Hp), f = Flow.ret u ∧ Inv X pins σ' H' s' ∧ RelV v u ∧ R σ' v H') (wpAny_Return_some (thn (he.run pins s σ H _ I h) fun v s1 ⟨x, H1, I1, r1, q1⟩ => ⟨v, x, σ, H1, rfl, I1, r1, q1⟩)) fun f s1 q => ?_)
  obtain ⟨u, v, σ', H', rfl, q⟩ := q
  exact ⟨u, v, σ', H', rfl, q⟩
end
theorem PSsC.nox {X : Cx} {st : List Stmt} {t : TSC} (h : PSsC X.nox st t) : PSsC X st t := ⟨fun pins s σ H R I hw =>
  wpAny_mono (h.run pins s σ H R (I.wish _) hw) (fun f s' ⟨u, v, σ', H', e, J, r, q⟩ => ⟨u, v, σ', H', e, J.unwish, r, q⟩) fun _ _ z => False.elim z⟩
theorem fun_okC {P : Program} {w : World} {K : PySem.W.Frag} {mg : Str → Option Value} {base : Heap} {x qual : Str} {st : Stmt} {f c : Addr} {fd : FuncData} {N ps : List Str} {k : Nat} {sp : Sp} (names : List Str) (F : Fun K x qual st f fd) (hc : fd.code = .ref c) (S : FnScope N ps (defScope st)) (len : ∀ vs H Q E, sp vs H Q E → vs.length = ps.length)
    (hnm : ∀ y ∈ names, (defScope st).names.lookup y = some .cell)
    (hbody : ∀ (A : Around) (outer : List Env) (s : Shared) (H : Hp) (vs : List V) (Q : VK) (E : XK), Room k (A.deeper (envOfC qual (defScope st) s.heap.objs.size f (.ref c))) → sp vs H Q E →
      ∃ t, PSsC (cxOf CX0 P w K mg base N qual (defScope st) f (.ref c) A outer s H E).nox (defBody st) t ∧
        t (fun σ v H' => ∀ cl, ToldC (cxOf CX0 P w K mg base N qual (defScope st) f (.ref c) A outer s H E).nox.env.cells N names σ cl → (∀ c o, cl.lookup c = some o → H' c = none) → Q v (addC H' cl)) (start N vs) H) : FnOk P w K mg base CX0 (k + 1) f fd ps sp := by
  obtain ⟨oc, od, kV, doc, pm, an, cdv, ct, osl, rfl, lk, hcd⟩ := F.ex
  have e : cdv = .ref c := hc
  subst e
  refine ⟨len, fun A outer s H args us vs Q E hr e0 hb r hsp => ?_⟩
  have hl := len _ _ _ _ hsp
  have KX : K.In s.heap := e0.mod.kin.keeps fun b o e => (e0.bs b o e).1
  have lim : s.heap.NoLimit := e0.mod.nolimit.keeps fun b o e => (e0.bs b o e).1
  have hkind : ∀ y ∈ ps.zip us, (defScope st).names.lookup y.1 = some .local ∨ ((defScope st).names.lookup y.1 = some .cell ∧ ((cellsFrom (s.heap.objs.size + 1) (defScope st).names []).lookup y.1).isSome = true) := fun ⟨n, v⟩ hy => by
    rcases S.par n (List.of_mem_zip hy).1 with q | q
    · exact .inl q
    · exact .inr ⟨q, PySem.W.cellsFrom_some _ _ _ (.inl q)⟩
  refine codeAny_call_function hr.depth (KX _ _ lk) rfl S.co S.gen rfl (PySem.W.codeRec_of KX hcd) (hb _ _ _ _ ?_)
  refine wpAny_newFunctionEnv_cells S.kind hkind fun env he s1 x => ?_
  subst he
  refine ⟨lim.keeps x.toInCall.keep, codeAny_func ?_⟩
  obtain ⟨t, ht, hq⟩ := hbody A outer s H vs Q E (hr.deeper _) hsp
  have I : Inv (cxOf CX0 P w K mg base N qual (defScope st) f (.ref c) A outer s H E) [] (start N vs) H s1 := inv_start S hr.hd e0 hl r x
  refine wpAny_mono (ht.nox.run [] s1 (start N vs) H _ I hq) (fun fl s' hs => ?_) fun e s' hs => hs
  obtain ⟨u, v, σ', H', rfl, J, rv, q⟩ := hs
  have has : ∀ y ∈ names, ∃ c' v, (cxOf CX0 P w K mg base N qual (defScope st) f (.ref c) A outer s H E).env.cells.lookup y = some c' ∧ s'.heap.IsCell c' v := fun y hy => by
    obtain ⟨c', hc'⟩ := J.ok.has y (.inl (hnm y hy))
    obtain ⟨v, hv⟩ := J.cell y c' hc'
    exact ⟨c', v, hc', hv⟩
  obtain ⟨cl, c1, c2⟩ := cells_list names has
  have un : ∀ a o, cl.lookup a = some o → H' a = none := fun a o e => by
    obtain ⟨_, y, _, hc'⟩ := c1 a o e
    exact J.freeC y a hc'
  have ge : ∀ a o, cl.lookup a = some o → s.heap.get? a = none := fun a o e => by
    obtain ⟨_, y, hy, hc'⟩ := c1 a o e
    have g := J.ok.cab y a rfl hc'
    cases z : s.heap.get? a with
    | none => rfl
    | some u => exact absurd (Nat.lt_of_lt_of_le (Heap.lt_size z) g) (Nat.lt_irrefl _)
  have T : ToldC (cxOf CX0 P w K mg base N qual (defScope st) f (.ref c) A outer s H E).nox.env.cells N names σ' cl := by
    refine ⟨fun y hy => ?_, fun y hy c' o hc' ho i v hN hs => ?_, J.ok.inj⟩
    · obtain ⟨c', hc'⟩ := J.ok.has y (.inl (hnm y hy))
      obtain ⟨v, o2, q1, q2⟩ := J.cell y c' hc'
      obtain ⟨o, ho⟩ := c2 y hy c' hc'
      have z := (c1 c' o ho).1
      rw [q1] at z
      cases z
      exact ⟨c', _, v, hc', ho, q2⟩
    · obtain ⟨m, hn, loc⟩ := J.loc
      obtain ⟨u, ru, lk⟩ := loc i y v hN hs (.inr (.inl (hnm y hy)))
      rcases lk with ⟨z, _⟩ | ⟨_, c2', hc2', o2, q1, q2⟩
      · have z : (defScope st).names.lookup y = some .local := z
        rw [hnm y hy] at z; cases z
      · have hc3 : (cxOf CX0 P w K mg base N qual (defScope st) f (.ref c) A outer s H E).env.cells.lookup y = some c' := hc'
        rw [hc3] at hc2'
        cases hc2'
        have z := (c1 c' o ho).1
        rw [q1] at z
        cases z
        exact ⟨u, q2, ru⟩
  have b0 := J.base
  refine ⟨v, addC H' cl, J.os, J.bare, ⟨b0.keep, b0.slot, fun b o hb nb hx => ?_, b0.there, fun b xs hb => ?_, fun b o u hb => ?_, fun b ps hb => ?_⟩, hok_add J.hok fun a o e => ⟨un a o e, (c1 a o e).1⟩, rv, q cl T un⟩
  · cases r : cl.lookup b with
    | some v =>
      have := ge b v r
      rw [hb] at this
      cases this
    | none => rw [addC_out r]; exact b0.free b o hb nb hx
  · have h := b0.tups b xs hb
    cases r : cl.lookup b with
    | some v => rw [un b v r] at h; cases h
    | none => rw [addC_out r]; exact h
  · have h := b0.frzs b o u hb
    cases r : cl.lookup b with
    | some v => rw [un b v r] at h; cases h
    | none => rw [addC_out r]; exact h
  · obtain ⟨more, h⟩ := b0.tbls b ps hb
    cases r : cl.lookup b with
    | some v => rw [un b v r] at h; cases h
    | none => exact ⟨more, by rw [addC_out r]; exact h⟩
end TG

namespace TGK
open TG
open PySem PySem.Spec PyProof.Rows L2 NdefX GenW Gx Lv Dl EnT
/-! ### places that are none -/
def HalfBad (R C : Addr) (rows : List (List Str)) (v u p : V) (c : Addr) : Prop := (NoWh 0 ((rows.length : Nat) - 1) v ∧ c = R) ∨ ∃ n : Nat, v = .int (n : Nat) ∧ n < rows.length ∧ ((NoWh 0 (((rowN rows n).length : Nat) - 1) u ∧ c = C) ∨ ∃ k : Nat, u = .int (k : Nat) ∧ k < (rowN rows n).length ∧ NoWh 0 ((((rowN rows n).getD k nilS).length : Nat) : Int) p ∧ c = C)
/-! ### signs that are none -/
def BadSgH (H : Hp) (v : V) : Prop := v = .non ∨ v = .int 5 ∨ (∃ t, v = .ref t ∧ H t = some (.tup [.str "a"])) ∨ ∃ z ∈ (["", "ab", "\n", "\t\t"] : List Str), v = .str z
theorem BadSgH.gw {H H' : Hp} {v : V} (h : BadSgH H v) (x : LamX.ExtN H H') : BadSgH H' v := by
  rcases h with h | h | ⟨t, e, h⟩ | h
  · exact .inl h
  · exact .inr (.inl h)
  · exact .inr (.inr (.inl ⟨t, e, x _ _ h fun ps z => nomatch z⟩))
  · exact .inr (.inr (.inr h))
section
variable {P : Program} {w : World} {K : PySem.W.Frag} {mg : Str → Option Value} {base : Heap} {cs : List (Addr × Addr)} {S R C G : Addr}
def spHalfX (K : PySem.W.Frag) (R C : Addr) : Sp := fun vs H _ E => ∃ (rl : Addr) (as : List Addr) (rows : List (List Str)) (v u p : V) (c : Addr), vs = [.ref rl, v, u, p] ∧ PageAt K H rl as rows ∧ PgOk rows ∧ HalfBad R C rows v u p c ∧ E (.ref c) none H
theorem ok_halfX {f g1 g2 : Addr} {fd fd1 fd2 : FuncData} (T : Txt mg) (Er : SErr K mg R C G) (F : Fun K "halves" "halves" s_halves f fd)
    (G1 : FnOk P w K mg base CX0 2 g1 fd1 ["number", "last"] spNum0) (G1X : FnOk P w K mg base (L2.CX P w) 2 g1 fd1 ["number", "last"] (spNumN R)) (k1 : PySem.W.keepIn K (.ref g1) = true) (b1 : Binds K fd1 ["number", "last"] []) (m1 : mg "check_number" = some (.ref g1))
    (G2 : FnOk P w K mg base CX0 1 g2 fd2 ["value", "low", "high"] spWhole) (G2N : FnOk P w K mg base CX0 1 g2 fd2 ["value", "low", "high"] spWholeN) (k2 : PySem.W.keepIn K (.ref g2) = true) (b2 : Binds K fd2 ["value", "low", "high"] []) (m2 : mg "is_whole" = some (.ref g2)) : FnOk P w K mg base (L2.CX P w) 3 f fd ["rows", "number", "cell", "place"] (spHalfX K R C) := by
  refine F.okX sc_half (fun vs H Q E h => ?_) (fun cdv A outer s H vs Q E hr h => ?_)
  · obtain ⟨rl, as, rows, v, u, p, c, rfl, _⟩ := h
    rfl
  · obtain ⟨rl, as, rows, v, u, p, c, rfl, hP, hO, hb, k⟩ := h
    have nd := sc_half.nd
    have r1 : Room 1 _ := hr.mono (by decide)
    have la : (as.map V.ref).length = rows.length := by rw [List.length_map, hP.len]
    rcases hb with ⟨hv, rfl⟩ | ⟨n, rfl, hn, hb⟩
    · refine ⟨_, pss_cons (ps_expr (pe_callS G1X hr (by rfl) m1 k1 b1 (fun σ => passAt (takes_of rfl rfl rfl rfl) σ) (pa_cons (pv 1) (pa_cons (pe_op op_sub (pe_callB call_len_seq (by rfl) T.len PySem.boot_len (pa_cons (pv 0) pa_nil)) pe_int) pa_nil)))) pss_never, ?_⟩
      refine ⟨_, rfl, _, rfl, rl, _, rfl, .inl hP.lst, _, _, rfl, rfl, v, _, rfl, ?_, k⟩
      rw [la]
      exact hv
    have hR := rowN_ok hO hn
    have hrn := rowN_get hn
    generalize rowN rows n = r at *
    have lr : (sV r).length = r.length := List.length_map ..
    obtain ⟨q0, hq0⟩ := getP (xs := as) (i := n) (by rw [hP.len]; exact hn)
    have hq := hP.row n q0 r hq0 hrn
    have h6 := hR.len
    rcases hb with ⟨hu, rfl⟩ | ⟨m, rfl, hm, hp, rfl⟩
    · refine ⟨_, pss_cons (ps_expr (pe_call G1 hr (by rfl) m1 k1 b1 .nil pass0 (pa_cons (pv 1) (pa_cons (pe_op op_sub (pe_callB call_len_seq (by rfl) T.len PySem.boot_len (pa_cons (pv 0) pa_nil)) pe_int) pa_nil))))
        (pss_cons (ps_set (i := 4) nd rfl (.inl rfl) (pe_ix ix_list (pv 0) (pv 1) (fun _ _ => rfl)))
        (pss_cons (ps_if (pt_not (pt_val (pe_call G2N r1 (by rfl) m2 k2 b2 .nil pass0 (pa_cons (pv 2) (pa_cons pe_int (pa_cons (pe_op op_sub (pe_callB call_len_seq (by rfl) T.len PySem.boot_len (pa_cons (pv 4) pa_nil)) pe_int) pa_nil)))))) (pss_one (ps_raise rfl (takes_of rfl rfl rfl rfl) (pmk_own PySem.F.excBase_ValueError Er.cell.exc Er.cell.mg_ Er.cell.kp (raises_own Er.cell.sub Er.cell.ty) rfl))) pss_nil) pss_never)), ?_⟩
      refine ⟨_, rfl, _, rfl, rl, _, rfl, .inl hP.lst, _, _, rfl, rfl, _, _, rfl, by omega, by omega, ?_⟩
      refine ⟨_, rfl, _, rfl, rl, _, _, .ref q0, rfl, rfl, hP.lst, atI_nat (by rw [List.getElem?_map, hq0]; rfl), ?_⟩
      refine ⟨_, rfl, _, rfl, q0, _, rfl, .inr hq, _, _, rfl, rfl, u, 0, _, rfl, ?_, false, rfl, iteT k⟩
      rw [lr]
      exact hu
    · have hz := hR.cells _ (getD_mem hm)
      have szl : (1000 : Nat) < sizeLine := by decide
      refine ⟨_, pss_cons (ps_expr (pe_call G1 hr (by rfl) m1 k1 b1 .nil pass0 (pa_cons (pv 1) (pa_cons (pe_op op_sub (pe_callB call_len_seq (by rfl) T.len PySem.boot_len (pa_cons (pv 0) pa_nil)) pe_int) pa_nil))))
        (pss_cons (ps_set (i := 4) nd rfl (.inl rfl) (pe_ix ix_list (pv 0) (pv 1) (fun _ _ => rfl)))
        (pss_cons (ps_if (pt_not (pt_val (pe_call G2 r1 (by rfl) m2 k2 b2 .nil pass0 (pa_cons (pv 2) (pa_cons pe_int (pa_cons (pe_op op_sub (pe_callB call_len_seq (by rfl) T.len PySem.boot_len (pa_cons (pv 4) pa_nil)) pe_int) pa_nil)))))) (pss_one ps_never) pss_nil)
        (pss_cons (ps_set (i := 5) nd rfl (.inl rfl) (pe_ix ix_tup (pv 4) (pv 2) (fun _ _ => rfl)))
        (pss_cons (ps_if (pt_not (pt_val (pe_call G2N r1 (by rfl) m2 k2 b2 .nil pass0 (pa_cons (pv 3) (pa_cons pe_int (pa_cons (pe_callB call_len_str (by rfl) T.len PySem.boot_len (pa_cons (pv 5) pa_nil)) pa_nil)))))) (pss_one (ps_raise rfl (takes_of rfl rfl rfl rfl) (pmk_own PySem.F.excBase_ValueError Er.cell.exc Er.cell.mg_ Er.cell.kp (raises_own Er.cell.sub Er.cell.ty) rfl))) pss_nil) pss_never)))), ?_⟩
      refine ⟨_, rfl, _, rfl, rl, _, rfl, .inl hP.lst, _, _, rfl, rfl, _, _, rfl, by omega, by omega, ?_⟩
      refine ⟨_, rfl, _, rfl, rl, _, _, .ref q0, rfl, rfl, hP.lst, atI_nat (by rw [List.getElem?_map, hq0]; rfl), ?_⟩
      refine ⟨_, rfl, _, rfl, q0, _, rfl, .inr hq, _, _, rfl, rfl, _, 0, _, rfl, by omega, by omega, true, rfl, iteF ?_⟩
      refine ⟨_, rfl, _, rfl, q0, _, _, _, rfl, rfl, hq, atZ hm, ?_⟩
      exact ⟨_, rfl, _, rfl, _, rfl, by have := hz.len; omega, p, 0, _, rfl, hp, false, rfl, iteT k⟩
theorem Dp_sg {H : Hp} {v : V} (h : BadSgH H v) : ∃ d, Dp K H v d ∧ SeqAt.shaped d = true ∧ PyData.eqv d (.str tabS) = false := by
  rcases h with rfl | rfl | ⟨t, rfl, h⟩ | ⟨z, hz, rfl⟩
  · exact ⟨_, .non, by decide, by decide +kernel⟩
  · exact ⟨_, .int 5, by decide, by decide +kernel⟩
  · exact ⟨.tuple [.str "a"], .tup (SqT.of h) (.cons (.str _) .nil), by decide +kernel, by decide +kernel⟩
  · refine ⟨_, .str z, ?_, ?_⟩
    · simp only [List.mem_cons, List.not_mem_nil, or_false] at hz
      rcases hz with rfl | rfl | rfl | rfl <;> decide +kernel
    · simp only [List.mem_cons, List.not_mem_nil, or_false] at hz
      rcases hz with rfl | rfl | rfl | rfl <;> decide +kernel
def spFilledH (cs : List (Addr × Addr)) : Sp := fun vs H Q _ => ∃ (v : V), vs = [v, .int 1] ∧ Tabs cs H ∧ BadSgH H v ∧ ∀ H', Ex cs H H' → Q (.bl false) H'
theorem ok_filledH {f g : Addr} {fd fdg : FuncData} (F : Fun K "is_filled" "is_filled" s_filled f fd)
    (W : FnOk P w K mg base CX0 5 g fdg ["value", "most"] (spText2 K cs)) (kp : PySem.W.keepIn K (.ref g) = true) (bd : Binds K fdg ["value", "most"] []) (mgg : mg "is_text_of_signs" = some (.ref g)) : FnOk P w K mg base CX0 6 f fd ["value", "most"] (spFilledH cs) := by
  refine F.ok sc_filled (fun vs H Q E h => ?_) (fun cdv A outer s H vs Q E hr h => ?_)
  · obtain ⟨z, rfl, _⟩ := h
    rfl
  · obtain ⟨v, rfl, hT, hb, k⟩ := h
    refine ⟨_, pss_one (ps_ret (pe_and (pe_call W hr (by rfl) mgg kp bd .nil pass0 (pa_cons (pv 0) (pa_cons (pv 1) pa_nil))) (pe_one (pe_cmpR op_ne (pv 0) pe_str (nomark _))))), ?_⟩
    rcases hb with rfl | rfl | ⟨t, rfl, ht⟩ | ⟨z, hz, rfl⟩
    · exact ⟨_, rfl, _, rfl, .non, 1, false, rfl, hT, .inl ⟨⟨_, .base .non, by decide +kernel⟩, rfl⟩, fun H1 x1 => ⟨false, rfl, iteF (k H1 x1)⟩⟩
    · exact ⟨_, rfl, _, rfl, .int 5, 1, false, rfl, hT, .inl ⟨⟨_, .base (.int 5), by decide +kernel⟩, rfl⟩, fun H1 x1 => ⟨false, rfl, iteF (k H1 x1)⟩⟩
    · exact ⟨_, rfl, _, rfl, .ref t, 1, false, rfl, hT, .inl ⟨⟨_, .base (.tup ht), by decide +kernel⟩, rfl⟩, fun H1 x1 => ⟨false, rfl, iteF (k H1 x1)⟩⟩
    · have key : textB z 1 = false ∨ (textB z 1 = true ∧ z = ("" : Str)) := by
        simp only [List.mem_cons, List.not_mem_nil, or_false] at hz
        rcases hz with rfl | rfl | rfl | rfl
        · exact .inr ⟨by decide +kernel, rfl⟩
        · exact .inl (by decide +kernel)
        · exact .inl (by decide +kernel)
        · exact .inl (by decide +kernel)
      have hl : z.length ≤ 1000 := by
        simp only [List.mem_cons, List.not_mem_nil, or_false] at hz
        rcases hz with rfl | rfl | rfl | rfl <;> decide +kernel
      refine ⟨_, rfl, _, rfl, .str z, 1, textB z 1, rfl, hT, .inr ⟨z, rfl, hl, rfl⟩, fun H1 x1 => ⟨_, rfl, ?_⟩⟩
      rcases key with e | ⟨e, e2⟩
      · rw [e]
        exact iteF (k H1 x1)
      · rw [e, e2]
        refine iteT ⟨_, rfl, rfl, ?_⟩
        rw [decide_eq_true rfl]
        exact k H1 x1
def spCSignH (cs : List (Addr × Addr)) (C : Addr) : Sp := fun vs H _ E => ∃ (v : V), vs = [v] ∧ Tabs cs H ∧ BadSgH H v ∧ ∀ H', Ex cs H H' → E (.ref C) none H'
theorem ok_csignH {f g : Addr} {fd fdg : FuncData} (eT : ∃ t, mg "TAB" = some (.str tabS t)) (Er : SErr K mg R C G) (F : Fun K "check_sign" "check_sign" s_check_sign f fd)
    (W : FnOk P w K mg base CX0 6 g fdg ["value", "most"] (spFilledH cs)) (kp : PySem.W.keepIn K (.ref g) = true) (bd : Binds K fdg ["value", "most"] []) (mgg : mg "is_filled" = some (.ref g)) : FnOk P w K mg base (L2.CX P w) 7 f fd ["sign"] (spCSignH cs C) := by
  refine F.okX sc_csign (fun vs H Q E h => ?_) (fun cdv A outer s H vs Q E hr h => ?_)
  · obtain ⟨z, rfl, _⟩ := h
    rfl
  · obtain ⟨v, rfl, hT, hb, k⟩ := h
    have hu := hr.units
    obtain ⟨tt, eT⟩ := eT
    refine ⟨_, pss_one (ps_if (PW.pt (pw_and (pt_cmpR (op_neD hu) (pv 0) (pe_glob (v := .str tabS) rfl eT ⟨_, rfl⟩) (nomark _)) (pw_and1 (pt_not (pt_val (pe_call W hr (by rfl) mgg kp bd .nil pass0 (pa_cons (pv 0) (pa_cons pe_int pa_nil))))))))
      (pss_one (ps_raise rfl (takes_of rfl rfl rfl rfl) (pmk_own PySem.F.excBase_ValueError Er.cell.exc Er.cell.mg_ Er.cell.kp (raises_own Er.cell.sub Er.cell.ty) rfl))) pss_nil), ?_⟩
    obtain ⟨d, hd, hs, he⟩ := Dp_sg (K := K) hb
    refine ⟨_, rfl, d, .str tabS, hd, .str _, hs, by decide +kernel, ?_⟩
    rw [he]
    exact ⟨true, rfl, iteT ⟨_, rfl, v, rfl, hT, hb, fun H1 x1 => ⟨false, rfl, iteT (k H1 x1)⟩⟩⟩
def spStrikeH (K : PySem.W.Frag) (cs : List (Addr × Addr)) (S R C c : Addr) : Sp := fun vs H _ E => ∃ (sh : Addr) (v u p : V) (z : V) (rl dl st : Addr) (as : List Addr) (rows : List (List Str)) (gap least : Int) (ts : List Addr) (ps : List (List (List Str))) (av : Addr → Prop), vs = [.ref sh, v, u, p, z] ∧ Tabs cs H ∧ ShtD K S H sh rl dl st as rows gap least ts ps av ∧ HalfBad R C rows v u p c ∧ ∀ H', Ex cs H H' → E (.ref c) none H'
theorem ok_strikeH {c f g1 : Addr} {fd fd1 : FuncData} (X : ShC K S) (F : Fun K "strike" "Sheet.strike" (mth nSheet 4) f fd)
    (HX : FnOk P w K mg base (L2.CX P w) 3 g1 fd1 ["rows", "number", "cell", "place"] (spHalfX K R C)) (k1 : PySem.W.keepIn K (.ref g1) = true) (b1 : Binds K fd1 ["rows", "number", "cell", "place"] []) (m1 : mg "halves" = some (.ref g1)) : FnOk P w K mg base (L2.CX P w) 17 f fd ["self", "number", "cell", "place", "sign"] (spStrikeH K cs S R C c) := by
  refine F.okX sc_strike (fun vs H Q E h => ?_) (fun cdv A outer s H vs Q E hr h => ?_)
  · obtain ⟨sh, v, u, p, z, _, _, _, _, _, _, _, _, _, _, rfl, _⟩ := h
    rfl
  · obtain ⟨sh, v, u, p, z, rl, dl, st, as, rows, gap, least, ts, ps, av, rfl, hT, hS, hb, k⟩ := h
    have nd := sc_strike.nd
    have r3 : Room 3 _ := hr.mono (by decide)
    refine ⟨_, pss_cons (ps_asg (pe_callS HX r3 (by rfl) m1 k1 b1 (fun σ => passAt (takes_of rfl rfl rfl rfl) σ) (pa_cons (pe_fld (pv 0) rfl) (pa_cons (pv 1) (pa_cons (pv 2) (pa_cons (pv 3) pa_nil))))) (pg_tup rfl (pgs_cons (pg_name (i := 5) nd rfl (.inl rfl)) (pgs_cons (pg_name (i := 6) nd rfl (.inl rfl)) pgs_nil)))) pss_never, ?_⟩
    obtain ⟨dx, h1⟩ := hS.she
    exact ⟨_, rfl, sh, S, dx, _, _, rfl, h1, X.cS, X.nRows, rfl, _, rfl, _, rfl, _, rfl, rl, as, rows, v, u, p, c, rfl, hS.page, hS.ok, hb, k H (Ex.refl hT)⟩
def spEraseH (K : PySem.W.Frag) (cs : List (Addr × Addr)) (S R C c : Addr) : Sp := fun vs H _ E => ∃ (sh : Addr) (v u p : V) (rl dl st : Addr) (as : List Addr) (rows : List (List Str)) (gap least : Int) (ts : List Addr) (ps : List (List (List Str))) (av : Addr → Prop), vs = [.ref sh, v, u, p] ∧ Tabs cs H ∧ ShtD K S H sh rl dl st as rows gap least ts ps av ∧ HalfBad R C rows v u p c ∧ ∀ H', Ex cs H H' → E (.ref c) none H'
theorem ok_eraseH {c f g1 : Addr} {fd fd1 : FuncData} (X : ShC K S) (F : Fun K "erase" "Sheet.erase" (mth nSheet 5) f fd)
    (HX : FnOk P w K mg base (L2.CX P w) 3 g1 fd1 ["rows", "number", "cell", "place"] (spHalfX K R C)) (k1 : PySem.W.keepIn K (.ref g1) = true) (b1 : Binds K fd1 ["rows", "number", "cell", "place"] []) (m1 : mg "halves" = some (.ref g1)) : FnOk P w K mg base (L2.CX P w) 17 f fd ["self", "number", "cell", "place"] (spEraseH K cs S R C c) := by
  refine F.okX sc_erase (fun vs H Q E h => ?_) (fun cdv A outer s H vs Q E hr h => ?_)
  · obtain ⟨sh, v, u, p, _, _, _, _, _, _, _, _, _, _, rfl, _⟩ := h
    rfl
  · obtain ⟨sh, v, u, p, rl, dl, st, as, rows, gap, least, ts, ps, av, rfl, hT, hS, hb, k⟩ := h
    have nd := sc_erase.nd
    have r3 : Room 3 _ := hr.mono (by decide)
    refine ⟨_, pss_cons (ps_asg (pe_callS HX r3 (by rfl) m1 k1 b1 (fun σ => passAt (takes_of rfl rfl rfl rfl) σ) (pa_cons (pe_fld (pv 0) rfl) (pa_cons (pv 1) (pa_cons (pv 2) (pa_cons (pv 3) pa_nil))))) (pg_tup rfl (pgs_cons (pg_name (i := 4) nd rfl (.inl rfl)) (pgs_cons (pg_name (i := 5) nd rfl (.inl rfl)) pgs_nil)))) pss_never, ?_⟩
    obtain ⟨dx, h1⟩ := hS.she
    exact ⟨_, rfl, sh, S, dx, _, _, rfl, h1, X.cS, X.nRows, rfl, _, rfl, _, rfl, _, rfl, rl, as, rows, v, u, p, c, rfl, hS.page, hS.ok, hb, k H (Ex.refl hT)⟩
def spPartH (K : PySem.W.Frag) (cs : List (Addr × Addr)) (S R C c : Addr) : Sp := fun vs H _ E => ∃ (sh : Addr) (v u p : V) (rl dl st : Addr) (as : List Addr) (rows : List (List Str)) (gap least : Int) (ts : List Addr) (ps : List (List (List Str))) (av : Addr → Prop), vs = [.ref sh, v, u, p] ∧ Tabs cs H ∧ ShtD K S H sh rl dl st as rows gap least ts ps av ∧ HalfBad R C rows v u p c ∧ ∀ H', Ex cs H H' → E (.ref c) none H'
theorem ok_partH {c f g1 : Addr} {fd fd1 : FuncData} (X : ShC K S) (F : Fun K "part" "Sheet.part" (mth nSheet 6) f fd)
    (HX : FnOk P w K mg base (L2.CX P w) 3 g1 fd1 ["rows", "number", "cell", "place"] (spHalfX K R C)) (k1 : PySem.W.keepIn K (.ref g1) = true) (b1 : Binds K fd1 ["rows", "number", "cell", "place"] []) (m1 : mg "halves" = some (.ref g1)) : FnOk P w K mg base (L2.CX P w) 17 f fd ["self", "number", "cell", "place"] (spPartH K cs S R C c) := by
  refine F.okX sc_part (fun vs H Q E h => ?_) (fun cdv A outer s H vs Q E hr h => ?_)
  · obtain ⟨sh, v, u, p, _, _, _, _, _, _, _, _, _, _, rfl, _⟩ := h
    rfl
  · obtain ⟨sh, v, u, p, rl, dl, st, as, rows, gap, least, ts, ps, av, rfl, hT, hS, hb, k⟩ := h
    have nd := sc_part.nd
    have r3 : Room 3 _ := hr.mono (by decide)
    refine ⟨_, pss_cons (ps_asg (pe_callS HX r3 (by rfl) m1 k1 b1 (fun σ => passAt (takes_of rfl rfl rfl rfl) σ) (pa_cons (pe_fld (pv 0) rfl) (pa_cons (pv 1) (pa_cons (pv 2) (pa_cons (pv 3) pa_nil))))) (pg_tup rfl (pgs_cons (pg_name (i := 4) nd rfl (.inl rfl)) (pgs_cons (pg_name (i := 5) nd rfl (.inl rfl)) pgs_nil)))) pss_never, ?_⟩
    obtain ⟨dx, h1⟩ := hS.she
    exact ⟨_, rfl, sh, S, dx, _, _, rfl, h1, X.cS, X.nRows, rfl, _, rfl, _, rfl, _, rfl, rl, as, rows, v, u, p, c, rfl, hS.page, hS.ok, hb, k H (Ex.refl hT)⟩
def spUniteH (K : PySem.W.Frag) (cs : List (Addr × Addr)) (S R : Addr) : Sp := fun vs H _ E => ∃ (sh : Addr) (v : V) (rl dl st : Addr) (as : List Addr) (rows : List (List Str)) (gap least : Int) (ts : List Addr) (ps : List (List (List Str))) (av : Addr → Prop), vs = [.ref sh, v] ∧ Tabs cs H ∧ ShtD K S H sh rl dl st as rows gap least ts ps av ∧ NoWh 0 ((rows.length : Nat) - 2) v ∧ ∀ H', Ex cs H H' → E (.ref R) none H'
theorem ok_uniteH {f g1 : Addr} {fd fd1 : FuncData} (T : Txt mg) (X : ShC K S) (F : Fun K "unite" "Sheet.unite" (mth nSheet 7) f fd)
    (G1 : FnOk P w K mg base (L2.CX P w) 2 g1 fd1 ["number", "last"] (spNumN R)) (k1 : PySem.W.keepIn K (.ref g1) = true) (b1 : Binds K fd1 ["number", "last"] []) (m1 : mg "check_number" = some (.ref g1)) :
    FnOk P w K mg base (L2.CX P w) 17 f fd ["self", "number"] (spUniteH K cs S R) := by
  refine F.okX sc_unite (fun vs H Q E h => ?_) (fun cdv A outer s H vs Q E hr h => ?_)
  · obtain ⟨sh, v, _, _, _, _, _, _, _, _, _, _, rfl, _⟩ := h
    rfl
  · obtain ⟨sh, v, rl, dl, st, as, rows, gap, least, ts, ps, av, rfl, hT, hS, hb, k⟩ := h
    have r2 : Room 2 _ := hr.mono (by decide)
    refine ⟨_, pss_cons (ps_expr (pe_callS G1 r2 (by rfl) m1 k1 b1 (fun σ => passAt (takes_of rfl rfl rfl rfl) σ) (pa_cons (pv 1) (pa_cons (pe_op op_sub (pe_callB call_len_seq (by rfl) T.len PySem.boot_len (pa_cons (pe_fld (pv 0) rfl) pa_nil)) pe_int) pa_nil)))) pss_never, ?_⟩
    obtain ⟨dx, h1⟩ := hS.she
    have la : (as.map V.ref).length = rows.length := by rw [List.length_map, hS.at_.len]
    refine ⟨_, rfl, _, rfl, sh, S, dx, _, _, rfl, h1, X.cS, X.nRows, rfl, rl, _, rfl, .inl hS.page.lst, _, _, rfl, rfl, v, _, rfl, ?_, k H (Ex.refl hT)⟩
    rw [la]
    exact hb
/-- a strike of what is no sign -/
def spStrikeG (K : PySem.W.Frag) (cs : List (Addr × Addr)) (S C : Addr) : Sp := fun vs H _ E => ∃ (sh : Addr) (n c k : Nat) (v : V) (rl dl st : Addr) (as : List Addr) (rows : List (List Str)) (gap least : Int) (ts : List Addr) (ps : List (List (List Str))) (av : Addr → Prop), vs = [.ref sh, .int (n : Nat), .int (c : Nat), .int (k : Nat), v] ∧
  Tabs cs H ∧ ShtD K S H sh rl dl st as rows gap least ts ps av ∧ PlOk rows n c k ∧ BadSgH H v ∧ ∀ H', Ex cs H H' → E (.ref C) none H'
theorem ok_strikeG {f g1 g2 : Addr} {fd fd1 fd2 : FuncData} (X : ShC K S) (F : Fun K "strike" "Sheet.strike" (mth nSheet 4) f fd)
    (G1 : FnOk P w K mg base CX0 3 g1 fd1 ["rows", "number", "cell", "place"] (spHalf K)) (k1 : PySem.W.keepIn K (.ref g1) = true) (b1 : Binds K fd1 ["rows", "number", "cell", "place"] []) (m1 : mg "halves" = some (.ref g1))
    (G2 : FnOk P w K mg base (L2.CX P w) 7 g2 fd2 ["sign"] (spCSignH cs C)) (k2 : PySem.W.keepIn K (.ref g2) = true) (b2 : Binds K fd2 ["sign"] []) (m2 : mg "check_sign" = some (.ref g2)) :
    FnOk P w K mg base (L2.CX P w) 17 f fd ["self", "number", "cell", "place", "sign"] (spStrikeG K cs S C) := by
  refine F.okX sc_strike (fun vs H Q E h => ?_) (fun cdv A outer s H vs Q E hr h => ?_)
  · obtain ⟨sh, n, c, k, z, _, _, _, _, _, _, _, _, _, _, rfl, _⟩ := h
    rfl
  · obtain ⟨sh, n, c, k, v, rl, dl, st, as, rows, gap, least, ts, ps, av, rfl, hT, hS, pl, hb, ke⟩ := h
    have nd := sc_strike.nd
    have r3 : Room 3 _ := hr.mono (by decide)
    have r7 : Room 7 _ := hr.mono (by decide)
    refine ⟨_, pss_cons (ps_asg (pe_call G1 r3 (by rfl) m1 k1 b1 .nil pass0 (pa_cons (pe_fld (pv 0) rfl) (pa_cons (pv 1) (pa_cons (pv 2) (pa_cons (pv 3) pa_nil))))) (pg_tup rfl (pgs_cons (pg_name (i := 5) nd rfl (.inl rfl)) (pgs_cons (pg_name (i := 6) nd rfl (.inl rfl)) pgs_nil))))
      (pss_cons (ps_expr (pe_callS G2 r7 (by rfl) m2 k2 b2 (fun σ => passAt (takes_of rfl rfl rfl rfl) σ) (pa_cons (pv 4) pa_nil))) pss_never), ?_⟩
    obtain ⟨dx, h1⟩ := hS.she
    obtain ⟨p1, p2, p3⟩ := pl
    have hR := rowN_ok hS.ok p1
    refine ⟨_, rfl, sh, S, dx, _, _, rfl, h1, X.cS, X.nRows, rfl, _, rfl, _, rfl, _, rfl, rl, as, rows, n, c, k, rowN rows n, rfl, hS.page, rowN_get p1, hR, p2, p3, fun t pA pB H1 x1 ht hA hB => ?_⟩
    refine ⟨t, _, rfl, SqT.of ht, rfl, _, _, rfl, _, _, rfl, rfl, ?_⟩
    have e1 := ex_same hT x1
    exact ⟨_, rfl, v, rfl, e1.tab, hb.gw e1.ext, fun H2 x2 => ke H2 (e1.trans x2)⟩
end
end TGK

namespace TGK
open TG
open PySem PySem.Spec PyProof.Rows L2 NdefX GenW Gx Lv Dl EnT
/-! ### the law's own works -/
def noE0 : Expr := .Name "x" ⟨0, 0, 0, 0⟩
def eNth (l : List Expr) (i : Nat) : Expr := l.getD i noE0
def eEls : Expr → List Expr
  | .List es _ => es
  | _ => []
def eArgs : Expr → List Expr
  | .UnaryOp _ (.Call _ es _ _) _ => es
  | _ => []
def ifT : Stmt → Expr
  | .If t _ _ _ => t
  | _ => noE0
def ifBl : Stmt → List Stmt
  | .If _ b _ _ => b
  | _ => []
def asV : Stmt → Expr
  | .Assign _ v _ => v
  | _ => noE0
def asR : Stmt → Expr
  | .Return (some e) _ => e
  | _ => noE0
def binR : Expr → Expr
  | .BinOp _ _ r _ => r
  | _ => noE0
def boolN : Expr → Nat → Expr
  | .BoolOp _ es _, i => es.getD i noE0
  | _, _ => noE0
def lamApp : Stmt → TGK.LamT
  | .Expr (.Call _ [e] _ _) _ => TGK.lamOf e
  | _ => TGK.lam00
abbrev fr_n1 : List Str := ["_law_sheet", "_law_more"]
abbrev lm_n1 : TGK.LamT := TGK.lamOf (eNth (eEls (asV (TGK.stAt (defBody s_numbers) 4))) 0)
theorem sc_n1 : NScope ["_law_sheet", "_law_more"] [] fr_n1 lm_n1.2.2 := nscope_by (by decide +kernel)
theorem kl_n1 : ∀ y ∈ lm_n1.2.2.names, y.2 = .free → (defScope s_numbers).names.lookup y.1 = some .cell := by decide +kernel
abbrev fr_n2 : List Str := ["_law_sheet", "_law_out"]
abbrev lm_n2 : TGK.LamT := TGK.lamOf (eNth (eEls (asV (TGK.stAt (defBody s_numbers) 4))) 1)
theorem sc_n2 : NScope ["_law_a", "_law_sheet", "_law_out"] ["_law_a"] fr_n2 lm_n2.2.2 := nscope_by (by decide +kernel)
theorem kl_n2 : ∀ y ∈ lm_n2.2.2.names, y.2 = .free → (defScope s_numbers).names.lookup y.1 = some .cell := by decide +kernel
theorem key_n2 : lm_n2.2.2.names.lookup ("_law_a" : Str) = some .local := by decide +kernel
abbrev fr_n3 : List Str := ["_law_sheet", "_law_out"]
abbrev lm_n3 : TGK.LamT := TGK.lamOf (eNth (eEls (asV (TGK.stAt (defBody s_numbers) 4))) 2)
theorem sc_n3 : NScope ["_law_b", "_law_sheet", "_law_out"] ["_law_b"] fr_n3 lm_n3.2.2 := nscope_by (by decide +kernel)
theorem kl_n3 : ∀ y ∈ lm_n3.2.2.names, y.2 = .free → (defScope s_numbers).names.lookup y.1 = some .cell := by decide +kernel
theorem key_n3 : lm_n3.2.2.names.lookup ("_law_b" : Str) = some .local := by decide +kernel
abbrev fr_n4 : List Str := ["_law_sheet", "_law_out"]
abbrev lm_n4 : TGK.LamT := TGK.lamOf (eNth (eEls (binR (asV (TGK.stAt (defBody s_numbers) 5)))) 0)
theorem sc_n4 : NScope ["_law_c", "_law_sheet", "_law_out"] ["_law_c"] fr_n4 lm_n4.2.2 := nscope_by (by decide +kernel)
theorem kl_n4 : ∀ y ∈ lm_n4.2.2.names, y.2 = .free → (defScope s_numbers).names.lookup y.1 = some .cell := by decide +kernel
theorem key_n4 : lm_n4.2.2.names.lookup ("_law_c" : Str) = some .local := by decide +kernel
abbrev fr_n5 : List Str := ["_law_sheet", "_law_out"]
abbrev lm_n5 : TGK.LamT := TGK.lamOf (eNth (eEls (binR (asV (TGK.stAt (defBody s_numbers) 5)))) 1)
theorem sc_n5 : NScope ["_law_d", "_law_sheet", "_law_out"] ["_law_d"] fr_n5 lm_n5.2.2 := nscope_by (by decide +kernel)
theorem kl_n5 : ∀ y ∈ lm_n5.2.2.names, y.2 = .free → (defScope s_numbers).names.lookup y.1 = some .cell := by decide +kernel
theorem key_n5 : lm_n5.2.2.names.lookup ("_law_d" : Str) = some .local := by decide +kernel
abbrev fr_n6 : List Str := ["_law_sheet", "_law_out"]
abbrev lm_n6 : TGK.LamT := TGK.lamOf (eNth (eEls (binR (asR (TGK.stAt (defBody s_numbers) 6)))) 0)
theorem sc_n6 : NScope ["_law_f", "_law_sheet", "_law_out"] ["_law_f"] fr_n6 lm_n6.2.2 := nscope_by (by decide +kernel)
theorem kl_n6 : ∀ y ∈ lm_n6.2.2.names, y.2 = .free → (defScope s_numbers).names.lookup y.1 = some .cell := by decide +kernel
theorem key_n6 : lm_n6.2.2.names.lookup ("_law_f" : Str) = some .local := by decide +kernel
abbrev fr_n7 : List Str := ["_law_sheet", "_law_last"]
abbrev lm_n7 : TGK.LamT := TGK.lamOf (eNth (eEls (binR (asR (TGK.stAt (defBody s_numbers) 6)))) 1)
theorem sc_n7 : NScope ["_law_g", "_law_sheet", "_law_last"] ["_law_g"] fr_n7 lm_n7.2.2 := nscope_by (by decide +kernel)
theorem kl_n7 : ∀ y ∈ lm_n7.2.2.names, y.2 = .free → (defScope s_numbers).names.lookup y.1 = some .cell := by decide +kernel
theorem key_n7 : lm_n7.2.2.names.lookup ("_law_g" : Str) = some .local := by decide +kernel
abbrev fr_p1 : List Str := ["_law_sheet", "_law_number", "_law_cell_here", "_law_place"]
abbrev lm_p1 : TGK.LamT := TGK.lamOf (eNth (eEls (asV (TGK.stAt (defBody s_places) 5))) 0)
theorem sc_p1 : NScope ["_law_sheet", "_law_number", "_law_cell_here", "_law_place"] [] fr_p1 lm_p1.2.2 := nscope_by (by decide +kernel)
theorem kl_p1 : ∀ y ∈ lm_p1.2.2.names, y.2 = .free → (defScope s_places).names.lookup y.1 = some .cell := by decide +kernel
abbrev fr_p2 : List Str := ["_law_sheet", "_law_number", "_law_cell_here", "_law_place"]
abbrev lm_p2 : TGK.LamT := TGK.lamOf (eNth (eEls (asV (TGK.stAt (defBody s_places) 5))) 1)
theorem sc_p2 : NScope ["_law_a", "_law_sheet", "_law_number", "_law_cell_here", "_law_place"] ["_law_a"] fr_p2 lm_p2.2.2 := nscope_by (by decide +kernel)
theorem kl_p2 : ∀ y ∈ lm_p2.2.2.names, y.2 = .free → (defScope s_places).names.lookup y.1 = some .cell := by decide +kernel
theorem key_p2 : lm_p2.2.2.names.lookup ("_law_a" : Str) = some .local := by decide +kernel
abbrev fr_p3 : List Str := ["_law_sheet", "_law_number", "_law_cell_here", "_law_place"]
abbrev lm_p3 : TGK.LamT := lamApp (TGK.stAt (defBody s_places) 6)
theorem sc_p3 : NScope ["_law_b", "_law_sheet", "_law_number", "_law_cell_here", "_law_place"] ["_law_b"] fr_p3 lm_p3.2.2 := nscope_by (by decide +kernel)
theorem kl_p3 : ∀ y ∈ lm_p3.2.2.names, y.2 = .free → (defScope s_places).names.lookup y.1 = some .cell := by decide +kernel
theorem key_p3 : lm_p3.2.2.names.lookup ("_law_b" : Str) = some .local := by decide +kernel
abbrev fr_p4 : List Str := ["_law_sheet", "_law_number", "_law_k", "_law_sign_here"]
abbrev lm_p4 : TGK.LamT := TGK.lamOf (eNth (eEls (binR (asR (TGK.stAt (defBody s_places) 8)))) 0)
theorem sc_p4 : NScope ["_law_c", "_law_sheet", "_law_number", "_law_k", "_law_sign_here"] ["_law_c"] fr_p4 lm_p4.2.2 := nscope_by (by decide +kernel)
theorem kl_p4 : ∀ y ∈ lm_p4.2.2.names, y.2 = .free → (defScope s_places).names.lookup y.1 = some .cell := by decide +kernel
theorem key_p4 : lm_p4.2.2.names.lookup ("_law_c" : Str) = some .local := by decide +kernel
abbrev fr_r1 : List Str := ["_law_sheet", "_law_number", "_law_k"]
abbrev lm_r1 : TGK.LamT := lamApp (TGK.stAt (ifBl (TGK.stAt (defBody s_row_full) 2)) 1)
theorem sc_r1 : NScope ["_law_sheet", "_law_number", "_law_k"] [] fr_r1 lm_r1.2.2 := nscope_by (by decide +kernel)
theorem kl_r1 : ∀ y ∈ lm_r1.2.2.names, y.2 = .free → (defScope s_row_full).names.lookup y.1 = some .cell := by decide +kernel
abbrev fr_r2 : List Str := ["_law_sheet", "_law_number"]
abbrev lm_r2 : TGK.LamT := lamApp (TGK.stAt (ifBl (TGK.stAt (defBody s_row_full) 3)) 0)
theorem sc_r2 : NScope ["_law_a", "_law_sheet", "_law_number"] ["_law_a"] fr_r2 lm_r2.2.2 := nscope_by (by decide +kernel)
theorem kl_r2 : ∀ y ∈ lm_r2.2.2.names, y.2 = .free → (defScope s_row_full).names.lookup y.1 = some .cell := by decide +kernel
theorem key_r2 : lm_r2.2.2.names.lookup ("_law_a" : Str) = some .local := by decide +kernel
abbrev fr_r3 : List Str := ["_law_sheet", "_law_number", "_law_j", "_law_row_here"]
abbrev lm_r3 : TGK.LamT := lamApp (TGK.stAt (ifBl (TGK.stAt (defBody s_row_full) 5)) 1)
theorem sc_r3 : NScope ["_law_b", "_law_sheet", "_law_number", "_law_j", "_law_row_here"] ["_law_b"] fr_r3 lm_r3.2.2 := nscope_by (by decide +kernel)
theorem kl_r3 : ∀ y ∈ lm_r3.2.2.names, y.2 = .free → (defScope s_row_full).names.lookup y.1 = some .cell := by decide +kernel
theorem key_r3 : lm_r3.2.2.names.lookup ("_law_b" : Str) = some .local := by decide +kernel
abbrev fr_r4 : List Str := ["_law_sheet", "_law_number", "_law_row_here"]
abbrev lm_r4 : TGK.LamT := lamApp (TGK.stAt (defBody s_row_full) 6)
theorem sc_r4 : NScope ["_law_c", "_law_sheet", "_law_number", "_law_row_here"] ["_law_c"] fr_r4 lm_r4.2.2 := nscope_by (by decide +kernel)
theorem kl_r4 : ∀ y ∈ lm_r4.2.2.names, y.2 = .free → (defScope s_row_full).names.lookup y.1 = some .cell := by decide +kernel
theorem key_r4 : lm_r4.2.2.names.lookup ("_law_c" : Str) = some .local := by decide +kernel
abbrev fr_r5 : List Str := ["_law_sheet", "_law_number"]
abbrev lm_r5 : TGK.LamT := lamApp (TGK.stAt (ifBl (TGK.stAt (ifBl (TGK.stAt (defBody s_row_full) 7)) 1)) 0)
theorem sc_r5 : NScope ["_law_d", "_law_sheet", "_law_number"] ["_law_d"] fr_r5 lm_r5.2.2 := nscope_by (by decide +kernel)
theorem kl_r5 : ∀ y ∈ lm_r5.2.2.names, y.2 = .free → (defScope s_row_full).names.lookup y.1 = some .cell := by decide +kernel
theorem key_r5 : lm_r5.2.2.names.lookup ("_law_d" : Str) = some .local := by decide +kernel
abbrev fr_l1 : List Str := ["_law_sheet", "_law_at", "_law_bad"]
abbrev lm_l1 : TGK.LamT := TGK.lamOf (eNth (eEls (eNth (eArgs (ifT (TGK.stAt (defBody s_law) 8))) 0)) 0)
theorem sc_l1 : NScope ["_law_sheet", "_law_at", "_law_bad"] [] fr_l1 lm_l1.2.2 := nscope_by (by decide +kernel)
theorem kl_l1 : ∀ y ∈ lm_l1.2.2.names, y.2 = .free → (defScope s_law).names.lookup y.1 = some .cell := by decide +kernel
abbrev fr_l2 : List Str := ["_law_sheet", "_law_at", "_law_bad"]
abbrev lm_l2 : TGK.LamT := TGK.lamOf (eNth (eEls (eNth (eArgs (ifT (TGK.stAt (defBody s_law) 8))) 0)) 1)
theorem sc_l2 : NScope ["_law_a", "_law_sheet", "_law_at", "_law_bad"] ["_law_a"] fr_l2 lm_l2.2.2 := nscope_by (by decide +kernel)
theorem kl_l2 : ∀ y ∈ lm_l2.2.2.names, y.2 = .free → (defScope s_law).names.lookup y.1 = some .cell := by decide +kernel
theorem key_l2 : lm_l2.2.2.names.lookup ("_law_a" : Str) = some .local := by decide +kernel
abbrev fr_l3 : List Str := ["_law_sheet"]
abbrev lm_l3 : TGK.LamT := TGK.lamOf (eNth (eEls (asV (TGK.stAt (ifBl (TGK.stAt (defBody s_law) 11)) 0))) 0)
theorem sc_l3 : NScope ["_law_sheet"] [] fr_l3 lm_l3.2.2 := nscope_by (by decide +kernel)
theorem kl_l3 : ∀ y ∈ lm_l3.2.2.names, y.2 = .free → (defScope s_law).names.lookup y.1 = some .cell := by decide +kernel
abbrev fr_l4 : List Str := ["_law_sheet", "_law_at"]
abbrev lm_l4 : TGK.LamT := TGK.lamOf (eNth (eEls (asV (TGK.stAt (ifBl (TGK.stAt (defBody s_law) 11)) 0))) 1)
theorem sc_l4 : NScope ["_law_a", "_law_sheet", "_law_at"] ["_law_a"] fr_l4 lm_l4.2.2 := nscope_by (by decide +kernel)
theorem kl_l4 : ∀ y ∈ lm_l4.2.2.names, y.2 = .free → (defScope s_law).names.lookup y.1 = some .cell := by decide +kernel
theorem key_l4 : lm_l4.2.2.names.lookup ("_law_a" : Str) = some .local := by decide +kernel
abbrev fr_l5 : List Str := ["_law_sheet", "_law_at", "_law_rows"]
abbrev lm_l5 : TGK.LamT := TGK.lamOf (eNth (eEls (asV (TGK.stAt (ifBl (TGK.stAt (defBody s_law) 11)) 0))) 2)
theorem sc_l5 : NScope ["_law_b", "_law_sheet", "_law_at", "_law_rows"] ["_law_b"] fr_l5 lm_l5.2.2 := nscope_by (by decide +kernel)
theorem kl_l5 : ∀ y ∈ lm_l5.2.2.names, y.2 = .free → (defScope s_law).names.lookup y.1 = some .cell := by decide +kernel
theorem key_l5 : lm_l5.2.2.names.lookup ("_law_b" : Str) = some .local := by decide +kernel
abbrev fr_l6 : List Str := ["_law_sheet"]
abbrev lm_l6 : TGK.LamT := TGK.lamOf (eNth (eEls (eNth (eArgs (boolN (ifT (TGK.stAt (defBody s_law) 12)) 1)) 0)) 0)
theorem sc_l6 : NScope ["_law_sheet"] [] fr_l6 lm_l6.2.2 := nscope_by (by decide +kernel)
theorem kl_l6 : ∀ y ∈ lm_l6.2.2.names, y.2 = .free → (defScope s_law).names.lookup y.1 = some .cell := by decide +kernel
section
variable {P : Program} {w : World} {K : PySem.W.Frag} {mg : Str → Option Value} {base : Heap} {cs : List (Addr × Addr)} {S : Addr}
def rw_n1 (K : PySem.W.Frag) (S : Addr) (sp : Sp) : TGK.RW := fun ws H Q E => ∃ (sh dx : Addr) (fs : List (Str × V)) (v1 : V), ws = [some (.ref sh), some v1] ∧ H sh = some (.ins S dx fs) ∧ fs.lookup ("put" : Str) = none ∧ ∀ e, H e = none → sp [.ref sh, v1, .ref e] (upd H e (.tup [])) Q E
theorem lok_n1 {k : Nat} {q : Str} {c' f g : Addr} {fdg : FuncData} {lc : List (Str × Addr)} {sp : Sp} (T : Txt mg) (X : Cls K S) (M : Meth K S "put" g) (G : FnOk P w K mg base (L2.CX P w) k g fdg ["self", "number", "row"] sp) (bd : Binds K fdg ["self", "number", "row"] []) :
    LamW P w K mg base (k + 1) f (HfL f ⟨"<lambda>", q, lm_n1.1, [], lm_n1.2.2, lc, c'⟩ lm_n1.2.1) (TGK.spLamR fr_n1 (rw_n1 K S sp) ⟨"<lambda>", q, lm_n1.1, [], lm_n1.2.2, lc, c'⟩) := by
  refine lamw_l (lokx_of (N := fr_n1) (fr := fr_n1) sc_n1 (fun pm ctv => rfl) fun A outer s H Q E hr h => ?_)
  obtain ⟨_, ws, cl, hC, sh, dx, fs, v1, rfl, hob, l1, hsp⟩ := h
  have szl : (1000 : Nat) < sizeLine := by decide
  refine ⟨_, cl, _, hC, pe_methS (pv 0) X M G hr bd (fun σ => passAt (takes_of rfl rfl rfl rfl) σ) (pa_cons (pv 1) (pa_cons (pe_tup pa_nil) pa_nil)), ?_⟩
  exact ⟨_, rfl, sh, dx, fs, rfl, hob, l1, _, rfl, small0, fun e ne => hsp e ne⟩
def rw_n2 (K : PySem.W.Frag) (S : Addr) (sp : Sp) : TGK.RW := fun ws H Q E => ∃ (sh dx : Addr) (fs : List (Str × V)) (v1 : V), ws = [some (.ref sh), some v1] ∧ H sh = some (.ins S dx fs) ∧ fs.lookup ("take" : Str) = none ∧ sp [.ref sh, v1] H Q E
theorem lok_n2 {k : Nat} {q : Str} {c' f g t : Addr} {fdg : FuncData} {lc : List (Str × Addr)} {v0 : V} {sp : Sp} (T : Txt mg) (X : Cls K S) (M : Meth K S "take" g) (G : FnOk P w K mg base (L2.CX P w) k g fdg ["self", "number"] sp) (bd : Binds K fdg ["self", "number"] []) :
    LamW P w K mg base (k + 1) f (HfD f ⟨"<lambda>", q, lm_n2.1, [], lm_n2.2.2, lc, c'⟩ lm_n2.2.1 t v0) (TGK.spLamR fr_n2 (rw_n2 K S sp) ⟨"<lambda>", q, lm_n2.1, [], lm_n2.2.2, lc, c'⟩) := by
  refine lamw_d (N := ["_law_a", "_law_sheet", "_law_out"]) (fr := fr_n2) (nm := "_law_a") sc_n2 rfl rfl rfl rfl rfl key_n2 fun A outer s H Q E hr h => ?_
  obtain ⟨_, ws, cl, hC, sh, dx, fs, v1, rfl, hob, l1, hsp⟩ := h
  have szl : (1000 : Nat) < sizeLine := by decide
  refine ⟨_, cl, _, hC, pe_methS (pv 1) X M G hr bd (fun σ => passAt (takes_of rfl rfl rfl rfl) σ) (pa_cons (pv 2) pa_nil), ?_⟩
  exact ⟨_, rfl, sh, dx, fs, rfl, hob, l1, _, rfl, hsp⟩
def rw_n3 (K : PySem.W.Frag) (S : Addr) (sp : Sp) : TGK.RW := fun ws H Q E => ∃ (sh dx : Addr) (fs : List (Str × V)) (v1 : V), ws = [some (.ref sh), some v1] ∧ H sh = some (.ins S dx fs) ∧ fs.lookup ("change" : Str) = none ∧ ∀ e, H e = none → sp [.ref sh, v1, .ref e] (upd H e (.tup [])) Q E
theorem lok_n3 {k : Nat} {q : Str} {c' f g t : Addr} {fdg : FuncData} {lc : List (Str × Addr)} {v0 : V} {sp : Sp} (T : Txt mg) (X : Cls K S) (M : Meth K S "change" g) (G : FnOk P w K mg base (L2.CX P w) k g fdg ["self", "number", "row"] sp) (bd : Binds K fdg ["self", "number", "row"] []) :
    LamW P w K mg base (k + 1) f (HfD f ⟨"<lambda>", q, lm_n3.1, [], lm_n3.2.2, lc, c'⟩ lm_n3.2.1 t v0) (TGK.spLamR fr_n3 (rw_n3 K S sp) ⟨"<lambda>", q, lm_n3.1, [], lm_n3.2.2, lc, c'⟩) := by
  refine lamw_d (N := ["_law_b", "_law_sheet", "_law_out"]) (fr := fr_n3) (nm := "_law_b") sc_n3 rfl rfl rfl rfl rfl key_n3 fun A outer s H Q E hr h => ?_
  obtain ⟨_, ws, cl, hC, sh, dx, fs, v1, rfl, hob, l1, hsp⟩ := h
  have szl : (1000 : Nat) < sizeLine := by decide
  refine ⟨_, cl, _, hC, pe_methS (pv 1) X M G hr bd (fun σ => passAt (takes_of rfl rfl rfl rfl) σ) (pa_cons (pv 2) (pa_cons (pe_tup pa_nil) pa_nil)), ?_⟩
  exact ⟨_, rfl, sh, dx, fs, rfl, hob, l1, _, rfl, small0, fun e ne => hsp e ne⟩
def rw_n4 (K : PySem.W.Frag) (S : Addr) (sp : Sp) : TGK.RW := fun ws H Q E => ∃ (sh dx : Addr) (fs : List (Str × V)) (v1 : V), ws = [some (.ref sh), some v1] ∧ H sh = some (.ins S dx fs) ∧ fs.lookup ("strike" : Str) = none ∧ sp [.ref sh, v1, .int (-1), .int (-1), .str ""] H Q E
theorem lok_n4 {k : Nat} {q : Str} {c' f g t : Addr} {fdg : FuncData} {lc : List (Str × Addr)} {v0 : V} {sp : Sp} (T : Txt mg) (X : Cls K S) (M : Meth K S "strike" g) (G : FnOk P w K mg base (L2.CX P w) k g fdg ["self", "number", "cell", "place", "sign"] sp) (bd : Binds K fdg ["self", "number", "cell", "place", "sign"] []) :
    LamW P w K mg base (k + 1) f (HfD f ⟨"<lambda>", q, lm_n4.1, [], lm_n4.2.2, lc, c'⟩ lm_n4.2.1 t v0) (TGK.spLamR fr_n4 (rw_n4 K S sp) ⟨"<lambda>", q, lm_n4.1, [], lm_n4.2.2, lc, c'⟩) := by
  refine lamw_d (N := ["_law_c", "_law_sheet", "_law_out"]) (fr := fr_n4) (nm := "_law_c") sc_n4 rfl rfl rfl rfl rfl key_n4 fun A outer s H Q E hr h => ?_
  obtain ⟨_, ws, cl, hC, sh, dx, fs, v1, rfl, hob, l1, hsp⟩ := h
  have szl : (1000 : Nat) < sizeLine := by decide
  refine ⟨_, cl, _, hC, pe_methS (pv 1) X M G hr bd (fun σ => passAt (takes_of rfl rfl rfl rfl) σ) (pa_cons (pv 2) (pa_cons (pe_un un_neg pe_int) (pa_cons (pe_un un_neg pe_int) (pa_cons pe_str pa_nil)))), ?_⟩
  exact ⟨_, rfl, sh, dx, fs, rfl, hob, l1, _, rfl, _, rfl, _, rfl, hsp⟩
def rw_n5 (K : PySem.W.Frag) (S : Addr) (sp : Sp) : TGK.RW := fun ws H Q E => ∃ (sh dx : Addr) (fs : List (Str × V)) (v1 : V), ws = [some (.ref sh), some v1] ∧ H sh = some (.ins S dx fs) ∧ fs.lookup ("erase" : Str) = none ∧ sp [.ref sh, v1, .int (-1), .int (-1)] H Q E
theorem lok_n5 {k : Nat} {q : Str} {c' f g t : Addr} {fdg : FuncData} {lc : List (Str × Addr)} {v0 : V} {sp : Sp} (T : Txt mg) (X : Cls K S) (M : Meth K S "erase" g) (G : FnOk P w K mg base (L2.CX P w) k g fdg ["self", "number", "cell", "place"] sp) (bd : Binds K fdg ["self", "number", "cell", "place"] []) :
    LamW P w K mg base (k + 1) f (HfD f ⟨"<lambda>", q, lm_n5.1, [], lm_n5.2.2, lc, c'⟩ lm_n5.2.1 t v0) (TGK.spLamR fr_n5 (rw_n5 K S sp) ⟨"<lambda>", q, lm_n5.1, [], lm_n5.2.2, lc, c'⟩) := by
  refine lamw_d (N := ["_law_d", "_law_sheet", "_law_out"]) (fr := fr_n5) (nm := "_law_d") sc_n5 rfl rfl rfl rfl rfl key_n5 fun A outer s H Q E hr h => ?_
  obtain ⟨_, ws, cl, hC, sh, dx, fs, v1, rfl, hob, l1, hsp⟩ := h
  have szl : (1000 : Nat) < sizeLine := by decide
  refine ⟨_, cl, _, hC, pe_methS (pv 1) X M G hr bd (fun σ => passAt (takes_of rfl rfl rfl rfl) σ) (pa_cons (pv 2) (pa_cons (pe_un un_neg pe_int) (pa_cons (pe_un un_neg pe_int) pa_nil))), ?_⟩
  exact ⟨_, rfl, sh, dx, fs, rfl, hob, l1, _, rfl, _, rfl, _, rfl, hsp⟩
def rw_n6 (K : PySem.W.Frag) (S : Addr) (sp : Sp) : TGK.RW := fun ws H Q E => ∃ (sh dx : Addr) (fs : List (Str × V)) (v1 : V), ws = [some (.ref sh), some v1] ∧ H sh = some (.ins S dx fs) ∧ fs.lookup ("part" : Str) = none ∧ sp [.ref sh, v1, .int (-1), .int (-1)] H Q E
theorem lok_n6 {k : Nat} {q : Str} {c' f g t : Addr} {fdg : FuncData} {lc : List (Str × Addr)} {v0 : V} {sp : Sp} (T : Txt mg) (X : Cls K S) (M : Meth K S "part" g) (G : FnOk P w K mg base (L2.CX P w) k g fdg ["self", "number", "cell", "place"] sp) (bd : Binds K fdg ["self", "number", "cell", "place"] []) :
    LamW P w K mg base (k + 1) f (HfD f ⟨"<lambda>", q, lm_n6.1, [], lm_n6.2.2, lc, c'⟩ lm_n6.2.1 t v0) (TGK.spLamR fr_n6 (rw_n6 K S sp) ⟨"<lambda>", q, lm_n6.1, [], lm_n6.2.2, lc, c'⟩) := by
  refine lamw_d (N := ["_law_f", "_law_sheet", "_law_out"]) (fr := fr_n6) (nm := "_law_f") sc_n6 rfl rfl rfl rfl rfl key_n6 fun A outer s H Q E hr h => ?_
  obtain ⟨_, ws, cl, hC, sh, dx, fs, v1, rfl, hob, l1, hsp⟩ := h
  have szl : (1000 : Nat) < sizeLine := by decide
  refine ⟨_, cl, _, hC, pe_methS (pv 1) X M G hr bd (fun σ => passAt (takes_of rfl rfl rfl rfl) σ) (pa_cons (pv 2) (pa_cons (pe_un un_neg pe_int) (pa_cons (pe_un un_neg pe_int) pa_nil))), ?_⟩
  exact ⟨_, rfl, sh, dx, fs, rfl, hob, l1, _, rfl, _, rfl, _, rfl, hsp⟩
def rw_n7 (K : PySem.W.Frag) (S : Addr) (sp : Sp) : TGK.RW := fun ws H Q E => ∃ (sh dx : Addr) (fs : List (Str × V)) (v1 : V), ws = [some (.ref sh), some v1] ∧ H sh = some (.ins S dx fs) ∧ fs.lookup ("unite" : Str) = none ∧ sp [.ref sh, v1] H Q E
theorem lok_n7 {k : Nat} {q : Str} {c' f g t : Addr} {fdg : FuncData} {lc : List (Str × Addr)} {v0 : V} {sp : Sp} (T : Txt mg) (X : Cls K S) (M : Meth K S "unite" g) (G : FnOk P w K mg base (L2.CX P w) k g fdg ["self", "number"] sp) (bd : Binds K fdg ["self", "number"] []) :
    LamW P w K mg base (k + 1) f (HfD f ⟨"<lambda>", q, lm_n7.1, [], lm_n7.2.2, lc, c'⟩ lm_n7.2.1 t v0) (TGK.spLamR fr_n7 (rw_n7 K S sp) ⟨"<lambda>", q, lm_n7.1, [], lm_n7.2.2, lc, c'⟩) := by
  refine lamw_d (N := ["_law_g", "_law_sheet", "_law_last"]) (fr := fr_n7) (nm := "_law_g") sc_n7 rfl rfl rfl rfl rfl key_n7 fun A outer s H Q E hr h => ?_
  obtain ⟨_, ws, cl, hC, sh, dx, fs, v1, rfl, hob, l1, hsp⟩ := h
  have szl : (1000 : Nat) < sizeLine := by decide
  refine ⟨_, cl, _, hC, pe_methS (pv 1) X M G hr bd (fun σ => passAt (takes_of rfl rfl rfl rfl) σ) (pa_cons (pv 2) pa_nil), ?_⟩
  exact ⟨_, rfl, sh, dx, fs, rfl, hob, l1, _, rfl, hsp⟩
def rw_p1 (K : PySem.W.Frag) (S : Addr) (sp : Sp) : TGK.RW := fun ws H Q E => ∃ (sh dx : Addr) (fs : List (Str × V)) (v1 v2 v3 : V), ws = [some (.ref sh), some v1, some v2, some v3] ∧ H sh = some (.ins S dx fs) ∧ fs.lookup ("strike" : Str) = none ∧ sp [.ref sh, v1, v2, v3, .str ""] H Q E
theorem lok_p1 {k : Nat} {q : Str} {c' f g : Addr} {fdg : FuncData} {lc : List (Str × Addr)} {sp : Sp} (T : Txt mg) (X : Cls K S) (M : Meth K S "strike" g) (G : FnOk P w K mg base (L2.CX P w) k g fdg ["self", "number", "cell", "place", "sign"] sp) (bd : Binds K fdg ["self", "number", "cell", "place", "sign"] []) :
    LamW P w K mg base (k + 1) f (HfL f ⟨"<lambda>", q, lm_p1.1, [], lm_p1.2.2, lc, c'⟩ lm_p1.2.1) (TGK.spLamR fr_p1 (rw_p1 K S sp) ⟨"<lambda>", q, lm_p1.1, [], lm_p1.2.2, lc, c'⟩) := by
  refine lamw_l (lokx_of (N := fr_p1) (fr := fr_p1) sc_p1 (fun pm ctv => rfl) fun A outer s H Q E hr h => ?_)
  obtain ⟨_, ws, cl, hC, sh, dx, fs, v1, v2, v3, rfl, hob, l1, hsp⟩ := h
  have szl : (1000 : Nat) < sizeLine := by decide
  refine ⟨_, cl, _, hC, pe_methS (pv 0) X M G hr bd (fun σ => passAt (takes_of rfl rfl rfl rfl) σ) (pa_cons (pv 1) (pa_cons (pv 2) (pa_cons (pv 3) (pa_cons pe_str pa_nil)))), ?_⟩
  exact ⟨_, rfl, sh, dx, fs, rfl, hob, l1, _, rfl, _, rfl, _, rfl, hsp⟩
def rw_p2 (K : PySem.W.Frag) (S : Addr) (sp : Sp) : TGK.RW := fun ws H Q E => ∃ (sh dx : Addr) (fs : List (Str × V)) (v1 v2 v3 : V), ws = [some (.ref sh), some v1, some v2, some v3] ∧ H sh = some (.ins S dx fs) ∧ fs.lookup ("erase" : Str) = none ∧ sp [.ref sh, v1, v2, v3] H Q E
theorem lok_p2 {k : Nat} {q : Str} {c' f g t : Addr} {fdg : FuncData} {lc : List (Str × Addr)} {v0 : V} {sp : Sp} (T : Txt mg) (X : Cls K S) (M : Meth K S "erase" g) (G : FnOk P w K mg base (L2.CX P w) k g fdg ["self", "number", "cell", "place"] sp) (bd : Binds K fdg ["self", "number", "cell", "place"] []) :
    LamW P w K mg base (k + 1) f (HfD f ⟨"<lambda>", q, lm_p2.1, [], lm_p2.2.2, lc, c'⟩ lm_p2.2.1 t v0) (TGK.spLamR fr_p2 (rw_p2 K S sp) ⟨"<lambda>", q, lm_p2.1, [], lm_p2.2.2, lc, c'⟩) := by
  refine lamw_d (N := ["_law_a", "_law_sheet", "_law_number", "_law_cell_here", "_law_place"]) (fr := fr_p2) (nm := "_law_a") sc_p2 rfl rfl rfl rfl rfl key_p2 fun A outer s H Q E hr h => ?_
  obtain ⟨_, ws, cl, hC, sh, dx, fs, v1, v2, v3, rfl, hob, l1, hsp⟩ := h
  have szl : (1000 : Nat) < sizeLine := by decide
  refine ⟨_, cl, _, hC, pe_methS (pv 1) X M G hr bd (fun σ => passAt (takes_of rfl rfl rfl rfl) σ) (pa_cons (pv 2) (pa_cons (pv 3) (pa_cons (pv 4) pa_nil))), ?_⟩
  exact ⟨_, rfl, sh, dx, fs, rfl, hob, l1, _, rfl, _, rfl, _, rfl, hsp⟩
def rw_p3 (K : PySem.W.Frag) (S : Addr) (sp : Sp) : TGK.RW := fun ws H Q E => ∃ (sh dx : Addr) (fs : List (Str × V)) (v1 v2 v3 : V), ws = [some (.ref sh), some v1, some v2, some v3] ∧ H sh = some (.ins S dx fs) ∧ fs.lookup ("part" : Str) = none ∧ sp [.ref sh, v1, v2, v3] H Q E
theorem lok_p3 {k : Nat} {q : Str} {c' f g t : Addr} {fdg : FuncData} {lc : List (Str × Addr)} {v0 : V} {sp : Sp} (T : Txt mg) (X : Cls K S) (M : Meth K S "part" g) (G : FnOk P w K mg base (L2.CX P w) k g fdg ["self", "number", "cell", "place"] sp) (bd : Binds K fdg ["self", "number", "cell", "place"] []) :
    LamW P w K mg base (k + 1) f (HfD f ⟨"<lambda>", q, lm_p3.1, [], lm_p3.2.2, lc, c'⟩ lm_p3.2.1 t v0) (TGK.spLamR fr_p3 (rw_p3 K S sp) ⟨"<lambda>", q, lm_p3.1, [], lm_p3.2.2, lc, c'⟩) := by
  refine lamw_d (N := ["_law_b", "_law_sheet", "_law_number", "_law_cell_here", "_law_place"]) (fr := fr_p3) (nm := "_law_b") sc_p3 rfl rfl rfl rfl rfl key_p3 fun A outer s H Q E hr h => ?_
  obtain ⟨_, ws, cl, hC, sh, dx, fs, v1, v2, v3, rfl, hob, l1, hsp⟩ := h
  have szl : (1000 : Nat) < sizeLine := by decide
  refine ⟨_, cl, _, hC, pe_methS (pv 1) X M G hr bd (fun σ => passAt (takes_of rfl rfl rfl rfl) σ) (pa_cons (pv 2) (pa_cons (pv 3) (pa_cons (pv 4) pa_nil))), ?_⟩
  exact ⟨_, rfl, sh, dx, fs, rfl, hob, l1, _, rfl, _, rfl, _, rfl, hsp⟩
def rw_p4 (K : PySem.W.Frag) (S : Addr) (sp : Sp) : TGK.RW := fun ws H Q E => ∃ (sh dx : Addr) (fs : List (Str × V)) (v1 v2 v3 : V), ws = [some (.ref sh), some v1, some v2, some v3] ∧ H sh = some (.ins S dx fs) ∧ fs.lookup ("strike" : Str) = none ∧ sp [.ref sh, v1, v2, .int 0, v3] H Q E
theorem lok_p4 {k : Nat} {q : Str} {c' f g t : Addr} {fdg : FuncData} {lc : List (Str × Addr)} {v0 : V} {sp : Sp} (T : Txt mg) (X : Cls K S) (M : Meth K S "strike" g) (G : FnOk P w K mg base (L2.CX P w) k g fdg ["self", "number", "cell", "place", "sign"] sp) (bd : Binds K fdg ["self", "number", "cell", "place", "sign"] []) :
    LamW P w K mg base (k + 1) f (HfD f ⟨"<lambda>", q, lm_p4.1, [], lm_p4.2.2, lc, c'⟩ lm_p4.2.1 t v0) (TGK.spLamR fr_p4 (rw_p4 K S sp) ⟨"<lambda>", q, lm_p4.1, [], lm_p4.2.2, lc, c'⟩) := by
  refine lamw_d (N := ["_law_c", "_law_sheet", "_law_number", "_law_k", "_law_sign_here"]) (fr := fr_p4) (nm := "_law_c") sc_p4 rfl rfl rfl rfl rfl key_p4 fun A outer s H Q E hr h => ?_
  obtain ⟨_, ws, cl, hC, sh, dx, fs, v1, v2, v3, rfl, hob, l1, hsp⟩ := h
  have szl : (1000 : Nat) < sizeLine := by decide
  refine ⟨_, cl, _, hC, pe_methS (pv 1) X M G hr bd (fun σ => passAt (takes_of rfl rfl rfl rfl) σ) (pa_cons (pv 2) (pa_cons (pv 3) (pa_cons pe_int (pa_cons (pv 4) pa_nil)))), ?_⟩
  exact ⟨_, rfl, sh, dx, fs, rfl, hob, l1, _, rfl, _, rfl, _, rfl, hsp⟩
def rw_r1 (K : PySem.W.Frag) (S : Addr) (sp : Sp) : TGK.RW := fun ws H Q E => ∃ (sh dx : Addr) (fs : List (Str × V)) (v1 v2 : V), ws = [some (.ref sh), some v1, some v2] ∧ H sh = some (.ins S dx fs) ∧ fs.lookup ("strike" : Str) = none ∧ sp [.ref sh, v1, v2, .int 10, .str "a"] H Q E
theorem lok_r1 {k : Nat} {q : Str} {c' f g : Addr} {fdg : FuncData} {lc : List (Str × Addr)} {sp : Sp} (T : Txt mg) (X : Cls K S) (M : Meth K S "strike" g) (G : FnOk P w K mg base (L2.CX P w) k g fdg ["self", "number", "cell", "place", "sign"] sp) (bd : Binds K fdg ["self", "number", "cell", "place", "sign"] []) :
    LamW P w K mg base (k + 1) f (HfL f ⟨"<lambda>", q, lm_r1.1, [], lm_r1.2.2, lc, c'⟩ lm_r1.2.1) (TGK.spLamR fr_r1 (rw_r1 K S sp) ⟨"<lambda>", q, lm_r1.1, [], lm_r1.2.2, lc, c'⟩) := by
  refine lamw_l (lokx_of (N := fr_r1) (fr := fr_r1) sc_r1 (fun pm ctv => rfl) fun A outer s H Q E hr h => ?_)
  obtain ⟨_, ws, cl, hC, sh, dx, fs, v1, v2, rfl, hob, l1, hsp⟩ := h
  have szl : (1000 : Nat) < sizeLine := by decide
  refine ⟨_, cl, _, hC, pe_methS (pv 0) X M G hr bd (fun σ => passAt (takes_of rfl rfl rfl rfl) σ) (pa_cons (pv 1) (pa_cons (pv 2) (pa_cons pe_int (pa_cons pe_str pa_nil)))), ?_⟩
  exact ⟨_, rfl, sh, dx, fs, rfl, hob, l1, _, rfl, _, rfl, hsp⟩
def rw_r2 (K : PySem.W.Frag) (S : Addr) (sp : Sp) : TGK.RW := fun ws H Q E => ∃ (sh dx : Addr) (fs : List (Str × V)) (v1 : V), ws = [some (.ref sh), some v1] ∧ H sh = some (.ins S dx fs) ∧ fs.lookup ("strike" : Str) = none ∧ sp [.ref sh, v1, .int 5, .int 0, .str "\t"] H Q E
theorem lok_r2 {k : Nat} {q : Str} {c' f g t : Addr} {fdg : FuncData} {lc : List (Str × Addr)} {v0 : V} {sp : Sp} (T : Txt mg) (X : Cls K S) (M : Meth K S "strike" g) (G : FnOk P w K mg base (L2.CX P w) k g fdg ["self", "number", "cell", "place", "sign"] sp) (bd : Binds K fdg ["self", "number", "cell", "place", "sign"] []) :
    LamW P w K mg base (k + 1) f (HfD f ⟨"<lambda>", q, lm_r2.1, [], lm_r2.2.2, lc, c'⟩ lm_r2.2.1 t v0) (TGK.spLamR fr_r2 (rw_r2 K S sp) ⟨"<lambda>", q, lm_r2.1, [], lm_r2.2.2, lc, c'⟩) := by
  refine lamw_d (N := ["_law_a", "_law_sheet", "_law_number"]) (fr := fr_r2) (nm := "_law_a") sc_r2 rfl rfl rfl rfl rfl key_r2 fun A outer s H Q E hr h => ?_
  obtain ⟨_, ws, cl, hC, sh, dx, fs, v1, rfl, hob, l1, hsp⟩ := h
  have szl : (1000 : Nat) < sizeLine := by decide
  refine ⟨_, cl, _, hC, pe_methS (pv 1) X M G hr bd (fun σ => passAt (takes_of rfl rfl rfl rfl) σ) (pa_cons (pv 2) (pa_cons pe_int (pa_cons pe_int (pa_cons pe_str pa_nil)))), ?_⟩
  exact ⟨_, rfl, sh, dx, fs, rfl, hob, l1, _, rfl, hsp⟩
def rw_r3 (K : PySem.W.Frag) (S : Addr) (sp : Sp) : TGK.RW := fun ws H Q E => ∃ (sh dx : Addr) (fs : List (Str × V)) (v : V) (j : Nat) (q : Addr) (r : List Str) (z : Str), ws = [some (.ref sh), some v, some (.int (j : Nat)), some (.ref q)] ∧ H sh = some (.ins S dx fs) ∧ fs.lookup ("erase" : Str) = none ∧ SqT K H q (sV r) ∧ r[j]? = some z ∧ z.length ≤ 1000 ∧ sp [.ref sh, v, .int (j : Nat), .int (z.length : Nat)] H Q E
theorem lok_r3 {k : Nat} {q : Str} {c' f g t : Addr} {fdg : FuncData} {lc : List (Str × Addr)} {v0 : V} {sp : Sp} (T : Txt mg) (X : Cls K S) (M : Meth K S "erase" g) (G : FnOk P w K mg base (L2.CX P w) k g fdg ["self", "number", "cell", "place"] sp) (bd : Binds K fdg ["self", "number", "cell", "place"] []) :
    LamW P w K mg base (k + 1) f (HfD f ⟨"<lambda>", q, lm_r3.1, [], lm_r3.2.2, lc, c'⟩ lm_r3.2.1 t v0) (TGK.spLamR fr_r3 (rw_r3 K S sp) ⟨"<lambda>", q, lm_r3.1, [], lm_r3.2.2, lc, c'⟩) := by
  refine lamw_d (N := ["_law_b", "_law_sheet", "_law_number", "_law_j", "_law_row_here"]) (fr := fr_r3) (nm := "_law_b") sc_r3 rfl rfl rfl rfl rfl key_r3 fun A outer s H Q E hr h => ?_
  obtain ⟨_, ws, cl, hC, sh, dx, fs, v, j, q, r, z, rfl, hob, l1, hq, hz, hl, hsp⟩ := h
  have szl : (1000 : Nat) < sizeLine := by decide
  refine ⟨_, cl, _, hC, pe_methS (pv 1) X M G hr bd (fun σ => passAt (takes_of rfl rfl rfl rfl) σ) (pa_cons (pv 2) (pa_cons (pv 3) (pa_cons (pe_callB call_len_str (by rfl) T.len PySem.boot_len (pa_cons (pe_ix ix_tup (pv 4) (pv 3) (fun _ _ => rfl)) pa_nil)) pa_nil))), ?_⟩
  exact ⟨_, rfl, sh, dx, fs, rfl, hob, l1, _, rfl, _, rfl, _, rfl, _, rfl, q, _, _, .str z, rfl, rfl, hq, atI_nat (by rw [List.getElem?_map, hz]; rfl), z, rfl, by omega, hsp⟩
def rw_r4 (K : PySem.W.Frag) (S : Addr) (sp : Sp) : TGK.RW := fun ws H Q E => ∃ (sh dx : Addr) (fs : List (Str × V)) (v : V) (q : Addr) (r : List Str) (z : Str), ws = [some (.ref sh), some v, some (.ref q)] ∧ H sh = some (.ins S dx fs) ∧ fs.lookup ("erase" : Str) = none ∧ SqT K H q (sV r) ∧ r.getLast? = some z ∧ z.length ≤ 1000 ∧ sp [.ref sh, v, .int ((r.length - 1 : Nat) : Int), .int (z.length : Nat)] H Q E
theorem lok_r4 {k : Nat} {q : Str} {c' f g t : Addr} {fdg : FuncData} {lc : List (Str × Addr)} {v0 : V} {sp : Sp} (T : Txt mg) (X : Cls K S) (M : Meth K S "erase" g) (G : FnOk P w K mg base (L2.CX P w) k g fdg ["self", "number", "cell", "place"] sp) (bd : Binds K fdg ["self", "number", "cell", "place"] []) :
    LamW P w K mg base (k + 1) f (HfD f ⟨"<lambda>", q, lm_r4.1, [], lm_r4.2.2, lc, c'⟩ lm_r4.2.1 t v0) (TGK.spLamR fr_r4 (rw_r4 K S sp) ⟨"<lambda>", q, lm_r4.1, [], lm_r4.2.2, lc, c'⟩) := by
  refine lamw_d (N := ["_law_c", "_law_sheet", "_law_number", "_law_row_here"]) (fr := fr_r4) (nm := "_law_c") sc_r4 rfl rfl rfl rfl rfl key_r4 fun A outer s H Q E hr h => ?_
  obtain ⟨_, ws, cl, hC, sh, dx, fs, v, q, r, z, rfl, hob, l1, hq, hz, hl, hsp⟩ := h
  have szl : (1000 : Nat) < sizeLine := by decide
  refine ⟨_, cl, _, hC, pe_methS (pv 1) X M G hr bd (fun σ => passAt (takes_of rfl rfl rfl rfl) σ) (pa_cons (pv 2) (pa_cons (pe_op op_sub (pe_callB call_len_seq (by rfl) T.len PySem.boot_len (pa_cons (pv 3) pa_nil)) pe_int) (pa_cons (pe_callB call_len_str (by rfl) T.len PySem.boot_len (pa_cons (pe_ix ix_tup (pv 3) (pe_un un_neg pe_int) (fun _ _ => rfl)) pa_nil)) pa_nil))), ?_⟩
  have hz0 := hz
  rw [List.getLast?_eq_getElem?] at hz
  have hr0 := (List.getElem?_eq_some_iff.mp hz).1
  have hlr : (sV r).length = r.length := List.length_map ..
  have el : (((sV r).length : Nat) : Int) - 1 = ((r.length - 1 : Nat) : Int) := by rw [hlr]; omega
  have hat : atI (sV r) (-1) = some (V.str z) := by
    unfold atI ixN
    rw [hlr, if_neg (by decide), if_pos (by omega)]
    show (sV r)[(-1 + (r.length : Int)).toNat]? = _
    rw [show (-1 + (r.length : Int)).toNat = r.length - 1 by omega, List.getElem?_map, hz]
    rfl
  refine ⟨_, rfl, sh, dx, fs, rfl, hob, l1, _, rfl, _, rfl, q, _, rfl, .inr hq, _, _, rfl, rfl, ?_⟩
  dsimp only
  rw [el]
  exact ⟨_, rfl, _, rfl, q, _, _, .str z, rfl, rfl, hq, hat, z, rfl, by omega, hsp⟩
def rw_r5 (K : PySem.W.Frag) (S : Addr) (sp : Sp) : TGK.RW := fun ws H Q E => ∃ (sh dx : Addr) (fs : List (Str × V)) (v1 : V), ws = [some (.ref sh), some v1] ∧ H sh = some (.ins S dx fs) ∧ fs.lookup ("unite" : Str) = none ∧ sp [.ref sh, v1] H Q E
theorem lok_r5 {k : Nat} {q : Str} {c' f g t : Addr} {fdg : FuncData} {lc : List (Str × Addr)} {v0 : V} {sp : Sp} (T : Txt mg) (X : Cls K S) (M : Meth K S "unite" g) (G : FnOk P w K mg base (L2.CX P w) k g fdg ["self", "number"] sp) (bd : Binds K fdg ["self", "number"] []) :
    LamW P w K mg base (k + 1) f (HfD f ⟨"<lambda>", q, lm_r5.1, [], lm_r5.2.2, lc, c'⟩ lm_r5.2.1 t v0) (TGK.spLamR fr_r5 (rw_r5 K S sp) ⟨"<lambda>", q, lm_r5.1, [], lm_r5.2.2, lc, c'⟩) := by
  refine lamw_d (N := ["_law_d", "_law_sheet", "_law_number"]) (fr := fr_r5) (nm := "_law_d") sc_r5 rfl rfl rfl rfl rfl key_r5 fun A outer s H Q E hr h => ?_
  obtain ⟨_, ws, cl, hC, sh, dx, fs, v1, rfl, hob, l1, hsp⟩ := h
  have szl : (1000 : Nat) < sizeLine := by decide
  refine ⟨_, cl, _, hC, pe_methS (pv 1) X M G hr bd (fun σ => passAt (takes_of rfl rfl rfl rfl) σ) (pa_cons (pv 2) pa_nil), ?_⟩
  exact ⟨_, rfl, sh, dx, fs, rfl, hob, l1, _, rfl, hsp⟩
def rw_l1 (K : PySem.W.Frag) (S : Addr) (sp : Sp) : TGK.RW := fun ws H Q E => ∃ (sh dx : Addr) (fs : List (Str × V)) (v1 v2 : V), ws = [some (.ref sh), some v1, some v2] ∧ H sh = some (.ins S dx fs) ∧ fs.lookup ("put" : Str) = none ∧ sp [.ref sh, v1, v2] H Q E
theorem lok_l1 {k : Nat} {q : Str} {c' f g : Addr} {fdg : FuncData} {lc : List (Str × Addr)} {sp : Sp} (T : Txt mg) (X : Cls K S) (M : Meth K S "put" g) (G : FnOk P w K mg base (L2.CX P w) k g fdg ["self", "number", "row"] sp) (bd : Binds K fdg ["self", "number", "row"] []) :
    LamW P w K mg base (k + 1) f (HfL f ⟨"<lambda>", q, lm_l1.1, [], lm_l1.2.2, lc, c'⟩ lm_l1.2.1) (TGK.spLamR fr_l1 (rw_l1 K S sp) ⟨"<lambda>", q, lm_l1.1, [], lm_l1.2.2, lc, c'⟩) := by
  refine lamw_l (lokx_of (N := fr_l1) (fr := fr_l1) sc_l1 (fun pm ctv => rfl) fun A outer s H Q E hr h => ?_)
  obtain ⟨_, ws, cl, hC, sh, dx, fs, v1, v2, rfl, hob, l1, hsp⟩ := h
  have szl : (1000 : Nat) < sizeLine := by decide
  refine ⟨_, cl, _, hC, pe_methS (pv 0) X M G hr bd (fun σ => passAt (takes_of rfl rfl rfl rfl) σ) (pa_cons (pv 1) (pa_cons (pv 2) pa_nil)), ?_⟩
  exact ⟨_, rfl, sh, dx, fs, rfl, hob, l1, _, rfl, _, rfl, hsp⟩
def rw_l2 (K : PySem.W.Frag) (S : Addr) (sp : Sp) : TGK.RW := fun ws H Q E => ∃ (sh dx : Addr) (fs : List (Str × V)) (v1 v2 : V), ws = [some (.ref sh), some v1, some v2] ∧ H sh = some (.ins S dx fs) ∧ fs.lookup ("change" : Str) = none ∧ sp [.ref sh, v1, v2] H Q E
theorem lok_l2 {k : Nat} {q : Str} {c' f g t : Addr} {fdg : FuncData} {lc : List (Str × Addr)} {v0 : V} {sp : Sp} (T : Txt mg) (X : Cls K S) (M : Meth K S "change" g) (G : FnOk P w K mg base (L2.CX P w) k g fdg ["self", "number", "row"] sp) (bd : Binds K fdg ["self", "number", "row"] []) :
    LamW P w K mg base (k + 1) f (HfD f ⟨"<lambda>", q, lm_l2.1, [], lm_l2.2.2, lc, c'⟩ lm_l2.2.1 t v0) (TGK.spLamR fr_l2 (rw_l2 K S sp) ⟨"<lambda>", q, lm_l2.1, [], lm_l2.2.2, lc, c'⟩) := by
  refine lamw_d (N := ["_law_a", "_law_sheet", "_law_at", "_law_bad"]) (fr := fr_l2) (nm := "_law_a") sc_l2 rfl rfl rfl rfl rfl key_l2 fun A outer s H Q E hr h => ?_
  obtain ⟨_, ws, cl, hC, sh, dx, fs, v1, v2, rfl, hob, l1, hsp⟩ := h
  have szl : (1000 : Nat) < sizeLine := by decide
  refine ⟨_, cl, _, hC, pe_methS (pv 1) X M G hr bd (fun σ => passAt (takes_of rfl rfl rfl rfl) σ) (pa_cons (pv 2) (pa_cons (pv 3) pa_nil)), ?_⟩
  exact ⟨_, rfl, sh, dx, fs, rfl, hob, l1, _, rfl, _, rfl, hsp⟩
def rw_l3 (K : PySem.W.Frag) (S : Addr) (sp : Sp) : TGK.RW := fun ws H Q E => ∃ (sh dx : Addr) (fs : List (Str × V)), ws = [some (.ref sh)] ∧ H sh = some (.ins S dx fs) ∧ fs.lookup ("put" : Str) = none ∧ ∀ e, H e = none → sp [.ref sh, .int 30, .ref e] (upd H e (.tup [.str "a"])) Q E
theorem lok_l3 {k : Nat} {q : Str} {c' f g : Addr} {fdg : FuncData} {lc : List (Str × Addr)} {sp : Sp} (T : Txt mg) (X : Cls K S) (M : Meth K S "put" g) (G : FnOk P w K mg base (L2.CX P w) k g fdg ["self", "number", "row"] sp) (bd : Binds K fdg ["self", "number", "row"] []) :
    LamW P w K mg base (k + 1) f (HfL f ⟨"<lambda>", q, lm_l3.1, [], lm_l3.2.2, lc, c'⟩ lm_l3.2.1) (TGK.spLamR fr_l3 (rw_l3 K S sp) ⟨"<lambda>", q, lm_l3.1, [], lm_l3.2.2, lc, c'⟩) := by
  refine lamw_l (lokx_of (N := fr_l3) (fr := fr_l3) sc_l3 (fun pm ctv => rfl) fun A outer s H Q E hr h => ?_)
  obtain ⟨_, ws, cl, hC, sh, dx, fs, rfl, hob, l1, hsp⟩ := h
  have szl : (1000 : Nat) < sizeLine := by decide
  refine ⟨_, cl, _, hC, pe_methS (pv 0) X M G hr bd (fun σ => passAt (takes_of rfl rfl rfl rfl) σ) (pa_cons pe_int (pa_cons (pe_tup (pa_cons pe_str pa_nil)) pa_nil)), ?_⟩
  exact ⟨_, rfl, sh, dx, fs, rfl, hob, l1, by show 1 ≤ sizeLine; decide, fun e ne => hsp e ne⟩
def rw_l4 (K : PySem.W.Frag) (S : Addr) (sp : Sp) : TGK.RW := fun ws H Q E => ∃ (sh dx : Addr) (fs : List (Str × V)) (v1 : V), ws = [some (.ref sh), some v1] ∧ H sh = some (.ins S dx fs) ∧ fs.lookup ("part" : Str) = none ∧ sp [.ref sh, v1, .int 0, .int 0] H Q E
theorem lok_l4 {k : Nat} {q : Str} {c' f g t : Addr} {fdg : FuncData} {lc : List (Str × Addr)} {v0 : V} {sp : Sp} (T : Txt mg) (X : Cls K S) (M : Meth K S "part" g) (G : FnOk P w K mg base (L2.CX P w) k g fdg ["self", "number", "cell", "place"] sp) (bd : Binds K fdg ["self", "number", "cell", "place"] []) :
    LamW P w K mg base (k + 1) f (HfD f ⟨"<lambda>", q, lm_l4.1, [], lm_l4.2.2, lc, c'⟩ lm_l4.2.1 t v0) (TGK.spLamR fr_l4 (rw_l4 K S sp) ⟨"<lambda>", q, lm_l4.1, [], lm_l4.2.2, lc, c'⟩) := by
  refine lamw_d (N := ["_law_a", "_law_sheet", "_law_at"]) (fr := fr_l4) (nm := "_law_a") sc_l4 rfl rfl rfl rfl rfl key_l4 fun A outer s H Q E hr h => ?_
  obtain ⟨_, ws, cl, hC, sh, dx, fs, v1, rfl, hob, l1, hsp⟩ := h
  have szl : (1000 : Nat) < sizeLine := by decide
  refine ⟨_, cl, _, hC, pe_methS (pv 1) X M G hr bd (fun σ => passAt (takes_of rfl rfl rfl rfl) σ) (pa_cons (pv 2) (pa_cons pe_int (pa_cons pe_int pa_nil))), ?_⟩
  exact ⟨_, rfl, sh, dx, fs, rfl, hob, l1, _, rfl, hsp⟩
def rw_l5 (K : PySem.W.Frag) (S : Addr) (sp : Sp) : TGK.RW := fun ws H Q E => ∃ (sh dx : Addr) (fs : List (Str × V)) (n : Nat) (pg : Addr) (as : List Addr) (q : Addr), ws = [some (.ref sh), some (.int (n : Nat)), some (.ref pg)] ∧ H sh = some (.ins S dx fs) ∧ fs.lookup ("put" : Str) = none ∧ H pg = some (.lst (as.map V.ref)) ∧ as[n]? = some q ∧ sp [.ref sh, .int (n : Nat), .ref q] H Q E
theorem lok_l5 {k : Nat} {q : Str} {c' f g t : Addr} {fdg : FuncData} {lc : List (Str × Addr)} {v0 : V} {sp : Sp} (T : Txt mg) (X : Cls K S) (M : Meth K S "put" g) (G : FnOk P w K mg base (L2.CX P w) k g fdg ["self", "number", "row"] sp) (bd : Binds K fdg ["self", "number", "row"] []) :
    LamW P w K mg base (k + 1) f (HfD f ⟨"<lambda>", q, lm_l5.1, [], lm_l5.2.2, lc, c'⟩ lm_l5.2.1 t v0) (TGK.spLamR fr_l5 (rw_l5 K S sp) ⟨"<lambda>", q, lm_l5.1, [], lm_l5.2.2, lc, c'⟩) := by
  refine lamw_d (N := ["_law_b", "_law_sheet", "_law_at", "_law_rows"]) (fr := fr_l5) (nm := "_law_b") sc_l5 rfl rfl rfl rfl rfl key_l5 fun A outer s H Q E hr h => ?_
  obtain ⟨_, ws, cl, hC, sh, dx, fs, n, pg, as, q, rfl, hob, l1, hpg, hq, hsp⟩ := h
  have szl : (1000 : Nat) < sizeLine := by decide
  refine ⟨_, cl, _, hC, pe_methS (pv 1) X M G hr bd (fun σ => passAt (takes_of rfl rfl rfl rfl) σ) (pa_cons (pv 2) (pa_cons (pe_ix ix_list (pv 3) (pv 2) (fun _ _ => rfl)) pa_nil)), ?_⟩
  exact ⟨_, rfl, sh, dx, fs, rfl, hob, l1, _, rfl, _, rfl, _, rfl, pg, _, _, .ref q, rfl, rfl, SqL.of hpg, atI_nat (by rw [List.getElem?_map, hq]; rfl), hsp⟩
def rw_l6 (K : PySem.W.Frag) (S : Addr) (sp : Sp) : TGK.RW := fun ws H Q E => ∃ (sh dx : Addr) (fs : List (Str × V)), ws = [some (.ref sh)] ∧ H sh = some (.ins S dx fs) ∧ fs.lookup ("take" : Str) = none ∧ sp [.ref sh, .int 0] H Q E
theorem lok_l6 {k : Nat} {q : Str} {c' f g : Addr} {fdg : FuncData} {lc : List (Str × Addr)} {sp : Sp} (T : Txt mg) (X : Cls K S) (M : Meth K S "take" g) (G : FnOk P w K mg base (L2.CX P w) k g fdg ["self", "number"] sp) (bd : Binds K fdg ["self", "number"] []) :
    LamW P w K mg base (k + 1) f (HfL f ⟨"<lambda>", q, lm_l6.1, [], lm_l6.2.2, lc, c'⟩ lm_l6.2.1) (TGK.spLamR fr_l6 (rw_l6 K S sp) ⟨"<lambda>", q, lm_l6.1, [], lm_l6.2.2, lc, c'⟩) := by
  refine lamw_l (lokx_of (N := fr_l6) (fr := fr_l6) sc_l6 (fun pm ctv => rfl) fun A outer s H Q E hr h => ?_)
  obtain ⟨_, ws, cl, hC, sh, dx, fs, rfl, hob, l1, hsp⟩ := h
  have szl : (1000 : Nat) < sizeLine := by decide
  refine ⟨_, cl, _, hC, pe_methS (pv 0) X M G hr bd (fun σ => passAt (takes_of rfl rfl rfl rfl) σ) (pa_cons pe_int pa_nil), ?_⟩
  exact ⟨_, rfl, sh, dx, fs, rfl, hob, l1, hsp⟩
end
end TGK

namespace TGK
open TG
open PySem PySem.Spec PyProof.Rows L2 NdefX GenW Gx Lv Dl EnT
/-! ### a sheet beside the drawn numbers, a page and own lists -/
abbrev avX (b l : Addr) (X : Addr → Prop) : Addr → Prop := fun c => (c = b ∨ c = l) ∨ X c
structure SitP (K : PySem.W.Frag) (cs : List (Addr × Addr)) (S b l pg sh rl dl st : Addr) (as : List Addr) (rows0 : List (List Str)) (gap least : Int) (rows : List (List Str)) (ps : List (List (List Str))) (X : Addr → Prop) (H : Hp) : Prop where
  box : BoxAt H b l
  tab : Tabs cs H
  pg_ : H pg = some (.lst (as.map V.ref))
  at_ : RowsAt K H as rows0
  sht : ∃ as1 ts, ShtD K S H sh rl dl st as1 rows gap least ts ps (avX b l X)
  d : ∀ c, avX b l X c → c ≠ sh ∧ c ≠ rl ∧ c ≠ dl ∧ c ≠ pg
  dp : rl ≠ pg ∧ dl ≠ pg
  xb : ∀ c, X c → ¬ (c = b ∨ c = l)
section
variable {K : PySem.W.Frag} {cs : List (Addr × Addr)} {S b l pg sh rl dl st D : Addr} {as : List Addr} {rows0 : List (List Str)} {gap least : Int} {rows rows' : List (List Str)} {ps : List (List (List Str))} {X X' : Addr → Prop} {H H' : Hp}
theorem SitP.gw (o : SitP K cs S b l pg sh rl dl st as rows0 gap least rows ps X H) (x : LamX.ExtN H H') (t : Tabs cs H') : SitP K cs S b l pg sh rl dl st as rows0 gap least rows ps X H' := by
  obtain ⟨as1, ts, hS⟩ := o.sht
  exact ⟨box_ext o.box x, t, x _ _ o.pg_ (fun ps z => nomatch z), o.at_.gw x, ⟨as1, ts, hS.gw x⟩, o.d, o.dp, o.xb⟩
theorem SitP.ex (o : SitP K cs S b l pg sh rl dl st as rows0 gap least rows ps X H) (x : Ex cs H H') : SitP K cs S b l pg sh rl dl st as rows0 gap least rows ps X H' := o.gw x.ext x.tab
theorem SitP.draw (o : SitP K cs S b l pg sh rl dl st as rows0 gap least rows ps X H) (x : KB b l H H') (hB : BoxAt H' b l) : SitP K cs S b l pg sh rl dl st as rows0 gap least rows ps X H' := by
  obtain ⟨as1, ts, hS⟩ := o.sht
  have y := kb_km x
  have m := box_mob o.box
  exact ⟨hB, tabs_kb o.tab o.box x, y _ _ o.pg_ (fun ps z => nomatch z) (fun z => (o.d _ (.inl z)).2.2.2 rfl), o.at_.km y m, ⟨as1, ts, hS.km y m (box_mob hB) (fun c us h _ => .inl h) (fun z => (o.d _ (.inl z)).1 rfl) (fun z => (o.d _ (.inl z)).2.1 rfl) (fun z => (o.d _ (.inl z)).2.2.1 rfl)⟩, o.d, o.dp, o.xb⟩
/-- a deed is done -/
theorem SitP.deed {l0 : List (List V)} (o : SitP K cs S b l pg sh rl dl st as rows0 gap least rows ps X H) (dn : Done K cs S H H' sh rl dl st rows' gap least (rows :: ps) (avX b l X) D l0) : SitP K cs S b l pg sh rl dl st as rows0 gap least rows' (rows :: ps) X H' := by
  obtain ⟨as1, ts, hS⟩ := o.sht
  obtain ⟨as2, ts2, hS2⟩ := dn.sht
  obtain ⟨ns, s1, e1, e2, e3⟩ := o.box
  have q : ∀ {c : Addr} {us : List V}, avX b l X c → H c = some (.lst us) → H' c = some (.lst us) := fun {c us} h e => dn.ext _ _ e (.inl fun ps z => nomatch z) (o.d c h).2.1 (o.d c h).2.2.1
  refine ⟨⟨ns, s1, q (.inl (.inl rfl)) e1, q (.inl (.inr rfl)) e2, e3⟩, dn.tab, dn.ext _ _ o.pg_ (.inl fun ps z => nomatch z) o.dp.1.symm o.dp.2.symm, o.at_.exs dn.ext hS.rl_ hS.dl_, ⟨as2, ts2, hS2.less fun x h => .inl h⟩, o.d, o.dp, o.xb⟩
theorem SitP.keep {l0 : List (List V)} {c : Addr} {us : List V} (o : SitP K cs S b l pg sh rl dl st as rows0 gap least rows ps X H) (dn : Done K cs S H H' sh rl dl st rows' gap least (rows :: ps) (avX b l X) D l0) (hc : X c) (h : H c = some (.lst us)) : H' c = some (.lst us) :=
  dn.ext _ _ h (.inl fun ps z => nomatch z) (o.d c (.inr hc)).2.1 (o.d c (.inr hc)).2.2.1
/-- an own list changes -/
theorem SitP.own {c : Addr} {us ws : List V} (o : SitP K cs S b l pg sh rl dl st as rows0 gap least rows ps X H) (hc : X c) (h : H c = some (.lst us)) : SitP K cs S b l pg sh rl dl st as rows0 gap least rows ps X (upd H c (.lst ws)) := by
  obtain ⟨as1, ts, hS⟩ := o.sht
  have y := upd_km (H := H) (a := c) (o := .lst ws)
  have m : Mob H (fun q => q = c) := fun q e => .inl ⟨us, e ▸ h⟩
  have m' : Mob (upd H c (.lst ws)) (fun q => q = c) := fun q e => .inl ⟨ws, by rw [e]; exact upd_same⟩
  have dc := o.d c (.inr hc)
  obtain ⟨ns, s1, e1, e2, e3⟩ := o.box
  have nb := o.xb c hc
  refine ⟨⟨ns, s1, by rw [upd_ne fun e => nb (.inl e.symm)]; exact e1, by rw [upd_ne fun e => nb (.inr e.symm)]; exact e2, e3⟩, tabs_lst o.tab h, by rw [upd_ne dc.2.2.2.symm]; exact o.pg_, o.at_.km y m, ⟨as1, ts, hS.km y m m' (fun q us e _ => .inr (e ▸ hc)) (fun e => dc.1 e.symm) (fun e => dc.2.1 e.symm) (fun e => dc.2.2.1 e.symm)⟩, o.d, o.dp, o.xb⟩
theorem past_none {ts : List Addr} {ps : List (List (List Str))} {av : Addr → Prop} : ∀ {ts : List Addr} {as : List Addr} {ps : List (List (List Str))}, PastAt K H rl dl av as ts ps → PastAt K H rl dl (fun x => av x ∨ H x = none) as ts ps
  | [], _, [], _ => by unfold PastAt; trivial
  | [], _, _ :: _, h => by unfold PastAt at h; exact h.elim
  | _ :: _, _, [], h => by unfold PastAt at h; exact h.elim
  | t :: ts, as, rows :: ps, h => by
    unfold PastAt at h ⊢
    obtain ⟨n, m, oas, l, g1, g2, g3, g4, ga, g5, g6, g7, g8, g9⟩ := h
    exact ⟨n, m, oas, l, g1, g2, g3, g4, (fun q => q.elim ga fun z => by rw [g2] at z; cases z), g5, g6, g7, g8, past_none (ts := ts) (ps := ps) (av := av) g9⟩
/-- what is new since then is one's own -/
theorem SitP.adds (o : SitP K cs S b l pg sh rl dl st as rows0 gap least rows ps X H) (x : Ex cs H H') (hX : ∀ c, X' c → X c ∨ (H c = none ∧ ∃ xs, H' c = some (.lst xs))) : SitP K cs S b l pg sh rl dl st as rows0 gap least rows ps X' H' := by
  obtain ⟨as1, ts, hS⟩ := o.sht
  have o2 := o.ex x
  obtain ⟨dx, hsh⟩ := hS.she
  have hb : ∀ c, (c = b ∨ c = l) → H c ≠ none := fun c h e => by
    rcases box_mob o.box c h with ⟨us, g⟩ | ⟨_, _, _, g⟩ <;> rw [e] at g <;> cases g
  have S2 := hS.gw x.ext
  refine ⟨o2.box, o2.tab, o2.pg_, o2.at_, ⟨as1, ts, S2.she, S2.rl_, S2.dl_, S2.ne, S2.at_, S2.ok, S2.style, ((past_none (ts := ts) (ps := ps) (av := avX b l X) hS.past).gw x.ext).less fun c h => ?_, fun c h => ?_⟩, fun c h => ?_, o.dp, fun c h => ?_⟩
  · rcases h with h | h
    · exact .inl (.inl h)
    · exact (hX c h).imp .inr fun z => z.1
  · rcases h with h | h
    · exact S2.live c (.inl h)
    · rcases hX c h with z | ⟨_, us, z⟩
      · exact S2.live c (.inr z)
      · exact ⟨_, z, fun ps z => nomatch z⟩
  · rcases h with h | h
    · exact o.d c (.inl h)
    · rcases hX c h with z | ⟨z, _⟩
      · exact o.d c (.inr z)
      · exact ⟨(ne_of_none hsh z).symm, (ne_of_none hS.rl_ z).symm, (ne_of_none hS.dl_ z).symm, (ne_of_none o.pg_ z).symm⟩
  · rcases hX c h with z | ⟨z, _⟩
    · exact o.xb c z
    · exact fun w => hb c w z
theorem SitP.page (o : SitP K cs S b l pg sh rl dl st as rows0 gap least rows ps X H) : PageAt K H pg as rows0 := ⟨SqL.of o.pg_, o.at_.len, o.at_.row⟩
end
section
variable {K : PySem.W.Frag} {cs : List (Addr × Addr)} {S b l pg sh rl dl st : Addr} {as as1 : List Addr} {rows0 : List (List Str)} {gap least : Int} {rows : List (List Str)} {ps : List (List (List Str))} {X : Addr → Prop} {H H' H4 H8 : Hp}
theorem sitP_new (hB : BoxAt H4 b l) (pb : pg ≠ b) (pl : pg ≠ l) (hp : H4 pg = some (.lst (as.map V.ref))) (ha : RowsAt K H4 as rows0) (x48 : Ex cs H4 H8) (nsh : H4 sh = none) (nrl : H4 rl = none) (ndl : H4 dl = none) (hS : ShtD K S H8 sh rl dl st as1 rows gap least [] [] (fun _ => False)) : SitP K cs S b l pg sh rl dl st as rows0 gap least rows [] (fun _ => False) H8 := by
  have hB8 := box_ext hB x48.ext
  have bx : ∀ c, (c = b ∨ c = l) → H4 c ≠ none := by
    intro c h e
    rcases box_mob hB c h with ⟨us, g⟩ | ⟨_, _, _, g⟩
    · rw [e] at g
      cases g
    · rw [e] at g
      cases g
  have d1 : rl ≠ pg := fun e => by
    rw [← e, nrl] at hp
    cases hp
  have d2 : dl ≠ pg := fun e => by
    rw [← e, ndl] at hp
    cases hp
  refine ⟨hB8, x48.tab, x48.lst hp, ha.gw x48.ext, ⟨as1, [], hS.fresh fun c h => ?_⟩, fun c h => ?_, ⟨d1, d2⟩, fun c h => h.elim⟩
  · rcases h with h | h
    · obtain ⟨us, e⟩ | ⟨_, _, _, e⟩ := box_mob hB8 c h
      · exact ⟨_, e, fun ps z => nomatch z⟩
      · exact ⟨_, e, fun ps z => nomatch z⟩
    · exact h.elim
  · rcases h with h | h
    · refine ⟨fun e => bx c h (e ▸ nsh), fun e => bx c h (e ▸ nrl), fun e => bx c h (e ▸ ndl), fun e => ?_⟩
      exact h.elim (fun w => pb (e ▸ w)) (fun w => pl (e ▸ w))
    · exact h.elim
end
/-! ### all that stands: a sheet, its page, the tables of the lambdas -/
def KX (b l : Addr) (H H' : Hp) : Prop := ∀ c o, H c = some o → (∀ ps, o ≠ .tbl ps) → c ≠ b → c ≠ l → H' c = some o
theorem KX.refl {b l : Addr} {H : Hp} : KX b l H H := fun c o h _ _ _ => h
theorem KX.tr {b l : Addr} {H H1 H2 : Hp} (x : KX b l H H1) (y : KX b l H1 H2) : KX b l H H2 := fun c o h n n1 n2 => y c o (x c o h n n1 n2) n n1 n2
theorem kx_ext {b l : Addr} {H H' : Hp} (x : LamX.ExtN H H') : KX b l H H' := fun c o h n _ _ => x c o h n
theorem kx_kb {b l : Addr} {H H' : Hp} (x : KB b l H H') : KX b l H H' := fun c o h _ n1 n2 => x c o h n1 n2
theorem tabS_kb {b l p : Addr} {q : Str} {H H' : Hp} (t : LamX.TabS H p q) (B : BoxAt H b l) (x : KB b l H H') : LamX.TabS H' p q := by
  obtain ⟨ps, h1, h2, h3⟩ := t
  obtain ⟨ns, st, e1, e2, _⟩ := B
  have k : ∀ {c : Addr} {o : HO}, H c = some o → (∀ us, o ≠ .lst us) → H' c = some o := fun {c o} h n => x _ _ h (fun z => by rw [z, e1] at h; cases h; exact n _ rfl) (fun z => by rw [z, e2] at h; cases h; exact n _ rfl)
  refine ⟨ps, k h1 (fun us z => by cases z), h2, fun pos cv hc => ?_⟩
  obtain ⟨c, e1, e2⟩ := h3 pos cv hc
  exact ⟨c, e1, k e2 (fun us z => by unfold LamX.CodeO at z; cases z)⟩
/-- it stands beside the box -/
def Hd (b l : Addr) (H : Hp) (c : Addr) (o : HO) : Prop := H c = some o ∧ c ≠ b ∧ c ≠ l
theorem Hd.kx {b l c : Addr} {H H' : Hp} {o : HO} (h : Hd b l H c o) (x : KX b l H H') (n : ∀ ps, o ≠ .tbl ps) : Hd b l H' c o := ⟨x _ _ h.1 n h.2.1 h.2.2, h.2⟩
theorem Hd.kb {b l c : Addr} {H H' : Hp} {o : HO} (h : Hd b l H c o) (x : KB b l H H') : Hd b l H' c o := ⟨x _ _ h.1 h.2.1 h.2.2, h.2⟩
theorem Hd.gw {b l c : Addr} {H H' : Hp} {o : HO} (h : Hd b l H c o) (x : LamX.ExtN H H') (n : ∀ ps, o ≠ .tbl ps) : Hd b l H' c o := ⟨x _ _ h.1 n, h.2⟩
structure SitZ (K : PySem.W.Frag) (cs : List (Addr × Addr)) (S b l pg sh rl dl st : Addr) (as : List Addr) (gap least : Int) (rows : List (List Str)) (tbs : List (Addr × Str)) (H : Hp) : Prop where
  o : SitP K cs S b l pg sh rl dl st as rows gap least rows [] (fun _ => False) H
  tb : ∀ p ∈ tbs, LamX.TabS H p.1 p.2
/-- the tables stand apart -/
structure Tbs (cs : List (Addr × Addr)) (tbs : List (Addr × Str)) : Prop where
  ap : ∀ p ∈ tbs, TG.Apart cs p.1
  nd : ∀ p ∈ tbs, ∀ p' ∈ tbs, p.1 = p'.1 → p.2 = p'.2
section
variable {K : PySem.W.Frag} {cs : List (Addr × Addr)} {S b l pg sh rl dl st c p q : Addr} {qn : Str} {as : List Addr} {gap least : Int} {rows : List (List Str)} {tbs : List (Addr × Str)} {H H' : Hp}
theorem SitZ.ex (o : SitZ K cs S b l pg sh rl dl st as gap least rows tbs H) (ne : Tbs cs tbs) (x : Ex cs H H') : SitZ K cs S b l pg sh rl dl st as gap least rows tbs H' := ⟨o.o.ex x, fun p hp => tabS_ex x (ne.ap p hp) (o.tb p hp)⟩
theorem SitZ.draw (o : SitZ K cs S b l pg sh rl dl st as gap least rows tbs H) (x : KB b l H H') (hB : BoxAt H' b l) : SitZ K cs S b l pg sh rl dl st as gap least rows tbs H' := ⟨o.o.draw x hB, fun p hp => tabS_kb (o.tb p hp) o.o.box x⟩
theorem SitZ.lam (o : SitZ K cs S b l pg sh rl dl st as gap least rows tbs H) (ne : Tbs cs tbs) (hp : (p, qn) ∈ tbs) (k1 : ∀ b o, H b = some o → b ≠ p → H' b = some o) (k2 : ∀ b, H' b = none → H b = none) (t : LamX.TabS H' p qn) : SitZ K cs S b l pg sh rl dl st as gap least rows tbs H' ∧ LamX.ExtN H H' := by
  have x := ex_lam (c := p) o.o.tab (ne.ap _ hp) (o.tb _ hp) k1 k2 t
  refine ⟨⟨o.o.gw x.ext (tabs_less x.tab), fun p' hp' => ?_⟩, x.ext⟩
  by_cases e : p'.1 = p
  · have e2 := ne.nd p' hp' (p, qn) hp e
    have e2 : p'.2 = qn := e2
    rw [e, e2]
    exact t
  · obtain ⟨ps, h1, h2, h3⟩ := o.tb p' hp'
    exact ⟨ps, k1 _ _ h1 e, h2, fun pos cv hcv => by
      obtain ⟨c0, e0, e1⟩ := h3 pos cv hcv
      refine ⟨c0, e0, x.ext _ _ e1 LamX.codeO_ne⟩⟩
theorem SitZ.new (o : SitZ K cs S b l pg sh rl dl st as gap least rows tbs H) (ne : Tbs cs tbs) {u : HO} (n : H q = none) : SitZ K cs S b l pg sh rl dl st as gap least rows tbs (upd H q u) ∧ Hd b l (upd H q u) q u ∧ LamX.ExtN H (upd H q u) := by
  have x := Ex.laid (o := u) o.o.tab n
  obtain ⟨d1, d2⟩ := new_ne o.o.box n
  exact ⟨o.ex ne x, ⟨upd_same, d1, d2⟩, x.ext⟩
theorem same_add {cl : List (Addr × Obj)} (un : ∀ c o, cl.lookup c = some o → H c = none) : Same H (addC H cl) := fun b u h => add_at un h
theorem SitZ.sht (o : SitZ K cs S b l pg sh rl dl st as gap least rows tbs H) : ∃ as1 ts, ShtD K S H sh rl dl st as1 rows gap least ts [] (avX b l fun _ => False) := o.o.sht
theorem SitZ.she (o : SitZ K cs S b l pg sh rl dl st as gap least rows tbs H) : ∃ dx, H sh = some (.ins S dx [("rows", .ref rl), ("style", .ref st), ("deeds", .ref dl)]) := by
  obtain ⟨as1, ts, h⟩ := o.sht
  exact h.she
end
theorem HfLgw {f : Addr} {F : _} {e : _} {H H' : Hp} (h : HfL f F e H) (x : LamX.ExtN H H') : HfL f F e H' := ⟨x _ _ h.1 fnL_ne, x _ _ h.2 LamX.codeO_ne⟩
theorem HfDgw {f t : Addr} {F : _} {e : _} {v : V} {H H' : Hp} (h : HfD f F e t v H) (x : LamX.ExtN H H') : HfD f F e t v H' := ⟨x _ _ h.1 fnD_ne, x _ _ h.2.1 LamX.codeO_ne, x _ _ h.2.2 fun ps z => nomatch z⟩
theorem err_of {K : PySem.W.Frag} {H : Hp} {C : Addr} {j : Nat} (lt : j < 11) (fl : flE j = "") (e : C = He.ga K (nmE j)) : ErrAt K H j 0 (.ref C) none := ⟨lt, by rw [e], fun n => absurd fl n, fun _ => ⟨rfl, rfl⟩⟩
theorem tabs_addC {cs : List (Addr × Addr)} {H : Hp} {cl : List (Addr × Obj)} (t : Tabs cs H) (un : ∀ c o, cl.lookup c = some o → H c = none) : Tabs cs (addC H cl) := fun q hq => by
  obtain ⟨u, g1, g2⟩ := t q hq
  exact ⟨u, add_at un g1, g2⟩
theorem fld_no (a c d : Addr) {x : Str} (h : x ≠ "rows" ∧ x ≠ "style" ∧ x ≠ "deeds") : ([("rows", V.ref a), ("style", V.ref c), ("deeds", V.ref d)] : List (Str × V)).lookup x = none := by
  simp only [List.lookup, beq_eq_false_iff_ne.mpr h.1, beq_eq_false_iff_ne.mpr h.2.1, beq_eq_false_iff_ne.mpr h.2.2]
theorem KX.put {b l w : Addr} {H H0 H' : Hp} {u : HO} (k0 : KX b l H H0) (k : KX b l H H') (n : H0 w = none) : KX b l H (upd H' w u) := fun c o h nt n1 n2 => by
  rw [upd_ne (fun e => by have := k0 c o h nt n1 n2; rw [e, n] at this; cases this)]
  exact k c o h nt n1 n2
theorem put_nl {w c : Addr} {H : Hp} {us ws : List V} {o : HO} (hw : H w = some (.lst us)) (h : H c = some o) (n : ∀ us, o ≠ .lst us) : upd H w (.lst ws) c = some o := by
  rw [upd_ne (fun e => by rw [e, hw] at h; cases h; exact n _ rfl)]
  exact h
theorem fnL_nl {f : Addr} {F : NF} {e : Expr} : ∀ us, FnL f F e ≠ .lst us := fun us z => by unfold FnL at z; cases z
theorem fnD_nl {f t : Addr} {F : NF} {e : Expr} : ∀ us, FnD f F e t ≠ .lst us := fun us z => by unfold FnD at z; cases z
theorem codeO_nl {c : Addr} {q : Str} : ∀ us, LamX.CodeO c q ≠ .lst us := fun us z => by unfold LamX.CodeO at z; cases z
theorem HfLput {f w : Addr} {F : _} {e : _} {H : Hp} {us ws : List V} (h : HfL f F e H) (hw : H w = some (.lst us)) : HfL f F e (upd H w (.lst ws)) := ⟨put_nl hw h.1 fnL_nl, put_nl hw h.2 codeO_nl⟩
theorem HfDput {f t w : Addr} {F : _} {e : _} {v : V} {H : Hp} {us ws : List V} (h : HfD f F e t v H) (hw : H w = some (.lst us)) : HfD f F e t v (upd H w (.lst ws)) := ⟨put_nl hw h.1 fnD_nl, put_nl hw h.2.1 codeO_nl, put_nl hw h.2.2 fun us z => nomatch z⟩
theorem kb_nl {b l c : Addr} {H H' : Hp} {o : HO} (B : BoxAt H b l) (x : KB b l H H') (h : H c = some o) (n : ∀ us, o ≠ .lst us) : H' c = some o := by
  obtain ⟨ns, st, e1, e2, _⟩ := B
  exact x _ _ h (fun z => by rw [z, e1] at h; cases h; exact n _ rfl) (fun z => by rw [z, e2] at h; cases h; exact n _ rfl)
theorem HfLkb {b l f : Addr} {F : _} {e : _} {H H' : Hp} (h : HfL f F e H) (B : BoxAt H b l) (x : KB b l H H') : HfL f F e H' := ⟨kb_nl B x h.1 fnL_nl, kb_nl B x h.2 codeO_nl⟩
theorem HfDkb {b l f t : Addr} {F : _} {e : _} {v : V} {H H' : Hp} (h : HfD f F e t v H) (B : BoxAt H b l) (x : KB b l H H') : HfD f F e t v H' := ⟨kb_nl B x h.1 fnD_nl, kb_nl B x h.2.1 codeO_nl, kb_nl B x h.2.2 fun us z => nomatch z⟩
theorem Hd.put {b l c w : Addr} {H : Hp} {o : HO} {us ws : List V} (h : Hd b l H c o) (hw : H w = some (.lst us)) (n : ∀ us, o ≠ .lst us) : Hd b l (upd H w (.lst ws)) c o := ⟨put_nl hw h.1 n, h.2⟩
section
variable {K : PySem.W.Frag} {cs : List (Addr × Addr)} {S b l pg sh rl dl st w : Addr} {as : List Addr} {gap least : Int} {rows : List (List Str)} {tbs : List (Addr × Str)} {H0 H : Hp}
theorem SitZ.put {us ws : List V} (o0 : SitZ K cs S b l pg sh rl dl st as gap least rows tbs H0) (o : SitZ K cs S b l pg sh rl dl st as gap least rows tbs H) (x : LamX.ExtN H0 H) (n : H0 w = none) (hw : H w = some (.lst us)) : SitZ K cs S b l pg sh rl dl st as gap least rows tbs (upd H w (.lst ws)) :=
  ⟨o0.o.gw (fun c u h m => by rw [upd_ne (ne_of_none h n)]; exact x c u h m) (tabs_lst o.o.tab hw), fun p hp => by
    obtain ⟨ps, h1, h2, h3⟩ := o.tb p hp
    refine ⟨ps, put_nl hw h1 (fun us z => by cases z), h2, fun pos cv hc => ?_⟩
    obtain ⟨c, e1, e2⟩ := h3 pos cv hc
    exact ⟨c, e1, put_nl hw e2 codeO_nl⟩⟩
end
theorem BadSgH.put {w : Addr} {H : Hp} {us ws : List V} {v : V} (h : BadSgH H v) (hw : H w = some (.lst us)) : BadSgH (upd H w (.lst ws)) v := by
  rcases h with h | h | ⟨t, e, h⟩ | h
  · exact .inl h
  · exact .inr (.inl h)
  · exact .inr (.inr (.inl ⟨t, e, put_nl hw h fun us z => nomatch z⟩))
  · exact .inr (.inr (.inr h))
end TGK

namespace TGK
open TG
open PySem PySem.Spec PyProof.Rows L2 NdefX GenW Gx Lv Dl EnT
/-! ### _law_numbers -/
abbrev qN : Str := ("_law_numbers" : Str) ++ ".<locals>." ++ "<lambda>"
def spWorks (P : Program) (w : World) (K : PySem.W.Frag) (mg : Str → Option Value) (base : Heap) (cs : List (Addr × Addr)) (S : Addr) (tbs : List (Addr × Str)) (j : Nat) (V3 : Hp → Addr → List (List Str) → V → Prop) : Sp := fun vs H Q _ => ∃ (b l pg sh rl dl st : Addr) (as : List Addr) (gap least : Int) (rows : List (List Str)) (v : V), vs = [.ref b, .ref sh, v] ∧ V3 H pg rows v ∧ SitZ K cs S b l pg sh rl dl st as gap least rows tbs H ∧
  ∀ (w_ : Addr) (fs : List Addr) (H' : Hp), SitZ K cs S b l pg sh rl dl st as gap least rows tbs H' → KX b l H H' → H' w_ = some (.lst (fs.map V.ref)) → w_ ≠ b → w_ ≠ l → (∀ f ∈ fs, Ref P w K mg base cs 18 j 0 H' f) → Q (.ref w_) H'
theorem sub_n1 : ∀ y ∈ fr_n1, y ∈ (["_law_sheet", "_law_last", "_law_more", "_law_out"] : List Str) := by decide +kernel
theorem sub_n2 : ∀ y ∈ fr_n2, y ∈ (["_law_sheet", "_law_last", "_law_more", "_law_out"] : List Str) := by decide +kernel
theorem sub_n3 : ∀ y ∈ fr_n3, y ∈ (["_law_sheet", "_law_last", "_law_more", "_law_out"] : List Str) := by decide +kernel
theorem sub_n4 : ∀ y ∈ fr_n4, y ∈ (["_law_sheet", "_law_last", "_law_more", "_law_out"] : List Str) := by decide +kernel
theorem sub_n5 : ∀ y ∈ fr_n5, y ∈ (["_law_sheet", "_law_last", "_law_more", "_law_out"] : List Str) := by decide +kernel
theorem sub_n6 : ∀ y ∈ fr_n6, y ∈ (["_law_sheet", "_law_last", "_law_more", "_law_out"] : List Str) := by decide +kernel
theorem sub_n7 : ∀ y ∈ fr_n7, y ∈ (["_law_sheet", "_law_last", "_law_more", "_law_out"] : List Str) := by decide +kernel
abbrev nmNum : List Str := ["_law_box", "_law_sheet", "_law_many", "_law_far", "_law_works", "_law_last", "_law_more", "_law_out"]
theorem sc_num_ : FnScope nmNum ["_law_box", "_law_sheet", "_law_many"] (defScope s_numbers) := ⟨rfl, rfl, rfl, by decide +kernel, rfl, by decide +kernel, by decide +kernel⟩
theorem kc_num : ∀ y ∈ (["_law_sheet", "_law_last", "_law_more", "_law_out"] : List Str), (defScope s_numbers).names.lookup y = some .cell := by decide +kernel
section
variable {P : Program} {w : World} {K : PySem.W.Frag} {mg : Str → Option Value} {base : Heap} {cs : List (Addr × Addr)} {S R C p : Addr} {tbs : List (Addr × Str)}
theorem ok_nums {f cd gG gput gtake gchange gstrike gerase gpart gunite : Addr} {fd fdG fdput fdtake fdchange fdstrike fderase fdpart fdunite : FuncData} (T : Txt mg) (X : ShC K S) (ne : Tbs cs tbs) (hq : (p, qN) ∈ tbs) (eR : R = He.ga K (nmE 2)) (F : Fun K "_law_numbers" "_law_numbers" s_numbers f fd) (hcode : fd.code = .ref cd) (TB : LamX.TabB base mg cd p)
    (G : FnOk P w K mg base CX0 1 gG fdG ["_law_box", "_law_many"] spTakeW) (kG : PySem.W.keepIn K (.ref gG) = true) (bG : Binds K fdG ["_law_box", "_law_many"] []) (mG : mg "_law_take" = some (.ref gG))
    (Mput : Meth K S "put" gput) (Gput : FnOk P w K mg base (L2.CX P w) 17 gput fdput ["self", "number", "row"] (spPutX K cs S R 0)) (bput : Binds K fdput ["self", "number", "row"] [])
    (Mtake : Meth K S "take" gtake) (Gtake : FnOk P w K mg base (L2.CX P w) 17 gtake fdtake ["self", "number"] (spTakeX K cs S R)) (btake : Binds K fdtake ["self", "number"] [])
    (Mchange : Meth K S "change" gchange) (Gchange : FnOk P w K mg base (L2.CX P w) 17 gchange fdchange ["self", "number", "row"] (spPutX K cs S R 1)) (bchange : Binds K fdchange ["self", "number", "row"] [])
    (Mstrike : Meth K S "strike" gstrike) (Gstrike : FnOk P w K mg base (L2.CX P w) 17 gstrike fdstrike ["self", "number", "cell", "place", "sign"] (spStrikeH K cs S R C R)) (bstrike : Binds K fdstrike ["self", "number", "cell", "place", "sign"] [])
    (Merase : Meth K S "erase" gerase) (Gerase : FnOk P w K mg base (L2.CX P w) 17 gerase fderase ["self", "number", "cell", "place"] (spEraseH K cs S R C R)) (berase : Binds K fderase ["self", "number", "cell", "place"] [])
    (Mpart : Meth K S "part" gpart) (Gpart : FnOk P w K mg base (L2.CX P w) 17 gpart fdpart ["self", "number", "cell", "place"] (spPartH K cs S R C R)) (bpart : Binds K fdpart ["self", "number", "cell", "place"] [])
    (Munite : Meth K S "unite" gunite) (Gunite : FnOk P w K mg base (L2.CX P w) 17 gunite fdunite ["self", "number"] (spUniteH K cs S R)) (bunite : Binds K fdunite ["self", "number"] []) :
    FnOk P w K mg base CX0 2 f fd ["_law_box", "_law_sheet", "_law_many"] (spWorks P w K mg base cs S tbs 2 fun _ _ rows v => v = .int (rows.length : Nat)) := by
  refine fun_okC ["_law_sheet", "_law_last", "_law_more", "_law_out"] F hcode sc_num_ (fun vs H Q E h => ?_) kc_num (fun A outer s H vs Q E hr h => ?_)
  · obtain ⟨b, l, pg, sh, rl, dl, st, as, gap, least, rows, v, rfl, _⟩ := h
    rfl
  · obtain ⟨b, l, pg, sh, rl, dl, st, as, gap, least, rows, v, rfl, rfl, o, k⟩ := h
    have nd := sc_num_.nd
    have r1 : Room 1 _ := hr
    have szl : (9000 : Nat) < sizeLine := by decide
    refine ⟨_, (psc_cons (ps_set (i := 3) nd rfl (.inl rfl) (pe_call G r1 (by rfl) mG kG bG .nil pass0 (pa_cons (pv 0) (pa_cons (pe_ix ix_list (pe_lst (pa_cons pe_int (pa_cons (pe_op op_pow pe_int pe_int) pa_nil))) (pe_call G r1 (by rfl) mG kG bG .nil pass0 (pa_cons (pv 0) (pa_cons pe_int pa_nil))) (fun _ _ => rfl)) pa_nil))))
      (psc_cons (ps_set (i := 7) nd rfl (.inr rfl) (pe_ix ix_list (pe_lst (pa_cons (pe_op op_sub (pe_un un_neg pe_int) (pv 3)) (pa_cons (pe_op op_add (pv 2) (pv 3)) (pa_cons pe_non (pa_cons pe_bl (pa_cons pe_str pa_nil)))))) (pe_call G r1 (by rfl) mG kG bG .nil pass0 (pa_cons (pv 0) (pa_cons pe_int pa_nil))) (fun _ _ => rfl)))
      (psc_cons (ps_set (i := 6) nd rfl (.inr rfl) (pe_ix ix_list (pe_lst (pa_cons (pe_op op_sub (pe_un un_neg pe_int) (pv 3)) (pa_cons (pe_op op_add (pe_op op_add (pv 2) pe_int) (pv 3)) pa_nil))) (pe_call G r1 (by rfl) mG kG bG .nil pass0 (pa_cons (pv 0) (pa_cons pe_int pa_nil))) (fun _ _ => rfl)))
      (psc_cons (ps_set (i := 5) nd rfl (.inr rfl) (pe_ix ix_list (pe_lst (pa_cons (pv 7) (pa_cons (pe_op op_sub (pv 2) pe_int) pa_nil))) (pe_call G r1 (by rfl) mG kG bG .nil pass0 (pa_cons (pv 0) (pa_cons pe_int pa_nil))) (fun _ _ => rfl)))
      (psc_cons (ps_set (i := 4) nd rfl (.inl rfl) (pe_lst (pa_cons (pe_lamC TB rfl rfl fun y hy e => .inl (kl_n1 y hy e)) (pa_cons (pe_lamD (v := .int 0) TB rfl rfl rfl rfl pe_int (fun y hy e => .inl (kl_n2 y hy e)) ⟨("_law_sheet", .free), by decide +kernel, rfl⟩) (pa_cons (pe_lamD (v := .int 0) TB rfl rfl rfl rfl pe_int (fun y hy e => .inl (kl_n3 y hy e)) ⟨("_law_sheet", .free), by decide +kernel, rfl⟩) pa_nil)))))
      (psc_cons (ps_set (i := 4) nd rfl (.inl rfl) (pe_op op_cat (pv 4) (pe_lst (pa_cons (pe_lamD (v := .int 0) TB rfl rfl rfl rfl pe_int (fun y hy e => .inl (kl_n4 y hy e)) ⟨("_law_sheet", .free), by decide +kernel, rfl⟩) (pa_cons (pe_lamD (v := .int 0) TB rfl rfl rfl rfl pe_int (fun y hy e => .inl (kl_n5 y hy e)) ⟨("_law_sheet", .free), by decide +kernel, rfl⟩) pa_nil)))))
      (psc_ret (pe_op op_cat (pv 4) (pe_lst (pa_cons (pe_lamD (v := .int 0) TB rfl rfl rfl rfl pe_int (fun y hy e => .inl (kl_n6 y hy e)) ⟨("_law_sheet", .free), by decide +kernel, rfl⟩) (pa_cons (pe_lamD (v := .int 0) TB rfl rfl rfl rfl pe_int (fun y hy e => .inl (kl_n7 y hy e)) ⟨("_law_sheet", .free), by decide +kernel, rfl⟩) pa_nil))))))))))), ?_⟩
    have kx : KX b l H H := KX.refl
    refine ⟨_, rfl, 10, 18, rfl, rfl, ⟨by decide, by decide, by decide⟩, by show 2 ≤ sizeLine; decide, fun q0 nq0 => ⟨_, rfl, b, l, 2, rfl, box_new o.o.box nq0, by decide, by decide, fun z H1 z0 z1 hB1 x1 => ?_⟩⟩
    obtain ⟨o, hq0, xx⟩ := o.new (u := .lst [V.int 3, V.int (10 ^ (18 : Int).toNat)]) ne nq0
    have kx := kx.tr (kx_ext xx)
    have kx := kx.tr (kx_kb x1)
    have hq0 := hq0.kb x1
    have o := o.draw x1 hB1
    clear x1 hB1
    clear xx nq0
    obtain ⟨m2, hm2, em2⟩ := pick (xs := [(3 : Int), 10 ^ (18 : Int).toNat]) (i := z) z0 z1
    have hm2 : 0 < m2 ∧ m2 < 4611686018427387904 := by
      simp only [List.mem_cons, List.not_mem_nil, or_false] at hm2
      rcases hm2 with e | e <;> rw [e] <;> decide
    refine ⟨q0, _, _, .int m2, rfl, rfl, SqL.of hq0.1, atI_map (f := V.int) em2, b, l, m2, rfl, o.o.box, hm2.1, hm2.2, fun fr H2 fr0 fr1 hB2 x2 => ?_⟩
    have kx := kx.tr (kx_kb x2)
    have o := o.draw x2 hB2
    clear x2 hB2
    clear hq0 hm2 em2 z0 z1
    refine ⟨1, rfl, _, rfl, _, _, rfl, rfl, _, rfl, _, rfl, _, _, rfl, rfl, by show 5 ≤ sizeLine; decide, fun q1 nq1 => ⟨_, rfl, b, l, 5, rfl, box_new o.o.box nq1, by decide, by decide, fun z H3 z0 z1 hB3 x3 => ?_⟩⟩
    obtain ⟨o, hq1, xx⟩ := o.new (u := .lst [V.int (-1 - fr), V.int ((rows.length : Nat) + fr), V.non, V.bl true, V.str "0"]) ne nq1
    have kx := kx.tr (kx_ext xx)
    have kx := kx.tr (kx_kb x3)
    have hq1 := hq1.kb x3
    have o := o.draw x3 hB3
    clear x3 hB3
    clear xx nq1
    obtain ⟨vo, hvo, evo⟩ := pick (xs := ([V.int (-1 - fr), V.int ((rows.length : Nat) + fr), V.non, V.bl true, V.str "0"] : List V)) (i := z) z0 z1
    refine ⟨q1, _, _, vo, rfl, rfl, SqL.of hq1.1, evo, ?_⟩
    clear hq1 evo z0 z1
    refine ⟨1, rfl, _, rfl, _, _, rfl, rfl, _, rfl, _, _, rfl, rfl, _, rfl, _, _, rfl, rfl, by show 2 ≤ sizeLine; decide, fun q2 nq2 => ⟨_, rfl, b, l, 2, rfl, box_new o.o.box nq2, by decide, by decide, fun z H4 z0 z1 hB4 x4 => ?_⟩⟩
    obtain ⟨o, hq2, xx⟩ := o.new (u := .lst [V.int (-1 - fr), V.int ((rows.length : Nat) + 1 + fr)]) ne nq2
    have kx := kx.tr (kx_ext xx)
    have kx := kx.tr (kx_kb x4)
    have hq2 := hq2.kb x4
    have o := o.draw x4 hB4
    clear x4 hB4
    clear xx nq2
    obtain ⟨vm, hvm, evm⟩ := pick (xs := ([V.int (-1 - fr), V.int ((rows.length : Nat) + 1 + fr)] : List V)) (i := z) z0 z1
    refine ⟨q2, _, _, vm, rfl, rfl, SqL.of hq2.1, evm, ?_⟩
    clear hq2 evm z0 z1
    refine ⟨_, rfl, _, rfl, _, _, rfl, rfl, by show 2 ≤ sizeLine; decide, fun q3 nq3 => ⟨_, rfl, b, l, 2, rfl, box_new o.o.box nq3, by decide, by decide, fun z H5 z0 z1 hB5 x5 => ?_⟩⟩
    obtain ⟨o, hq3, xx⟩ := o.new (u := .lst [vo, V.int ((rows.length : Nat) - 1)]) ne nq3
    have kx := kx.tr (kx_ext xx)
    have kx := kx.tr (kx_kb x5)
    have hq3 := hq3.kb x5
    have o := o.draw x5 hB5
    clear x5 hB5
    clear xx nq3
    obtain ⟨vl, hvl, evl⟩ := pick (xs := ([vo, V.int ((rows.length : Nat) - 1)] : List V)) (i := z) z0 z1
    refine ⟨q3, _, _, vl, rfl, rfl, SqL.of hq3.1, evl, ?_⟩
    clear hq3 evl z0 z1
    refine ⟨o.tb _ hq, fun f_n1 d_n1 Hx1 k1 k2 t11 nf hf hc => ?_⟩
    obtain ⟨o, xx⟩ := o.lam ne hq k1 k2 t11
    have kx := kx.tr (kx_ext xx)
    have g_n1 : HfL f_n1 ⟨"<lambda>", qN, lm_n1.1, [], lm_n1.2.2, cloFrom (cxOf CX0 P w K mg base nmNum "_law_numbers" (defScope s_numbers) f (.ref cd) A outer s H E).nox.env.cells lm_n1.2.2.names [], d_n1⟩ lm_n1.2.1 _ := ⟨hf, hc⟩
    clear xx k1 k2 t11 nf hf hc
    refine ⟨o.tb _ hq, fun f_n2 d_n2 u_n2 Hx2 k1 k2 t11 nf hf => ?_⟩
    obtain ⟨o, xx⟩ := o.lam ne hq k1 k2 t11
    have kx := kx.tr (kx_ext xx)
    have g_n1 := HfLgw g_n1 xx
    have g_n2 : HfD f_n2 ⟨"<lambda>", qN, lm_n2.1, [], lm_n2.2.2, cloFrom (cxOf CX0 P w K mg base nmNum "_law_numbers" (defScope s_numbers) f (.ref cd) A outer s H E).nox.env.cells lm_n2.2.2.names [], d_n2⟩ lm_n2.2.1 u_n2 (.int 0) _ := hf
    clear xx k1 k2 t11 nf hf
    refine ⟨o.tb _ hq, fun f_n3 d_n3 u_n3 Hx3 k1 k2 t11 nf hf => ?_⟩
    obtain ⟨o, xx⟩ := o.lam ne hq k1 k2 t11
    have kx := kx.tr (kx_ext xx)
    have g_n1 := HfLgw g_n1 xx
    have g_n2 := HfDgw g_n2 xx
    have g_n3 : HfD f_n3 ⟨"<lambda>", qN, lm_n3.1, [], lm_n3.2.2, cloFrom (cxOf CX0 P w K mg base nmNum "_law_numbers" (defScope s_numbers) f (.ref cd) A outer s H E).nox.env.cells lm_n3.2.2.names [], d_n3⟩ lm_n3.2.1 u_n3 (.int 0) _ := hf
    clear xx k1 k2 t11 nf hf
    refine ⟨by show 3 ≤ sizeLine; decide, fun w1 nw1 => ?_⟩
    obtain ⟨o, hw1, xx⟩ := o.new (u := .lst [V.ref f_n1, V.ref f_n2, V.ref f_n3]) ne nw1
    have kx := kx.tr (kx_ext xx)
    have g_n1 := HfLgw g_n1 xx
    have g_n2 := HfDgw g_n2 xx
    have g_n3 := HfDgw g_n3 xx
    generalize upd Hx3 w1 (.lst [V.ref f_n1, V.ref f_n2, V.ref f_n3]) = Hx4 at o kx hw1 g_n1 g_n2 g_n3 ⊢
    clear xx nw1
    refine ⟨_, rfl, ?_⟩
    refine ⟨o.tb _ hq, fun f_n4 d_n4 u_n4 Hx5 k1 k2 t11 nf hf => ?_⟩
    obtain ⟨o, xx⟩ := o.lam ne hq k1 k2 t11
    have kx := kx.tr (kx_ext xx)
    have g_n1 := HfLgw g_n1 xx
    have g_n2 := HfDgw g_n2 xx
    have g_n3 := HfDgw g_n3 xx
    have hw1 := hw1.gw xx fun ps z => nomatch z
    have g_n4 : HfD f_n4 ⟨"<lambda>", qN, lm_n4.1, [], lm_n4.2.2, cloFrom (cxOf CX0 P w K mg base nmNum "_law_numbers" (defScope s_numbers) f (.ref cd) A outer s H E).nox.env.cells lm_n4.2.2.names [], d_n4⟩ lm_n4.2.1 u_n4 (.int 0) _ := hf
    clear xx k1 k2 t11 nf hf
    refine ⟨o.tb _ hq, fun f_n5 d_n5 u_n5 Hx6 k1 k2 t11 nf hf => ?_⟩
    obtain ⟨o, xx⟩ := o.lam ne hq k1 k2 t11
    have kx := kx.tr (kx_ext xx)
    have g_n1 := HfLgw g_n1 xx
    have g_n2 := HfDgw g_n2 xx
    have g_n3 := HfDgw g_n3 xx
    have hw1 := hw1.gw xx fun ps z => nomatch z
    have g_n4 := HfDgw g_n4 xx
    have g_n5 : HfD f_n5 ⟨"<lambda>", qN, lm_n5.1, [], lm_n5.2.2, cloFrom (cxOf CX0 P w K mg base nmNum "_law_numbers" (defScope s_numbers) f (.ref cd) A outer s H E).nox.env.cells lm_n5.2.2.names [], d_n5⟩ lm_n5.2.1 u_n5 (.int 0) _ := hf
    clear xx k1 k2 t11 nf hf
    refine ⟨by show 2 ≤ sizeLine; decide, fun w2 nw2 => ?_⟩
    obtain ⟨o, hw2, xx⟩ := o.new (u := .lst [V.ref f_n4, V.ref f_n5]) ne nw2
    have kx := kx.tr (kx_ext xx)
    have g_n1 := HfLgw g_n1 xx
    have g_n2 := HfDgw g_n2 xx
    have g_n3 := HfDgw g_n3 xx
    have hw1 := hw1.gw xx fun ps z => nomatch z
    have g_n4 := HfDgw g_n4 xx
    have g_n5 := HfDgw g_n5 xx
    generalize upd Hx6 w2 (.lst [V.ref f_n4, V.ref f_n5]) = Hx7 at o kx hw2 g_n1 g_n2 g_n3 hw1 g_n4 g_n5 ⊢
    clear xx nw2
    refine ⟨w1, w2, _, _, rfl, rfl, hw1.1, hw2.1, by show 5 ≤ sizeLine; decide, fun w3 nw3 => ?_⟩
    clear hw1 hw2
    obtain ⟨o, hw3, xx⟩ := o.new (u := .lst ([V.ref f_n1, V.ref f_n2, V.ref f_n3] ++ [V.ref f_n4, V.ref f_n5])) ne nw3
    have kx := kx.tr (kx_ext xx)
    have g_n1 := HfLgw g_n1 xx
    have g_n2 := HfDgw g_n2 xx
    have g_n3 := HfDgw g_n3 xx
    have g_n4 := HfDgw g_n4 xx
    have g_n5 := HfDgw g_n5 xx
    generalize upd Hx7 w3 (.lst ([V.ref f_n1, V.ref f_n2, V.ref f_n3] ++ [V.ref f_n4, V.ref f_n5])) = Hx8 at o kx hw3 g_n1 g_n2 g_n3 g_n4 g_n5 ⊢
    clear xx nw3
    refine ⟨_, rfl, ?_⟩
    refine ⟨o.tb _ hq, fun f_n6 d_n6 u_n6 Hx9 k1 k2 t11 nf hf => ?_⟩
    obtain ⟨o, xx⟩ := o.lam ne hq k1 k2 t11
    have kx := kx.tr (kx_ext xx)
    have g_n1 := HfLgw g_n1 xx
    have g_n2 := HfDgw g_n2 xx
    have g_n3 := HfDgw g_n3 xx
    have g_n4 := HfDgw g_n4 xx
    have g_n5 := HfDgw g_n5 xx
    have hw3 := hw3.gw xx fun ps z => nomatch z
    have g_n6 : HfD f_n6 ⟨"<lambda>", qN, lm_n6.1, [], lm_n6.2.2, cloFrom (cxOf CX0 P w K mg base nmNum "_law_numbers" (defScope s_numbers) f (.ref cd) A outer s H E).nox.env.cells lm_n6.2.2.names [], d_n6⟩ lm_n6.2.1 u_n6 (.int 0) _ := hf
    clear xx k1 k2 t11 nf hf
    refine ⟨o.tb _ hq, fun f_n7 d_n7 u_n7 Hx10 k1 k2 t11 nf hf => ?_⟩
    obtain ⟨o, xx⟩ := o.lam ne hq k1 k2 t11
    have kx := kx.tr (kx_ext xx)
    have g_n1 := HfLgw g_n1 xx
    have g_n2 := HfDgw g_n2 xx
    have g_n3 := HfDgw g_n3 xx
    have g_n4 := HfDgw g_n4 xx
    have g_n5 := HfDgw g_n5 xx
    have hw3 := hw3.gw xx fun ps z => nomatch z
    have g_n6 := HfDgw g_n6 xx
    have g_n7 : HfD f_n7 ⟨"<lambda>", qN, lm_n7.1, [], lm_n7.2.2, cloFrom (cxOf CX0 P w K mg base nmNum "_law_numbers" (defScope s_numbers) f (.ref cd) A outer s H E).nox.env.cells lm_n7.2.2.names [], d_n7⟩ lm_n7.2.1 u_n7 (.int 0) _ := hf
    clear xx k1 k2 t11 nf hf
    refine ⟨by show 2 ≤ sizeLine; decide, fun w4 nw4 => ?_⟩
    obtain ⟨o, hw4, xx⟩ := o.new (u := .lst [V.ref f_n6, V.ref f_n7]) ne nw4
    have kx := kx.tr (kx_ext xx)
    have g_n1 := HfLgw g_n1 xx
    have g_n2 := HfDgw g_n2 xx
    have g_n3 := HfDgw g_n3 xx
    have g_n4 := HfDgw g_n4 xx
    have g_n5 := HfDgw g_n5 xx
    have hw3 := hw3.gw xx fun ps z => nomatch z
    have g_n6 := HfDgw g_n6 xx
    have g_n7 := HfDgw g_n7 xx
    generalize upd Hx10 w4 (.lst [V.ref f_n6, V.ref f_n7]) = Hx11 at o kx hw4 g_n1 g_n2 g_n3 g_n4 g_n5 hw3 g_n6 g_n7 ⊢
    clear xx nw4
    refine ⟨w3, w4, _, _, rfl, rfl, hw3.1, hw4.1, by show 7 ≤ sizeLine; decide, fun w5 nw5 cl Tc un => ?_⟩
    clear hw3 hw4
    have un0 := un
    obtain ⟨o, hw5, xx⟩ := o.new (u := .lst ([V.ref f_n1, V.ref f_n2, V.ref f_n3] ++ [V.ref f_n4, V.ref f_n5] ++ [V.ref f_n6, V.ref f_n7])) ne nw5
    have kx := kx.tr (kx_ext xx)
    have g_n1 := HfLgw g_n1 xx
    have g_n2 := HfDgw g_n2 xx
    have g_n3 := HfDgw g_n3 xx
    have g_n4 := HfDgw g_n4 xx
    have g_n5 := HfDgw g_n5 xx
    have g_n6 := HfDgw g_n6 xx
    have g_n7 := HfDgw g_n7 xx
    generalize upd Hx11 w5 (.lst ([V.ref f_n1, V.ref f_n2, V.ref f_n3] ++ [V.ref f_n4, V.ref f_n5] ++ [V.ref f_n6, V.ref f_n7])) = HZ at o kx hw5 un g_n1 g_n2 g_n3 g_n4 g_n5 g_n6 g_n7 ⊢
    clear xx nw5 un0
    have sm := same_add un
    have xa := ex_same o.o.tab sm
    have oA := o.ex ne xa
    have hx : ∀ {H1 : Hp}, Ex cs HZ H1 → ∃ dx as1 ts, H1 sh = some (.ins S dx [("rows", .ref rl), ("style", .ref st), ("deeds", .ref dl)]) ∧ Tabs cs H1 ∧ ShtD K S H1 sh rl dl st as1 rows gap least ts [] (avX b l fun _ => False) := fun {H1} x1 => by
      have o1 := o.ex ne x1
      obtain ⟨as1, ts, hS⟩ := o1.sht
      obtain ⟨dx, h⟩ := hS.she
      exact ⟨dx, as1, ts, h, x1.tab, hS⟩
    have hO : PgOk rows := by
      obtain ⟨as1, ts, hS⟩ := o.sht
      exact hS.ok
    have hpos := hO.pos
    have bo : NoWh 0 ((rows.length : Nat) - 1) vo := by
      simp only [List.mem_cons, List.not_mem_nil, or_false] at hvo
      rcases hvo with rfl | rfl | rfl | rfl | rfl
      · exact .inl ⟨_, rfl, by omega⟩
      · exact .inl ⟨_, rfl, by omega⟩
      · exact .inr (.inl rfl)
      · exact .inr (.inr (.inl ⟨_, rfl⟩))
      · exact .inr (.inr (.inr ⟨_, rfl⟩))
    have bm : NoWh 0 ((rows.length : Nat) - (0 : Nat)) vm := by
      simp only [List.mem_cons, List.not_mem_nil, or_false] at hvm
      rcases hvm with rfl | rfl
      · exact .inl ⟨_, rfl, by omega⟩
      · exact .inl ⟨_, rfl, by omega⟩
    have bl_ : NoWh 0 ((rows.length : Nat) - 2) vl := by
      simp only [List.mem_cons, List.not_mem_nil, or_false] at hvl
      rcases hvl with rfl | rfl
      · simp only [List.mem_cons, List.not_mem_nil, or_false] at hvo
        rcases hvo with rfl | rfl | rfl | rfl | rfl
        · exact .inl ⟨_, rfl, by omega⟩
        · exact .inl ⟨_, rfl, by omega⟩
        · exact .inr (.inl rfl)
        · exact .inr (.inr (.inl ⟨_, rfl⟩))
        · exact .inr (.inr (.inr ⟨_, rfl⟩))
      · exact .inl ⟨_, rfl, by omega⟩
    have eR2 : ∀ {H : Hp}, ErrAt K H 2 0 (.ref R) none := err_of (by decide) rfl eR
    refine k w5 [f_n1, f_n2, f_n3, f_n4, f_n5, f_n6, f_n7] _ oA (kx.tr (kx_ext fun c o h _ => sm c o h)) (sm _ _ hw5.1) hw5.2.1 hw5.2.2 fun f hf => ?_
    simp only [List.mem_cons, List.not_mem_nil, or_false] at hf
    rcases hf with e | e | e | e | e | e | e <;> rw [e]
    · refine TGK.ref_of (ws := [some (.ref sh), some vm]) sc_n1 (fun y hy => sc_n1.free (y, .free) hy rfl) (sub_n1) Tc un rfl rfl (fun i y v q1 q2 => by
          match i, q1, q2 with
          | 0, q1, q2 => cases q1; cases q2; exact ⟨1, rfl, rfl⟩
          | 1, q1, q2 => cases q1; cases q2; exact ⟨6, rfl, rfl⟩
          | i + 2, q1, _ => simp at q1) (fun H1 x => ⟨x.ext _ _ (add_at un g_n1.1) fnL_ne, x.ext _ _ (add_at un g_n1.2) LamX.codeO_ne⟩) (lok_n1 T X.cS Mput Gput bput) (fun H1 x1 _ Z E2 hE => ?_)
      obtain ⟨dx, as1, ts, hsh, hT1, hS1⟩ := hx x1
      refine ⟨sh, dx, _, vm, rfl, hsh, fld_no _ _ _ (by decide +kernel), fun e1 ne1 => ?_⟩
      have xn := Ex.laid (o := .tup []) hT1 ne1
      exact ⟨sh, vm, .ref e1, rl, dl, st, as1, rows, gap, least, ts, [], _, rfl, xn.tab, hS1.gw xn.ext, .inl bm, fun H' x => hE _ _ _ eR2 (xn.trans x)⟩
    · refine TGK.ref_of (ws := [some (.ref sh), some vo]) sc_n2 (fun y hy => sc_n2.free (y, .free) hy rfl) (sub_n2) Tc un rfl rfl (fun i y v q1 q2 => by
          match i, q1, q2 with
          | 0, q1, q2 => cases q1; cases q2; exact ⟨1, rfl, rfl⟩
          | 1, q1, q2 => cases q1; cases q2; exact ⟨7, rfl, rfl⟩
          | i + 2, q1, _ => simp at q1) (fun H1 x => ⟨x.ext _ _ (add_at un g_n2.1) fnD_ne, x.ext _ _ (add_at un g_n2.2.1) LamX.codeO_ne, x.tup (add_at un g_n2.2.2)⟩) (lok_n2 T X.cS Mtake Gtake btake) (fun H1 x1 _ Z E2 hE => ?_)
      obtain ⟨dx, as1, ts, hsh, hT1, hS1⟩ := hx x1
      exact ⟨sh, dx, _, vo, rfl, hsh, fld_no _ _ _ (by decide +kernel), sh, vo, rl, dl, st, as1, rows, gap, least, ts, [], _, rfl, hT1, hS1, bo, fun H' x => hE _ _ _ eR2 x⟩
    · refine TGK.ref_of (ws := [some (.ref sh), some vo]) sc_n3 (fun y hy => sc_n3.free (y, .free) hy rfl) (sub_n3) Tc un rfl rfl (fun i y v q1 q2 => by
          match i, q1, q2 with
          | 0, q1, q2 => cases q1; cases q2; exact ⟨1, rfl, rfl⟩
          | 1, q1, q2 => cases q1; cases q2; exact ⟨7, rfl, rfl⟩
          | i + 2, q1, _ => simp at q1) (fun H1 x => ⟨x.ext _ _ (add_at un g_n3.1) fnD_ne, x.ext _ _ (add_at un g_n3.2.1) LamX.codeO_ne, x.tup (add_at un g_n3.2.2)⟩) (lok_n3 T X.cS Mchange Gchange bchange) (fun H1 x1 _ Z E2 hE => ?_)
      obtain ⟨dx, as1, ts, hsh, hT1, hS1⟩ := hx x1
      refine ⟨sh, dx, _, vo, rfl, hsh, fld_no _ _ _ (by decide +kernel), fun e1 ne1 => ?_⟩
      have xn := Ex.laid (o := .tup []) hT1 ne1
      exact ⟨sh, vo, .ref e1, rl, dl, st, as1, rows, gap, least, ts, [], _, rfl, xn.tab, hS1.gw xn.ext, .inl bo, fun H' x => hE _ _ _ eR2 (xn.trans x)⟩
    · refine TGK.ref_of (ws := [some (.ref sh), some vo]) sc_n4 (fun y hy => sc_n4.free (y, .free) hy rfl) (sub_n4) Tc un rfl rfl (fun i y v q1 q2 => by
          match i, q1, q2 with
          | 0, q1, q2 => cases q1; cases q2; exact ⟨1, rfl, rfl⟩
          | 1, q1, q2 => cases q1; cases q2; exact ⟨7, rfl, rfl⟩
          | i + 2, q1, _ => simp at q1) (fun H1 x => ⟨x.ext _ _ (add_at un g_n4.1) fnD_ne, x.ext _ _ (add_at un g_n4.2.1) LamX.codeO_ne, x.tup (add_at un g_n4.2.2)⟩) (lok_n4 T X.cS Mstrike Gstrike bstrike) (fun H1 x1 _ Z E2 hE => ?_)
      obtain ⟨dx, as1, ts, hsh, hT1, hS1⟩ := hx x1
      exact ⟨sh, dx, _, vo, rfl, hsh, fld_no _ _ _ (by decide +kernel), sh, vo, _, _, _, rl, dl, st, as1, rows, gap, least, ts, [], _, rfl, hT1, hS1, .inl ⟨bo, rfl⟩, fun H' x => hE _ _ _ eR2 x⟩
    · refine TGK.ref_of (ws := [some (.ref sh), some vo]) sc_n5 (fun y hy => sc_n5.free (y, .free) hy rfl) (sub_n5) Tc un rfl rfl (fun i y v q1 q2 => by
          match i, q1, q2 with
          | 0, q1, q2 => cases q1; cases q2; exact ⟨1, rfl, rfl⟩
          | 1, q1, q2 => cases q1; cases q2; exact ⟨7, rfl, rfl⟩
          | i + 2, q1, _ => simp at q1) (fun H1 x => ⟨x.ext _ _ (add_at un g_n5.1) fnD_ne, x.ext _ _ (add_at un g_n5.2.1) LamX.codeO_ne, x.tup (add_at un g_n5.2.2)⟩) (lok_n5 T X.cS Merase Gerase berase) (fun H1 x1 _ Z E2 hE => ?_)
      obtain ⟨dx, as1, ts, hsh, hT1, hS1⟩ := hx x1
      exact ⟨sh, dx, _, vo, rfl, hsh, fld_no _ _ _ (by decide +kernel), sh, vo, _, _, rl, dl, st, as1, rows, gap, least, ts, [], _, rfl, hT1, hS1, .inl ⟨bo, rfl⟩, fun H' x => hE _ _ _ eR2 x⟩
    · refine TGK.ref_of (ws := [some (.ref sh), some vo]) sc_n6 (fun y hy => sc_n6.free (y, .free) hy rfl) (sub_n6) Tc un rfl rfl (fun i y v q1 q2 => by
          match i, q1, q2 with
          | 0, q1, q2 => cases q1; cases q2; exact ⟨1, rfl, rfl⟩
          | 1, q1, q2 => cases q1; cases q2; exact ⟨7, rfl, rfl⟩
          | i + 2, q1, _ => simp at q1) (fun H1 x => ⟨x.ext _ _ (add_at un g_n6.1) fnD_ne, x.ext _ _ (add_at un g_n6.2.1) LamX.codeO_ne, x.tup (add_at un g_n6.2.2)⟩) (lok_n6 T X.cS Mpart Gpart bpart) (fun H1 x1 _ Z E2 hE => ?_)
      obtain ⟨dx, as1, ts, hsh, hT1, hS1⟩ := hx x1
      exact ⟨sh, dx, _, vo, rfl, hsh, fld_no _ _ _ (by decide +kernel), sh, vo, _, _, rl, dl, st, as1, rows, gap, least, ts, [], _, rfl, hT1, hS1, .inl ⟨bo, rfl⟩, fun H' x => hE _ _ _ eR2 x⟩
    · refine TGK.ref_of (ws := [some (.ref sh), some vl]) sc_n7 (fun y hy => sc_n7.free (y, .free) hy rfl) (sub_n7) Tc un rfl rfl (fun i y v q1 q2 => by
          match i, q1, q2 with
          | 0, q1, q2 => cases q1; cases q2; exact ⟨1, rfl, rfl⟩
          | 1, q1, q2 => cases q1; cases q2; exact ⟨5, rfl, rfl⟩
          | i + 2, q1, _ => simp at q1) (fun H1 x => ⟨x.ext _ _ (add_at un g_n7.1) fnD_ne, x.ext _ _ (add_at un g_n7.2.1) LamX.codeO_ne, x.tup (add_at un g_n7.2.2)⟩) (lok_n7 T X.cS Munite Gunite bunite) (fun H1 x1 _ Z E2 hE => ?_)
      obtain ⟨dx, as1, ts, hsh, hT1, hS1⟩ := hx x1
      exact ⟨sh, dx, _, vl, rfl, hsh, fld_no _ _ _ (by decide +kernel), sh, vl, rl, dl, st, as1, rows, gap, least, ts, [], _, rfl, hT1, hS1, bl_, fun H' x => hE _ _ _ eR2 x⟩
end
end TGK

namespace TGK
open TG
open PySem PySem.Spec PyProof.Rows L2 NdefX GenW Gx Lv Dl EnT
/-! ### _law_places -/
abbrev qP : Str := ("_law_places" : Str) ++ ".<locals>." ++ "<lambda>"
theorem sub_p1 : ∀ y ∈ fr_p1, y ∈ (["_law_sheet", "_law_cell_here", "_law_k", "_law_number", "_law_place", "_law_sign_here"] : List Str) := by decide +kernel
theorem sub_p2 : ∀ y ∈ fr_p2, y ∈ (["_law_sheet", "_law_cell_here", "_law_k", "_law_number", "_law_place", "_law_sign_here"] : List Str) := by decide +kernel
theorem sub_p3 : ∀ y ∈ fr_p3, y ∈ (["_law_sheet", "_law_cell_here", "_law_k", "_law_number", "_law_place", "_law_sign_here"] : List Str) := by decide +kernel
theorem sub_p4 : ∀ y ∈ fr_p4, y ∈ (["_law_sheet", "_law_cell_here", "_law_k", "_law_number", "_law_place", "_law_sign_here"] : List Str) := by decide +kernel
abbrev nmPla : List Str := ["_law_box", "_law_sheet", "_law_rows", "_law_far", "_law_row_here", "_law_works", "_law_cell_here", "_law_k", "_law_number", "_law_place", "_law_sign_here"]
theorem sc_pla_ : FnScope nmPla ["_law_box", "_law_sheet", "_law_rows"] (defScope s_places) := ⟨rfl, rfl, rfl, by decide +kernel, rfl, by decide +kernel, by decide +kernel⟩
theorem kc_pla : ∀ y ∈ (["_law_sheet", "_law_cell_here", "_law_k", "_law_number", "_law_place", "_law_sign_here"] : List Str), (defScope s_places).names.lookup y = some .cell := by decide +kernel
section
variable {P : Program} {w : World} {K : PySem.W.Frag} {mg : Str → Option Value} {base : Heap} {cs : List (Addr × Addr)} {S R C p : Addr} {tbs : List (Addr × Str)}
theorem ok_plas {f cd gG gstrike gerase gpart : Addr} {fd fdG fdstrike fderase fdpart : FuncData} (T : Txt mg) (X : ShC K S) (ne : Tbs cs tbs) (hq : (p, qP) ∈ tbs) (eC : C = He.ga K (nmE 3)) (F : Fun K "_law_places" "_law_places" s_places f fd) (hcode : fd.code = .ref cd) (TB : LamX.TabB base mg cd p)
    (G : FnOk P w K mg base CX0 1 gG fdG ["_law_box", "_law_many"] spTakeW) (kG : PySem.W.keepIn K (.ref gG) = true) (bG : Binds K fdG ["_law_box", "_law_many"] []) (mG : mg "_law_take" = some (.ref gG))
    (Mstrike : Meth K S "strike" gstrike) (Gstrike : FnOk P w K mg base (L2.CX P w) 17 gstrike fdstrike ["self", "number", "cell", "place", "sign"] (spStrikeH K cs S R C C)) (bstrike : Binds K fdstrike ["self", "number", "cell", "place", "sign"] [])
    (Merase : Meth K S "erase" gerase) (Gerase : FnOk P w K mg base (L2.CX P w) 17 gerase fderase ["self", "number", "cell", "place"] (spEraseH K cs S R C C)) (berase : Binds K fderase ["self", "number", "cell", "place"] [])
    (Mpart : Meth K S "part" gpart) (Gpart : FnOk P w K mg base (L2.CX P w) 17 gpart fdpart ["self", "number", "cell", "place"] (spPartH K cs S R C C)) (bpart : Binds K fdpart ["self", "number", "cell", "place"] [])
    (GstrikeG : FnOk P w K mg base (L2.CX P w) 17 gstrike fdstrike ["self", "number", "cell", "place", "sign"] (spStrikeG K cs S C)) :
    FnOk P w K mg base CX0 2 f fd ["_law_box", "_law_sheet", "_law_rows"] (spWorks P w K mg base cs S tbs 3 fun _ pg _ v => v = .ref pg) := by
  refine fun_okC ["_law_sheet", "_law_cell_here", "_law_k", "_law_number", "_law_place", "_law_sign_here"] F hcode sc_pla_ (fun vs H Q E h => ?_) kc_pla (fun A outer s H vs Q E hr h => ?_)
  · obtain ⟨b, l, pg, sh, rl, dl, st, as, gap, least, rows, v, rfl, _⟩ := h
    rfl
  · obtain ⟨b, l, pg, sh, rl, dl, st, as, gap, least, rows, v, rfl, rfl, o, k⟩ := h
    have nd := sc_pla_.nd
    have r1 : Room 1 _ := hr
    have szl : (9000 : Nat) < sizeLine := by decide
    refine ⟨_, (psc_cons (ps_set (i := 3) nd rfl (.inl rfl) (pe_call G r1 (by rfl) mG kG bG .nil pass0 (pa_cons (pv 0) (pa_cons (pe_ix ix_list (pe_lst (pa_cons pe_int (pa_cons (pe_op op_pow pe_int pe_int) pa_nil))) (pe_call G r1 (by rfl) mG kG bG .nil pass0 (pa_cons (pv 0) (pa_cons pe_int pa_nil))) (fun _ _ => rfl)) pa_nil))))
      (psc_cons (ps_set (i := 8) nd rfl (.inr rfl) (pe_call G r1 (by rfl) mG kG bG .nil pass0 (pa_cons (pv 0) (pa_cons (pe_callB call_len_seq (by rfl) T.len PySem.boot_len (pa_cons (pv 2) pa_nil)) pa_nil))))
      (psc_cons (ps_set (i := 4) nd rfl (.inl rfl) (pe_ix ix_list (pv 2) (pv 8) (fun _ _ => rfl)))
      (psc_cons (ps_set (i := 7) nd rfl (.inr rfl) (pe_call G r1 (by rfl) mG kG bG .nil pass0 (pa_cons (pv 0) (pa_cons (pe_callB call_len_seq (by rfl) T.len PySem.boot_len (pa_cons (pv 4) pa_nil)) pa_nil))))
      (psc_cons (ps_asg (pe_ix ix_list (pe_lst (pa_cons (pe_tup (pa_cons (pe_op op_sub (pe_un un_neg pe_int) (pv 3)) (pa_cons pe_int pa_nil))) (pa_cons (pe_tup (pa_cons (pe_op op_add (pe_callB call_len_seq (by rfl) T.len PySem.boot_len (pa_cons (pv 4) pa_nil)) (pv 3)) (pa_cons pe_int pa_nil))) (pa_cons (pe_tup (pa_cons (pv 7) (pa_cons (pe_op op_sub (pe_un un_neg pe_int) (pv 3)) pa_nil))) (pa_cons (pe_tup (pa_cons (pv 7) (pa_cons (pe_op op_add (pe_op op_add (pe_callB call_len_str (by rfl) T.len PySem.boot_len (pa_cons (pe_ix ix_tup (pv 4) (pv 7) (fun _ _ => rfl)) pa_nil)) pe_int) (pv 3)) pa_nil))) pa_nil))))) (pe_call G r1 (by rfl) mG kG bG .nil pass0 (pa_cons (pv 0) (pa_cons pe_int pa_nil))) (fun _ _ => rfl)) (pg_tup rfl (pgs_cons (pg_name (i := 6) nd rfl (.inr rfl)) (pgs_cons (pg_name (i := 9) nd rfl (.inr rfl)) pgs_nil))))
      (psc_cons (ps_set (i := 5) nd rfl (.inl rfl) (pe_lst (pa_cons (pe_lamC TB rfl rfl fun y hy e => .inl (kl_p1 y hy e)) (pa_cons (pe_lamD (v := .int 0) TB rfl rfl rfl rfl pe_int (fun y hy e => .inl (kl_p2 y hy e)) ⟨("_law_sheet", .free), by decide +kernel, rfl⟩) pa_nil))))
      (psc_cons (ps_expr (pe_bm PySem.F.plainAttrs_list PySem.F.slot_list_append PySem.F.type_list_append mt_append (pv 5) (pa_cons (pe_lamD (v := .int 0) TB rfl rfl rfl rfl pe_int (fun y hy e => .inl (kl_p3 y hy e)) ⟨("_law_sheet", .free), by decide +kernel, rfl⟩) pa_nil)))
      (psc_cons (ps_set (i := 10) nd rfl (.inr rfl) (pe_ix ix_list (pe_lst (pa_cons pe_str (pa_cons pe_str (pa_cons pe_str (pa_cons pe_non (pa_cons pe_int (pa_cons pe_str (pa_cons (pe_tup (pa_cons pe_str pa_nil)) pa_nil)))))))) (pe_call G r1 (by rfl) mG kG bG .nil pass0 (pa_cons (pv 0) (pa_cons pe_int pa_nil))) (fun _ _ => rfl)))
      (psc_ret (pe_op op_cat (pv 5) (pe_lst (pa_cons (pe_lamD (v := .int 0) TB rfl rfl rfl rfl pe_int (fun y hy e => .inl (kl_p4 y hy e)) ⟨("_law_sheet", .free), by decide +kernel, rfl⟩) pa_nil)))))))))))), ?_⟩
    have kx : KX b l H H := KX.refl
    refine ⟨_, rfl, 10, 18, rfl, rfl, ⟨by decide, by decide, by decide⟩, by show 2 ≤ sizeLine; decide, fun q0 nq0 => ⟨_, rfl, b, l, 2, rfl, box_new o.o.box nq0, by decide, by decide, fun z H1 z0 z1 hB1 x1 => ?_⟩⟩
    obtain ⟨o, hq0, xx⟩ := o.new (u := .lst [V.int 3, V.int (10 ^ (18 : Int).toNat)]) ne nq0
    have kx := kx.tr (kx_ext xx)
    have kx := kx.tr (kx_kb x1)
    have hq0 := hq0.kb x1
    have o := o.draw x1 hB1
    clear x1 hB1
    clear xx nq0
    obtain ⟨m2, hm2, em2⟩ := pick (xs := [(3 : Int), 10 ^ (18 : Int).toNat]) (i := z) z0 z1
    have hm2 : 0 < m2 ∧ m2 < 4611686018427387904 := by
      simp only [List.mem_cons, List.not_mem_nil, or_false] at hm2
      rcases hm2 with e | e <;> rw [e] <;> decide
    refine ⟨q0, _, _, .int m2, rfl, rfl, SqL.of hq0.1, atI_map (f := V.int) em2, b, l, m2, rfl, o.o.box, hm2.1, hm2.2, fun fr H2 fr0 fr1 hB2 x2 => ?_⟩
    have kx := kx.tr (kx_kb x2)
    have o := o.draw x2 hB2
    clear x2 hB2
    clear hq0 hm2 em2 z0 z1
    have hO : PgOk rows := by
      obtain ⟨as1, ts, hS⟩ := o.sht
      exact hS.ok
    have hpos := hO.pos
    have h30 := hO.len
    have la : (as.map V.ref).length = rows.length := by rw [List.length_map, o.o.at_.len]
    refine ⟨_, rfl, _, rfl, pg, _, rfl, .inl (SqL.of o.o.pg_), b, l, _, rfl, o.o.box, by rw [la]; omega, by rw [la]; omega, fun nv H3 a0 a1 hB3 x3 => ?_⟩
    have kx := kx.tr (kx_kb x3)
    have o := o.draw x3 hB3
    clear x3 hB3
    rw [la] at a1
    obtain ⟨n, rfl⟩ := Int.eq_ofNat_of_zero_le a0
    have hn : n < rows.length := by omega
    clear a0 a1
    obtain ⟨q, r, eq_, er⟩ : ∃ q r, as[n]? = some q ∧ rows[n]? = some r := ⟨_, _, List.getElem?_eq_getElem (by rw [o.o.at_.len]; exact hn), List.getElem?_eq_getElem hn⟩
    have hr := hO.rows r (List.mem_of_getElem? er)
    have hrq := o.o.at_.row n q r eq_ er
    have lr : (sV r).length = r.length := List.length_map ..
    have l1 := hr.pos
    have l6 := hr.len
    refine ⟨_, rfl, _, rfl, pg, _, _, .ref q, rfl, rfl, SqL.of o.o.pg_, atI_nat (by rw [List.getElem?_map, eq_]; rfl), ?_⟩
    refine ⟨_, rfl, _, rfl, q, _, rfl, .inr hrq, b, l, _, rfl, o.o.box, by rw [lr]; omega, by rw [lr]; omega, fun kv H4 a0 a1 hB4 x4 => ?_⟩
    have kx := kx.tr (kx_kb x4)
    have o := o.draw x4 hB4
    clear x4 hB4
    rw [lr] at a1
    obtain ⟨c, rfl⟩ := Int.eq_ofNat_of_zero_le a0
    have hc : c < r.length := by omega
    clear a0 a1 hrq
    have hz := (hr.cells _ (getD_mem hc)).len
    have hrq := o.o.at_.row n q r eq_ er
    refine ⟨1, rfl, _, rfl, _, _, rfl, rfl, by show 2 ≤ sizeLine; decide, fun t1 nt1 => ?_⟩
    obtain ⟨o, ht1, xx⟩ := o.new (u := .tup [V.int (-1 - fr), V.int 0]) ne nt1
    have kx := kx.tr (kx_ext xx)
    generalize upd H4 t1 (.tup [V.int (-1 - fr), V.int 0]) = Hx1 at o kx ht1 ⊢
    clear xx nt1
    have hrq := o.o.at_.row n q r eq_ er
    refine ⟨_, rfl, q, _, rfl, .inr hrq, _, rfl, _, _, rfl, rfl, by show 2 ≤ sizeLine; decide, fun t2 nt2 => ?_⟩
    obtain ⟨o, ht2, xx⟩ := o.new (u := .tup [V.int (((sV r).length : Nat) + fr), V.int 0]) ne nt2
    have kx := kx.tr (kx_ext xx)
    have ht1 := ht1.gw xx fun ps z => nomatch z
    generalize upd Hx1 t2 (.tup [V.int (((sV r).length : Nat) + fr), V.int 0]) = Hx2 at o kx ht2 ht1 ⊢
    clear xx nt2
    refine ⟨_, rfl, 1, rfl, _, rfl, _, _, rfl, rfl, by show 2 ≤ sizeLine; decide, fun t3 nt3 => ?_⟩
    obtain ⟨o, ht3, xx⟩ := o.new (u := .tup [V.int (c : Nat), V.int (-1 - fr)]) ne nt3
    have kx := kx.tr (kx_ext xx)
    have ht1 := ht1.gw xx fun ps z => nomatch z
    have ht2 := ht2.gw xx fun ps z => nomatch z
    generalize upd Hx2 t3 (.tup [V.int (c : Nat), V.int (-1 - fr)]) = Hx3 at o kx ht3 ht1 ht2 ⊢
    clear xx nt3
    have hrq := o.o.at_.row n q r eq_ er
    refine ⟨_, rfl, _, rfl, _, rfl, q, _, _, .str (r.getD c nilS), rfl, rfl, hrq, atZ hc, _, rfl, by omega, _, _, rfl, rfl, _, rfl, _, _, rfl, rfl, by show 2 ≤ sizeLine; decide, fun t4 nt4 => ?_⟩
    obtain ⟨o, ht4, xx⟩ := o.new (u := .tup [V.int (c : Nat), V.int (((r.getD c nilS).length : Nat) + 1 + fr)]) ne nt4
    have kx := kx.tr (kx_ext xx)
    have ht1 := ht1.gw xx fun ps z => nomatch z
    have ht2 := ht2.gw xx fun ps z => nomatch z
    have ht3 := ht3.gw xx fun ps z => nomatch z
    generalize upd Hx3 t4 (.tup [V.int (c : Nat), V.int (((r.getD c nilS).length : Nat) + 1 + fr)]) = Hx4 at o kx ht4 ht1 ht2 ht3 ⊢
    clear xx nt4
    refine ⟨by show 4 ≤ sizeLine; decide, fun q4 nq4 => ⟨_, rfl, b, l, 4, rfl, box_new o.o.box nq4, by decide, by decide, fun z H5 z0 z1 hB5 x5 => ?_⟩⟩
    obtain ⟨o, hq4, xx⟩ := o.new (u := .lst [V.ref t1, V.ref t2, V.ref t3, V.ref t4]) ne nq4
    have kx := kx.tr (kx_ext xx)
    have ht1 := ht1.gw xx fun ps z => nomatch z
    have ht2 := ht2.gw xx fun ps z => nomatch z
    have ht3 := ht3.gw xx fun ps z => nomatch z
    have ht4 := ht4.gw xx fun ps z => nomatch z
    have kx := kx.tr (kx_kb x5)
    have ht1 := ht1.kb x5
    have ht2 := ht2.kb x5
    have ht3 := ht3.kb x5
    have ht4 := ht4.kb x5
    have hq4 := hq4.kb x5
    have o := o.draw x5 hB5
    clear x5 hB5
    clear xx nq4
    obtain ⟨vt, hvt, evt⟩ := pick (xs := ([V.ref t1, V.ref t2, V.ref t3, V.ref t4] : List V)) (i := z) z0 z1
    obtain ⟨tt, vc, vp, rfl, htt, hbad⟩ : ∃ (tt : Addr) (vc vp : V), vt = .ref tt ∧ H5 tt = some (.tup [vc, vp]) ∧ ((NoWh 0 (((rowN rows n).length : Nat) - 1) vc ∧ C = C) ∨ ∃ k : Nat, vc = .int (k : Nat) ∧ k < (rowN rows n).length ∧ NoWh 0 ((((rowN rows n).getD k nilS).length : Nat) : Int) vp ∧ C = C) := by
      have ern : rowN rows n = r := by
        have := rowN_get hn
        rw [er] at this
        exact (Option.some.inj this).symm
      rw [ern]
      simp only [List.mem_cons, List.not_mem_nil, or_false] at hvt
      rcases hvt with rfl | rfl | rfl | rfl
      · exact ⟨_, _, _, rfl, ht1.1, .inl ⟨.inl ⟨_, rfl, by omega⟩, rfl⟩⟩
      · exact ⟨_, _, _, rfl, ht2.1, .inl ⟨.inl ⟨_, rfl, by rw [lr]; omega⟩, rfl⟩⟩
      · exact ⟨_, _, _, rfl, ht3.1, .inr ⟨c, rfl, hc, .inl ⟨_, rfl, by omega⟩, rfl⟩⟩
      · exact ⟨_, _, _, rfl, ht4.1, .inr ⟨c, rfl, hc, .inl ⟨_, rfl, by omega⟩, rfl⟩⟩
    refine ⟨q4, _, _, .ref tt, rfl, rfl, SqL.of hq4.1, evt, tt, _, rfl, .inl (.inl htt), rfl, _, _, rfl, _, _, rfl, rfl, ?_⟩
    clear hq4 evt ht1 ht2 ht3 ht4 htt z0 z1 hvt
    refine ⟨o.tb _ hq, fun f_p1 d_p1 Hx5 k1 k2 t11 nf hf hc => ?_⟩
    obtain ⟨o, xx⟩ := o.lam ne hq k1 k2 t11
    have kx := kx.tr (kx_ext xx)
    have g_p1 : HfL f_p1 ⟨"<lambda>", qP, lm_p1.1, [], lm_p1.2.2, cloFrom (cxOf CX0 P w K mg base nmPla "_law_places" (defScope s_places) f (.ref cd) A outer s H E).nox.env.cells lm_p1.2.2.names [], d_p1⟩ lm_p1.2.1 _ := ⟨hf, hc⟩
    clear xx k1 k2 t11 nf hf hc
    refine ⟨o.tb _ hq, fun f_p2 d_p2 u_p2 Hx6 k1 k2 t11 nf hf => ?_⟩
    obtain ⟨o, xx⟩ := o.lam ne hq k1 k2 t11
    have kx := kx.tr (kx_ext xx)
    have g_p1 := HfLgw g_p1 xx
    have g_p2 : HfD f_p2 ⟨"<lambda>", qP, lm_p2.1, [], lm_p2.2.2, cloFrom (cxOf CX0 P w K mg base nmPla "_law_places" (defScope s_places) f (.ref cd) A outer s H E).nox.env.cells lm_p2.2.2.names [], d_p2⟩ lm_p2.2.1 u_p2 (.int 0) _ := hf
    clear xx k1 k2 t11 nf hf
    refine ⟨by show 2 ≤ sizeLine; decide, fun w1 nw1 => ?_⟩
    have o0 := o
    have k0 := kx
    have nw10 := nw1
    have x0 := LamX.ExtN.refl Hx6
    have x0h : Hx6 w1 = none := nw1
    obtain ⟨o, hw1, xx⟩ := o.new (u := .lst [V.ref f_p1, V.ref f_p2]) ne nw1
    have kx := kx.tr (kx_ext xx)
    have g_p1 := HfLgw g_p1 xx
    have g_p2 := HfDgw g_p2 xx
    have x0 := x0.trans xx
    generalize upd Hx6 w1 (.lst [V.ref f_p1, V.ref f_p2]) = Hx7 at o kx hw1 g_p1 g_p2 x0 ⊢
    clear xx nw1
    refine ⟨_, rfl, .inl ⟨rfl, _, SqL.of hw1.1⟩, ?_⟩
    refine ⟨o.tb _ hq, fun f_p3 d_p3 u_p3 Hx8 k1 k2 t11 nf hf => ?_⟩
    obtain ⟨o, xx⟩ := o.lam ne hq k1 k2 t11
    have kx := kx.tr (kx_ext xx)
    have g_p1 := HfLgw g_p1 xx
    have g_p2 := HfDgw g_p2 xx
    have x0 := x0.trans xx
    have hw1 := hw1.gw xx fun ps z => nomatch z
    have g_p3 : HfD f_p3 ⟨"<lambda>", qP, lm_p3.1, [], lm_p3.2.2, cloFrom (cxOf CX0 P w K mg base nmPla "_law_places" (defScope s_places) f (.ref cd) A outer s H E).nox.env.cells lm_p3.2.2.names [], d_p3⟩ lm_p3.2.1 u_p3 (.int 0) _ := hf
    clear xx k1 k2 t11 nf hf
    refine ⟨w1, _, _, rfl, rfl, hw1.1, by show 2 < sizeLine; omega, ?_⟩
    have kx := KX.put k0 kx x0h (u := .lst ([V.ref f_p1, V.ref f_p2] ++ [V.ref f_p3]))
    have o := SitZ.put o0 o x0 x0h hw1.1 (ws := ([V.ref f_p1, V.ref f_p2] ++ [V.ref f_p3]))
    have g_p1 := HfLput g_p1 hw1.1 (ws := ([V.ref f_p1, V.ref f_p2] ++ [V.ref f_p3]))
    have g_p2 := HfDput g_p2 hw1.1 (ws := ([V.ref f_p1, V.ref f_p2] ++ [V.ref f_p3]))
    have g_p3 := HfDput g_p3 hw1.1 (ws := ([V.ref f_p1, V.ref f_p2] ++ [V.ref f_p3]))
    have hw1 : Hd b l (upd Hx8 w1 (.lst ([V.ref f_p1, V.ref f_p2] ++ [V.ref f_p3]))) w1 (.lst ([V.ref f_p1, V.ref f_p2] ++ [V.ref f_p3])) := ⟨upd_same, hw1.2⟩
    clear o0 k0 x0 x0h
    generalize upd Hx8 w1 (.lst ([V.ref f_p1, V.ref f_p2] ++ [V.ref f_p3])) = Hx9 at o kx g_p1 g_p2 hw1 g_p3 ⊢
    refine ⟨by show 1 ≤ sizeLine; decide, fun ta nta => ?_⟩
    obtain ⟨o, hta, xx⟩ := o.new (u := .tup [V.str "a"]) ne nta
    have kx := kx.tr (kx_ext xx)
    have g_p1 := HfLgw g_p1 xx
    have g_p2 := HfDgw g_p2 xx
    have hw1 := hw1.gw xx fun ps z => nomatch z
    have g_p3 := HfDgw g_p3 xx
    generalize upd Hx9 ta (.tup [V.str "a"]) = Hx10 at o kx hta g_p1 g_p2 hw1 g_p3 ⊢
    clear xx nta
    refine ⟨by show 7 ≤ sizeLine; decide, fun q5 nq5 => ⟨_, rfl, b, l, 7, rfl, box_new o.o.box nq5, by decide, by decide, fun z H6 z0 z1 hB6 x6 => ?_⟩⟩
    obtain ⟨o, hq5, xx⟩ := o.new (u := .lst [V.str "", V.str "ab", V.str "\n", V.non, V.int 5, V.str "\t\t", V.ref ta]) ne nq5
    have kx := kx.tr (kx_ext xx)
    have g_p1 := HfLgw g_p1 xx
    have g_p2 := HfDgw g_p2 xx
    have hw1 := hw1.gw xx fun ps z => nomatch z
    have g_p3 := HfDgw g_p3 xx
    have hta := hta.gw xx fun ps z => nomatch z
    have kx := kx.tr (kx_kb x6)
    have g_p1 := HfLkb g_p1 o.o.box x6
    have g_p2 := HfDkb g_p2 o.o.box x6
    have hw1 := hw1.kb x6
    have g_p3 := HfDkb g_p3 o.o.box x6
    have hta := hta.kb x6
    have hq5 := hq5.kb x6
    have o := o.draw x6 hB6
    clear x6 hB6
    clear xx nq5
    obtain ⟨vs_, hvs, evs⟩ := pick (xs := ([V.str "", V.str "ab", V.str "\n", V.non, V.int 5, V.str "\t\t", V.ref ta] : List V)) (i := z) z0 z1
    have hbs : BadSgH H6 vs_ := by
      simp only [List.mem_cons, List.not_mem_nil, or_false] at hvs
      rcases hvs with rfl | rfl | rfl | rfl | rfl | rfl | rfl
      · exact .inr (.inr (.inr ⟨_, by decide +kernel, rfl⟩))
      · exact .inr (.inr (.inr ⟨_, by decide +kernel, rfl⟩))
      · exact .inr (.inr (.inr ⟨_, by decide +kernel, rfl⟩))
      · exact .inl rfl
      · exact .inr (.inl rfl)
      · exact .inr (.inr (.inr ⟨_, by decide +kernel, rfl⟩))
      · exact .inr (.inr (.inl ⟨_, rfl, hta.1⟩))
    refine ⟨q5, _, _, vs_, rfl, rfl, SqL.of hq5.1, evs, ?_⟩
    clear hq5 evs hta z0 z1 hvs
    refine ⟨_, rfl, ?_⟩
    refine ⟨o.tb _ hq, fun f_p4 d_p4 u_p4 Hx11 k1 k2 t11 nf hf => ?_⟩
    obtain ⟨o, xx⟩ := o.lam ne hq k1 k2 t11
    have kx := kx.tr (kx_ext xx)
    have g_p1 := HfLgw g_p1 xx
    have g_p2 := HfDgw g_p2 xx
    have hw1 := hw1.gw xx fun ps z => nomatch z
    have g_p3 := HfDgw g_p3 xx
    have hbs := hbs.gw xx
    have g_p4 : HfD f_p4 ⟨"<lambda>", qP, lm_p4.1, [], lm_p4.2.2, cloFrom (cxOf CX0 P w K mg base nmPla "_law_places" (defScope s_places) f (.ref cd) A outer s H E).nox.env.cells lm_p4.2.2.names [], d_p4⟩ lm_p4.2.1 u_p4 (.int 0) _ := hf
    clear xx k1 k2 t11 nf hf
    refine ⟨by show 1 ≤ sizeLine; decide, fun w2 nw2 => ?_⟩
    obtain ⟨o, hw2, xx⟩ := o.new (u := .lst [V.ref f_p4]) ne nw2
    have kx := kx.tr (kx_ext xx)
    have g_p1 := HfLgw g_p1 xx
    have g_p2 := HfDgw g_p2 xx
    have hw1 := hw1.gw xx fun ps z => nomatch z
    have g_p3 := HfDgw g_p3 xx
    have hbs := hbs.gw xx
    have g_p4 := HfDgw g_p4 xx
    generalize upd Hx11 w2 (.lst [V.ref f_p4]) = Hx12 at o kx hw2 g_p1 g_p2 hw1 g_p3 hbs g_p4 ⊢
    clear xx nw2
    refine ⟨w1, w2, _, _, rfl, rfl, hw1.1, hw2.1, by show 4 ≤ sizeLine; omega, fun w5 nw5 cl Tc un => ?_⟩
    clear hw1 hw2
    obtain ⟨o, hw5, xx⟩ := o.new (u := .lst ([V.ref f_p1, V.ref f_p2] ++ [V.ref f_p3] ++ [V.ref f_p4])) ne nw5
    have kx := kx.tr (kx_ext xx)
    have g_p1 := HfLgw g_p1 xx
    have g_p2 := HfDgw g_p2 xx
    have g_p3 := HfDgw g_p3 xx
    have hbs := hbs.gw xx
    have g_p4 := HfDgw g_p4 xx
    generalize upd Hx12 w5 (.lst ([V.ref f_p1, V.ref f_p2] ++ [V.ref f_p3] ++ [V.ref f_p4])) = HZ at o kx hw5 un g_p1 g_p2 g_p3 hbs g_p4 ⊢
    clear xx nw5
    have sm := same_add un
    have xa := ex_same o.o.tab sm
    have oA := o.ex ne xa
    have hx : ∀ {H1 : Hp}, Ex cs HZ H1 → ∃ dx as1 ts, H1 sh = some (.ins S dx [("rows", .ref rl), ("style", .ref st), ("deeds", .ref dl)]) ∧ Tabs cs H1 ∧ ShtD K S H1 sh rl dl st as1 rows gap least ts [] (avX b l fun _ => False) := fun {H1} x1 => by
      have o1 := o.ex ne x1
      obtain ⟨as1, ts, hS⟩ := o1.sht
      obtain ⟨dx, h⟩ := hS.she
      exact ⟨dx, as1, ts, h, x1.tab, hS⟩
    have eC2 : ∀ {H : Hp}, ErrAt K H 3 0 (.ref C) none := err_of (by decide) rfl eC
    have ern : rowN rows n = r := by
      have := rowN_get hn
      rw [er] at this
      exact (Option.some.inj this).symm
    refine k w5 [f_p1, f_p2, f_p3, f_p4] _ oA (kx.tr (kx_ext fun c o h _ => sm c o h)) (sm _ _ hw5.1) hw5.2.1 hw5.2.2 fun f hf => ?_
    simp only [List.mem_cons, List.not_mem_nil, or_false] at hf
    rcases hf with e | e | e | e <;> rw [e]
    · refine TGK.ref_of (ws := [some (.ref sh), some (.int (n : Nat)), some vc, some vp]) sc_p1 (fun y hy => sc_p1.free (y, .free) hy rfl) (sub_p1) Tc un rfl rfl (fun i y v q1 q2 => by
          match i, q1, q2 with
          | 0, q1, q2 => cases q1; cases q2; exact ⟨1, rfl, rfl⟩
          | 1, q1, q2 => cases q1; cases q2; exact ⟨8, rfl, rfl⟩
          | 2, q1, q2 => cases q1; cases q2; exact ⟨6, rfl, rfl⟩
          | 3, q1, q2 => cases q1; cases q2; exact ⟨9, rfl, rfl⟩
          | i + 4, q1, _ => simp at q1) (fun H1 x => ⟨x.ext _ _ (add_at un g_p1.1) fnL_ne, x.ext _ _ (add_at un g_p1.2) LamX.codeO_ne⟩) (lok_p1 T X.cS Mstrike Gstrike bstrike) (fun H1 x1 _ Z E2 hE => ?_)
      obtain ⟨dx, as1, ts, hsh, hT1, hS1⟩ := hx x1
      exact ⟨sh, dx, _, .int (n : Nat), vc, vp, rfl, hsh, fld_no _ _ _ (by decide +kernel), sh, .int (n : Nat), vc, vp, _, rl, dl, st, as1, rows, gap, least, ts, [], _, rfl, hT1, hS1, .inr ⟨n, rfl, hn, hbad⟩, fun H' x => hE _ _ _ eC2 x⟩
    · refine TGK.ref_of (ws := [some (.ref sh), some (.int (n : Nat)), some vc, some vp]) sc_p2 (fun y hy => sc_p2.free (y, .free) hy rfl) (sub_p2) Tc un rfl rfl (fun i y v q1 q2 => by
          match i, q1, q2 with
          | 0, q1, q2 => cases q1; cases q2; exact ⟨1, rfl, rfl⟩
          | 1, q1, q2 => cases q1; cases q2; exact ⟨8, rfl, rfl⟩
          | 2, q1, q2 => cases q1; cases q2; exact ⟨6, rfl, rfl⟩
          | 3, q1, q2 => cases q1; cases q2; exact ⟨9, rfl, rfl⟩
          | i + 4, q1, _ => simp at q1) (fun H1 x => ⟨x.ext _ _ (add_at un g_p2.1) fnD_ne, x.ext _ _ (add_at un g_p2.2.1) LamX.codeO_ne, x.tup (add_at un g_p2.2.2)⟩) (lok_p2 T X.cS Merase Gerase berase) (fun H1 x1 _ Z E2 hE => ?_)
      obtain ⟨dx, as1, ts, hsh, hT1, hS1⟩ := hx x1
      exact ⟨sh, dx, _, .int (n : Nat), vc, vp, rfl, hsh, fld_no _ _ _ (by decide +kernel), sh, .int (n : Nat), vc, vp, rl, dl, st, as1, rows, gap, least, ts, [], _, rfl, hT1, hS1, .inr ⟨n, rfl, hn, hbad⟩, fun H' x => hE _ _ _ eC2 x⟩
    · refine TGK.ref_of (ws := [some (.ref sh), some (.int (n : Nat)), some vc, some vp]) sc_p3 (fun y hy => sc_p3.free (y, .free) hy rfl) (sub_p3) Tc un rfl rfl (fun i y v q1 q2 => by
          match i, q1, q2 with
          | 0, q1, q2 => cases q1; cases q2; exact ⟨1, rfl, rfl⟩
          | 1, q1, q2 => cases q1; cases q2; exact ⟨8, rfl, rfl⟩
          | 2, q1, q2 => cases q1; cases q2; exact ⟨6, rfl, rfl⟩
          | 3, q1, q2 => cases q1; cases q2; exact ⟨9, rfl, rfl⟩
          | i + 4, q1, _ => simp at q1) (fun H1 x => ⟨x.ext _ _ (add_at un g_p3.1) fnD_ne, x.ext _ _ (add_at un g_p3.2.1) LamX.codeO_ne, x.tup (add_at un g_p3.2.2)⟩) (lok_p3 T X.cS Mpart Gpart bpart) (fun H1 x1 _ Z E2 hE => ?_)
      obtain ⟨dx, as1, ts, hsh, hT1, hS1⟩ := hx x1
      exact ⟨sh, dx, _, .int (n : Nat), vc, vp, rfl, hsh, fld_no _ _ _ (by decide +kernel), sh, .int (n : Nat), vc, vp, rl, dl, st, as1, rows, gap, least, ts, [], _, rfl, hT1, hS1, .inr ⟨n, rfl, hn, hbad⟩, fun H' x => hE _ _ _ eC2 x⟩
    · refine TGK.ref_of (ws := [some (.ref sh), some (.int (n : Nat)), some (.int (c : Nat)), some vs_]) sc_p4 (fun y hy => sc_p4.free (y, .free) hy rfl) (sub_p4) Tc un rfl rfl (fun i y v q1 q2 => by
          match i, q1, q2 with
          | 0, q1, q2 => cases q1; cases q2; exact ⟨1, rfl, rfl⟩
          | 1, q1, q2 => cases q1; cases q2; exact ⟨8, rfl, rfl⟩
          | 2, q1, q2 => cases q1; cases q2; exact ⟨7, rfl, rfl⟩
          | 3, q1, q2 => cases q1; cases q2; exact ⟨10, rfl, rfl⟩
          | i + 4, q1, _ => simp at q1) (fun H1 x => ⟨x.ext _ _ (add_at un g_p4.1) fnD_ne, x.ext _ _ (add_at un g_p4.2.1) LamX.codeO_ne, x.tup (add_at un g_p4.2.2)⟩) (lok_p4 T X.cS Mstrike GstrikeG bstrike) (fun H1 x1 _ Z E2 hE => ?_)
      obtain ⟨dx, as1, ts, hsh, hT1, hS1⟩ := hx x1
      exact ⟨sh, dx, _, .int (n : Nat), .int (c : Nat), vs_, rfl, hsh, fld_no _ _ _ (by decide +kernel), sh, n, c, 0, vs_, rl, dl, st, as1, rows, gap, least, ts, [], _, rfl, hT1, hS1, ⟨hn, by rw [ern]; exact hc, Nat.zero_le _⟩, hbs.gw x1.ext, fun H' x => hE _ _ _ eC2 x⟩
end
end TGK

namespace TGK
open TG
open PySem PySem.Spec PyProof.Rows L2 NdefX GenW Gx Lv Dl EnT
/-! ### deeds for which there is no room -/
section
variable {R C : Addr} {rows : List (List Str)} {gap least : Int} {d : Deed} {n m : Nat} {new : List (List Str)}
theorem none_of (hc : cutD rows d = some (n, m, new)) (h : fitsR ((rows.length : Nat) - (m : Nat) + (new.length : Nat)) new = false) : goneD rows gap least d = none := by
  unfold goneD
  rw [hc, Option.bind_some]
  exact if_neg (by rw [h]; exact Bool.false_ne_true)
theorem err_C (hc : cutD rows d = some (n, m, new)) (h : 1 ≤ ((rows.length : Nat) : Int) - (m : Nat) + (new.length : Nat) ∧ ((rows.length : Nat) : Int) - (m : Nat) + (new.length : Nat) ≤ 30) : errD R C rows d = C := by
  unfold errD
  rw [hc]
  exact if_pos h
theorem err_R (hc : cutD rows d = some (n, m, new)) (h : ¬ (1 ≤ ((rows.length : Nat) : Int) - (m : Nat) + (new.length : Nat) ∧ ((rows.length : Nat) : Int) - (m : Nat) + (new.length : Nat) ≤ 30)) : errD R C rows d = R := by
  unfold errD
  rw [hc]
  exact if_neg h
theorem fits_no {m : Int} {r : List Str} (h : 6 < r.length ∨ ∃ z ∈ r, 10 < z.length) : fitsR m [r] = false := by
  unfold fitsR
  rw [List.all_cons, List.all_nil, Bool.and_true]
  have : fitR r = false := by
    unfold fitR
    rcases h with h | ⟨z, hz, h⟩
    · rw [decide_eq_false (by omega), Bool.false_and]
    · have : (r.all fun z => decide (z.length ≤ 10)) = false := by
        rw [Bool.eq_false_iff]
        intro q
        have := of_decide_eq_true (List.all_eq_true.mp q z hz)
        omega
      rw [this, Bool.and_false]
  rw [this, Bool.and_false]
theorem fits_many {m : Int} {new : List (List Str)} (h : ¬ (1 ≤ m ∧ m ≤ 30)) : fitsR m new = false := by
  unfold fitsR
  rw [decide_eq_false h, Bool.false_and]
theorem joinR_one (a b : List Str) (x y : Str) : joinR (a ++ [x]) (y :: b) = a ++ [x ++ y] ++ b := by
  unfold joinR
  simp
/-- one deed at a row that would be too great -/
structure NoRoom (R C : Addr) (rows : List (List Str)) (gap least : Int) (d : Deed) : Prop where
  ok : DOk rows d
  no : goneD rows gap least d = none
  cls : errD R C rows d = C
theorem zD_end (z : Str) : zD z z.length = nilS := by
  have h : cl (zD z z.length) = cl nilS := by
    rw [cl_zD, len_clz, List.drop_length]
  exact TG.str_ext h
theorem one_len : (("a" : Str)).length = 1 := by decide +kernel
theorem no_sign {c : Nat} (hO : PgOk rows) (h1 : n < rows.length) (h2 : c < (rowN rows n).length) (h3 : ((rowN rows n).getD c nilS).length = 10) : NoRoom R C rows gap least (.strike n c 10 "a") := by
  have ec : cutD rows (.strike n c 10 "a") = some (n, 1, [(rowN rows n).take c ++ [zT ((rowN rows n).getD c nilS) 10 ++ "a" ++ zD ((rowN rows n).getD c nilS) 10] ++ (rowN rows n).drop (c + 1)]) := by
    show some (n, 1, [if ("a" : Str) = tabS then _ else joinR (joinR (halvA (rowN rows n) c 10) ["a"]) (halvB (rowN rows n) c 10)]) = _
    rw [if_neg (by decide +kernel)]
    unfold halvA halvB
    rw [joinR_one, List.append_nil, joinR_one]
  have h30 := hO.len
  refine ⟨⟨⟨h1, h2, by rw [h3]; exact Nat.le_refl _⟩, .inr ⟨⟨by decide +kernel, sg_of (by decide +kernel)⟩, by decide +kernel⟩⟩, none_of ec (fits_no (.inr ⟨_, List.mem_append_left _ (List.mem_append_right _ (List.mem_singleton.mpr rfl)), ?_⟩)), err_C ec (by show 1 ≤ ((rows.length : Nat) : Int) - ((1 : Nat) : Int) + ((1 : Nat) : Int) ∧ ((rows.length : Nat) : Int) - ((1 : Nat) : Int) + ((1 : Nat) : Int) ≤ 30; omega)⟩
  rw [len_zz, len_zz, len_zT, len_zD, h3, one_len]
  decide
theorem no_tab (hO : PgOk rows) (h1 : n < rows.length) (h2 : (rowN rows n).length = 6) : NoRoom R C rows gap least (.strike n 5 0 "\t") := by
  have et : ("\t" : Str) = tabS := by decide +kernel
  have ec : cutD rows (.strike n 5 0 "\t") = some (n, 1, [halvA (rowN rows n) 5 0 ++ halvB (rowN rows n) 5 0]) := by
    show some (n, 1, [if ("\t" : Str) = tabS then _ else _]) = _
    rw [if_pos et]
  have h30 := hO.len
  refine ⟨⟨⟨h1, by omega, Nat.zero_le _⟩, .inl et⟩, none_of ec (fits_no (.inl ?_)), err_C ec (by show 1 ≤ ((rows.length : Nat) : Int) - ((1 : Nat) : Int) + ((1 : Nat) : Int) ∧ ((rows.length : Nat) : Int) - ((1 : Nat) : Int) + ((1 : Nat) : Int) ≤ 30; omega)⟩
  unfold halvA halvB
  simp only [List.length_append, List.length_take, List.length_cons, List.length_drop, List.length_nil, h2]
  decide
theorem no_wide {j : Nat} (hO : PgOk rows) (h1 : n < rows.length) (h2 : j + 1 < (rowN rows n).length) (h3 : 10 < ((rowN rows n).getD j nilS).length + ((rowN rows n).getD (j + 1) nilS).length) : NoRoom R C rows gap least (.erase n j ((rowN rows n).getD j nilS).length) := by
  have e2 : (rowN rows n).drop (j + 1) = (rowN rows n).getD (j + 1) nilS :: (rowN rows n).drop (j + 2) := by
    rw [List.drop_eq_getElem_cons h2, List.getD_eq_getElem?_getD, List.getElem?_eq_getElem h2]
    rfl
  have el : lessR (halvB (rowN rows n) j ((rowN rows n).getD j nilS).length) = some ((rowN rows n).drop (j + 1)) := by
    unfold halvB lessR
    rw [zD_end, List.headD_cons, if_neg (fun h => h rfl), List.length_cons, List.length_drop, if_neg (by omega), List.tail_cons]
  have ec : cutD rows (.erase n j ((rowN rows n).getD j nilS).length) = some (n, 1, [(rowN rows n).take j ++ [zT ((rowN rows n).getD j nilS) ((rowN rows n).getD j nilS).length ++ (rowN rows n).getD (j + 1) nilS] ++ (rowN rows n).drop (j + 2)]) := by
    show (lessR (halvB (rowN rows n) j ((rowN rows n).getD j nilS).length)).map (fun b => (n, 1, [joinR (halvA (rowN rows n) j _) b])) = _
    rw [el, Option.map_some, e2]
    unfold halvA
    rw [joinR_one]
  have h30 := hO.len
  refine ⟨⟨h1, by omega, Nat.le_refl _⟩, none_of ec (fits_no (.inr ⟨_, List.mem_append_left _ (List.mem_append_right _ (List.mem_singleton.mpr rfl)), ?_⟩)), err_C ec (by show 1 ≤ ((rows.length : Nat) : Int) - ((1 : Nat) : Int) + ((1 : Nat) : Int) ∧ ((rows.length : Nat) : Int) - ((1 : Nat) : Int) + ((1 : Nat) : Int) ≤ 30; omega)⟩
  rw [len_zz, len_zT]
  omega
theorem no_end (hO : PgOk rows) (h1 : n < rows.length) : NoRoom R C rows gap least (.erase n ((rowN rows n).length - 1) ((rowN rows n).getD ((rowN rows n).length - 1) nilS).length) := by
  have h0 := (rowN_ok hO h1).pos
  have el : lessR (halvB (rowN rows n) ((rowN rows n).length - 1) ((rowN rows n).getD ((rowN rows n).length - 1) nilS).length) = none := by
    unfold halvB lessR
    rw [zD_end, List.headD_cons, if_neg (fun h => h rfl), List.length_cons, List.length_drop, if_pos (by omega)]
  have ec : cutD rows (.erase n ((rowN rows n).length - 1) ((rowN rows n).getD ((rowN rows n).length - 1) nilS).length) = none := by
    show (lessR (halvB (rowN rows n) ((rowN rows n).length - 1) ((rowN rows n).getD ((rowN rows n).length - 1) nilS).length)).map (fun b => (n, 1, [joinR (halvA (rowN rows n) _ _) b])) = _
    rw [el]
    rfl
  refine ⟨⟨h1, by omega, Nat.le_refl _⟩, by unfold goneD; rw [ec]; rfl, by unfold errD; rw [ec]⟩
theorem no_unite (hO : PgOk rows) (h1 : n + 1 < rows.length) (h : 7 < (rowN rows n).length + (rowN rows (n + 1)).length ∨ 10 < ((rowN rows n).getLast?.getD nilS).length + ((rowN rows (n + 1)).headD nilS).length) : NoRoom R C rows gap least (.unite n) := by
  have ec : cutD rows (.unite n) = some (n, 2, [joinR (rowN rows n) (rowN rows (n + 1))]) := if_pos h1
  have h30 := hO.len
  have p0 := (rowN_ok hO (show n < rows.length by omega)).pos
  have p1 := (rowN_ok hO h1).pos
  refine ⟨(show n < rows.length by omega), none_of ec (fits_no ?_), err_C ec (by show 1 ≤ ((rows.length : Nat) : Int) - ((2 : Nat) : Int) + ((1 : Nat) : Int) ∧ ((rows.length : Nat) : Int) - ((2 : Nat) : Int) + ((1 : Nat) : Int) ≤ 30; omega)⟩
  rcases h with h | h
  · left
    unfold joinR
    rw [List.length_append, List.length_cons, List.length_dropLast, List.length_tail]
    omega
  · right
    refine ⟨(rowN rows n).getLast?.getD nilS ++ (rowN rows (n + 1)).headD nilS, by unfold joinR; simp, ?_⟩
    rw [len_zz]
    exact h
end
end TGK

namespace TGK
open TG
open PySem PySem.Spec PyProof.Rows L2 NdefX GenW Gx Lv Dl EnT
/-! ### _law_row_full -/
theorem cutG (G C : L2.St → Hp → Prop) {X : Prop} (f : (∀ σ H, C σ H → G σ H) → X) (g : ∀ σ H, C σ H → G σ H) : X := f g
theorem atZ_lastT {xs : List Str} (h : 1 ≤ xs.length) : atI (sV xs) (-1) = some (.str (xs.getLast?.getD nilS)) := by
  have e : ixN (sV xs).length (-1) = some (xs.length - 1) := by
    unfold ixN sV
    rw [List.length_map]
    simp
    omega
  unfold atI
  rw [e]
  show (sV xs)[xs.length - 1]? = _
  unfold sV
  rw [List.getElem?_map, List.getLast?_eq_getElem?, List.getElem?_eq_getElem (by omega)]
  rfl
theorem gset {i : Nat} {v : V} {σ σ' : L2.St} {H : Hp} {Q : L2.St → Hp → Prop} (e : σ.set i (some v) = σ') (h : Q σ' H) : gName i v σ H Q := by
  show Q (σ.set i (some v)) H
  rw [e]
  exact h
abbrev qF : Str := ("_law_row_full" : Str) ++ ".<locals>." ++ "<lambda>"
abbrev frF : List Str := ["_law_sheet", "_law_number", "_law_k", "_law_j", "_law_row_here"]
theorem sub_r1 : ∀ y ∈ fr_r1, y ∈ frF := by decide +kernel
theorem sub_r2 : ∀ y ∈ fr_r2, y ∈ frF := by decide +kernel
theorem sub_r3 : ∀ y ∈ fr_r3, y ∈ frF := by decide +kernel
theorem sub_r4 : ∀ y ∈ fr_r4, y ∈ frF := by decide +kernel
theorem sub_r5 : ∀ y ∈ fr_r5, y ∈ frF := by decide +kernel
abbrev nmFul : List Str := ["_law_box", "_law_sheet", "_law_rows", "_law_number", "_law_works", "_law_k", "_law_long", "_law_wide", "_law_more", "_law_j", "_law_row_here"]
theorem sc_ful_ : FnScope nmFul ["_law_box", "_law_sheet", "_law_rows", "_law_number"] (defScope s_row_full) := ⟨rfl, rfl, rfl, by decide +kernel, rfl, by decide +kernel, by decide +kernel⟩
theorem kc_ful : ∀ y ∈ frF, (defScope s_row_full).names.lookup y = some .cell := by decide +kernel
/-- the works of which there may be some -/
def IsF (cells : List (Str × Addr)) (rows : List (List Str)) (n : Nat) (ck cj : Option V) (H : Hp) (f : Addr) : Prop :=
  (∃ k : Nat, ck = some (.int (k : Nat)) ∧ k < (rowN rows n).length ∧ ((rowN rows n).getD k nilS).length = 10 ∧ ∃ c, HfL f ⟨"<lambda>", qF, lm_r1.1, [], lm_r1.2.2, cloFrom cells lm_r1.2.2.names [], c⟩ lm_r1.2.1 H) ∨
  ((rowN rows n).length = 6 ∧ ∃ c t, HfD f ⟨"<lambda>", qF, lm_r2.1, [], lm_r2.2.2, cloFrom cells lm_r2.2.2.names [], c⟩ lm_r2.2.1 t (.int 0) H) ∨
  (∃ j : Nat, cj = some (.int (j : Nat)) ∧ j + 1 < (rowN rows n).length ∧ 10 < ((rowN rows n).getD j nilS).length + ((rowN rows n).getD (j + 1) nilS).length ∧ ∃ c t, HfD f ⟨"<lambda>", qF, lm_r3.1, [], lm_r3.2.2, cloFrom cells lm_r3.2.2.names [], c⟩ lm_r3.2.1 t (.int 0) H) ∨
  (∃ c t, HfD f ⟨"<lambda>", qF, lm_r4.1, [], lm_r4.2.2, cloFrom cells lm_r4.2.2.names [], c⟩ lm_r4.2.1 t (.int 0) H) ∨
  ((n + 1 < rows.length ∧ (7 < (rowN rows n).length + (rowN rows (n + 1)).length ∨ 10 < ((rowN rows n).getLast?.getD nilS).length + ((rowN rows (n + 1)).headD nilS).length)) ∧ ∃ c t, HfD f ⟨"<lambda>", qF, lm_r5.1, [], lm_r5.2.2, cloFrom cells lm_r5.2.2.names [], c⟩ lm_r5.2.1 t (.int 0) H)
theorem IsF.keep {cells : List (Str × Addr)} {rows : List (List Str)} {n : Nat} {ck cj : Option V} {H H' : Hp} {f : Addr} (x : ∀ c o, H c = some o → (∀ ps, o ≠ .tbl ps) → (∀ us, o ≠ .lst us) → H' c = some o) (i : IsF cells rows n ck cj H f) : IsF cells rows n ck cj H' f := by
  have kL : ∀ {g : Addr} {F : NF} {e : Expr}, HfL g F e H → HfL g F e H' := fun hl => ⟨x _ _ hl.1 fnL_ne fnL_nl, x _ _ hl.2 LamX.codeO_ne codeO_nl⟩
  have kD : ∀ {g t : Addr} {F : NF} {e : Expr} {v : V}, HfD g F e t v H → HfD g F e t v H' := fun hl => ⟨x _ _ hl.1 fnD_ne fnD_nl, x _ _ hl.2.1 LamX.codeO_ne codeO_nl, x _ _ hl.2.2 (fun ps z => nomatch z) (fun us z => nomatch z)⟩
  rcases i with ⟨k, h1, h2, h3, c, q⟩ | ⟨p, c, t, q⟩ | ⟨j, h1, h2, h3, c, t, q⟩ | ⟨c, t, q⟩ | ⟨p, c, t, q⟩
  · exact .inl ⟨k, h1, h2, h3, c, kL q⟩
  · exact .inr (.inl ⟨p, c, t, kD q⟩)
  · exact .inr (.inr (.inl ⟨j, h1, h2, h3, c, t, kD q⟩))
  · exact .inr (.inr (.inr (.inl ⟨c, t, kD q⟩)))
  · exact .inr (.inr (.inr (.inr ⟨p, c, t, kD q⟩)))
theorem IsF.cj {cells : List (Str × Addr)} {rows : List (List Str)} {n : Nat} {ck cj : Option V} {H : Hp} {f : Addr} (i : IsF cells rows n ck none H f) : IsF cells rows n ck cj H f := by
  rcases i with h | h | ⟨j, h1, _⟩ | h | h
  · exact .inl h
  · exact .inr (.inl h)
  · cases h1
  · exact .inr (.inr (.inr (.inl h)))
  · exact .inr (.inr (.inr (.inr h)))
section
variable {K : PySem.W.Frag} {cs : List (Addr × Addr)} {S b l pg sh rl dl st p : Addr} {as : List Addr} {gap least : Int} {rows : List (List Str)} {tbs : List (Addr × Str)} {H0 H H' : Hp}
/-- an own list changes -/
theorem SitP.chg {c : Addr} {us ws : List V} (o : SitP K cs S b l pg sh rl dl st as rows gap least rows [] (fun _ => False) H) (hc : H c = some (.lst us)) (n : c ≠ sh ∧ c ≠ rl ∧ c ≠ dl ∧ c ≠ pg ∧ c ≠ b ∧ c ≠ l) : SitP K cs S b l pg sh rl dl st as rows gap least rows [] (fun _ => False) (upd H c (.lst ws)) := by
  obtain ⟨as1, ts, hS⟩ := o.sht
  have e : ts = [] := by
    have := hS.past
    cases ts with
    | nil => rfl
    | cons t ts => unfold PastAt at this; exact this.elim
  subst e
  have o2 : SitP K cs S b l pg sh rl dl st as rows gap least rows [] (fun d => d = c) H := by
    refine ⟨o.box, o.tab, o.pg_, o.at_, ⟨as1, [], hS.fresh fun d hd => ?_⟩, fun d hd => ?_, o.dp, fun d hd => ?_⟩
    · rcases hd with hd | hd
      · exact hS.live d (.inl hd)
      · exact ⟨.lst us, by rw [hd]; exact hc, fun ps z => nomatch z⟩
    · rcases hd with hd | hd
      · exact o.d d (.inl hd)
      · rw [hd]; exact ⟨n.1, n.2.1, n.2.2.1, n.2.2.2.1⟩
    · rw [hd]; exact fun z => z.elim n.2.2.2.2.1 n.2.2.2.2.2
  have o3 := o2.own (ws := ws) rfl hc
  obtain ⟨as3, ts3, hS3⟩ := o3.sht
  exact ⟨o3.box, o3.tab, o3.pg_, o3.at_, ⟨as3, ts3, hS3.less fun d hd => hd.imp id fun z => z.elim⟩, o.d, o3.dp, o.xb⟩
theorem SitZ.chg {c : Addr} {us ws : List V} (o : SitZ K cs S b l pg sh rl dl st as gap least rows tbs H) (hc : H c = some (.lst us)) (n : c ≠ sh ∧ c ≠ rl ∧ c ≠ dl ∧ c ≠ pg ∧ c ≠ b ∧ c ≠ l) : SitZ K cs S b l pg sh rl dl st as gap least rows tbs (upd H c (.lst ws)) :=
  ⟨o.o.chg hc n, fun p hp => by
    obtain ⟨ps, h1, h2, h3⟩ := o.tb p hp
    refine ⟨ps, put_nl hc h1 (fun us z => by cases z), h2, fun pos cv hcv => ?_⟩
    obtain ⟨c0, e1, e2⟩ := h3 pos cv hcv
    exact ⟨c0, e1, put_nl hc e2 codeO_nl⟩⟩
/-- all that stands in _law_row_full -/
structure Fst (K : PySem.W.Frag) (cs : List (Addr × Addr)) (S b l pg sh rl dl st : Addr) (as : List Addr) (gap least : Int) (rows : List (List Str)) (tbs : List (Addr × Str)) (cells : List (Str × Addr)) (n : Nat) (lw : Addr) (H0 : Hp) (ck cj : Option V) (m : Nat) (H : Hp) : Prop where
  o : SitZ K cs S b l pg sh rl dl st as gap least rows tbs H
  kx : KX b l H0 H
  wk : ∃ fs : List Addr, H lw = some (.lst (fs.map V.ref)) ∧ fs.length ≤ m ∧ ∀ f ∈ fs, IsF cells rows n ck cj H f
  nl : lw ≠ sh ∧ lw ≠ rl ∧ lw ≠ dl ∧ lw ≠ pg ∧ lw ≠ b ∧ lw ≠ l
  l0 : ∀ u, H0 lw = some u → ∃ ps, u = .tbl ps
variable {cells : List (Str × Addr)} {n lw_m m : Nat} {lw : Addr} {ck cj : Option V}
theorem Fst.ex (a : Fst K cs S b l pg sh rl dl st as gap least rows tbs cells n lw H0 ck cj m H) (ne : Tbs cs tbs) (x : Ex cs H H') : Fst K cs S b l pg sh rl dl st as gap least rows tbs cells n lw H0 ck cj m H' := by
  obtain ⟨fs, w1, w2, w3⟩ := a.wk
  exact ⟨a.o.ex ne x, a.kx.tr (kx_ext x.ext), ⟨fs, x.lst w1, w2, fun f hf => (w3 f hf).keep fun c o h n _ => x.ext _ _ h n⟩, a.nl, a.l0⟩
theorem Fst.draw (a : Fst K cs S b l pg sh rl dl st as gap least rows tbs cells n lw H0 ck cj m H) (x : KB b l H H') (hB : BoxAt H' b l) : Fst K cs S b l pg sh rl dl st as gap least rows tbs cells n lw H0 ck cj m H' := by
  obtain ⟨fs, w1, w2, w3⟩ := a.wk
  exact ⟨a.o.draw x hB, a.kx.tr (kx_kb x), ⟨fs, x _ _ w1 a.nl.2.2.2.2.1 a.nl.2.2.2.2.2, w2, fun f hf => (w3 f hf).keep fun c o h _ nl => kb_nl a.o.o.box x h nl⟩, a.nl, a.l0⟩
theorem Fst.more (a : Fst K cs S b l pg sh rl dl st as gap least rows tbs cells n lw H0 ck cj m H) : Fst K cs S b l pg sh rl dl st as gap least rows tbs cells n lw H0 ck cj (m + 1) H := by
  obtain ⟨fs, w1, w2, w3⟩ := a.wk
  exact ⟨a.o, a.kx, ⟨fs, w1, Nat.le_succ_of_le w2, w3⟩, a.nl, a.l0⟩
theorem Fst.none_ (a : Fst K cs S b l pg sh rl dl st as gap least rows tbs cells n lw H0 none none 0 H) : Fst K cs S b l pg sh rl dl st as gap least rows tbs cells n lw H0 ck none 0 H := by
  obtain ⟨fs, w1, w2, w3⟩ := a.wk
  refine ⟨a.o, a.kx, ⟨fs, w1, w2, fun f hf => ?_⟩, a.nl, a.l0⟩
  have : fs = [] := List.length_eq_zero_iff.mp (Nat.le_zero.mp w2)
  rw [this] at hf
  cases hf
theorem Fst.setj (a : Fst K cs S b l pg sh rl dl st as gap least rows tbs cells n lw H0 ck none m H) : Fst K cs S b l pg sh rl dl st as gap least rows tbs cells n lw H0 ck cj m H := by
  obtain ⟨fs, w1, w2, w3⟩ := a.wk
  exact ⟨a.o, a.kx, ⟨fs, w1, w2, fun f hf => (w3 f hf).cj⟩, a.nl, a.l0⟩
theorem Fst.add {f : Addr} (a : Fst K cs S b l pg sh rl dl st as gap least rows tbs cells n lw H0 ck cj m H) (ne : Tbs cs tbs) (hp : (p, qF) ∈ tbs) (k1 : ∀ b o, H b = some o → b ≠ p → H' b = some o) (k2 : ∀ b, H' b = none → H b = none) (t : LamX.TabS H' p qF) (hf : IsF cells rows n ck cj H' f) :
    ∃ fs : List Addr, H' lw = some (.lst (fs.map V.ref)) ∧ fs.length ≤ m ∧ Fst K cs S b l pg sh rl dl st as gap least rows tbs cells n lw H0 ck cj (m + 1) (upd H' lw (.lst (fs.map V.ref ++ [.ref f]))) := by
  obtain ⟨fs, w1, w2, w3⟩ := a.wk
  obtain ⟨o2, xx⟩ := a.o.lam ne hp k1 k2 t
  have w4 := xx _ _ w1 fun ps z => nomatch z
  refine ⟨fs, w4, w2, o2.chg w4 a.nl, fun c u h nt n1 n2 => ?_, ⟨fs ++ [f], by rw [upd_same, List.map_append]; rfl, by rw [List.length_append]; exact Nat.succ_le_succ w2, fun g hg => ?_⟩, a.nl, a.l0⟩
  · rw [upd_ne (fun e => by
      obtain ⟨ps, z⟩ := a.l0 u (e ▸ h)
      exact nt ps z)]
    exact xx _ _ (a.kx c u h nt n1 n2) nt
  · rcases List.mem_append.mp hg with z | z
    · exact (w3 g z).keep fun c u h nt nl => put_nl w4 (xx _ _ h nt) nl
    · rw [List.mem_singleton.mp z]
      exact hf.keep fun c u h nt nl => put_nl w4 h nl
end
theorem iints {js : List Int} : PyData.eqv (.list (js.map PyData.int)) (.list []) = decide (js = []) := by
  cases js with
  | nil => rfl
  | cons j js => rfl
section
variable {P : Program} {w : World} {K : PySem.W.Frag} {mg : Str → Option Value} {base : Heap} {cs : List (Addr × Addr)} {S R C p : Addr} {tbs : List (Addr × Str)}
def spFull (K : PySem.W.Frag) (cs : List (Addr × Addr)) (S : Addr) (tbs : List (Addr × Str)) : Sp := fun vs H Q _ => ∃ (b l pg sh rl dl st : Addr) (as : List Addr) (gap least : Int) (rows : List (List Str)) (n : Nat), vs = [.ref b, .ref sh, .ref pg, .int (n : Nat)] ∧ n < rows.length ∧ SitZ K cs S b l pg sh rl dl st as gap least rows tbs H ∧
  ∀ H', SitZ K cs S b l pg sh rl dl st as gap least rows tbs H' → KX b l H H' → Q (.bl true) H'
theorem ok_full {f cd gG gA gstrike gerase gunite : Addr} {fd fdG fdA fdstrike fderase fdunite : FuncData} (T : Txt mg) (X : ShC K S) (ne : Tbs cs tbs) (hq : (p, qF) ∈ tbs) (eC : C = He.ga K (nmE 3)) (F : Fun K "_law_row_full" "_law_row_full" s_row_full f fd) (hcode : fd.code = .ref cd) (TB : LamX.TabB base mg cd p)
    (G : FnOk P w K mg base CX0 1 gG fdG ["_law_box", "_law_many"] spTakeW) (kG : PySem.W.keepIn K (.ref gG) = true) (bG : Binds K fdG ["_law_box", "_law_many"] []) (mG : mg "_law_take" = some (.ref gG))
    (GA : FnOk P w K mg base CX0 20 gA fdA ["_law_works", "_law_due"] (spAllW P w K mg base cs 18)) (kA : PySem.W.keepIn K (.ref gA) = true) (bA : Binds K fdA ["_law_works", "_law_due"] []) (mA : mg "_law_all" = some (.ref gA))
    (Mstrike : Meth K S "strike" gstrike) (Gstrike : FnOk P w K mg base (L2.CX P w) 17 gstrike fdstrike ["self", "number", "cell", "place", "sign"] (spStrike K cs S R C)) (bstrike : Binds K fdstrike ["self", "number", "cell", "place", "sign"] [])
    (Merase : Meth K S "erase" gerase) (Gerase : FnOk P w K mg base (L2.CX P w) 17 gerase fderase ["self", "number", "cell", "place"] (spErase K cs S R C)) (berase : Binds K fderase ["self", "number", "cell", "place"] [])
    (Munite : Meth K S "unite" gunite) (Gunite : FnOk P w K mg base (L2.CX P w) 17 gunite fdunite ["self", "number"] (spUnite K cs S R C)) (bunite : Binds K fdunite ["self", "number"] []) :
    FnOk P w K mg base CX0 21 f fd ["_law_box", "_law_sheet", "_law_rows", "_law_number"] (spFull K cs S tbs) := by
  refine fun_okT F hcode sc_ful_ (fun vs H Q E h => ?_) (fun A outer s H vs Q E hr h => ?_)
  · obtain ⟨b, l, pg, sh, rl, dl, st, as, gap, least, rows, n, rfl, _⟩ := h
    rfl
  · obtain ⟨b, l, pg, sh, rl, dl, st, as, gap, least, rows, n, rfl, hn, o, kq⟩ := h
    have nd := sc_ful_.nd
    have hu := hr.units
    have r1 : Room 1 _ := hr.mono (by decide)
    have szl : (9000 : Nat) < sizeLine := by decide
    refine ⟨_, (pss_cons (ps_asg (pe_tup (pa_cons (pe_ix ix_list (pv 2) (pv 3) (fun _ _ => rfl)) (pa_cons (pe_lst pa_nil) pa_nil))) (pg_tup rfl (pgs_cons (pg_name (i := 10) nd rfl (.inr rfl)) (pgs_cons (pg_name (i := 4) nd rfl (.inl rfl)) pgs_nil))))
      (pss_cons (ps_setLc (i := 6) (own := [("_law_k", 5)]) (g := gName 5) rfl nd rfl rfl (sw_true rfl rfl rfl (by decide +kernel)) (pi_range1 (by rfl) T.range (pa_cons (pe_callB call_len_seq (by rfl) T.len PySem.boot_len (pa_cons (pv 10) pa_nil)) pa_nil)) (blkOk_by (own := [("_law_k", 5)]) (N := nmFul) (sc := defScope s_row_full) (by decide +kernel)) (fun _ _ _ _ _ => pg_name (i := 5) nd rfl (Or.inl rfl)) (fun _ _ _ _ _ => pts_one (pt_cmpR op_eq (pe_callB call_len_str (by rfl) T.len PySem.boot_len (pa_cons (pe_ix (r := rIxT K) ix_tup (pv 10) (pv 5) (fun _ _ => rfl)) pa_nil)) pe_int (nomark _))) (fun _ _ _ _ _ => (pv 5)))
      (pss_cons (ps_if (pt_cmpR (op_neD hu) (pv 6) (pe_lst pa_nil) (nomark _)) (pss_cons (ps_set (i := 5) nd rfl (.inr rfl) (pe_ix ix_list (pv 6) (pe_call G r1 (by rfl) mG kG bG .nil pass0 (pa_cons (pv 0) (pa_cons (pe_callB call_len_seq (by rfl) T.len PySem.boot_len (pa_cons (pv 6) pa_nil)) pa_nil))) (fun _ _ => rfl)))
      (pss_one (ps_expr (pe_bm PySem.F.plainAttrs_list PySem.F.slot_list_append PySem.F.type_list_append mt_append (pv 4) (pa_cons (pe_lamC TB rfl rfl fun y hy e => .inl (kl_r1 y hy e)) pa_nil))))) pss_nil)
      (pss_cons (ps_if (pt_cmpR op_eq (pe_callB call_len_seq (by rfl) T.len PySem.boot_len (pa_cons (pv 10) pa_nil)) pe_int (nomark _)) (pss_one (ps_expr (pe_bm PySem.F.plainAttrs_list PySem.F.slot_list_append PySem.F.type_list_append mt_append (pv 4) (pa_cons (pe_lamD (v := .int 0) TB rfl rfl rfl rfl pe_int (fun y hy e => .inl (kl_r2 y hy e)) ⟨("_law_sheet", .free), by decide +kernel, rfl⟩) pa_nil)))) pss_nil)
      (pss_cons (ps_setLc (i := 7) (own := [("_law_k", 5)]) (g := gName 5) rfl nd rfl rfl (sw_true rfl rfl rfl (by decide +kernel)) (pi_range1 (by rfl) T.range (pa_cons (pe_op op_sub (pe_callB call_len_seq (by rfl) T.len PySem.boot_len (pa_cons (pv 10) pa_nil)) pe_int) pa_nil)) (blkOk_by (own := [("_law_k", 5)]) (N := nmFul) (sc := defScope s_row_full) (by decide +kernel)) (fun _ _ _ _ _ => pg_name (i := 5) nd rfl (Or.inl rfl)) (fun _ _ _ _ _ => pts_one (pt_cmpR op_gt (pe_op op_add (pe_callB call_len_str (by rfl) T.len PySem.boot_len (pa_cons (pe_ix (r := rIxT K) ix_tup (pv 10) (pv 5) (fun _ _ => rfl)) pa_nil)) (pe_callB call_len_str (by rfl) T.len PySem.boot_len (pa_cons (pe_ix (r := rIxT K) ix_tup (pv 10) (pe_op op_add (pv 5) pe_int) (fun _ _ => rfl)) pa_nil))) pe_int (nomark _))) (fun _ _ _ _ _ => (pv 5)))
      (pss_cons (ps_if (pt_cmpR (op_neD hu) (pv 7) (pe_lst pa_nil) (nomark _)) (pss_cons (ps_set (i := 9) nd rfl (.inr rfl) (pe_ix ix_list (pv 7) (pe_call G r1 (by rfl) mG kG bG .nil pass0 (pa_cons (pv 0) (pa_cons (pe_callB call_len_seq (by rfl) T.len PySem.boot_len (pa_cons (pv 7) pa_nil)) pa_nil))) (fun _ _ => rfl)))
      (pss_one (ps_expr (pe_bm PySem.F.plainAttrs_list PySem.F.slot_list_append PySem.F.type_list_append mt_append (pv 4) (pa_cons (pe_lamD (v := .int 0) TB rfl rfl rfl rfl pe_int (fun y hy e => .inl (kl_r3 y hy e)) ⟨("_law_sheet", .free), by decide +kernel, rfl⟩) pa_nil))))) pss_nil)
      (pss_cons (ps_expr (pe_bm PySem.F.plainAttrs_list PySem.F.slot_list_append PySem.F.type_list_append mt_append (pv 4) (pa_cons (pe_lamD (v := .int 0) TB rfl rfl rfl rfl pe_int (fun y hy e => .inl (kl_r4 y hy e)) ⟨("_law_sheet", .free), by decide +kernel, rfl⟩) pa_nil)))
      (pss_cons (ps_if (pt_cmpR op_lt (pe_op op_add (pv 3) pe_int) (pe_callB call_len_seq (by rfl) T.len PySem.boot_len (pa_cons (pv 2) pa_nil)) (nomark _)) (pss_cons (ps_set (i := 8) nd rfl (.inl rfl) (pe_ix ix_list (pv 2) (pe_op op_add (pv 3) pe_int) (fun _ _ => rfl)))
      (pss_one (ps_if (PW.pt (pw_or (pt_cmpR op_gt (pe_op op_add (pe_callB call_len_seq (by rfl) T.len PySem.boot_len (pa_cons (pv 10) pa_nil)) (pe_callB call_len_seq (by rfl) T.len PySem.boot_len (pa_cons (pv 8) pa_nil))) pe_int (nomark _)) (pw_or1 (pt_cmpR op_gt (pe_op op_add (pe_callB call_len_str (by rfl) T.len PySem.boot_len (pa_cons (pe_ix ix_tup (pv 10) (pe_un un_neg pe_int) (fun _ _ => rfl)) pa_nil)) (pe_callB call_len_str (by rfl) T.len PySem.boot_len (pa_cons (pe_ix ix_tup (pv 8) pe_int (fun _ _ => rfl)) pa_nil))) pe_int (nomark _))))) (pss_one (ps_expr (pe_bm PySem.F.plainAttrs_list PySem.F.slot_list_append PySem.F.type_list_append mt_append (pv 4) (pa_cons (pe_lamD (v := .int 0) TB rfl rfl rfl rfl pe_int (fun y hy e => .inl (kl_r5 y hy e)) ⟨("_law_sheet", .free), by decide +kernel, rfl⟩) pa_nil)))) pss_nil))) pss_nil)
      (pss_one (ps_ret (pe_callC (names := frF) GA hr (by rfl) mA kA bA (fun _ _ => rfl) kc_ful (pa_cons (pv 4) (pa_cons (pe_tup (pa_cons pe_str (pa_cons pe_int pa_nil))) pa_nil))))))))))))), ?_⟩
    obtain ⟨q, eq_⟩ : ∃ q, as[n]? = some q := ⟨_, List.getElem?_eq_getElem (by rw [o.o.at_.len]; exact hn)⟩
    have er := rowN_get hn
    have hO : PgOk rows := by
      obtain ⟨as1, ts, hS⟩ := o.sht
      exact hS.ok
    have hR := rowN_ok hO hn
    have h30 := hO.len
    have lr : (sV (rowN rows n)).length = (rowN rows n).length := List.length_map ..
    have l1 := hR.pos
    have l6 := hR.len
    have la : (as.map V.ref).length = rows.length := by rw [List.length_map, o.o.at_.len]
    have zl : ∀ k, ((rowN rows n).getD k nilS).length ≤ 10 := fun k => by
      by_cases h : k < (rowN rows n).length
      · exact (hR.cells _ (getD_mem h)).len
      · rw [List.getD_eq_getElem?_getD, List.getElem?_eq_none (by omega)]
        exact Nat.zero_le _
    -- the row, the works
    refine ⟨_, rfl, _, rfl, pg, _, _, .ref q, rfl, rfl, SqL.of o.o.pg_, atI_nat (by rw [List.getElem?_map, eq_]; rfl), small0, fun lw nlw => ⟨by show 2 ≤ sizeLine; decide, fun tp ntp => ?_⟩⟩
    have kx0 : KX b l H H := KX.refl
    have x1 := Ex.laid (o := .lst []) o.o.tab nlw
    have hlw : upd H lw (.lst []) lw = some (.lst []) := upd_same
    have x2 := Ex.laid (o := .tup [V.ref q, V.ref lw]) x1.tab ntp
    have x12 := x1.trans x2
    have a0 : Fst K cs S b l pg sh rl dl st as gap least rows tbs (cxOf CX0 P w K mg base nmFul "_law_row_full" (defScope s_row_full) f (.ref cd) A outer s H E).nox.env.cells n lw H none none 0 (upd (upd H lw (.lst [])) tp (.tup [V.ref q, V.ref lw])) := by
      obtain ⟨dx, hsh⟩ := o.she
      obtain ⟨as1, ts, hS⟩ := o.sht
      obtain ⟨nb, nl⟩ := new_ne o.o.box nlw
      exact ⟨o.ex ne x12, kx_ext x12.ext, ⟨[], x2.lst hlw, Nat.le_refl _, fun f hf => nomatch hf⟩, ⟨(ne_of_none hsh nlw).symm, (ne_of_none hS.rl_ nlw).symm, (ne_of_none hS.dl_ nlw).symm, (ne_of_none o.o.pg_ nlw).symm, nb, nl⟩, fun u h => by rw [nlw] at h; cases h⟩
    have htp : upd (upd H lw (.lst [])) tp (.tup [V.ref q, V.ref lw]) tp = some (.tup [V.ref q, V.ref lw]) := upd_same
    refine ⟨tp, _, rfl, .inl (.inl htp), rfl, _, _, rfl, _, _, rfl, rfl, ?_⟩
    generalize upd (upd H lw (.lst [])) tp (.tup [V.ref q, V.ref lw]) = H2 at a0 ⊢
    clear htp x12 x2 hlw x1 kx0 ntp nlw
    have rq : ∀ {ck cj : Option V} {m : Nat} {H' : Hp}, Fst K cs S b l pg sh rl dl st as gap least rows tbs (cxOf CX0 P w K mg base nmFul "_law_row_full" (defScope s_row_full) f (.ref cd) A outer s H E).nox.env.cells n lw H ck cj m H' → SqT K H' q (sV (rowN rows n)) := fun a => a.o.o.at_.row n q _ eq_ er
    -- the cells that are full
    refine ⟨_, rfl, q, _, rfl, .inr (rq a0), ?_⟩
    rw [lr]
    refine ⟨_, rfl, by omega, by omega, fun D nD => lc_range (n := (rowN rows n).length) (fun i H' => Ex cs H2 H' ∧ ∃ js : List Int, H' D = some (.lst (js.map V.int)) ∧ js.length ≤ i ∧ ∀ j ∈ js, ∃ k : Nat, j = ((k : Nat) : Int) ∧ k < (rowN rows n).length ∧ ((rowN rows n).getD k nilS).length = 10) ⟨Ex.laid a0.o.o.tab nD, [], upd_same, Nat.le_refl _, fun j hj => nomatch hj⟩ ?_ ?_⟩
    · rintro i H3 hi ⟨x3, js, hD, hjl, hj⟩
      have a3 := a0.ex ne x3
      have zi := zl i
      refine ⟨rfl, _, rfl, _, rfl, q, _, _, .str ((rowN rows n).getD i nilS), rfl, rfl, rq a3, by rw [Int.zero_add]; exact atZ hi, _, rfl, by omega, rfl, ?_⟩
      by_cases h : ((rowN rows n).getD i nilS).length = 10
      · refine ⟨true, dT (by rw [h]; rfl), iteT ⟨_, rfl, _, hD, by rw [List.length_map]; omega, ex_new a0.o.o.tab x3 nD, js ++ [((i : Nat) : Int)], ?_, by rw [List.length_append]; exact Nat.succ_le_succ hjl, fun j hjm => ?_⟩⟩
        · rw [upd_same, List.map_append, Int.zero_add]
          rfl
        · rcases List.mem_append.mp hjm with z | z
          · exact hj j z
          · exact ⟨i, List.mem_singleton.mp z, hi, h⟩
      · exact ⟨false, dF (fun e => h (by injection e with e; omega)), iteF ⟨x3, js, hD, by omega, hj⟩⟩
    rintro H3 ⟨x3, js, hD, hjl, hj⟩
    have a3 := a0.ex ne x3
    obtain ⟨D1, D2⟩ := new_ne a0.o.o.box nD
    clear x3 a0
    refine gset (σ' := [some (.ref b), some (.ref sh), some (.ref pg), some (.int (n : Nat)), some (.ref lw), none, some (.ref D), none, none, none, some (.ref q)]) rfl ?_
    refine' cutG _ (fun σ H' => ∃ ck : Option V, σ = [some (.ref b), some (.ref sh), some (.ref pg), some (.int (n : Nat)), some (.ref lw), ck, some (.ref D), none, none, none, some (.ref q)] ∧ Fst K cs S b l pg sh rl dl st as gap least rows tbs (cxOf CX0 P w K mg base nmFul "_law_row_full" (defScope s_row_full) f (.ref cd) A outer s H E).nox.env.cells n lw H ck none 1 H') (fun rest => _) _
    rotate_left
    · refine ⟨_, rfl, Nat.zero_le _, fun e0 ne0 => ?_⟩
      have xe := Ex.laid (o := .lst []) a3.o.o.tab ne0
      have a4 := a3.ex ne xe
      have hD4 := xe.lst hD
      refine ⟨.list (js.map PyData.int), .list [], .lst (SqL.of hD4) (dp_ints js), .lst (SqL.of upd_same) .nil, shaped_of_ints js, rfl, ?_⟩
      generalize upd H3 e0 (.lst []) = H4 at a4 hD4 ⊢
      rw [iints]
      by_cases ej : js = []
      · rw [decide_eq_true ej]
        refine ⟨false, rfl, iteF ?_⟩
        exact rest _ _ ⟨none, rfl, a4.more⟩
      · rw [decide_eq_false ej]
        have lj : 0 < js.length := List.length_pos_iff.mpr ej
        refine ⟨true, rfl, iteT ⟨_, rfl, _, rfl, _, rfl, D, _, rfl, .inl (SqL.of hD4), b, l, _, rfl, a4.o.o.box, by rw [List.length_map]; omega, by rw [List.length_map]; omega, fun zv H5 z0 z1 hB5 x5 => ?_⟩⟩
        rw [List.length_map] at z1
        obtain ⟨jv, hjv, ejv⟩ := pick (xs := js) (i := zv) z0 z1
        obtain ⟨k, rfl, hk1, hk2⟩ := hj jv hjv
        have hD5 := x5 _ _ hD4 D1 D2
        have a5 := (a4.draw x5 hB5).none_ (ck := some (.int ((k : Nat) : Int)))
        obtain ⟨fs, w1, w2, w3⟩ := a5.wk
        refine ⟨D, _, _, .int ((k : Nat) : Int), rfl, rfl, SqL.of hD5, atI_map (f := V.int) ejv, ?_⟩
        refine ⟨_, rfl, .inl ⟨rfl, _, SqL.of w1⟩, a5.o.tb _ hq, fun f3 c3 H6 k1 k2 t11 nf hf hc => ?_⟩
        obtain ⟨fs, w4, w5, a6⟩ := a5.add ne hq k1 k2 t11 (.inl ⟨k, rfl, hk1, hk2, c3, hf, hc⟩)
        refine ⟨lw, _, _, rfl, rfl, w4, by rw [List.length_map]; omega, ?_⟩
        exact rest _ _ ⟨_, rfl, a6⟩
    clear a3 hD
    rintro σ H4 ⟨ck, rfl, a4⟩
    -- six cells
    refine' cutG _ (fun σ H' => σ = [some (.ref b), some (.ref sh), some (.ref pg), some (.int (n : Nat)), some (.ref lw), ck, some (.ref D), none, none, none, some (.ref q)] ∧ Fst K cs S b l pg sh rl dl st as gap least rows tbs (cxOf CX0 P w K mg base nmFul "_law_row_full" (defScope s_row_full) f (.ref cd) A outer s H E).nox.env.cells n lw H ck none 2 H') (fun rest => _) _
    rotate_left
    · refine ⟨_, rfl, q, _, rfl, .inr (rq a4), rfl, ?_⟩
      by_cases e : (rowN rows n).length = 6
      · obtain ⟨fs, w1, w2, w3⟩ := a4.wk
        refine ⟨true, dT (by rw [lr, e]; rfl), iteT ⟨_, rfl, .inl ⟨rfl, _, SqL.of w1⟩, a4.o.tb _ hq, fun f3 c3 t3 H6 k1 k2 t11 nf hf => ?_⟩⟩
        obtain ⟨fs, w4, w5, a6⟩ := a4.add ne hq k1 k2 t11 (.inr (.inl ⟨e, c3, t3, hf⟩))
        refine ⟨lw, _, _, rfl, rfl, w4, by rw [List.length_map]; omega, ?_⟩
        exact rest _ _ ⟨rfl, a6⟩
      · refine ⟨false, dF (fun z => e (by injection z with z; rw [lr] at z; exact Int.ofNat.inj z)), iteF ?_⟩
        exact rest _ _ ⟨rfl, a4.more⟩
    clear a4
    rintro σ H5 ⟨rfl, a5⟩
    -- the cells that are wide
    refine ⟨_, rfl, q, _, rfl, .inr (rq a5), _, _, rfl, rfl, ?_⟩
    rw [lr]
    refine ⟨_, rfl, by omega, by omega, fun D' nD' => lc_range (n := (((rowN rows n).length : Int) - 1).toNat) (fun i H' => Ex cs H5 H' ∧ ∃ js : List Int, H' D' = some (.lst (js.map V.int)) ∧ js.length ≤ i ∧ ∀ j ∈ js, ∃ k : Nat, j = ((k : Nat) : Int) ∧ k + 1 < (rowN rows n).length ∧ 10 < ((rowN rows n).getD k nilS).length + ((rowN rows n).getD (k + 1) nilS).length) ⟨Ex.laid a5.o.o.tab nD', [], upd_same, Nat.le_refl _, fun j hj => nomatch hj⟩ ?_ ?_⟩
    · rintro i H6 hi ⟨x6, js, hD, hjl, hj⟩
      have a6 := a5.ex ne x6
      have hi1 : i + 1 < (rowN rows n).length := by omega
      have zi := zl i
      have zi1 := zl (i + 1)
      refine ⟨rfl, _, rfl, _, rfl, q, _, _, .str ((rowN rows n).getD i nilS), rfl, rfl, rq a6, by rw [Int.zero_add]; exact atZ (by omega), _, rfl, by omega, _, rfl, _, rfl, _, _, rfl, rfl, q, _, _, .str ((rowN rows n).getD (i + 1) nilS), rfl, rfl, rq a6, by rw [Int.zero_add]; exact atZ (c := i + 1) hi1, _, rfl, by omega, _, _, rfl, rfl, _, _, rfl, rfl, ?_⟩
      by_cases h : 10 < ((rowN rows n).getD i nilS).length + ((rowN rows n).getD (i + 1) nilS).length
      · refine ⟨true, dT (by omega), iteT ⟨_, rfl, _, hD, by rw [List.length_map]; omega, ex_new a5.o.o.tab x6 nD', js ++ [((i : Nat) : Int)], ?_, by rw [List.length_append]; exact Nat.succ_le_succ hjl, fun j hjm => ?_⟩⟩
        · rw [upd_same, List.map_append, Int.zero_add]
          rfl
        · rcases List.mem_append.mp hjm with z | z
          · exact hj j z
          · exact ⟨i, List.mem_singleton.mp z, hi1, h⟩
      · exact ⟨false, dF (fun e => h (by omega)), iteF ⟨x6, js, hD, by omega, hj⟩⟩
    rintro H6 ⟨x6, js', hD', hjl', hj'⟩
    have a6 := a5.ex ne x6
    obtain ⟨E1, E2⟩ := new_ne a5.o.o.box nD'
    clear x6 a5
    refine gset (σ' := [some (.ref b), some (.ref sh), some (.ref pg), some (.int (n : Nat)), some (.ref lw), ck, some (.ref D), some (.ref D'), none, none, some (.ref q)]) rfl ?_
    -- one of them
    refine' cutG _ (fun σ H' => ∃ cj : Option V, σ = [some (.ref b), some (.ref sh), some (.ref pg), some (.int (n : Nat)), some (.ref lw), ck, some (.ref D), some (.ref D'), none, cj, some (.ref q)] ∧ Fst K cs S b l pg sh rl dl st as gap least rows tbs (cxOf CX0 P w K mg base nmFul "_law_row_full" (defScope s_row_full) f (.ref cd) A outer s H E).nox.env.cells n lw H ck cj 3 H') (fun rest => _) _
    rotate_left
    · refine ⟨_, rfl, Nat.zero_le _, fun e0 ne0 => ?_⟩
      have xe := Ex.laid (o := .lst []) a6.o.o.tab ne0
      have a7 := a6.ex ne xe
      have hD7 := xe.lst hD'
      refine ⟨.list (js'.map PyData.int), .list [], .lst (SqL.of hD7) (dp_ints js'), .lst (SqL.of upd_same) .nil, shaped_of_ints js', rfl, ?_⟩
      generalize upd H6 e0 (.lst []) = H7 at a7 hD7 ⊢
      rw [iints]
      by_cases ej : js' = []
      · rw [decide_eq_true ej]
        refine ⟨false, rfl, iteF ?_⟩
        exact rest _ _ ⟨none, rfl, a7.more⟩
      · rw [decide_eq_false ej]
        have lj : 0 < js'.length := List.length_pos_iff.mpr ej
        refine ⟨true, rfl, iteT ⟨_, rfl, _, rfl, _, rfl, D', _, rfl, .inl (SqL.of hD7), b, l, _, rfl, a7.o.o.box, by rw [List.length_map]; omega, by rw [List.length_map]; omega, fun zv H8 z0 z1 hB8 x8 => ?_⟩⟩
        rw [List.length_map] at z1
        obtain ⟨jv, hjv, ejv⟩ := pick (xs := js') (i := zv) z0 z1
        obtain ⟨k, rfl, hk1, hk2⟩ := hj' jv hjv
        have hD8 := x8 _ _ hD7 E1 E2
        have a8 := (a7.draw x8 hB8).setj (cj := some (.int ((k : Nat) : Int)))
        obtain ⟨fs, w1, w2, w3⟩ := a8.wk
        refine ⟨D', _, _, .int ((k : Nat) : Int), rfl, rfl, SqL.of hD8, atI_map (f := V.int) ejv, ?_⟩
        refine ⟨_, rfl, .inl ⟨rfl, _, SqL.of w1⟩, a8.o.tb _ hq, fun f3 c3 t3 H9 k1 k2 t11 nf hf => ?_⟩
        obtain ⟨fs, w4, w5, a9⟩ := a8.add ne hq k1 k2 t11 (.inr (.inr (.inl ⟨k, rfl, hk1, hk2, c3, t3, hf⟩)))
        refine ⟨lw, _, _, rfl, rfl, w4, by rw [List.length_map]; omega, ?_⟩
        exact rest _ _ ⟨_, rfl, a9⟩
    clear a6 hD'
    rintro σ H7 ⟨cj, rfl, a7⟩
    -- the end
    refine' cutG _ (fun σ H' => σ = [some (.ref b), some (.ref sh), some (.ref pg), some (.int (n : Nat)), some (.ref lw), ck, some (.ref D), some (.ref D'), none, cj, some (.ref q)] ∧ Fst K cs S b l pg sh rl dl st as gap least rows tbs (cxOf CX0 P w K mg base nmFul "_law_row_full" (defScope s_row_full) f (.ref cd) A outer s H E).nox.env.cells n lw H ck cj 4 H') (fun rest => _) _
    rotate_left
    · obtain ⟨fs, w1, w2, w3⟩ := a7.wk
      refine ⟨_, rfl, .inl ⟨rfl, _, SqL.of w1⟩, a7.o.tb _ hq, fun f3 c3 t3 H8 k1 k2 t11 nf hf => ?_⟩
      obtain ⟨fs, w4, w5, a8⟩ := a7.add ne hq k1 k2 t11 (.inr (.inr (.inr (.inl ⟨c3, t3, hf⟩))))
      refine ⟨lw, _, _, rfl, rfl, w4, by rw [List.length_map]; omega, ?_⟩
      exact rest _ _ ⟨rfl, a8⟩
    clear a7
    rintro σ H8 ⟨rfl, a8⟩
    -- the next row
    refine' cutG _ (fun σ H' => ∃ c8 : Option V, σ = [some (.ref b), some (.ref sh), some (.ref pg), some (.int (n : Nat)), some (.ref lw), ck, some (.ref D), some (.ref D'), c8, cj, some (.ref q)] ∧ Fst K cs S b l pg sh rl dl st as gap least rows tbs (cxOf CX0 P w K mg base nmFul "_law_row_full" (defScope s_row_full) f (.ref cd) A outer s H E).nox.env.cells n lw H ck cj 5 H') (fun rest => _) _
    rotate_left
    · refine ⟨_, rfl, _, _, rfl, rfl, _, rfl, pg, _, rfl, .inl (SqL.of a8.o.o.pg_), _, _, rfl, rfl, ?_⟩
      rw [la]
      by_cases e : ¬ n + 1 < rows.length
      · refine ⟨false, dF (fun z => e (by omega)), iteF ?_⟩
        exact rest _ _ ⟨_, rfl, a8.more⟩
      have e := Decidable.not_not.mp e
      obtain ⟨qm, eqm⟩ : ∃ qm, as[n + 1]? = some qm := ⟨_, List.getElem?_eq_getElem (by rw [o.o.at_.len]; exact e)⟩
      have erm := rowN_get e
      have hRm := rowN_ok hO e
      have lrm : (sV (rowN rows (n + 1))).length = (rowN rows (n + 1)).length := List.length_map ..
      have rqm : SqT K H8 qm (sV (rowN rows (n + 1))) := a8.o.o.at_.row (n + 1) qm _ eqm erm
      have hm0 : (rowN rows (n + 1)).getD 0 nilS = (rowN rows (n + 1)).headD nilS := by
        cases rowN rows (n + 1) <;> rfl
      have z1 : ((rowN rows n).getLast?.getD nilS).length ≤ 10 := by
        obtain ⟨x, hx⟩ : ∃ x, (rowN rows n).getLast? = some x := by
          rw [List.getLast?_eq_getElem?]
          exact ⟨_, List.getElem?_eq_getElem (by omega)⟩
        rw [hx]
        exact (hR.cells x (List.mem_of_getLast? hx)).len
      have z2 : ((rowN rows (n + 1)).getD 0 nilS).length ≤ 10 := (hRm.cells _ (getD_mem hRm.pos)).len
      have m6 := hRm.len
      refine ⟨true, dT (by omega), iteT ⟨_, rfl, _, rfl, _, _, rfl, rfl, pg, _, _, .ref qm, rfl, rfl, SqL.of a8.o.o.pg_, ?_, ?_⟩⟩
      · show atI _ (((n : Nat) : Int) + 1) = _
        rw [show ((n : Nat) : Int) + 1 = ((n + 1 : Nat) : Int) by omega]
        exact atI_nat (by rw [List.getElem?_map, eqm]; rfl)
      refine ⟨_, rfl, q, _, rfl, .inr (rq a8), _, rfl, qm, _, rfl, .inr rqm, _, _, rfl, rfl, _, _, rfl, rfl, ?_⟩
      rw [lr, lrm]
      by_cases e7 : 7 < (rowN rows n).length + (rowN rows (n + 1)).length
      · obtain ⟨fs, w1, w2, w3⟩ := a8.wk
        refine ⟨true, dT (by omega), iteT (iteT ⟨_, rfl, .inl ⟨rfl, _, SqL.of w1⟩, a8.o.tb _ hq, fun f3 c3 t3 H9 k1 k2 t11 nf hf => ?_⟩)⟩
        obtain ⟨fs, w4, w5, a9⟩ := a8.add ne hq k1 k2 t11 (.inr (.inr (.inr (.inr ⟨⟨e, .inl e7⟩, c3, t3, hf⟩))))
        refine ⟨lw, _, _, rfl, rfl, w4, by rw [List.length_map]; omega, ?_⟩
        exact rest _ _ ⟨_, rfl, a9⟩
      refine ⟨false, dF (fun z => e7 (by omega)), iteF ?_⟩
      refine ⟨_, rfl, 1, rfl, q, _, _, _, rfl, rfl, rq a8, atZ_lastT hR.pos, _, rfl, by omega, _, rfl, qm, _, _, _, rfl, rfl, rqm, atZ (c := 0) hRm.pos, _, rfl, by omega, _, _, rfl, rfl, _, _, rfl, rfl, ?_⟩
      rw [hm0]
      by_cases e10 : 10 < ((rowN rows n).getLast?.getD nilS).length + ((rowN rows (n + 1)).headD nilS).length
      · obtain ⟨fs, w1, w2, w3⟩ := a8.wk
        refine ⟨true, dT (by omega), iteT ⟨_, rfl, .inl ⟨rfl, _, SqL.of w1⟩, a8.o.tb _ hq, fun f3 c3 t3 H9 k1 k2 t11 nf hf => ?_⟩⟩
        obtain ⟨fs, w4, w5, a9⟩ := a8.add ne hq k1 k2 t11 (.inr (.inr (.inr (.inr ⟨⟨e, .inr e10⟩, c3, t3, hf⟩))))
        refine ⟨lw, _, _, rfl, rfl, w4, by rw [List.length_map]; omega, ?_⟩
        exact rest _ _ ⟨_, rfl, a9⟩
      · refine ⟨false, dF (fun z => e10 (by omega)), iteF ?_⟩
        exact rest _ _ ⟨_, rfl, a8.more⟩
    clear a8
    rintro σ H9 ⟨c8, rfl, a9⟩
    -- all of them
    refine ⟨_, rfl, by show 2 ≤ sizeLine; decide, fun dd ndd cl Tc un => ?_⟩
    have xd := Ex.laid (o := .tup [V.str "BadCell", V.int 0]) a9.o.o.tab ndd
    have hdd := upd_same (H := H9) (a := dd) (o := .tup [V.str "BadCell", V.int 0])
    have a := a9.ex ne xd
    generalize upd H9 dd (.tup [V.str "BadCell", V.int 0]) = HZ at a hdd un ⊢
    clear a9 xd
    obtain ⟨fs, w1, w2, w3⟩ := a.wk
    have hx : ∀ {H1 : Hp}, Ex cs HZ H1 → ∃ dx as1 ts, H1 sh = some (.ins S dx [("rows", .ref rl), ("style", .ref st), ("deeds", .ref dl)]) ∧ Tabs cs H1 ∧ ShtD K S H1 sh rl dl st as1 rows gap least ts [] (avX b l fun _ => False) ∧ SqT K H1 q (sV (rowN rows n)) := fun {H1} x1 => by
      have a1 := a.ex ne x1
      obtain ⟨as1, ts, hS⟩ := a1.o.sht
      obtain ⟨dx, h⟩ := hS.she
      exact ⟨dx, as1, ts, h, x1.tab, hS, rq a1⟩
    have eC2 : ∀ {H : Hp}, ErrAt K H 3 0 (.ref C) none := err_of (by decide) rfl eC
    have aft : ∀ {d : Deed} {H1 : Hp} {E2 : XK} {Q2 : VK}, NoRoom R C rows gap least d → (∀ (cls : Value) (d : Option Addr) (H2 : Hp), ErrAt K H2 3 0 cls d → Ex cs H1 H2 → E2 cls d H2) → After K cs S R C H1 Q2 E2 sh rl dl st rows gap least [] (avX b l fun _ => False) d := fun {d H1 E2 Q2} nr hE => ⟨fun rows' l hg => (by rw [nr.no] at hg; cases hg), fun _ H2 x2 => (by rw [nr.cls]; exact hE _ _ _ eC2 x2)⟩
    refine ⟨lw, dd, fs, 3, 0, rfl, tabs_addC a.o.o.tab un, add_at un w1, add_at un hdd, fun f hf => ?_, fun H' x told => ?_⟩
    rotate_left
    · have x2 := ex_del un x
      exact kq _ (a.o.ex ne x2) (a.kx.tr (kx_ext x2.ext))
    rcases w3 f hf with ⟨k, rfl, hk1, hk2, c3, hfx⟩ | ⟨e6, c3, t3, hfx⟩ | ⟨j, rfl, hj1, hj2, c3, t3, hfx⟩ | ⟨c3, t3, hfx⟩ | ⟨⟨e1, e2⟩, c3, t3, hfx⟩
    · refine TGK.ref_of (ws := [some (.ref sh), some (.int (n : Nat)), some (.int (k : Nat))]) sc_r1 (fun y hy => sc_r1.free (y, .free) hy rfl) (sub_r1) Tc un rfl rfl (fun i y v q1 q2 => by
          match i, q1, q2 with
          | 0, q1, q2 => cases q1; cases q2; exact ⟨1, rfl, rfl⟩
          | 1, q1, q2 => cases q1; cases q2; exact ⟨3, rfl, rfl⟩
          | 2, q1, q2 => cases q1; cases q2; exact ⟨5, rfl, rfl⟩
          | i + 3, q1, _ => simp at q1) (fun H1 x => ⟨x.ext _ _ (add_at un hfx.1) fnL_ne, x.ext _ _ (add_at un hfx.2) LamX.codeO_ne⟩) (lok_r1 T X.cS Mstrike Gstrike bstrike) (fun H1 x1 _ Z E2 hE => ?_)
      obtain ⟨dx, as1, ts, hsh, hT1, hS1, hrq1⟩ := hx x1
      exact ⟨sh, dx, _, _, _, rfl, hsh, fld_no _ _ _ (by decide +kernel), sh, n, k, 10, "a", rfl, rl, dl, st, as1, rows, gap, least, ts, [], _, hT1, hS1, by decide, (no_sign (R := R) (C := C) (gap := gap) (least := least) hO hn hk1 hk2).ok, aft (no_sign hO hn hk1 hk2) hE⟩
    · refine TGK.ref_of (ws := [some (.ref sh), some (.int (n : Nat))]) sc_r2 (fun y hy => sc_r2.free (y, .free) hy rfl) (sub_r2) Tc un rfl rfl (fun i y v q1 q2 => by
          match i, q1, q2 with
          | 0, q1, q2 => cases q1; cases q2; exact ⟨1, rfl, rfl⟩
          | 1, q1, q2 => cases q1; cases q2; exact ⟨3, rfl, rfl⟩
          | i + 2, q1, _ => simp at q1) (fun H1 x => ⟨x.ext _ _ (add_at un hfx.1) fnD_ne, x.ext _ _ (add_at un hfx.2.1) LamX.codeO_ne, x.tup (add_at un hfx.2.2)⟩) (lok_r2 T X.cS Mstrike Gstrike bstrike) (fun H1 x1 _ Z E2 hE => ?_)
      obtain ⟨dx, as1, ts, hsh, hT1, hS1, hrq1⟩ := hx x1
      exact ⟨sh, dx, _, _, rfl, hsh, fld_no _ _ _ (by decide +kernel), sh, n, 5, 0, "\t", rfl, rl, dl, st, as1, rows, gap, least, ts, [], _, hT1, hS1, by decide, (no_tab (R := R) (C := C) (gap := gap) (least := least) hO hn e6).ok, aft (no_tab hO hn e6) hE⟩
    · refine TGK.ref_of (ws := [some (.ref sh), some (.int (n : Nat)), some (.int (j : Nat)), some (.ref q)]) sc_r3 (fun y hy => sc_r3.free (y, .free) hy rfl) (sub_r3) Tc un rfl rfl (fun i y v q1 q2 => by
          match i, q1, q2 with
          | 0, q1, q2 => cases q1; cases q2; exact ⟨1, rfl, rfl⟩
          | 1, q1, q2 => cases q1; cases q2; exact ⟨3, rfl, rfl⟩
          | 2, q1, q2 => cases q1; cases q2; exact ⟨9, rfl, rfl⟩
          | 3, q1, q2 => cases q1; cases q2; exact ⟨10, rfl, rfl⟩
          | i + 4, q1, _ => simp at q1) (fun H1 x => ⟨x.ext _ _ (add_at un hfx.1) fnD_ne, x.ext _ _ (add_at un hfx.2.1) LamX.codeO_ne, x.tup (add_at un hfx.2.2)⟩) (lok_r3 T X.cS Merase Gerase berase) (fun H1 x1 _ Z E2 hE => ?_)
      obtain ⟨dx, as1, ts, hsh, hT1, hS1, hrq1⟩ := hx x1
      exact ⟨sh, dx, _, _, j, q, rowN rows n, (rowN rows n).getD j nilS, rfl, hsh, fld_no _ _ _ (by decide +kernel), hrq1, by rw [List.getD_eq_getElem?_getD, List.getElem?_eq_getElem (by omega)]; rfl, by have := zl j; omega, sh, n, j, _, rfl, rl, dl, st, as1, rows, gap, least, ts, [], _, hT1, hS1, by decide, (no_wide (R := R) (C := C) (gap := gap) (least := least) hO hn hj1 hj2).ok, aft (no_wide hO hn hj1 hj2) hE⟩
    · refine TGK.ref_of (ws := [some (.ref sh), some (.int (n : Nat)), some (.ref q)]) sc_r4 (fun y hy => sc_r4.free (y, .free) hy rfl) (sub_r4) Tc un rfl rfl (fun i y v q1 q2 => by
          match i, q1, q2 with
          | 0, q1, q2 => cases q1; cases q2; exact ⟨1, rfl, rfl⟩
          | 1, q1, q2 => cases q1; cases q2; exact ⟨3, rfl, rfl⟩
          | 2, q1, q2 => cases q1; cases q2; exact ⟨10, rfl, rfl⟩
          | i + 3, q1, _ => simp at q1) (fun H1 x => ⟨x.ext _ _ (add_at un hfx.1) fnD_ne, x.ext _ _ (add_at un hfx.2.1) LamX.codeO_ne, x.tup (add_at un hfx.2.2)⟩) (lok_r4 T X.cS Merase Gerase berase) (fun H1 x1 _ Z E2 hE => ?_)
      obtain ⟨dx, as1, ts, hsh, hT1, hS1, hrq1⟩ := hx x1
      exact ⟨sh, dx, _, _, q, rowN rows n, (rowN rows n).getD ((rowN rows n).length - 1) nilS, rfl, hsh, fld_no _ _ _ (by decide +kernel), hrq1, by rw [List.getLast?_eq_getElem?, List.getD_eq_getElem?_getD, List.getElem?_eq_getElem (by omega)]; rfl, by have := zl ((rowN rows n).length - 1); omega, sh, n, _, _, rfl, rl, dl, st, as1, rows, gap, least, ts, [], _, hT1, hS1, by decide, (no_end (R := R) (C := C) (gap := gap) (least := least) hO hn).ok, aft (no_end hO hn) hE⟩
    · refine TGK.ref_of (ws := [some (.ref sh), some (.int (n : Nat))]) sc_r5 (fun y hy => sc_r5.free (y, .free) hy rfl) (sub_r5) Tc un rfl rfl (fun i y v q1 q2 => by
          match i, q1, q2 with
          | 0, q1, q2 => cases q1; cases q2; exact ⟨1, rfl, rfl⟩
          | 1, q1, q2 => cases q1; cases q2; exact ⟨3, rfl, rfl⟩
          | i + 2, q1, _ => simp at q1) (fun H1 x => ⟨x.ext _ _ (add_at un hfx.1) fnD_ne, x.ext _ _ (add_at un hfx.2.1) LamX.codeO_ne, x.tup (add_at un hfx.2.2)⟩) (lok_r5 T X.cS Munite Gunite bunite) (fun H1 x1 _ Z E2 hE => ?_)
      obtain ⟨dx, as1, ts, hsh, hT1, hS1, hrq1⟩ := hx x1
      exact ⟨sh, dx, _, _, rfl, hsh, fld_no _ _ _ (by decide +kernel), sh, n, rfl, rl, dl, st, as1, rows, gap, least, ts, [], _, hT1, hS1, by decide, (no_unite (R := R) (C := C) (gap := gap) (least := least) hO e1 e2).ok, aft (no_unite hO e1 e2) hE⟩
end
end TGK

namespace TGK
open TG
open PySem PySem.Spec PyProof.Rows L2 NdefX GenW Gx Lv Dl EnT
def begD (f : Nat → List Int) (n : Nat) : List PyData := (List.range n).map fun i => .list ((f i).map .int)
theorem can_ints : ∀ l : List Int, PyData.canLayAll0 (l.map PyData.int) = true
  | [] => rfl
  | a :: l => by
    rw [List.map_cons]
    simp only [PyData.canLayAll0, PyData.canLay0, can_ints l, Bool.and_self]
theorem dep_ints : ∀ l : List Int, PyData.depthAll (l.map PyData.int) = 0
  | [] => rfl
  | a :: l => by
    rw [List.map_cons]
    simp only [PyData.depthAll, PyData.depth, dep_ints l]
    rfl
theorem can_lists : ∀ ls : List (List Int), PyData.canLayAll0 (ls.map fun l => PyData.list (l.map .int)) = true
  | [] => rfl
  | a :: ls => by
    rw [List.map_cons]
    simp only [PyData.canLayAll0, PyData.canLay0, can_ints, can_lists ls, Bool.and_self]
theorem dep_lists : ∀ ls : List (List Int), PyData.depthAll (ls.map fun l => PyData.list (l.map .int)) ≤ 1
  | [] => Nat.zero_le _
  | a :: ls => by
    rw [List.map_cons]
    have := dep_lists ls
    simp only [PyData.depthAll, PyData.depth, dep_ints]
    omega
theorem begD_eq (f : Nat → List Int) (n : Nat) : begD f n = ((List.range n).map f).map fun l => PyData.list (l.map .int) := by
  unfold begD
  rw [List.map_map]
  rfl
theorem can_begD (f : Nat → List Int) (n : Nat) : PyData.canLay0 (.list (begD f n)) = true := by
  rw [begD_eq]
  simp only [PyData.canLay0]
  exact can_lists _
theorem shaped_begD (f : Nat → List Int) (n : Nat) : SeqAt.shaped (.list (begD f n)) = true := by
  unfold SeqAt.shaped
  rw [can_begD, begD_eq]
  have := dep_lists ((List.range n).map f)
  simp only [Bool.true_and, PyData.depth]
  exact decide_eq_true (by omega)
section
variable {K : PySem.W.Frag} {cs : List (Addr × Addr)} {r c : Addr} {H H' : Hp}
theorem dpAll_get : ∀ {vs : List V} {ds : List PyData}, vs.length = ds.length → (∀ (i : Nat) (v : V) (d : PyData), vs[i]? = some v → ds[i]? = some d → Dp K H v d) → DpAll K H vs ds
  | [], [], _, _ => .nil
  | [], _ :: _, h, _ => by cases h
  | _ :: _, [], h, _ => by cases h
  | v :: vs, d :: ds, h, k => .cons (k 0 v d rfl rfl) (dpAll_get (by simp only [List.length_cons] at h; omega) fun i v' d' e1 e2 => k (i + 1) v' d' e1 e2)
theorem told_dp {es : List Addr} {f : Nat → List Int} {n : Nat} (t : ToldAt H r es f n) : Dp K H (.ref r) (.list (begD f n)) := by
  refine .lst (SqL.of t.lst) (dpAll_get ?_ fun i v d e1 e2 => ?_)
  · unfold begD
    rw [List.length_map, List.length_map, List.length_range, t.len]
  · obtain ⟨e, he, rfl⟩ := get_map e1
    have hi : i < n := by
      have := (List.getElem?_eq_some_iff.mp he).1
      rw [t.len] at this
      exact this
    unfold begD at e2
    rw [List.getElem?_map, List.getElem?_range hi] at e2
    cases e2
    exact .lst (SqL.of (t.at_ i e he)) (dp_ints _)
theorem RowsAt.rep {as : List Addr} {rows : List (List Str)} (h : RowsAt K H as rows) : ∀ n : Nat, RowsAt K H (List.replicate n as).flatten (List.replicate n rows).flatten
  | 0 => ⟨rfl, fun i a r e1 _ => by cases e1⟩
  | n + 1 => by
    rw [List.replicate_succ, List.replicate_succ, List.flatten_cons, List.flatten_cons]
    exact h.app (RowsAt.rep h n)
theorem rep_len {α : Type} (xs : List α) : ∀ n : Nat, (List.replicate n xs).flatten.length = n * xs.length
  | 0 => by simp
  | n + 1 => by rw [List.replicate_succ, List.flatten_cons, List.length_append, rep_len xs n]; rw [Nat.succ_mul]; omega
theorem rep_mem {α : Type} {xs : List α} {x : α} : ∀ {n : Nat}, x ∈ (List.replicate n xs).flatten → x ∈ xs
  | 0, h => by simp at h
  | n + 1, h => by
    rw [List.replicate_succ, List.flatten_cons] at h
    rcases List.mem_append.mp h with h | h
    · exact h
    · exact rep_mem h
theorem rep_map {α β : Type} (f : α → β) (xs : List α) : ∀ n : Nat, (List.replicate n (xs.map f)).flatten = ((List.replicate n xs).flatten).map f
  | 0 => rfl
  | n + 1 => by rw [List.replicate_succ, List.replicate_succ, List.flatten_cons, List.flatten_cons, List.map_append, rep_map f xs n]
/-- a page thirty times, its first thirty rows -/
theorem full_ok {rows : List (List Str)} (h : PgOk rows) : ((List.replicate 30 rows).flatten.take 30).length = 30 ∧ PgOk ((List.replicate 30 rows).flatten.take 30) := by
  have h1 := h.pos
  have hl : ((List.replicate 30 rows).flatten.take 30).length = 30 := by
    rw [List.length_take, rep_len]
    omega
  exact ⟨hl, by omega, by omega, fun r hr => h.rows r (rep_mem (List.mem_of_mem_take hr))⟩
end
theorem gst {σ σ' : L2.St} {H : Hp} {Q : L2.St → Hp → Prop} (e : σ = σ') (h : Q σ' H) : Q σ H := by
  rw [e]
  exact h
/-- the rows' tuples themselves -/
def PrAt (as : List Addr) (rows : List (List Str)) (H : Hp) : Prop := ∀ (i : Nat) (q : Addr) (r : List Str), as[i]? = some q → rows[i]? = some r → H q = some (.tup (sV r))
section
variable {K : PySem.W.Frag} {cs : List (Addr × Addr)} {b l c r : Addr} {as as2 : List Addr} {rows rows2 : List (List Str)} {H H' : Hp}
theorem PrAt.kx (h : PrAt as rows H) (B : BoxAt H b l) (x : KX b l H H') : PrAt as rows H' := fun i q r e1 e2 => by
  have e := h i q r e1 e2
  obtain ⟨ns, st, b1, b2, _⟩ := B
  exact x _ _ e (fun ps z => nomatch z) (fun z => by rw [z, b1] at e; cases e) (fun z => by rw [z, b2] at e; cases e)
theorem PrAt.toRows (h : PrAt as rows H) (hl : as.length = rows.length) : RowsAt K H as rows := ⟨hl, fun i q r e1 e2 => SqT.of (h i q r e1 e2)⟩
theorem PrAt.app (h1 : PrAt as rows H) (h2 : PrAt as2 rows2 H) (hl : as.length = rows.length) : PrAt (as ++ as2) (rows ++ rows2) H := fun i q r e1 e2 => by
  by_cases hi : i < as.length
  · rw [List.getElem?_append_left hi] at e1
    rw [List.getElem?_append_left (by omega)] at e2
    exact h1 i q r e1 e2
  · rw [List.getElem?_append_right (by omega)] at e1 e2
    rw [hl] at e1
    exact h2 _ q r e1 e2
theorem PrAt.rep (h : PrAt as rows H) (hl : as.length = rows.length) : ∀ n : Nat, PrAt (List.replicate n as).flatten (List.replicate n rows).flatten H
  | 0 => fun i q r e1 _ => by cases e1
  | n + 1 => by
    rw [List.replicate_succ, List.replicate_succ, List.flatten_cons, List.flatten_cons]
    exact h.app (PrAt.rep h hl n) hl
theorem PrAt.take (h : PrAt as rows H) (n : Nat) : PrAt (as.take n) (rows.take n) H := fun i q r e1 e2 => by
  rw [List.getElem?_take] at e1 e2
  by_cases hi : i < n
  · rw [if_pos hi] at e1 e2
    exact h i q r e1 e2
  · rw [if_neg hi] at e1
    cases e1
/-- the begins told, beside the box -/
structure Tl (b l : Addr) (H : Hp) (bg : Addr) (es : List Addr) (f : Nat → List Int) (n : Nat) : Prop where
  t : ToldAt H bg es f n
  nb : bg ≠ b ∧ bg ≠ l
  ne : ∀ e ∈ es, e ≠ b ∧ e ≠ l
theorem Tl.kx {bg : Addr} {es : List Addr} {f : Nat → List Int} {n : Nat} (h : Tl b l H bg es f n) (x : KX b l H H') : Tl b l H' bg es f n :=
  ⟨⟨x _ _ h.t.lst (fun ps z => nomatch z) h.nb.1 h.nb.2, h.t.len, h.t.nd, fun i e he => x _ _ (h.t.at_ i e he) (fun ps z => nomatch z) (h.ne e (List.mem_of_getElem? he)).1 (h.ne e (List.mem_of_getElem? he)).2⟩, h.nb, h.ne⟩
theorem tbs4 {p1 p2 p3 p4 : Addr} {q1 q2 q3 q4 : Str} (a1 : TG.Apart cs p1) (a2 : TG.Apart cs p2) (a3 : TG.Apart cs p3) (a4 : TG.Apart cs p4) (n12 : p1 ≠ p2) (n13 : p1 ≠ p3) (n14 : p1 ≠ p4) (n23 : p2 ≠ p3) (n24 : p2 ≠ p4) (n34 : p3 ≠ p4) : Tbs cs [(p1, q1), (p2, q2), (p3, q3), (p4, q4)] := by
  refine ⟨fun p hp => ?_, fun p hp p' hp' e => ?_⟩
  · simp only [List.mem_cons, List.not_mem_nil, or_false] at hp
    rcases hp with z | z | z | z <;> rw [z] <;> assumption
  · simp only [List.mem_cons, List.not_mem_nil, or_false] at hp hp'
    rcases hp with z | z | z | z <;> rcases hp' with z' | z' | z' | z' <;> rw [z, z'] at e ⊢ <;> first | rfl | exact absurd e ‹_› | exact absurd e.symm ‹_›
theorem eq_told {es es' : List Addr} {f : Nat → List Int} {n : Nat} {Z : VK} (h1 : ToldAt H r es f n) (h2 : ToldAt H c es' f n) (q : Z (.bl true) H) : rEqD K (.ref r) (.ref c) H Z := by
  have s := shaped_begD f n
  have e : PyData.eqv (.list (begD f n)) (.list (begD f n)) = true := SeqAt.eqv_refl _ (can_begD f n)
  exact ⟨_, _, told_dp h1, told_dp h2, s, s, by rw [e]; exact q⟩
theorem eq_page {Z : VK} (h1 : SqL K H r (as.map V.ref)) (a1 : RowsAt K H as rows) (h2 : SqL K H c (as2.map V.ref)) (a2 : RowsAt K H as2 rows) (hO : PgOk rows) (q : Z (.bl true) H) : rEqD K (.ref r) (.ref c) H Z :=
  ⟨.list (rowsD rows), .list (rowsD rows), .lst h1 (dp_rows a1.len a1.row), .lst h2 (dp_rows a2.len a2.row), shaped_rows hO, shaped_rows hO, by rw [SeqAt.eqv_refl _ (can_rows hO)]; exact q⟩
end
/-- a deed by which the rows would be too many, too few -/
structure NoRw (R C : Addr) (rows : List (List Str)) (gap least : Int) (d : Deed) : Prop where
  ok : DOk rows d
  no : goneD rows gap least d = none
  cls : errD R C rows d = R
section
variable {R C : Addr} {rows : List (List Str)} {gap least : Int} {n : Nat} {r : List Str}
theorem full_put (h30 : rows.length = 30) (hr : RowOk r) (hn : n ≤ rows.length) : NoRw R C rows gap least (.put n r) := by
  have ec : cutD rows (.put n r) = some (n, 0, [r]) := rfl
  have a : ¬ (1 ≤ ((rows.length : Nat) : Int) - ((0 : Nat) : Int) + (([r].length : Nat) : Int) ∧ ((rows.length : Nat) : Int) - ((0 : Nat) : Int) + (([r].length : Nat) : Int) ≤ 30) := by
    show ¬ (1 ≤ ((rows.length : Nat) : Int) - ((0 : Nat) : Int) + ((1 : Nat) : Int) ∧ ((rows.length : Nat) : Int) - ((0 : Nat) : Int) + ((1 : Nat) : Int) ≤ 30)
    omega
  exact ⟨⟨hn, hr⟩, none_of ec (fits_many a), err_R ec a⟩
theorem full_part (hO : PgOk rows) (h30 : rows.length = 30) (hn : n < rows.length) : NoRw R C rows gap least (.part n 0 0) := by
  have ec : cutD rows (.part n 0 0) = some (n, 1, [halvA (rowN rows n) 0 0, halvB (rowN rows n) 0 0]) := rfl
  have a : ¬ (1 ≤ ((rows.length : Nat) : Int) - ((1 : Nat) : Int) + (([halvA (rowN rows n) 0 0, halvB (rowN rows n) 0 0].length : Nat) : Int) ∧ ((rows.length : Nat) : Int) - ((1 : Nat) : Int) + (([halvA (rowN rows n) 0 0, halvB (rowN rows n) 0 0].length : Nat) : Int) ≤ 30) := by
    show ¬ (1 ≤ ((rows.length : Nat) : Int) - ((1 : Nat) : Int) + ((2 : Nat) : Int) ∧ ((rows.length : Nat) : Int) - ((1 : Nat) : Int) + ((2 : Nat) : Int) ≤ 30)
    omega
  exact ⟨⟨hn, (rowN_ok hO hn).pos, Nat.zero_le _⟩, none_of ec (fits_many a), err_R ec a⟩
theorem one_take (h1 : rows.length = 1) : NoRw R C rows gap least (.take 0) := by
  have ec : cutD rows (.take 0) = some (0, 1, []) := rfl
  have a : ¬ (1 ≤ ((rows.length : Nat) : Int) - ((1 : Nat) : Int) + ((([] : List (List Str)).length : Nat) : Int) ∧ ((rows.length : Nat) : Int) - ((1 : Nat) : Int) + ((([] : List (List Str)).length : Nat) : Int) ≤ 30) := by
    show ¬ (1 ≤ ((rows.length : Nat) : Int) - ((1 : Nat) : Int) + ((0 : Nat) : Int) ∧ ((rows.length : Nat) : Int) - ((1 : Nat) : Int) + ((0 : Nat) : Int) ≤ 30)
    omega
  exact ⟨(by show 0 < rows.length; omega), none_of ec (fits_many a), err_R ec a⟩
theorem row_a : RowOk [("a" : Str)] := ⟨by decide, by decide, fun z hz => by
  rw [List.mem_singleton.mp hz]
  exact ⟨by decide +kernel, sg_of (by decide +kernel)⟩⟩
end
/-- a page, a style ahead of the sheet -/
structure Pre (K : PySem.W.Frag) (cs : List (Addr × Addr)) (b l pg st : Addr) (as : List Addr) (rows : List (List Str)) (gap least : Int) (tbs : List (Addr × Str)) (H : Hp) : Prop where
  box : BoxAt H b l
  tab : Tabs cs H
  tb : ∀ p ∈ tbs, LamX.TabS H p.1 p.2
  pd : Hd b l H pg (.lst (as.map V.ref))
  pr : PrAt as rows H
  ln : as.length = rows.length
  sty : StyleAt K H st gap least
section
variable {K : PySem.W.Frag} {cs : List (Addr × Addr)} {b l pg st q : Addr} {as : List Addr} {rows : List (List Str)} {gap least : Int} {tbs : List (Addr × Str)} {H H' : Hp}
theorem Pre.ex (o : Pre K cs b l pg st as rows gap least tbs H) (ne : Tbs cs tbs) (x : Ex cs H H') : Pre K cs b l pg st as rows gap least tbs H' :=
  ⟨box_ext o.box x.ext, x.tab, fun p hp => tabS_ex x (ne.ap p hp) (o.tb p hp), o.pd.gw x.ext (fun ps z => nomatch z), o.pr.kx o.box (kx_ext x.ext), o.ln, o.sty.gwN x.ext⟩
theorem Pre.draw (o : Pre K cs b l pg st as rows gap least tbs H) (x : KB b l H H') (hB : BoxAt H' b l) : Pre K cs b l pg st as rows gap least tbs H' :=
  ⟨hB, tabs_kb o.tab o.box x, fun p hp => tabS_kb (o.tb p hp) o.box x, o.pd.kb x, o.pr.kx o.box (kx_kb x), o.ln, ⟨sqT_km (kb_km x) (box_mob o.box) o.sty.tup, o.sty.g0, o.sty.g1, o.sty.l0, o.sty.l1⟩⟩
theorem Pre.new (o : Pre K cs b l pg st as rows gap least tbs H) (ne : Tbs cs tbs) {u : HO} (n : H q = none) : Pre K cs b l pg st as rows gap least tbs (upd H q u) ∧ Hd b l (upd H q u) q u ∧ LamX.ExtN H (upd H q u) := by
  have x := Ex.laid (o := u) o.tab n
  obtain ⟨d1, d2⟩ := new_ne o.box n
  exact ⟨o.ex ne x, ⟨upd_same, d1, d2⟩, x.ext⟩
end
/-! ### the law -/
abbrev qS : Str := ("law" : Str) ++ ".<locals>." ++ "<lambda>"
abbrev frL : List Str := ["_law_at", "_law_bad", "_law_rows", "_law_sheet"]
theorem sub_l1 : ∀ y ∈ fr_l1, y ∈ frL := by decide +kernel
theorem sub_l2 : ∀ y ∈ fr_l2, y ∈ frL := by decide +kernel
theorem sub_l3 : ∀ y ∈ fr_l3, y ∈ frL := by decide +kernel
theorem sub_l4 : ∀ y ∈ fr_l4, y ∈ frL := by decide +kernel
theorem sub_l5 : ∀ y ∈ fr_l5, y ∈ frL := by decide +kernel
theorem sub_l6 : ∀ y ∈ fr_l6, y ∈ frL := by decide +kernel
abbrev nmLaw : List Str := ["_law_script", "_law_box", "_law_style_here", "_law_begins", "_law_works", "_law_at", "_law_bad", "_law_rows", "_law_sheet", "_law_k"]
theorem sc_law : FnScope nmLaw ["_law_script"] (defScope s_law) := ⟨rfl, rfl, rfl, by decide +kernel, rfl, by decide +kernel, by decide +kernel⟩
theorem kc_law : ∀ y ∈ frL, (defScope s_law).names.lookup y = some .cell := by decide +kernel
def spLaw (K : PySem.W.Frag) (cs : List (Addr × Addr)) (p1 p2 p3 p4 : Addr) : Sp := fun vs H Q _ => ∃ (a : Addr) (ns : List Int), vs = [.ref a] ∧ Tabs cs H ∧ LamX.TabS H p1 qN ∧ LamX.TabS H p2 qP ∧ LamX.TabS H p3 qF ∧ LamX.TabS H p4 qS ∧ SqL K H a (ns.map V.int) ∧ ns.length ≤ 63 ∧ ∀ H', Q (.bl true) H'
section
variable {P : Program} {w : World} {K : PySem.W.Frag} {mg : Str → Option Value} {base : Heap} {cs : List (Addr × Addr)} {S R C p p1 p2 p3 : Addr} {tbs : List (Addr × Str)}
theorem ok_law {f cd gI g1 g2 g4 g5 gN gB gP gF gA gpage gbegins gback gput gchange gpart gtake : Addr} {fd fdI fd1 fd2 fd4 fd5 fdN fdB fdP fdF fdA fdpage fdbegins fdback fdput fdchange fdpart fdtake : FuncData} (T : Txt mg) (X : ShC K S) (hts : tbs = [(p1, qN), (p2, qP), (p3, qF), (p, qS)]) (ne : Tbs cs tbs) (eR : R = He.ga K (nmE 2)) (F : Fun K "law" "law" s_law f fd) (hcode : fd.code = .ref cd) (TB : LamX.TabB base mg cd p)
    (G1 : FnOk P w K mg base CX0 1 g1 fd1 ["_law_script"] (spBegun K)) (k1 : PySem.W.keepIn K (.ref g1) = true) (b1 : Binds K fd1 ["_law_script"] []) (m1 : mg "_law_begun" = some (.ref g1))
    (G2 : FnOk P w K mg base CX0 1 g2 fd2 ["_law_box", "_law_many"] spTakeW) (k2 : PySem.W.keepIn K (.ref g2) = true) (b2 : Binds K fd2 ["_law_box", "_law_many"] []) (m2 : mg "_law_take" = some (.ref g2))
    (G4 : FnOk P w K mg base CX0 5 g4 fd4 ["_law_box", "_law_most"] spPageD) (k4 : PySem.W.keepIn K (.ref g4) = true) (b4 : Binds K fd4 ["_law_box", "_law_most"] []) (m4 : mg "_law_page" = some (.ref g4))
    (G5 : FnOk P w K mg base CX0 2 g5 fd5 ["_law_box"] spStyleD) (k5 : PySem.W.keepIn K (.ref g5) = true) (b5 : Binds K fd5 ["_law_box"] []) (m5 : mg "_law_style" = some (.ref g5))
    (GN : FnOk P w K mg base CX0 2 gN fdN ["_law_box", "_law_sheet", "_law_many"] (spWorks P w K mg base cs S tbs 2 fun _ _ rows v => v = .int (rows.length : Nat))) (kN : PySem.W.keepIn K (.ref gN) = true) (bN : Binds K fdN ["_law_box", "_law_sheet", "_law_many"] []) (mN : mg "_law_numbers" = some (.ref gN))
    (GB : FnOk P w K mg base CX0 3 gB fdB ["_law_box", "_law_row_here"] (spBadR K)) (kB : PySem.W.keepIn K (.ref gB) = true) (bB : Binds K fdB ["_law_box", "_law_row_here"] []) (mB : mg "_law_bad_row" = some (.ref gB))
    (GP : FnOk P w K mg base CX0 2 gP fdP ["_law_box", "_law_sheet", "_law_rows"] (spWorks P w K mg base cs S tbs 3 fun _ pg _ v => v = .ref pg)) (kP : PySem.W.keepIn K (.ref gP) = true) (bP : Binds K fdP ["_law_box", "_law_sheet", "_law_rows"] []) (mP : mg "_law_places" = some (.ref gP))
    (GF : FnOk P w K mg base CX0 21 gF fdF ["_law_box", "_law_sheet", "_law_rows", "_law_number"] (spFull K cs S tbs)) (kF : PySem.W.keepIn K (.ref gF) = true) (bF : Binds K fdF ["_law_box", "_law_sheet", "_law_rows", "_law_number"] []) (mF : mg "_law_row_full" = some (.ref gF))
    (GA : FnOk P w K mg base CX0 20 gA fdA ["_law_works", "_law_due"] (spAllW P w K mg base cs 18)) (kA : PySem.W.keepIn K (.ref gA) = true) (bA : Binds K fdA ["_law_works", "_law_due"] []) (mA : mg "_law_all" = some (.ref gA))
    (MS : Mk K S gI) (GI : FnOk P w K mg base CX0 12 gI fdI ["self", "page", "style"] (spShInit K cs S)) (bI : Binds K fdI ["self", "page", "style"] []) (mI : mg "Sheet" = some (.ref S))
    (Mpage : Meth K S "page" gpage) (Gpage : FnOk P w K mg base CX0 1 gpage fdpage ["self"] (spShPage K S)) (bpage : Binds K fdpage ["self"] [])
    (Mbegins : Meth K S "begins" gbegins) (Gbegins : FnOk P w K mg base CX0 15 gbegins fdbegins ["self"] (spShBegins K cs S)) (bbegins : Binds K fdbegins ["self"] [])
    (Mback : Meth K S "back" gback) (Gback : FnOk P w K mg base CX0 1 gback fdback ["self"] (spBackD K cs S)) (bback : Binds K fdback ["self"] [])
    (Mput : Meth K S "put" gput) (GputX : FnOk P w K mg base (L2.CX P w) 17 gput fdput ["self", "number", "row"] (spPutX K cs S R 0)) (Gput : FnOk P w K mg base (L2.CX P w) 17 gput fdput ["self", "number", "row"] (spPut K cs S R C)) (bput : Binds K fdput ["self", "number", "row"] [])
    (Mchange : Meth K S "change" gchange) (Gchange : FnOk P w K mg base (L2.CX P w) 17 gchange fdchange ["self", "number", "row"] (spPutX K cs S R 1)) (bchange : Binds K fdchange ["self", "number", "row"] [])
    (Mpart : Meth K S "part" gpart) (Gpart : FnOk P w K mg base (L2.CX P w) 17 gpart fdpart ["self", "number", "cell", "place"] (spPart K cs S R C)) (bpart : Binds K fdpart ["self", "number", "cell", "place"] [])
    (Mtake : Meth K S "take" gtake) (Gtake : FnOk P w K mg base (L2.CX P w) 17 gtake fdtake ["self", "number"] (spTakeD K cs S R C)) (btake : Binds K fdtake ["self", "number"] []) :
    FnOk P w K mg base CX0 22 f fd ["_law_script"] (spLaw K cs p1 p2 p3 p) := by
  refine fun_okT F hcode sc_law (fun vs H Q E h => ?_) (fun A outer s H vs Q E hr h => ?_)
  · obtain ⟨a, ns, rfl, _⟩ := h
    rfl
  · obtain ⟨sc, ns, rfl, hT, t1, t2, t3, t4, hS, hl, k⟩ := h
    have hTb : ∀ p ∈ tbs, LamX.TabS H p.1 p.2 := by
      rw [hts]
      intro q hq
      simp only [List.mem_cons, List.not_mem_nil, or_false] at hq
      rcases hq with e | e | e | e <;> rw [e] <;> assumption
    have hq : (p, qS) ∈ tbs := by
      rw [hts]
      simp only [List.mem_cons, true_or, or_true]
    clear t1 t2 t3 t4
    have nd := sc_law.nd
    have hu := hr.units
    have szl : (9000 : Nat) < sizeLine := by decide
    have r1 : Room 1 _ := hr.mono (by decide)
    have r2 : Room 2 _ := hr.mono (by decide)
    have r3 : Room 3 _ := hr.mono (by decide)
    have r5 : Room 5 _ := hr.mono (by decide)
    have r13 : Room 13 _ := hr.mono (by decide)
    have r15 : Room 15 _ := hr.mono (by decide)
    have r20 : Room 20 _ := hr.mono (by decide)
    have r21 : Room 21 _ := hr.mono (by decide)
    refine ⟨_, (pss_cons (ps_set (i := 1) nd rfl (.inr rfl) (pe_call G1 r1 (by rfl) m1 k1 b1 .nil pass0 (pa_cons (pv 0) pa_nil)))
      (pss_cons (ps_asg (pe_tup (pa_cons (pe_call G4 r5 (by rfl) m4 k4 b4 .nil pass0 (pa_cons (pv 1) (pa_cons (pe_ix ix_list (pe_lst (pa_cons pe_int (pa_cons pe_int (pa_cons pe_int pa_nil)))) (pe_call G2 r1 (by rfl) m2 k2 b2 .nil pass0 (pa_cons (pv 1) (pa_cons pe_int pa_nil))) (fun _ _ => rfl)) pa_nil))) (pa_cons (pe_call G5 r2 (by rfl) m5 k5 b5 .nil pass0 (pa_cons (pv 1) pa_nil)) pa_nil))) (pg_tup rfl (pgs_cons (pg_name (i := 7) nd rfl (.inr rfl)) (pgs_cons (pg_name (i := 2) nd rfl (.inl rfl)) pgs_nil))))
      (pss_cons (ps_if (pt_cmpR op_eq (pe_call G2 r1 (by rfl) m2 k2 b2 .nil pass0 (pa_cons (pv 1) (pa_cons pe_int pa_nil))) pe_int (nomark _)) (pss_one (ps_set (i := 7) nd rfl (.inr rfl) (pe_slice sl_list (pe_op op_rep (pv 7) pe_int) po_none (po_some pe_int)))) pss_nil)
      (pss_cons (ps_set (i := 8) nd rfl (.inr rfl) (pe_make MS GI r13 (by rfl) mI bI .nil pass0 (pa_cons (pv 7) (pa_cons (pv 2) pa_nil))))
      (pss_cons (ps_set (i := 3) nd rfl (.inl rfl) (pe_meth0 (pv 8) X.cS Mbegins Gbegins r15 bbegins .nil pass0))
      (pss_cons (ps_if (pt_not (pt_val (pe_call GA r20 (by rfl) mA kA bA .nil pass0 (pa_cons (pe_call GN r2 (by rfl) mN kN bN .nil pass0 (pa_cons (pv 1) (pa_cons (pv 8) (pa_cons (pe_callB call_len_seq (by rfl) T.len PySem.boot_len (pa_cons (pv 7) pa_nil)) pa_nil)))) (pa_cons (pe_tup (pa_cons pe_str (pa_cons pe_int pa_nil))) pa_nil))))) (pss_one (ps_ret pe_bl)) pss_nil)
      (pss_cons (ps_set (i := 5) nd rfl (.inr rfl) (pe_call G2 r1 (by rfl) m2 k2 b2 .nil pass0 (pa_cons (pv 1) (pa_cons (pe_callB call_len_seq (by rfl) T.len PySem.boot_len (pa_cons (pv 7) pa_nil)) pa_nil))))
      (pss_cons (ps_set (i := 6) nd rfl (.inr rfl) (pe_call GB r3 (by rfl) mB kB bB .nil pass0 (pa_cons (pv 1) (pa_cons (pe_ix ix_list (pv 7) (pv 5) (fun _ _ => rfl)) pa_nil))))
      (pss_cons (ps_if (pt_not (pt_val (pe_callC (names := frL) GA r20 (by rfl) mA kA bA (fun _ _ => rfl) kc_law (pa_cons (pe_lst (pa_cons (pe_lamC TB rfl rfl fun y hy e => .inl (kl_l1 y hy e)) (pa_cons (pe_lamD (v := .int 0) TB rfl rfl rfl rfl pe_int (fun y hy e => .inl (kl_l2 y hy e)) ⟨("_law_sheet", .free), by decide +kernel, rfl⟩) pa_nil))) (pa_cons (pe_tup (pa_cons pe_str (pa_cons pe_int pa_nil))) pa_nil))))) (pss_one (ps_ret pe_bl)) pss_nil)
      (pss_cons (ps_if (pt_not (pt_val (pe_call GA r20 (by rfl) mA kA bA .nil pass0 (pa_cons (pe_call GP r2 (by rfl) mP kP bP .nil pass0 (pa_cons (pv 1) (pa_cons (pv 8) (pa_cons (pv 7) pa_nil)))) (pa_cons (pe_tup (pa_cons pe_str (pa_cons pe_int pa_nil))) pa_nil))))) (pss_one (ps_ret pe_bl)) pss_nil)
      (pss_cons (ps_if (pt_cmpR (op_neD hu) (pe_lc (own := [("_law_k", 9)]) (g := gName 9) rfl nd (pi_range1 (by rfl) T.range (pa_cons (pe_callB call_len_seq (by rfl) T.len PySem.boot_len (pa_cons (pv 7) pa_nil)) pa_nil)) (blkOk_by (own := [("_law_k", 9)]) (N := nmLaw) (sc := defScope s_law) (by decide +kernel)) (fun _ _ _ _ _ => pg_name (i := 9) nd rfl (Or.inl rfl)) (fun _ _ _ _ _ => pts_one (pt_not (pt_val (pe_call GF r21 (by rfl) mF kF bF .nil pass0 (pa_cons (pv 1) (pa_cons (pv 8) (pa_cons (pv 7) (pa_cons (pv 9) pa_nil)))))))) (fun _ _ _ _ _ => (pv 9))) (pe_lst pa_nil) (nomark _)) (pss_one (ps_ret pe_bl)) pss_nil)
      (pss_cons (ps_if (pt_cmpR op_eq (pe_callB call_len_seq (by rfl) T.len PySem.boot_len (pa_cons (pv 7) pa_nil)) pe_int (nomark _)) (pss_cons (ps_set (i := 4) nd rfl (.inl rfl) (pe_lst (pa_cons (pe_lamC TB rfl rfl fun y hy e => .inl (kl_l3 y hy e)) (pa_cons (pe_lamD (v := .int 0) TB rfl rfl rfl rfl pe_int (fun y hy e => .inl (kl_l4 y hy e)) ⟨("_law_sheet", .free), by decide +kernel, rfl⟩) (pa_cons (pe_lamD (v := .int 0) TB rfl rfl rfl rfl pe_int (fun y hy e => .inl (kl_l5 y hy e)) ⟨("_law_sheet", .free), by decide +kernel, rfl⟩) pa_nil)))))
      (pss_one (ps_if (pt_not (pt_val (pe_callC (names := frL) GA r20 (by rfl) mA kA bA (fun _ _ => rfl) kc_law (pa_cons (pv 4) (pa_cons (pe_tup (pa_cons pe_str (pa_cons pe_int pa_nil))) pa_nil))))) (pss_one (ps_ret pe_bl)) pss_nil))) pss_nil)
      (pss_cons (ps_if (PW.pt (pw_and (pt_cmpR op_eq (pe_callB call_len_seq (by rfl) T.len PySem.boot_len (pa_cons (pv 7) pa_nil)) pe_int (nomark _)) (pw_and1 (pt_not (pt_val (pe_callC (names := frL) GA r20 (by rfl) mA kA bA (fun _ _ => rfl) kc_law (pa_cons (pe_lst (pa_cons (pe_lamC TB rfl rfl fun y hy e => .inl (kl_l6 y hy e)) pa_nil)) (pa_cons (pe_tup (pa_cons pe_str (pa_cons pe_int pa_nil))) pa_nil)))))))) (pss_one (ps_ret pe_bl)) pss_nil)
      (pss_one (ps_ret (pe_and (pe_cmpR (op_eqD hu) (pe_meth0 (pv 8) X.cS Mpage Gpage r1 bpage .nil pass0) (pv 7) (nomark _)) (pe_and (pe_cmpR (op_eqD hu) (pe_meth0 (pv 8) X.cS Mbegins Gbegins r15 bbegins .nil pass0) (pv 3) (nomark _)) (pe_one (pe_cmpR op_isBl (pe_meth0 (pv 8) X.cS Mback Gback r1 bback .nil pass0) pe_bl (nomark _)))))))))))))))))))), ?_⟩
    refine ⟨_, rfl, sc, ns, rfl, hS, hl, fun b l H1 hB1 x1 nb nl => ?_⟩
    refine ⟨_, rfl, by show 3 ≤ sizeLine; decide, fun p0 np0 => ⟨_, rfl, b, l, 3, rfl, box_new hB1 np0, by decide, by decide, fun z H3 z0 z1 hB3 x3 => ?_⟩⟩
    obtain ⟨nb0, nl0⟩ := new_ne hB1 np0
    have hp2 := x3 p0 _ upd_same nb0 nl0
    have hT3 := tabs_kb (tabs_ext (tabs_ext hT x1) (same_new np0)) (box_new hB1 np0) x3
    have tb3 : ∀ p ∈ tbs, LamX.TabS H3 p.1 p.2 := fun p hp => tabS_kb (((hTb p hp).ext x1).ext (same_new np0)) (box_new hB1 np0) x3
    obtain ⟨m, hm, em⟩ := pick (xs := [(2 : Int), 8, 30]) (i := z) z0 z1
    have hm2 : 1 ≤ m ∧ m ≤ 30 := by
      simp only [List.mem_cons, List.not_mem_nil, or_false] at hm
      omega
    refine ⟨p0, _, _, .int m, rfl, rfl, SqL.of hp2, atI_map (f := V.int) em, b, l, m, rfl, hB3, hm2.1, hm2.2, fun pg as rows H4 hB4 x4 np pb pl hp hal hrow hO => ⟨_, rfl, b, l, rfl, hB4, fun st gap least H5 hB5 x5 nq hq5 g0 g1 l0 l1 => ?_⟩⟩
    have o : Pre K cs b l pg st as rows gap least tbs H5 := ⟨hB5, tabs_kb (tabs_kb hT3 hB3 x4) hB4 x5, fun p hp => tabS_kb (tabS_kb (tb3 p hp) hB3 x4) hB4 x5, ⟨x5 pg _ hp pb pl, pb, pl⟩, PrAt.kx (fun i q r h1 h2 => hrow i q r h1 h2) hB4 (kx_kb x5), hal, .inl (.inl hq5), g0, g1, l0, l1⟩
    clear hp hrow x3 x4 x5 hB3 hB4 hT3 tb3 hp2 nb0 nl0 np0 nq np hq5 hm em hm2 z0 z1 hal g0 g1 l0 l1 pb pl hB5 hB1 x1 hS hT hTb
    refine ⟨by show 2 ≤ sizeLine; decide, fun t0 nt0 => ?_⟩
    obtain ⟨o, ht0, _⟩ := o.new (u := .tup [V.ref pg, V.ref st]) ne nt0
    refine ⟨t0, _, rfl, .inl (.inl ht0.1), rfl, _, _, rfl, _, _, rfl, rfl, ?_⟩
    generalize upd H5 t0 (.tup [V.ref pg, V.ref st]) = H6 at o ⊢
    clear ht0 nt0
    -- thirty rows of them
    refine gst (σ' := [some (.ref sc), some (.ref b), some (.ref st), none, none, none, none, some (.ref pg), none, none]) rfl ?_
    refine' cutG _ (fun σ H' => ∃ (pg : Addr) (as : List Addr) (rows : List (List Str)), σ = [some (.ref sc), some (.ref b), some (.ref st), none, none, none, none, some (.ref pg), none, none] ∧ PgOk rows ∧ Pre K cs b l pg st as rows gap least tbs H') (fun rest => _) _
    rotate_left
    · refine ⟨_, rfl, b, l, 4, rfl, o.box, by decide, by decide, fun z H7 z0 z1 hB7 x7 => ⟨rfl, ?_⟩⟩
      have o := o.draw x7 hB7
      by_cases e : z = 0
      · refine ⟨true, dT (by rw [e]), iteT ?_⟩
        have la : (as.map V.ref).length = rows.length := by rw [List.length_map, o.ln]
        have h30 := hO.len
        refine ⟨_, rfl, pg, _, _, rfl, rfl, o.pd.1, by decide, by decide, by rw [la]; show rows.length * 30 ≤ sizeLine; omega, fun f0 nf0 => ?_⟩
        obtain ⟨o, hf0, xx⟩ := o.new (u := .lst (List.replicate (30 : Int).toNat (as.map V.ref)).flatten) ne nf0
        generalize upd H7 f0 (.lst (List.replicate (30 : Int).toNat (as.map V.ref)).flatten) = H8 at o hf0 ⊢
        clear xx nf0
        refine ⟨_, rfl, f0, _, rfl, SqL.of hf0.1, fun ff nff => ?_⟩
        have e30 : ∀ X : List V, cutV X none (some 30) = X.take 30 := fun X => cutT_hi X 30
        rw [e30]
        obtain ⟨o, hff, xx⟩ := o.new (u := .lst ((List.replicate (30 : Int).toNat (as.map V.ref)).flatten.take 30)) ne nff
        generalize upd H8 ff (.lst ((List.replicate (30 : Int).toNat (as.map V.ref)).flatten.take 30)) = H9 at o hff ⊢
        clear xx nff e30
        obtain ⟨e1, e2⟩ := full_ok hO
        have e3 : (List.replicate (30 : Int).toNat (as.map V.ref)).flatten.take 30 = ((List.replicate 30 as).flatten.take 30).map V.ref := by
          show (List.replicate 30 (as.map V.ref)).flatten.take 30 = _
          rw [rep_map, List.map_take]
        rw [e3] at hff
        refine gset (σ' := [some (.ref sc), some (.ref b), some (.ref st), none, none, none, none, some (.ref ff), none, none]) rfl ?_
        exact rest _ _ ⟨ff, (List.replicate 30 as).flatten.take 30, (List.replicate 30 rows).flatten.take 30, rfl, e2, ⟨o.box, o.tab, o.tb, hff, (o.pr.rep o.ln 30).take 30, by rw [List.length_take, List.length_take, rep_len, rep_len, o.ln], o.sty⟩⟩
      · refine ⟨false, dF (fun h => e (by injection h)), iteF ?_⟩
        exact rest _ _ ⟨pg, as, rows, rfl, hO, o⟩
    clear o hO
    rintro σ H5 ⟨pg, as, rows, rfl, hO, o⟩
    -- the sheet is made
    refine ⟨_, rfl, _, rfl, fun sh dx nsh ndx nxt => ?_⟩
    have x7 : Same H5 (upd (upd H5 dx (.own sh)) sh (.ins S dx [])) := fun c o h => by rw [upd_ne (ne_of_none h nsh), upd_ne (ne_of_none h ndx)]; exact h
    have hc7 : upd (upd H5 dx (.own sh)) sh (.ins S dx []) sh = some (.ins S dx []) := upd_same
    generalize upd (upd H5 dx (.own sh)) sh (.ins S dx []) = H7 at x7 hc7 ⊢
    have e57 := ex_same o.tab x7
    have ra := (o.pr.toRows o.ln (K := K)).gw e57.ext
    refine ⟨sh, pg, st, dx, as, rows, gap, least, rfl, e57.tab, hc7, ⟨SqL.of (x7 _ _ o.pd.1), ra.len, ra.row⟩, hO, ⟨e57.sqT o.sty.tup, o.sty.g0, o.sty.g1, o.sty.l0, o.sty.l1⟩, fun rl dl H8 x8 t8 old8 hS8 nrl ndl => ⟨rfl, ?_⟩⟩
    have e58 : Ex cs H5 H8 := ⟨fun c o h n => x8 c o (x7 c o h) (.inl n) (ne_of_none h nsh), t8, fun c h => same_old x7 (old8 c h), fun c o h n => x8 c o (x7 c o h) (.inr n) (ne_of_none h nsh)⟩
    have oz : SitZ K cs S b l pg sh rl dl st as gap least rows tbs H8 := ⟨sitP_new o.box o.pd.2.1 o.pd.2.2 o.pd.1 (o.pr.toRows o.ln) e58 nsh (e57.old _ nrl) (e57.old _ ndl) hS8, fun p hp => tabS_ex e58 (ne.ap p hp) (o.tb p hp)⟩
    have pr := o.pr.kx o.box (kx_ext e58.ext)
    have la : (as.map V.ref).length = rows.length := by rw [List.length_map, o.ln]
    clear o x7 hc7 e57 x8 t8 old8 hS8 nrl ndl e58 nsh ndx nxt ra
    have o := oz
    clear oz
    -- begins
    obtain ⟨as1, ts, hS1⟩ := o.sht
    obtain ⟨dx1, hsh⟩ := o.she
    refine ⟨_, rfl, sh, dx1, _, rfl, hsh, rfl, sh, rl, dl, st, as1, rows, gap, least, ts, [], _, rfl, o.o.tab, hS1, fun bg es H9 x9 nbg nes told => ?_⟩
    have tl : Tl b l H9 bg es (begsR rows gap least) rows.length := ⟨told, new_ne o.o.box nbg, fun e he => new_ne o.o.box (nes e he).1⟩
    have pr := pr.kx o.o.box (kx_ext x9.ext)
    have o := o.ex ne x9
    clear told x9 nbg nes hS1 hsh
    -- numbers
    refine ⟨_, rfl, _, rfl, _, rfl, pg, _, rfl, .inl (SqL.of o.o.pg_), b, l, pg, sh, rl, dl, st, as, gap, least, rows, _, rfl, by rw [la], o, fun w1 fs H10 o10 kx hw wb wl hR => ?_⟩
    have tl := tl.kx kx
    have pr := pr.kx o.o.box kx
    refine ⟨by show 2 ≤ sizeLine; decide, fun dd ndd => ?_⟩
    have xd := Ex.laid (o := .tup [V.str "BadRow", V.int 0]) o10.o.tab ndd
    refine ⟨w1, dd, fs, 2, 0, rfl, xd.tab, xd.lst hw, upd_same, fun f hf => (hR f hf).ex xd, fun H11 x11 => ⟨true, rfl, iteF ?_⟩⟩
    have xx := xd.trans x11
    have tl := tl.kx (kx_ext xx.ext)
    have pr := pr.kx o10.o.box (kx_ext xx.ext)
    have o := o10.ex ne xx
    clear o10 kx hw wb wl hR xd x11 xx ndd
    -- a row of it
    have hpos := hO.pos
    have h30 := hO.len
    refine ⟨_, rfl, _, rfl, pg, _, rfl, .inl (SqL.of o.o.pg_), b, l, _, rfl, o.o.box, by rw [la]; omega, by rw [la]; omega, fun nv H12 a0 a1 hB12 x12 => ?_⟩
    rw [la] at a1
    obtain ⟨n, rfl⟩ := Int.eq_ofNat_of_zero_le a0
    have hn : n < rows.length := by omega
    have tl := tl.kx (kx_kb x12)
    have pr := pr.kx o.o.box (kx_kb x12)
    have o := o.draw x12 hB12
    clear a0 a1 hB12 x12
    obtain ⟨q, r, eq_, er⟩ : ∃ q r, as[n]? = some q ∧ rows[n]? = some r := ⟨_, _, List.getElem?_eq_getElem (by rw [o.o.at_.len]; exact hn), List.getElem?_eq_getElem hn⟩
    have hrw := hO.rows r (List.mem_of_getElem? er)
    have at0 : atI (as.map V.ref) ((n : Nat) : Int) = some (.ref q) := atI_nat (by rw [List.getElem?_map, eq_]; rfl)
    -- what is no row
    refine ⟨_, rfl, _, rfl, _, rfl, pg, _, _, .ref q, rfl, rfl, SqL.of o.o.pg_, at0, b, l, q, r, rfl, o.o.box, pr n q r eq_ er, hrw, fun bv H13 hB13 x13 hb => ?_⟩
    have tl := tl.kx (kx_kb x13)
    have o := o.draw x13 hB13
    have hbr := hb.1
    clear x13 hB13 hb pr at0
    have kx : KX b l H13 H13 := KX.refl
    refine ⟨o.tb _ hq, fun f_l1 d_l1 Hx1 k1 k2 t11 nf hf hc => ?_⟩
    obtain ⟨o, xx⟩ := o.lam ne hq k1 k2 t11
    have kx := kx.tr (kx_ext xx)
    have hbr := hbr.gw xx
    have g_l1 : HfL f_l1 ⟨"<lambda>", qS, lm_l1.1, [], lm_l1.2.2, cloFrom (cxOf CX0 P w K mg base nmLaw "law" (defScope s_law) f (.ref cd) A outer s H E).nox.env.cells lm_l1.2.2.names [], d_l1⟩ lm_l1.2.1 _ := ⟨hf, hc⟩
    clear xx k1 k2 t11 nf hf hc
    refine ⟨o.tb _ hq, fun f_l2 d_l2 u_l2 Hx2 k1 k2 t11 nf hf => ?_⟩
    obtain ⟨o, xx⟩ := o.lam ne hq k1 k2 t11
    have kx := kx.tr (kx_ext xx)
    have hbr := hbr.gw xx
    have g_l1 := HfLgw g_l1 xx
    have g_l2 : HfD f_l2 ⟨"<lambda>", qS, lm_l2.1, [], lm_l2.2.2, cloFrom (cxOf CX0 P w K mg base nmLaw "law" (defScope s_law) f (.ref cd) A outer s H E).nox.env.cells lm_l2.2.2.names [], d_l2⟩ lm_l2.2.1 u_l2 (.int 0) _ := hf
    clear xx k1 k2 t11 nf hf
    refine ⟨by show 2 ≤ sizeLine; decide, fun w1 nw1 => ?_⟩
    obtain ⟨o, hw1, xx⟩ := o.new (u := .lst [V.ref f_l1, V.ref f_l2]) ne nw1
    have kx := kx.tr (kx_ext xx)
    have hbr := hbr.gw xx
    have g_l1 := HfLgw g_l1 xx
    have g_l2 := HfDgw g_l2 xx
    generalize upd Hx2 w1 (.lst [V.ref f_l1, V.ref f_l2]) = Hx3 at o kx hw1 hbr g_l1 g_l2 ⊢
    clear xx nw1
    refine ⟨by show 2 ≤ sizeLine; decide, fun dd ndd cl Tc un => ?_⟩
    obtain ⟨o, hdd, xx⟩ := o.new (u := .tup [V.str "BadRow", V.int 0]) ne ndd
    have kx := kx.tr (kx_ext xx)
    have hbr := hbr.gw xx
    have g_l1 := HfLgw g_l1 xx
    have g_l2 := HfDgw g_l2 xx
    have hw1 := hw1.gw xx fun ps z => nomatch z
    generalize upd Hx3 dd (.tup [V.str "BadRow", V.int 0]) = HZ at o kx hdd un hbr g_l1 g_l2 hw1 ⊢
    clear xx ndd
    have hdd := hdd.1
    have eR2 : ∀ {H : Hp}, ErrAt K H 2 0 (.ref R) none := err_of (by decide) rfl eR
    have hx : ∀ {H1 : Hp}, Ex cs HZ H1 → ∃ dx as1 ts, H1 sh = some (.ins S dx [("rows", .ref rl), ("style", .ref st), ("deeds", .ref dl)]) ∧ Tabs cs H1 ∧ ShtD K S H1 sh rl dl st as1 rows gap least ts [] (avX b l fun _ => False) ∧ SitZ K cs S b l pg sh rl dl st as gap least rows tbs H1 := fun {H1} x1 => by
      have a1 := o.ex ne x1
      obtain ⟨as1, ts, hS⟩ := a1.sht
      obtain ⟨dx, h⟩ := a1.she
      exact ⟨dx, as1, ts, h, x1.tab, hS, a1⟩
    refine ⟨w1, dd, [f_l1, f_l2], 2, 0, rfl, tabs_addC o.o.tab un, add_at un hw1.1, add_at un hdd, fun f hf => ?_, fun H' x told => ⟨true, rfl, iteF ?_⟩⟩
    simp only [List.mem_cons, List.not_mem_nil, or_false] at hf
    rcases hf with e | e <;> rw [e]
    · refine TGK.ref_of (ws := [some (.ref sh), some (.int (n : Nat)), some bv]) sc_l1 (fun y hy => sc_l1.free (y, .free) hy rfl) (sub_l1) Tc un rfl rfl (fun i y v q1 q2 => by
          match i, q1, q2 with
          | 0, q1, q2 => cases q1; cases q2; exact ⟨8, rfl, rfl⟩
          | 1, q1, q2 => cases q1; cases q2; exact ⟨5, rfl, rfl⟩
          | 2, q1, q2 => cases q1; cases q2; exact ⟨6, rfl, rfl⟩
          | i + 3, q1, _ => simp at q1) (fun H1 x => ⟨x.ext _ _ (add_at un g_l1.1) fnL_ne, x.ext _ _ (add_at un g_l1.2) LamX.codeO_ne⟩) (lok_l1 T X.cS Mput GputX bput) (fun H1 x1 _ Z E2 hE => ?_)
      obtain ⟨dx, as1, ts, hsh, hT1, hS1, hrq1⟩ := hx x1
      exact ⟨sh, dx, _, .int (n : Nat), bv, rfl, hsh, fld_no _ _ _ (by decide +kernel), sh, .int (n : Nat), bv, rl, dl, st, as1, rows, gap, least, ts, [], _, rfl, hT1, hS1, .inr ⟨⟨n, rfl, by omega⟩, hbr.gw x1.ext⟩, fun H' x => hE _ _ _ eR2 x⟩
    · refine TGK.ref_of (ws := [some (.ref sh), some (.int (n : Nat)), some bv]) sc_l2 (fun y hy => sc_l2.free (y, .free) hy rfl) (sub_l2) Tc un rfl rfl (fun i y v q1 q2 => by
          match i, q1, q2 with
          | 0, q1, q2 => cases q1; cases q2; exact ⟨8, rfl, rfl⟩
          | 1, q1, q2 => cases q1; cases q2; exact ⟨5, rfl, rfl⟩
          | 2, q1, q2 => cases q1; cases q2; exact ⟨6, rfl, rfl⟩
          | i + 3, q1, _ => simp at q1) (fun H1 x => ⟨x.ext _ _ (add_at un g_l2.1) fnD_ne, x.ext _ _ (add_at un g_l2.2.1) LamX.codeO_ne, x.tup (add_at un g_l2.2.2)⟩) (lok_l2 T X.cS Mchange Gchange bchange) (fun H1 x1 _ Z E2 hE => ?_)
      obtain ⟨dx, as1, ts, hsh, hT1, hS1, hrq1⟩ := hx x1
      exact ⟨sh, dx, _, .int (n : Nat), bv, rfl, hsh, fld_no _ _ _ (by decide +kernel), sh, .int (n : Nat), bv, rl, dl, st, as1, rows, gap, least, ts, [], _, rfl, hT1, hS1, .inr ⟨⟨n, rfl, by omega⟩, hbr.gw x1.ext⟩, fun H' x => hE _ _ _ eR2 x⟩
    have x2 := ex_del un x
    have tl := tl.kx (kx.tr (kx_ext x2.ext))
    have o := o.ex ne x2
    clear kx un Tc told hx g_l1 g_l2 hw1 hdd hbr
    clear x
    generalize delC H' cl = H14 at o tl x2 ⊢
    clear x2
    -- places
    refine ⟨_, rfl, _, rfl, _, rfl, b, l, pg, sh, rl, dl, st, as, gap, least, rows, _, rfl, rfl, o, fun w2 fs2 H15 o15 kx hw wb wl hR => ?_⟩
    have tl := tl.kx kx
    refine ⟨by show 2 ≤ sizeLine; decide, fun dd ndd => ?_⟩
    have xd := Ex.laid (o := .tup [V.str "BadCell", V.int 0]) o15.o.tab ndd
    refine ⟨w2, dd, fs2, 3, 0, rfl, xd.tab, xd.lst hw, upd_same, fun f hf => (hR f hf).ex xd, fun H17 x17 => ⟨true, rfl, iteF ?_⟩⟩
    have xx := xd.trans x17
    have tl := tl.kx (kx_ext xx.ext)
    have o := o15.ex ne xx
    clear o15 kx hw wb wl hR xd x17 xx ndd
    -- rows that are full
    refine ⟨_, rfl, pg, _, rfl, .inl (SqL.of o.o.pg_), ?_⟩
    rw [la]
    refine ⟨_, rfl, by omega, by omega, fun M nM => lc_range (n := rows.length) (fun i H' => SitZ K cs S b l pg sh rl dl st as gap least rows tbs H' ∧ KX b l H17 H' ∧ H' M = some (.lst [])) ⟨o.ex ne (Ex.laid o.o.tab nM), kx_ext (Ex.laid o.o.tab nM).ext, upd_same⟩ ?_ ?_⟩
    · rintro i H18 hi ⟨o18, kx18, hM⟩
      obtain ⟨M1, M2⟩ := new_ne o.o.box nM
      refine ⟨rfl, _, rfl, _, rfl, _, rfl, _, rfl, b, l, pg, sh, rl, dl, st, as, gap, least, rows, i, by rw [Int.zero_add]; rfl, hi, o18, fun H19 o19 kx19 => ⟨true, rfl, iteF ⟨o19, kx18.tr kx19, kx19 _ _ hM (fun ps z => nomatch z) M1 M2⟩⟩⟩
    rintro H20 ⟨o20, kx20, hM⟩
    have tl := tl.kx kx20
    clear o nM
    refine ⟨Nat.zero_le _, fun e0 ne0 => ?_⟩
    have xe := Ex.laid (o := .lst []) o20.o.tab ne0
    have o := o20.ex ne xe
    have tl := tl.kx (kx_ext xe.ext)
    refine ⟨.list [], .list [], .lst (SqL.of (xe.lst hM)) .nil, .lst (SqL.of upd_same) .nil, rfl, rfl, false, rfl, iteF ?_⟩
    generalize upd H20 e0 (.lst []) = H21 at o tl ⊢
    clear xe o20 kx20 hM ne0
    -- thirty rows
    have hx : ∀ {HZ H1 : Hp}, SitZ K cs S b l pg sh rl dl st as gap least rows tbs HZ → Ex cs HZ H1 → ∃ dx as1 ts, H1 sh = some (.ins S dx [("rows", .ref rl), ("style", .ref st), ("deeds", .ref dl)]) ∧ Tabs cs H1 ∧ ShtD K S H1 sh rl dl st as1 rows gap least ts [] (avX b l fun _ => False) ∧ SitZ K cs S b l pg sh rl dl st as gap least rows tbs H1 := fun {HZ H1} o x1 => by
      have a1 := o.ex ne x1
      obtain ⟨as1, ts, hS⟩ := a1.sht
      obtain ⟨dx, h⟩ := a1.she
      exact ⟨dx, as1, ts, h, x1.tab, hS, a1⟩
    have aft : ∀ {d : Deed} {H1 H0 : Hp} {E2 : XK} {Q2 : VK}, NoRw R C rows gap least d → Ex cs H0 H1 → (∀ (cls : Value) (d : Option Addr) (H2 : Hp), ErrAt K H2 2 0 cls d → Ex cs H0 H2 → E2 cls d H2) → After K cs S R C H1 Q2 E2 sh rl dl st rows gap least [] (avX b l fun _ => False) d := fun {d H1 H0 E2 Q2} nr x01 hE => ⟨fun rows' l hg => (by rw [nr.no] at hg; cases hg), fun _ H2 x2 => (by rw [nr.cls]; exact hE _ _ _ eR2 (x01.trans x2))⟩
    refine' cutG _ (fun σ H' => ∃ c4 : Option V, σ = [some (.ref sc), some (.ref b), some (.ref st), some (.ref bg), c4, some (.int (n : Nat)), some bv, some (.ref pg), some (.ref sh), none] ∧ SitZ K cs S b l pg sh rl dl st as gap least rows tbs H' ∧ Tl b l H' bg es (begsR rows gap least) rows.length) (fun rest => _) _
    rotate_left
    · refine ⟨_, rfl, pg, _, rfl, .inl (SqL.of o.o.pg_), rfl, ?_⟩
      rw [la]
      by_cases e : rows.length = 30
      · refine ⟨true, dT (by rw [e]; rfl), iteT ?_⟩
        have kx : KX b l H21 H21 := KX.refl
        refine ⟨o.tb _ hq, fun f_l3 d_l3 Hx1 k1 k2 t11 nf hf hc => ?_⟩
        obtain ⟨o, xx⟩ := o.lam ne hq k1 k2 t11
        have kx := kx.tr (kx_ext xx)
        have g_l3 : HfL f_l3 ⟨"<lambda>", qS, lm_l3.1, [], lm_l3.2.2, cloFrom (cxOf CX0 P w K mg base nmLaw "law" (defScope s_law) f (.ref cd) A outer s H E).nox.env.cells lm_l3.2.2.names [], d_l3⟩ lm_l3.2.1 _ := ⟨hf, hc⟩
        clear xx k1 k2 t11 nf hf hc
        refine ⟨o.tb _ hq, fun f_l4 d_l4 u_l4 Hx2 k1 k2 t11 nf hf => ?_⟩
        obtain ⟨o, xx⟩ := o.lam ne hq k1 k2 t11
        have kx := kx.tr (kx_ext xx)
        have g_l3 := HfLgw g_l3 xx
        have g_l4 : HfD f_l4 ⟨"<lambda>", qS, lm_l4.1, [], lm_l4.2.2, cloFrom (cxOf CX0 P w K mg base nmLaw "law" (defScope s_law) f (.ref cd) A outer s H E).nox.env.cells lm_l4.2.2.names [], d_l4⟩ lm_l4.2.1 u_l4 (.int 0) _ := hf
        clear xx k1 k2 t11 nf hf
        refine ⟨o.tb _ hq, fun f_l5 d_l5 u_l5 Hx3 k1 k2 t11 nf hf => ?_⟩
        obtain ⟨o, xx⟩ := o.lam ne hq k1 k2 t11
        have kx := kx.tr (kx_ext xx)
        have g_l3 := HfLgw g_l3 xx
        have g_l4 := HfDgw g_l4 xx
        have g_l5 : HfD f_l5 ⟨"<lambda>", qS, lm_l5.1, [], lm_l5.2.2, cloFrom (cxOf CX0 P w K mg base nmLaw "law" (defScope s_law) f (.ref cd) A outer s H E).nox.env.cells lm_l5.2.2.names [], d_l5⟩ lm_l5.2.1 u_l5 (.int 0) _ := hf
        clear xx k1 k2 t11 nf hf
        refine ⟨by show 3 ≤ sizeLine; decide, fun w1 nw1 => ?_⟩
        obtain ⟨o, hw1, xx⟩ := o.new (u := .lst [V.ref f_l3, V.ref f_l4, V.ref f_l5]) ne nw1
        have kx := kx.tr (kx_ext xx)
        have g_l3 := HfLgw g_l3 xx
        have g_l4 := HfDgw g_l4 xx
        have g_l5 := HfDgw g_l5 xx
        generalize upd Hx3 w1 (.lst [V.ref f_l3, V.ref f_l4, V.ref f_l5]) = Hx4 at o kx hw1 g_l3 g_l4 g_l5 ⊢
        clear xx nw1
        refine ⟨_, rfl, by show 2 ≤ sizeLine; decide, fun dd ndd cl Tc un => ?_⟩
        obtain ⟨o, hdd, xx⟩ := o.new (u := .tup [V.str "BadRow", V.int 0]) ne ndd
        have kx := kx.tr (kx_ext xx)
        have g_l3 := HfLgw g_l3 xx
        have g_l4 := HfDgw g_l4 xx
        have g_l5 := HfDgw g_l5 xx
        have hw1 := hw1.gw xx fun ps z => nomatch z
        generalize upd Hx4 dd (.tup [V.str "BadRow", V.int 0]) = HZ at o kx hdd un g_l3 g_l4 g_l5 hw1 ⊢
        clear xx ndd
        have hdd := hdd.1
        refine ⟨w1, dd, [f_l3, f_l4, f_l5], 2, 0, rfl, tabs_addC o.o.tab un, add_at un hw1.1, add_at un hdd, fun f hf => ?_, fun H' x told => ⟨true, rfl, iteF ?_⟩⟩
        rotate_left
        · have x2 := ex_del un x
          exact rest _ _ ⟨_, rfl, o.ex ne x2, tl.kx (kx.tr (kx_ext x2.ext))⟩
        have hx : ∀ {H1 : Hp}, Ex cs HZ H1 → ∃ dx as1 ts, H1 sh = some (.ins S dx [("rows", .ref rl), ("style", .ref st), ("deeds", .ref dl)]) ∧ Tabs cs H1 ∧ ShtD K S H1 sh rl dl st as1 rows gap least ts [] (avX b l fun _ => False) ∧ SitZ K cs S b l pg sh rl dl st as gap least rows tbs H1 := fun {H1} x1 => hx o x1
        simp only [List.mem_cons, List.not_mem_nil, or_false] at hf
        rcases hf with e1 | e1 | e1 <;> rw [e1]
        · refine TGK.ref_of (ws := [some (.ref sh)]) sc_l3 (fun y hy => sc_l3.free (y, .free) hy rfl) (sub_l3) Tc un rfl rfl (fun i y v q1 q2 => by
              match i, q1, q2 with
              | 0, q1, q2 => cases q1; cases q2; exact ⟨8, rfl, rfl⟩
              | i + 1, q1, _ => simp at q1) (fun H1 x => ⟨x.ext _ _ (add_at un g_l3.1) fnL_ne, x.ext _ _ (add_at un g_l3.2) LamX.codeO_ne⟩) (lok_l3 T X.cS Mput Gput bput) (fun H1 x1 _ Z E2 hE => ?_)
          obtain ⟨dx, as1, ts, hsh, hT1, hS1, hrq1⟩ := hx x1
          exact ⟨sh, dx, _, rfl, hsh, fld_no _ _ _ (by decide +kernel), fun e0 ne0 => (by
              have xl := Ex.laid (o := .tup [V.str "a"]) hT1 ne0
              obtain ⟨dx2, as2, ts2, _, hT2, hS2, _⟩ := hx (x1.trans xl)
              exact ⟨sh, e0, 30, [("a" : Str)], rfl, SqT.of upd_same, rl, dl, st, as2, rows, gap, least, ts2, [], _, hT2, hS2, by decide, (full_put (R := R) (C := C) (gap := gap) (least := least) e row_a (by omega)).ok, aft (full_put e row_a (by omega)) xl hE⟩)⟩
        · refine TGK.ref_of (ws := [some (.ref sh), some (.int (n : Nat))]) sc_l4 (fun y hy => sc_l4.free (y, .free) hy rfl) (sub_l4) Tc un rfl rfl (fun i y v q1 q2 => by
              match i, q1, q2 with
              | 0, q1, q2 => cases q1; cases q2; exact ⟨8, rfl, rfl⟩
              | 1, q1, q2 => cases q1; cases q2; exact ⟨5, rfl, rfl⟩
              | i + 2, q1, _ => simp at q1) (fun H1 x => ⟨x.ext _ _ (add_at un g_l4.1) fnD_ne, x.ext _ _ (add_at un g_l4.2.1) LamX.codeO_ne, x.tup (add_at un g_l4.2.2)⟩) (lok_l4 T X.cS Mpart Gpart bpart) (fun H1 x1 _ Z E2 hE => ?_)
          obtain ⟨dx, as1, ts, hsh, hT1, hS1, hrq1⟩ := hx x1
          exact ⟨sh, dx, _, _, rfl, hsh, fld_no _ _ _ (by decide +kernel), sh, n, 0, 0, rfl, rl, dl, st, as1, rows, gap, least, ts, [], _, hT1, hS1, by decide, (full_part (R := R) (C := C) (gap := gap) (least := least) hO e hn).ok, aft (full_part hO e hn) (Ex.refl hT1) hE⟩
        · refine TGK.ref_of (ws := [some (.ref sh), some (.int (n : Nat)), some (.ref pg)]) sc_l5 (fun y hy => sc_l5.free (y, .free) hy rfl) (sub_l5) Tc un rfl rfl (fun i y v q1 q2 => by
              match i, q1, q2 with
              | 0, q1, q2 => cases q1; cases q2; exact ⟨8, rfl, rfl⟩
              | 1, q1, q2 => cases q1; cases q2; exact ⟨5, rfl, rfl⟩
              | 2, q1, q2 => cases q1; cases q2; exact ⟨7, rfl, rfl⟩
              | i + 3, q1, _ => simp at q1) (fun H1 x => ⟨x.ext _ _ (add_at un g_l5.1) fnD_ne, x.ext _ _ (add_at un g_l5.2.1) LamX.codeO_ne, x.tup (add_at un g_l5.2.2)⟩) (lok_l5 T X.cS Mput Gput bput) (fun H1 x1 _ Z E2 hE => ?_)
          obtain ⟨dx, as1, ts, hsh, hT1, hS1, hrq1⟩ := hx x1
          exact ⟨sh, dx, _, n, pg, as, q, rfl, hsh, fld_no _ _ _ (by decide +kernel), hrq1.o.pg_, eq_, sh, q, n, r, rfl, hrq1.o.at_.row n q r eq_ er, rl, dl, st, as1, rows, gap, least, ts, [], _, hT1, hS1, by decide, (full_put (R := R) (C := C) (gap := gap) (least := least) e hrw (Nat.le_of_lt hn)).ok, aft (full_put e hrw (Nat.le_of_lt hn)) (Ex.refl hT1) hE⟩
      · refine ⟨false, dF (fun h => e (by injection h with h; exact Int.ofNat.inj h)), iteF ?_⟩
        exact rest _ _ ⟨_, rfl, o, tl⟩
    clear o tl
    rintro σ H22 ⟨c4, rfl, o, tl⟩
    -- one row
    refine' cutG _ (fun σ H' => σ = [some (.ref sc), some (.ref b), some (.ref st), some (.ref bg), c4, some (.int (n : Nat)), some bv, some (.ref pg), some (.ref sh), none] ∧ SitZ K cs S b l pg sh rl dl st as gap least rows tbs H' ∧ Tl b l H' bg es (begsR rows gap least) rows.length) (fun rest => _) _
    rotate_left
    · refine ⟨_, rfl, pg, _, rfl, .inl (SqL.of o.o.pg_), rfl, ?_⟩
      rw [la]
      by_cases e : rows.length = 1
      · refine ⟨true, dT (by rw [e]; rfl), iteT ?_⟩
        have kx : KX b l H22 H22 := KX.refl
        refine ⟨o.tb _ hq, fun f_l6 d_l6 Hx1 k1 k2 t11 nf hf hc => ?_⟩
        obtain ⟨o, xx⟩ := o.lam ne hq k1 k2 t11
        have kx := kx.tr (kx_ext xx)
        have g_l6 : HfL f_l6 ⟨"<lambda>", qS, lm_l6.1, [], lm_l6.2.2, cloFrom (cxOf CX0 P w K mg base nmLaw "law" (defScope s_law) f (.ref cd) A outer s H E).nox.env.cells lm_l6.2.2.names [], d_l6⟩ lm_l6.2.1 _ := ⟨hf, hc⟩
        clear xx k1 k2 t11 nf hf hc
        refine ⟨by show 1 ≤ sizeLine; decide, fun w1 nw1 => ?_⟩
        obtain ⟨o, hw1, xx⟩ := o.new (u := .lst [V.ref f_l6]) ne nw1
        have kx := kx.tr (kx_ext xx)
        have g_l6 := HfLgw g_l6 xx
        generalize upd Hx1 w1 (.lst [V.ref f_l6]) = Hx2 at o kx hw1 g_l6 ⊢
        clear xx nw1
        refine ⟨by show 2 ≤ sizeLine; decide, fun dd ndd cl Tc un => ?_⟩
        obtain ⟨o, hdd, xx⟩ := o.new (u := .tup [V.str "BadRow", V.int 0]) ne ndd
        have kx := kx.tr (kx_ext xx)
        have g_l6 := HfLgw g_l6 xx
        have hw1 := hw1.gw xx fun ps z => nomatch z
        generalize upd Hx2 dd (.tup [V.str "BadRow", V.int 0]) = HZ at o kx hdd un g_l6 hw1 ⊢
        clear xx ndd
        have hdd := hdd.1
        refine ⟨w1, dd, [f_l6], 2, 0, rfl, tabs_addC o.o.tab un, add_at un hw1.1, add_at un hdd, fun f hf => ?_, fun H' x told => ⟨true, rfl, iteF ?_⟩⟩
        rotate_left
        · have x2 := ex_del un x
          exact rest _ _ ⟨rfl, o.ex ne x2, tl.kx (kx.tr (kx_ext x2.ext))⟩
        have hx : ∀ {H1 : Hp}, Ex cs HZ H1 → ∃ dx as1 ts, H1 sh = some (.ins S dx [("rows", .ref rl), ("style", .ref st), ("deeds", .ref dl)]) ∧ Tabs cs H1 ∧ ShtD K S H1 sh rl dl st as1 rows gap least ts [] (avX b l fun _ => False) ∧ SitZ K cs S b l pg sh rl dl st as gap least rows tbs H1 := fun {H1} x1 => hx o x1
        rw [List.mem_singleton.mp hf]
        · refine TGK.ref_of (ws := [some (.ref sh)]) sc_l6 (fun y hy => sc_l6.free (y, .free) hy rfl) (sub_l6) Tc un rfl rfl (fun i y v q1 q2 => by
              match i, q1, q2 with
              | 0, q1, q2 => cases q1; cases q2; exact ⟨8, rfl, rfl⟩
              | i + 1, q1, _ => simp at q1) (fun H1 x => ⟨x.ext _ _ (add_at un g_l6.1) fnL_ne, x.ext _ _ (add_at un g_l6.2) LamX.codeO_ne⟩) (lok_l6 T X.cS Mtake Gtake btake) (fun H1 x1 _ Z E2 hE => ?_)
          obtain ⟨dx, as1, ts, hsh, hT1, hS1, hrq1⟩ := hx x1
          exact ⟨sh, dx, _, rfl, hsh, fld_no _ _ _ (by decide +kernel), sh, 0, rfl, rl, dl, st, as1, rows, gap, least, ts, [], _, hT1, hS1, by decide, (one_take (R := R) (C := C) (gap := gap) (least := least) e).ok, aft (one_take e) (Ex.refl hT1) hE⟩
      · refine ⟨false, dF (fun h => e (by injection h with h; exact Int.ofNat.inj h)), iteF (iteF ?_)⟩
        exact rest _ _ ⟨rfl, o, tl⟩
    clear o tl
    rintro σ H23 ⟨rfl, o, tl⟩
    -- nothing is changed
    obtain ⟨as1, ts, hS1⟩ := o.sht
    obtain ⟨dx1, hsh⟩ := o.she
    refine ⟨_, rfl, sh, dx1, _, rfl, hsh, rfl, sh, rl, dl, st, as1, rows, gap, least, ts, [], _, rfl, hS1, fun pw npw => ⟨_, rfl, ?_⟩⟩
    have xp := Ex.laid (o := .lst (as1.map V.ref)) o.o.tab npw
    have ra := hS1.at_.gw xp.ext
    have o := o.ex ne xp
    have tl := tl.kx (kx_ext xp.ext)
    refine eq_page (SqL.of upd_same) ra (SqL.of o.o.pg_) o.o.at_ hO ⟨true, rfl, iteT ?_⟩
    generalize upd H23 pw (.lst (as1.map V.ref)) = H24 at o tl ⊢
    clear xp ra hS1 hsh npw
    obtain ⟨as1, ts, hS1⟩ := o.sht
    obtain ⟨dx1, hsh⟩ := o.she
    refine ⟨_, rfl, sh, dx1, _, rfl, hsh, rfl, sh, rl, dl, st, as1, rows, gap, least, ts, [], _, rfl, o.o.tab, hS1, fun b2 es2 H25 x25 nb2 nes2 told2 => ⟨_, rfl, ?_⟩⟩
    have tl := tl.kx (kx_ext x25.ext)
    have o := o.ex ne x25
    refine eq_told told2 tl.t ⟨true, rfl, iteT ?_⟩
    clear told2 x25 nb2 nes2 hS1 hsh
    obtain ⟨as1, ts, hS1⟩ := o.sht
    obtain ⟨dx1, hsh⟩ := o.she
    refine ⟨_, rfl, sh, dx1, _, rfl, hsh, rfl, sh, rl, dl, st, as1, rows, gap, least, ts, [], _, rfl, o.o.tab, hS1, fun _ => ⟨false, false, rfl, rfl, ?_⟩, fun rows' ps' e => nomatch e⟩
    exact k _
end
end TGK

namespace TG
open PySem PySem.Spec PyProof.Rows L2 TGK
/-! ### the head -/
theorem const_of : True := trivial
theorem excCB_ok {K : PySem.W.Frag} {D : Addr} (h : excCB K D = true) : ExcC K D := by
  obtain ⟨h1, h⟩ := He.ba h
  obtain ⟨h2, h⟩ := He.ba h
  obtain ⟨h3, h⟩ := He.ba h
  obtain ⟨h4, h⟩ := He.ba h
  obtain ⟨h5, h⟩ := He.ba h
  obtain ⟨h6, h⟩ := He.ba h
  obtain ⟨h7, h8⟩ := He.ba h
  exact ⟨He.eqO_ok h1, He.eqO_ok h2, of_decide_eq_true h3, h4, He.eqO_ok h5, He.eqO_ok h6, of_decide_eq_true h7, of_decide_eq_true h8⟩
theorem errs_of {K : PySem.W.Frag} {h : Heap} {mg : Str → Option Value} (X : K.In h) (G : h.Ns mainGlobals mg) (c : He.SaysD faL fnL K) (e : errsB K = true) : Errs K mg := by
  have at_ : ∀ j, j < 11 → _ := fun j hj => List.all_eq_true.mp e j (List.mem_range.mpr hj)
  refine ⟨fun j hj => ?_, He.glo_ok X G (c.facts (by simp [faL])), fun j hj => excCB_ok (He.ba (at_ j hj)).1, fun j hj => of_decide_eq_true (He.ba (He.ba (at_ j hj)).2).1, fun j hj => of_decide_eq_true (He.ba (He.ba (He.ba (at_ j hj)).2).2).1, fun i j hi hj => ?_, fun j hj hn => ?_, He.free_ok X G (c.facts (by simp [faL]))⟩
  · have : ∀ x ∈ excNm, mg x = some (.ref (He.ga K x)) := by
      intro x hx
      simp only [excNm, List.mem_cons, List.not_mem_nil, or_false] at hx
      rcases hx with rfl | rfl | rfl | rfl | rfl | rfl | rfl | rfl | rfl | rfl | rfl <;> exact He.glo_ok X G (c.facts (by simp [faL]))
    refine this _ ?_
    have h2 : j < excNm.length := hj
    simp only [nmE, List.getD, List.getElem?_eq_getElem h2, Option.getD_some]
    exact List.getElem_mem h2
  · have z := (He.ba (He.ba (He.ba (He.ba (at_ i hi)).2).2).2).1
    exact of_decide_eq_true (List.all_eq_true.mp z j (List.mem_range.mpr hj))
  · have z := (He.ba (He.ba (He.ba (He.ba (at_ j hj)).2).2).2).2
    rcases Bool.or_eq_true_iff.mp z with q | q
    · exact absurd (of_decide_eq_true q) hn
    · exact He.eqO_ok q
theorem subL {K : PySem.W.Frag} {q : Addr × Addr} (h : q ∈ tfB.map (He.cT K)) : q ∈ tfL.map (He.cT K) := by
  unfold tfL
  rw [List.map_append]
  exact List.mem_append_left _ h
theorem memL {K : PySem.W.Frag} {r : He.Defn} (h : r ∈ lmL) : He.cT K r ∈ tfL.map (He.cT K) := by
  unfold tfL
  rw [List.map_append]
  exact List.mem_append_right _ (List.mem_map_of_mem h)
theorem ne_of_ex {K : PySem.W.Frag} (h : exL K = true) {r : He.Defn} (hr : r ∈ lmL) : Apart (tfB.map (He.cT K)) (He.cT K r).2 := fun q hq => by
  obtain ⟨d, hd, rfl⟩ := List.mem_map.mp hq
  have z := (Bool.and_eq_true_iff.mp (List.all_eq_true.mp h r hr)).1
  have z := List.all_eq_true.mp z d hd
  simpa using z
theorem ne_of_ex2 {K : PySem.W.Frag} (h : exL K = true) {r q : He.Defn} (hr : r ∈ lmL) (hq : q ∈ lmL) (n : q ≠ r) : (He.cT K q).2 ≠ (He.cT K r).2 := by
  have z := (Bool.and_eq_true_iff.mp (List.all_eq_true.mp h r hr)).2
  have z := List.all_eq_true.mp z q hq
  simpa [n] using z
theorem fun_of {K : PySem.W.Frag} {x : Str} {st : Stmt} {f : Addr} {fd : FuncData} (F : FunD K x x (defArgs st) (defBody st) (defScope st) [] [] f fd) : Fun K x x st f fd := by
  obtain ⟨⟨oc, od, dV, kV, doc, pm, an, cdv, ct, osl, e, lk, hcd, hd, _⟩, kp⟩ := F
  rcases hd with ⟨_, hd⟩ | ⟨hd, _⟩
  · subst hd
    exact ⟨⟨oc, od, kV, doc, pm, an, cdv, ct, osl, e, lk, hcd⟩, kp⟩
  · exact absurd rfl hd
/-- a def of the top, by its name -/
structure At (K : PySem.W.Frag) (mg : Str → Option Value) (x : Str) (st : Stmt) (fd : FuncData) : Prop where
  mg_ : mg x = some (.ref (He.ga K x))
  fn : Fun K x x st (He.ga K x) fd
theorem At.kp {K : PySem.W.Frag} {mg : Str → Option Value} {x : Str} {st : Stmt} {fd : FuncData} (a : At K mg x st fd) : PySem.W.keepIn K (.ref (He.ga K x)) = true := a.fn.kp
theorem fun_ofm {K : PySem.W.Frag} {x q : Str} {st : Stmt} {f : Addr} {fd : FuncData} (F : FunD K x q (defArgs st) (defBody st) (defScope st) [] [] f fd) : Fun K x q st f fd := by
  obtain ⟨⟨oc, od, dV, kV, doc, pm, an, cdv, ct, osl, e, lk, hcd, hd, _⟩, kp⟩ := F
  rcases hd with ⟨_, hd⟩ | ⟨hd, _⟩
  · subst hd
    exact ⟨⟨oc, od, kV, doc, pm, an, cdv, ct, osl, e, lk, hcd⟩, kp⟩
  · exact absurd rfl hd
theorem atm_of {fa : List He.Fa} {fn : List He.DefD} {K : PySem.W.Frag} (c : He.SaysD fa fn K) {k i : Nat} {C m : Str} (hd : dm k i C m ∈ fn) : ∃ fd, Fun K m (C ++ "." ++ m) (mth k i) (He.ma K (He.ga K C) m) fd := by
  obtain ⟨fd, F⟩ := c.defs hd
  exact ⟨fd, fun_ofm F⟩
theorem at_of {fa : List He.Fa} {fn : List He.DefD} {K : PySem.W.Frag} {h : Heap} {mg : Str → Option Value} (X : K.In h) (G : h.Ns mainGlobals mg) (c : He.SaysD fa fn K) {i : Nat} {x : Str} (hd : dd i x ∈ fn) (hf : He.Fa.glo x ∈ fa) : ∃ fd, At K mg x (top i) fd := by
  obtain ⟨fd, F⟩ := c.defs hd
  exact ⟨fd, He.glo_ok X G (c.facts hf), fun_of F⟩
theorem code_of {K : PySem.W.Frag} {mg : Str → Option Value} {x : Str} {st : Stmt} {fd : FuncData} (a : At K mg x st fd) : fd.code = .ref (He.cT K (x, none)).1 := by
  obtain ⟨oc, od, kV, doc, pm, an, cdv, ct, osl, e, lk, hcd⟩ := a.fn.ex
  obtain ⟨c, hc⟩ := He.codeIn_ref hcd
  have e2 : fd.code = .ref c := by rw [e, ← hc]
  have e3 : He.codeOf K (x, none) = c := He.codeOf_eq (p := (x, none)) lk e2
  show fd.code = .ref (He.codeOf K (x, none))
  rw [e3, e2]
theorem tab_conv {base : Heap} {mg : Str → Option Value} {c P : Addr} (t : LamX.TabB base mg c P) : GxR.TabB base mg c P := ⟨t.code, t.bm, t.gP⟩

theorem txt_of {K : PySem.W.Frag} {h : Heap} {mg : Str → Option Value} (X : K.In h) (G : h.Ns mainGlobals mg) (c : He.SaysD faL fnL K) : Txt mg := by
  constructor
  all_goals exact He.free_ok X G (c.facts (by simp [faL]))
theorem consts_of {K : PySem.W.Frag} {h : Heap} {mg : Str → Option Value} (X : K.In h) (G : h.Ns mainGlobals mg) (c : He.SaysD faL fnL K) : Consts mg := by
  constructor
  all_goals exact He.int_ok X G (c.facts (by simp [faL]))
theorem triples_nil : TriplesOk (#[] : Array Value).toList := trivial
theorem facts {w : World} {K : PySem.W.Frag} {h : Heap} {mg : Str → Option Value} {f : Addr} (X : K.In h) (G : h.Ns mainGlobals mg) (hfa : mg ("law" : Str) = some (.ref f)) (c : He.SaysX faL fnL [] tfL exC w h K) :
    LamX.LawAtS PySem.Challenge.rw_tabgrow_k12_sheets_refused w K CX0 22 63 "_law_script" mg f h := by
  have cd := c.t.d
  have T := txt_of X G cd
  have N := consts_of X G cd
  obtain ⟨me, mf⟩ := He.ba c.more
  have ne0 := ne_of_ex me (r := ("_law_numbers", none)) (by simp [lmL])
  have ne1 := ne_of_ex me (r := ("_law_places", none)) (by simp [lmL])
  have ne2 := ne_of_ex me (r := ("_law_row_full", none)) (by simp [lmL])
  have ne := ne_of_ex me (r := ("law", none)) (by simp [lmL])
  have nn01 := ne_of_ex2 me (r := ("_law_numbers", none)) (q := ("_law_places", none)) (by simp [lmL]) (by simp [lmL]) (by decide)
  have nn02 := ne_of_ex2 me (r := ("_law_numbers", none)) (q := ("_law_row_full", none)) (by simp [lmL]) (by simp [lmL]) (by decide)
  have nn03 := ne_of_ex2 me (r := ("_law_numbers", none)) (q := ("law", none)) (by simp [lmL]) (by simp [lmL]) (by decide)
  have nn10 := ne_of_ex2 me (r := ("_law_places", none)) (q := ("_law_numbers", none)) (by simp [lmL]) (by simp [lmL]) (by decide)
  have nn12 := ne_of_ex2 me (r := ("_law_places", none)) (q := ("_law_row_full", none)) (by simp [lmL]) (by simp [lmL]) (by decide)
  have nn13 := ne_of_ex2 me (r := ("_law_places", none)) (q := ("law", none)) (by simp [lmL]) (by simp [lmL]) (by decide)
  have nn20 := ne_of_ex2 me (r := ("_law_row_full", none)) (q := ("_law_numbers", none)) (by simp [lmL]) (by simp [lmL]) (by decide)
  have nn21 := ne_of_ex2 me (r := ("_law_row_full", none)) (q := ("_law_places", none)) (by simp [lmL]) (by simp [lmL]) (by decide)
  have nn23 := ne_of_ex2 me (r := ("_law_row_full", none)) (q := ("law", none)) (by simp [lmL]) (by simp [lmL]) (by decide)
  have nn30 := ne_of_ex2 me (r := ("law", none)) (q := ("_law_numbers", none)) (by simp [lmL]) (by simp [lmL]) (by decide)
  have nn31 := ne_of_ex2 me (r := ("law", none)) (q := ("_law_places", none)) (by simp [lmL]) (by simp [lmL]) (by decide)
  have nn32 := ne_of_ex2 me (r := ("law", none)) (q := ("_law_row_full", none)) (by simp [lmL]) (by simp [lmL]) (by decide)
  have hz : mg "zip" = none := He.free_ok X G (cd.facts (by simp [faL]))
  have hz_ValueError : mg "ValueError" = none := He.free_ok X G (cd.facts (by simp [faL]))
  obtain ⟨d23, a23⟩ := at_of X G cd (i := 23) (x := "is_whole") (by simp [fnL]) (by simp [faL])
  have b23 := a23.fn.binds (ps := ["value", "low", "high"]) fun _ _ _ _ _ _ us hl => match us, hl with | [_, _, _], _ => rfl
  obtain ⟨d24, a24⟩ := at_of X G cd (i := 24) (x := "is_sign") (by simp [fnL]) (by simp [faL])
  have b24 := a24.fn.binds (ps := ["sign"]) fun _ _ _ _ _ _ us hl => match us, hl with | [_], _ => rfl
  obtain ⟨d25, a25⟩ := at_of X G cd (i := 25) (x := "is_text_of_signs") (by simp [fnL]) (by simp [faL])
  have b25 := a25.fn.binds (ps := ["value", "most"]) fun _ _ _ _ _ _ us hl => match us, hl with | [_, _], _ => rfl
  obtain ⟨d26, a26⟩ := at_of X G cd (i := 26) (x := "is_filled") (by simp [fnL]) (by simp [faL])
  have b26 := a26.fn.binds (ps := ["value", "most"]) fun _ _ _ _ _ _ us hl => match us, hl with | [_, _], _ => rfl
  obtain ⟨d27, a27⟩ := at_of X G cd (i := 27) (x := "is_row") (by simp [fnL]) (by simp [faL])
  have b27 := a27.fn.binds (ps := ["value"]) fun _ _ _ _ _ _ us hl => match us, hl with | [_], _ => rfl
  obtain ⟨d28, a28⟩ := at_of X G cd (i := 28) (x := "first_misfit") (by simp [fnL]) (by simp [faL])
  have b28 := a28.fn.binds (ps := ["rows"]) fun _ _ _ _ _ _ us hl => match us, hl with | [_], _ => rfl
  obtain ⟨d29, a29⟩ := at_of X G cd (i := 29) (x := "check_page") (by simp [fnL]) (by simp [faL])
  have b29 := a29.fn.binds (ps := ["page"]) fun _ _ _ _ _ _ us hl => match us, hl with | [_], _ => rfl
  obtain ⟨d30, a30⟩ := at_of X G cd (i := 30) (x := "check_row") (by simp [fnL]) (by simp [faL])
  have b30 := a30.fn.binds (ps := ["row"]) fun _ _ _ _ _ _ us hl => match us, hl with | [_], _ => rfl
  obtain ⟨d31, a31⟩ := at_of X G cd (i := 31) (x := "check_style") (by simp [fnL]) (by simp [faL])
  have b31 := a31.fn.binds (ps := ["style"]) fun _ _ _ _ _ _ us hl => match us, hl with | [_], _ => rfl
  obtain ⟨d33, a33⟩ := at_of X G cd (i := 33) (x := "stretches") (by simp [fnL]) (by simp [faL])
  have b33 := a33.fn.binds (ps := ["page", "style"]) fun _ _ _ _ _ _ us hl => match us, hl with | [_, _], _ => rfl
  obtain ⟨d34, a34⟩ := at_of X G cd (i := 34) (x := "closed_runs") (by simp [fnL]) (by simp [faL])
  have b34 := a34.fn.binds (ps := ["page", "column"]) fun _ _ _ _ _ _ us hl => match us, hl with | [_, _], _ => rfl
  obtain ⟨d35, a35⟩ := at_of X G cd (i := 35) (x := "is_closed") (by simp [fnL]) (by simp [faL])
  have b35 := a35.fn.binds (ps := ["row", "column"]) fun _ _ _ _ _ _ us hl => match us, hl with | [_, _], _ => rfl
  obtain ⟨d36, a36⟩ := at_of X G cd (i := 36) (x := "described") (by simp [fnL]) (by simp [faL])
  have b36 := a36.fn.binds (ps := ["page", "style", "column", "begin", "end"]) fun _ _ _ _ _ _ us hl => match us, hl with | [_, _, _, _, _], _ => rfl
  obtain ⟨d37, a37⟩ := at_of X G cd (i := 37) (x := "stands_right") (by simp [fnL]) (by simp [faL])
  have b37 := a37.fn.binds (ps := ["cells"]) fun _ _ _ _ _ _ us hl => match us, hl with | [_], _ => rfl
  obtain ⟨d38, a38⟩ := at_of X G cd (i := 38) (x := "is_figures") (by simp [fnL]) (by simp [faL])
  have b38 := a38.fn.binds (ps := ["cell"]) fun _ _ _ _ _ _ us hl => match us, hl with | [_], _ => rfl
  obtain ⟨d40, a40⟩ := at_of X G cd (i := 40) (x := "laid") (by simp [fnL]) (by simp [faL])
  have b40 := a40.fn.binds (ps := ["page", "style"]) fun _ _ _ _ _ _ us hl => match us, hl with | [_, _], _ => rfl
  obtain ⟨d41, a41⟩ := at_of X G cd (i := 41) (x := "closed_cells") (by simp [fnL]) (by simp [faL])
  have b41 := a41.fn.binds (ps := ["page", "style"]) fun _ _ _ _ _ _ us hl => match us, hl with | [_, _], _ => rfl
  obtain ⟨d42, a42⟩ := at_of X G cd (i := 42) (x := "left_ends") (by simp [fnL]) (by simp [faL])
  have b42 := a42.fn.binds (ps := ["closed"]) fun _ _ _ _ _ _ us hl => match us, hl with | [_], _ => rfl
  obtain ⟨d43, a43⟩ := at_of X G cd (i := 43) (x := "begins_of") (by simp [fnL]) (by simp [faL])
  have b43 := a43.fn.binds (ps := ["row", "closed", "gap"]) fun _ _ _ _ _ _ us hl => match us, hl with | [_, _, _], _ => rfl
  obtain ⟨d46, a46⟩ := at_of X G cd (i := 46) (x := "check_number") (by simp [fnL]) (by simp [faL])
  have b46 := a46.fn.binds (ps := ["number", "last"]) fun _ _ _ _ _ _ us hl => match us, hl with | [_, _], _ => rfl
  obtain ⟨d47, a47⟩ := at_of X G cd (i := 47) (x := "check_sign") (by simp [fnL]) (by simp [faL])
  have b47 := a47.fn.binds (ps := ["sign"]) fun _ _ _ _ _ _ us hl => match us, hl with | [_], _ => rfl
  obtain ⟨d48, a48⟩ := at_of X G cd (i := 48) (x := "check_fits") (by simp [fnL]) (by simp [faL])
  have b48 := a48.fn.binds (ps := ["many", "rows"]) fun _ _ _ _ _ _ us hl => match us, hl with | [_, _], _ => rfl
  obtain ⟨d49, a49⟩ := at_of X G cd (i := 49) (x := "halves") (by simp [fnL]) (by simp [faL])
  have b49 := a49.fn.binds (ps := ["rows", "number", "cell", "place"]) fun _ _ _ _ _ _ us hl => match us, hl with | [_, _, _, _], _ => rfl
  obtain ⟨d50, a50⟩ := at_of X G cd (i := 50) (x := "joined") (by simp [fnL]) (by simp [faL])
  have b50 := a50.fn.binds (ps := ["ahead", "behind"]) fun _ _ _ _ _ _ us hl => match us, hl with | [_, _], _ => rfl
  obtain ⟨d51, a51⟩ := at_of X G cd (i := 51) (x := "without_first") (by simp [fnL]) (by simp [faL])
  have b51 := a51.fn.binds (ps := ["row"]) fun _ _ _ _ _ _ us hl => match us, hl with | [_], _ => rfl
  obtain ⟨d52, a52⟩ := at_of X G cd (i := 52) (x := "moved") (by simp [fnL]) (by simp [faL])
  have b52 := a52.fn.binds (ps := ["before", "after", "others"]) fun _ _ _ _ _ _ us hl => match us, hl with | [_, _, _], _ => rfl
  obtain ⟨d54, a54⟩ := at_of X G cd (i := 54) (x := "_law_begun") (by simp [fnL]) (by simp [faL])
  have b54 := a54.fn.binds (ps := ["_law_script"]) fun _ _ _ _ _ _ us hl => match us, hl with | [_], _ => rfl
  obtain ⟨d55, a55⟩ := at_of X G cd (i := 55) (x := "_law_take") (by simp [fnL]) (by simp [faL])
  have b55 := a55.fn.binds (ps := ["_law_box", "_law_many"]) fun _ _ _ _ _ _ us hl => match us, hl with | [_, _], _ => rfl
  obtain ⟨d56, a56⟩ := at_of X G cd (i := 56) (x := "_law_alike") (by simp [fnL]) (by simp [faL])
  have b56 := a56.fn.binds (ps := ["_law_found", "_law_due"]) fun _ _ _ _ _ _ us hl => match us, hl with | [_, _], _ => rfl
  obtain ⟨d57, a57⟩ := at_of X G cd (i := 57) (x := "_law_told") (by simp [fnL]) (by simp [faL])
  have b57 := a57.fn.binds (ps := ["_law_work"]) fun _ _ _ _ _ _ us hl => match us, hl with | [_], _ => rfl
  obtain ⟨d58, a58⟩ := at_of X G cd (i := 58) (x := "_law_all") (by simp [fnL]) (by simp [faL])
  have b58 := a58.fn.binds (ps := ["_law_works", "_law_due"]) fun _ _ _ _ _ _ us hl => match us, hl with | [_, _], _ => rfl
  obtain ⟨d59, a59⟩ := at_of X G cd (i := 59) (x := "_law_sign") (by simp [fnL]) (by simp [faL])
  have b59 := a59.fn.binds (ps := ["_law_box"]) fun _ _ _ _ _ _ us hl => match us, hl with | [_], _ => rfl
  obtain ⟨d60, a60⟩ := at_of X G cd (i := 60) (x := "_law_cell") (by simp [fnL]) (by simp [faL])
  have b60 := a60.fn.binds (ps := ["_law_box", "_law_sort"]) fun _ _ _ _ _ _ us hl => match us, hl with | [_, _], _ => rfl
  obtain ⟨d61, a61⟩ := at_of X G cd (i := 61) (x := "_law_row") (by simp [fnL]) (by simp [faL])
  have b61 := a61.fn.binds (ps := ["_law_box", "_law_sorts", "_law_many"]) fun _ _ _ _ _ _ us hl => match us, hl with | [_, _, _], _ => rfl
  obtain ⟨d62, a62⟩ := at_of X G cd (i := 62) (x := "_law_page") (by simp [fnL]) (by simp [faL])
  have b62 := a62.fn.binds (ps := ["_law_box", "_law_most"]) fun _ _ _ _ _ _ us hl => match us, hl with | [_, _], _ => rfl
  obtain ⟨d63, a63⟩ := at_of X G cd (i := 63) (x := "_law_style") (by simp [fnL]) (by simp [faL])
  have b63 := a63.fn.binds (ps := ["_law_box"]) fun _ _ _ _ _ _ us hl => match us, hl with | [_], _ => rfl
  obtain ⟨d64, a64⟩ := at_of X G cd (i := 64) (x := "_law_bad_cell") (by simp [fnL]) (by simp [faL])
  have b64 := a64.fn.binds (ps := ["_law_box"]) fun _ _ _ _ _ _ us hl => match us, hl with | [_], _ => rfl
  obtain ⟨d65, a65⟩ := at_of X G cd (i := 65) (x := "_law_bad_row") (by simp [fnL]) (by simp [faL])
  have b65 := a65.fn.binds (ps := ["_law_box", "_law_row_here"]) fun _ _ _ _ _ _ us hl => match us, hl with | [_, _], _ => rfl
  obtain ⟨d66, a66⟩ := at_of X G cd (i := 66) (x := "_law_numbers") (by simp [fnL]) (by simp [faL])
  have b66 := a66.fn.binds (ps := ["_law_box", "_law_sheet", "_law_many"]) fun _ _ _ _ _ _ us hl => match us, hl with | [_, _, _], _ => rfl
  obtain ⟨d67, a67⟩ := at_of X G cd (i := 67) (x := "_law_places") (by simp [fnL]) (by simp [faL])
  have b67 := a67.fn.binds (ps := ["_law_box", "_law_sheet", "_law_rows"]) fun _ _ _ _ _ _ us hl => match us, hl with | [_, _, _], _ => rfl
  obtain ⟨d68, a68⟩ := at_of X G cd (i := 68) (x := "_law_row_full") (by simp [fnL]) (by simp [faL])
  have b68 := a68.fn.binds (ps := ["_law_box", "_law_sheet", "_law_rows", "_law_number"]) fun _ _ _ _ _ _ us hl => match us, hl with | [_, _, _, _], _ => rfl
  obtain ⟨d69, a69⟩ := at_of X G cd (i := 69) (x := "law") (by simp [fnL]) (by simp [faL])
  have b69 := a69.fn.binds (ps := ["_law_script"]) fun _ _ _ _ _ _ us hl => match us, hl with | [_], _ => rfl
  have hf : ∀ {x : He.Fa}, x ∈ faL → He.Fa.ok K x = true := fun h => cd.facts h
  have Xc : TGK.ShC K (He.ga K "Sheet") := ⟨He.cls_ok (hf (x := .cls "Sheet") (by simp [faL])), He.noat_ok (hf (x := .noat "Sheet" "rows") (by simp [faL])), He.noat_ok (hf (x := .noat "Sheet" "style") (by simp [faL])), He.noat_ok (hf (x := .noat "Sheet" "deeds") (by simp [faL]))⟩
  have eR := He.exc_ok (hf (x := .exc "BadRow") (by simp [faL]))
  have eC := He.exc_ok (hf (x := .exc "BadCell") (by simp [faL]))
  have Es : TGK.SErr K mg (He.ga K "BadRow") (He.ga K "BadCell") (He.ga K "GrowError") := ⟨⟨He.glo_ok X G (hf (x := .glo "BadRow") (by simp [faL])), eR.1, eR.2.1, eR.2.2.1, eR.2.2.2, He.exm_ok (hf (x := .exm "BadRow" "GrowError" true) (by simp [faL]))⟩, ⟨He.glo_ok X G (hf (x := .glo "BadCell") (by simp [faL])), eC.1, eC.2.1, eC.2.2.1, eC.2.2.2, He.exm_ok (hf (x := .exm "BadCell" "GrowError" true) (by simp [faL]))⟩, He.glo_ok X G (hf (x := .glo "GrowError") (by simp [faL]))⟩
  have eT : ∃ t, mg "TAB" = some (.str tabS t) := He.str_ok X G (hf (x := .str "TAB" "\t") (by simp [faL]))
  have gS : mg "Sheet" = some (.ref (He.ga K "Sheet")) := He.glo_ok X G (hf (x := .glo "Sheet") (by simp [faL]))
  have Ers := errs_of X G cd mf
  obtain ⟨d_Sheet_init, a_Sheet_init⟩ := atm_of cd (k := 45) (i := 0) (C := "Sheet") (m := "__init__") (by simp [fnL])
  have b_Sheet_init := a_Sheet_init.binds (ps := ["self", "page", "style"]) fun _ _ _ _ _ _ us hl => match us, hl with | [_, _, _], _ => rfl
  have mk_Sheet : Mk K (He.ga K "Sheet") (He.ma K (He.ga K "Sheet") "__init__") := He.mkr_ok (hf (x := .mkr "Sheet") (by simp [faL]))
  obtain ⟨d_Sheet_put, a_Sheet_put⟩ := atm_of cd (k := 45) (i := 1) (C := "Sheet") (m := "put") (by simp [fnL])
  have b_Sheet_put := a_Sheet_put.binds (ps := ["self", "number", "row"]) fun _ _ _ _ _ _ us hl => match us, hl with | [_, _, _], _ => rfl
  have m_Sheet_put : Meth K (He.ga K "Sheet") "put" (He.ma K (He.ga K "Sheet") "put") := He.meth_ok (hf (x := .meth "Sheet" "put") (by simp [faL]))
  obtain ⟨d_Sheet_take, a_Sheet_take⟩ := atm_of cd (k := 45) (i := 2) (C := "Sheet") (m := "take") (by simp [fnL])
  have b_Sheet_take := a_Sheet_take.binds (ps := ["self", "number"]) fun _ _ _ _ _ _ us hl => match us, hl with | [_, _], _ => rfl
  have m_Sheet_take : Meth K (He.ga K "Sheet") "take" (He.ma K (He.ga K "Sheet") "take") := He.meth_ok (hf (x := .meth "Sheet" "take") (by simp [faL]))
  obtain ⟨d_Sheet_change, a_Sheet_change⟩ := atm_of cd (k := 45) (i := 3) (C := "Sheet") (m := "change") (by simp [fnL])
  have b_Sheet_change := a_Sheet_change.binds (ps := ["self", "number", "row"]) fun _ _ _ _ _ _ us hl => match us, hl with | [_, _, _], _ => rfl
  have m_Sheet_change : Meth K (He.ga K "Sheet") "change" (He.ma K (He.ga K "Sheet") "change") := He.meth_ok (hf (x := .meth "Sheet" "change") (by simp [faL]))
  obtain ⟨d_Sheet_strike, a_Sheet_strike⟩ := atm_of cd (k := 45) (i := 4) (C := "Sheet") (m := "strike") (by simp [fnL])
  have b_Sheet_strike := a_Sheet_strike.binds (ps := ["self", "number", "cell", "place", "sign"]) fun _ _ _ _ _ _ us hl => match us, hl with | [_, _, _, _, _], _ => rfl
  have m_Sheet_strike : Meth K (He.ga K "Sheet") "strike" (He.ma K (He.ga K "Sheet") "strike") := He.meth_ok (hf (x := .meth "Sheet" "strike") (by simp [faL]))
  obtain ⟨d_Sheet_erase, a_Sheet_erase⟩ := atm_of cd (k := 45) (i := 5) (C := "Sheet") (m := "erase") (by simp [fnL])
  have b_Sheet_erase := a_Sheet_erase.binds (ps := ["self", "number", "cell", "place"]) fun _ _ _ _ _ _ us hl => match us, hl with | [_, _, _, _], _ => rfl
  have m_Sheet_erase : Meth K (He.ga K "Sheet") "erase" (He.ma K (He.ga K "Sheet") "erase") := He.meth_ok (hf (x := .meth "Sheet" "erase") (by simp [faL]))
  obtain ⟨d_Sheet_part, a_Sheet_part⟩ := atm_of cd (k := 45) (i := 6) (C := "Sheet") (m := "part") (by simp [fnL])
  have b_Sheet_part := a_Sheet_part.binds (ps := ["self", "number", "cell", "place"]) fun _ _ _ _ _ _ us hl => match us, hl with | [_, _, _, _], _ => rfl
  have m_Sheet_part : Meth K (He.ga K "Sheet") "part" (He.ma K (He.ga K "Sheet") "part") := He.meth_ok (hf (x := .meth "Sheet" "part") (by simp [faL]))
  obtain ⟨d_Sheet_unite, a_Sheet_unite⟩ := atm_of cd (k := 45) (i := 7) (C := "Sheet") (m := "unite") (by simp [fnL])
  have b_Sheet_unite := a_Sheet_unite.binds (ps := ["self", "number"]) fun _ _ _ _ _ _ us hl => match us, hl with | [_, _], _ => rfl
  have m_Sheet_unite : Meth K (He.ga K "Sheet") "unite" (He.ma K (He.ga K "Sheet") "unite") := He.meth_ok (hf (x := .meth "Sheet" "unite") (by simp [faL]))
  obtain ⟨d_Sheet_back, a_Sheet_back⟩ := atm_of cd (k := 45) (i := 8) (C := "Sheet") (m := "back") (by simp [fnL])
  have b_Sheet_back := a_Sheet_back.binds (ps := ["self"]) fun _ _ _ _ _ _ us hl => match us, hl with | [_], _ => rfl
  have m_Sheet_back : Meth K (He.ga K "Sheet") "back" (He.ma K (He.ga K "Sheet") "back") := He.meth_ok (hf (x := .meth "Sheet" "back") (by simp [faL]))
  obtain ⟨d_Sheet_page, a_Sheet_page⟩ := atm_of cd (k := 45) (i := 9) (C := "Sheet") (m := "page") (by simp [fnL])
  have b_Sheet_page := a_Sheet_page.binds (ps := ["self"]) fun _ _ _ _ _ _ us hl => match us, hl with | [_], _ => rfl
  have m_Sheet_page : Meth K (He.ga K "Sheet") "page" (He.ma K (He.ga K "Sheet") "page") := He.meth_ok (hf (x := .meth "Sheet" "page") (by simp [faL]))
  obtain ⟨d_Sheet_begins, a_Sheet_begins⟩ := atm_of cd (k := 45) (i := 10) (C := "Sheet") (m := "begins") (by simp [fnL])
  have b_Sheet_begins := a_Sheet_begins.binds (ps := ["self"]) fun _ _ _ _ _ _ us hl => match us, hl with | [_], _ => rfl
  have m_Sheet_begins : Meth K (He.ga K "Sheet") "begins" (He.ma K (He.ga K "Sheet") "begins") := He.meth_ok (hf (x := .meth "Sheet" "begins") (by simp [faL]))
  obtain ⟨d_Sheet_lay, a_Sheet_lay⟩ := atm_of cd (k := 45) (i := 11) (C := "Sheet") (m := "lay") (by simp [fnL])
  have b_Sheet_lay := a_Sheet_lay.binds (ps := ["self", "number", "many", "rows"]) fun _ _ _ _ _ _ us hl => match us, hl with | [_, _, _, _], _ => rfl
  have m_Sheet_lay : Meth K (He.ga K "Sheet") "lay" (He.ma K (He.ga K "Sheet") "lay") := He.meth_ok (hf (x := .meth "Sheet" "lay") (by simp [faL]))
  have e := hfa.symm.trans a69.mg_
  cases e
  refine ⟨d69, tfL.map (He.cT K), spLaw K (tfB.map (He.cT K)) (He.cT K ("_law_numbers", none)).2 (He.cT K ("_law_places", none)).2 (He.cT K ("_law_row_full", none)).2 (He.cT K ("law", none)).2, fun p hp => ?_, fun p hp => ?_, fun p hp => ?_, fun s u => ?_, fun H a ns hl _ hT hS => ⟨a, ns, rfl, fun p hp => ⟨_, hT p (subL hp), triples_nil⟩, LamX.TabS.nil (hT _ (memL (r := ("_law_numbers", none)) (by simp [lmL]))), LamX.TabS.nil (hT _ (memL (r := ("_law_places", none)) (by simp [lmL]))), LamX.TabS.nil (hT _ (memL (r := ("_law_row_full", none)) (by simp [lmL]))), LamX.TabS.nil (hT _ (memL (r := ("law", none)) (by simp [lmL]))), hS, hl, fun _ => rfl⟩, fun base KB _ TB => ?_⟩
  · obtain ⟨p', hp', rfl⟩ := List.mem_map.mp hp
    exact c.empty p' hp'
  · obtain ⟨p', hp', rfl⟩ := List.mem_map.mp hp
    exact c.out p' hp'
  · obtain ⟨p', hp', rfl⟩ := List.mem_map.mp hp
    exact PySem.W.codeHd_of_K X (c.hd p' hp')
  · obtain ⟨oc, od, kV, doc, pm, an, cdv, ct, osl, e, _, _⟩ := a69.fn.ex
    rw [e]
    exact .of_eq rfl
  have m25 : He.cT K ("is_text_of_signs", none) ∈ tfB.map (He.cT K) := List.mem_map.mpr ⟨_, by simp [tfB], rfl⟩
  have t25 := tab_conv (TB _ (subL m25))
  have m27 : He.cT K ("is_row", none) ∈ tfB.map (He.cT K) := List.mem_map.mpr ⟨_, by simp [tfB], rfl⟩
  have t27 := tab_conv (TB _ (subL m27))
  have m33 : He.cT K ("stretches", none) ∈ tfB.map (He.cT K) := List.mem_map.mpr ⟨_, by simp [tfB], rfl⟩
  have t33 := tab_conv (TB _ (subL m33))
  have m36 : He.cT K ("described", none) ∈ tfB.map (He.cT K) := List.mem_map.mpr ⟨_, by simp [tfB], rfl⟩
  have t36 := tab_conv (TB _ (subL m36))
  have m37 : He.cT K ("stands_right", none) ∈ tfB.map (He.cT K) := List.mem_map.mpr ⟨_, by simp [tfB], rfl⟩
  have t37 := tab_conv (TB _ (subL m37))
  have g54 := ok_begun (P := PySem.Challenge.rw_tabgrow_k12_sheets_refused.prog) (w := w) (base := base) (mg := mg) T a54.fn 
  have g55 := ok_take (P := PySem.Challenge.rw_tabgrow_k12_sheets_refused.prog) (w := w) (base := base) (mg := mg)  a55.fn 
  have g55_W := ok_takeW (P := PySem.Challenge.rw_tabgrow_k12_sheets_refused.prog) (w := w) (base := base) (mg := mg)  a55.fn 
  have g59 := ok_sign (P := PySem.Challenge.rw_tabgrow_k12_sheets_refused.prog) (w := w) (base := base) (mg := mg)  a59.fn g55 a55.kp b55 a55.mg_
  have g60 := ok_cell (P := PySem.Challenge.rw_tabgrow_k12_sheets_refused.prog) (w := w) (base := base) (mg := mg) T a60.fn g55 a55.kp b55 a55.mg_ g59 a59.kp b59 a59.mg_
  have g61 := ok_lrow (P := PySem.Challenge.rw_tabgrow_k12_sheets_refused.prog) (w := w) (base := base) (mg := mg) T a61.fn g60 a60.kp b60 a60.mg_
  have g62 := ok_lpage (P := PySem.Challenge.rw_tabgrow_k12_sheets_refused.prog) (w := w) (base := base) (mg := mg) T a62.fn g55 a55.kp b55 a55.mg_ g61 a61.kp b61 a61.mg_
  have g63 := ok_lstyle (P := PySem.Challenge.rw_tabgrow_k12_sheets_refused.prog) (w := w) (base := base) (mg := mg)  a63.fn g55 a55.kp b55 a55.mg_
  have g56 := ok_alike (P := PySem.Challenge.rw_tabgrow_k12_sheets_refused.prog) (w := w) (base := base) (mg := mg) T a56.fn b56 a56.mg_ 4
  have g64 := TGK.ok_badC (P := PySem.Challenge.rw_tabgrow_k12_sheets_refused.prog) (w := w) (base := base) (mg := mg) T a64.fn g55_W a55.kp b55 a55.mg_
  have g65 := TGK.ok_badR (P := PySem.Challenge.rw_tabgrow_k12_sheets_refused.prog) (w := w) (base := base) (mg := mg) T a65.fn g55_W a55.kp b55 a55.mg_ g64 a64.kp b64 a64.mg_
  have g57 := ok_tellsW (P := PySem.Challenge.rw_tabgrow_k12_sheets_refused.prog) (w := w) (base := base) (mg := mg) (cs := tfB.map (He.cT K)) (kl := 18) T Ers a57.fn 
  have g58 := ok_allW (P := PySem.Challenge.rw_tabgrow_k12_sheets_refused.prog) (w := w) (base := base) (mg := mg) (kl := 18) (by decide) a58.fn g56 a56.kp b56 a56.mg_ g57 a57.kp b57 a57.mg_
  have g24 := ok_sg (P := PySem.Challenge.rw_tabgrow_k12_sheets_refused.prog) (w := w) (base := base) (mg := mg) T N a24.fn 
  have g25 := ok_text (P := PySem.Challenge.rw_tabgrow_k12_sheets_refused.prog) (w := w) (base := base) (mg := mg) T a25.fn (code_of a25) t25 m25 g24 a24.kp b24 a24.mg_
  have g27 := ok_isrow (P := PySem.Challenge.rw_tabgrow_k12_sheets_refused.prog) (w := w) (base := base) (mg := mg) T N a27.fn (code_of a27) t27 m27 g25 a25.kp b25 a25.mg_
  have g28 := ok_misfit (P := PySem.Challenge.rw_tabgrow_k12_sheets_refused.prog) (w := w) (base := base) (mg := mg) T N a28.fn g27 a27.kp b27 a27.mg_
  have g29 := ok_check (P := PySem.Challenge.rw_tabgrow_k12_sheets_refused.prog) (w := w) (base := base) (mg := mg) T a29.fn g28 a28.kp b28 a28.mg_
  have g23 := ok_whole (P := PySem.Challenge.rw_tabgrow_k12_sheets_refused.prog) (w := w) (base := base) (mg := mg) T a23.fn 
  have g31 := ok_cstyle (P := PySem.Challenge.rw_tabgrow_k12_sheets_refused.prog) (w := w) (base := base) (mg := mg) T N a31.fn g23 a23.kp b23 a23.mg_
  have g35 := ok_closed (P := PySem.Challenge.rw_tabgrow_k12_sheets_refused.prog) (w := w) (base := base) (mg := mg) T a35.fn 
  have g34 := ok_runs (P := PySem.Challenge.rw_tabgrow_k12_sheets_refused.prog) (w := w) (base := base) (mg := mg) (cs := tfB.map (He.cT K)) T a34.fn g35 a35.kp b35 a35.mg_
  have g38 := ok_isfig (P := PySem.Challenge.rw_tabgrow_k12_sheets_refused.prog) (w := w) (base := base) (mg := mg)  a38.fn 
  have g37 := ok_right (P := PySem.Challenge.rw_tabgrow_k12_sheets_refused.prog) (w := w) (base := base) (mg := mg) T a37.fn (code_of a37) t37 m37 g38 a38.kp b38 a38.mg_
  have g36 := ok_desc (P := PySem.Challenge.rw_tabgrow_k12_sheets_refused.prog) (w := w) (base := base) (mg := mg) T a36.fn (code_of a36) t36 m36 g37 a37.kp b37 a37.mg_
  have g33 := ok_str (P := PySem.Challenge.rw_tabgrow_k12_sheets_refused.prog) (w := w) (base := base) (mg := mg) T a33.fn (code_of a33) t33 m33 g29 a29.kp b29 a29.mg_ g31 a31.kp b31 a31.mg_ g34 a34.kp b34 a34.mg_ g36 a36.kp b36 a36.mg_
  have g41 := ok_cc (P := PySem.Challenge.rw_tabgrow_k12_sheets_refused.prog) (w := w) (base := base) (mg := mg) T a41.fn g33 a33.kp b33 a33.mg_
  have g42 := ok_le (P := PySem.Challenge.rw_tabgrow_k12_sheets_refused.prog) (w := w) (base := base) (mg := mg)  a42.fn 
  have g43 := ok_bo (P := PySem.Challenge.rw_tabgrow_k12_sheets_refused.prog) (w := w) (base := base) (mg := mg) T a43.fn g42 a42.kp b42 a42.mg_
  have g40 := ok_laid (P := PySem.Challenge.rw_tabgrow_k12_sheets_refused.prog) (w := w) (base := base) (mg := mg) hz a40.fn g41 a41.kp b41 a41.mg_ g43 a43.kp b43 a43.mg_
  have g30 := TGK.ok_crow (P := PySem.Challenge.rw_tabgrow_k12_sheets_refused.prog) (w := w) (base := base) (mg := mg)  a30.fn g27 a27.kp b27 a27.mg_
  have g24_2 := TGK.ok_sg2 (P := PySem.Challenge.rw_tabgrow_k12_sheets_refused.prog) (w := w) (base := base) (mg := mg) T N a24.fn 
  have g25_2 := TGK.ok_text2 (P := PySem.Challenge.rw_tabgrow_k12_sheets_refused.prog) (w := w) (base := base) (mg := mg) T a25.fn (code_of a25) t25 m25 g24_2 a24.kp b24 a24.mg_
  have g27_N := TGK.ok_rowN (P := PySem.Challenge.rw_tabgrow_k12_sheets_refused.prog) (w := w) (base := base) (mg := mg) T N a27.fn (code_of a27) t27 m27 g25_2 a25.kp b25 a25.mg_
  have g30_X := TGK.ok_crowX (P := PySem.Challenge.rw_tabgrow_k12_sheets_refused.prog) (w := w) (base := base) (mg := mg) Es a30.fn g27_N a27.kp b27 a27.mg_
  have g23_B := TGK.ok_wholeB (P := PySem.Challenge.rw_tabgrow_k12_sheets_refused.prog) (w := w) (base := base) (mg := mg) T a23.fn 
  have g46_0 := TGK.ok_num0 (P := PySem.Challenge.rw_tabgrow_k12_sheets_refused.prog) (w := w) (base := base) (mg := mg)  a46.fn g23_B a23.kp b23 a23.mg_
  have g23_N := TGK.ok_wholeN (P := PySem.Challenge.rw_tabgrow_k12_sheets_refused.prog) (w := w) (base := base) (mg := mg) T a23.fn 
  have g46_N := TGK.ok_numN (P := PySem.Challenge.rw_tabgrow_k12_sheets_refused.prog) (w := w) (base := base) (mg := mg) Es a46.fn g23_N a23.kp b23 a23.mg_
  have g46 := TGK.ok_num (P := PySem.Challenge.rw_tabgrow_k12_sheets_refused.prog) (w := w) (base := base) (mg := mg) Es a46.fn g23_B a23.kp b23 a23.mg_
  have g26 := TGK.ok_filled (P := PySem.Challenge.rw_tabgrow_k12_sheets_refused.prog) (w := w) (base := base) (mg := mg)  a26.fn g25 a25.kp b25 a25.mg_
  have g47 := TGK.ok_csign (P := PySem.Challenge.rw_tabgrow_k12_sheets_refused.prog) (w := w) (base := base) (mg := mg) eT a47.fn g26 a26.kp b26 a26.mg_
  have g26_H := TGK.ok_filledH (P := PySem.Challenge.rw_tabgrow_k12_sheets_refused.prog) (w := w) (base := base) (mg := mg) (cs := tfB.map (He.cT K))  a26.fn g25_2 a25.kp b25 a25.mg_
  have g47_H := TGK.ok_csignH (P := PySem.Challenge.rw_tabgrow_k12_sheets_refused.prog) (w := w) (base := base) (mg := mg) (cs := tfB.map (He.cT K)) eT Es a47.fn g26_H a26.kp b26 a26.mg_
  have g27_B := TGK.ok_rowB (P := PySem.Challenge.rw_tabgrow_k12_sheets_refused.prog) (w := w) (base := base) (mg := mg) T N a27.fn (code_of a27) t27 m27 g25_2 a25.kp b25 a25.mg_
  have g48 := TGK.ok_fits (P := PySem.Challenge.rw_tabgrow_k12_sheets_refused.prog) (w := w) (base := base) (mg := mg) N Es a48.fn g27_B a27.kp b27 a27.mg_
  have g49 := TGK.ok_half (P := PySem.Challenge.rw_tabgrow_k12_sheets_refused.prog) (w := w) (base := base) (mg := mg) T a49.fn g46_0 a46.kp b46 a46.mg_ g23 a23.kp b23 a23.mg_
  have g49_X := TGK.ok_halfX (P := PySem.Challenge.rw_tabgrow_k12_sheets_refused.prog) (w := w) (base := base) (mg := mg) T Es a49.fn g46_0 g46_N a46.kp b46 a46.mg_ g23 g23_N a23.kp b23 a23.mg_
  have g50 := TGK.ok_join (P := PySem.Challenge.rw_tabgrow_k12_sheets_refused.prog) (w := w) (base := base) (mg := mg)  a50.fn 
  have g51 := TGK.ok_less (P := PySem.Challenge.rw_tabgrow_k12_sheets_refused.prog) (w := w) (base := base) (mg := mg) T Es a51.fn 
  have g52 := TGK.ok_mov (P := PySem.Challenge.rw_tabgrow_k12_sheets_refused.prog) (w := w) (base := base) (mg := mg) T hz a52.fn 
  have s_page := TGK.ok_shpage (P := PySem.Challenge.rw_tabgrow_k12_sheets_refused.prog) (w := w) (base := base) (mg := mg) T Xc a_Sheet_page
  have s_begins := TGK.ok_shbegins (P := PySem.Challenge.rw_tabgrow_k12_sheets_refused.prog) (w := w) (base := base) (mg := mg) (cs := tfB.map (He.cT K)) Xc a_Sheet_begins g40 a40.kp b40 a40.mg_
  have s_init := TGK.ok_shinit (P := PySem.Challenge.rw_tabgrow_k12_sheets_refused.prog) (w := w) (base := base) (mg := mg) (cs := tfB.map (He.cT K)) T Xc a_Sheet_init g29 a29.kp b29 a29.mg_ g31 a31.kp b31 a31.mg_
  have s_lay := TGK.ok_lay (P := PySem.Challenge.rw_tabgrow_k12_sheets_refused.prog) (w := w) (base := base) (mg := mg) (cs := tfB.map (He.cT K)) T Xc a_Sheet_lay g48 a48.kp b48 a48.mg_ m_Sheet_begins s_begins b_Sheet_begins g52 a52.kp b52 a52.mg_
  have s_back := TGK.ok_backD (P := PySem.Challenge.rw_tabgrow_k12_sheets_refused.prog) (w := w) (base := base) (mg := mg) (cs := tfB.map (He.cT K)) T Xc a_Sheet_back
  have s_put := TGK.ok_put (P := PySem.Challenge.rw_tabgrow_k12_sheets_refused.prog) (w := w) (base := base) (mg := mg) (cs := tfB.map (He.cT K)) T Xc a_Sheet_put g46_0 a46.kp b46 a46.mg_ g30 a30.kp b30 a30.mg_ m_Sheet_lay s_lay b_Sheet_lay
  have s_putX := TGK.ok_putX (P := PySem.Challenge.rw_tabgrow_k12_sheets_refused.prog) (w := w) (base := base) (mg := mg) (cs := tfB.map (He.cT K)) T Xc a_Sheet_put g46_0 g46_N a46.kp b46 a46.mg_ g30_X a30.kp b30 a30.mg_ m_Sheet_lay s_lay b_Sheet_lay
  have s_changeX := TGK.ok_changeX (P := PySem.Challenge.rw_tabgrow_k12_sheets_refused.prog) (w := w) (base := base) (mg := mg) (cs := tfB.map (He.cT K)) T Xc a_Sheet_change g46_0 g46_N a46.kp b46 a46.mg_ g30_X a30.kp b30 a30.mg_ m_Sheet_lay s_lay b_Sheet_lay
  have s_takeD := TGK.ok_takeD (P := PySem.Challenge.rw_tabgrow_k12_sheets_refused.prog) (w := w) (base := base) (mg := mg) (cs := tfB.map (He.cT K)) T Xc a_Sheet_take g46_0 a46.kp b46 a46.mg_ m_Sheet_lay s_lay b_Sheet_lay
  have s_takeX := TGK.ok_takeX (P := PySem.Challenge.rw_tabgrow_k12_sheets_refused.prog) (w := w) (base := base) (mg := mg) (cs := tfB.map (He.cT K)) T Xc a_Sheet_take g46_N a46.kp b46 a46.mg_ m_Sheet_lay s_lay b_Sheet_lay
  have s_strike := TGK.ok_strike (P := PySem.Challenge.rw_tabgrow_k12_sheets_refused.prog) (w := w) (base := base) (mg := mg) (cs := tfB.map (He.cT K)) eT Xc a_Sheet_strike g49 a49.kp b49 a49.mg_ g47 a47.kp b47 a47.mg_ g50 a50.kp b50 a50.mg_ m_Sheet_lay s_lay b_Sheet_lay
  have s_strikeG := TGK.ok_strikeG (P := PySem.Challenge.rw_tabgrow_k12_sheets_refused.prog) (w := w) (base := base) (mg := mg) (cs := tfB.map (He.cT K)) Xc a_Sheet_strike g49 a49.kp b49 a49.mg_ g47_H a47.kp b47 a47.mg_
  have s_erase := TGK.ok_erase (P := PySem.Challenge.rw_tabgrow_k12_sheets_refused.prog) (w := w) (base := base) (mg := mg) (cs := tfB.map (He.cT K)) Xc a_Sheet_erase g49 a49.kp b49 a49.mg_ g51 a51.kp b51 a51.mg_ g50 a50.kp b50 a50.mg_ m_Sheet_lay s_lay b_Sheet_lay
  have s_part := TGK.ok_part (P := PySem.Challenge.rw_tabgrow_k12_sheets_refused.prog) (w := w) (base := base) (mg := mg) (cs := tfB.map (He.cT K)) Xc a_Sheet_part g49 a49.kp b49 a49.mg_ m_Sheet_lay s_lay b_Sheet_lay
  have s_unite := TGK.ok_unite (P := PySem.Challenge.rw_tabgrow_k12_sheets_refused.prog) (w := w) (base := base) (mg := mg) (cs := tfB.map (He.cT K)) T Xc a_Sheet_unite g46 a46.kp b46 a46.mg_ g50 a50.kp b50 a50.mg_ m_Sheet_lay s_lay b_Sheet_lay
  have s_uniteH := TGK.ok_uniteH (P := PySem.Challenge.rw_tabgrow_k12_sheets_refused.prog) (w := w) (base := base) (mg := mg) (cs := tfB.map (He.cT K)) T Xc a_Sheet_unite g46_N a46.kp b46 a46.mg_
  have s_strikeHR := TGK.ok_strikeH (P := PySem.Challenge.rw_tabgrow_k12_sheets_refused.prog) (w := w) (base := base) (mg := mg) (cs := tfB.map (He.cT K)) (c := He.ga K "BadRow") Xc a_Sheet_strike g49_X a49.kp b49 a49.mg_
  have s_eraseHR := TGK.ok_eraseH (P := PySem.Challenge.rw_tabgrow_k12_sheets_refused.prog) (w := w) (base := base) (mg := mg) (cs := tfB.map (He.cT K)) (c := He.ga K "BadRow") Xc a_Sheet_erase g49_X a49.kp b49 a49.mg_
  have s_partHR := TGK.ok_partH (P := PySem.Challenge.rw_tabgrow_k12_sheets_refused.prog) (w := w) (base := base) (mg := mg) (cs := tfB.map (He.cT K)) (c := He.ga K "BadRow") Xc a_Sheet_part g49_X a49.kp b49 a49.mg_
  have s_strikeHC := TGK.ok_strikeH (P := PySem.Challenge.rw_tabgrow_k12_sheets_refused.prog) (w := w) (base := base) (mg := mg) (cs := tfB.map (He.cT K)) (c := He.ga K "BadCell") Xc a_Sheet_strike g49_X a49.kp b49 a49.mg_
  have s_eraseHC := TGK.ok_eraseH (P := PySem.Challenge.rw_tabgrow_k12_sheets_refused.prog) (w := w) (base := base) (mg := mg) (cs := tfB.map (He.cT K)) (c := He.ga K "BadCell") Xc a_Sheet_erase g49_X a49.kp b49 a49.mg_
  have s_partHC := TGK.ok_partH (P := PySem.Challenge.rw_tabgrow_k12_sheets_refused.prog) (w := w) (base := base) (mg := mg) (cs := tfB.map (He.cT K)) (c := He.ga K "BadCell") Xc a_Sheet_part g49_X a49.kp b49 a49.mg_
  have neT : TGK.Tbs (tfB.map (He.cT K)) [((He.cT K ("_law_numbers", none)).2, TGK.qN), ((He.cT K ("_law_places", none)).2, TGK.qP), ((He.cT K ("_law_row_full", none)).2, TGK.qF), ((He.cT K ("law", none)).2, TGK.qS)] := TGK.tbs4 ne0 ne1 ne2 ne nn10 nn20 nn30 nn21 nn31 nn32
  have g66 := TGK.ok_nums (P := PySem.Challenge.rw_tabgrow_k12_sheets_refused.prog) (w := w) (base := base) (mg := mg) T Xc neT (.head _) rfl a66.fn (code_of a66) (TB _ (memL (r := ("_law_numbers", none)) (by simp [lmL]))) g55_W a55.kp b55 a55.mg_ m_Sheet_put s_putX b_Sheet_put m_Sheet_take s_takeX b_Sheet_take m_Sheet_change s_changeX b_Sheet_change m_Sheet_strike s_strikeHR b_Sheet_strike m_Sheet_erase s_eraseHR b_Sheet_erase m_Sheet_part s_partHR b_Sheet_part m_Sheet_unite s_uniteH b_Sheet_unite
  have g67 := TGK.ok_plas (P := PySem.Challenge.rw_tabgrow_k12_sheets_refused.prog) (w := w) (base := base) (mg := mg) T Xc neT (.tail _ (.head _)) rfl a67.fn (code_of a67) (TB _ (memL (r := ("_law_places", none)) (by simp [lmL]))) g55_W a55.kp b55 a55.mg_ m_Sheet_strike s_strikeHC b_Sheet_strike m_Sheet_erase s_eraseHC b_Sheet_erase m_Sheet_part s_partHC b_Sheet_part s_strikeG
  have g68 := TGK.ok_full (P := PySem.Challenge.rw_tabgrow_k12_sheets_refused.prog) (w := w) (base := base) (mg := mg) T Xc neT (.tail _ (.tail _ (.head _))) rfl a68.fn (code_of a68) (TB _ (memL (r := ("_law_row_full", none)) (by simp [lmL]))) g55_W a55.kp b55 a55.mg_ g58 a58.kp b58 a58.mg_ m_Sheet_strike s_strike b_Sheet_strike m_Sheet_erase s_erase b_Sheet_erase m_Sheet_unite s_unite b_Sheet_unite
  exact TGK.ok_law (P := PySem.Challenge.rw_tabgrow_k12_sheets_refused.prog) (w := w) (base := base) (mg := mg) T Xc rfl neT rfl a69.fn (code_of a69) (TB _ (memL (r := ("law", none)) (by simp [lmL]))) g54 a54.kp b54 a54.mg_ g55_W a55.kp b55 a55.mg_ g62 a62.kp b62 a62.mg_ g63 a63.kp b63 a63.mg_ g66 a66.kp b66 a66.mg_ g65 a65.kp b65 a65.mg_ g67 a67.kp b67 a67.mg_ g68 a68.kp b68 a68.mg_ g58 a58.kp b58 a58.mg_ mk_Sheet s_init b_Sheet_init gS m_Sheet_page s_page b_Sheet_page m_Sheet_begins s_begins b_Sheet_begins m_Sheet_back s_back b_Sheet_back m_Sheet_put s_putX s_put b_Sheet_put m_Sheet_change s_changeX b_Sheet_change m_Sheet_part s_part b_Sheet_part m_Sheet_take s_takeD b_Sheet_take
end TG


open PySem PySem.W PySem.Calls PyProof.Rows
theorem PySem.Challenge.cw_tabgrow_k12_sheets_refused_holds : PySem.Challenge.rw_tabgrow_k12_sheets_refused.Holds := by
  w_on; o_law
  refine HandSHeadRun.head_any (r := OpenLaw.row PySem.Challenge.rw_tabgrow_k12_sheets_refused) (q := view (OpenLaw.row PySem.Challenge.rw_tabgrow_k12_sheets_refused).prog [69]) (H := TG.hdHk) (ob := TG.hdOb) (M := 9000) (loose := TG.looseL) (d := HandSHeadRun.topDef (OpenLaw.row PySem.Challenge.rw_tabgrow_k12_sheets_refused).prog 69) (kwd := []) TG.hdOb_eq
    (by kernel_rfl) (fun s => by kernel_rfl) TG.hdRun (by kernel_rfl) (by kernel_rfl) (by kernel_rfl) (by rfl) (by first | assumption | decide +kernel) (by decide +kernel) ⟨rfl, rfl, rfl, rfl, rfl, by decide +kernel⟩ ?hw ?hc
  case hw => w_witness2
  case hc =>
    refine LamX.walk_ofTsE (l := PySem.Challenge.rw_tabgrow_k12_sheets_refused) (n := 63) (k := 22) (x := "_law_script") (CX := fun _ => L2.CX0) rfl (by decide) (by kernel_rfl) ⟨rfl, by decide, by decide⟩ ?F (fun _ _ _ _ _ z => z)
    intro w mg fa h Y G hmg0
    obtain ⟨K, KX, c⟩ := Y
    have hmg : mg ("law" : PySem.Str) = some (.ref fa) := by
      have e : (HandSHeadRun.topDef (OpenLaw.row PySem.Challenge.rw_tabgrow_k12_sheets_refused).prog 69).name = ("law" : PySem.Str) := by kernel_rfl
      rw [← e]
      exact hmg0
    exact ⟨K, KX, TG.facts KX G hmg c⟩

